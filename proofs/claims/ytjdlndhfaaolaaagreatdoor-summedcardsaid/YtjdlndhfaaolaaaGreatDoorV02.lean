import Derived.Deep.Trees
import Derived.Test.YtjdlndhfaaolaaaGreatDoorV01
set_option maxHeartbeats 20000000
namespace Go.Proofs.YtjdlndhfaaolaaaGreatDoor
section
open Go.Deep (BT)
structure A6 where
 kd:Nat
 line:Nat
 s:List UInt8
 n:Int
 ps:List (Nat×List UInt8)
def nd(l:A6)(ch:BT A6):BT A6:=.node 0 0 l ch .nil
def Bu:BT A6->BT A6->BT A6
 | .nil,b=>b
 | .node x y l c r,b=>.node x y l c (Bu r b)
def Ax:BT A6->Nat
 | .nil=>0
 | .node _ _ _ _ r=>Ax r+1
def Jp:BT A6->A6
 | .nil=>⟨0,0,[],0,[]⟩
 | .node _ _ l _ _=>l
def Ug:BT A6->BT A6
 | .nil=>.nil
 | .node _ _ _ c _=>c
structure PS where
 ts:List Tk
 bad:Nat
def Ij:Tk:=⟨0,0,[],0⟩
def B6(s:PS):Tk:=s.ts.headD Ij
def kT(s:PS):Nat:=(B6 s).k
def Eg(s:PS):PS:=if s.bad=0 then⟨[Ij],(B6 s).line⟩ else s
def As(s:PS):PS:=if kT s=0 then s else⟨s.ts.tail,s.bad⟩
def Be(k:Nat)(s:PS):PS:=if kT s=k then As s else Eg s
def rowOf(k:Nat):Nat:=
 if k=40 then 1 else if k=39 then 2 else if k=27\/k=29 then 3 else if k=30\/k=31\/k=32\/k=33 then 4
 else if k=34\/k=35 then 5 else if k=36\/k=37\/k=38 then 6 else 0
def B7(kd line:Nat):A6:=⟨kd,line,[],0,[]⟩
def Lb:Nat->List (Nat×List UInt8)->PS->Option (List (Nat×List UInt8)×PS)
 | 0,_,_=>none
 | n+1,acc,s=>
  if kT (Be 1 s)=24 then Lb n (acc++[((B6 s).line,(B6 s).s)]) (As (Be 1 s))
  else some (acc++[((B6 s).line,(B6 s).s)],Be 19 (Be 1 s))
def params(n:Nat)(s:PS):Option (List (Nat×List UInt8)×PS):=if kT s=19 then some ([],As s) else Lb n [] s
def Qk(x:BT A6):Bool:=(Jp x).kd==6||(Jp x).kd==12
def setNode(x v:BT A6):BT A6:=
 if(Jp x).kd=6 then nd ⟨28,(Jp x).line,(Jp x).s,0,[]⟩ v else nd (B7 29 (Jp x).line) (Bu (Ug x) v)
def Ah:Nat->Nat->Nat->BT A6->PS->Option (BT A6×PS)
 | 0,_,_,_,_=>none
 | n+1,t,a,acc,s=>
  if t=0 then
   if a=6 then Ah n 2 0 .nil s
   else(Ah n 0 (a+1) .nil s).bind fun x=>Ah n 1 a x.1 x.2
  else if t=1 then
   if rowOf (kT s)=a+1 then(Ah n 0 (a+1) .nil (As s)).bind fun y=>Ah n 1 a (nd (B7 (100+kT s) (B6 s).line) (Bu acc y.1)) y.2
   else some (acc,s)
  else if t=2 then
   if kT s=28 then(Ah n 2 0 .nil (As s)).bind fun x=>some (nd (B7 13 (B6 s).line) x.1,x.2)
   else if kT s=35 then(Ah n 2 0 .nil (As s)).bind fun x=>some (nd (B7 14 (B6 s).line) x.1,x.2)
   else(Ah n 4 0 .nil s).bind fun x=>Ah n 3 0 x.1 x.2
  else if t=3 then
   if kT s=22 then(Ah n 0 0 .nil (As s)).bind fun y=>Ah n 3 0 (nd (B7 12 (B6 s).line) (Bu acc y.1)) (Be 23 y.2)
   else some (acc,s)
  else if t=4 then
   if kT s=2 then some (nd ⟨1,(B6 s).line,[],(B6 s).n,[]⟩ .nil,As s)
   else if kT s=3 then some (nd ⟨2,(B6 s).line,(B6 s).s,0,[]⟩ .nil,As s)
   else if kT s=13 then some (nd (B7 3 (B6 s).line) .nil,As s)
   else if kT s=14 then some (nd (B7 4 (B6 s).line) .nil,As s)
   else if kT s=15 then some (nd (B7 5 (B6 s).line) .nil,As s)
   else if kT s=1 then
    if kT (As s)=18 then(Ah n 5 19 .nil (As (As s))).bind fun l=>some (nd ⟨7,(B6 s).line,(B6 s).s,0,[]⟩ l.1,l.2)
    else some (nd ⟨6,(B6 s).line,(B6 s).s,0,[]⟩ .nil,As s)
   else if kT s=18 then(Ah n 0 0 .nil (As s)).bind fun x=>some (nd (B7 8 (B6 s).line) x.1,Be 19 x.2)
   else if kT s=22 then(Ah n 5 23 .nil (As s)).bind fun l=>some (nd (B7 9 (B6 s).line) l.1,l.2)
   else if kT s=16 then(Ah n 0 0 .nil (Be 18 (As s))).bind fun x=>some (nd (B7 10 (B6 s).line) x.1,Be 19 x.2)
   else if kT s=17 then(Ah n 0 0 .nil (Be 18 (As s))).bind fun x=>(Ah n 0 0 .nil (Be 24 x.2)).bind fun y=>some (nd (B7 11 (B6 s).line) (Bu x.1 y.1),Be 19 y.2)
   else some (.nil,Eg s)
  else if t=5 then
   if kT s=a then some (.nil,As s)
   else(Ah n 0 0 .nil s).bind fun x=>Ah n 6 a x.1 x.2
  else if t=6 then
   if kT s=24 then(Ah n 0 0 .nil (As s)).bind fun y=>Ah n 6 a (Bu acc y.1) y.2
   else some (acc,Be a s)
  else if t=7 then Ah n 8 0 .nil (Be 20 s)
  else if t=8 then
   if kT s=21 then some (acc,As s)
   else if s.bad≠0 then some (acc,s)
   else(Ah n 9 0 .nil s).bind fun x=>Ah n 8 0 (Bu acc x.1) x.2
  else if t=9 then
   if kT s=5 then(Ah n 0 0 .nil (Be 26 (Be 1 (As s)))).bind fun x=>some (nd ⟨21,(B6 (As s)).line,(B6 (As s)).s,0,[]⟩ x.1,Be 25 x.2)
   else if kT s=6 then(Ah n 0 0 .nil (As s)).bind fun x=>(Ah n 7 0 .nil x.2).bind fun b=>
    if kT b.2=7 then(Ah n 7 0 .nil (As b.2)).bind fun c=>some (nd (B7 22 (B6 s).line) (Bu x.1 (Bu (nd (B7 31 0) b.1) (nd (B7 31 0) c.1))),c.2)
    else some (nd (B7 22 (B6 s).line) (Bu x.1 (nd (B7 31 0) b.1)),b.2)
   else if kT s=8 then(Ah n 0 0 .nil (As s)).bind fun x=>(Ah n 7 0 .nil x.2).bind fun b=>some (nd (B7 23 (B6 s).line) (Bu x.1 (nd (B7 32 0) b.1)),b.2)
   else if kT s=9 then
    if kT (As s)=25 then some (nd (B7 24 (B6 s).line) .nil,Be 25 (As s))
    else(Ah n 0 0 .nil (As s)).bind fun x=>some (nd (B7 24 (B6 s).line) x.1,Be 25 x.2)
   else if kT s=10 then some (nd (B7 25 (B6 s).line) .nil,Be 25 (As s))
   else if kT s=11 then some (nd (B7 26 (B6 s).line) .nil,Be 25 (As s))
   else if kT s=12 then(Ah n 0 0 .nil (As s)).bind fun x=>some (nd (B7 27 (B6 s).line) x.1,Be 25 x.2)
   else(Ah n 0 0 .nil s).bind fun x=>
    if Qk x.1=true/\kT x.2=26 then(Ah n 0 0 .nil (As x.2)).bind fun v=>some (setNode x.1 v.1,Be 25 v.2)
    else if kT x.2=26 then(Ah n 0 0 .nil (Eg x.2)).bind fun v=>some (nd (B7 30 (Jp x.1).line) x.1,Be 25 v.2)
    else some (nd (B7 30 (Jp x.1).line) x.1,Be 25 x.2)
  else if t=10 then
   if kT s=0 then some (acc,s)
   else if kT s=4 then(Ah n 11 0 .nil s).bind fun x=>Ah n 10 0 (Bu acc x.1) x.2
   else(Ah n 9 0 .nil s).bind fun x=>Ah n 10 0 (Bu acc x.1) x.2
  else
   (params n (Be 18 (Be 1 (As s)))).bind fun p=>(Ah n 7 0 .nil p.2).bind fun b=>
    some (nd ⟨20,(B6 (As s)).line,(B6 (As s)).s,0,p.1⟩ b.1,b.2)
end
section
open Go.Deep (BT)
variable {n:Nat}{s:PS}{r:BT A6×PS}
theorem bind_some{α β:Type}{o:Option α}{f:α->Option β}{r:β}(h:o.bind f=some r):∃x,o=some x/\f x=some r:=by
 cases o with
 | none=>cases h
 | some x=>exact⟨x,rfl,h⟩
theorem Gf(t a:Nat)(acc:BT A6)(s:PS)(r:BT A6×PS):Ah 0 t a acc s≠some r:=by intro h;rw[Ah]at h;cases h
theorem Xw(h:Ah (n+1) 0 6 .nil s=some r):Ah n 2 0 .nil s=some r:=by
 rw[Ah,if_pos rfl,if_pos rfl]at h;exact h
theorem Xv{n a:Nat}{s:PS}{r:BT A6×PS}(ha:a≠6)(h:Ah (n+1) 0 a .nil s=some r):∃x,Ah n 0 (a+1) .nil s=some x/\Ah n 1 a x.1 x.2=some r:=by
 rw[Ah,if_pos rfl,if_neg ha]at h;exact bind_some h
theorem z4wa {P:Prop} (h:P:=by decide):P:=h
theorem A2q{n a:Nat}{acc:BT A6}{s:PS}{r:BT A6×PS}(hk:rowOf (kT s)=a+1)(h:Ah (n+1) 1 a acc s=some r) :
  ∃y,Ah n 0 (a+1) .nil (As s)=some y/\Ah n 1 a (nd (B7 (100+kT s) (B6 s).line) (Bu acc y.1)) y.2=some r:=by
 rw[Ah,if_neg z4wa,if_pos rfl,if_pos hk]at h;exact bind_some h
theorem A2p{n a:Nat}{acc:BT A6}{s:PS}{r:BT A6×PS}(hk:rowOf (kT s)≠a+1)(h:Ah (n+1) 1 a acc s=some r):r=(acc,s):=by
 rw[Ah,if_neg z4wa,if_pos rfl,if_neg hk]at h;cases h;rfl
theorem z13a {P:Prop} (h:P:=by
  obtain⟨x,h1,h2⟩:=bind_some h;exact⟨x,h1,(Option.some.inj h2).symm⟩):P:=h
theorem A2u(hk:kT s=28)(h:Ah (n+1) 2 0 .nil s=some r):∃x,Ah n 2 0 .nil (As s)=some x/\r=(nd (B7 13 (B6 s).line) x.1,x.2):=by
 rw[Ah,if_neg z4wa,if_neg z4wa,if_pos rfl,if_pos hk]at h;exact z13a
theorem A2t(hk:kT s=35)(h:Ah (n+1) 2 0 .nil s=some r):∃x,Ah n 2 0 .nil (As s)=some x/\r=(nd (B7 14 (B6 s).line) x.1,x.2):=by
 rw[Ah,if_neg z4wa,if_neg z4wa,if_pos rfl,if_neg z4va,if_pos hk]at h;exact z13a
theorem Xz(h1:kT s≠28)(h2:kT s≠35)(h:Ah (n+1) 2 0 .nil s=some r):∃x,Ah n 4 0 .nil s=some x/\Ah n 3 0 x.1 x.2=some r:=by
 rw[Ah,if_neg z4wa,if_neg z4wa,if_pos rfl,if_neg h1,if_neg h2]at h;exact bind_some h
theorem A2j{n:Nat}{acc:BT A6}{s:PS}{r:BT A6×PS}(hk:kT s=22)(h:Ah (n+1) 3 0 acc s=some r) :
  ∃y,Ah n 0 0 .nil (As s)=some y/\Ah n 3 0 (nd (B7 12 (B6 s).line) (Bu acc y.1)) (Be 23 y.2)=some r:=by
 rw[Ah,if_neg z4wa,if_neg z4wa,if_neg z4wa,if_pos rfl,if_pos hk]at h;exact bind_some h
theorem z1pa {P:Prop} (h:P:=by
  exact(Option.some.inj h).symm):P:=h
theorem A2k{n:Nat}{acc:BT A6}{s:PS}{r:BT A6×PS}(hk:kT s≠22)(h:Ah (n+1) 3 0 acc s=some r):r=(acc,s):=by
 rw[Ah,if_neg z4wa,if_neg z4wa,if_neg z4wa,if_pos rfl,if_neg hk]at h;exact z1pa
theorem A2o{n a:Nat}{s:PS}{r:BT A6×PS}(hk:kT s=a)(h:Ah (n+1) 5 a .nil s=some r):r=(.nil,As s):=by
 rw[Ah,if_neg z4wa,if_neg z4wa,if_neg z4wa,if_neg z4wa,if_neg z4wa,if_pos rfl,if_pos hk]at h;exact z1pa
theorem Xx{n a:Nat}{s:PS}{r:BT A6×PS}(hk:kT s≠a)(h:Ah (n+1) 5 a .nil s=some r):(Ah n 0 0 .nil s).bind (fun y=>Ah n 6 a (Bu .nil y.1) y.2)=some r:=by
 rw[Ah,if_neg z4wa,if_neg z4wa,if_neg z4wa,if_neg z4wa,if_neg z4wa,if_pos rfl,if_neg hk]at h;exact h
theorem A2r{n a:Nat}{acc:BT A6}{s:PS}{r:BT A6×PS}(hk:kT s=24)(h:Ah (n+1) 6 a acc s=some r):(Ah n 0 0 .nil (As s)).bind (fun y=>Ah n 6 a (Bu acc y.1) y.2)=some r:=by
 rw[Ah,if_neg z4wa,if_neg z4wa,if_neg z4wa,if_neg z4wa,if_neg z4wa,if_neg z4wa,if_pos rfl,if_pos hk]at h;exact h
theorem A2m{n a:Nat}{acc:BT A6}{s:PS}{r:BT A6×PS}(hk:kT s≠24)(h:Ah (n+1) 6 a acc s=some r):r=(acc,Be a s):=by
 rw[Ah,if_neg z4wa,if_neg z4wa,if_neg z4wa,if_neg z4wa,if_neg z4wa,if_neg z4wa,if_pos rfl,if_neg hk]at h;exact z1pa
theorem Ts{s:PS}(h:s.ts=[Ij]):kT s=0:=by unfold kT B6;rw[h];rfl
theorem Zn{s:PS}(h:s.bad≠0):Eg s=s:=by unfold Eg;rw[if_neg h]
theorem Zo{s:PS}(h:s.ts=[Ij]):As s=s:=by unfold As;rw[if_pos (Ts h)]
theorem W0{s:PS}(k:Nat)(h:s.ts=[Ij])(hb:s.bad≠0):Be k s=s:=by
 unfold Be;split
 ·exact Zo h
 ·exact Zn hb
theorem Ai1{s:PS}(h:s.ts=[Ij])(hb:s.bad≠0):∀n acc r,Lb n acc s=some r->r.2=s:=by
 intro n;induction n with
 | zero=>intro acc r hr;rw[Lb]at hr;cases hr
 | succ n ih=>
  intro acc r hr;rw[Lb,W0 1 h hb,if_neg (by rw[Ts h];decide)]at hr;have:=(Option.some.inj hr).symm;rw[this,W0 19 h hb]
theorem A2b{s:PS}(h:s.ts=[Ij])(hb:s.bad≠0)(n:Nat)(r:List (Nat×List UInt8)×PS)(hr:params n s=some r):r.2=s:=by
 unfold params at hr;rw[if_neg (by rw[Ts h];decide)]at hr;exact Ai1 h hb n [] r hr
theorem A95{α β:Type}{o:Option (α×PS)}{f:α×PS->Option (β×PS)}{s:PS}{r:β×PS}(h:o.bind f=some r)(h1:∀x,o=some x->x.2=s)(h2:∀x,o=some x->x.2=s->f x=some r->r.2=s):r.2=s:=by
 obtain⟨x,k1,k2⟩:=bind_some h;exact h2 x k1 (h1 x k1) k2
theorem z3la {P:Prop} (h:P:=by
  exact two hr (fun x hx hf=>by rw[hx]at hf;exact ih _ _ _ _ hf)):P:=h
theorem z50a {P:Prop} (h:P:=by simp):P:=h
theorem R1{s:PS}(h:s.ts=[Ij])(hb:s.bad≠0):∀n t a acc r,Ah n t a acc s=some r->r.2=s:=by
 intro n;have k0:kT s=0:=Ts h;have e1:=Zo h;have e2:=Zn hb;have e3:=fun k=>W0 k h hb;induction n with
 | zero=>intro t a acc r hr;rw[Ah]at hr;cases hr
 | succ n ih=>
  intro t a acc r hr;rw[Ah]at hr;simp only[k0,e1,e2,e3]at hr;have two:∀{t1 a1:Nat} {acc1:BT A6} {f:BT A6×PS->Option (BT A6×PS)},(Ah n t1 a1 acc1 s).bind f=some r->(∀x,x.2=s->f x=some r->r.2=s)->r.2=s:=
   fun hh hf=>A95 hh (fun x hx=>ih _ _ _ _ hx) (fun x _ hxs hfx=>hf x hxs hfx)
  have fin:∀{y:BT A6} {s':PS},some (y,s')=some r->s'=s->r.2=s:=fun hh he=>by cases hh;exact he
  by_cases t0:t=0
  ·rw[if_pos t0]at hr;by_cases a6:a=6
   ·rw[if_pos a6]at hr;exact ih _ _ _ _ hr
   ·rw[if_neg a6]at hr;exact z3la
  rw[if_neg t0]at hr;by_cases t1:t=1
  ·rw[if_pos t1,if_neg (by simp[rowOf])]at hr;exact fin hr rfl
  rw[if_neg t1]at hr;by_cases t2:t=2
  ·rw[if_pos t2,if_neg z4wa,if_neg z4wa]at hr;exact z3la
  rw[if_neg t2]at hr;by_cases t3:t=3
  ·rw[if_pos t3,if_neg z4wa]at hr;exact fin hr rfl
  rw[if_neg t3]at hr;by_cases t4:t=4
  ·rw[if_pos t4]at hr;iterate 10 (rw[if_neg z4wa]at hr)
   exact fin hr rfl
  rw[if_neg t4]at hr;by_cases t5:t=5
  ·rw[if_pos t5]at hr;by_cases ka:0=a
   ·rw[if_pos ka]at hr;exact fin hr rfl
   ·rw[if_neg ka]at hr;exact z3la
  rw[if_neg t5]at hr;by_cases t6:t=6
  ·rw[if_pos t6,if_neg z4wa]at hr;exact fin hr rfl
  rw[if_neg t6]at hr;by_cases t7:t=7
  ·rw[if_pos t7]at hr;exact ih _ _ _ _ hr
  rw[if_neg t7]at hr;by_cases t8:t=8
  ·rw[if_pos t8,if_neg z4wa,if_pos hb]at hr;exact fin hr rfl
  rw[if_neg t8]at hr;by_cases t9:t=9
  ·rw[if_pos t9]at hr;iterate 7 (rw[if_neg z4wa]at hr)
   refine two hr (fun x hx hf=>?_);rw[hx,k0,if_neg z50a,if_neg z4wa]at hf;exact fin hf (e3 25)
  rw[if_neg t9]at hr;by_cases t10:t=10
  ·rw[if_pos t10,if_pos trivial]at hr;exact fin hr rfl
  rw[if_neg t10]at hr;obtain⟨p,h1,h2⟩:=bind_some hr;have hp:=A2b h hb n p h1;rw[hp]at h2;exact two h2 (fun x hx hf=>fin hf hx)
theorem A2l(hk:kT s=2)(h:Ah (n+1) 4 0 .nil s=some r):r=(nd ⟨1,(B6 s).line,[],(B6 s).n,[]⟩ .nil,As s):=by
 rw[Ah,if_neg z4wa,if_neg z4wa,if_neg z4wa,if_neg z4wa,if_pos rfl,if_pos hk]at h;exact z1pa
theorem A35(hk:kT s=3)(h:Ah (n+1) 4 0 .nil s=some r):r=(nd ⟨2,(B6 s).line,(B6 s).s,0,[]⟩ .nil,As s):=by
 rw[Ah,if_neg z4wa,if_neg z4wa,if_neg z4wa,if_neg z4wa,if_pos rfl,if_neg z4va,if_pos hk]at h;exact z1pa
theorem A36(hk:kT s=13)(h:Ah (n+1) 4 0 .nil s=some r):r=(nd (B7 3 (B6 s).line) .nil,As s):=by
 rw[Ah,if_neg z4wa,if_neg z4wa,if_neg z4wa,if_neg z4wa,if_pos rfl,if_neg z4va,if_neg z4va,if_pos hk]at h;exact z1pa
theorem A2g(hk:kT s=14)(h:Ah (n+1) 4 0 .nil s=some r):r=(nd (B7 4 (B6 s).line) .nil,As s):=by
 rw[Ah,if_neg z4wa,if_neg z4wa,if_neg z4wa,if_neg z4wa,if_pos rfl,if_neg z4va,if_neg z4va,if_neg z4va,if_pos hk]at h;exact z1pa
theorem A2v(hk:kT s=15)(h:Ah (n+1) 4 0 .nil s=some r):r=(nd (B7 5 (B6 s).line) .nil,As s):=by
 rw[Ah,if_neg z4wa,if_neg z4wa,if_neg z4wa,if_neg z4wa,if_pos rfl,if_neg z4va,if_neg z4va,if_neg z4va,if_neg z4va,if_pos hk]at h;exact z1pa
theorem A2f(hk:kT s=1)(Ci:kT (As s)=18)(h:Ah (n+1) 4 0 .nil s=some r):∃l,Ah n 5 19 .nil (As (As s))=some l/\r=(nd ⟨7,(B6 s).line,(B6 s).s,0,[]⟩ l.1,l.2):=by
 rw[Ah,if_neg z4wa,if_neg z4wa,if_neg z4wa,if_neg z4wa,if_pos rfl,if_neg z4va,if_neg z4va,if_neg z4va,if_neg z4va,if_neg z4va,if_pos hk,if_pos Ci]at h;exact z13a
theorem A2s(hk:kT s=1)(Ci:kT (As s)≠18)(h:Ah (n+1) 4 0 .nil s=some r):r=(nd ⟨6,(B6 s).line,(B6 s).s,0,[]⟩ .nil,As s):=by
 rw[Ah,if_neg z4wa,if_neg z4wa,if_neg z4wa,if_neg z4wa,if_pos rfl,if_neg z4va,if_neg z4va,if_neg z4va,if_neg z4va,if_neg z4va,if_pos hk,if_neg Ci]at h;exact z1pa
theorem A2i(hk:kT s=18)(h:Ah (n+1) 4 0 .nil s=some r):∃x,Ah n 0 0 .nil (As s)=some x/\r=(nd (B7 8 (B6 s).line) x.1,Be 19 x.2):=by
 rw[Ah,if_neg z4wa,if_neg z4wa,if_neg z4wa,if_neg z4wa,if_pos rfl,if_neg z4va,if_neg z4va,if_neg z4va,if_neg z4va,if_neg z4va,if_neg z4va,if_pos hk]at h;exact z13a
theorem A2c(hk:kT s=22)(h:Ah (n+1) 4 0 .nil s=some r):∃l,Ah n 5 23 .nil (As s)=some l/\r=(nd (B7 9 (B6 s).line) l.1,l.2):=by
 rw[Ah,if_neg z4wa,if_neg z4wa,if_neg z4wa,if_neg z4wa,if_pos rfl,if_neg z4va,if_neg z4va,if_neg z4va,if_neg z4va,if_neg z4va,if_neg z4va,if_neg z4va,if_pos hk]at h;exact z13a
theorem A2n(hk:kT s=16)(h:Ah (n+1) 4 0 .nil s=some r):∃x,Ah n 0 0 .nil (Be 18 (As s))=some x/\r=(nd (B7 10 (B6 s).line) x.1,Be 19 x.2):=by
 rw[Ah,if_neg z4wa,if_neg z4wa,if_neg z4wa,if_neg z4wa,if_pos rfl,if_neg z4va,if_neg z4va,if_neg z4va,if_neg z4va,if_neg z4va,if_neg z4va,if_neg z4va,if_neg z4va,if_pos hk]at h;exact z13a
theorem A2w(hk:kT s=17)(h:Ah (n+1) 4 0 .nil s=some r):∃x y,Ah n 0 0 .nil (Be 18 (As s))=some x/\Ah n 0 0 .nil (Be 24 x.2)=some y/\r=(nd (B7 11 (B6 s).line) (Bu x.1 y.1),Be 19 y.2):=by
 rw[Ah,if_neg z4wa,if_neg z4wa,if_neg z4wa,if_neg z4wa,if_pos rfl,if_neg z4va,if_neg z4va,if_neg z4va,if_neg z4va,if_neg z4va,if_neg z4va,if_neg z4va,if_neg z4va,if_neg z4va,if_pos hk]at h;obtain⟨x,h1,h2⟩:=bind_some h;obtain⟨y,h3,h4⟩:=bind_some h2;exact⟨x,y,h1,h3,(Option.some.inj h4).symm⟩
theorem Xy(h1:kT s≠2)(h2:kT s≠3)(h3:kT s≠13)(h4:kT s≠14)(h5:kT s≠15)(h6:kT s≠1)(h7:kT s≠18)(h8:kT s≠22)(h9:kT s≠16)(h10:kT s≠17)(h:Ah (n+1) 4 0 .nil s=some r):r=(.nil,Eg s):=by
 rw[Ah,if_neg z4wa,if_neg z4wa,if_neg z4wa,if_neg z4wa,if_pos rfl,if_neg h1,if_neg h2,if_neg h3,if_neg h4,if_neg h5,if_neg h6,if_neg h7,if_neg h8,if_neg h9,if_neg h10]at h;exact z1pa
theorem A2e(h:Ah (n+1) 7 0 .nil s=some r):Ah n 8 0 .nil (Be 20 s)=some r:=by
 rw[Ah,if_neg z4wa,if_neg z4wa,if_neg z4wa,if_neg z4wa,if_neg z4wa,if_neg z4wa,if_neg z4wa,if_pos rfl]at h;exact h
theorem A2d{n:Nat}{acc:BT A6}{s:PS}{r:BT A6×PS}(hk:kT s=21)(h:Ah (n+1) 8 0 acc s=some r):r=(acc,As s):=by
 rw[Ah,if_neg z4wa,if_neg z4wa,if_neg z4wa,if_neg z4wa,if_neg z4wa,if_neg z4wa,if_neg z4wa,if_neg z4wa,if_pos rfl,if_pos hk]at h;exact z1pa
theorem Xu{n:Nat}{acc:BT A6}{s:PS}{r:BT A6×PS}(hk:kT s≠21)(hb:s.bad=0)(h:Ah (n+1) 8 0 acc s=some r):∃x,Ah n 9 0 .nil s=some x/\Ah n 8 0 (Bu acc x.1) x.2=some r:=by
 rw[Ah,if_neg z4wa,if_neg z4wa,if_neg z4wa,if_neg z4wa,if_neg z4wa,if_neg z4wa,if_neg z4wa,if_neg z4wa,if_pos rfl,if_neg hk,if_neg (by simpa using hb)]at h;exact bind_some h
theorem A30(hk:kT s=5)(h:Ah (n+1) 9 0 .nil s=some r):∃x,Ah n 0 0 .nil (Be 26 (Be 1 (As s)))=some x/\r=(nd ⟨21,(B6 (As s)).line,(B6 (As s)).s,0,[]⟩ x.1,Be 25 x.2):=by
 rw[Ah,if_neg z4wa,if_neg z4wa,if_neg z4wa,if_neg z4wa,if_neg z4wa,if_neg z4wa,if_neg z4wa,if_neg z4wa,if_neg z4wa,if_pos rfl,if_pos hk]at h;exact z13a
theorem A2z(hk:kT s=6)(h:Ah (n+1) 9 0 .nil s=some r):∃x bl,Ah n 0 0 .nil (As s)=some x/\Ah n 7 0 .nil x.2=some bl/\
  ((kT bl.2=7/\∃c,Ah n 7 0 .nil (As bl.2)=some c/\r=(nd (B7 22 (B6 s).line) (Bu x.1 (Bu (nd (B7 31 0) bl.1) (nd (B7 31 0) c.1))),c.2))\/(kT bl.2≠7/\r=(nd (B7 22 (B6 s).line) (Bu x.1 (nd (B7 31 0) bl.1)),bl.2))):=by
 rw[Ah,if_neg z4wa,if_neg z4wa,if_neg z4wa,if_neg z4wa,if_neg z4wa,if_neg z4wa,if_neg z4wa,if_neg z4wa,if_neg z4wa,if_pos rfl,if_neg z4va,if_pos hk]at h;obtain⟨x,h1,h2⟩:=bind_some h;obtain⟨bl,h3,h4⟩:=bind_some h2;refine⟨x,bl,h1,h3,?_⟩;by_cases h7:kT bl.2=7
 ·rw[if_pos h7]at h4;obtain⟨c,h5,h6⟩:=bind_some h4;exact .inl ⟨h7,c,h5,(Option.some.inj h6).symm⟩
 ·rw[if_neg h7]at h4;exact .inr ⟨h7,(Option.some.inj h4).symm⟩
theorem A34(hk:kT s=8)(h:Ah (n+1) 9 0 .nil s=some r):∃x bl,Ah n 0 0 .nil (As s)=some x/\Ah n 7 0 .nil x.2=some bl/\r=(nd (B7 23 (B6 s).line) (Bu x.1 (nd (B7 32 0) bl.1)),bl.2):=by
 rw[Ah,if_neg z4wa,if_neg z4wa,if_neg z4wa,if_neg z4wa,if_neg z4wa,if_neg z4wa,if_neg z4wa,if_neg z4wa,if_neg z4wa,if_pos rfl,if_neg z4va,if_neg z4va,if_pos hk]at h;obtain⟨x,h1,h2⟩:=bind_some h;obtain⟨bl,h3,h4⟩:=bind_some h2;exact⟨x,bl,h1,h3,(Option.some.inj h4).symm⟩
theorem A33(hk:kT s=9)(Ci:kT (As s)=25)(h:Ah (n+1) 9 0 .nil s=some r):r=(nd (B7 24 (B6 s).line) .nil,Be 25 (As s)):=by
 rw[Ah,if_neg z4wa,if_neg z4wa,if_neg z4wa,if_neg z4wa,if_neg z4wa,if_neg z4wa,if_neg z4wa,if_neg z4wa,if_neg z4wa,if_pos rfl,if_neg z4va,if_neg z4va,if_neg z4va,if_pos hk,if_pos Ci]at h;exact z1pa
theorem A32(hk:kT s=9)(Ci:kT (As s)≠25)(h:Ah (n+1) 9 0 .nil s=some r):∃x,Ah n 0 0 .nil (As s)=some x/\r=(nd (B7 24 (B6 s).line) x.1,Be 25 x.2):=by
 rw[Ah,if_neg z4wa,if_neg z4wa,if_neg z4wa,if_neg z4wa,if_neg z4wa,if_neg z4wa,if_neg z4wa,if_neg z4wa,if_neg z4wa,if_pos rfl,if_neg z4va,if_neg z4va,if_neg z4va,if_pos hk,if_neg Ci]at h;exact z13a
theorem A2x(hk:kT s=10)(h:Ah (n+1) 9 0 .nil s=some r):r=(nd (B7 25 (B6 s).line) .nil,Be 25 (As s)):=by
 rw[Ah,if_neg z4wa,if_neg z4wa,if_neg z4wa,if_neg z4wa,if_neg z4wa,if_neg z4wa,if_neg z4wa,if_neg z4wa,if_neg z4wa,if_pos rfl,if_neg z4va,if_neg z4va,if_neg z4va,if_neg z4va,if_pos hk]at h;exact z1pa
theorem A2y(hk:kT s=11)(h:Ah (n+1) 9 0 .nil s=some r):r=(nd (B7 26 (B6 s).line) .nil,Be 25 (As s)):=by
 rw[Ah,if_neg z4wa,if_neg z4wa,if_neg z4wa,if_neg z4wa,if_neg z4wa,if_neg z4wa,if_neg z4wa,if_neg z4wa,if_neg z4wa,if_pos rfl,if_neg z4va,if_neg z4va,if_neg z4va,if_neg z4va,if_neg z4va,if_pos hk]at h;exact z1pa
theorem A31(hk:kT s=12)(h:Ah (n+1) 9 0 .nil s=some r):∃x,Ah n 0 0 .nil (As s)=some x/\r=(nd (B7 27 (B6 s).line) x.1,Be 25 x.2):=by
 rw[Ah,if_neg z4wa,if_neg z4wa,if_neg z4wa,if_neg z4wa,if_neg z4wa,if_neg z4wa,if_neg z4wa,if_neg z4wa,if_neg z4wa,if_pos rfl,if_neg z4va,if_neg z4va,if_neg z4va,if_neg z4va,if_neg z4va,if_neg z4va,if_pos hk]at h;exact z13a
theorem Y0(hk:¬(5<=kT s/\kT s<=12/\kT s≠7))(h:Ah (n+1) 9 0 .nil s=some r):∃x,Ah n 0 0 .nil s=some x/\
  ((Qk x.1=true/\kT x.2=26/\∃v,Ah n 0 0 .nil (As x.2)=some v/\r=(setNode x.1 v.1,Be 25 v.2))\/(Qk x.1=false/\kT x.2=26/\∃v,Ah n 0 0 .nil (Eg x.2)=some v/\r=(nd (B7 30 (Jp x.1).line) x.1,Be 25 v.2))\/
   (kT x.2≠26/\r=(nd (B7 30 (Jp x.1).line) x.1,Be 25 x.2))):=by
 rw[Ah,if_neg z4wa,if_neg z4wa,if_neg z4wa,if_neg z4wa,if_neg z4wa,if_neg z4wa,if_neg z4wa,if_neg z4wa,if_neg z4wa,if_pos rfl,if_neg z4va,if_neg z4va,if_neg z4va,if_neg z4va,if_neg z4va,if_neg z4va,if_neg z4va]at h;obtain⟨x,h1,h2⟩:=bind_some h;refine⟨x,h1,?_⟩;by_cases h26:kT x.2=26
 ·cases hc:Qk x.1
  ·rw[if_neg (by rw[hc];simp),if_pos h26]at h2;obtain⟨v,h3,h4⟩:=bind_some h2;exact .inr (.inl ⟨rfl,h26,v,h3,(Option.some.inj h4).symm⟩)
  ·rw[if_pos ⟨hc,h26⟩]at h2;obtain⟨v,h3,h4⟩:=bind_some h2;exact .inl ⟨rfl,h26,v,h3,(Option.some.inj h4).symm⟩
 ·rw[if_neg (fun e=>h26 e.2),if_neg h26]at h2;exact .inr (.inr ⟨h26,(Option.some.inj h2).symm⟩)
end
section
open Go.Deep (BT)
theorem A2h{n:Nat}{s:PS}{r:BT A6×PS}(h:Ah (n+1) 11 0 .nil s=some r):∃p b,params n (Be 18 (Be 1 (As s)))=some p/\Ah n 7 0 .nil p.2=some b/\r=(nd ⟨20,(B6 (As s)).line,(B6 (As s)).s,0,p.1⟩ b.1,b.2):=by
 rw[Ah,if_neg z4wa,if_neg z4wa,if_neg z4wa,if_neg z4wa,if_neg z4wa,if_neg z4wa,if_neg z4wa,if_neg z4wa,if_neg z4wa,if_neg z4wa,if_neg z4wa]at h;obtain⟨p,h1,h2⟩:=bind_some h;obtain⟨b,h3,h4⟩:=bind_some h2;exact⟨p,b,h1,h3,(Option.some.inj h4).symm⟩
def nest:List Tk->Int->Nat
 | [],_=>0
 | t::r,o=>
  if t.k=18\/t.k=20\/t.k=22 then(if 30<=o then t.line else nest r (o+1))
  else if t.k=19\/t.k=21\/t.k=23 then nest r (o-1)
  else nest r o
abbrev Nm:=List UInt8
abbrev Ct:=Nat×Nat
def Ed(is:Bool)(code line:Nat)(f:Ct):Ct:=if is&&f.1==0 then(code,line) else f
def Pp:List (Nm×Nat)->Nm->Option Nat
 | [],_=>none
 | f::r,s=>if f.1=s then some f.2 else Pp r s
def Oj(fns:List (Nm×Nat))(s:Nm)(n:Nat):Bool:=match Pp fns s with
 | none=>true
 | some m=>m !=n
def Bt(fns:List (Nm×Nat)):BT A6->List Nm->List Nm->Nat->Bool->Ct->List Nm×Ct
 | .nil,_,cur,_,_,f=>(cur,f)
 | .node _ _ l ch sib,outer,cur,wh,inn,f=>
  if l.kd=31 then Bt fns sib outer cur wh inn (Bt fns ch (outer++cur) [] wh inn f).2
  else if l.kd=32 then Bt fns sib outer cur wh inn (Bt fns ch (outer++cur) [] (wh+1) inn f).2
  else if l.kd=21 then
   Bt fns sib outer ((Bt fns ch outer cur wh inn (Ed (decide (l.s∈cur)) 3 l.line f)).1++[l.s]) wh inn (Bt fns ch outer cur wh inn (Ed (decide (l.s∈cur)) 3 l.line f)).2
  else
   let f1:=if l.kd=6\/l.kd=28 then Ed (!decide (l.s∈outer++cur)) 3 l.line f
    else if l.kd=7 then Ed (Oj fns l.s (Ax ch)) 3 l.line f
    else if l.kd=25\/l.kd=26 then Ed (wh==0) 4 l.line f
    else if l.kd=24 then Ed (!inn) 4 l.line f
    else f
   Bt fns sib outer (Bt fns ch outer cur wh inn f1).1 wh inn (Bt fns ch outer cur wh inn f1).2
def J4:List (Nat×Nm)->List Nm->Ct->List Nm×Ct
 | [],cur,f=>(cur,f)
 | p::r,cur,f=>J4 r (cur++[p.2]) (Ed (decide (p.2∈cur)) 3 p.1 f)
def Et(fns:List (Nm×Nat)):BT A6->List Nm->List Nm->Ct->Ct
 | .nil,_,_,f=>f
 | .node x y l ch sib,seen,cur,f=>
  if l.kd=20 then
   let f1:=Ed (decide (l.s∈seen)) 3 l.line f
   let p:=J4 l.ps [] f1
   Et fns sib (seen++[l.s]) cur (Bt fns ch cur p.1 0 true p.2).2
  else Et fns sib seen (Bt fns (.node x y l ch .nil) [] cur 0 false f).1 (Bt fns (.node x y l ch .nil) [] cur 0 false f).2
def Cr:BT A6->List (Nm×Nat)
 | .nil=>[]
 | .node _ _ l _ sib=>if l.kd=20 then(l.s,l.ps.length)::Cr sib else Cr sib
theorem Aqi(is:Bool)(code line:Nat)(f:Ct)(h:f.1≠0):Ed is code line f=f:=by
 unfold Ed;rw[if_neg];simp[h]
theorem Akp(fns:List (Nm×Nat))(x y:Nat)(l:A6)(ch sib:BT A6)(outer cur:List Nm)(wh:Nat)(inn:Bool)(f:Ct) :
  Bt fns (.node x y l ch sib) outer cur wh inn f=Bt fns sib outer (Bt fns (.node x y l ch .nil) outer cur wh inn f).1 wh inn (Bt fns (.node x y l ch .nil) outer cur wh inn f).2:=by
 by_cases h1:l.kd=31
 ·simp only[Bt,if_pos h1]
 ·by_cases h2:l.kd=32
  ·simp only[Bt,if_neg h1,if_pos h2]
  ·by_cases h3:l.kd=21
   ·simp only[Bt,if_neg h1,if_neg h2,if_pos h3]
   ·simp only[Bt,if_neg h1,if_neg h2,if_neg h3]
def bsize:BT A6->Nat
 | .nil=>0
 | .node _ _ l c r=>1+l.ps.length+bsize c+bsize r
theorem Cj(l:A6)(c:BT A6):bsize (nd l c)=1+l.ps.length+bsize c:=by simp[nd,bsize]
theorem A3p(fns:List (Nm×Nat)):∀(f:BT A6) (outer cur:List Nm) (wh:Nat) (inn:Bool) (v:Ct),(Bt fns f outer cur wh inn v).1.length<=cur.length+bsize f:=by
 intro f;induction f with
 | nil=>intro outer cur wh inn v;simp[Bt,bsize]
 | node x y l c r Dr D8=>
  intro outer cur wh inn v;rw[bsize];by_cases h1:l.kd=31
  ·simp only[Bt,if_pos h1];exact Nat.le_trans (D8 _ _ _ _ _) z4va
  by_cases h2:l.kd=32
  ·simp only[Bt,if_neg h1,if_pos h2];exact Nat.le_trans (D8 _ _ _ _ _) z4va
  by_cases h3:l.kd=21
  ·simp only[Bt,if_neg h1,if_neg h2,if_pos h3];refine Nat.le_trans (D8 _ _ _ _ _) ?_;rw[List.length_append,List.length_singleton];have:=Dr outer cur wh inn (Ed (decide (l.s∈cur)) 3 l.line v);omega
  ·simp only[Bt,if_neg h1,if_neg h2,if_neg h3];refine Nat.le_trans (D8 _ _ _ _ _) ?_;exact Nat.le_trans (Nat.add_le_add_right (Dr _ _ _ _ _) _) z4va
theorem A1s{fns:List (Nm×Nat)}{s:Nm}{n:Nat}:s∈(fns.take n).map (·.1)↔∃j,∃h:j<fns.length,j<n/\fns[j].1=s:=by
 constructor
 ·intro h;obtain⟨p,hp,e⟩:=List.mem_map.mp h;obtain⟨j,hj,e2⟩:=List.getElem_of_mem hp;rw[List.length_take]at hj;refine⟨j,by omega,by omega,?_⟩;rw[List.getElem_take]at e2;rw[e2];exact e
 ·rintro⟨j,h,hj,e⟩;refine List.mem_map.mpr ⟨fns[j],?_,e⟩;have:(fns.take n)[j]'(by rw[List.length_take];omega)=fns[j]:=List.getElem_take;rw[←this];exact List.getElem_mem _
theorem Adk{fns:List (Nm×Nat)}{n:Nat}{p:Nm×Nat}{r:List (Nm×Nat)}(h:fns.drop n=p::r):∃hn:n<fns.length,fns[n]=p/\fns.drop (n+1)=r/\(fns.take (n+1)).map (·.1)=(fns.take n).map (·.1)++[p.1]:=by
 have hn:n<fns.length:=by
  apply Decidable.byContradiction;intro h2;rw[List.drop_eq_nil_of_le z4va]at h;cases h
 rw[List.drop_eq_getElem_cons hn]at h;injection h with h1 h2;refine⟨hn,h1,h2,?_⟩;rw[List.take_succ_eq_append_getElem hn,List.map_append,h1];rfl
theorem Akm(fns:List (Nm×Nat))(x y:Nat)(l:A6)(ch sib:BT A6)(seen cur:List Nm)(f:Ct)(h:l.kd=20):Et fns (.node x y l ch sib) seen cur f=Et fns sib (seen++[l.s]) cur (Bt fns ch cur (J4 l.ps [] (Ed (decide (l.s∈seen)) 3 l.line f)).1 0 true (J4 l.ps [] (Ed (decide (l.s∈seen)) 3 l.line f)).2).2:=by
 rw[Et,if_pos h]
theorem Ako(fns:List (Nm×Nat))(x y:Nat)(l:A6)(ch sib:BT A6)(seen cur:List Nm)(f:Ct)(h:l.kd≠20):Et fns (.node x y l ch sib) seen cur f=Et fns sib seen (Bt fns (.node x y l ch .nil) [] cur 0 false f).1 (Bt fns (.node x y l ch .nil) [] cur 0 false f).2:=by
 rw[Et,if_neg h]
theorem A0w(x y:Nat)(l:A6)(ch sib:BT A6)(h:l.kd=20):Cr (.node x y l ch sib)=(l.s,l.ps.length)::Cr sib:=by
 rw[Cr,if_pos h]
theorem A0x(x y:Nat)(l:A6)(ch sib:BT A6)(h:l.kd≠20):Cr (.node x y l ch sib)=Cr sib:=by
 rw[Cr,if_neg h]
theorem Xh{p:Prop}[Decidable p]{a b m:Nat}(ha:a<=m)(hb:b<=m):(if p then a else b)<=m:=by
 split
 ·exact ha
 ·exact hb
theorem z44a {P:Prop} (h:P:=by
  repeat refine Xh z4wa ?_
  exact Nat.zero_le _):P:=h
theorem Aqe(l:List UInt8):Lw l<=17:=by
 unfold Lw;exact z44a
theorem Alq(c d:UInt8):Kg c d<=40:=by
 unfold Kg;exact z44a
theorem A3w(c:UInt8):Ir c<=40:=by
 unfold Ir;exact z44a
theorem z2la {P:Prop} (h:P:=by
  split
  ·rename_i h1;rw[if_pos h1]at h;exact absurd rfl h
  ·rename_i h1;have:=A3w c;have h2:Ir c≠0:=fun e=>h1 (by rw[e];rfl);exact⟨by show 1<=Ir c;omega,this⟩):P:=h
theorem A3y(l:List UInt8)(h:(Gn l).2≠0):1<=(Gn l).1/\(Gn l).1<=40:=by
 unfold Gn at h ⊢;split
 ·exact absurd rfl h
 ·rename_i c;simp only at h;exact z2la
 ·rename_i c d r;simp only at h;split
  ·rename_i h1;have:=Alq c d;have h2:Kg c d≠0:=by simpa using h1
   exact⟨by show 1<=Kg c d;omega,this⟩
  ·rename_i h0;rw[if_neg h0]at h;exact z2la
theorem V6(c:UInt8)(r:List UInt8)(t:Tk)(n:Nat)(h:F5 (c::r)=some (t,n)):1<=t.k/\t.k<=40/\1<=n:=by
 rw[F5]at h;split at h
 ·rename_i hd;split at h
  ·injection h with h;injection h with h1 h2;subst h1 h2;refine⟨by simp,by simp,?_⟩;rw[List.takeWhile_cons,if_pos hd];simp
  ·cases h
 ·split at h
  ·rename_i hl;have hn:Ec c=true:=by unfold Ec;rw[hl];rfl
   split at h
   ·rename_i hw;injection h with h;injection h with h1 h2;subst h1 h2;have:=Aqe ((c::r).takeWhile Ec);have Fk:Lw ((c::r).takeWhile Ec)≠0:=by simpa using hw
    refine⟨by show 1<=Lw _;omega,by show Lw _<=40;omega,?_⟩;rw[List.takeWhile_cons,if_pos hn];simp
   ·split at h
    ·injection h with h;injection h with h1 h2;subst h1 h2;refine⟨by simp,by simp,?_⟩;rw[List.takeWhile_cons,if_pos hn];simp
    ·cases h
  ·split at h
   ·split at h
    ·injection h with h;injection h with h1 h2;subst h1 h2;exact⟨by simp,by simp,by omega⟩
    ·cases h
   ·split at h
    ·cases h
    ·rename_i h0;injection h with h;injection h with h1 h2;subst h1 h2;have hz:(Gn (c::r)).2≠0:=fun e=>h0 (by rw[e];rfl);exact⟨(A3y _ hz).1,(A3y _ hz).2,by omega⟩
def Jl(line:Nat)(m:Nat):List Tk->Prop
 | []=>False
 | x::r=>line<=x.line/\x.line<=line+m/\x.k<=40/\((x.k=0/\r=[])\/(x.k≠0/\Jl line m r))
theorem Jl.weak{a b m k:Nat}(h1:b<=a)(h2:a+m<=b+k):∀ts,Jl a m ts->Jl b k ts:=by
 intro ts;induction ts with
 | nil=>intro h;exact h
 | cons x r ih=>
  rintro⟨k1,k2,k3,k4⟩;refine⟨by omega,by omega,k3,?_⟩;rcases k4 with h|⟨h,h'⟩
  ·exact .inl h
  ·exact .inr ⟨h,ih h'⟩
def Ro(line m:Nat):Nat ⊕ List Tk->Prop
 | .inl n=>line<=n/\n<=line+m
 | .inr ts=>ts.length<=m+1/\Jl line m ts
theorem Ro.weak{a b m k:Nat}{x:Nat ⊕ List Tk}(h:Ro a m x)(h1:b<=a)(h2:a+m<=b+k)(h3:m<=k):Ro b k x:=by
 cases x with
 | inl n=>obtain⟨k1,k2⟩:=h;exact⟨by omega,by omega⟩
 | inr ts=>obtain⟨k1,k2⟩:=h;exact⟨by omega,Jl.weak h1 h2 _ k2⟩
theorem Ag1:∀(f:Nat) (l:List UInt8) (line:Nat) (said:Bool),Ro line l.length (lex f l line said):=by
 intro f;induction f with
 | zero=>intro l line said;rw[lex];exact⟨Nat.le_refl _,by omega⟩
 | succ f ih=>
  intro l line said;cases l with
  | nil=>rw[lex];exact⟨by simp,Nat.le_refl _,by simp,by simp,.inl ⟨rfl,rfl⟩⟩
  | cons c r=>
   rw[lex,List.length_cons];split
   ·exact(ih r (line+1) false).weak z4va z4va z4va
   ·split
    ·exact⟨Nat.le_refl _,by omega⟩
    ·split
     ·exact(ih r line _).weak z4va z4va z4va
     ·cases ht:F5 (c::r) with
      | none=>exact⟨Nat.le_refl _,by omega⟩
      | some p=>
       obtain⟨t,n⟩:=p;obtain⟨k1,k2,k3⟩:=V6 c r t n ht;have:=ih ((c::r).drop n) line false;have hl:((c::r).drop n).length<=r.length:=by rw[List.length_drop,List.length_cons];omega
       show Ro line (r.length+1) (match lex f ((c::r).drop n) line false with
        | .inl l=>.inl l
        | .inr ts=>.inr ({ t with line:=line }::ts))
       cases hx:lex f ((c::r).drop n) line false with
       | inl m=>rw[hx]at this;obtain⟨j1,j2⟩:=this;exact⟨by omega,by omega⟩
       | inr ts=>
        rw[hx]at this;obtain⟨j1,j2⟩:=this;exact⟨by rw[List.length_cons];omega,Nat.le_refl _,by show line<=_;omega,k2,.inr ⟨by show t.k≠0;omega,Jl.weak z4va z4va _ j2⟩⟩
theorem Jl.last{line m:Nat}:∀ts,Jl line m ts->∀i (h:i<ts.length),ts[i].k=0↔i+1=ts.length:=by
 intro ts;induction ts with
 | nil=>intro h;exact absurd h id
 | cons x r ih=>
  rintro⟨_,_,_,k4⟩ i hi;rcases k4 with⟨h,rfl⟩|⟨h,h2⟩
  ·simp only[List.length_cons,List.length_nil]at hi ⊢;obtain rfl:i=0:=by omega
   simp[h]
  ·cases i with
   | zero=>
    have:r≠[]:=by rintro rfl;exact h2
    have:0<r.length:=List.length_pos_iff.mpr this;simp only[List.getElem_cons_zero,List.length_cons];omega
   | succ i=>
    simp only[List.getElem_cons_succ,List.length_cons]at hi ⊢;have:=ih h2 i z4va;omega
theorem Jl.mem{line m:Nat}:∀ts,Jl line m ts->∀t∈ts,line<=t.line/\t.line<=line+m/\t.k<=40:=by
 intro ts;induction ts with
 | nil=>intro _ t ht;cases ht
 | cons x r ih=>
  rintro⟨k1,k2,k3,k4⟩ t ht;rcases List.mem_cons.mp ht with rfl|ht
  ·exact⟨k1,k2,k3⟩
  ·rcases k4 with⟨_,rfl⟩|⟨_,h2⟩
   ·cases ht
   ·exact ih h2 t ht
end
end Go.Proofs.YtjdlndhfaaolaaaGreatDoor
