import Derived.Deep.Trees
import Derived.Test.YtjdlndhfaaolaaaGreatDoorT01
set_option maxHeartbeats 20000000
namespace Go.Proofs.YtjdlndhfaaolaaaGreatDoor
section
open Go.Deep (BT)
structure A6 where
 kd:Nat
 line:Nat
 s:List UInt8
 n:Int
 ps:List (Nat×List UInt8)
def nd(l:A6)(ch:BT A6):BT A6:=.node 0 0 l ch .nil
def C4:BT A6->BT A6->BT A6
 | .nil,b=>b
 | .node x y l c r,b=>.node x y l c (C4 r b)
def Az:BT A6->Nat
 | .nil=>0
 | .node _ _ _ _ r=>Az r+1
def Jn:BT A6->A6
 | .nil=>⟨0,0,[],0,[]⟩
 | .node _ _ l _ _=>l
def X6:BT A6->BT A6
 | .nil=>.nil
 | .node _ _ _ c _=>c
structure PS where
 ts:List Tk
 bad:Nat
def Ig:Tk:=⟨0,0,[],0⟩
def B9(s:PS):Tk:=s.ts.headD Ig
def kT(s:PS):Nat:=(B9 s).k
def Eh(s:PS):PS:=if s.bad=0 then⟨[Ig],(B9 s).line⟩ else s
def At(s:PS):PS:=if kT s=0 then s else⟨s.ts.tail,s.bad⟩
def Bi(k:Nat)(s:PS):PS:=if kT s=k then At s else Eh s
def rowOf(k:Nat):Nat:=
 if k=40 then 1 else if k=39 then 2 else if k=27\/k=29 then 3 else if k=30\/k=31\/k=32\/k=33 then 4
 else if k=34\/k=35 then 5 else if k=36\/k=37\/k=38 then 6 else 0
def Bb(kd line:Nat):A6:=⟨kd,line,[],0,[]⟩
def Kz:Nat->List (Nat×List UInt8)->PS->Option (List (Nat×List UInt8)×PS)
 | 0,_,_=>none
 | n+1,acc,s=>
  if kT (Bi 1 s)=24 then Kz n (acc++[((B9 s).line,(B9 s).s)]) (At (Bi 1 s))
  else some (acc++[((B9 s).line,(B9 s).s)],Bi 19 (Bi 1 s))
def params(n:Nat)(s:PS):Option (List (Nat×List UInt8)×PS):=if kT s=19 then some ([],At s) else Kz n [] s
def Q3(x:BT A6):Bool:=(Jn x).kd==6||(Jn x).kd==12
def setNode(x v:BT A6):BT A6:=
 if(Jn x).kd=6 then nd ⟨28,(Jn x).line,(Jn x).s,0,[]⟩ v else nd (Bb 29 (Jn x).line) (C4 (X6 x) v)
def Ai:Nat->Nat->Nat->BT A6->PS->Option (BT A6×PS)
 | 0,_,_,_,_=>none
 | n+1,t,a,acc,s=>
  if t=0 then
   if a=6 then Ai n 2 0 .nil s
   else(Ai n 0 (a+1) .nil s).bind fun x=>Ai n 1 a x.1 x.2
  else if t=1 then
   if rowOf (kT s)=a+1 then(Ai n 0 (a+1) .nil (At s)).bind fun y=>Ai n 1 a (nd (Bb (100+kT s) (B9 s).line) (C4 acc y.1)) y.2
   else some (acc,s)
  else if t=2 then
   if kT s=28 then(Ai n 2 0 .nil (At s)).bind fun x=>some (nd (Bb 13 (B9 s).line) x.1,x.2)
   else if kT s=35 then(Ai n 2 0 .nil (At s)).bind fun x=>some (nd (Bb 14 (B9 s).line) x.1,x.2)
   else(Ai n 4 0 .nil s).bind fun x=>Ai n 3 0 x.1 x.2
  else if t=3 then
   if kT s=22 then(Ai n 0 0 .nil (At s)).bind fun y=>Ai n 3 0 (nd (Bb 12 (B9 s).line) (C4 acc y.1)) (Bi 23 y.2)
   else some (acc,s)
  else if t=4 then
   if kT s=2 then some (nd ⟨1,(B9 s).line,[],(B9 s).n,[]⟩ .nil,At s)
   else if kT s=3 then some (nd ⟨2,(B9 s).line,(B9 s).s,0,[]⟩ .nil,At s)
   else if kT s=13 then some (nd (Bb 3 (B9 s).line) .nil,At s)
   else if kT s=14 then some (nd (Bb 4 (B9 s).line) .nil,At s)
   else if kT s=15 then some (nd (Bb 5 (B9 s).line) .nil,At s)
   else if kT s=1 then
    if kT (At s)=18 then(Ai n 5 19 .nil (At (At s))).bind fun l=>some (nd ⟨7,(B9 s).line,(B9 s).s,0,[]⟩ l.1,l.2)
    else some (nd ⟨6,(B9 s).line,(B9 s).s,0,[]⟩ .nil,At s)
   else if kT s=18 then(Ai n 0 0 .nil (At s)).bind fun x=>some (nd (Bb 8 (B9 s).line) x.1,Bi 19 x.2)
   else if kT s=22 then(Ai n 5 23 .nil (At s)).bind fun l=>some (nd (Bb 9 (B9 s).line) l.1,l.2)
   else if kT s=16 then(Ai n 0 0 .nil (Bi 18 (At s))).bind fun x=>some (nd (Bb 10 (B9 s).line) x.1,Bi 19 x.2)
   else if kT s=17 then(Ai n 0 0 .nil (Bi 18 (At s))).bind fun x=>(Ai n 0 0 .nil (Bi 24 x.2)).bind fun y=>some (nd (Bb 11 (B9 s).line) (C4 x.1 y.1),Bi 19 y.2)
   else some (.nil,Eh s)
  else if t=5 then
   if kT s=a then some (.nil,At s)
   else(Ai n 0 0 .nil s).bind fun x=>Ai n 6 a x.1 x.2
  else if t=6 then
   if kT s=24 then(Ai n 0 0 .nil (At s)).bind fun y=>Ai n 6 a (C4 acc y.1) y.2
   else some (acc,Bi a s)
  else if t=7 then Ai n 8 0 .nil (Bi 20 s)
  else if t=8 then
   if kT s=21 then some (acc,At s)
   else if s.bad≠0 then some (acc,s)
   else(Ai n 9 0 .nil s).bind fun x=>Ai n 8 0 (C4 acc x.1) x.2
  else if t=9 then
   if kT s=5 then(Ai n 0 0 .nil (Bi 26 (Bi 1 (At s)))).bind fun x=>some (nd ⟨21,(B9 (At s)).line,(B9 (At s)).s,0,[]⟩ x.1,Bi 25 x.2)
   else if kT s=6 then(Ai n 0 0 .nil (At s)).bind fun x=>(Ai n 7 0 .nil x.2).bind fun b=>
    if kT b.2=7 then(Ai n 7 0 .nil (At b.2)).bind fun c=>some (nd (Bb 22 (B9 s).line) (C4 x.1 (C4 (nd (Bb 31 0) b.1) (nd (Bb 31 0) c.1))),c.2)
    else some (nd (Bb 22 (B9 s).line) (C4 x.1 (nd (Bb 31 0) b.1)),b.2)
   else if kT s=8 then(Ai n 0 0 .nil (At s)).bind fun x=>(Ai n 7 0 .nil x.2).bind fun b=>some (nd (Bb 23 (B9 s).line) (C4 x.1 (nd (Bb 32 0) b.1)),b.2)
   else if kT s=9 then
    if kT (At s)=25 then some (nd (Bb 24 (B9 s).line) .nil,Bi 25 (At s))
    else(Ai n 0 0 .nil (At s)).bind fun x=>some (nd (Bb 24 (B9 s).line) x.1,Bi 25 x.2)
   else if kT s=10 then some (nd (Bb 25 (B9 s).line) .nil,Bi 25 (At s))
   else if kT s=11 then some (nd (Bb 26 (B9 s).line) .nil,Bi 25 (At s))
   else if kT s=12 then(Ai n 0 0 .nil (At s)).bind fun x=>some (nd (Bb 27 (B9 s).line) x.1,Bi 25 x.2)
   else(Ai n 0 0 .nil s).bind fun x=>
    if Q3 x.1=true/\kT x.2=26 then(Ai n 0 0 .nil (At x.2)).bind fun v=>some (setNode x.1 v.1,Bi 25 v.2)
    else if kT x.2=26 then(Ai n 0 0 .nil (Eh x.2)).bind fun v=>some (nd (Bb 30 (Jn x.1).line) x.1,Bi 25 v.2)
    else some (nd (Bb 30 (Jn x.1).line) x.1,Bi 25 x.2)
  else if t=10 then
   if kT s=0 then some (acc,s)
   else if kT s=4 then(Ai n 11 0 .nil s).bind fun x=>Ai n 10 0 (C4 acc x.1) x.2
   else(Ai n 9 0 .nil s).bind fun x=>Ai n 10 0 (C4 acc x.1) x.2
  else
   (params n (Bi 18 (Bi 1 (At s)))).bind fun p=>(Ai n 7 0 .nil p.2).bind fun b=>
    some (nd ⟨20,(B9 (At s)).line,(B9 (At s)).s,0,p.1⟩ b.1,b.2)
end
section
open Go.Deep (BT)
variable {n:Nat}{s:PS}{r:BT A6×PS}
theorem bind_some{α β:Type}{o:Option α}{f:α->Option β}{r:β}(h:o.bind f=some r):∃x,o=some x/\f x=some r:=by
 cases o with
 | none=>cases h
 | some x=>exact⟨x,rfl,h⟩
theorem Gg(t a:Nat)(acc:BT A6)(s:PS)(r:BT A6×PS):Ai 0 t a acc s≠some r:=by intro h;rw[Ai]at h;cases h
theorem Xk(h:Ai (n+1) 0 6 .nil s=some r):Ai n 2 0 .nil s=some r:=by
 rw[Ai,if_pos rfl,if_pos rfl]at h;exact h
theorem Xj{n a:Nat}{s:PS}{r:BT A6×PS}(ha:a≠6)(h:Ai (n+1) 0 a .nil s=some r):∃x,Ai n 0 (a+1) .nil s=some x/\Ai n 1 a x.1 x.2=some r:=by
 rw[Ai,if_pos rfl,if_neg ha]at h;exact bind_some h
theorem z52a {P:Prop} (h:P:=by decide):P:=h
theorem A2g{n a:Nat}{acc:BT A6}{s:PS}{r:BT A6×PS}(hk:rowOf (kT s)=a+1)(h:Ai (n+1) 1 a acc s=some r) :
  ∃y,Ai n 0 (a+1) .nil (At s)=some y/\Ai n 1 a (nd (Bb (100+kT s) (B9 s).line) (C4 acc y.1)) y.2=some r:=by
 rw[Ai,if_neg z52a,if_pos rfl,if_pos hk]at h;exact bind_some h
theorem A2f{n a:Nat}{acc:BT A6}{s:PS}{r:BT A6×PS}(hk:rowOf (kT s)≠a+1)(h:Ai (n+1) 1 a acc s=some r):r=(acc,s):=by
 rw[Ai,if_neg z52a,if_pos rfl,if_neg hk]at h;cases h;rfl
theorem z16a {P:Prop} (h:P:=by
  obtain⟨x,h1,h2⟩:=bind_some h;exact⟨x,h1,(Option.some.inj h2).symm⟩):P:=h
theorem A2k(hk:kT s=28)(h:Ai (n+1) 2 0 .nil s=some r):∃x,Ai n 2 0 .nil (At s)=some x/\r=(nd (Bb 13 (B9 s).line) x.1,x.2):=by
 rw[Ai,if_neg z52a,if_neg z52a,if_pos rfl,if_pos hk]at h;exact z16a
theorem A2j(hk:kT s=35)(h:Ai (n+1) 2 0 .nil s=some r):∃x,Ai n 2 0 .nil (At s)=some x/\r=(nd (Bb 14 (B9 s).line) x.1,x.2):=by
 rw[Ai,if_neg z52a,if_neg z52a,if_pos rfl,if_neg z51a,if_pos hk]at h;exact z16a
theorem Xn(h1:kT s≠28)(h2:kT s≠35)(h:Ai (n+1) 2 0 .nil s=some r):∃x,Ai n 4 0 .nil s=some x/\Ai n 3 0 x.1 x.2=some r:=by
 rw[Ai,if_neg z52a,if_neg z52a,if_pos rfl,if_neg h1,if_neg h2]at h;exact bind_some h
theorem A29{n:Nat}{acc:BT A6}{s:PS}{r:BT A6×PS}(hk:kT s=22)(h:Ai (n+1) 3 0 acc s=some r) :
  ∃y,Ai n 0 0 .nil (At s)=some y/\Ai n 3 0 (nd (Bb 12 (B9 s).line) (C4 acc y.1)) (Bi 23 y.2)=some r:=by
 rw[Ai,if_neg z52a,if_neg z52a,if_neg z52a,if_pos rfl,if_pos hk]at h;exact bind_some h
theorem z1pa {P:Prop} (h:P:=by
  exact(Option.some.inj h).symm):P:=h
theorem A2a{n:Nat}{acc:BT A6}{s:PS}{r:BT A6×PS}(hk:kT s≠22)(h:Ai (n+1) 3 0 acc s=some r):r=(acc,s):=by
 rw[Ai,if_neg z52a,if_neg z52a,if_neg z52a,if_pos rfl,if_neg hk]at h;exact z1pa
theorem A2e{n a:Nat}{s:PS}{r:BT A6×PS}(hk:kT s=a)(h:Ai (n+1) 5 a .nil s=some r):r=(.nil,At s):=by
 rw[Ai,if_neg z52a,if_neg z52a,if_neg z52a,if_neg z52a,if_neg z52a,if_pos rfl,if_pos hk]at h;exact z1pa
theorem Xl{n a:Nat}{s:PS}{r:BT A6×PS}(hk:kT s≠a)(h:Ai (n+1) 5 a .nil s=some r):(Ai n 0 0 .nil s).bind (fun y=>Ai n 6 a (C4 .nil y.1) y.2)=some r:=by
 rw[Ai,if_neg z52a,if_neg z52a,if_neg z52a,if_neg z52a,if_neg z52a,if_pos rfl,if_neg hk]at h;exact h
theorem A2h{n a:Nat}{acc:BT A6}{s:PS}{r:BT A6×PS}(hk:kT s=24)(h:Ai (n+1) 6 a acc s=some r):(Ai n 0 0 .nil (At s)).bind (fun y=>Ai n 6 a (C4 acc y.1) y.2)=some r:=by
 rw[Ai,if_neg z52a,if_neg z52a,if_neg z52a,if_neg z52a,if_neg z52a,if_neg z52a,if_pos rfl,if_pos hk]at h;exact h
theorem A2c{n a:Nat}{acc:BT A6}{s:PS}{r:BT A6×PS}(hk:kT s≠24)(h:Ai (n+1) 6 a acc s=some r):r=(acc,Bi a s):=by
 rw[Ai,if_neg z52a,if_neg z52a,if_neg z52a,if_neg z52a,if_neg z52a,if_neg z52a,if_pos rfl,if_neg hk]at h;exact z1pa
theorem Tb{s:PS}(h:s.ts=[Ig]):kT s=0:=by unfold kT B9;rw[h];rfl
theorem Zc{s:PS}(h:s.bad≠0):Eh s=s:=by unfold Eh;rw[if_neg h]
theorem Zd{s:PS}(h:s.ts=[Ig]):At s=s:=by unfold At;rw[if_pos (Tb h)]
theorem Vr{s:PS}(k:Nat)(h:s.ts=[Ig])(hb:s.bad≠0):Bi k s=s:=by
 unfold Bi;split
 ·exact Zd h
 ·exact Zc hb
theorem Ahv{s:PS}(h:s.ts=[Ig])(hb:s.bad≠0):∀n acc r,Kz n acc s=some r->r.2=s:=by
 intro n;induction n with
 | zero=>intro acc r hr;rw[Kz]at hr;cases hr
 | succ n ih=>
  intro acc r hr;rw[Kz,Vr 1 h hb,if_neg (by rw[Tb h];decide)]at hr;have:=(Option.some.inj hr).symm;rw[this,Vr 19 h hb]
theorem A21{s:PS}(h:s.ts=[Ig])(hb:s.bad≠0)(n:Nat)(r:List (Nat×List UInt8)×PS)(hr:params n s=some r):r.2=s:=by
 unfold params at hr;rw[if_neg (by rw[Tb h];decide)]at hr;exact Ahv h hb n [] r hr
theorem A8x{α β:Type}{o:Option (α×PS)}{f:α×PS->Option (β×PS)}{s:PS}{r:β×PS}(h:o.bind f=some r)(h1:∀x,o=some x->x.2=s)(h2:∀x,o=some x->x.2=s->f x=some r->r.2=s):r.2=s:=by
 obtain⟨x,k1,k2⟩:=bind_some h;exact h2 x k1 (h1 x k1) k2
theorem z3na {P:Prop} (h:P:=by
  exact two hr (fun x hx hf=>by rw[hx]at hf;exact ih _ _ _ _ hf)):P:=h
theorem z56a {P:Prop} (h:P:=by simp):P:=h
theorem Ql{s:PS}(h:s.ts=[Ig])(hb:s.bad≠0):∀n t a acc r,Ai n t a acc s=some r->r.2=s:=by
 intro n;have k0:kT s=0:=Tb h;have e1:=Zd h;have e2:=Zc hb;have e3:=fun k=>Vr k h hb;induction n with
 | zero=>intro t a acc r hr;rw[Ai]at hr;cases hr
 | succ n ih=>
  intro t a acc r hr;rw[Ai]at hr;simp only[k0,e1,e2,e3]at hr;have two:∀{t1 a1:Nat} {acc1:BT A6} {f:BT A6×PS->Option (BT A6×PS)},(Ai n t1 a1 acc1 s).bind f=some r->(∀x,x.2=s->f x=some r->r.2=s)->r.2=s:=
   fun hh hf=>A8x hh (fun x hx=>ih _ _ _ _ hx) (fun x _ hxs hfx=>hf x hxs hfx)
  have fin:∀{y:BT A6} {s':PS},some (y,s')=some r->s'=s->r.2=s:=fun hh he=>by cases hh;exact he
  by_cases t0:t=0
  ·rw[if_pos t0]at hr;by_cases a6:a=6
   ·rw[if_pos a6]at hr;exact ih _ _ _ _ hr
   ·rw[if_neg a6]at hr;exact z3na
  rw[if_neg t0]at hr;by_cases t1:t=1
  ·rw[if_pos t1,if_neg (by simp[rowOf])]at hr;exact fin hr rfl
  rw[if_neg t1]at hr;by_cases t2:t=2
  ·rw[if_pos t2,if_neg z52a,if_neg z52a]at hr;exact z3na
  rw[if_neg t2]at hr;by_cases t3:t=3
  ·rw[if_pos t3,if_neg z52a]at hr;exact fin hr rfl
  rw[if_neg t3]at hr;by_cases t4:t=4
  ·rw[if_pos t4]at hr;iterate 10 (rw[if_neg z52a]at hr)
   exact fin hr rfl
  rw[if_neg t4]at hr;by_cases t5:t=5
  ·rw[if_pos t5]at hr;by_cases ka:0=a
   ·rw[if_pos ka]at hr;exact fin hr rfl
   ·rw[if_neg ka]at hr;exact z3na
  rw[if_neg t5]at hr;by_cases t6:t=6
  ·rw[if_pos t6,if_neg z52a]at hr;exact fin hr rfl
  rw[if_neg t6]at hr;by_cases t7:t=7
  ·rw[if_pos t7]at hr;exact ih _ _ _ _ hr
  rw[if_neg t7]at hr;by_cases t8:t=8
  ·rw[if_pos t8,if_neg z52a,if_pos hb]at hr;exact fin hr rfl
  rw[if_neg t8]at hr;by_cases t9:t=9
  ·rw[if_pos t9]at hr;iterate 7 (rw[if_neg z52a]at hr)
   refine two hr (fun x hx hf=>?_);rw[hx,k0,if_neg z56a,if_neg z52a]at hf;exact fin hf (e3 25)
  rw[if_neg t9]at hr;by_cases t10:t=10
  ·rw[if_pos t10,if_pos trivial]at hr;exact fin hr rfl
  rw[if_neg t10]at hr;obtain⟨p,h1,h2⟩:=bind_some hr;have hp:=A21 h hb n p h1;rw[hp]at h2;exact two h2 (fun x hx hf=>fin hf hx)
theorem A2b(hk:kT s=2)(h:Ai (n+1) 4 0 .nil s=some r):r=(nd ⟨1,(B9 s).line,[],(B9 s).n,[]⟩ .nil,At s):=by
 rw[Ai,if_neg z52a,if_neg z52a,if_neg z52a,if_neg z52a,if_pos rfl,if_pos hk]at h;exact z1pa
theorem A2v(hk:kT s=3)(h:Ai (n+1) 4 0 .nil s=some r):r=(nd ⟨2,(B9 s).line,(B9 s).s,0,[]⟩ .nil,At s):=by
 rw[Ai,if_neg z52a,if_neg z52a,if_neg z52a,if_neg z52a,if_pos rfl,if_neg z51a,if_pos hk]at h;exact z1pa
theorem A2w(hk:kT s=13)(h:Ai (n+1) 4 0 .nil s=some r):r=(nd (Bb 3 (B9 s).line) .nil,At s):=by
 rw[Ai,if_neg z52a,if_neg z52a,if_neg z52a,if_neg z52a,if_pos rfl,if_neg z51a,if_neg z51a,if_pos hk]at h;exact z1pa
theorem A26(hk:kT s=14)(h:Ai (n+1) 4 0 .nil s=some r):r=(nd (Bb 4 (B9 s).line) .nil,At s):=by
 rw[Ai,if_neg z52a,if_neg z52a,if_neg z52a,if_neg z52a,if_pos rfl,if_neg z51a,if_neg z51a,if_neg z51a,if_pos hk]at h;exact z1pa
theorem A2l(hk:kT s=15)(h:Ai (n+1) 4 0 .nil s=some r):r=(nd (Bb 5 (B9 s).line) .nil,At s):=by
 rw[Ai,if_neg z52a,if_neg z52a,if_neg z52a,if_neg z52a,if_pos rfl,if_neg z51a,if_neg z51a,if_neg z51a,if_neg z51a,if_pos hk]at h;exact z1pa
theorem A25(hk:kT s=1)(Cm:kT (At s)=18)(h:Ai (n+1) 4 0 .nil s=some r):∃l,Ai n 5 19 .nil (At (At s))=some l/\r=(nd ⟨7,(B9 s).line,(B9 s).s,0,[]⟩ l.1,l.2):=by
 rw[Ai,if_neg z52a,if_neg z52a,if_neg z52a,if_neg z52a,if_pos rfl,if_neg z51a,if_neg z51a,if_neg z51a,if_neg z51a,if_neg z51a,if_pos hk,if_pos Cm]at h;exact z16a
theorem A2i(hk:kT s=1)(Cm:kT (At s)≠18)(h:Ai (n+1) 4 0 .nil s=some r):r=(nd ⟨6,(B9 s).line,(B9 s).s,0,[]⟩ .nil,At s):=by
 rw[Ai,if_neg z52a,if_neg z52a,if_neg z52a,if_neg z52a,if_pos rfl,if_neg z51a,if_neg z51a,if_neg z51a,if_neg z51a,if_neg z51a,if_pos hk,if_neg Cm]at h;exact z1pa
theorem A28(hk:kT s=18)(h:Ai (n+1) 4 0 .nil s=some r):∃x,Ai n 0 0 .nil (At s)=some x/\r=(nd (Bb 8 (B9 s).line) x.1,Bi 19 x.2):=by
 rw[Ai,if_neg z52a,if_neg z52a,if_neg z52a,if_neg z52a,if_pos rfl,if_neg z51a,if_neg z51a,if_neg z51a,if_neg z51a,if_neg z51a,if_neg z51a,if_pos hk]at h;exact z16a
theorem A22(hk:kT s=22)(h:Ai (n+1) 4 0 .nil s=some r):∃l,Ai n 5 23 .nil (At s)=some l/\r=(nd (Bb 9 (B9 s).line) l.1,l.2):=by
 rw[Ai,if_neg z52a,if_neg z52a,if_neg z52a,if_neg z52a,if_pos rfl,if_neg z51a,if_neg z51a,if_neg z51a,if_neg z51a,if_neg z51a,if_neg z51a,if_neg z51a,if_pos hk]at h;exact z16a
theorem A2d(hk:kT s=16)(h:Ai (n+1) 4 0 .nil s=some r):∃x,Ai n 0 0 .nil (Bi 18 (At s))=some x/\r=(nd (Bb 10 (B9 s).line) x.1,Bi 19 x.2):=by
 rw[Ai,if_neg z52a,if_neg z52a,if_neg z52a,if_neg z52a,if_pos rfl,if_neg z51a,if_neg z51a,if_neg z51a,if_neg z51a,if_neg z51a,if_neg z51a,if_neg z51a,if_neg z51a,if_pos hk]at h;exact z16a
theorem A2m(hk:kT s=17)(h:Ai (n+1) 4 0 .nil s=some r):∃x y,Ai n 0 0 .nil (Bi 18 (At s))=some x/\Ai n 0 0 .nil (Bi 24 x.2)=some y/\r=(nd (Bb 11 (B9 s).line) (C4 x.1 y.1),Bi 19 y.2):=by
 rw[Ai,if_neg z52a,if_neg z52a,if_neg z52a,if_neg z52a,if_pos rfl,if_neg z51a,if_neg z51a,if_neg z51a,if_neg z51a,if_neg z51a,if_neg z51a,if_neg z51a,if_neg z51a,if_neg z51a,if_pos hk]at h;obtain⟨x,h1,h2⟩:=bind_some h;obtain⟨y,h3,h4⟩:=bind_some h2;exact⟨x,y,h1,h3,(Option.some.inj h4).symm⟩
theorem Xm(h1:kT s≠2)(h2:kT s≠3)(h3:kT s≠13)(h4:kT s≠14)(h5:kT s≠15)(h6:kT s≠1)(h7:kT s≠18)(h8:kT s≠22)(h9:kT s≠16)(h10:kT s≠17)(h:Ai (n+1) 4 0 .nil s=some r):r=(.nil,Eh s):=by
 rw[Ai,if_neg z52a,if_neg z52a,if_neg z52a,if_neg z52a,if_pos rfl,if_neg h1,if_neg h2,if_neg h3,if_neg h4,if_neg h5,if_neg h6,if_neg h7,if_neg h8,if_neg h9,if_neg h10]at h;exact z1pa
theorem A24(h:Ai (n+1) 7 0 .nil s=some r):Ai n 8 0 .nil (Bi 20 s)=some r:=by
 rw[Ai,if_neg z52a,if_neg z52a,if_neg z52a,if_neg z52a,if_neg z52a,if_neg z52a,if_neg z52a,if_pos rfl]at h;exact h
theorem A23{n:Nat}{acc:BT A6}{s:PS}{r:BT A6×PS}(hk:kT s=21)(h:Ai (n+1) 8 0 acc s=some r):r=(acc,At s):=by
 rw[Ai,if_neg z52a,if_neg z52a,if_neg z52a,if_neg z52a,if_neg z52a,if_neg z52a,if_neg z52a,if_neg z52a,if_pos rfl,if_pos hk]at h;exact z1pa
theorem Xi{n:Nat}{acc:BT A6}{s:PS}{r:BT A6×PS}(hk:kT s≠21)(hb:s.bad=0)(h:Ai (n+1) 8 0 acc s=some r):∃x,Ai n 9 0 .nil s=some x/\Ai n 8 0 (C4 acc x.1) x.2=some r:=by
 rw[Ai,if_neg z52a,if_neg z52a,if_neg z52a,if_neg z52a,if_neg z52a,if_neg z52a,if_neg z52a,if_neg z52a,if_pos rfl,if_neg hk,if_neg (by simpa using hb)]at h;exact bind_some h
theorem A2q(hk:kT s=5)(h:Ai (n+1) 9 0 .nil s=some r):∃x,Ai n 0 0 .nil (Bi 26 (Bi 1 (At s)))=some x/\r=(nd ⟨21,(B9 (At s)).line,(B9 (At s)).s,0,[]⟩ x.1,Bi 25 x.2):=by
 rw[Ai,if_neg z52a,if_neg z52a,if_neg z52a,if_neg z52a,if_neg z52a,if_neg z52a,if_neg z52a,if_neg z52a,if_neg z52a,if_pos rfl,if_pos hk]at h;exact z16a
theorem A2p(hk:kT s=6)(h:Ai (n+1) 9 0 .nil s=some r):∃x bl,Ai n 0 0 .nil (At s)=some x/\Ai n 7 0 .nil x.2=some bl/\
  ((kT bl.2=7/\∃c,Ai n 7 0 .nil (At bl.2)=some c/\r=(nd (Bb 22 (B9 s).line) (C4 x.1 (C4 (nd (Bb 31 0) bl.1) (nd (Bb 31 0) c.1))),c.2))\/(kT bl.2≠7/\r=(nd (Bb 22 (B9 s).line) (C4 x.1 (nd (Bb 31 0) bl.1)),bl.2))):=by
 rw[Ai,if_neg z52a,if_neg z52a,if_neg z52a,if_neg z52a,if_neg z52a,if_neg z52a,if_neg z52a,if_neg z52a,if_neg z52a,if_pos rfl,if_neg z51a,if_pos hk]at h;obtain⟨x,h1,h2⟩:=bind_some h;obtain⟨bl,h3,h4⟩:=bind_some h2;refine⟨x,bl,h1,h3,?_⟩;by_cases h7:kT bl.2=7
 ·rw[if_pos h7]at h4;obtain⟨c,h5,h6⟩:=bind_some h4;exact .inl ⟨h7,c,h5,(Option.some.inj h6).symm⟩
 ·rw[if_neg h7]at h4;exact .inr ⟨h7,(Option.some.inj h4).symm⟩
theorem A2u(hk:kT s=8)(h:Ai (n+1) 9 0 .nil s=some r):∃x bl,Ai n 0 0 .nil (At s)=some x/\Ai n 7 0 .nil x.2=some bl/\r=(nd (Bb 23 (B9 s).line) (C4 x.1 (nd (Bb 32 0) bl.1)),bl.2):=by
 rw[Ai,if_neg z52a,if_neg z52a,if_neg z52a,if_neg z52a,if_neg z52a,if_neg z52a,if_neg z52a,if_neg z52a,if_neg z52a,if_pos rfl,if_neg z51a,if_neg z51a,if_pos hk]at h;obtain⟨x,h1,h2⟩:=bind_some h;obtain⟨bl,h3,h4⟩:=bind_some h2;exact⟨x,bl,h1,h3,(Option.some.inj h4).symm⟩
theorem A2t(hk:kT s=9)(Cm:kT (At s)=25)(h:Ai (n+1) 9 0 .nil s=some r):r=(nd (Bb 24 (B9 s).line) .nil,Bi 25 (At s)):=by
 rw[Ai,if_neg z52a,if_neg z52a,if_neg z52a,if_neg z52a,if_neg z52a,if_neg z52a,if_neg z52a,if_neg z52a,if_neg z52a,if_pos rfl,if_neg z51a,if_neg z51a,if_neg z51a,if_pos hk,if_pos Cm]at h;exact z1pa
theorem A2s(hk:kT s=9)(Cm:kT (At s)≠25)(h:Ai (n+1) 9 0 .nil s=some r):∃x,Ai n 0 0 .nil (At s)=some x/\r=(nd (Bb 24 (B9 s).line) x.1,Bi 25 x.2):=by
 rw[Ai,if_neg z52a,if_neg z52a,if_neg z52a,if_neg z52a,if_neg z52a,if_neg z52a,if_neg z52a,if_neg z52a,if_neg z52a,if_pos rfl,if_neg z51a,if_neg z51a,if_neg z51a,if_pos hk,if_neg Cm]at h;exact z16a
theorem A2n(hk:kT s=10)(h:Ai (n+1) 9 0 .nil s=some r):r=(nd (Bb 25 (B9 s).line) .nil,Bi 25 (At s)):=by
 rw[Ai,if_neg z52a,if_neg z52a,if_neg z52a,if_neg z52a,if_neg z52a,if_neg z52a,if_neg z52a,if_neg z52a,if_neg z52a,if_pos rfl,if_neg z51a,if_neg z51a,if_neg z51a,if_neg z51a,if_pos hk]at h;exact z1pa
theorem A2o(hk:kT s=11)(h:Ai (n+1) 9 0 .nil s=some r):r=(nd (Bb 26 (B9 s).line) .nil,Bi 25 (At s)):=by
 rw[Ai,if_neg z52a,if_neg z52a,if_neg z52a,if_neg z52a,if_neg z52a,if_neg z52a,if_neg z52a,if_neg z52a,if_neg z52a,if_pos rfl,if_neg z51a,if_neg z51a,if_neg z51a,if_neg z51a,if_neg z51a,if_pos hk]at h;exact z1pa
theorem A2r(hk:kT s=12)(h:Ai (n+1) 9 0 .nil s=some r):∃x,Ai n 0 0 .nil (At s)=some x/\r=(nd (Bb 27 (B9 s).line) x.1,Bi 25 x.2):=by
 rw[Ai,if_neg z52a,if_neg z52a,if_neg z52a,if_neg z52a,if_neg z52a,if_neg z52a,if_neg z52a,if_neg z52a,if_neg z52a,if_pos rfl,if_neg z51a,if_neg z51a,if_neg z51a,if_neg z51a,if_neg z51a,if_neg z51a,if_pos hk]at h;exact z16a
theorem Xo(hk:¬(5<=kT s/\kT s<=12/\kT s≠7))(h:Ai (n+1) 9 0 .nil s=some r):∃x,Ai n 0 0 .nil s=some x/\
  ((Q3 x.1=true/\kT x.2=26/\∃v,Ai n 0 0 .nil (At x.2)=some v/\r=(setNode x.1 v.1,Bi 25 v.2))\/(Q3 x.1=false/\kT x.2=26/\∃v,Ai n 0 0 .nil (Eh x.2)=some v/\r=(nd (Bb 30 (Jn x.1).line) x.1,Bi 25 v.2))\/
   (kT x.2≠26/\r=(nd (Bb 30 (Jn x.1).line) x.1,Bi 25 x.2))):=by
 rw[Ai,if_neg z52a,if_neg z52a,if_neg z52a,if_neg z52a,if_neg z52a,if_neg z52a,if_neg z52a,if_neg z52a,if_neg z52a,if_pos rfl,if_neg z51a,if_neg z51a,if_neg z51a,if_neg z51a,if_neg z51a,if_neg z51a,if_neg z51a]at h;obtain⟨x,h1,h2⟩:=bind_some h;refine⟨x,h1,?_⟩;by_cases h26:kT x.2=26
 ·cases hc:Q3 x.1
  ·rw[if_neg (by rw[hc];simp),if_pos h26]at h2;obtain⟨v,h3,h4⟩:=bind_some h2;exact .inr (.inl ⟨rfl,h26,v,h3,(Option.some.inj h4).symm⟩)
  ·rw[if_pos ⟨hc,h26⟩]at h2;obtain⟨v,h3,h4⟩:=bind_some h2;exact .inl ⟨rfl,h26,v,h3,(Option.some.inj h4).symm⟩
 ·rw[if_neg (fun e=>h26 e.2),if_neg h26]at h2;exact .inr (.inr ⟨h26,(Option.some.inj h2).symm⟩)
end
section
open Go.Deep (BT)
theorem A27{n:Nat}{s:PS}{r:BT A6×PS}(h:Ai (n+1) 11 0 .nil s=some r):∃p b,params n (Bi 18 (Bi 1 (At s)))=some p/\Ai n 7 0 .nil p.2=some b/\r=(nd ⟨20,(B9 (At s)).line,(B9 (At s)).s,0,p.1⟩ b.1,b.2):=by
 rw[Ai,if_neg z52a,if_neg z52a,if_neg z52a,if_neg z52a,if_neg z52a,if_neg z52a,if_neg z52a,if_neg z52a,if_neg z52a,if_neg z52a,if_neg z52a]at h;obtain⟨p,h1,h2⟩:=bind_some h;obtain⟨b,h3,h4⟩:=bind_some h2;exact⟨p,b,h1,h3,(Option.some.inj h4).symm⟩
def nest:List Tk->Int->Nat
 | [],_=>0
 | t::r,o=>
  if t.k=18\/t.k=20\/t.k=22 then(if 30<=o then t.line else nest r (o+1))
  else if t.k=19\/t.k=21\/t.k=23 then nest r (o-1)
  else nest r o
abbrev Nm:=List UInt8
abbrev Cw:=Nat×Nat
def Ed(is:Bool)(code line:Nat)(f:Cw):Cw:=if is&&f.1==0 then(code,line) else f
def P8:List (Nm×Nat)->Nm->Option Nat
 | [],_=>none
 | f::r,s=>if f.1=s then some f.2 else P8 r s
def O8(fns:List (Nm×Nat))(s:Nm)(n:Nat):Bool:=match P8 fns s with
 | none=>true
 | some m=>m !=n
def By(fns:List (Nm×Nat)):BT A6->List Nm->List Nm->Nat->Bool->Cw->List Nm×Cw
 | .nil,_,cur,_,_,f=>(cur,f)
 | .node _ _ l ch sib,outer,cur,wh,inn,f=>
  if l.kd=31 then By fns sib outer cur wh inn (By fns ch (outer++cur) [] wh inn f).2
  else if l.kd=32 then By fns sib outer cur wh inn (By fns ch (outer++cur) [] (wh+1) inn f).2
  else if l.kd=21 then
   By fns sib outer ((By fns ch outer cur wh inn (Ed (decide (l.s∈cur)) 3 l.line f)).1++[l.s]) wh inn (By fns ch outer cur wh inn (Ed (decide (l.s∈cur)) 3 l.line f)).2
  else
   let f1:=if l.kd=6\/l.kd=28 then Ed (!decide (l.s∈outer++cur)) 3 l.line f
    else if l.kd=7 then Ed (O8 fns l.s (Az ch)) 3 l.line f
    else if l.kd=25\/l.kd=26 then Ed (wh==0) 4 l.line f
    else if l.kd=24 then Ed (!inn) 4 l.line f
    else f
   By fns sib outer (By fns ch outer cur wh inn f1).1 wh inn (By fns ch outer cur wh inn f1).2
def J4:List (Nat×Nm)->List Nm->Cw->List Nm×Cw
 | [],cur,f=>(cur,f)
 | p::r,cur,f=>J4 r (cur++[p.2]) (Ed (decide (p.2∈cur)) 3 p.1 f)
def Et(fns:List (Nm×Nat)):BT A6->List Nm->List Nm->Cw->Cw
 | .nil,_,_,f=>f
 | .node x y l ch sib,seen,cur,f=>
  if l.kd=20 then
   let f1:=Ed (decide (l.s∈seen)) 3 l.line f
   let p:=J4 l.ps [] f1
   Et fns sib (seen++[l.s]) cur (By fns ch cur p.1 0 true p.2).2
  else Et fns sib seen (By fns (.node x y l ch .nil) [] cur 0 false f).1 (By fns (.node x y l ch .nil) [] cur 0 false f).2
def Cu:BT A6->List (Nm×Nat)
 | .nil=>[]
 | .node _ _ l _ sib=>if l.kd=20 then(l.s,l.ps.length)::Cu sib else Cu sib
theorem Aq4(is:Bool)(code line:Nat)(f:Cw)(h:f.1≠0):Ed is code line f=f:=by
 unfold Ed;rw[if_neg];simp[h]
theorem Aki(fns:List (Nm×Nat))(x y:Nat)(l:A6)(ch sib:BT A6)(outer cur:List Nm)(wh:Nat)(inn:Bool)(f:Cw) :
  By fns (.node x y l ch sib) outer cur wh inn f=By fns sib outer (By fns (.node x y l ch .nil) outer cur wh inn f).1 wh inn (By fns (.node x y l ch .nil) outer cur wh inn f).2:=by
 by_cases h1:l.kd=31
 ·simp only[By,if_pos h1]
 ·by_cases h2:l.kd=32
  ·simp only[By,if_neg h1,if_pos h2]
  ·by_cases h3:l.kd=21
   ·simp only[By,if_neg h1,if_neg h2,if_pos h3]
   ·simp only[By,if_neg h1,if_neg h2,if_neg h3]
def bsize:BT A6->Nat
 | .nil=>0
 | .node _ _ l c r=>1+l.ps.length+bsize c+bsize r
theorem Co(l:A6)(c:BT A6):bsize (nd l c)=1+l.ps.length+bsize c:=by simp[nd,bsize]
theorem A3k(fns:List (Nm×Nat)):∀(f:BT A6) (outer cur:List Nm) (wh:Nat) (inn:Bool) (v:Cw),(By fns f outer cur wh inn v).1.length<=cur.length+bsize f:=by
 intro f;induction f with
 | nil=>intro outer cur wh inn v;simp[By,bsize]
 | node x y l c r Ds D9=>
  intro outer cur wh inn v;rw[bsize];by_cases h1:l.kd=31
  ·simp only[By,if_pos h1];exact Nat.le_trans (D9 _ _ _ _ _) z51a
  by_cases h2:l.kd=32
  ·simp only[By,if_neg h1,if_pos h2];exact Nat.le_trans (D9 _ _ _ _ _) z51a
  by_cases h3:l.kd=21
  ·simp only[By,if_neg h1,if_neg h2,if_pos h3];refine Nat.le_trans (D9 _ _ _ _ _) ?_;rw[List.length_append,List.length_singleton];have:=Ds outer cur wh inn (Ed (decide (l.s∈cur)) 3 l.line v);omega
  ·simp only[By,if_neg h1,if_neg h2,if_neg h3];refine Nat.le_trans (D9 _ _ _ _ _) ?_;exact Nat.le_trans (Nat.add_le_add_right (Ds _ _ _ _ _) _) z51a
theorem A1i{fns:List (Nm×Nat)}{s:Nm}{n:Nat}:s∈(fns.take n).map (·.1)↔∃j,∃h:j<fns.length,j<n/\fns[j].1=s:=by
 constructor
 ·intro h;obtain⟨p,hp,e⟩:=List.mem_map.mp h;obtain⟨j,hj,e2⟩:=List.getElem_of_mem hp;rw[List.length_take]at hj;refine⟨j,by omega,by omega,?_⟩;rw[List.getElem_take]at e2;rw[e2];exact e
 ·rintro⟨j,h,hj,e⟩;refine List.mem_map.mpr ⟨fns[j],?_,e⟩;have:(fns.take n)[j]'(by rw[List.length_take];omega)=fns[j]:=List.getElem_take;rw[←this];exact List.getElem_mem _
theorem Ad5{fns:List (Nm×Nat)}{n:Nat}{p:Nm×Nat}{r:List (Nm×Nat)}(h:fns.drop n=p::r):∃hn:n<fns.length,fns[n]=p/\fns.drop (n+1)=r/\(fns.take (n+1)).map (·.1)=(fns.take n).map (·.1)++[p.1]:=by
 have hn:n<fns.length:=by
  apply Decidable.byContradiction;intro h2;rw[List.drop_eq_nil_of_le z51a]at h;cases h
 rw[List.drop_eq_getElem_cons hn]at h;injection h with h1 h2;refine⟨hn,h1,h2,?_⟩;rw[List.take_succ_eq_append_getElem hn,List.map_append,h1];rfl
theorem Akf(fns:List (Nm×Nat))(x y:Nat)(l:A6)(ch sib:BT A6)(seen cur:List Nm)(f:Cw)(h:l.kd=20):Et fns (.node x y l ch sib) seen cur f=Et fns sib (seen++[l.s]) cur (By fns ch cur (J4 l.ps [] (Ed (decide (l.s∈seen)) 3 l.line f)).1 0 true (J4 l.ps [] (Ed (decide (l.s∈seen)) 3 l.line f)).2).2:=by
 rw[Et,if_pos h]
theorem Akh(fns:List (Nm×Nat))(x y:Nat)(l:A6)(ch sib:BT A6)(seen cur:List Nm)(f:Cw)(h:l.kd≠20):Et fns (.node x y l ch sib) seen cur f=Et fns sib seen (By fns (.node x y l ch .nil) [] cur 0 false f).1 (By fns (.node x y l ch .nil) [] cur 0 false f).2:=by
 rw[Et,if_neg h]
theorem A0l(x y:Nat)(l:A6)(ch sib:BT A6)(h:l.kd=20):Cu (.node x y l ch sib)=(l.s,l.ps.length)::Cu sib:=by
 rw[Cu,if_pos h]
theorem A0m(x y:Nat)(l:A6)(ch sib:BT A6)(h:l.kd≠20):Cu (.node x y l ch sib)=Cu sib:=by
 rw[Cu,if_neg h]
end
end Go.Proofs.YtjdlndhfaaolaaaGreatDoor
