import Derived.Deep.Trees
import Derived.Test.YtjdlndhfaaolaaaGreatDoorQ01
set_option maxHeartbeats 20000000
namespace Go.Proofs.YtjdlndhfaaolaaaGreatDoor
section
open Go.Deep (BT)
structure A6 where
 kd:Nat
 line:Nat
 s:List UInt8
 n:Int
 ps:List (Nat×List UInt8)
def nd(l:A6)(ch:BT A6):BT A6:=.node 0 0 l ch .nil
def E0:BT A6->BT A6->BT A6
 | .nil,b=>b
 | .node x y l c r,b=>.node x y l c (E0 r b)
def Ar:BT A6->Nat
 | .nil=>0
 | .node _ _ _ _ r=>Ar r+1
def Jd:BT A6->A6
 | .nil=>⟨0,0,[],0,[]⟩
 | .node _ _ l _ _=>l
def W6:BT A6->BT A6
 | .nil=>.nil
 | .node _ _ _ c _=>c
structure PS where
 ts:List Tk
 bad:Nat
def Jj:Tk:=⟨0,0,[],0⟩
def B1(s:PS):Tk:=s.ts.headD Jj
def kT(s:PS):Nat:=(B1 s).k
def Ed(s:PS):PS:=if s.bad=0 then⟨[Jj],(B1 s).line⟩ else s
def Ao(s:PS):PS:=if kT s=0 then s else⟨s.ts.tail,s.bad⟩
def Bb(k:Nat)(s:PS):PS:=if kT s=k then Ao s else Ed s
def rowOf(k:Nat):Nat:=
 if k=40 then 1 else if k=39 then 2 else if k=27\/k=29 then 3 else if k=30\/k=31\/k=32\/k=33 then 4
 else if k=34\/k=35 then 5 else if k=36\/k=37\/k=38 then 6 else 0
def Ba(kd line:Nat):A6:=⟨kd,line,[],0,[]⟩
def L0:Nat->List (Nat×List UInt8)->PS->Option (List (Nat×List UInt8)×PS)
 | 0,_,_=>none
 | n+1,acc,s=>
  if kT (Bb 1 s)=24 then L0 n (acc++[((B1 s).line,(B1 s).s)]) (Ao (Bb 1 s))
  else some (acc++[((B1 s).line,(B1 s).s)],Bb 19 (Bb 1 s))
def params(n:Nat)(s:PS):Option (List (Nat×List UInt8)×PS):=if kT s=19 then some ([],Ao s) else L0 n [] s
def Q1(x:BT A6):Bool:=(Jd x).kd==6||(Jd x).kd==12
def setNode(x v:BT A6):BT A6:=
 if(Jd x).kd=6 then nd ⟨28,(Jd x).line,(Jd x).s,0,[]⟩ v else nd (Ba 29 (Jd x).line) (E0 (W6 x) v)
def Af:Nat->Nat->Nat->BT A6->PS->Option (BT A6×PS)
 | 0,_,_,_,_=>none
 | n+1,t,a,acc,s=>
  if t=0 then
   if a=6 then Af n 2 0 .nil s
   else(Af n 0 (a+1) .nil s).bind fun x=>Af n 1 a x.1 x.2
  else if t=1 then
   if rowOf (kT s)=a+1 then(Af n 0 (a+1) .nil (Ao s)).bind fun y=>Af n 1 a (nd (Ba (100+kT s) (B1 s).line) (E0 acc y.1)) y.2
   else some (acc,s)
  else if t=2 then
   if kT s=28 then(Af n 2 0 .nil (Ao s)).bind fun x=>some (nd (Ba 13 (B1 s).line) x.1,x.2)
   else if kT s=35 then(Af n 2 0 .nil (Ao s)).bind fun x=>some (nd (Ba 14 (B1 s).line) x.1,x.2)
   else(Af n 4 0 .nil s).bind fun x=>Af n 3 0 x.1 x.2
  else if t=3 then
   if kT s=22 then(Af n 0 0 .nil (Ao s)).bind fun y=>Af n 3 0 (nd (Ba 12 (B1 s).line) (E0 acc y.1)) (Bb 23 y.2)
   else some (acc,s)
  else if t=4 then
   if kT s=2 then some (nd ⟨1,(B1 s).line,[],(B1 s).n,[]⟩ .nil,Ao s)
   else if kT s=3 then some (nd ⟨2,(B1 s).line,(B1 s).s,0,[]⟩ .nil,Ao s)
   else if kT s=13 then some (nd (Ba 3 (B1 s).line) .nil,Ao s)
   else if kT s=14 then some (nd (Ba 4 (B1 s).line) .nil,Ao s)
   else if kT s=15 then some (nd (Ba 5 (B1 s).line) .nil,Ao s)
   else if kT s=1 then
    if kT (Ao s)=18 then(Af n 5 19 .nil (Ao (Ao s))).bind fun l=>some (nd ⟨7,(B1 s).line,(B1 s).s,0,[]⟩ l.1,l.2)
    else some (nd ⟨6,(B1 s).line,(B1 s).s,0,[]⟩ .nil,Ao s)
   else if kT s=18 then(Af n 0 0 .nil (Ao s)).bind fun x=>some (nd (Ba 8 (B1 s).line) x.1,Bb 19 x.2)
   else if kT s=22 then(Af n 5 23 .nil (Ao s)).bind fun l=>some (nd (Ba 9 (B1 s).line) l.1,l.2)
   else if kT s=16 then(Af n 0 0 .nil (Bb 18 (Ao s))).bind fun x=>some (nd (Ba 10 (B1 s).line) x.1,Bb 19 x.2)
   else if kT s=17 then(Af n 0 0 .nil (Bb 18 (Ao s))).bind fun x=>(Af n 0 0 .nil (Bb 24 x.2)).bind fun y=>some (nd (Ba 11 (B1 s).line) (E0 x.1 y.1),Bb 19 y.2)
   else some (.nil,Ed s)
  else if t=5 then
   if kT s=a then some (.nil,Ao s)
   else(Af n 0 0 .nil s).bind fun x=>Af n 6 a x.1 x.2
  else if t=6 then
   if kT s=24 then(Af n 0 0 .nil (Ao s)).bind fun y=>Af n 6 a (E0 acc y.1) y.2
   else some (acc,Bb a s)
  else if t=7 then Af n 8 0 .nil (Bb 20 s)
  else if t=8 then
   if kT s=21 then some (acc,Ao s)
   else if s.bad≠0 then some (acc,s)
   else(Af n 9 0 .nil s).bind fun x=>Af n 8 0 (E0 acc x.1) x.2
  else if t=9 then
   if kT s=5 then(Af n 0 0 .nil (Bb 26 (Bb 1 (Ao s)))).bind fun x=>some (nd ⟨21,(B1 (Ao s)).line,(B1 (Ao s)).s,0,[]⟩ x.1,Bb 25 x.2)
   else if kT s=6 then(Af n 0 0 .nil (Ao s)).bind fun x=>(Af n 7 0 .nil x.2).bind fun b=>
    if kT b.2=7 then(Af n 7 0 .nil (Ao b.2)).bind fun c=>some (nd (Ba 22 (B1 s).line) (E0 x.1 (E0 (nd (Ba 31 0) b.1) (nd (Ba 31 0) c.1))),c.2)
    else some (nd (Ba 22 (B1 s).line) (E0 x.1 (nd (Ba 31 0) b.1)),b.2)
   else if kT s=8 then(Af n 0 0 .nil (Ao s)).bind fun x=>(Af n 7 0 .nil x.2).bind fun b=>some (nd (Ba 23 (B1 s).line) (E0 x.1 (nd (Ba 32 0) b.1)),b.2)
   else if kT s=9 then
    if kT (Ao s)=25 then some (nd (Ba 24 (B1 s).line) .nil,Bb 25 (Ao s))
    else(Af n 0 0 .nil (Ao s)).bind fun x=>some (nd (Ba 24 (B1 s).line) x.1,Bb 25 x.2)
   else if kT s=10 then some (nd (Ba 25 (B1 s).line) .nil,Bb 25 (Ao s))
   else if kT s=11 then some (nd (Ba 26 (B1 s).line) .nil,Bb 25 (Ao s))
   else if kT s=12 then(Af n 0 0 .nil (Ao s)).bind fun x=>some (nd (Ba 27 (B1 s).line) x.1,Bb 25 x.2)
   else(Af n 0 0 .nil s).bind fun x=>
    if Q1 x.1=true/\kT x.2=26 then(Af n 0 0 .nil (Ao x.2)).bind fun v=>some (setNode x.1 v.1,Bb 25 v.2)
    else if kT x.2=26 then(Af n 0 0 .nil (Ed x.2)).bind fun v=>some (nd (Ba 30 (Jd x.1).line) x.1,Bb 25 v.2)
    else some (nd (Ba 30 (Jd x.1).line) x.1,Bb 25 x.2)
  else if t=10 then
   if kT s=0 then some (acc,s)
   else if kT s=4 then(Af n 11 0 .nil s).bind fun x=>Af n 10 0 (E0 acc x.1) x.2
   else(Af n 9 0 .nil s).bind fun x=>Af n 10 0 (E0 acc x.1) x.2
  else
   (params n (Bb 18 (Bb 1 (Ao s)))).bind fun p=>(Af n 7 0 .nil p.2).bind fun b=>
    some (nd ⟨20,(B1 (Ao s)).line,(B1 (Ao s)).s,0,p.1⟩ b.1,b.2)
end
section
open Go.Deep (BT)
variable {n:Nat}{s:PS}{r:BT A6×PS}
theorem bind_some{α β:Type}{o:Option α}{f:α->Option β}{r:β}(h:o.bind f=some r):∃x,o=some x/\f x=some r:=by
 cases o with
 | none=>cases h
 | some x=>exact⟨x,rfl,h⟩
theorem G9(t a:Nat)(acc:BT A6)(s:PS)(r:BT A6×PS):Af 0 t a acc s≠some r:=by intro h;rw[Af]at h;cases h
theorem Ua(h:Af (n+1) 0 6 .nil s=some r):Af n 2 0 .nil s=some r:=by
 rw[Af,if_pos rfl,if_pos rfl]at h;exact h
theorem Vt{n a:Nat}{s:PS}{r:BT A6×PS}(ha:a≠6)(h:Af (n+1) 0 a .nil s=some r):∃x,Af n 0 (a+1) .nil s=some x/\Af n 1 a x.1 x.2=some r:=by
 rw[Af,if_pos rfl,if_neg ha]at h;exact bind_some h
theorem A12{n a:Nat}{acc:BT A6}{s:PS}{r:BT A6×PS}(hk:rowOf (kT s)=a+1)(h:Af (n+1) 1 a acc s=some r) :
  ∃y,Af n 0 (a+1) .nil (Ao s)=some y/\Af n 1 a (nd (Ba (100+kT s) (B1 s).line) (E0 acc y.1)) y.2=some r:=by
 rw[Af,if_neg (by decide),if_pos rfl,if_pos hk]at h;exact bind_some h
theorem A06{n a:Nat}{acc:BT A6}{s:PS}{r:BT A6×PS}(hk:rowOf (kT s)≠a+1)(h:Af (n+1) 1 a acc s=some r):r=(acc,s):=by
 rw[Af,if_neg (by decide),if_pos rfl,if_neg hk]at h;cases h;rfl
theorem Zt(hk:kT s=28)(h:Af (n+1) 2 0 .nil s=some r):∃x,Af n 2 0 .nil (Ao s)=some x/\r=(nd (Ba 13 (B1 s).line) x.1,x.2):=by
 rw[Af,if_neg (by decide),if_neg (by decide),if_pos rfl,if_pos hk]at h;obtain⟨x,h1,h2⟩:=bind_some h;exact⟨x,h1,(Option.some.inj h2).symm⟩
theorem A0p(hk:kT s=35)(h:Af (n+1) 2 0 .nil s=some r):∃x,Af n 2 0 .nil (Ao s)=some x/\r=(nd (Ba 14 (B1 s).line) x.1,x.2):=by
 rw[Af,if_neg (by decide),if_neg (by decide),if_pos rfl,if_neg (by omega),if_pos hk]at h;obtain⟨x,h1,h2⟩:=bind_some h;exact⟨x,h1,(Option.some.inj h2).symm⟩
theorem Vv(h1:kT s≠28)(h2:kT s≠35)(h:Af (n+1) 2 0 .nil s=some r):∃x,Af n 4 0 .nil s=some x/\Af n 3 0 x.1 x.2=some r:=by
 rw[Af,if_neg (by decide),if_neg (by decide),if_pos rfl,if_neg h1,if_neg h2]at h;exact bind_some h
theorem y8{n:Nat}{acc:BT A6}{s:PS}{r:BT A6×PS}(hk:kT s=22)(h:Af (n+1) 3 0 acc s=some r) :
  ∃y,Af n 0 0 .nil (Ao s)=some y/\Af n 3 0 (nd (Ba 12 (B1 s).line) (E0 acc y.1)) (Bb 23 y.2)=some r:=by
 rw[Af,if_neg (by decide),if_neg (by decide),if_neg (by decide),if_pos rfl,if_pos hk]at h;exact bind_some h
theorem Xb{n:Nat}{acc:BT A6}{s:PS}{r:BT A6×PS}(hk:kT s≠22)(h:Af (n+1) 3 0 acc s=some r):r=(acc,s):=by
 rw[Af,if_neg (by decide),if_neg (by decide),if_neg (by decide),if_pos rfl,if_neg hk]at h;exact(Option.some.inj h).symm
theorem u9{n a:Nat}{s:PS}{r:BT A6×PS}(hk:kT s=a)(h:Af (n+1) 5 a .nil s=some r):r=(.nil,Ao s):=by
 rw[Af,if_neg (by decide),if_neg (by decide),if_neg (by decide),if_neg (by decide),if_neg (by decide),if_pos rfl,if_pos hk]at h;exact(Option.some.inj h).symm
theorem V3{n a:Nat}{s:PS}{r:BT A6×PS}(hk:kT s≠a)(h:Af (n+1) 5 a .nil s=some r):(Af n 0 0 .nil s).bind (fun y=>Af n 6 a (E0 .nil y.1) y.2)=some r:=by
 rw[Af,if_neg (by decide),if_neg (by decide),if_neg (by decide),if_neg (by decide),if_neg (by decide),if_pos rfl,if_neg hk]at h;exact h
theorem A0a{n a:Nat}{acc:BT A6}{s:PS}{r:BT A6×PS}(hk:kT s=24)(h:Af (n+1) 6 a acc s=some r):(Af n 0 0 .nil (Ao s)).bind (fun y=>Af n 6 a (E0 acc y.1) y.2)=some r:=by
 rw[Af,if_neg (by decide),if_neg (by decide),if_neg (by decide),if_neg (by decide),if_neg (by decide),if_neg (by decide),if_pos rfl,if_pos hk]at h;exact h
theorem Z6{n a:Nat}{acc:BT A6}{s:PS}{r:BT A6×PS}(hk:kT s≠24)(h:Af (n+1) 6 a acc s=some r):r=(acc,Bb a s):=by
 rw[Af,if_neg (by decide),if_neg (by decide),if_neg (by decide),if_neg (by decide),if_neg (by decide),if_neg (by decide),if_pos rfl,if_neg hk]at h;exact(Option.some.inj h).symm
theorem Sz{s:PS}(h:s.ts=[Jj]):kT s=0:=by unfold kT B1;rw[h];rfl
theorem A0k{s:PS}(h:s.bad≠0):Ed s=s:=by unfold Ed;rw[if_neg h]
theorem Zr{s:PS}(h:s.ts=[Jj]):Ao s=s:=by unfold Ao;rw[if_pos (Sz h)]
theorem Wr{s:PS}(k:Nat)(h:s.ts=[Jj])(hb:s.bad≠0):Bb k s=s:=by
 unfold Bb;split
 ·exact Zr h
 ·exact A0k hb
theorem Agp{s:PS}(h:s.ts=[Jj])(hb:s.bad≠0):∀n acc r,L0 n acc s=some r->r.2=s:=by
 intro n;induction n with
 | zero=>intro acc r hr;rw[L0]at hr;cases hr
 | succ n ih=>
  intro acc r hr;rw[L0,Wr 1 h hb,if_neg (by rw[Sz h];decide)]at hr;have:=(Option.some.inj hr).symm;rw[this,Wr 19 h hb]
theorem A0g{s:PS}(h:s.ts=[Jj])(hb:s.bad≠0)(n:Nat)(r:List (Nat×List UInt8)×PS)(hr:params n s=some r):r.2=s:=by
 unfold params at hr;rw[if_neg (by rw[Sz h];decide)]at hr;exact Agp h hb n [] r hr
theorem Ai7{α β:Type}{o:Option (α×PS)}{f:α×PS->Option (β×PS)}{s:PS}{r:β×PS}(h:o.bind f=some r)(h1:∀x,o=some x->x.2=s)(h2:∀x,o=some x->x.2=s->f x=some r->r.2=s):r.2=s:=by
 obtain⟨x,k1,k2⟩:=bind_some h;exact h2 x k1 (h1 x k1) k2
theorem Pn{s:PS}(h:s.ts=[Jj])(hb:s.bad≠0):∀n t a acc r,Af n t a acc s=some r->r.2=s:=by
 intro n;have k0:kT s=0:=Sz h;have e1:=Zr h;have e2:=A0k hb;have e3:=fun k=>Wr k h hb;induction n with
 | zero=>intro t a acc r hr;rw[Af]at hr;cases hr
 | succ n ih=>
  intro t a acc r hr;rw[Af]at hr;simp only[k0,e1,e2,e3]at hr;have two:∀{t1 a1:Nat} {acc1:BT A6} {f:BT A6×PS->Option (BT A6×PS)},(Af n t1 a1 acc1 s).bind f=some r->(∀x,x.2=s->f x=some r->r.2=s)->r.2=s:=
   fun hh hf=>Ai7 hh (fun x hx=>ih _ _ _ _ hx) (fun x _ hxs hfx=>hf x hxs hfx)
  have fin:∀{y:BT A6} {s':PS},some (y,s')=some r->s'=s->r.2=s:=fun hh he=>by cases hh;exact he
  by_cases t0:t=0
  ·rw[if_pos t0]at hr;by_cases a6:a=6
   ·rw[if_pos a6]at hr;exact ih _ _ _ _ hr
   ·rw[if_neg a6]at hr;exact two hr (fun x hx hf=>by rw[hx]at hf;exact ih _ _ _ _ hf)
  rw[if_neg t0]at hr;by_cases t1:t=1
  ·rw[if_pos t1,if_neg (by simp[rowOf])]at hr;exact fin hr rfl
  rw[if_neg t1]at hr;by_cases t2:t=2
  ·rw[if_pos t2,if_neg (by decide),if_neg (by decide)]at hr;exact two hr (fun x hx hf=>by rw[hx]at hf;exact ih _ _ _ _ hf)
  rw[if_neg t2]at hr;by_cases t3:t=3
  ·rw[if_pos t3,if_neg (by decide)]at hr;exact fin hr rfl
  rw[if_neg t3]at hr;by_cases t4:t=4
  ·rw[if_pos t4]at hr;iterate 10 (rw[if_neg (by decide)]at hr)
   exact fin hr rfl
  rw[if_neg t4]at hr;by_cases t5:t=5
  ·rw[if_pos t5]at hr;by_cases ka:0=a
   ·rw[if_pos ka]at hr;exact fin hr rfl
   ·rw[if_neg ka]at hr;exact two hr (fun x hx hf=>by rw[hx]at hf;exact ih _ _ _ _ hf)
  rw[if_neg t5]at hr;by_cases t6:t=6
  ·rw[if_pos t6,if_neg (by decide)]at hr;exact fin hr rfl
  rw[if_neg t6]at hr;by_cases t7:t=7
  ·rw[if_pos t7]at hr;exact ih _ _ _ _ hr
  rw[if_neg t7]at hr;by_cases t8:t=8
  ·rw[if_pos t8,if_neg (by decide),if_pos hb]at hr;exact fin hr rfl
  rw[if_neg t8]at hr;by_cases t9:t=9
  ·rw[if_pos t9]at hr;iterate 7 (rw[if_neg (by decide)]at hr)
   refine two hr (fun x hx hf=>?_);rw[hx,k0,if_neg (by simp),if_neg (by decide)]at hf;exact fin hf (e3 25)
  rw[if_neg t9]at hr;by_cases t10:t=10
  ·rw[if_pos t10,if_pos trivial]at hr;exact fin hr rfl
  rw[if_neg t10]at hr;obtain⟨p,h1,h2⟩:=bind_some hr;have hp:=A0g h hb n p h1;rw[hp]at h2;exact two h2 (fun x hx hf=>fin hf hx)
theorem X7(hk:kT s=2)(h:Af (n+1) 4 0 .nil s=some r):r=(nd ⟨1,(B1 s).line,[],(B1 s).n,[]⟩ .nil,Ao s):=by
 rw[Af,if_neg (by decide),if_neg (by decide),if_neg (by decide),if_neg (by decide),if_pos rfl,if_pos hk]at h;exact(Option.some.inj h).symm
theorem e9(hk:kT s=3)(h:Af (n+1) 4 0 .nil s=some r):r=(nd ⟨2,(B1 s).line,(B1 s).s,0,[]⟩ .nil,Ao s):=by
 rw[Af,if_neg (by decide),if_neg (by decide),if_neg (by decide),if_neg (by decide),if_pos rfl,if_neg (by omega),if_pos hk]at h;exact(Option.some.inj h).symm
theorem Xp(hk:kT s=13)(h:Af (n+1) 4 0 .nil s=some r):r=(nd (Ba 3 (B1 s).line) .nil,Ao s):=by
 rw[Af,if_neg (by decide),if_neg (by decide),if_neg (by decide),if_neg (by decide),if_pos rfl,if_neg (by omega),if_neg (by omega),if_pos hk]at h;exact(Option.some.inj h).symm
theorem Zm(hk:kT s=14)(h:Af (n+1) 4 0 .nil s=some r):r=(nd (Ba 4 (B1 s).line) .nil,Ao s):=by
 rw[Af,if_neg (by decide),if_neg (by decide),if_neg (by decide),if_neg (by decide),if_pos rfl,if_neg (by omega),if_neg (by omega),if_neg (by omega),if_pos hk]at h;exact(Option.some.inj h).symm
theorem A29(hk:kT s=15)(h:Af (n+1) 4 0 .nil s=some r):r=(nd (Ba 5 (B1 s).line) .nil,Ao s):=by
 rw[Af,if_neg (by decide),if_neg (by decide),if_neg (by decide),if_neg (by decide),if_pos rfl,if_neg (by omega),if_neg (by omega),if_neg (by omega),if_neg (by omega),if_pos hk]at h;exact(Option.some.inj h).symm
theorem Y8(hk:kT s=1)(Cj:kT (Ao s)=18)(h:Af (n+1) 4 0 .nil s=some r):∃l,Af n 5 19 .nil (Ao (Ao s))=some l/\r=(nd ⟨7,(B1 s).line,(B1 s).s,0,[]⟩ l.1,l.2):=by
 rw[Af,if_neg (by decide),if_neg (by decide),if_neg (by decide),if_neg (by decide),if_pos rfl,if_neg (by omega),if_neg (by omega),if_neg (by omega),if_neg (by omega),if_neg (by omega),if_pos hk,if_pos Cj]at h;obtain⟨x,h1,h2⟩:=bind_some h;exact⟨x,h1,(Option.some.inj h2).symm⟩
theorem b9(hk:kT s=1)(Cj:kT (Ao s)≠18)(h:Af (n+1) 4 0 .nil s=some r):r=(nd ⟨6,(B1 s).line,(B1 s).s,0,[]⟩ .nil,Ao s):=by
 rw[Af,if_neg (by decide),if_neg (by decide),if_neg (by decide),if_neg (by decide),if_pos rfl,if_neg (by omega),if_neg (by omega),if_neg (by omega),if_neg (by omega),if_neg (by omega),if_pos hk,if_neg Cj]at h;exact(Option.some.inj h).symm
theorem o7(hk:kT s=18)(h:Af (n+1) 4 0 .nil s=some r):∃x,Af n 0 0 .nil (Ao s)=some x/\r=(nd (Ba 8 (B1 s).line) x.1,Bb 19 x.2):=by
 rw[Af,if_neg (by decide),if_neg (by decide),if_neg (by decide),if_neg (by decide),if_pos rfl,if_neg (by omega),if_neg (by omega),if_neg (by omega),if_neg (by omega),if_neg (by omega),if_neg (by omega),if_pos hk]at h;obtain⟨x,h1,h2⟩:=bind_some h;exact⟨x,h1,(Option.some.inj h2).symm⟩
theorem Xd(hk:kT s=22)(h:Af (n+1) 4 0 .nil s=some r):∃l,Af n 5 23 .nil (Ao s)=some l/\r=(nd (Ba 9 (B1 s).line) l.1,l.2):=by
 rw[Af,if_neg (by decide),if_neg (by decide),if_neg (by decide),if_neg (by decide),if_pos rfl,if_neg (by omega),if_neg (by omega),if_neg (by omega),if_neg (by omega),if_neg (by omega),if_neg (by omega),if_neg (by omega),if_pos hk]at h;obtain⟨x,h1,h2⟩:=bind_some h;exact⟨x,h1,(Option.some.inj h2).symm⟩
theorem A0u(hk:kT s=16)(h:Af (n+1) 4 0 .nil s=some r):∃x,Af n 0 0 .nil (Bb 18 (Ao s))=some x/\r=(nd (Ba 10 (B1 s).line) x.1,Bb 19 x.2):=by
 rw[Af,if_neg (by decide),if_neg (by decide),if_neg (by decide),if_neg (by decide),if_pos rfl,if_neg (by omega),if_neg (by omega),if_neg (by omega),if_neg (by omega),if_neg (by omega),if_neg (by omega),if_neg (by omega),if_neg (by omega),if_pos hk]at h;obtain⟨x,h1,h2⟩:=bind_some h;exact⟨x,h1,(Option.some.inj h2).symm⟩
theorem A0b(hk:kT s=17)(h:Af (n+1) 4 0 .nil s=some r):∃x y,Af n 0 0 .nil (Bb 18 (Ao s))=some x/\Af n 0 0 .nil (Bb 24 x.2)=some y/\r=(nd (Ba 11 (B1 s).line) (E0 x.1 y.1),Bb 19 y.2):=by
 rw[Af,if_neg (by decide),if_neg (by decide),if_neg (by decide),if_neg (by decide),if_pos rfl,if_neg (by omega),if_neg (by omega),if_neg (by omega),if_neg (by omega),if_neg (by omega),if_neg (by omega),if_neg (by omega),if_neg (by omega),if_neg (by omega),if_pos hk]at h;obtain⟨x,h1,h2⟩:=bind_some h;obtain⟨y,h3,h4⟩:=bind_some h2;exact⟨x,y,h1,h3,(Option.some.inj h4).symm⟩
theorem Vu(h1:kT s≠2)(h2:kT s≠3)(h3:kT s≠13)(h4:kT s≠14)(h5:kT s≠15)(h6:kT s≠1)(h7:kT s≠18)(h8:kT s≠22)(h9:kT s≠16)(h10:kT s≠17)(h:Af (n+1) 4 0 .nil s=some r):r=(.nil,Ed s):=by
 rw[Af,if_neg (by decide),if_neg (by decide),if_neg (by decide),if_neg (by decide),if_pos rfl,if_neg h1,if_neg h2,if_neg h3,if_neg h4,if_neg h5,if_neg h6,if_neg h7,if_neg h8,if_neg h9,if_neg h10]at h;exact(Option.some.inj h).symm
theorem A08(h:Af (n+1) 7 0 .nil s=some r):Af n 8 0 .nil (Bb 20 s)=some r:=by
 rw[Af,if_neg (by decide),if_neg (by decide),if_neg (by decide),if_neg (by decide),if_neg (by decide),if_neg (by decide),if_neg (by decide),if_pos rfl]at h;exact h
theorem Xm{n:Nat}{acc:BT A6}{s:PS}{r:BT A6×PS}(hk:kT s=21)(h:Af (n+1) 8 0 acc s=some r):r=(acc,Ao s):=by
 rw[Af,if_neg (by decide),if_neg (by decide),if_neg (by decide),if_neg (by decide),if_neg (by decide),if_neg (by decide),if_neg (by decide),if_neg (by decide),if_pos rfl,if_pos hk]at h;exact(Option.some.inj h).symm
theorem V2{n:Nat}{acc:BT A6}{s:PS}{r:BT A6×PS}(hk:kT s≠21)(hb:s.bad=0)(h:Af (n+1) 8 0 acc s=some r):∃x,Af n 9 0 .nil s=some x/\Af n 8 0 (E0 acc x.1) x.2=some r:=by
 rw[Af,if_neg (by decide),if_neg (by decide),if_neg (by decide),if_neg (by decide),if_neg (by decide),if_neg (by decide),if_neg (by decide),if_neg (by decide),if_pos rfl,if_neg hk,if_neg (by simpa using hb)]at h;exact bind_some h
theorem Z7(hk:kT s=5)(h:Af (n+1) 9 0 .nil s=some r):∃x,Af n 0 0 .nil (Bb 26 (Bb 1 (Ao s)))=some x/\r=(nd ⟨21,(B1 (Ao s)).line,(B1 (Ao s)).s,0,[]⟩ x.1,Bb 25 x.2):=by
 rw[Af,if_neg (by decide),if_neg (by decide),if_neg (by decide),if_neg (by decide),if_neg (by decide),if_neg (by decide),if_neg (by decide),if_neg (by decide),if_neg (by decide),if_pos rfl,if_pos hk]at h;obtain⟨x,h1,h2⟩:=bind_some h;exact⟨x,h1,(Option.some.inj h2).symm⟩
theorem Yz(hk:kT s=6)(h:Af (n+1) 9 0 .nil s=some r):∃x bl,Af n 0 0 .nil (Ao s)=some x/\Af n 7 0 .nil x.2=some bl/\
  ((kT bl.2=7/\∃c,Af n 7 0 .nil (Ao bl.2)=some c/\r=(nd (Ba 22 (B1 s).line) (E0 x.1 (E0 (nd (Ba 31 0) bl.1) (nd (Ba 31 0) c.1))),c.2))\/(kT bl.2≠7/\r=(nd (Ba 22 (B1 s).line) (E0 x.1 (nd (Ba 31 0) bl.1)),bl.2))):=by
 rw[Af,if_neg (by decide),if_neg (by decide),if_neg (by decide),if_neg (by decide),if_neg (by decide),if_neg (by decide),if_neg (by decide),if_neg (by decide),if_neg (by decide),if_pos rfl,if_neg (by omega),if_pos hk]at h;obtain⟨x,h1,h2⟩:=bind_some h;obtain⟨bl,h3,h4⟩:=bind_some h2;refine⟨x,bl,h1,h3,?_⟩;by_cases h7:kT bl.2=7
 ·rw[if_pos h7]at h4;obtain⟨c,h5,h6⟩:=bind_some h4;exact .inl ⟨h7,c,h5,(Option.some.inj h6).symm⟩
 ·rw[if_neg h7]at h4;exact .inr ⟨h7,(Option.some.inj h4).symm⟩
theorem A17(hk:kT s=8)(h:Af (n+1) 9 0 .nil s=some r):∃x bl,Af n 0 0 .nil (Ao s)=some x/\Af n 7 0 .nil x.2=some bl/\r=(nd (Ba 23 (B1 s).line) (E0 x.1 (nd (Ba 32 0) bl.1)),bl.2):=by
 rw[Af,if_neg (by decide),if_neg (by decide),if_neg (by decide),if_neg (by decide),if_neg (by decide),if_neg (by decide),if_neg (by decide),if_neg (by decide),if_neg (by decide),if_pos rfl,if_neg (by omega),if_neg (by omega),if_pos hk]at h;obtain⟨x,h1,h2⟩:=bind_some h;obtain⟨bl,h3,h4⟩:=bind_some h2;exact⟨x,bl,h1,h3,(Option.some.inj h4).symm⟩
theorem A20(hk:kT s=9)(Cj:kT (Ao s)=25)(h:Af (n+1) 9 0 .nil s=some r):r=(nd (Ba 24 (B1 s).line) .nil,Bb 25 (Ao s)):=by
 rw[Af,if_neg (by decide),if_neg (by decide),if_neg (by decide),if_neg (by decide),if_neg (by decide),if_neg (by decide),if_neg (by decide),if_neg (by decide),if_neg (by decide),if_pos rfl,if_neg (by omega),if_neg (by omega),if_neg (by omega),if_pos hk,if_pos Cj]at h;exact(Option.some.inj h).symm
theorem A28(hk:kT s=9)(Cj:kT (Ao s)≠25)(h:Af (n+1) 9 0 .nil s=some r):∃x,Af n 0 0 .nil (Ao s)=some x/\r=(nd (Ba 24 (B1 s).line) x.1,Bb 25 x.2):=by
 rw[Af,if_neg (by decide),if_neg (by decide),if_neg (by decide),if_neg (by decide),if_neg (by decide),if_neg (by decide),if_neg (by decide),if_neg (by decide),if_neg (by decide),if_pos rfl,if_neg (by omega),if_neg (by omega),if_neg (by omega),if_pos hk,if_neg Cj]at h;obtain⟨x,h1,h2⟩:=bind_some h;exact⟨x,h1,(Option.some.inj h2).symm⟩
theorem s9(hk:kT s=10)(h:Af (n+1) 9 0 .nil s=some r):r=(nd (Ba 25 (B1 s).line) .nil,Bb 25 (Ao s)):=by
 rw[Af,if_neg (by decide),if_neg (by decide),if_neg (by decide),if_neg (by decide),if_neg (by decide),if_neg (by decide),if_neg (by decide),if_neg (by decide),if_neg (by decide),if_pos rfl,if_neg (by omega),if_neg (by omega),if_neg (by omega),if_neg (by omega),if_pos hk]at h;exact(Option.some.inj h).symm
theorem A2g(hk:kT s=11)(h:Af (n+1) 9 0 .nil s=some r):r=(nd (Ba 26 (B1 s).line) .nil,Bb 25 (Ao s)):=by
 rw[Af,if_neg (by decide),if_neg (by decide),if_neg (by decide),if_neg (by decide),if_neg (by decide),if_neg (by decide),if_neg (by decide),if_neg (by decide),if_neg (by decide),if_pos rfl,if_neg (by omega),if_neg (by omega),if_neg (by omega),if_neg (by omega),if_neg (by omega),if_pos hk]at h;exact(Option.some.inj h).symm
theorem Y4(hk:kT s=12)(h:Af (n+1) 9 0 .nil s=some r):∃x,Af n 0 0 .nil (Ao s)=some x/\r=(nd (Ba 27 (B1 s).line) x.1,Bb 25 x.2):=by
 rw[Af,if_neg (by decide),if_neg (by decide),if_neg (by decide),if_neg (by decide),if_neg (by decide),if_neg (by decide),if_neg (by decide),if_neg (by decide),if_neg (by decide),if_pos rfl,if_neg (by omega),if_neg (by omega),if_neg (by omega),if_neg (by omega),if_neg (by omega),if_neg (by omega),if_pos hk]at h;obtain⟨x,h1,h2⟩:=bind_some h;exact⟨x,h1,(Option.some.inj h2).symm⟩
theorem Vr(hk:¬(5<=kT s/\kT s<=12/\kT s≠7))(h:Af (n+1) 9 0 .nil s=some r):∃x,Af n 0 0 .nil s=some x/\
  ((Q1 x.1=true/\kT x.2=26/\∃v,Af n 0 0 .nil (Ao x.2)=some v/\r=(setNode x.1 v.1,Bb 25 v.2))\/(Q1 x.1=false/\kT x.2=26/\∃v,Af n 0 0 .nil (Ed x.2)=some v/\r=(nd (Ba 30 (Jd x.1).line) x.1,Bb 25 v.2))\/
  (kT x.2≠26/\r=(nd (Ba 30 (Jd x.1).line) x.1,Bb 25 x.2))):=by
 rw[Af,if_neg (by decide),if_neg (by decide),if_neg (by decide),if_neg (by decide),if_neg (by decide),if_neg (by decide),if_neg (by decide),if_neg (by decide),if_neg (by decide),if_pos rfl,if_neg (by omega),if_neg (by omega),if_neg (by omega),if_neg (by omega),if_neg (by omega),if_neg (by omega),if_neg (by omega)]at h;obtain⟨x,h1,h2⟩:=bind_some h;refine⟨x,h1,?_⟩;by_cases h26:kT x.2=26
 ·cases hc:Q1 x.1
  ·rw[if_neg (by rw[hc];simp),if_pos h26]at h2;obtain⟨v,h3,h4⟩:=bind_some h2;exact .inr (.inl ⟨rfl,h26,v,h3,(Option.some.inj h4).symm⟩)
  ·rw[if_pos ⟨hc,h26⟩]at h2;obtain⟨v,h3,h4⟩:=bind_some h2;exact .inl ⟨rfl,h26,v,h3,(Option.some.inj h4).symm⟩
 ·rw[if_neg (fun e=>h26 e.2),if_neg h26]at h2;exact .inr (.inr ⟨h26,(Option.some.inj h2).symm⟩)
end
section
open Go.Deep (BT)
theorem A1g{n:Nat}{s:PS}{r:BT A6×PS}(h:Af (n+1) 11 0 .nil s=some r):∃p b,params n (Bb 18 (Bb 1 (Ao s)))=some p/\Af n 7 0 .nil p.2=some b/\r=(nd ⟨20,(B1 (Ao s)).line,(B1 (Ao s)).s,0,p.1⟩ b.1,b.2):=by
 rw[Af,if_neg (by decide),if_neg (by decide),if_neg (by decide),if_neg (by decide),if_neg (by decide),if_neg (by decide),if_neg (by decide),if_neg (by decide),if_neg (by decide),if_neg (by decide),if_neg (by decide)]at h;obtain⟨p,h1,h2⟩:=bind_some h;obtain⟨b,h3,h4⟩:=bind_some h2;exact⟨p,b,h1,h3,(Option.some.inj h4).symm⟩
def nest:List Tk->Int->Nat
 | [],_=>0
 | t::r,o=>
  if t.k=18\/t.k=20\/t.k=22 then(if 30<=o then t.line else nest r (o+1))
  else if t.k=19\/t.k=21\/t.k=23 then nest r (o-1)
  else nest r o
abbrev Nm:=List UInt8
abbrev Cn:=Nat×Nat
def E2(is:Bool)(code line:Nat)(f:Cn):Cn:=if is&&f.1==0 then(code,line) else f
def P1:List (Nm×Nat)->Nm->Option Nat
 | [],_=>none
 | f::r,s=>if f.1=s then some f.2 else P1 r s
def Nn(fns:List (Nm×Nat))(s:Nm)(n:Nat):Bool:=match P1 fns s with
 | none=>true
 | some m=>m !=n
def Bp(fns:List (Nm×Nat)):BT A6->List Nm->List Nm->Nat->Bool->Cn->List Nm×Cn
 | .nil,_,cur,_,_,f=>(cur,f)
 | .node _ _ l ch sib,outer,cur,wh,inn,f=>
  if l.kd=31 then Bp fns sib outer cur wh inn (Bp fns ch (outer++cur) [] wh inn f).2
  else if l.kd=32 then Bp fns sib outer cur wh inn (Bp fns ch (outer++cur) [] (wh+1) inn f).2
  else if l.kd=21 then
   Bp fns sib outer ((Bp fns ch outer cur wh inn (E2 (decide (l.s∈cur)) 3 l.line f)).1++[l.s]) wh inn (Bp fns ch outer cur wh inn (E2 (decide (l.s∈cur)) 3 l.line f)).2
  else
   let f1:=if l.kd=6\/l.kd=28 then E2 (!decide (l.s∈outer++cur)) 3 l.line f
    else if l.kd=7 then E2 (Nn fns l.s (Ar ch)) 3 l.line f
    else if l.kd=25\/l.kd=26 then E2 (wh==0) 4 l.line f
    else if l.kd=24 then E2 (!inn) 4 l.line f
    else f
   Bp fns sib outer (Bp fns ch outer cur wh inn f1).1 wh inn (Bp fns ch outer cur wh inn f1).2
def Iv:List (Nat×Nm)->List Nm->Cn->List Nm×Cn
 | [],cur,f=>(cur,f)
 | p::r,cur,f=>Iv r (cur++[p.2]) (E2 (decide (p.2∈cur)) 3 p.1 f)
def Ez(fns:List (Nm×Nat)):BT A6->List Nm->List Nm->Cn->Cn
 | .nil,_,_,f=>f
 | .node x y l ch sib,seen,cur,f=>
  if l.kd=20 then
   let f1:=E2 (decide (l.s∈seen)) 3 l.line f
   let p:=Iv l.ps [] f1
   Ez fns sib (seen++[l.s]) cur (Bp fns ch cur p.1 0 true p.2).2
  else Ez fns sib seen (Bp fns (.node x y l ch .nil) [] cur 0 false f).1 (Bp fns (.node x y l ch .nil) [] cur 0 false f).2
def Cs:BT A6->List (Nm×Nat)
 | .nil=>[]
 | .node _ _ l _ sib=>if l.kd=20 then(l.s,l.ps.length)::Cs sib else Cs sib
theorem Ahz(is:Bool)(code line:Nat)(f:Cn)(h:f.1≠0):E2 is code line f=f:=by
 unfold E2;rw[if_neg];simp[h]
theorem A4e(fns:List (Nm×Nat))(x y:Nat)(l:A6)(ch sib:BT A6)(outer cur:List Nm)(wh:Nat)(inn:Bool)(f:Cn) :
  Bp fns (.node x y l ch sib) outer cur wh inn f=Bp fns sib outer (Bp fns (.node x y l ch .nil) outer cur wh inn f).1 wh inn (Bp fns (.node x y l ch .nil) outer cur wh inn f).2:=by
 by_cases h1:l.kd=31
 ·simp only[Bp,if_pos h1]
 ·by_cases h2:l.kd=32
  ·simp only[Bp,if_neg h1,if_pos h2]
  ·by_cases h3:l.kd=21
   ·simp only[Bp,if_neg h1,if_neg h2,if_pos h3]
   ·simp only[Bp,if_neg h1,if_neg h2,if_neg h3]
def bsize:BT A6->Nat
 | .nil=>0
 | .node _ _ l c r=>1+l.ps.length+bsize c+bsize r
theorem Cd(l:A6)(c:BT A6):bsize (nd l c)=1+l.ps.length+bsize c:=by simp[nd,bsize]
theorem x8(fns:List (Nm×Nat)):∀(f:BT A6) (outer cur:List Nm) (wh:Nat) (inn:Bool) (v:Cn),(Bp fns f outer cur wh inn v).1.length<=cur.length+bsize f:=by
 intro f;induction f with
 | nil=>intro outer cur wh inn v;simp[Bp,bsize]
 | node x y l c r Dm Cw=>
  intro outer cur wh inn v;rw[bsize];by_cases h1:l.kd=31
  ·simp only[Bp,if_pos h1];exact Nat.le_trans (Cw _ _ _ _ _) (by omega)
  by_cases h2:l.kd=32
  ·simp only[Bp,if_neg h1,if_pos h2];exact Nat.le_trans (Cw _ _ _ _ _) (by omega)
  by_cases h3:l.kd=21
  ·simp only[Bp,if_neg h1,if_neg h2,if_pos h3];refine Nat.le_trans (Cw _ _ _ _ _) ?_;rw[List.length_append,List.length_singleton];have:=Dm outer cur wh inn (E2 (decide (l.s∈cur)) 3 l.line v);omega
  ·simp only[Bp,if_neg h1,if_neg h2,if_neg h3];refine Nat.le_trans (Cw _ _ _ _ _) ?_;exact Nat.le_trans (Nat.add_le_add_right (Dm _ _ _ _ _) _) (by omega)
theorem A0v{fns:List (Nm×Nat)}{s:Nm}{n:Nat}:s∈(fns.take n).map (·.1)↔∃j,∃h:j<fns.length,j<n/\fns[j].1=s:=by
 constructor
 ·intro h;obtain⟨p,hp,e⟩:=List.mem_map.mp h;obtain⟨j,hj,e2⟩:=List.getElem_of_mem hp;rw[List.length_take]at hj;refine⟨j,by omega,by omega,?_⟩;rw[List.getElem_take]at e2;rw[e2];exact e
 ·rintro⟨j,h,hj,e⟩;refine List.mem_map.mpr ⟨fns[j],?_,e⟩;have:(fns.take n)[j]'(by rw[List.length_take];omega)=fns[j]:=List.getElem_take;rw[←this];exact List.getElem_mem _
theorem Aer{fns:List (Nm×Nat)}{n:Nat}{p:Nm×Nat}{r:List (Nm×Nat)}(h:fns.drop n=p::r):∃hn:n<fns.length,fns[n]=p/\fns.drop (n+1)=r/\(fns.take (n+1)).map (·.1)=(fns.take n).map (·.1)++[p.1]:=by
 have hn:n<fns.length:=by
  apply Decidable.byContradiction;intro h2;rw[List.drop_eq_nil_of_le (by omega)]at h;cases h
 rw[List.drop_eq_getElem_cons hn]at h;injection h with h1 h2;refine⟨hn,h1,h2,?_⟩;rw[List.take_succ_eq_append_getElem hn,List.map_append,h1];rfl
theorem Aju(fns:List (Nm×Nat))(x y:Nat)(l:A6)(ch sib:BT A6)(seen cur:List Nm)(f:Cn)(h:l.kd=20):Ez fns (.node x y l ch sib) seen cur f=Ez fns sib (seen++[l.s]) cur (Bp fns ch cur (Iv l.ps [] (E2 (decide (l.s∈seen)) 3 l.line f)).1 0 true (Iv l.ps [] (E2 (decide (l.s∈seen)) 3 l.line f)).2).2:=by
 rw[Ez,if_pos h]
theorem Ajr(fns:List (Nm×Nat))(x y:Nat)(l:A6)(ch sib:BT A6)(seen cur:List Nm)(f:Cn)(h:l.kd≠20):Ez fns (.node x y l ch sib) seen cur f=Ez fns sib seen (Bp fns (.node x y l ch .nil) [] cur 0 false f).1 (Bp fns (.node x y l ch .nil) [] cur 0 false f).2:=by
 rw[Ez,if_neg h]
theorem A2l(x y:Nat)(l:A6)(ch sib:BT A6)(h:l.kd=20):Cs (.node x y l ch sib)=(l.s,l.ps.length)::Cs sib:=by
 rw[Cs,if_pos h]
theorem Ys(x y:Nat)(l:A6)(ch sib:BT A6)(h:l.kd≠20):Cs (.node x y l ch sib)=Cs sib:=by
 rw[Cs,if_neg h]
theorem Vj{p:Prop}[Decidable p]{a b m:Nat}(ha:a<=m)(hb:b<=m):(if p then a else b)<=m:=by
 split
 ·exact ha
 ·exact hb
theorem Aik(l:List UInt8):Lc l<=17:=by
 unfold Lc;repeat refine Vj (by decide) ?_
 exact Nat.zero_le _
theorem A81(c d:UInt8):K2 c d<=40:=by
 unfold K2;repeat refine Vj (by decide) ?_
 exact Nat.zero_le _
theorem j9(c:UInt8):Ia c<=40:=by
 unfold Ia;repeat refine Vj (by decide) ?_
 exact Nat.zero_le _
theorem Xr(l:List UInt8)(h:(Gm l).2≠0):1<=(Gm l).1/\(Gm l).1<=40:=by
 unfold Gm at h ⊢;split
 ·exact absurd rfl h
 ·rename_i c;simp only at h;split
  ·rename_i h1;rw[if_pos h1]at h;exact absurd rfl h
  ·rename_i h1;have:=j9 c;have h2:Ia c≠0:=fun e=>h1 (by rw[e];rfl);exact⟨by show 1<=Ia c;omega,this⟩
 ·rename_i c d r;simp only at h;split
  ·rename_i h1;have:=A81 c d;have h2:K2 c d≠0:=by simpa using h1
   exact⟨by show 1<=K2 c d;omega,this⟩
  ·rename_i h0;rw[if_neg h0]at h;split
   ·rename_i h1;rw[if_pos h1]at h;exact absurd rfl h
   ·rename_i h1;have:=j9 c;have h2:Ia c≠0:=fun e=>h1 (by rw[e];rfl);exact⟨by show 1<=Ia c;omega,this⟩
theorem Ru(c:UInt8)(r:List UInt8)(t:Tk)(n:Nat)(h:Er (c::r)=some (t,n)):1<=t.k/\t.k<=40/\1<=n:=by
 rw[Er]at h;split at h
 ·rename_i hd;split at h
  ·injection h with h;injection h with h1 h2;subst h1 h2;refine⟨by simp,by simp,?_⟩;rw[List.takeWhile_cons,if_pos hd];simp
  ·cases h
 ·split at h
  ·rename_i hl;have hn:E4 c=true:=by unfold E4;rw[hl];rfl
   split at h
   ·rename_i hw;injection h with h;injection h with h1 h2;subst h1 h2;have:=Aik ((c::r).takeWhile E4);have G4:Lc ((c::r).takeWhile E4)≠0:=by simpa using hw
    refine⟨by show 1<=Lc _;omega,by show Lc _<=40;omega,?_⟩;rw[List.takeWhile_cons,if_pos hn];simp
   ·split at h
    ·injection h with h;injection h with h1 h2;subst h1 h2;refine⟨by simp,by simp,?_⟩;rw[List.takeWhile_cons,if_pos hn];simp
    ·cases h
  ·split at h
   ·split at h
    ·injection h with h;injection h with h1 h2;subst h1 h2;exact⟨by simp,by simp,by omega⟩
    ·cases h
   ·split at h
    ·cases h
    ·rename_i h0;injection h with h;injection h with h1 h2;subst h1 h2;have hz:(Gm (c::r)).2≠0:=fun e=>h0 (by rw[e];rfl);exact⟨(Xr _ hz).1,(Xr _ hz).2,by omega⟩
def Je(line:Nat)(m:Nat):List Tk->Prop
 | []=>False
 | x::r=>line<=x.line/\x.line<=line+m/\x.k<=40/\((x.k=0/\r=[])\/(x.k≠0/\Je line m r))
theorem Je.weak{a b m k:Nat}(h1:b<=a)(h2:a+m<=b+k):∀ts,Je a m ts->Je b k ts:=by
 intro ts;induction ts with
 | nil=>intro h;exact h
 | cons x r ih=>
  rintro⟨k1,k2,k3,k4⟩;refine⟨by omega,by omega,k3,?_⟩;rcases k4 with h|⟨h,h'⟩
  ·exact .inl h
  ·exact .inr ⟨h,ih h'⟩
def Qg(line m:Nat):Nat ⊕ List Tk->Prop
 | .inl n=>line<=n/\n<=line+m
 | .inr ts=>ts.length<=m+1/\Je line m ts
theorem Qg.weak{a b m k:Nat}{x:Nat ⊕ List Tk}(h:Qg a m x)(h1:b<=a)(h2:a+m<=b+k)(h3:m<=k):Qg b k x:=by
 cases x with
 | inl n=>obtain⟨k1,k2⟩:=h;exact⟨by omega,by omega⟩
 | inr ts=>obtain⟨k1,k2⟩:=h;exact⟨by omega,Je.weak h1 h2 _ k2⟩
theorem Akz:∀(f:Nat) (l:List UInt8) (line:Nat) (said:Bool),Qg line l.length (lex f l line said):=by
 intro f;induction f with
 | zero=>intro l line said;rw[lex];exact⟨Nat.le_refl _,by omega⟩
 | succ f ih=>
  intro l line said;cases l with
  | nil=>rw[lex];exact⟨by simp,Nat.le_refl _,by simp,by simp,.inl ⟨rfl,rfl⟩⟩
  | cons c r=>
   rw[lex,List.length_cons];split
   ·exact(ih r (line+1) false).weak (by omega) (by omega) (by omega)
   ·split
    ·exact⟨Nat.le_refl _,by omega⟩
    ·split
     ·exact(ih r line _).weak (by omega) (by omega) (by omega)
     ·cases ht:Er (c::r) with
      | none=>exact⟨Nat.le_refl _,by omega⟩
      | some p=>
       obtain⟨t,n⟩:=p;obtain⟨k1,k2,k3⟩:=Ru c r t n ht;have:=ih ((c::r).drop n) line false;have hl:((c::r).drop n).length<=r.length:=by rw[List.length_drop,List.length_cons];omega
       show Qg line (r.length+1) (match lex f ((c::r).drop n) line false with
        | .inl l=>.inl l
        | .inr ts=>.inr ({ t with line:=line }::ts))
       cases hx:lex f ((c::r).drop n) line false with
       | inl m=>rw[hx]at this;obtain⟨j1,j2⟩:=this;exact⟨by omega,by omega⟩
       | inr ts=>
        rw[hx]at this;obtain⟨j1,j2⟩:=this;exact⟨by rw[List.length_cons];omega,Nat.le_refl _,by show line<=_;omega,k2,.inr ⟨by show t.k≠0;omega,Je.weak (by omega) (by omega) _ j2⟩⟩
theorem Je.last{line m:Nat}:∀ts,Je line m ts->∀i (h:i<ts.length),ts[i].k=0↔i+1=ts.length:=by
 intro ts;induction ts with
 | nil=>intro h;exact absurd h id
 | cons x r ih=>
  rintro⟨_,_,_,k4⟩ i hi;rcases k4 with⟨h,rfl⟩|⟨h,h2⟩
  ·simp only[List.length_cons,List.length_nil]at hi ⊢;obtain rfl:i=0:=by omega
   simp[h]
  ·cases i with
   | zero=>
    have:r≠[]:=by rintro rfl;exact h2
    have:0<r.length:=List.length_pos_iff.mpr this;simp only[List.getElem_cons_zero,List.length_cons];omega
   | succ i=>
    simp only[List.getElem_cons_succ,List.length_cons]at hi ⊢;have:=ih h2 i (by omega);omega
theorem Je.mem{line m:Nat}:∀ts,Je line m ts->∀t∈ts,line<=t.line/\t.line<=line+m/\t.k<=40:=by
 intro ts;induction ts with
 | nil=>intro _ t ht;cases ht
 | cons x r ih=>
  rintro⟨k1,k2,k3,k4⟩ t ht;rcases List.mem_cons.mp ht with rfl|ht
  ·exact⟨k1,k2,k3⟩
  ·rcases k4 with⟨_,rfl⟩|⟨_,h2⟩
   ·cases ht
   ·exact ih h2 t ht
theorem Amx(l:List UInt8)(h:l.length<=2000):(∃n,lex (l.length+1) l 1 false=.inl n/\1<=n/\n<=2001)\/∃ts,lex (l.length+1) l 1 false=.inr ts/\ts.length<=2001/\Je 1 2000 ts:=by
 have hf:=Akz (l.length+1) l 1 false;cases hx:lex (l.length+1) l 1 false with
 | inl n=>rw[hx]at hf;obtain⟨k1,k2⟩:=hf;exact .inl ⟨n,rfl,k1,by omega⟩
 | inr ts=>rw[hx]at hf;obtain⟨k1,k2⟩:=hf;exact .inr ⟨ts,rfl,by omega,Je.weak (Nat.le_refl _) (by omega) _ k2⟩
def Il(kd:Nat):Bool:=(decide (1<=kd)&&decide (kd<=14))||(decide (127<=kd)&&decide (kd<=140))
def Oo(kd:Nat):Bool:=kd==21||(decide (24<=kd)&&decide (kd<=30))
def Wf:Nat->BT A6->Prop
 | _,.nil=>True
 | m,.node _ _ l c r=>Wf m r/\(((m=0\/m=2\/m=3)/\Il l.kd=true/\Wf 0 c)\/(m=2/\l.kd=31/\Wf 1 c)\/(m=3/\l.kd=32/\Wf 1 c)\/
   ((m=1\/m=4)/\l.kd=22/\Wf 2 c)\/((m=1\/m=4)/\l.kd=23/\Wf 3 c)\/((m=1\/m=4)/\Oo l.kd=true/\Wf 0 c)\/(m=4/\l.kd=20/\Wf 1 c))
theorem Wf.app:∀(m:Nat) (f g:BT A6),Wf m f->Wf m g->Wf m (E0 f g):=by
 intro m f;induction f with
 | nil=>intro g _ h;exact h
 | node x y l c r Dm Cw=>intro g h1 h2;exact⟨Cw g h1.1 h2,h1.2⟩
theorem Wf.ex{l:A6}{c:BT A6}(h:Il l.kd=true)(hc:Wf 0 c):Wf 0 (nd l c):=⟨trivial,.inl ⟨.inl rfl,h,hc⟩⟩
theorem Wf.st{l:A6}{c:BT A6}(h:Oo l.kd=true)(hc:Wf 0 c):Wf 1 (nd l c):=⟨trivial,.inr (.inr (.inr (.inr (.inr (.inl ⟨.inl rfl,h,hc⟩)))))⟩
theorem Wf.Yi:∀(f:BT A6),Wf 0 f->Wf 2 f:=by
 intro f;induction f with
 | nil=>intro _;trivial
 | node x y l c r Dm Cw=>
  intro h;refine⟨Cw h.1,?_⟩;rcases h.2 with⟨_,h1,h2⟩|⟨h1,_⟩|⟨h1,_⟩|⟨h1,_⟩|⟨h1,_⟩|⟨h1,_⟩|⟨h1,_⟩
  ·exact .inl ⟨.inr (.inl rfl),h1,h2⟩
  all_goals omega
theorem Wf.up3:∀(f:BT A6),Wf 0 f->Wf 3 f:=by
 intro f;induction f with
 | nil=>intro _;trivial
 | node x y l c r Dm Cw=>
  intro h;refine⟨Cw h.1,?_⟩;rcases h.2 with⟨_,h1,h2⟩|⟨h1,_⟩|⟨h1,_⟩|⟨h1,_⟩|⟨h1,_⟩|⟨h1,_⟩|⟨h1,_⟩
  ·exact .inl ⟨.inr (.inr rfl),h1,h2⟩
  all_goals omega
theorem Wf.up4:∀(f:BT A6),Wf 1 f->Wf 4 f:=by
 intro f;induction f with
 | nil=>intro _;trivial
 | node x y l c r Dm Cw=>
  intro h;refine⟨Cw h.1,?_⟩;rcases h.2 with⟨h0,_⟩|⟨h0,_⟩|⟨h0,_⟩|⟨_,h1,h2⟩|⟨_,h1,h2⟩|⟨_,h1,h2⟩|⟨h0,_⟩
  ·omega
  ·omega
  ·omega
  ·exact .inr (.inr (.inr (.inl ⟨.inr rfl,h1,h2⟩)))
  ·exact .inr (.inr (.inr (.inr (.inl ⟨.inr rfl,h1,h2⟩))))
  ·exact .inr (.inr (.inr (.inr (.inr (.inl ⟨.inr rfl,h1,h2⟩)))))
  ·omega
theorem Wf.A9n{f:BT A6}(h:Wf 0 f):Wf 0 (W6 f):=by
 cases f with
 | nil=>trivial
 | node x y l c r=>
  rcases h.2 with⟨_,h1,h2⟩|⟨h1,_⟩|⟨h1,_⟩|⟨h1,_⟩|⟨h1,_⟩|⟨h1,_⟩|⟨h1,_⟩
  ·exact h2
  all_goals omega
structure Tz (n : Nat) : Prop where
 expr:∀a s r,Af n 0 a .nil s=some r->Wf 0 r.1
 loop:∀a acc s r,Wf 0 acc->Af n 1 a acc s=some r->Wf 0 r.1
 unary:∀s r,Af n 2 0 .nil s=some r->Wf 0 r.1
 index:∀acc s r,Wf 0 acc->Af n 3 0 acc s=some r->Wf 0 r.1
 atom:∀s r,Af n 4 0 .nil s=some r->Wf 0 r.1
 list:∀a s r,Af n 5 a .nil s=some r->Wf 0 r.1
 more:∀a acc s r,Wf 0 acc->Af n 6 a acc s=some r->Wf 0 r.1
 block:∀s r,Af n 7 0 .nil s=some r->Wf 1 r.1
 stmts:∀acc s r,Wf 1 acc->Af n 8 0 acc s=some r->Wf 1 r.1
 stmt:∀s r,Af n 9 0 .nil s=some r->Wf 1 r.1
theorem A74{k a:Nat}(h:rowOf k=a+1):Il (100+k)=true:=by
 have:27<=k/\k<=40:=by
  unfold rowOf at h;repeat' split at h
  all_goals omega
 unfold Il;simp only[Bool.or_eq_true,Bool.and_eq_true,decide_eq_true_eq];omega
theorem Aln{n:Nat}(ih:Tz n){s:PS}{r:BT A6×PS}(h:Af (n+1) 4 0 .nil s=some r):Wf 0 r.1:=by
 by_cases c2:kT s=2
 ·rw[X7 c2 h];exact Wf.ex rfl trivial
 by_cases c3:kT s=3
 ·rw[e9 c3 h];exact Wf.ex rfl trivial
 by_cases c13:kT s=13
 ·rw[Xp c13 h];exact Wf.ex rfl trivial
 by_cases c14:kT s=14
 ·rw[Zm c14 h];exact Wf.ex rfl trivial
 by_cases c15:kT s=15
 ·rw[A29 c15 h];exact Wf.ex rfl trivial
 by_cases c1:kT s=1
 ·by_cases c18:kT (Ao s)=18
  ·obtain⟨x,hx,hr⟩:=Y8 c1 c18 h;rw[hr];exact Wf.ex rfl (ih.list _ _ _ hx)
  ·rw[b9 c1 c18 h];exact Wf.ex rfl trivial
 by_cases c18:kT s=18
 ·obtain⟨x,hx,hr⟩:=o7 c18 h;rw[hr];exact Wf.ex rfl (ih.expr _ _ _ hx)
 by_cases c22:kT s=22
 ·obtain⟨x,hx,hr⟩:=Xd c22 h;rw[hr];exact Wf.ex rfl (ih.list _ _ _ hx)
 by_cases c16:kT s=16
 ·obtain⟨x,hx,hr⟩:=A0u c16 h;rw[hr];exact Wf.ex rfl (ih.expr _ _ _ hx)
 by_cases c17:kT s=17
 ·obtain⟨x,y,hx,hy,hr⟩:=A0b c17 h;rw[hr];exact Wf.ex rfl (Wf.app _ _ _ (ih.expr _ _ _ hx) (ih.expr _ _ _ hy))
 rw[Vu c2 c3 c13 c14 c15 c1 c18 c22 c16 c17 h];trivial
theorem Ahr{n:Nat}(ih:Tz n){s:PS}{r:BT A6×PS}(h:Af (n+1) 9 0 .nil s=some r):Wf 1 r.1:=by
 by_cases c5:kT s=5
 ·obtain⟨x,hx,hr⟩:=Z7 c5 h;rw[hr];exact Wf.st rfl (ih.expr _ _ _ hx)
 by_cases c6:kT s=6
 ·obtain⟨x,bl,h1,h2,⟨h3,c,h4,e⟩|⟨h3,e⟩⟩:=Yz c6 h
  ·rw[e];refine⟨trivial,.inr (.inr (.inr (.inl ⟨.inl rfl,rfl,Wf.app _ _ _ (Wf.Yi _ (ih.expr _ _ _ h1)) (Wf.app _ _ _ ?_ ?_)⟩)))⟩
   ·exact⟨trivial,.inr (.inl ⟨rfl,rfl,ih.block _ _ h2⟩)⟩
   ·exact⟨trivial,.inr (.inl ⟨rfl,rfl,ih.block _ _ h4⟩)⟩
  ·rw[e];refine⟨trivial,.inr (.inr (.inr (.inl ⟨.inl rfl,rfl,Wf.app _ _ _ (Wf.Yi _ (ih.expr _ _ _ h1)) ?_⟩)))⟩;exact⟨trivial,.inr (.inl ⟨rfl,rfl,ih.block _ _ h2⟩)⟩
 by_cases c8:kT s=8
 ·obtain⟨x,bl,h1,h2,e⟩:=A17 c8 h;rw[e];refine⟨trivial,.inr (.inr (.inr (.inr (.inl ⟨.inl rfl,rfl,Wf.app _ _ _ (Wf.up3 _ (ih.expr _ _ _ h1)) ?_⟩))))⟩;exact⟨trivial,.inr (.inr (.inl ⟨rfl,rfl,ih.block _ _ h2⟩))⟩
 by_cases c9:kT s=9
 ·by_cases c25:kT (Ao s)=25
  ·rw[A20 c9 c25 h];exact Wf.st rfl trivial
  ·obtain⟨x,hx,hr⟩:=A28 c9 c25 h;rw[hr];exact Wf.st rfl (ih.expr _ _ _ hx)
 by_cases c10:kT s=10
 ·rw[s9 c10 h];exact Wf.st rfl trivial
 by_cases c11:kT s=11
 ·rw[A2g c11 h];exact Wf.st rfl trivial
 by_cases c12:kT s=12
 ·obtain⟨x,hx,hr⟩:=Y4 c12 h;rw[hr];exact Wf.st rfl (ih.expr _ _ _ hx)
 obtain⟨x,hx,⟨_,_,v,hv,e⟩|⟨_,_,v,hv,e⟩|⟨_,e⟩⟩:=Vr (by omega) h
 ·rw[e];show Wf 1 (setNode x.1 v.1);unfold setNode;split
  ·exact Wf.st rfl (ih.expr _ _ _ hv)
  ·exact Wf.st rfl (Wf.app _ _ _ (ih.expr _ _ _ hx).A9n (ih.expr _ _ _ hv))
 ·rw[e];exact Wf.st rfl (ih.expr _ _ _ hx)
 ·rw[e];exact Wf.st rfl (ih.expr _ _ _ hx)
theorem A1t:∀n,Tz n:=by
 intro n;induction n with
 | zero=>exact⟨fun _ _ _ h=>absurd h (G9 _ _ _ _ _),fun _ _ _ _ _ h=>absurd h (G9 _ _ _ _ _),fun _ _ h=>absurd h (G9 _ _ _ _ _),fun _ _ _ _ h=>absurd h (G9 _ _ _ _ _),fun _ _ h=>absurd h (G9 _ _ _ _ _),fun _ _ _ h=>absurd h (G9 _ _ _ _ _),fun _ _ _ _ _ h=>absurd h (G9 _ _ _ _ _),fun _ _ h=>absurd h (G9 _ _ _ _ _),fun _ _ _ _ h=>absurd h (G9 _ _ _ _ _),fun _ _ h=>absurd h (G9 _ _ _ _ _)⟩
 | succ n ih=>
  refine⟨?_,?_,?_,?_,fun s r h=>Aln ih h,?_,?_,fun s r h=>ih.stmts .nil _ _ trivial (A08 h),?_,fun s r h=>Ahr ih h⟩
  ·intro a s r h;by_cases h6:a=6
   ·subst h6;exact ih.unary _ _ (Ua h)
   ·obtain⟨x,h1,h2⟩:=Vt h6 h;exact ih.loop _ _ _ _ (ih.expr _ _ _ h1) h2
  ·intro a acc s r hacc h;by_cases hk:rowOf (kT s)=a+1
   ·obtain⟨z,h1,h2⟩:=A12 hk h;exact ih.loop _ _ _ _ (Wf.ex (A74 hk) (Wf.app _ _ _ hacc (ih.expr _ _ _ h1))) h2
   ·rw[A06 hk h];exact hacc
  ·intro s r h;by_cases c28:kT s=28
   ·obtain⟨x,h1,e⟩:=Zt c28 h;rw[e];exact Wf.ex rfl (ih.unary _ _ h1)
   by_cases c35:kT s=35
   ·obtain⟨x,h1,e⟩:=A0p c35 h;rw[e];exact Wf.ex rfl (ih.unary _ _ h1)
   obtain⟨x,h1,h2⟩:=Vv c28 c35 h;exact ih.index _ _ _ (ih.atom _ _ h1) h2
  ·intro acc s r hacc h;by_cases c22:kT s=22
   ·obtain⟨z,h1,h2⟩:=y8 c22 h;exact ih.index _ _ _ (Wf.ex rfl (Wf.app _ _ _ hacc (ih.expr _ _ _ h1))) h2
   ·rw[Xb c22 h];exact hacc
  ·intro a s r h;by_cases hk:kT s=a
   ·rw[u9 hk h];trivial
   ·obtain⟨y,h1,h2⟩:=bind_some (V3 hk h);exact ih.more _ _ _ _ (ih.expr _ _ _ h1) h2
  ·intro a acc s r hacc h;by_cases hk:kT s=24
   ·obtain⟨y,h1,h2⟩:=bind_some (A0a hk h);exact ih.more _ _ _ _ (Wf.app _ _ _ hacc (ih.expr _ _ _ h1)) h2
   ·rw[Z6 hk h];exact hacc
  ·intro acc s r hacc h;by_cases c21:kT s=21
   ·rw[Xm c21 h];exact hacc
   by_cases hb:s.bad=0
   ·obtain⟨x,h1,h2⟩:=V2 c21 hb h;exact ih.stmts _ _ _ (Wf.app _ _ _ hacc (ih.stmt _ _ h1)) h2
   ·rw[Af]at h;rw[if_neg (by decide),if_neg (by decide),if_neg (by decide),if_neg (by decide),if_neg (by decide),if_neg (by decide),if_neg (by decide),if_neg (by decide),if_pos rfl,if_neg c21,if_pos hb]at h;rw[←Option.some.inj h];exact hacc
theorem Ak9:∀n acc s r,Wf 4 acc->Af n 10 0 acc s=some r->Wf 4 r.1:=by
 intro n;induction n with
 | zero=>intro acc s r _ h;exact absurd h (G9 _ _ _ _ _)
 | succ n ih=>
  intro acc s r hacc h;rw[Af]at h;rw[if_neg (by decide),if_neg (by decide),if_neg (by decide),if_neg (by decide),if_neg (by decide),if_neg (by decide),if_neg (by decide),if_neg (by decide),if_neg (by decide),if_neg (by decide),if_pos rfl]at h;by_cases c0:kT s=0
  ·rw[if_pos c0]at h;rw[←Option.some.inj h];exact hacc
  rw[if_neg c0]at h;by_cases c4:kT s=4
  ·rw[if_pos c4]at h;obtain⟨x,h1,h2⟩:=bind_some h;cases n with
   | zero=>exact absurd h1 (G9 _ _ _ _ _)
   | succ n=>
    obtain⟨p,b,_,h3,e⟩:=A1g h1;refine ih _ _ _ (Wf.app _ _ _ hacc ?_) h2;rw[e];exact⟨trivial,.inr (.inr (.inr (.inr (.inr (.inr ⟨rfl,rfl,(A1t _).block _ _ h3⟩)))))⟩
  ·rw[if_neg c4]at h;obtain⟨x,h1,h2⟩:=bind_some h;exact ih _ _ _ (Wf.app _ _ _ hacc (Wf.up4 _ ((A1t _).stmt _ _ h1))) h2
theorem Kc(fns:List (Nm×Nat)):∀(f:BT A6),Wf 0 f->∀(outer cur:List Nm) (wh:Nat) (inn:Bool) (v:Cn),(Bp fns f outer cur wh inn v).1=cur:=by
 intro f;induction f with
 | nil=>intro _ outer cur wh inn v;rfl
 | node x y l c r Dm Cw=>
  intro h outer cur wh inn v;have h1:Il l.kd=true/\Wf 0 c:=by
   rcases h.2 with⟨_,h1,h2⟩|⟨h1,_⟩|⟨h1,_⟩|⟨h1,_⟩|⟨h1,_⟩|⟨h1,_⟩|⟨h1,_⟩
   ·exact⟨h1,h2⟩
   all_goals omega
  have hk:l.kd≠31/\l.kd≠32/\l.kd≠21:=by
   have:=h1.1;unfold Il at this;simp only[Bool.or_eq_true,Bool.and_eq_true,decide_eq_true_eq]at this;omega
  rw[Bp,if_neg hk.1,if_neg hk.2.1,if_neg hk.2.2,Cw h.1,Dm h1.2]
structure PV where
 k:Nat
 y:Bool
 n:Int
 t:List UInt8
 r:Option Nat
def Ai:PV:=⟨0,false,0,[],none⟩
structure Ad where
 op:Nat
 arg:Int
 line:Nat
 v:PV
structure Em where
 loc:List Nm
 slots:Nat
 st:List Ad
 lps:List (Nat×List Nat)
def Em.step(o:Nat)(a:Int)(ln:Nat)(e:Em):Em:=⟨e.loc,e.slots,e.st++[⟨o,a,ln,Ai⟩],e.lps⟩
def Em.J2(v:PV)(e:Em):Em:=⟨e.loc,e.slots,e.st++[⟨0,0,0,v⟩],e.lps⟩
def Lv:Nat->Int->List Ad->List Ad
 | _,_,[]=>[]
 | 0,a,i::r=>⟨i.op,a,i.line,i.v⟩::r
 | j+1,a,i::r=>i::Lv j a r
def Em.land(j:Nat)(e:Em):Em:=⟨e.loc,e.slots,Lv j (e.st.length:Nat) e.st,e.lps⟩
def Em.Hj:List Nat->Em->Em
 | [],e=>e
 | j::r,e=>Em.Hj r (e.land j)
def N8(s:Nm):List Nm->Option Nat
 | []=>none
 | x::r=>match N8 s r with
  | some i=>some (i+1)
  | none=>if x=s then some 0 else none
def My(s:Nm):List Nm->Option Nat
 | []=>none
 | x::r=>if x=s then some 0 else match My s r with
  | some i=>some (i+1)
  | none=>none
def Em.var(gl:List Nm)(s:Nm)(lo gb:Nat)(e:Em):Em:=match N8 s e.loc with
 | some i=>e.step lo (i:Nat) 0
 | none=>match My s gl with
  | some i=>e.step gb (i:Nat) 0
  | none=>e
def N5(fns:List (Nm×Nat))(s:Nm):Int:=match My s (fns.map Prod.fst) with
 | some i=>(i:Nat)
 | none=>-1
def binOp(s:Nat):Nat:=
 if s=40 then 10 else if s=39 then 9 else if s=27 then 25 else if s=29 then 26 else if s=30 then 29 else if s=31 then 31 else if s=32 then 28
 else if s=33 then 30 else if s=34 then 12 else if s=35 then 15 else if s=36 then 17 else if s=37 then 19 else 21
def Em.Kz(e:Em):Em:=match e.lps with
 | []=>e
 | (s,bs)::r=>⟨e.loc,e.slots,e.st++[⟨6,0,0,Ai⟩],(s,bs++[e.st.length])::r⟩
def Em.cnt(e:Em):Em:=match e.lps with
 | []=>e
 | (s,_)::_=>e.step 6 (s:Nat) 0
def Em.local'(s:Nm)(e:Em):Em:=⟨e.loc++[s],max e.slots (e.loc.length+1),e.st,e.lps⟩
def Em.cut(n:Nat)(e:Em):Em:=⟨e.loc.take n,e.slots,e.st,e.lps⟩
def Em.open'(e:Em):Em:=⟨e.loc,e.slots,e.st,(e.st.length,[])::e.lps⟩
def Em.close(e:Em):Em:=⟨e.loc,e.slots,e.st,e.lps.tail⟩
def Em.Sr(e:Em):List Nat:=match e.lps with
 | []=>[]
 | (_,bs)::_=>bs
def Ld(line n:Nat)(k:Nat->Em->Em)(e:Em):Em:=
 let a:=k 1 e
 let b:=k 2 (a.step 8 0 line)
 let d:=(b.step 6 0 0).land a.st.length
 (if n=3 then k 3 d else d).land b.st.length
def Lr(line:Nat)(k:Nat->Em->Em)(e:Em):Em:=
 let a:=k 1 e.open'
 let b:=k 2 (a.step 7 0 line)
 let d:=(b.step 6 (e.st.length:Nat) 0).land a.st.length
 (d.Hj d.Sr).close
def Mk(o line:Nat)(k:Nat->Em->Em)(e:Em):Em:=
 let a:=k 1 e
 let b:=k 2 (a.step o 0 line)
 (b.step 11 0 line).land a.st.length
def An(fns:List (Nm×Nat))(gl:List Nm)(l:A6)(n:Nat)(k:Nat->Em->Em)(e:Em):Em:=
 match l.kd with
 | 1=>e.J2 ⟨2,false,l.n,[],none⟩
 | 2=>e.J2 ⟨3,false,0,l.s,none⟩
 | 3=>e.J2 ⟨1,true,0,[],none⟩
 | 4=>e.J2 ⟨1,false,0,[],none⟩
 | 5=>e.J2 Ai
 | 6=>e.var gl l.s 1 2
 | 7=>(k 0 e).step 42 (N5 fns l.s) l.line
 | 8=>k 0 e
 | 9=>(k 0 e).step 36 (n:Nat) l.line
 | 10=>(k 0 e).step 37 0 l.line
 | 11=>(k 0 e).step 38 0 l.line
 | 12=>(k 0 e).step 39 0 l.line
 | 13=>(k 0 e).step 27 0 l.line
 | 14=>(k 0 e).step 23 0 l.line
 | 21=>((k 0 e).local' l.s).step 3 ((k 0 e).loc.length:Nat) 0
 | 22=>Ld l.line n k e
 | 23=>Lr l.line k e
 | 24=>if n=0 then e.step 43 0 0 else(k 0 e).step 44 0 0
 | 25=>e.Kz
 | 26=>e.cnt
 | 27=>(k 0 e).step 41 0 l.line
 | 28=>(k 0 e).var gl l.s 3 4
 | 29=>(k 0 e).step 40 0 l.line
 | 30=>(k 0 e).step 5 0 0
 | 31=>(k 0 e).cut e.loc.length
 | 32=>(k 0 e).cut e.loc.length
 | kd=>if kd=139\/kd=140 then Mk (binOp (kd-100)) l.line k e else(k 0 e).step (binOp (kd-100)) 0 l.line
def em(fns:List (Nm×Nat))(gl:List Nm):BT A6->Nat->Em->Em
 | .nil,_,e=>e
 | .node _ _ l c r,m,e=>
  if 2<=m then em fns gl r (m-1) e
  else if m=1 then An fns gl l (Ar c) (fun m' e'=>em fns gl c m' e') e
  else em fns gl r 0 (An fns gl l (Ar c) (fun m' e'=>em fns gl c m' e') e)
structure Fn where
 name:Nm
 params:Nat
 slots:Nat
 steps:List Ad
structure Db where
 globals:Nat
 slots:Nat
 main:List Ad
 fns:List Fn
def Md(fns:List (Nm×Nat))(gl:List Nm)(l:A6)(c:BT A6):Fn:=
 let e:=(em fns gl c 0 ⟨l.ps.map Prod.snd,l.ps.length,[],[]⟩).step 43 0 0
 ⟨l.s,l.ps.length,e.slots,e.st⟩
def Oc(fns:List (Nm×Nat)):BT A6->List Nm->List Fn->Em->Db
 | .nil,gl,fs,e=>⟨gl.length,e.slots,e.st,fs⟩
 | .node _ _ l c r,gl,fs,e=>
  if l.kd=20 then Oc fns r gl (fs++[Md fns gl l c]) e
  else if l.kd=21 then Oc fns r (gl++[l.s]) fs ((em fns gl c 0 e).step 4 (gl.length:Nat) 0)
  else Oc fns r gl fs (em fns gl (nd l c) 0 e)
def Lt(c:BT A6):Db:=Oc (Cs c) c [] [] ⟨[],0,[],[]⟩
theorem Pg(fns:List (Nm×Nat))(gl:List Nm)(x y:Nat)(l:A6)(c r:BT A6)(e:Em):em fns gl (.node x y l c r) 1 e=An fns gl l (Ar c) (em fns gl c) e:=rfl
theorem Ib(fns:List (Nm×Nat))(gl:List Nm)(x y:Nat)(l:A6)(c r:BT A6)(e:Em):em fns gl (.node x y l c r) 0 e=em fns gl r 0 (An fns gl l (Ar c) (em fns gl c) e):=rfl
theorem Yw(fns:List (Nm×Nat))(gl:List Nm)(l:A6)(c:BT A6)(e:Em):em fns gl (nd l c) 0 e=An fns gl l (Ar c) (em fns gl c) e:=rfl
theorem Rz(fns:List (Nm×Nat))(gl:List Nm)(x y:Nat)(l:A6)(c r:BT A6)(e:Em):em fns gl (.node x y l c r) 2 e=em fns gl r 1 e:=rfl
theorem Aml(fns:List (Nm×Nat))(gl:List Nm)(x y:Nat)(l:A6)(c r:BT A6)(e:Em):em fns gl (.node x y l c r) 3 e=em fns gl r 2 e:=rfl
end
end Go.Proofs.YtjdlndhfaaolaaaGreatDoor
