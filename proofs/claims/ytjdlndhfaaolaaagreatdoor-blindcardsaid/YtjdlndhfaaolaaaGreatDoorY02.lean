import Derived.Deep.Trees
import Derived.Test.YtjdlndhfaaolaaaGreatDoorY01
set_option maxHeartbeats 20000000
set_option linter.defProp false
namespace Go.Proofs.YtjdlndhfaaolaaaGreatDoor
section
open Go.Deep (BT)
structure A5 where
 kd:Nat
 line:Nat
 s:List UInt8
 n:Int
 ps:List (Nat×List UInt8)
def nd(l:A5)(ch:BT A5):BT A5:=.node 0 0 l ch .nil
def Dw:BT A5->BT A5->BT A5
 | .nil,b=>b
 | .node x y l c r,b=>.node x y l c (Dw r b)
def Aj:BT A5->Nat
 | .nil=>0
 | .node _ _ _ _ r=>Aj r+1
def I8:BT A5->A5
 | .nil=>⟨0,0,[],0,[]⟩
 | .node _ _ l _ _=>l
def Sw:BT A5->BT A5
 | .nil=>.nil
 | .node _ _ _ c _=>c
structure PS where
 ts:List Tk
 bad:Nat
def Kx:Tk:=⟨0,0,[],0⟩
def B6(s:PS):Tk:=s.ts.headD Kx
def kT(s:PS):Nat:=(B6 s).k
def Et(s:PS):PS:=if s.bad=0 then⟨[Kx],(B6 s).line⟩ else s
def At(s:PS):PS:=if kT s=0 then s else⟨s.ts.tail,s.bad⟩
def Be(k:Nat)(s:PS):PS:=if kT s=k then At s else Et s
def rowOf(k:Nat):Nat:=
 if k=40 then 1 else if k=39 then 2 else if k=27\/k=29 then 3 else if k=30\/k=31\/k=32\/k=33 then 4
 else if k=34\/k=35 then 5 else if k=36\/k=37\/k=38 then 6 else 0
def B4(kd line:Nat):A5:=⟨kd,line,[],0,[]⟩
def Mj:Nat->List (Nat×List UInt8)->PS->Option (List (Nat×List UInt8)×PS)
 | 0,_,_=>none
 | n+1,acc,s=>
  if kT (Be 1 s)=24 then Mj n (acc++[((B6 s).line,(B6 s).s)]) (At (Be 1 s))
  else some (acc++[((B6 s).line,(B6 s).s)],Be 19 (Be 1 s))
def params(n:Nat)(s:PS):Option (List (Nat×List UInt8)×PS):=if kT s=19 then some ([],At s) else Mj n [] s
def Qe(x:BT A5):Bool:=(I8 x).kd==6||(I8 x).kd==12
def setNode(x v:BT A5):BT A5:=
 if(I8 x).kd=6 then nd ⟨28,(I8 x).line,(I8 x).s,0,[]⟩ v else nd (B4 29 (I8 x).line) (Dw (Sw x) v)
def Ak:Nat->Nat->Nat->BT A5->PS->Option (BT A5×PS)
 | 0,_,_,_,_=>none
 | n+1,t,a,acc,s=>
  if t=0 then
   if a=6 then Ak n 2 0 .nil s
   else(Ak n 0 (a+1) .nil s).bind fun x=>Ak n 1 a x.1 x.2
  else if t=1 then
   if rowOf (kT s)=a+1 then(Ak n 0 (a+1) .nil (At s)).bind fun y=>Ak n 1 a (nd (B4 (100+kT s) (B6 s).line) (Dw acc y.1)) y.2
   else some (acc,s)
  else if t=2 then
   if kT s=28 then(Ak n 2 0 .nil (At s)).bind fun x=>some (nd (B4 13 (B6 s).line) x.1,x.2)
   else if kT s=35 then(Ak n 2 0 .nil (At s)).bind fun x=>some (nd (B4 14 (B6 s).line) x.1,x.2)
   else(Ak n 4 0 .nil s).bind fun x=>Ak n 3 0 x.1 x.2
  else if t=3 then
   if kT s=22 then(Ak n 0 0 .nil (At s)).bind fun y=>Ak n 3 0 (nd (B4 12 (B6 s).line) (Dw acc y.1)) (Be 23 y.2)
   else some (acc,s)
  else if t=4 then
   if kT s=2 then some (nd ⟨1,(B6 s).line,[],(B6 s).n,[]⟩ .nil,At s)
   else if kT s=3 then some (nd ⟨2,(B6 s).line,(B6 s).s,0,[]⟩ .nil,At s)
   else if kT s=13 then some (nd (B4 3 (B6 s).line) .nil,At s)
   else if kT s=14 then some (nd (B4 4 (B6 s).line) .nil,At s)
   else if kT s=15 then some (nd (B4 5 (B6 s).line) .nil,At s)
   else if kT s=1 then
    if kT (At s)=18 then(Ak n 5 19 .nil (At (At s))).bind fun l=>some (nd ⟨7,(B6 s).line,(B6 s).s,0,[]⟩ l.1,l.2)
    else some (nd ⟨6,(B6 s).line,(B6 s).s,0,[]⟩ .nil,At s)
   else if kT s=18 then(Ak n 0 0 .nil (At s)).bind fun x=>some (nd (B4 8 (B6 s).line) x.1,Be 19 x.2)
   else if kT s=22 then(Ak n 5 23 .nil (At s)).bind fun l=>some (nd (B4 9 (B6 s).line) l.1,l.2)
   else if kT s=16 then(Ak n 0 0 .nil (Be 18 (At s))).bind fun x=>some (nd (B4 10 (B6 s).line) x.1,Be 19 x.2)
   else if kT s=17 then(Ak n 0 0 .nil (Be 18 (At s))).bind fun x=>(Ak n 0 0 .nil (Be 24 x.2)).bind fun y=>some (nd (B4 11 (B6 s).line) (Dw x.1 y.1),Be 19 y.2)
   else some (.nil,Et s)
  else if t=5 then
   if kT s=a then some (.nil,At s)
   else(Ak n 0 0 .nil s).bind fun x=>Ak n 6 a x.1 x.2
  else if t=6 then
   if kT s=24 then(Ak n 0 0 .nil (At s)).bind fun y=>Ak n 6 a (Dw acc y.1) y.2
   else some (acc,Be a s)
  else if t=7 then Ak n 8 0 .nil (Be 20 s)
  else if t=8 then
   if kT s=21 then some (acc,At s)
   else if s.bad≠0 then some (acc,s)
   else(Ak n 9 0 .nil s).bind fun x=>Ak n 8 0 (Dw acc x.1) x.2
  else if t=9 then
   if kT s=5 then(Ak n 0 0 .nil (Be 26 (Be 1 (At s)))).bind fun x=>some (nd ⟨21,(B6 (At s)).line,(B6 (At s)).s,0,[]⟩ x.1,Be 25 x.2)
   else if kT s=6 then(Ak n 0 0 .nil (At s)).bind fun x=>(Ak n 7 0 .nil x.2).bind fun b=>
    if kT b.2=7 then(Ak n 7 0 .nil (At b.2)).bind fun c=>some (nd (B4 22 (B6 s).line) (Dw x.1 (Dw (nd (B4 31 0) b.1) (nd (B4 31 0) c.1))),c.2)
    else some (nd (B4 22 (B6 s).line) (Dw x.1 (nd (B4 31 0) b.1)),b.2)
   else if kT s=8 then(Ak n 0 0 .nil (At s)).bind fun x=>(Ak n 7 0 .nil x.2).bind fun b=>some (nd (B4 23 (B6 s).line) (Dw x.1 (nd (B4 32 0) b.1)),b.2)
   else if kT s=9 then
    if kT (At s)=25 then some (nd (B4 24 (B6 s).line) .nil,Be 25 (At s))
    else(Ak n 0 0 .nil (At s)).bind fun x=>some (nd (B4 24 (B6 s).line) x.1,Be 25 x.2)
   else if kT s=10 then some (nd (B4 25 (B6 s).line) .nil,Be 25 (At s))
   else if kT s=11 then some (nd (B4 26 (B6 s).line) .nil,Be 25 (At s))
   else if kT s=12 then(Ak n 0 0 .nil (At s)).bind fun x=>some (nd (B4 27 (B6 s).line) x.1,Be 25 x.2)
   else(Ak n 0 0 .nil s).bind fun x=>
    if Qe x.1=true/\kT x.2=26 then(Ak n 0 0 .nil (At x.2)).bind fun v=>some (setNode x.1 v.1,Be 25 v.2)
    else if kT x.2=26 then(Ak n 0 0 .nil (Et x.2)).bind fun v=>some (nd (B4 30 (I8 x.1).line) x.1,Be 25 v.2)
    else some (nd (B4 30 (I8 x.1).line) x.1,Be 25 x.2)
  else if t=10 then
   if kT s=0 then some (acc,s)
   else if kT s=4 then(Ak n 11 0 .nil s).bind fun x=>Ak n 10 0 (Dw acc x.1) x.2
   else(Ak n 9 0 .nil s).bind fun x=>Ak n 10 0 (Dw acc x.1) x.2
  else
   (params n (Be 18 (Be 1 (At s)))).bind fun p=>(Ak n 7 0 .nil p.2).bind fun b=>
    some (nd ⟨20,(B6 (At s)).line,(B6 (At s)).s,0,p.1⟩ b.1,b.2)
end
section
open Go.Deep (BT)
variable {n:Nat}{s:PS}{r:BT A5×PS}
def bind_some{α β:Type}{o:Option α}{f:α->Option β}{r:β}(h:o.bind f=some r):∃x,o=some x/\f x=some r:=by
 cases o with
 | none=>cases h
 | some x=>exact⟨x,rfl,h⟩
def M6(t a:Nat)(acc:BT A5)(s:PS)(r:BT A5×PS):Ak 0 t a acc s≠some r:=by intro h;rw[Ak]at h;cases h
def A84(h:Ak (n+1) 0 6 .nil s=some r):Ak n 2 0 .nil s=some r:=by
 rw[Ak,A7 rfl,A7 rfl]at h;exact h
def A83{n a:Nat}{s:PS}{r:BT A5×PS}(ha:a≠6)(h:Ak (n+1) 0 a .nil s=some r):∃x,Ak n 0 (a+1) .nil s=some x/\Ak n 1 a x.1 x.2=some r:=by
 rw[Ak,A7 rfl,A1 ha]at h;exact bind_some h
def z4oa {P:Prop} (h:P:=by decide):P:=h
def Anq{n a:Nat}{acc:BT A5}{s:PS}{r:BT A5×PS}(hk:rowOf (kT s)=a+1)(h:Ak (n+1) 1 a acc s=some r) :
  ∃y,Ak n 0 (a+1) .nil (At s)=some y/\Ak n 1 a (nd (B4 (100+kT s) (B6 s).line) (Dw acc y.1)) y.2=some r:=by
 rw[Ak,A1 z4oa,A7 rfl,A7 hk]at h;exact bind_some h
def Anp{n a:Nat}{acc:BT A5}{s:PS}{r:BT A5×PS}(hk:rowOf (kT s)≠a+1)(h:Ak (n+1) 1 a acc s=some r):r=(acc,s):=by
 rw[Ak,A1 z4oa,A7 rfl,A1 hk]at h;cases h;rfl
def z18a {P:Prop} (h:P:=by
  obtain⟨x,h1,h2⟩:=bind_some h;exact⟨x,h1,(Dl h2).symm⟩):P:=h
def Anu(hk:kT s=28)(h:Ak (n+1) 2 0 .nil s=some r):∃x,Ak n 2 0 .nil (At s)=some x/\r=(nd (B4 13 (B6 s).line) x.1,x.2):=by
 rw[Ak,A1 z4oa,A1 z4oa,A7 rfl,A7 hk]at h;exact z18a
def Ant(hk:kT s=35)(h:Ak (n+1) 2 0 .nil s=some r):∃x,Ak n 2 0 .nil (At s)=some x/\r=(nd (B4 14 (B6 s).line) x.1,x.2):=by
 rw[Ak,A1 z4oa,A1 z4oa,A7 rfl,Ai,A7 hk]at h;exact z18a
def A87(h1:kT s≠28)(h2:kT s≠35)(h:Ak (n+1) 2 0 .nil s=some r):∃x,Ak n 4 0 .nil s=some x/\Ak n 3 0 x.1 x.2=some r:=by
 rw[Ak,A1 z4oa,A1 z4oa,A7 rfl,A1 h1,A1 h2]at h;exact bind_some h
def Anj{n:Nat}{acc:BT A5}{s:PS}{r:BT A5×PS}(hk:kT s=22)(h:Ak (n+1) 3 0 acc s=some r) :
  ∃y,Ak n 0 0 .nil (At s)=some y/\Ak n 3 0 (nd (B4 12 (B6 s).line) (Dw acc y.1)) (Be 23 y.2)=some r:=by
 rw[Ak,A1 z4oa,A1 z4oa,A1 z4oa,A7 rfl,A7 hk]at h;exact bind_some h
def z3ta {P:Prop} (h:P:=by
  exact(Dl h).symm):P:=h
def Ank{n:Nat}{acc:BT A5}{s:PS}{r:BT A5×PS}(hk:kT s≠22)(h:Ak (n+1) 3 0 acc s=some r):r=(acc,s):=by
 rw[Ak,A1 z4oa,A1 z4oa,A1 z4oa,A7 rfl,A1 hk]at h;exact z3ta
def Ano{n a:Nat}{s:PS}{r:BT A5×PS}(hk:kT s=a)(h:Ak (n+1) 5 a .nil s=some r):r=(.nil,At s):=by
 rw[Ak,A1 z4oa,A1 z4oa,A1 z4oa,A1 z4oa,A1 z4oa,A7 rfl,A7 hk]at h;exact z3ta
def A85{n a:Nat}{s:PS}{r:BT A5×PS}(hk:kT s≠a)(h:Ak (n+1) 5 a .nil s=some r):(Ak n 0 0 .nil s).bind (fun y=>Ak n 6 a (Dw .nil y.1) y.2)=some r:=by
 rw[Ak,A1 z4oa,A1 z4oa,A1 z4oa,A1 z4oa,A1 z4oa,A7 rfl,A1 hk]at h;exact h
def Anr{n a:Nat}{acc:BT A5}{s:PS}{r:BT A5×PS}(hk:kT s=24)(h:Ak (n+1) 6 a acc s=some r):(Ak n 0 0 .nil (At s)).bind (fun y=>Ak n 6 a (Dw acc y.1) y.2)=some r:=by
 rw[Ak,A1 z4oa,A1 z4oa,A1 z4oa,A1 z4oa,A1 z4oa,A1 z4oa,A7 rfl,A7 hk]at h;exact h
def Anm{n a:Nat}{acc:BT A5}{s:PS}{r:BT A5×PS}(hk:kT s≠24)(h:Ak (n+1) 6 a acc s=some r):r=(acc,Be a s):=by
 rw[Ak,A1 z4oa,A1 z4oa,A1 z4oa,A1 z4oa,A1 z4oa,A1 z4oa,A7 rfl,A1 hk]at h;exact z3ta
def Vi{s:PS}(h:s.ts=[Kx]):kT s=0:=by unfold kT B6;rw[h];rfl
def o8{s:PS}(h:s.bad≠0):Et s=s:=by unfold Et;rw[A1 h]
def A4l{s:PS}(h:s.ts=[Kx]):At s=s:=by unfold At;rw[A7 (Vi h)]
def p7{s:PS}(k:Nat)(h:s.ts=[Kx])(hb:s.bad≠0):Be k s=s:=by
 unfold Be;split
 ·exact A4l h
 ·exact o8 hb
def Ap4{s:PS}(h:s.ts=[Kx])(hb:s.bad≠0):∀n acc r,Mj n acc s=some r->r.2=s:=by
 intro n;induction n with
 | zero=>intro acc r hr;rw[Mj]at hr;cases hr
 | succ n ih=>
  intro acc r hr;rw[Mj,p7 1 h hb,A1 (by rw[Vi h];decide)]at hr;have:=(Dl hr).symm;rw[this,p7 19 h hb]
def A81{s:PS}(h:s.ts=[Kx])(hb:s.bad≠0)(n:Nat)(r:List (Nat×List UInt8)×PS)(hr:params n s=some r):r.2=s:=by
 unfold params at hr;rw[A1 (by rw[Vi h];decide)]at hr;exact Ap4 h hb n [] r hr
def Af1{α β:Type}{o:Option (α×PS)}{f:α×PS->Option (β×PS)}{s:PS}{r:β×PS}(h:o.bind f=some r)(h1:∀x,o=some x->x.2=s)(h2:∀x,o=some x->x.2=s->f x=some r->r.2=s):r.2=s:=by
 obtain⟨x,k1,k2⟩:=bind_some h;exact h2 x k1 (h1 x k1) k2
def z2xa {P:Prop} (h:P:=by
  exact two hr (fun x hx hf=>by rw[hx]at hf;exact ih _ _ _ _ hf)):P:=h
def z4ra {P:Prop} (h:P:=by simp):P:=h
def Uf{s:PS}(h:s.ts=[Kx])(hb:s.bad≠0):∀n t a acc r,Ak n t a acc s=some r->r.2=s:=by
 intro n;have k0:kT s=0:=Vi h;have e1:=A4l h;have e2:=o8 hb;have e3:=fun k=>p7 k h hb;induction n with
 | zero=>intro t a acc r hr;rw[Ak]at hr;cases hr
 | succ n ih=>
  intro t a acc r hr;rw[Ak]at hr;simp only[k0,e1,e2,e3]at hr;have two:∀{t1 a1:Nat} {acc1:BT A5} {f:BT A5×PS->Option (BT A5×PS)},(Ak n t1 a1 acc1 s).bind f=some r->(∀x,x.2=s->f x=some r->r.2=s)->r.2=s:=
   fun hh hf=>Af1 hh (fun x hx=>ih _ _ _ _ hx) (fun x _ hxs hfx=>hf x hxs hfx)
  have fin:∀{y:BT A5} {s':PS},some (y,s')=some r->s'=s->r.2=s:=fun hh he=>by cases hh;exact he
  by_cases t0:t=0
  ·rw[A7 t0]at hr;by_cases a6:a=6
   ·rw[A7 a6]at hr;exact ih _ _ _ _ hr
   ·rw[A1 a6]at hr;exact z2xa
  rw[A1 t0]at hr;by_cases t1:t=1
  ·rw[A7 t1,A1 (by simp[rowOf])]at hr;exact fin hr rfl
  rw[A1 t1]at hr;by_cases t2:t=2
  ·rw[A7 t2,A1 z4oa,A1 z4oa]at hr;exact z2xa
  rw[A1 t2]at hr;by_cases t3:t=3
  ·rw[A7 t3,A1 z4oa]at hr;exact fin hr rfl
  rw[A1 t3]at hr;by_cases t4:t=4
  ·rw[A7 t4]at hr;iterate 10 (rw[A1 z4oa]at hr)
   exact fin hr rfl
  rw[A1 t4]at hr;by_cases t5:t=5
  ·rw[A7 t5]at hr;by_cases ka:0=a
   ·rw[A7 ka]at hr;exact fin hr rfl
   ·rw[A1 ka]at hr;exact z2xa
  rw[A1 t5]at hr;by_cases t6:t=6
  ·rw[A7 t6,A1 z4oa]at hr;exact fin hr rfl
  rw[A1 t6]at hr;by_cases t7:t=7
  ·rw[A7 t7]at hr;exact ih _ _ _ _ hr
  rw[A1 t7]at hr;by_cases t8:t=8
  ·rw[A7 t8,A1 z4oa,A7 hb]at hr;exact fin hr rfl
  rw[A1 t8]at hr;by_cases t9:t=9
  ·rw[A7 t9]at hr;iterate 7 (rw[A1 z4oa]at hr)
   refine two hr (fun x hx hf=>?_);rw[hx,k0,A1 z4ra,A1 z4oa]at hf;exact fin hf (e3 25)
  rw[A1 t9]at hr;by_cases t10:t=10
  ·rw[A7 t10,A7 trivial]at hr;exact fin hr rfl
  rw[A1 t10]at hr;obtain⟨p,h1,h2⟩:=bind_some hr;have hp:=A81 h hb n p h1;rw[hp]at h2;exact two h2 (fun x hx hf=>fin hf hx)
def Anl(hk:kT s=2)(h:Ak (n+1) 4 0 .nil s=some r):r=(nd ⟨1,(B6 s).line,[],(B6 s).n,[]⟩ .nil,At s):=by
 rw[Ak,A1 z4oa,A1 z4oa,A1 z4oa,A1 z4oa,A7 rfl,A7 hk]at h;exact z3ta
def Ao9(hk:kT s=3)(h:Ak (n+1) 4 0 .nil s=some r):r=(nd ⟨2,(B6 s).line,(B6 s).s,0,[]⟩ .nil,At s):=by
 rw[Ak,A1 z4oa,A1 z4oa,A1 z4oa,A1 z4oa,A7 rfl,Ai,A7 hk]at h;exact z3ta
def Aoa(hk:kT s=13)(h:Ak (n+1) 4 0 .nil s=some r):r=(nd (B4 3 (B6 s).line) .nil,At s):=by
 rw[Ak,A1 z4oa,A1 z4oa,A1 z4oa,A1 z4oa,A7 rfl,Ai,Ai,A7 hk]at h;exact z3ta
def Ang(hk:kT s=14)(h:Ak (n+1) 4 0 .nil s=some r):r=(nd (B4 4 (B6 s).line) .nil,At s):=by
 rw[Ak,A1 z4oa,A1 z4oa,A1 z4oa,A1 z4oa,A7 rfl,Ai,Ai,Ai,A7 hk]at h;exact z3ta
def Anv(hk:kT s=15)(h:Ak (n+1) 4 0 .nil s=some r):r=(nd (B4 5 (B6 s).line) .nil,At s):=by
 rw[Ak,A1 z4oa,A1 z4oa,A1 z4oa,A1 z4oa,A7 rfl,Ai,Ai,Ai,Ai,A7 hk]at h;exact z3ta
def Anf(hk:kT s=1)(D4:kT (At s)=18)(h:Ak (n+1) 4 0 .nil s=some r):∃l,Ak n 5 19 .nil (At (At s))=some l/\r=(nd ⟨7,(B6 s).line,(B6 s).s,0,[]⟩ l.1,l.2):=by
 rw[Ak,A1 z4oa,A1 z4oa,A1 z4oa,A1 z4oa,A7 rfl,Ai,Ai,Ai,Ai,Ai,A7 hk,A7 D4]at h;exact z18a
def Ans(hk:kT s=1)(D4:kT (At s)≠18)(h:Ak (n+1) 4 0 .nil s=some r):r=(nd ⟨6,(B6 s).line,(B6 s).s,0,[]⟩ .nil,At s):=by
 rw[Ak,A1 z4oa,A1 z4oa,A1 z4oa,A1 z4oa,A7 rfl,Ai,Ai,Ai,Ai,Ai,A7 hk,A1 D4]at h;exact z3ta
def Ani(hk:kT s=18)(h:Ak (n+1) 4 0 .nil s=some r):∃x,Ak n 0 0 .nil (At s)=some x/\r=(nd (B4 8 (B6 s).line) x.1,Be 19 x.2):=by
 rw[Ak,A1 z4oa,A1 z4oa,A1 z4oa,A1 z4oa,A7 rfl,Ai,Ai,Ai,Ai,Ai,Ai,A7 hk]at h;exact z18a
def Anb(hk:kT s=22)(h:Ak (n+1) 4 0 .nil s=some r):∃l,Ak n 5 23 .nil (At s)=some l/\r=(nd (B4 9 (B6 s).line) l.1,l.2):=by
 rw[Ak,A1 z4oa,A1 z4oa,A1 z4oa,A1 z4oa,A7 rfl,Ai,Ai,Ai,Ai,Ai,Ai,Ai,A7 hk]at h;exact z18a
def Ann(hk:kT s=16)(h:Ak (n+1) 4 0 .nil s=some r):∃x,Ak n 0 0 .nil (Be 18 (At s))=some x/\r=(nd (B4 10 (B6 s).line) x.1,Be 19 x.2):=by
 rw[Ak,A1 z4oa,A1 z4oa,A1 z4oa,A1 z4oa,A7 rfl,Ai,Ai,Ai,Ai,Ai,Ai,Ai,Ai,A7 hk]at h;exact z18a
def Ao0(hk:kT s=17)(h:Ak (n+1) 4 0 .nil s=some r):∃x y,Ak n 0 0 .nil (Be 18 (At s))=some x/\Ak n 0 0 .nil (Be 24 x.2)=some y/\r=(nd (B4 11 (B6 s).line) (Dw x.1 y.1),Be 19 y.2):=by
 rw[Ak,A1 z4oa,A1 z4oa,A1 z4oa,A1 z4oa,A7 rfl,Ai,Ai,Ai,Ai,Ai,Ai,Ai,Ai,Ai,A7 hk]at h;obtain⟨x,h1,h2⟩:=bind_some h;obtain⟨y,h3,h4⟩:=bind_some h2;exact⟨x,y,h1,h3,(Dl h4).symm⟩
def A86(h1:kT s≠2)(h2:kT s≠3)(h3:kT s≠13)(h4:kT s≠14)(h5:kT s≠15)(h6:kT s≠1)(h7:kT s≠18)(h8:kT s≠22)(h9:kT s≠16)(h10:kT s≠17)(h:Ak (n+1) 4 0 .nil s=some r):r=(.nil,Et s):=by
 rw[Ak,A1 z4oa,A1 z4oa,A1 z4oa,A1 z4oa,A7 rfl,A1 h1,A1 h2,A1 h3,A1 h4,A1 h5,A1 h6,A1 h7,A1 h8,A1 h9,A1 h10]at h;exact z3ta
def Ane(h:Ak (n+1) 7 0 .nil s=some r):Ak n 8 0 .nil (Be 20 s)=some r:=by
 rw[Ak,A1 z4oa,A1 z4oa,A1 z4oa,A1 z4oa,A1 z4oa,A1 z4oa,A1 z4oa,A7 rfl]at h;exact h
def Anc{n:Nat}{acc:BT A5}{s:PS}{r:BT A5×PS}(hk:kT s=21)(h:Ak (n+1) 8 0 acc s=some r):r=(acc,At s):=by
 rw[Ak,A1 z4oa,A1 z4oa,A1 z4oa,A1 z4oa,A1 z4oa,A1 z4oa,A1 z4oa,A1 z4oa,A7 rfl,A7 hk]at h;exact z3ta
def A82{n:Nat}{acc:BT A5}{s:PS}{r:BT A5×PS}(hk:kT s≠21)(hb:s.bad=0)(h:Ak (n+1) 8 0 acc s=some r):∃x,Ak n 9 0 .nil s=some x/\Ak n 8 0 (Dw acc x.1) x.2=some r:=by
 rw[Ak,A1 z4oa,A1 z4oa,A1 z4oa,A1 z4oa,A1 z4oa,A1 z4oa,A1 z4oa,A1 z4oa,A7 rfl,A1 hk,A1 (by simpa using hb)]at h;exact bind_some h
def Ao4(hk:kT s=5)(h:Ak (n+1) 9 0 .nil s=some r):∃x,Ak n 0 0 .nil (Be 26 (Be 1 (At s)))=some x/\r=(nd ⟨21,(B6 (At s)).line,(B6 (At s)).s,0,[]⟩ x.1,Be 25 x.2):=by
 rw[Ak,A1 z4oa,A1 z4oa,A1 z4oa,A1 z4oa,A1 z4oa,A1 z4oa,A1 z4oa,A1 z4oa,A1 z4oa,A7 rfl,A7 hk]at h;exact z18a
def Ao3(hk:kT s=6)(h:Ak (n+1) 9 0 .nil s=some r):∃x bl,Ak n 0 0 .nil (At s)=some x/\Ak n 7 0 .nil x.2=some bl/\
  ((kT bl.2=7/\∃c,Ak n 7 0 .nil (At bl.2)=some c/\r=(nd (B4 22 (B6 s).line) (Dw x.1 (Dw (nd (B4 31 0) bl.1) (nd (B4 31 0) c.1))),c.2))\/(kT bl.2≠7/\r=(nd (B4 22 (B6 s).line) (Dw x.1 (nd (B4 31 0) bl.1)),bl.2))):=by
 rw[Ak,A1 z4oa,A1 z4oa,A1 z4oa,A1 z4oa,A1 z4oa,A1 z4oa,A1 z4oa,A1 z4oa,A1 z4oa,A7 rfl,Ai,A7 hk]at h;obtain⟨x,h1,h2⟩:=bind_some h;obtain⟨bl,h3,h4⟩:=bind_some h2;refine⟨x,bl,h1,h3,?_⟩;by_cases h7:kT bl.2=7
 ·rw[A7 h7]at h4;obtain⟨c,h5,h6⟩:=bind_some h4;exact .inl ⟨h7,c,h5,(Dl h6).symm⟩
 ·rw[A1 h7]at h4;exact .inr ⟨h7,(Dl h4).symm⟩
def Ao8(hk:kT s=8)(h:Ak (n+1) 9 0 .nil s=some r):∃x bl,Ak n 0 0 .nil (At s)=some x/\Ak n 7 0 .nil x.2=some bl/\r=(nd (B4 23 (B6 s).line) (Dw x.1 (nd (B4 32 0) bl.1)),bl.2):=by
 rw[Ak,A1 z4oa,A1 z4oa,A1 z4oa,A1 z4oa,A1 z4oa,A1 z4oa,A1 z4oa,A1 z4oa,A1 z4oa,A7 rfl,Ai,Ai,A7 hk]at h;obtain⟨x,h1,h2⟩:=bind_some h;obtain⟨bl,h3,h4⟩:=bind_some h2;exact⟨x,bl,h1,h3,(Dl h4).symm⟩
def Ao7(hk:kT s=9)(D4:kT (At s)=25)(h:Ak (n+1) 9 0 .nil s=some r):r=(nd (B4 24 (B6 s).line) .nil,Be 25 (At s)):=by
 rw[Ak,A1 z4oa,A1 z4oa,A1 z4oa,A1 z4oa,A1 z4oa,A1 z4oa,A1 z4oa,A1 z4oa,A1 z4oa,A7 rfl,Ai,Ai,Ai,A7 hk,A7 D4]at h;exact z3ta
def Ao6(hk:kT s=9)(D4:kT (At s)≠25)(h:Ak (n+1) 9 0 .nil s=some r):∃x,Ak n 0 0 .nil (At s)=some x/\r=(nd (B4 24 (B6 s).line) x.1,Be 25 x.2):=by
 rw[Ak,A1 z4oa,A1 z4oa,A1 z4oa,A1 z4oa,A1 z4oa,A1 z4oa,A1 z4oa,A1 z4oa,A1 z4oa,A7 rfl,Ai,Ai,Ai,A7 hk,A1 D4]at h;exact z18a
def Ao1(hk:kT s=10)(h:Ak (n+1) 9 0 .nil s=some r):r=(nd (B4 25 (B6 s).line) .nil,Be 25 (At s)):=by
 rw[Ak,A1 z4oa,A1 z4oa,A1 z4oa,A1 z4oa,A1 z4oa,A1 z4oa,A1 z4oa,A1 z4oa,A1 z4oa,A7 rfl,Ai,Ai,Ai,Ai,A7 hk]at h;exact z3ta
def Ao2(hk:kT s=11)(h:Ak (n+1) 9 0 .nil s=some r):r=(nd (B4 26 (B6 s).line) .nil,Be 25 (At s)):=by
 rw[Ak,A1 z4oa,A1 z4oa,A1 z4oa,A1 z4oa,A1 z4oa,A1 z4oa,A1 z4oa,A1 z4oa,A1 z4oa,A7 rfl,Ai,Ai,Ai,Ai,Ai,A7 hk]at h;exact z3ta
def Ao5(hk:kT s=12)(h:Ak (n+1) 9 0 .nil s=some r):∃x,Ak n 0 0 .nil (At s)=some x/\r=(nd (B4 27 (B6 s).line) x.1,Be 25 x.2):=by
 rw[Ak,A1 z4oa,A1 z4oa,A1 z4oa,A1 z4oa,A1 z4oa,A1 z4oa,A1 z4oa,A1 z4oa,A1 z4oa,A7 rfl,Ai,Ai,Ai,Ai,Ai,Ai,A7 hk]at h;exact z18a
def A88(hk:¬(5<=kT s/\kT s<=12/\kT s≠7))(h:Ak (n+1) 9 0 .nil s=some r):∃x,Ak n 0 0 .nil s=some x/\
  ((Qe x.1=true/\kT x.2=26/\∃v,Ak n 0 0 .nil (At x.2)=some v/\r=(setNode x.1 v.1,Be 25 v.2))\/(Qe x.1=false/\kT x.2=26/\∃v,Ak n 0 0 .nil (Et x.2)=some v/\r=(nd (B4 30 (I8 x.1).line) x.1,Be 25 v.2))\/
   (kT x.2≠26/\r=(nd (B4 30 (I8 x.1).line) x.1,Be 25 x.2))):=by
 rw[Ak,A1 z4oa,A1 z4oa,A1 z4oa,A1 z4oa,A1 z4oa,A1 z4oa,A1 z4oa,A1 z4oa,A1 z4oa,A7 rfl,Ai,Ai,Ai,Ai,Ai,Ai,Ai]at h;obtain⟨x,h1,h2⟩:=bind_some h;refine⟨x,h1,?_⟩;by_cases h26:kT x.2=26
 ·cases hc:Qe x.1
  ·rw[A1 (by rw[hc];simp),A7 h26]at h2;obtain⟨v,h3,h4⟩:=bind_some h2;exact .inr (.inl ⟨rfl,h26,v,h3,(Dl h4).symm⟩)
  ·rw[A7 ⟨hc,h26⟩]at h2;obtain⟨v,h3,h4⟩:=bind_some h2;exact .inl ⟨rfl,h26,v,h3,(Dl h4).symm⟩
 ·rw[A1 (fun e=>h26 e.2),A1 h26]at h2;exact .inr (.inr ⟨h26,(Dl h2).symm⟩)
end
section
open Go.Deep (BT)
def E3(s:PS):Nat:=if s.bad=0 then s.ts.length else 0
def Anh{n:Nat}{s:PS}{r:BT A5×PS}(h:Ak (n+1) 11 0 .nil s=some r):∃p b,params n (Be 18 (Be 1 (At s)))=some p/\Ak n 7 0 .nil p.2=some b/\r=(nd ⟨20,(B6 (At s)).line,(B6 (At s)).s,0,p.1⟩ b.1,b.2):=by
 rw[Ak,A1 z4oa,A1 z4oa,A1 z4oa,A1 z4oa,A1 z4oa,A1 z4oa,A1 z4oa,A1 z4oa,A1 z4oa,A1 z4oa,A1 z4oa]at h;obtain⟨p,h1,h2⟩:=bind_some h;obtain⟨b,h3,h4⟩:=bind_some h2;exact⟨p,b,h1,h3,(Dl h4).symm⟩
def cost(t a:Nat):Nat:=if t=0 then 9-a else if t=1 then 1 else if t=2 then 2 else if t=3 then 1 else if t=4 then 1 else if t=5 then 10 else if t=6 then 1 else if t=7 then 12 else if t=8 then 11 else if t=9 then 10 else if t=10 then 14 else 13
def nest:List Tk->Int->Nat
 | [],_=>0
 | t::r,o=>
  if t.k=18\/t.k=20\/t.k=22 then(if 30<=o then t.line else nest r (o+1))
  else if t.k=19\/t.k=21\/t.k=23 then nest r (o-1)
  else nest r o
abbrev Nm:=List UInt8
abbrev Da:=Nat×Nat
def F0(is:Bool)(code line:Nat)(f:Da):Da:=if is&&f.1==0 then(code,line) else f
def M4:List (Nm×Nat)->Nm->Option Nat
 | [],_=>none
 | f::r,s=>if f.1=s then some f.2 else M4 r s
def Qd(fns:List (Nm×Nat))(s:Nm)(n:Nat):Bool:=match M4 fns s with
 | none=>true
 | some m=>m !=n
def Bt(fns:List (Nm×Nat)):BT A5->List Nm->List Nm->Nat->Bool->Da->List Nm×Da
 | .nil,_,cur,_,_,f=>(cur,f)
 | .node _ _ l ch sib,outer,cur,wh,inn,f=>
  if l.kd=31 then Bt fns sib outer cur wh inn (Bt fns ch (outer++cur) [] wh inn f).2
  else if l.kd=32 then Bt fns sib outer cur wh inn (Bt fns ch (outer++cur) [] (wh+1) inn f).2
  else if l.kd=21 then
   Bt fns sib outer ((Bt fns ch outer cur wh inn (F0 (decide (l.s∈cur)) 3 l.line f)).1++[l.s]) wh inn (Bt fns ch outer cur wh inn (F0 (decide (l.s∈cur)) 3 l.line f)).2
  else
   let f1:=if l.kd=6\/l.kd=28 then F0 (!decide (l.s∈outer++cur)) 3 l.line f
    else if l.kd=7 then F0 (Qd fns l.s (Aj ch)) 3 l.line f
    else if l.kd=25\/l.kd=26 then F0 (wh==0) 4 l.line f
    else if l.kd=24 then F0 (!inn) 4 l.line f
    else f
   Bt fns sib outer (Bt fns ch outer cur wh inn f1).1 wh inn (Bt fns ch outer cur wh inn f1).2
def Jl:List (Nat×Nm)->List Nm->Da->List Nm×Da
 | [],cur,f=>(cur,f)
 | p::r,cur,f=>Jl r (cur++[p.2]) (F0 (decide (p.2∈cur)) 3 p.1 f)
def G2(fns:List (Nm×Nat)):BT A5->List Nm->List Nm->Da->Da
 | .nil,_,_,f=>f
 | .node x y l ch sib,seen,cur,f=>
  if l.kd=20 then
   let f1:=F0 (decide (l.s∈seen)) 3 l.line f
   let p:=Jl l.ps [] f1
   G2 fns sib (seen++[l.s]) cur (Bt fns ch cur p.1 0 true p.2).2
  else G2 fns sib seen (Bt fns (.node x y l ch .nil) [] cur 0 false f).1 (Bt fns (.node x y l ch .nil) [] cur 0 false f).2
def Cr:BT A5->List (Nm×Nat)
 | .nil=>[]
 | .node _ _ l _ sib=>if l.kd=20 then(l.s,l.ps.length)::Cr sib else Cr sib
def Awh(is:Bool)(code line:Nat)(f:Da)(h:f.1≠0):F0 is code line f=f:=by
 unfold F0;rw[A1];simp[h]
def Ar9(fns:List (Nm×Nat))(x y:Nat)(l:A5)(ch sib:BT A5)(outer cur:List Nm)(wh:Nat)(inn:Bool)(f:Da) :
  Bt fns (.node x y l ch sib) outer cur wh inn f=Bt fns sib outer (Bt fns (.node x y l ch .nil) outer cur wh inn f).1 wh inn (Bt fns (.node x y l ch .nil) outer cur wh inn f).2:=by
 by_cases h1:l.kd=31
 ·simp only[Bt,A7 h1]
 ·by_cases h2:l.kd=32
  ·simp only[Bt,A1 h1,A7 h2]
  ·by_cases h3:l.kd=21
   ·simp only[Bt,A1 h1,A1 h2,A7 h3]
   ·simp only[Bt,A1 h1,A1 h2,A1 h3]
def bsize:BT A5->Nat
 | .nil=>0
 | .node _ _ l c r=>1+l.ps.length+bsize c+bsize r
def Xk:BT A5->Prop
 | .nil=>True
 | .node _ _ l _ r=>l.kd≠32/\Xk r
def R3:BT A5->Prop
 | .nil=>True
 | .node _ _ l c r=>(l.kd=8->Aj c=1)/\(l.kd=23->∃e b,c=Dw e (nd (B4 32 0) b)/\Aj e=1/\Xk e)/\(l.kd≠23->Xk c)/\R3 c/\R3 r
def Oe:∀f g:BT A5,bsize (Dw f g)=bsize f+bsize g:=by
 intro f;induction f with
 | nil=>intro g;simp[Dw,bsize]
 | node x y l c r _ ih=>intro g;simp only[Dw,bsize,ih];omega
def Cf(l:A5)(c:BT A5):bsize (nd l c)=1+l.ps.length+bsize c:=by simp[nd,bsize]
def A8x(fns:List (Nm×Nat)):∀(f:BT A5) (outer cur:List Nm) (wh:Nat) (inn:Bool) (v:Da),(Bt fns f outer cur wh inn v).1.length<=cur.length+bsize f:=by
 intro f;induction f with
 | nil=>intro outer cur wh inn v;simp[Bt,bsize]
 | node x y l c r D5 C6=>
  intro outer cur wh inn v;rw[bsize];by_cases h1:l.kd=31
  ·simp only[Bt,A7 h1];exact Fu (C6 _ _ _ _ _) z4ma
  by_cases h2:l.kd=32
  ·simp only[Bt,A1 h1,A7 h2];exact Fu (C6 _ _ _ _ _) z4ma
  by_cases h3:l.kd=21
  ·simp only[Bt,A1 h1,A1 h2,A7 h3];refine Fu (C6 _ _ _ _ _) ?_;rw[Ds,Lw];have:=D5 outer cur wh inn (F0 (decide (l.s∈cur)) 3 l.line v);omega
  ·simp only[Bt,A1 h1,A1 h2,A1 h3];refine Fu (C6 _ _ _ _ _) ?_;exact Fu (Nat.add_le_add_right (D5 _ _ _ _ _) _) z4ma
def A7i{fns:List (Nm×Nat)}{s:Nm}{n:Nat}:s∈(fns.take n).map (·.1)↔∃j,∃h:j<fns.length,j<n/\fns[j].1=s:=by
 constructor
 ·intro h;obtain⟨p,hp,e⟩:=List.mem_map.mp h;obtain⟨j,hj,e2⟩:=List.getElem_of_mem hp;rw[G3]at hj;refine⟨j,by omega,by omega,?_⟩;rw[A32]at e2;rw[e2];exact e
 ·rintro⟨j,h,hj,e⟩;refine List.mem_map.mpr ⟨fns[j],?_,e⟩;have:(fns.take n)[j]'(by rw[G3];omega)=fns[j]:=A32;rw[←this];exact Ho _
def Ajm{fns:List (Nm×Nat)}{n:Nat}{p:Nm×Nat}{r:List (Nm×Nat)}(h:fns.drop n=p::r):∃hn:n<fns.length,fns[n]=p/\fns.drop (n+1)=r/\(fns.take (n+1)).map (·.1)=(fns.take n).map (·.1)++[p.1]:=by
 have hn:n<fns.length:=by
  apply Decidable.byContradiction;intro h2;rw[Pz z4ma]at h;cases h
 rw[Gk hn]at h;injection h with h1 h2;refine⟨hn,h1,h2,?_⟩;rw[X4 hn,V0,h1];rfl
def Ar5(fns:List (Nm×Nat))(x y:Nat)(l:A5)(ch sib:BT A5)(seen cur:List Nm)(f:Da)(h:l.kd=20):G2 fns (.node x y l ch sib) seen cur f=G2 fns sib (seen++[l.s]) cur (Bt fns ch cur (Jl l.ps [] (F0 (decide (l.s∈seen)) 3 l.line f)).1 0 true (Jl l.ps [] (F0 (decide (l.s∈seen)) 3 l.line f)).2).2:=by
 rw[G2,A7 h]
def Ar7(fns:List (Nm×Nat))(x y:Nat)(l:A5)(ch sib:BT A5)(seen cur:List Nm)(f:Da)(h:l.kd≠20):G2 fns (.node x y l ch sib) seen cur f=G2 fns sib seen (Bt fns (.node x y l ch .nil) [] cur 0 false f).1 (Bt fns (.node x y l ch .nil) [] cur 0 false f).2:=by
 rw[G2,A1 h]
def A6a(x y:Nat)(l:A5)(ch sib:BT A5)(h:l.kd=20):Cr (.node x y l ch sib)=(l.s,l.ps.length)::Cr sib:=by
 rw[Cr,A7 h]
def A6b(x y:Nat)(l:A5)(ch sib:BT A5)(h:l.kd≠20):Cr (.node x y l ch sib)=Cr sib:=by
 rw[Cr,A1 h]
def A1j{p:Prop}[Decidable p]{a b m:Nat}(ha:a<=m)(hb:b<=m):(if p then a else b)<=m:=by
 split
 ·exact ha
 ·exact hb
def Awb(l:List UInt8):O0 l<=17:=by
 unfold O0;repeat refine A1j z4oa ?_
 exact De _
def Asc(c d:UInt8):Mk c d<=40:=by
 unfold Mk;repeat refine A1j z4oa ?_
 exact De _
def A95(c:UInt8):K1 c<=40:=by
 unfold K1;repeat refine A1j z4oa ?_
 exact De _
def z25a {P:Prop} (h:P:=by
  split
  ·rename_i h1;rw[A7 h1]at h;exact absurd rfl h
  ·rename_i h1;have:=A95 c;have h2:K1 c≠0:=fun e=>h1 (by rw[e];rfl);exact⟨by show 1<=K1 c;omega,this⟩):P:=h
def A97(l:List UInt8)(h:(I9 l).2≠0):1<=(I9 l).1/\(I9 l).1<=40:=by
 unfold I9 at h ⊢;split
 ·exact absurd rfl h
 ·rename_i c;simp only at h;exact z25a
 ·rename_i c d r;simp only at h;split
  ·rename_i h1;have:=Asc c d;have h2:Mk c d≠0:=by simpa using h1
   exact⟨by show 1<=Mk c d;omega,this⟩
  ·rename_i h0;rw[A1 h0]at h;exact z25a
def Z0(c:UInt8)(r:List UInt8)(t:Tk)(n:Nat)(h:Fq (c::r)=some (t,n)):1<=t.k/\t.k<=40/\1<=n:=by
 rw[Fq]at h;split at h
 ·rename_i hd;split at h
  ·injection h with h;injection h with h1 h2;subst h1 h2;refine⟨by simp,by simp,?_⟩;rw[Tg,A7 hd];simp
  ·cases h
 ·split at h
  ·rename_i hl;have hn:Es c=true:=by unfold Es;rw[hl];rfl
   split at h
   ·rename_i hw;injection h with h;injection h with h1 h2;subst h1 h2;have:=Awb ((c::r).takeWhile Es);have Gh:O0 ((c::r).takeWhile Es)≠0:=by simpa using hw
    refine⟨by show 1<=O0 _;omega,by show O0 _<=40;omega,?_⟩;rw[Tg,A7 hn];simp
   ·split at h
    ·injection h with h;injection h with h1 h2;subst h1 h2;refine⟨by simp,by simp,?_⟩;rw[Tg,A7 hn];simp
    ·cases h
  ·split at h
   ·split at h
    ·injection h with h;injection h with h1 h2;subst h1 h2;exact⟨by simp,by simp,by omega⟩
    ·cases h
   ·split at h
    ·cases h
    ·rename_i h0;injection h with h;injection h with h1 h2;subst h1 h2;have hz:(I9 (c::r)).2≠0:=fun e=>h0 (by rw[e];rfl);exact⟨(A97 _ hz).1,(A97 _ hz).2,by omega⟩
def Kt(line:Nat)(m:Nat):List Tk->Prop
 | []=>False
 | x::r=>line<=x.line/\x.line<=line+m/\x.k<=40/\((x.k=0/\r=[])\/(x.k≠0/\Kt line m r))
def Kt.weak{a b m k:Nat}(h1:b<=a)(h2:a+m<=b+k):∀ts,Kt a m ts->Kt b k ts:=by
 intro ts;induction ts with
 | nil=>intro h;exact h
 | cons x r ih=>
  rintro⟨k1,k2,k3,k4⟩;refine⟨by omega,by omega,k3,?_⟩;rcases k4 with h|⟨h,h'⟩
  ·exact .inl h
  ·exact .inr ⟨h,ih h'⟩
def Vc(line m:Nat):Nat ⊕ List Tk->Prop
 | .inl n=>line<=n/\n<=line+m
 | .inr ts=>ts.length<=m+1/\Kt line m ts
def Vc.weak{a b m k:Nat}{x:Nat ⊕ List Tk}(h:Vc a m x)(h1:b<=a)(h2:a+m<=b+k)(h3:m<=k):Vc b k x:=by
 cases x with
 | inl n=>obtain⟨k1,k2⟩:=h;exact⟨by omega,by omega⟩
 | inr ts=>obtain⟨k1,k2⟩:=h;exact⟨by omega,Kt.weak h1 h2 _ k2⟩
def Am1:∀(f:Nat) (l:List UInt8) (line:Nat) (said:Bool),Vc line l.length (lex f l line said):=by
 intro f;induction f with
 | zero=>intro l line said;rw[lex];exact⟨Af _,by omega⟩
 | succ f ih=>
  intro l line said;cases l with
  | nil=>rw[lex];exact⟨by simp,Af _,by simp,by simp,.inl ⟨rfl,rfl⟩⟩
  | cons c r=>
   rw[lex,Il];split
   ·exact(ih r (line+1) false).weak z4ma z4ma z4ma
   ·split
    ·exact⟨Af _,by omega⟩
    ·split
     ·exact(ih r line _).weak z4ma z4ma z4ma
     ·cases ht:Fq (c::r) with
      | none=>exact⟨Af _,by omega⟩
      | some p=>
       obtain⟨t,n⟩:=p;obtain⟨k1,k2,k3⟩:=Z0 c r t n ht;have:=ih ((c::r).drop n) line false;have hl:((c::r).drop n).length<=r.length:=by rw[Qs,Il];omega
       show Vc line (r.length+1) (match lex f ((c::r).drop n) line false with
        | .inl l=>.inl l
        | .inr ts=>.inr ({ t with line:=line }::ts))
       cases hx:lex f ((c::r).drop n) line false with
       | inl m=>rw[hx]at this;obtain⟨j1,j2⟩:=this;exact⟨by omega,by omega⟩
       | inr ts=>
        rw[hx]at this;obtain⟨j1,j2⟩:=this;exact⟨by rw[Il];omega,Af _,by show line<=_;omega,k2,.inr ⟨by show t.k≠0;omega,Kt.weak z4ma z4ma _ j2⟩⟩
def Kt.last{line m:Nat}:∀ts,Kt line m ts->∀i (h:i<ts.length),ts[i].k=0↔i+1=ts.length:=by
 intro ts;induction ts with
 | nil=>intro h;exact absurd h id
 | cons x r ih=>
  rintro⟨_,_,_,k4⟩ i hi;rcases k4 with⟨h,rfl⟩|⟨h,h2⟩
  ·simp only[Il,Jo]at hi ⊢;obtain rfl:i=0:=by omega
   simp[h]
  ·cases i with
   | zero=>
    have:r≠[]:=by rintro rfl;exact h2
    have:0<r.length:=List.length_pos_iff.mpr this;simp only[V1,Il];omega
   | succ i=>
    simp only[List.getElem_cons_succ,Il]at hi ⊢;have:=ih h2 i z4ma;omega
def Kt.mem{line m:Nat}:∀ts,Kt line m ts->∀t∈ts,line<=t.line/\t.line<=line+m/\t.k<=40:=by
 intro ts;induction ts with
 | nil=>intro _ t ht;cases ht
 | cons x r ih=>
  rintro⟨k1,k2,k3,k4⟩ t ht;rcases List.mem_cons.mp ht with rfl|ht
  ·exact⟨k1,k2,k3⟩
  ·rcases k4 with⟨_,rfl⟩|⟨_,h2⟩
   ·cases ht
   ·exact ih h2 t ht
def Ej(kd:Nat):Bool:=(decide (1<=kd)&&decide (kd<=14))||(decide (127<=kd)&&decide (kd<=140))
def No(kd:Nat):Bool:=kd==21||(decide (24<=kd)&&decide (kd<=30))
def Wf:Nat->BT A5->Prop
 | _,.nil=>True
 | m,.node _ _ l c r=>Wf m r/\(((m=0\/m=2\/m=3)/\Ej l.kd=true/\Wf 0 c)\/(m=2/\l.kd=31/\Wf 1 c)\/(m=3/\l.kd=32/\Wf 1 c)\/
   ((m=1\/m=4)/\l.kd=22/\Wf 2 c)\/((m=1\/m=4)/\l.kd=23/\Wf 3 c)\/((m=1\/m=4)/\No l.kd=true/\Wf 0 c)\/(m=4/\l.kd=20/\Wf 1 c))
def Wf.ex{l:A5}{c:BT A5}(h:Ej l.kd=true)(hc:Wf 0 c):Wf 0 (nd l c):=⟨trivial,.inl ⟨.inl rfl,h,hc⟩⟩
def Wf.up2:∀(f:BT A5),Wf 0 f->Wf 2 f:=by
 intro f;induction f with
 | nil=>intro _;trivial
 | node x y l c r D5 C6=>
  intro h;refine⟨C6 h.1,?_⟩;rcases h.2 with⟨_,h1,h2⟩|⟨h1,_⟩|⟨h1,_⟩|⟨h1,_⟩|⟨h1,_⟩|⟨h1,_⟩|⟨h1,_⟩
  ·exact .inl ⟨.inr (.inl rfl),h1,h2⟩
  all_goals omega
def Wf.Axp{f:BT A5}(h:Wf 0 f):Wf 0 (Sw f):=by
 cases f with
 | nil=>trivial
 | node x y l c r=>
  rcases h.2 with⟨_,h1,h2⟩|⟨h1,_⟩|⟨h1,_⟩|⟨h1,_⟩|⟨h1,_⟩|⟨h1,_⟩|⟨h1,_⟩
  ·exact h2
  all_goals omega
def Aqi{k a:Nat}(h:rowOf k=a+1):Ej (100+k)=true:=by
 have:27<=k/\k<=40:=by
  unfold rowOf at h;repeat' split at h
  all_goals omega
 unfold Ej;simp only[Gz,F3,Jg];omega
def Mz(fns:List (Nm×Nat)):∀(f:BT A5),Wf 0 f->∀(outer cur:List Nm) (wh:Nat) (inn:Bool) (v:Da),(Bt fns f outer cur wh inn v).1=cur:=by
 intro f;induction f with
 | nil=>intro _ outer cur wh inn v;rfl
 | node x y l c r D5 C6=>
  intro h outer cur wh inn v;have h1:Ej l.kd=true/\Wf 0 c:=by
   rcases h.2 with⟨_,h1,h2⟩|⟨h1,_⟩|⟨h1,_⟩|⟨h1,_⟩|⟨h1,_⟩|⟨h1,_⟩|⟨h1,_⟩
   ·exact⟨h1,h2⟩
   all_goals omega
  have hk:l.kd≠31/\l.kd≠32/\l.kd≠21:=by
   have:=h1.1;unfold Ej at this;simp only[Gz,F3,Jg]at this;omega
  rw[Bt,A1 hk.1,A1 hk.2.1,A1 hk.2.2,C6 h.1,D5 h1.2]
def A2n(l:List UInt8)(h:l.length<=2000):(∃n,lex (l.length+1) l 1 false=.inl n/\1<=n/\n<=2001)\/∃ts,lex (l.length+1) l 1 false=.inr ts/\ts.length<=2001/\Kt 1 2000 ts:=by
 have hf:=Am1 (l.length+1) l 1 false;cases hx:lex (l.length+1) l 1 false with
 | inl n=>rw[hx]at hf;obtain⟨k1,k2⟩:=hf;exact .inl ⟨n,rfl,k1,by omega⟩
 | inr ts=>rw[hx]at hf;obtain⟨k1,k2⟩:=hf;exact .inr ⟨ts,rfl,by omega,Kt.weak (Af _) z4ma _ k2⟩
structure PV where
 k:Nat
 y:Bool
 n:Int
 t:List UInt8
 r:Option Nat
def Bb:PV:=⟨0,false,0,[],none⟩
structure Aa where
 op:Nat
 arg:Int
 line:Nat
 v:PV
structure Em where
 loc:List Nm
 slots:Nat
 st:List Aa
 lps:List (Nat×List Nat)
def Em.step(o:Nat)(a:Int)(ln:Nat)(e:Em):Em:=⟨e.loc,e.slots,e.st++[⟨o,a,ln,Bb⟩],e.lps⟩
def Em.F5(v:PV)(e:Em):Em:=⟨e.loc,e.slots,e.st++[⟨0,0,0,v⟩],e.lps⟩
def Gy:Nat->Int->List Aa->List Aa
 | _,_,[]=>[]
 | 0,a,i::r=>⟨i.op,a,i.line,i.v⟩::r
 | j+1,a,i::r=>i::Gy j a r
def Em.land(j:Nat)(e:Em):Em:=⟨e.loc,e.slots,Gy j (e.st.length:Nat) e.st,e.lps⟩
def Em.E7:List Nat->Em->Em
 | [],e=>e
 | j::r,e=>Em.E7 r (e.land j)
def Mh(s:Nm):List Nm->Option Nat
 | []=>none
 | x::r=>match Mh s r with
  | some i=>some (i+1)
  | none=>if x=s then some 0 else none
def Lm(s:Nm):List Nm->Option Nat
 | []=>none
 | x::r=>if x=s then some 0 else match Lm s r with
  | some i=>some (i+1)
  | none=>none
def Em.var(gl:List Nm)(s:Nm)(lo gb:Nat)(e:Em):Em:=match Mh s e.loc with
 | some i=>e.step lo (i:Nat) 0
 | none=>match Lm s gl with
  | some i=>e.step gb (i:Nat) 0
  | none=>e
def Lo(fns:List (Nm×Nat))(s:Nm):Int:=match Lm s (fns.map Prod.fst) with
 | some i=>(i:Nat)
 | none=>-1
def binOp(s:Nat):Nat:=
 if s=40 then 10 else if s=39 then 9 else if s=27 then 25 else if s=29 then 26 else if s=30 then 29 else if s=31 then 31 else if s=32 then 28
 else if s=33 then 30 else if s=34 then 12 else if s=35 then 15 else if s=36 then 17 else if s=37 then 19 else 21
def Em.Ip(e:Em):Em:=match e.lps with
 | []=>e
 | (s,bs)::r=>⟨e.loc,e.slots,e.st++[⟨6,0,0,Bb⟩],(s,bs++[e.st.length])::r⟩
def Em.cnt(e:Em):Em:=match e.lps with
 | []=>e
 | (s,_)::_=>e.step 6 (s:Nat) 0
def Em.local'(s:Nm)(e:Em):Em:=⟨e.loc++[s],max e.slots (e.loc.length+1),e.st,e.lps⟩
def Em.cut(n:Nat)(e:Em):Em:=⟨e.loc.take n,e.slots,e.st,e.lps⟩
def Em.open'(e:Em):Em:=⟨e.loc,e.slots,e.st,(e.st.length,[])::e.lps⟩
def Em.close(e:Em):Em:=⟨e.loc,e.slots,e.st,e.lps.tail⟩
def Em.Kv(e:Em):List Nat:=match e.lps with
 | []=>[]
 | (_,bs)::_=>bs
def M3(line n:Nat)(k:Nat->Em->Em)(e:Em):Em:=
 let a:=k 1 e
 let b:=k 2 (a.step 8 0 line)
 let d:=(b.step 6 0 0).land a.st.length
 (if n=3 then k 3 d else d).land b.st.length
def Ow(line:Nat)(k:Nat->Em->Em)(e:Em):Em:=
 let a:=k 1 e.open'
 let b:=k 2 (a.step 7 0 line)
 let d:=(b.step 6 (e.st.length:Nat) 0).land a.st.length
 (d.E7 d.Kv).close
def Ph(o line:Nat)(k:Nat->Em->Em)(e:Em):Em:=
 let a:=k 1 e
 let b:=k 2 (a.step o 0 line)
 (b.step 11 0 line).land a.st.length
def Aq(fns:List (Nm×Nat))(gl:List Nm)(l:A5)(n:Nat)(k:Nat->Em->Em)(e:Em):Em:=
 match l.kd with
 | 1=>e.F5 ⟨2,false,l.n,[],none⟩
 | 2=>e.F5 ⟨3,false,0,l.s,none⟩
 | 3=>e.F5 ⟨1,true,0,[],none⟩
 | 4=>e.F5 ⟨1,false,0,[],none⟩
 | 5=>e.F5 Bb
 | 6=>e.var gl l.s 1 2
 | 7=>(k 0 e).step 42 (Lo fns l.s) l.line
 | 8=>k 0 e
 | 9=>(k 0 e).step 36 (n:Nat) l.line
 | 10=>(k 0 e).step 37 0 l.line
 | 11=>(k 0 e).step 38 0 l.line
 | 12=>(k 0 e).step 39 0 l.line
 | 13=>(k 0 e).step 27 0 l.line
 | 14=>(k 0 e).step 23 0 l.line
 | 21=>((k 0 e).local' l.s).step 3 ((k 0 e).loc.length:Nat) 0
 | 22=>M3 l.line n k e
 | 23=>Ow l.line k e
 | 24=>if n=0 then e.step 43 0 0 else(k 0 e).step 44 0 0
 | 25=>e.Ip
 | 26=>e.cnt
 | 27=>(k 0 e).step 41 0 l.line
 | 28=>(k 0 e).var gl l.s 3 4
 | 29=>(k 0 e).step 40 0 l.line
 | 30=>(k 0 e).step 5 0 0
 | 31=>(k 0 e).cut e.loc.length
 | 32=>(k 0 e).cut e.loc.length
 | kd=>if kd=139\/kd=140 then Ph (binOp (kd-100)) l.line k e else(k 0 e).step (binOp (kd-100)) 0 l.line
def em(fns:List (Nm×Nat))(gl:List Nm):BT A5->Nat->Em->Em
 | .nil,_,e=>e
 | .node _ _ l c r,m,e=>
  if 2<=m then em fns gl r (m-1) e
  else if m=1 then Aq fns gl l (Aj c) (fun m' e'=>em fns gl c m' e') e
  else em fns gl r 0 (Aq fns gl l (Aj c) (fun m' e'=>em fns gl c m' e') e)
structure Fn where
 name:Nm
 params:Nat
 slots:Nat
 steps:List Aa
structure C5 where
 globals:Nat
 slots:Nat
 main:List Aa
 fns:List Fn
def Mf(fns:List (Nm×Nat))(gl:List Nm)(l:A5)(c:BT A5):Fn:=
 let e:=(em fns gl c 0 ⟨l.ps.map Prod.snd,l.ps.length,[],[]⟩).step 43 0 0
 ⟨l.s,l.ps.length,e.slots,e.st⟩
def Ht(fns:List (Nm×Nat)):BT A5->List Nm->List Fn->Em->C5
 | .nil,gl,fs,e=>⟨gl.length,e.slots,e.st,fs⟩
 | .node _ _ l c r,gl,fs,e=>
  if l.kd=20 then Ht fns r gl (fs++[Mf fns gl l c]) e
  else if l.kd=21 then Ht fns r (gl++[l.s]) fs ((em fns gl c 0 e).step 4 (gl.length:Nat) 0)
  else Ht fns r gl fs (em fns gl (nd l c) 0 e)
def Fo(c:BT A5):C5:=Ht (Cr c) c [] [] ⟨[],0,[],[]⟩
def Qh(fns:List (Nm×Nat))(gl:List Nm)(x y:Nat)(l:A5)(c r:BT A5)(e:Em):em fns gl (.node x y l c r) 1 e=Aq fns gl l (Aj c) (em fns gl c) e:=rfl
def Iq(fns:List (Nm×Nat))(gl:List Nm)(x y:Nat)(l:A5)(c r:BT A5)(e:Em):em fns gl (.node x y l c r) 0 e=em fns gl r 0 (Aq fns gl l (Aj c) (em fns gl c) e):=rfl
def A5p(fns:List (Nm×Nat))(gl:List Nm)(l:A5)(c:BT A5)(e:Em):em fns gl (nd l c) 0 e=Aq fns gl l (Aj c) (em fns gl c) e:=rfl
def Y3(fns:List (Nm×Nat))(gl:List Nm)(x y:Nat)(l:A5)(c r:BT A5)(e:Em):em fns gl (.node x y l c r) 2 e=em fns gl r 1 e:=rfl
def Aik(fns:List (Nm×Nat))(gl:List Nm)(x y:Nat)(l:A5)(c r:BT A5)(e:Em):em fns gl (.node x y l c r) 3 e=em fns gl r 2 e:=rfl
def shL(n:Nat)(l:A5):A5:=if l.kd=31\/l.kd=32 then l else⟨l.kd,l.line+n,l.s,l.n,l.ps.map (fun p=>(p.1+n,p.2))⟩
def shT(n:Nat):BT A5->BT A5
 | .nil=>.nil
 | .node x y l c r=>.node x y (shL n l) (shT n c) (shT n r)
def Zs(n:Int):Prop:=-9223372036854775808<=n/\n<=9223372036854775807
def Nj:Zs 0:=⟨by decide,by decide⟩
def Sj(t:Tk):Prop:=Zs t.n/\t.s.length<=2000
def Tm(l:A5):Prop:=Zs l.n/\l.s.length<=2000
def Lz(n:Nat):Prop:=1<=n/\n<=5000
def Sh(E:Nat):List Tk->Prop
 | []=>False
 | t::r=>(t.k=0/\r=[]/\t.line=E)\/(t.k≠0/\Lz t.line/\Sj t/\Sh E r)
def Vd:BT A5->Prop
 | .nil=>True
 | .node _ _ l c r=>((l.kd=31\/l.kd=32\/(Lz l.line/\∀p∈l.ps,Lz p.1))/\Tm l)/\Vd c/\Vd r
variable {n e E:Nat} {s s':PS}
def A9t(s:PS):(At s).bad=s.bad:=by unfold At;split <;> rfl
variable {t t1:Nat} {s1:PS}
def Sh.of{m line:Nat}(hl:1<=line)(hm:line+m<=5000):∀ts:List Tk,Kt line m ts->(∀t∈ts,Sj t)->∃E,Lz E/\Sh E ts:=by
 intro ts;induction ts with
 | nil=>intro h;exact h.elim
 | cons t r ih=>
  rintro⟨h1,h4,_,⟨h2,h3⟩|⟨h2,h3⟩⟩ hf
  ·exact⟨t.line,⟨by omega,by omega⟩,.inl ⟨h2,h3,rfl⟩⟩
  ·obtain⟨E,k1,k2⟩:=ih h3 (fun x hx=>hf x (by simp[hx]));exact⟨E,k1,.inr ⟨h2,⟨by omega,by omega⟩,hf t z4ra,k2⟩⟩
def z32a {P:Prop} (h:P:=by
  cases hq:quot false r with
  | none=>rw[hq]at h;cases h
  | some y=>rw[hq]at h;cases h;have:=ih _ _ hq;simp;omega):P:=h
def Aq0:∀(r:List UInt8) (b:Bool) (x:List UInt8×Nat),quot b r=some x->x.1.length<=r.length:=by
 intro r;induction r with
 | nil=>intro b x h;cases b <;> simp[quot]at h
 | cons c r ih=>
  intro b x h;cases b
  ·rw[quot]at h;split at h
   ·split at h
    ·cases h;simp
    ·split at h
     ·cases hq:quot true r with
      | none=>rw[hq]at h;cases h
      | some y=>rw[hq]at h;cases h;have:=ih _ _ hq;simp;omega
     ·exact z32a
   ·cases h
  ·rw[quot]at h;split at h
   ·exact z32a
   ·cases h
def Ahl:∀(l:List UInt8) (a:Int),(∀c∈l,E5 c=true)->0<=a->0<=Kw a l:=by
 intro l;induction l with
 | nil=>intro a _ h;exact h
 | cons c r ih=>
  intro a hd h;refine ih _ (fun x hx=>hd x (by simp[hx])) ?_;have:=hd c z4ra;unfold E5 at this;simp only[F3,Jg]at this;omega
def Avh(c:UInt8)(r:List UInt8)(t:Tk)(k:Nat)(h:Fq (c::r)=some (t,k))(hl:(c::r).length<=2000):Sj t:=by
 have l2:((c::r).takeWhile Es).length<=(c::r).length:=(Z9 Es).length_le;rw[Fq]at h;split at h
 ·cases hn:numOf ((c::r).takeWhile E5) with
  | none=>rw[hn]at h;cases h
  | some n=>
   rw[hn]at h;cases h;unfold numOf at hn;split at hn
   ·rename_i hm;cases hn;have:=Ahl ((c::r).takeWhile E5) 0 (fun x hx=>List.all_eq_true.1 (List.all_takeWhile (p:=E5) (l:=c::r)) x hx) z4ma;unfold A1q at hm;exact⟨⟨by dsimp only;omega,hm⟩,by simp⟩
   ·cases hn
 ·split at h
  ·split at h
   ·cases h;exact⟨Nj,by simp⟩
   ·split at h
    ·cases h;exact⟨Nj,by dsimp only;omega⟩
    ·cases h
  ·split at h
   ·cases hq:quot false r with
    | none=>rw[hq]at h;cases h
    | some y=>rw[hq]at h;cases h;exact⟨Nj,by have:=Aq0 _ _ _ hq;simp at hl ⊢;omega⟩
   ·split at h
    ·cases h
    ·cases h;exact⟨Nj,by simp⟩
def A76:∀(f:Nat) (l:List UInt8) (line:Nat) (said:Bool) (ts:List Tk),lex f l line said=.inr ts->l.length<=2000->∀t∈ts,Sj t:=by
 intro f;induction f with
 | zero=>intro l line said ts h;rw[lex]at h;cases h
 | succ f ih=>
  intro l line said ts h hl;cases l with
  | nil=>
   rw[lex]at h;cases h;intro t ht;rw[Lb.1 ht];exact⟨Nj,by simp⟩
  | cons c r=>
   have hr:r.length<=2000:=by simp at hl;omega
   rw[lex]at h;split at h
   ·exact ih _ _ _ _ h hr
   split at h
   ·cases h
   split at h
   ·exact ih _ _ _ _ h hr
   cases ht:Fq (c::r) with
   | none=>rw[ht]at h;cases h
   | some x=>
    obtain⟨t,k⟩:=x;rw[ht]at h;dsimp only at h;cases hx:lex f ((c::r).drop k) line false with
    | inl j=>rw[hx]at h;cases h
    | inr us=>
     rw[hx]at h;cases h;intro y hy;rcases L9.1 hy with rfl|hy
     ·exact Avh c r t k ht hl
     ·exact ih _ _ _ _ hx (by rw[Qs];omega) y hy
def z40a {P:Prop} (h:P:=by
  repeat' split
  all_goals omega):P:=h
def A4o(s:Nat):7<=binOp s/\binOp s<=42:=by
 unfold binOp;exact z40a
