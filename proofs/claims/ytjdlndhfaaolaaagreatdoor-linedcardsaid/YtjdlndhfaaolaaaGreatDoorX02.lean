import Derived.Deep.Trees
import Derived.Test.YtjdlndhfaaolaaaGreatDoorX01
set_option maxHeartbeats 20000000
namespace Go.Proofs.YtjdlndhfaaolaaaGreatDoor
section
open Go.Deep (BT)
structure A3 where
 kd:Nat
 line:Nat
 s:List UInt8
 n:Int
 ps:List (Nat×List UInt8)
def nd(l:A3)(ch:BT A3):BT A3:=.node 0 0 l ch .nil
def Co:BT A3->BT A3->BT A3
 | .nil,b=>b
 | .node x y l c r,b=>.node x y l c (Co r b)
def Ak:BT A3->Nat
 | .nil=>0
 | .node _ _ _ _ r=>Ak r+1
def Hi:BT A3->A3
 | .nil=>⟨0,0,[],0,[]⟩
 | .node _ _ l _ _=>l
def Pc:BT A3->BT A3
 | .nil=>.nil
 | .node _ _ _ c _=>c
structure PS where
 ts:List Tk
 bad:Nat
def J0:Tk:=⟨0,0,[],0⟩
def An(s:PS):Tk:=s.ts.headD J0
def kT(s:PS):Nat:=(An s).k
def Dh(s:PS):PS:=if s.bad=0 then⟨[J0],(An s).line⟩ else s
def Aj(s:PS):PS:=if kT s=0 then s else⟨s.ts.tail,s.bad⟩
def Aw(k:Nat)(s:PS):PS:=if kT s=k then Aj s else Dh s
def rowOf(k:Nat):Nat:=
 if k=40 then 1 else if k=39 then 2 else if k=27\/k=29 then 3 else if k=30\/k=31\/k=32\/k=33 then 4
 else if k=34\/k=35 then 5 else if k=36\/k=37\/k=38 then 6 else 0
def Au(kd line:Nat):A3:=⟨kd,line,[],0,[]⟩
def Gn:Nat->List (Nat×List UInt8)->PS->Option (List (Nat×List UInt8)×PS)
 | 0,_,_=>none
 | n+1,acc,s=>
  if kT (Aw 1 s)=24 then Gn n (acc++[((An s).line,(An s).s)]) (Aj (Aw 1 s))
  else some (acc++[((An s).line,(An s).s)],Aw 19 (Aw 1 s))
def params(n:Nat)(s:PS):Option (List (Nat×List UInt8)×PS):=if kT s=19 then some ([],Aj s) else Gn n [] s
def K3(x:BT A3):Bool:=(Hi x).kd==6||(Hi x).kd==12
def setNode(x v:BT A3):BT A3:=
 if(Hi x).kd=6 then nd ⟨28,(Hi x).line,(Hi x).s,0,[]⟩ v else nd (Au 29 (Hi x).line) (Co (Pc x) v)
def Ab:Nat->Nat->Nat->BT A3->PS->Option (BT A3×PS)
 | 0,_,_,_,_=>none
 | n+1,t,a,acc,s=>
  if t=0 then
   if a=6 then Ab n 2 0 .nil s
   else(Ab n 0 (a+1) .nil s).bind fun x=>Ab n 1 a x.1 x.2
  else if t=1 then
   if rowOf (kT s)=a+1 then(Ab n 0 (a+1) .nil (Aj s)).bind fun y=>Ab n 1 a (nd (Au (100+kT s) (An s).line) (Co acc y.1)) y.2
   else some (acc,s)
  else if t=2 then
   if kT s=28 then(Ab n 2 0 .nil (Aj s)).bind fun x=>some (nd (Au 13 (An s).line) x.1,x.2)
   else if kT s=35 then(Ab n 2 0 .nil (Aj s)).bind fun x=>some (nd (Au 14 (An s).line) x.1,x.2)
   else(Ab n 4 0 .nil s).bind fun x=>Ab n 3 0 x.1 x.2
  else if t=3 then
   if kT s=22 then(Ab n 0 0 .nil (Aj s)).bind fun y=>Ab n 3 0 (nd (Au 12 (An s).line) (Co acc y.1)) (Aw 23 y.2)
   else some (acc,s)
  else if t=4 then
   if kT s=2 then some (nd ⟨1,(An s).line,[],(An s).n,[]⟩ .nil,Aj s)
   else if kT s=3 then some (nd ⟨2,(An s).line,(An s).s,0,[]⟩ .nil,Aj s)
   else if kT s=13 then some (nd (Au 3 (An s).line) .nil,Aj s)
   else if kT s=14 then some (nd (Au 4 (An s).line) .nil,Aj s)
   else if kT s=15 then some (nd (Au 5 (An s).line) .nil,Aj s)
   else if kT s=1 then
    if kT (Aj s)=18 then(Ab n 5 19 .nil (Aj (Aj s))).bind fun l=>some (nd ⟨7,(An s).line,(An s).s,0,[]⟩ l.1,l.2)
    else some (nd ⟨6,(An s).line,(An s).s,0,[]⟩ .nil,Aj s)
   else if kT s=18 then(Ab n 0 0 .nil (Aj s)).bind fun x=>some (nd (Au 8 (An s).line) x.1,Aw 19 x.2)
   else if kT s=22 then(Ab n 5 23 .nil (Aj s)).bind fun l=>some (nd (Au 9 (An s).line) l.1,l.2)
   else if kT s=16 then(Ab n 0 0 .nil (Aw 18 (Aj s))).bind fun x=>some (nd (Au 10 (An s).line) x.1,Aw 19 x.2)
   else if kT s=17 then(Ab n 0 0 .nil (Aw 18 (Aj s))).bind fun x=>(Ab n 0 0 .nil (Aw 24 x.2)).bind fun y=>some (nd (Au 11 (An s).line) (Co x.1 y.1),Aw 19 y.2)
   else some (.nil,Dh s)
  else if t=5 then
   if kT s=a then some (.nil,Aj s)
   else(Ab n 0 0 .nil s).bind fun x=>Ab n 6 a x.1 x.2
  else if t=6 then
   if kT s=24 then(Ab n 0 0 .nil (Aj s)).bind fun y=>Ab n 6 a (Co acc y.1) y.2
   else some (acc,Aw a s)
  else if t=7 then Ab n 8 0 .nil (Aw 20 s)
  else if t=8 then
   if kT s=21 then some (acc,Aj s)
   else if s.bad≠0 then some (acc,s)
   else(Ab n 9 0 .nil s).bind fun x=>Ab n 8 0 (Co acc x.1) x.2
  else if t=9 then
   if kT s=5 then(Ab n 0 0 .nil (Aw 26 (Aw 1 (Aj s)))).bind fun x=>some (nd ⟨21,(An (Aj s)).line,(An (Aj s)).s,0,[]⟩ x.1,Aw 25 x.2)
   else if kT s=6 then(Ab n 0 0 .nil (Aj s)).bind fun x=>(Ab n 7 0 .nil x.2).bind fun b=>
    if kT b.2=7 then(Ab n 7 0 .nil (Aj b.2)).bind fun c=>some (nd (Au 22 (An s).line) (Co x.1 (Co (nd (Au 31 0) b.1) (nd (Au 31 0) c.1))),c.2)
    else some (nd (Au 22 (An s).line) (Co x.1 (nd (Au 31 0) b.1)),b.2)
   else if kT s=8 then(Ab n 0 0 .nil (Aj s)).bind fun x=>(Ab n 7 0 .nil x.2).bind fun b=>some (nd (Au 23 (An s).line) (Co x.1 (nd (Au 32 0) b.1)),b.2)
   else if kT s=9 then
    if kT (Aj s)=25 then some (nd (Au 24 (An s).line) .nil,Aw 25 (Aj s))
    else(Ab n 0 0 .nil (Aj s)).bind fun x=>some (nd (Au 24 (An s).line) x.1,Aw 25 x.2)
   else if kT s=10 then some (nd (Au 25 (An s).line) .nil,Aw 25 (Aj s))
   else if kT s=11 then some (nd (Au 26 (An s).line) .nil,Aw 25 (Aj s))
   else if kT s=12 then(Ab n 0 0 .nil (Aj s)).bind fun x=>some (nd (Au 27 (An s).line) x.1,Aw 25 x.2)
   else(Ab n 0 0 .nil s).bind fun x=>
    if K3 x.1=true/\kT x.2=26 then(Ab n 0 0 .nil (Aj x.2)).bind fun v=>some (setNode x.1 v.1,Aw 25 v.2)
    else if kT x.2=26 then(Ab n 0 0 .nil (Dh x.2)).bind fun v=>some (nd (Au 30 (Hi x.1).line) x.1,Aw 25 v.2)
    else some (nd (Au 30 (Hi x.1).line) x.1,Aw 25 x.2)
  else if t=10 then
   if kT s=0 then some (acc,s)
   else if kT s=4 then(Ab n 11 0 .nil s).bind fun x=>Ab n 10 0 (Co acc x.1) x.2
   else(Ab n 9 0 .nil s).bind fun x=>Ab n 10 0 (Co acc x.1) x.2
  else
   (params n (Aw 18 (Aw 1 (Aj s)))).bind fun p=>(Ab n 7 0 .nil p.2).bind fun b=>
    some (nd ⟨20,(An (Aj s)).line,(An (Aj s)).s,0,p.1⟩ b.1,b.2)
end
section
open Go.Deep (BT)
variable {n:Nat}{s:PS}{r:BT A3×PS}
theorem bind_some{α β:Type}{o:Option α}{f:α->Option β}{r:β}(h:o.bind f=some r):∃x,o=some x/\f x=some r:=by
 cases o with
 | none=>cases h
 | some x=>exact⟨x,rfl,h⟩
theorem F3(t a:Nat)(acc:BT A3)(s:PS)(r:BT A3×PS):Ab 0 t a acc s≠some r:=by intro h;rw[Ab]at h;cases h
theorem Ya(h:Ab (n+1) 0 6 .nil s=some r):Ab n 2 0 .nil s=some r:=by
 rw[Ab,if_pos rfl,if_pos rfl]at h;exact h
theorem Y9{n a:Nat}{s:PS}{r:BT A3×PS}(ha:a≠6)(h:Ab (n+1) 0 a .nil s=some r):∃x,Ab n 0 (a+1) .nil s=some x/\Ab n 1 a x.1 x.2=some r:=by
 rw[Ab,if_pos rfl,if_neg ha]at h;exact bind_some h
theorem z4ta {P:Prop} (h:P:=by decide):P:=h
theorem Yd{n a:Nat}{acc:BT A3}{s:PS}{r:BT A3×PS}(hk:rowOf (kT s)=a+1)(h:Ab (n+1) 1 a acc s=some r) :
  ∃y,Ab n 0 (a+1) .nil (Aj s)=some y/\Ab n 1 a (nd (Au (100+kT s) (An s).line) (Co acc y.1)) y.2=some r:=by
 rw[Ab,if_neg z4ta,if_pos rfl,if_pos hk]at h;exact bind_some h
theorem Yc{n a:Nat}{acc:BT A3}{s:PS}{r:BT A3×PS}(hk:rowOf (kT s)≠a+1)(h:Ab (n+1) 1 a acc s=some r):r=(acc,s):=by
 rw[Ab,if_neg z4ta,if_pos rfl,if_neg hk]at h;cases h;rfl
theorem z11a {P:Prop} (h:P:=by
  obtain⟨x,h1,h2⟩:=bind_some h;exact⟨x,h1,(Option.some.inj h2).symm⟩):P:=h
theorem A2q(hk:kT s=28)(h:Ab (n+1) 2 0 .nil s=some r):∃x,Ab n 2 0 .nil (Aj s)=some x/\r=(nd (Au 13 (An s).line) x.1,x.2):=by
 rw[Ab,if_neg z4ta,if_neg z4ta,if_pos rfl,if_pos hk]at h;exact z11a
theorem A2p(hk:kT s=35)(h:Ab (n+1) 2 0 .nil s=some r):∃x,Ab n 2 0 .nil (Aj s)=some x/\r=(nd (Au 14 (An s).line) x.1,x.2):=by
 rw[Ab,if_neg z4ta,if_neg z4ta,if_pos rfl,if_neg z4sa,if_pos hk]at h;exact z11a
theorem Yf(h1:kT s≠28)(h2:kT s≠35)(h:Ab (n+1) 2 0 .nil s=some r):∃x,Ab n 4 0 .nil s=some x/\Ab n 3 0 x.1 x.2=some r:=by
 rw[Ab,if_neg z4ta,if_neg z4ta,if_pos rfl,if_neg h1,if_neg h2]at h;exact bind_some h
theorem A2g{n:Nat}{acc:BT A3}{s:PS}{r:BT A3×PS}(hk:kT s=22)(h:Ab (n+1) 3 0 acc s=some r) :
  ∃y,Ab n 0 0 .nil (Aj s)=some y/\Ab n 3 0 (nd (Au 12 (An s).line) (Co acc y.1)) (Aw 23 y.2)=some r:=by
 rw[Ab,if_neg z4ta,if_neg z4ta,if_neg z4ta,if_pos rfl,if_pos hk]at h;exact bind_some h
theorem z1la {P:Prop} (h:P:=by
  exact(Option.some.inj h).symm):P:=h
theorem A2h{n:Nat}{acc:BT A3}{s:PS}{r:BT A3×PS}(hk:kT s≠22)(h:Ab (n+1) 3 0 acc s=some r):r=(acc,s):=by
 rw[Ab,if_neg z4ta,if_neg z4ta,if_neg z4ta,if_pos rfl,if_neg hk]at h;exact z1la
theorem A2m{n a:Nat}{s:PS}{r:BT A3×PS}(hk:kT s=a)(h:Ab (n+1) 5 a .nil s=some r):r=(.nil,Aj s):=by
 rw[Ab,if_neg z4ta,if_neg z4ta,if_neg z4ta,if_neg z4ta,if_neg z4ta,if_pos rfl,if_pos hk]at h;exact z1la
theorem Yb{n a:Nat}{s:PS}{r:BT A3×PS}(hk:kT s≠a)(h:Ab (n+1) 5 a .nil s=some r):(Ab n 0 0 .nil s).bind (fun y=>Ab n 6 a (Co .nil y.1) y.2)=some r:=by
 rw[Ab,if_neg z4ta,if_neg z4ta,if_neg z4ta,if_neg z4ta,if_neg z4ta,if_pos rfl,if_neg hk]at h;exact h
theorem A2n{n a:Nat}{acc:BT A3}{s:PS}{r:BT A3×PS}(hk:kT s=24)(h:Ab (n+1) 6 a acc s=some r):(Ab n 0 0 .nil (Aj s)).bind (fun y=>Ab n 6 a (Co acc y.1) y.2)=some r:=by
 rw[Ab,if_neg z4ta,if_neg z4ta,if_neg z4ta,if_neg z4ta,if_neg z4ta,if_neg z4ta,if_pos rfl,if_pos hk]at h;exact h
theorem A2k{n a:Nat}{acc:BT A3}{s:PS}{r:BT A3×PS}(hk:kT s≠24)(h:Ab (n+1) 6 a acc s=some r):r=(acc,Aw a s):=by
 rw[Ab,if_neg z4ta,if_neg z4ta,if_neg z4ta,if_neg z4ta,if_neg z4ta,if_neg z4ta,if_pos rfl,if_neg hk]at h;exact z1la
theorem Mt{s:PS}(h:s.ts=[J0]):kT s=0:=by unfold kT An;rw[h];rfl
theorem T6{s:PS}(h:s.bad≠0):Dh s=s:=by unfold Dh;rw[if_neg h]
theorem j9{s:PS}(h:s.ts=[J0]):Aj s=s:=by unfold Aj;rw[if_pos (Mt h)]
theorem Vt{s:PS}(k:Nat)(h:s.ts=[J0])(hb:s.bad≠0):Aw k s=s:=by
 unfold Aw;split
 ·exact j9 h
 ·exact T6 hb
theorem Agz{s:PS}(h:s.ts=[J0])(hb:s.bad≠0):∀n acc r,Gn n acc s=some r->r.2=s:=by
 intro n;induction n with
 | zero=>intro acc r hr;rw[Gn]at hr;cases hr
 | succ n ih=>
  intro acc r hr;rw[Gn,Vt 1 h hb,if_neg (by rw[Mt h];decide)]at hr;have:=(Option.some.inj hr).symm;rw[this,Vt 19 h hb]
theorem A2a{s:PS}(h:s.ts=[J0])(hb:s.bad≠0)(n:Nat)(r:List (Nat×List UInt8)×PS)(hr:params n s=some r):r.2=s:=by
 unfold params at hr;rw[if_neg (by rw[Mt h];decide)]at hr;exact Agz h hb n [] r hr
theorem A8p{α β:Type}{o:Option (α×PS)}{f:α×PS->Option (β×PS)}{s:PS}{r:β×PS}(h:o.bind f=some r)(h1:∀x,o=some x->x.2=s)(h2:∀x,o=some x->x.2=s->f x=some r->r.2=s):r.2=s:=by
 obtain⟨x,k1,k2⟩:=bind_some h;exact h2 x k1 (h1 x k1) k2
theorem z37a {P:Prop} (h:P:=by
  exact two hr (fun x hx hf=>by rw[hx]at hf;exact ih _ _ _ _ hf)):P:=h
theorem z4wa {P:Prop} (h:P:=by simp):P:=h
theorem Qn{s:PS}(h:s.ts=[J0])(hb:s.bad≠0):∀n t a acc r,Ab n t a acc s=some r->r.2=s:=by
 intro n;have k0:kT s=0:=Mt h;have e1:=j9 h;have e2:=T6 hb;have e3:=fun k=>Vt k h hb;induction n with
 | zero=>intro t a acc r hr;rw[Ab]at hr;cases hr
 | succ n ih=>
  intro t a acc r hr;rw[Ab]at hr;simp only[k0,e1,e2,e3]at hr;have two:∀{t1 a1:Nat} {acc1:BT A3} {f:BT A3×PS->Option (BT A3×PS)},(Ab n t1 a1 acc1 s).bind f=some r->(∀x,x.2=s->f x=some r->r.2=s)->r.2=s:=
   fun hh hf=>A8p hh (fun x hx=>ih _ _ _ _ hx) (fun x _ hxs hfx=>hf x hxs hfx)
  have fin:∀{y:BT A3} {s':PS},some (y,s')=some r->s'=s->r.2=s:=fun hh he=>by cases hh;exact he
  by_cases t0:t=0
  ·rw[if_pos t0]at hr;by_cases a6:a=6
   ·rw[if_pos a6]at hr;exact ih _ _ _ _ hr
   ·rw[if_neg a6]at hr;exact z37a
  rw[if_neg t0]at hr;by_cases t1:t=1
  ·rw[if_pos t1,if_neg (by simp[rowOf])]at hr;exact fin hr rfl
  rw[if_neg t1]at hr;by_cases t2:t=2
  ·rw[if_pos t2,if_neg z4ta,if_neg z4ta]at hr;exact z37a
  rw[if_neg t2]at hr;by_cases t3:t=3
  ·rw[if_pos t3,if_neg z4ta]at hr;exact fin hr rfl
  rw[if_neg t3]at hr;by_cases t4:t=4
  ·rw[if_pos t4]at hr;iterate 10 (rw[if_neg z4ta]at hr)
   exact fin hr rfl
  rw[if_neg t4]at hr;by_cases t5:t=5
  ·rw[if_pos t5]at hr;by_cases ka:0=a
   ·rw[if_pos ka]at hr;exact fin hr rfl
   ·rw[if_neg ka]at hr;exact z37a
  rw[if_neg t5]at hr;by_cases t6:t=6
  ·rw[if_pos t6,if_neg z4ta]at hr;exact fin hr rfl
  rw[if_neg t6]at hr;by_cases t7:t=7
  ·rw[if_pos t7]at hr;exact ih _ _ _ _ hr
  rw[if_neg t7]at hr;by_cases t8:t=8
  ·rw[if_pos t8,if_neg z4ta,if_pos hb]at hr;exact fin hr rfl
  rw[if_neg t8]at hr;by_cases t9:t=9
  ·rw[if_pos t9]at hr;iterate 7 (rw[if_neg z4ta]at hr)
   refine two hr (fun x hx hf=>?_);rw[hx,k0,if_neg z4wa,if_neg z4ta]at hf;exact fin hf (e3 25)
  rw[if_neg t9]at hr;by_cases t10:t=10
  ·rw[if_pos t10,if_pos trivial]at hr;exact fin hr rfl
  rw[if_neg t10]at hr;obtain⟨p,h1,h2⟩:=bind_some hr;have hp:=A2a h hb n p h1;rw[hp]at h2;exact two h2 (fun x hx hf=>fin hf hx)
theorem A2i(hk:kT s=2)(h:Ab (n+1) 4 0 .nil s=some r):r=(nd ⟨1,(An s).line,[],(An s).n,[]⟩ .nil,Aj s):=by
 rw[Ab,if_neg z4ta,if_neg z4ta,if_neg z4ta,if_neg z4ta,if_pos rfl,if_pos hk]at h;exact z1la
theorem A2t(hk:kT s=3)(h:Ab (n+1) 4 0 .nil s=some r):r=(nd ⟨2,(An s).line,(An s).s,0,[]⟩ .nil,Aj s):=by
 rw[Ab,if_neg z4ta,if_neg z4ta,if_neg z4ta,if_neg z4ta,if_pos rfl,if_neg z4sa,if_pos hk]at h;exact z1la
theorem A2u(hk:kT s=13)(h:Ab (n+1) 4 0 .nil s=some r):r=(nd (Au 3 (An s).line) .nil,Aj s):=by
 rw[Ab,if_neg z4ta,if_neg z4ta,if_neg z4ta,if_neg z4ta,if_pos rfl,if_neg z4sa,if_neg z4sa,if_pos hk]at h;exact z1la
theorem A2e(hk:kT s=14)(h:Ab (n+1) 4 0 .nil s=some r):r=(nd (Au 4 (An s).line) .nil,Aj s):=by
 rw[Ab,if_neg z4ta,if_neg z4ta,if_neg z4ta,if_neg z4ta,if_pos rfl,if_neg z4sa,if_neg z4sa,if_neg z4sa,if_pos hk]at h;exact z1la
theorem A2r(hk:kT s=15)(h:Ab (n+1) 4 0 .nil s=some r):r=(nd (Au 5 (An s).line) .nil,Aj s):=by
 rw[Ab,if_neg z4ta,if_neg z4ta,if_neg z4ta,if_neg z4ta,if_pos rfl,if_neg z4sa,if_neg z4sa,if_neg z4sa,if_neg z4sa,if_pos hk]at h;exact z1la
theorem A2d(hk:kT s=1)(C7:kT (Aj s)=18)(h:Ab (n+1) 4 0 .nil s=some r):∃l,Ab n 5 19 .nil (Aj (Aj s))=some l/\r=(nd ⟨7,(An s).line,(An s).s,0,[]⟩ l.1,l.2):=by
 rw[Ab,if_neg z4ta,if_neg z4ta,if_neg z4ta,if_neg z4ta,if_pos rfl,if_neg z4sa,if_neg z4sa,if_neg z4sa,if_neg z4sa,if_neg z4sa,if_pos hk,if_pos C7]at h;exact z11a
theorem A2o(hk:kT s=1)(C7:kT (Aj s)≠18)(h:Ab (n+1) 4 0 .nil s=some r):r=(nd ⟨6,(An s).line,(An s).s,0,[]⟩ .nil,Aj s):=by
 rw[Ab,if_neg z4ta,if_neg z4ta,if_neg z4ta,if_neg z4ta,if_pos rfl,if_neg z4sa,if_neg z4sa,if_neg z4sa,if_neg z4sa,if_neg z4sa,if_pos hk,if_neg C7]at h;exact z1la
theorem A2f(hk:kT s=18)(h:Ab (n+1) 4 0 .nil s=some r):∃x,Ab n 0 0 .nil (Aj s)=some x/\r=(nd (Au 8 (An s).line) x.1,Aw 19 x.2):=by
 rw[Ab,if_neg z4ta,if_neg z4ta,if_neg z4ta,if_neg z4ta,if_pos rfl,if_neg z4sa,if_neg z4sa,if_neg z4sa,if_neg z4sa,if_neg z4sa,if_neg z4sa,if_pos hk]at h;exact z11a
theorem A2b(hk:kT s=22)(h:Ab (n+1) 4 0 .nil s=some r):∃l,Ab n 5 23 .nil (Aj s)=some l/\r=(nd (Au 9 (An s).line) l.1,l.2):=by
 rw[Ab,if_neg z4ta,if_neg z4ta,if_neg z4ta,if_neg z4ta,if_pos rfl,if_neg z4sa,if_neg z4sa,if_neg z4sa,if_neg z4sa,if_neg z4sa,if_neg z4sa,if_neg z4sa,if_pos hk]at h;exact z11a
theorem A2l(hk:kT s=16)(h:Ab (n+1) 4 0 .nil s=some r):∃x,Ab n 0 0 .nil (Aw 18 (Aj s))=some x/\r=(nd (Au 10 (An s).line) x.1,Aw 19 x.2):=by
 rw[Ab,if_neg z4ta,if_neg z4ta,if_neg z4ta,if_neg z4ta,if_pos rfl,if_neg z4sa,if_neg z4sa,if_neg z4sa,if_neg z4sa,if_neg z4sa,if_neg z4sa,if_neg z4sa,if_neg z4sa,if_pos hk]at h;exact z11a
theorem A2s(hk:kT s=17)(h:Ab (n+1) 4 0 .nil s=some r):∃x y,Ab n 0 0 .nil (Aw 18 (Aj s))=some x/\Ab n 0 0 .nil (Aw 24 x.2)=some y/\r=(nd (Au 11 (An s).line) (Co x.1 y.1),Aw 19 y.2):=by
 rw[Ab,if_neg z4ta,if_neg z4ta,if_neg z4ta,if_neg z4ta,if_pos rfl,if_neg z4sa,if_neg z4sa,if_neg z4sa,if_neg z4sa,if_neg z4sa,if_neg z4sa,if_neg z4sa,if_neg z4sa,if_neg z4sa,if_pos hk]at h;obtain⟨x,h1,h2⟩:=bind_some h;obtain⟨y,h3,h4⟩:=bind_some h2;exact⟨x,y,h1,h3,(Option.some.inj h4).symm⟩
theorem Ye(h1:kT s≠2)(h2:kT s≠3)(h3:kT s≠13)(h4:kT s≠14)(h5:kT s≠15)(h6:kT s≠1)(h7:kT s≠18)(h8:kT s≠22)(h9:kT s≠16)(h10:kT s≠17)(h:Ab (n+1) 4 0 .nil s=some r):r=(.nil,Dh s):=by
 rw[Ab,if_neg z4ta,if_neg z4ta,if_neg z4ta,if_neg z4ta,if_pos rfl,if_neg h1,if_neg h2,if_neg h3,if_neg h4,if_neg h5,if_neg h6,if_neg h7,if_neg h8,if_neg h9,if_neg h10]at h;exact z1la
theorem Y7(h:Ab (n+1) 7 0 .nil s=some r):Ab n 8 0 .nil (Aw 20 s)=some r:=by
 rw[Ab,if_neg z4ta,if_neg z4ta,if_neg z4ta,if_neg z4ta,if_neg z4ta,if_neg z4ta,if_neg z4ta,if_pos rfl]at h;exact h
theorem A2c{n:Nat}{acc:BT A3}{s:PS}{r:BT A3×PS}(hk:kT s=21)(h:Ab (n+1) 8 0 acc s=some r):r=(acc,Aj s):=by
 rw[Ab,if_neg z4ta,if_neg z4ta,if_neg z4ta,if_neg z4ta,if_neg z4ta,if_neg z4ta,if_neg z4ta,if_neg z4ta,if_pos rfl,if_pos hk]at h;exact z1la
theorem Y8{n:Nat}{acc:BT A3}{s:PS}{r:BT A3×PS}(hk:kT s≠21)(hb:s.bad=0)(h:Ab (n+1) 8 0 acc s=some r):∃x,Ab n 9 0 .nil s=some x/\Ab n 8 0 (Co acc x.1) x.2=some r:=by
 rw[Ab,if_neg z4ta,if_neg z4ta,if_neg z4ta,if_neg z4ta,if_neg z4ta,if_neg z4ta,if_neg z4ta,if_neg z4ta,if_pos rfl,if_neg hk,if_neg (by simpa using hb)]at h;exact bind_some h
theorem Yj(hk:kT s=5)(h:Ab (n+1) 9 0 .nil s=some r):∃x,Ab n 0 0 .nil (Aw 26 (Aw 1 (Aj s)))=some x/\r=(nd ⟨21,(An (Aj s)).line,(An (Aj s)).s,0,[]⟩ x.1,Aw 25 x.2):=by
 rw[Ab,if_neg z4ta,if_neg z4ta,if_neg z4ta,if_neg z4ta,if_neg z4ta,if_neg z4ta,if_neg z4ta,if_neg z4ta,if_neg z4ta,if_pos rfl,if_pos hk]at h;exact z11a
theorem Yi(hk:kT s=6)(h:Ab (n+1) 9 0 .nil s=some r):∃x bl,Ab n 0 0 .nil (Aj s)=some x/\Ab n 7 0 .nil x.2=some bl/\
  ((kT bl.2=7/\∃c,Ab n 7 0 .nil (Aj bl.2)=some c/\r=(nd (Au 22 (An s).line) (Co x.1 (Co (nd (Au 31 0) bl.1) (nd (Au 31 0) c.1))),c.2))\/(kT bl.2≠7/\r=(nd (Au 22 (An s).line) (Co x.1 (nd (Au 31 0) bl.1)),bl.2))):=by
 rw[Ab,if_neg z4ta,if_neg z4ta,if_neg z4ta,if_neg z4ta,if_neg z4ta,if_neg z4ta,if_neg z4ta,if_neg z4ta,if_neg z4ta,if_pos rfl,if_neg z4sa,if_pos hk]at h;obtain⟨x,h1,h2⟩:=bind_some h;obtain⟨bl,h3,h4⟩:=bind_some h2;refine⟨x,bl,h1,h3,?_⟩;by_cases h7:kT bl.2=7
 ·rw[if_pos h7]at h4;obtain⟨c,h5,h6⟩:=bind_some h4;exact .inl ⟨h7,c,h5,(Option.some.inj h6).symm⟩
 ·rw[if_neg h7]at h4;exact .inr ⟨h7,(Option.some.inj h4).symm⟩
theorem Yn(hk:kT s=8)(h:Ab (n+1) 9 0 .nil s=some r):∃x bl,Ab n 0 0 .nil (Aj s)=some x/\Ab n 7 0 .nil x.2=some bl/\r=(nd (Au 23 (An s).line) (Co x.1 (nd (Au 32 0) bl.1)),bl.2):=by
 rw[Ab,if_neg z4ta,if_neg z4ta,if_neg z4ta,if_neg z4ta,if_neg z4ta,if_neg z4ta,if_neg z4ta,if_neg z4ta,if_neg z4ta,if_pos rfl,if_neg z4sa,if_neg z4sa,if_pos hk]at h;obtain⟨x,h1,h2⟩:=bind_some h;obtain⟨bl,h3,h4⟩:=bind_some h2;exact⟨x,bl,h1,h3,(Option.some.inj h4).symm⟩
theorem Ym(hk:kT s=9)(C7:kT (Aj s)=25)(h:Ab (n+1) 9 0 .nil s=some r):r=(nd (Au 24 (An s).line) .nil,Aw 25 (Aj s)):=by
 rw[Ab,if_neg z4ta,if_neg z4ta,if_neg z4ta,if_neg z4ta,if_neg z4ta,if_neg z4ta,if_neg z4ta,if_neg z4ta,if_neg z4ta,if_pos rfl,if_neg z4sa,if_neg z4sa,if_neg z4sa,if_pos hk,if_pos C7]at h;exact z1la
theorem Yl(hk:kT s=9)(C7:kT (Aj s)≠25)(h:Ab (n+1) 9 0 .nil s=some r):∃x,Ab n 0 0 .nil (Aj s)=some x/\r=(nd (Au 24 (An s).line) x.1,Aw 25 x.2):=by
 rw[Ab,if_neg z4ta,if_neg z4ta,if_neg z4ta,if_neg z4ta,if_neg z4ta,if_neg z4ta,if_neg z4ta,if_neg z4ta,if_neg z4ta,if_pos rfl,if_neg z4sa,if_neg z4sa,if_neg z4sa,if_pos hk,if_neg C7]at h;exact z11a
theorem Yg(hk:kT s=10)(h:Ab (n+1) 9 0 .nil s=some r):r=(nd (Au 25 (An s).line) .nil,Aw 25 (Aj s)):=by
 rw[Ab,if_neg z4ta,if_neg z4ta,if_neg z4ta,if_neg z4ta,if_neg z4ta,if_neg z4ta,if_neg z4ta,if_neg z4ta,if_neg z4ta,if_pos rfl,if_neg z4sa,if_neg z4sa,if_neg z4sa,if_neg z4sa,if_pos hk]at h;exact z1la
theorem Yh(hk:kT s=11)(h:Ab (n+1) 9 0 .nil s=some r):r=(nd (Au 26 (An s).line) .nil,Aw 25 (Aj s)):=by
 rw[Ab,if_neg z4ta,if_neg z4ta,if_neg z4ta,if_neg z4ta,if_neg z4ta,if_neg z4ta,if_neg z4ta,if_neg z4ta,if_neg z4ta,if_pos rfl,if_neg z4sa,if_neg z4sa,if_neg z4sa,if_neg z4sa,if_neg z4sa,if_pos hk]at h;exact z1la
theorem Yk(hk:kT s=12)(h:Ab (n+1) 9 0 .nil s=some r):∃x,Ab n 0 0 .nil (Aj s)=some x/\r=(nd (Au 27 (An s).line) x.1,Aw 25 x.2):=by
 rw[Ab,if_neg z4ta,if_neg z4ta,if_neg z4ta,if_neg z4ta,if_neg z4ta,if_neg z4ta,if_neg z4ta,if_neg z4ta,if_neg z4ta,if_pos rfl,if_neg z4sa,if_neg z4sa,if_neg z4sa,if_neg z4sa,if_neg z4sa,if_neg z4sa,if_pos hk]at h;exact z11a
theorem U6(hk:¬(5<=kT s/\kT s<=12/\kT s≠7))(h:Ab (n+1) 9 0 .nil s=some r):∃x,Ab n 0 0 .nil s=some x/\
  ((K3 x.1=true/\kT x.2=26/\∃v,Ab n 0 0 .nil (Aj x.2)=some v/\r=(setNode x.1 v.1,Aw 25 v.2))\/(K3 x.1=false/\kT x.2=26/\∃v,Ab n 0 0 .nil (Dh x.2)=some v/\r=(nd (Au 30 (Hi x.1).line) x.1,Aw 25 v.2))\/
   (kT x.2≠26/\r=(nd (Au 30 (Hi x.1).line) x.1,Aw 25 x.2))):=by
 rw[Ab,if_neg z4ta,if_neg z4ta,if_neg z4ta,if_neg z4ta,if_neg z4ta,if_neg z4ta,if_neg z4ta,if_neg z4ta,if_neg z4ta,if_pos rfl,if_neg z4sa,if_neg z4sa,if_neg z4sa,if_neg z4sa,if_neg z4sa,if_neg z4sa,if_neg z4sa]at h;obtain⟨x,h1,h2⟩:=bind_some h;refine⟨x,h1,?_⟩;by_cases h26:kT x.2=26
 ·cases hc:K3 x.1
  ·rw[if_neg (by rw[hc];simp),if_pos h26]at h2;obtain⟨v,h3,h4⟩:=bind_some h2;exact .inr (.inl ⟨rfl,h26,v,h3,(Option.some.inj h4).symm⟩)
  ·rw[if_pos ⟨hc,h26⟩]at h2;obtain⟨v,h3,h4⟩:=bind_some h2;exact .inl ⟨rfl,h26,v,h3,(Option.some.inj h4).symm⟩
 ·rw[if_neg (fun e=>h26 e.2),if_neg h26]at h2;exact .inr (.inr ⟨h26,(Option.some.inj h2).symm⟩)
end
section
open Go.Deep (BT)
def R1:List Tk->Prop
 | []=>False
 | x::r=>1<=x.line/\(x.k=0\/R1 r)
structure WF (s : PS) : Prop where
 good:s.bad=0->R1 s.ts
 bad:s.bad≠0->s.ts=[J0]
def Reach(s s':PS):Prop:=WF s'/\(s'.bad=0->s.bad=0/\∃pre,s.ts=pre++s'.ts)
def T1(k:Nat)(s s':PS):Prop:=s'.bad=0->s.bad=0/\∃pre x,s.ts=pre++x::s'.ts/\x.k=k
theorem Reach.refl{s:PS}(h:WF s):Reach s s:=⟨h,fun hb=>⟨hb,[],rfl⟩⟩
theorem Reach.trans{s s1 s2:PS}(h:Reach s s1)(k:Reach s1 s2):Reach s s2:=by
 refine⟨k.1,fun hb=>?_⟩;obtain⟨h1,p1,e1⟩:=k.2 hb;obtain⟨h2,p2,e2⟩:=h.2 h1;exact⟨h2,p2++p1,by rw[e2,e1,List.append_assoc]⟩
theorem R1.ne{l:List Tk}(h:R1 l):l≠[]:=by
 intro e;subst e;exact h
theorem A4i{s:PS}(hk:kT s≠0):s.ts=An s::(Aj s).ts/\(Aj s).bad=s.bad:=by
 unfold Aj;rw[if_neg hk];refine⟨?_,rfl⟩;unfold kT An at hk;cases hts:s.ts with
 | nil=>rw[hts]at hk;exact absurd rfl hk
 | cons x r=>simp[An,hts]
theorem J7{s:PS}(h:WF s):Reach s (Aj s):=by
 by_cases hk:kT s=0
 ·have e:Aj s=s:=by unfold Aj;rw[if_pos hk]
  rw[e];exact Reach.refl h
 ·obtain⟨e1,e2⟩:=A4i hk;refine⟨⟨fun hb=>?_,fun hb=>?_⟩,fun hb=>⟨by rw[←e2];exact hb,[An s],e1⟩⟩
  ·have h1:=h.good (by rw[←e2];exact hb);rw[e1]at h1;rcases h1.2 with h2|h2
   ·exact absurd h2 hk
   ·exact h2
  ·rw[e2]at hb;exact absurd (Mt (h.bad hb)) hk
theorem A4h{s:PS}(hk:kT s≠0):T1 (kT s) s (Aj s):=by
 obtain⟨e1,e2⟩:=A4i hk;exact fun hb=>⟨by rw[←e2];exact hb,[],An s,e1,rfl⟩
theorem Adf{s:PS}(h:WF s)(hb:s.bad=0):1<=(An s).line:=by
 have h1:=h.good hb;unfold An;cases hts:s.ts with
 | nil=>rw[hts]at h1;exact h1.elim
 | cons x r=>rw[hts]at h1;exact h1.1
theorem Ri{s:PS}(h:WF s):(Dh s).bad≠0:=by
 unfold Dh;split
 ·rename_i h0;have:=Adf h h0;show(An s).line≠0;omega
 ·assumption
theorem Qb{s:PS}(h:WF s):Reach s (Dh s):=by
 refine⟨⟨fun hb=>absurd hb (Ri h),fun _=>?_⟩,fun hb=>absurd hb (Ri h)⟩;unfold Dh;split
 ·rfl
 ·rename_i h0;exact h.bad h0
theorem Db{s:PS}(k:Nat)(h:WF s):Reach s (Aw k s):=by
 unfold Aw;split
 ·exact J7 h
 ·exact Qb h
theorem Uy{s:PS}{k:Nat}(hk:k≠0)(h:WF s):T1 k s (Aw k s):=by
 unfold Aw;split
 ·rename_i e;rw[←e];exact A4h z4sa
 ·exact fun hb=>absurd hb (Ri h)
theorem Agx:∀n acc s r,WF s->Gn n acc s=some r->Reach s r.2:=by
 intro n;induction n with
 | zero=>intro acc s r _ hr;rw[Gn]at hr;cases hr
 | succ n ih=>
  intro acc s r h hr;rw[Gn]at hr;have h1:=Db 1 h;split at hr
  ·have h2:=h1.trans (J7 h1.1);exact h2.trans (ih _ _ _ h2.1 hr)
  ·have:=(Option.some.inj hr).symm;rw[this];exact h1.trans (Db 19 h1.1)
theorem U4{n:Nat}{s:PS}{r:List (Nat×List UInt8)×PS}(h:WF s)(hr:params n s=some r):Reach s r.2:=by
 unfold params at hr;split at hr
 ·have:=(Option.some.inj hr).symm;rw[this];exact J7 h
 ·exact Agx _ _ _ _ h hr
theorem z2ka {P:Prop} (h:P:=by
  exact two h0 hr (fun x hx hf=>go hx hf)):P:=h
theorem E6:∀n t a acc s r,WF s->Ab n t a acc s=some r->Reach s r.2:=by
 intro n;induction n with
 | zero=>intro t a acc s r _ hr;rw[Ab]at hr;cases hr
 | succ n ih=>
  intro t a acc s r h hr;rw[Ab]at hr;have one:∀{y:BT A3} {s1:PS},some (y,s1)=some r->Reach s s1->Reach s r.2:=fun hh he=>by cases hh;exact he
  have go:∀{t1 a1:Nat} {acc1:BT A3} {s1:PS},Reach s s1->Ab n t1 a1 acc1 s1=some r->Reach s r.2:=fun h1 h2=>h1.trans (ih _ _ _ _ _ h1.1 h2);have two:∀{t1 a1:Nat} {acc1:BT A3} {s1:PS} {f:BT A3×PS->Option (BT A3×PS)},Reach s s1->(Ab n t1 a1 acc1 s1).bind f=some r->(∀x,Reach s x.2->f x=some r->Reach s r.2)->Reach s r.2:=by
   intro t1 a1 acc1 s1 f h1 h2 h3;obtain⟨x,k1,k2⟩:=bind_some h2;exact h3 x (h1.trans (ih _ _ _ _ _ h1.1 k1)) k2
  have h0:=Reach.refl h;have ht:=J7 h;by_cases t0:t=0
  ·rw[if_pos t0]at hr;by_cases a6:a=6
   ·rw[if_pos a6]at hr;exact go h0 hr
   ·rw[if_neg a6]at hr;exact z2ka
  rw[if_neg t0]at hr;by_cases t1:t=1
  ·rw[if_pos t1]at hr;split at hr
   ·exact two ht hr (fun x hx hf=>go hx hf)
   ·exact one hr h0
  rw[if_neg t1]at hr;by_cases t2:t=2
  ·rw[if_pos t2]at hr;split at hr
   ·exact two ht hr (fun x hx hf=>one hf hx)
   split at hr
   ·exact two ht hr (fun x hx hf=>one hf hx)
   ·exact z2ka
  rw[if_neg t2]at hr;by_cases t3:t=3
  ·rw[if_pos t3]at hr;split at hr
   ·exact two ht hr (fun x hx hf=>go (hx.trans (Db 23 hx.1)) hf)
   ·exact one hr h0
  rw[if_neg t3]at hr;by_cases t4:t=4
  ·rw[if_pos t4]at hr;by_cases c1:kT s=2
   ·rw[if_pos c1]at hr;exact one hr ht
   rw[if_neg c1]at hr;by_cases c2:kT s=3
   ·rw[if_pos c2]at hr;exact one hr ht
   rw[if_neg c2]at hr;by_cases c3:kT s=13
   ·rw[if_pos c3]at hr;exact one hr ht
   rw[if_neg c3]at hr;by_cases c4:kT s=14
   ·rw[if_pos c4]at hr;exact one hr ht
   rw[if_neg c4]at hr;by_cases c5:kT s=15
   ·rw[if_pos c5]at hr;exact one hr ht
   rw[if_neg c5]at hr;by_cases c6:kT s=1
   ·rw[if_pos c6]at hr;by_cases c7:kT (Aj s)=18
    ·rw[if_pos c7]at hr;exact two (ht.trans (J7 ht.1)) hr (fun x hx hf=>one hf hx)
    ·rw[if_neg c7]at hr;exact one hr ht
   rw[if_neg c6]at hr;by_cases c7:kT s=18
   ·rw[if_pos c7]at hr;exact two ht hr (fun x hx hf=>one hf (hx.trans (Db 19 hx.1)))
   rw[if_neg c7]at hr;by_cases c8:kT s=22
   ·rw[if_pos c8]at hr;exact two ht hr (fun x hx hf=>one hf hx)
   rw[if_neg c8]at hr;by_cases c9:kT s=16
   ·rw[if_pos c9]at hr;exact two (ht.trans (Db 18 ht.1)) hr (fun x hx hf=>one hf (hx.trans (Db 19 hx.1)))
   rw[if_neg c9]at hr;by_cases c10:kT s=17
   ·rw[if_pos c10]at hr;exact two (ht.trans (Db 18 ht.1)) hr (fun x hx hf=>two (hx.trans (Db 24 hx.1)) hf (fun y hy hg=>one hg (hy.trans (Db 19 hy.1))))
   rw[if_neg c10]at hr;exact one hr (Qb h)
  rw[if_neg t4]at hr;by_cases t5:t=5
  ·rw[if_pos t5]at hr;split at hr
   ·exact one hr ht
   ·exact z2ka
  rw[if_neg t5]at hr;by_cases t6:t=6
  ·rw[if_pos t6]at hr;split at hr
   ·exact two ht hr (fun x hx hf=>go hx hf)
   ·exact one hr (Db a h)
  rw[if_neg t6]at hr;by_cases t7:t=7
  ·rw[if_pos t7]at hr;exact go (Db 20 h) hr
  rw[if_neg t7]at hr;by_cases t8:t=8
  ·rw[if_pos t8]at hr;split at hr
   ·exact one hr ht
   split at hr
   ·exact one hr h0
   ·exact z2ka
  rw[if_neg t8]at hr;by_cases t9:t=9
  ·rw[if_pos t9]at hr;have hse:∀{y:BT A3} {s1:PS},some (y,Aw 25 s1)=some r->Reach s s1->Reach s r.2:=fun hh he=>one hh (he.trans (Db 25 he.1));by_cases c1:kT s=5
   ·rw[if_pos c1]at hr;have h1:=ht.trans (Db 1 ht.1);exact two (h1.trans (Db 26 h1.1)) hr (fun x hx hf=>hse hf hx)
   rw[if_neg c1]at hr;by_cases c2:kT s=6
   ·rw[if_pos c2]at hr;refine two ht hr (fun x hx hf=>two hx hf (fun y hy hg=>?_));by_cases c3:kT y.2=7
    ·rw[if_pos c3]at hg;exact two (hy.trans (J7 hy.1)) hg (fun z hz hh=>one hh hz)
    ·rw[if_neg c3]at hg;exact one hg hy
   rw[if_neg c2]at hr;by_cases c3:kT s=8
   ·rw[if_pos c3]at hr;exact two ht hr (fun x hx hf=>two hx hf (fun y hy hg=>one hg hy))
   rw[if_neg c3]at hr;by_cases c4:kT s=9
   ·rw[if_pos c4]at hr;by_cases c5:kT (Aj s)=25
    ·rw[if_pos c5]at hr;exact hse hr ht
    ·rw[if_neg c5]at hr;exact two ht hr (fun x hx hf=>hse hf hx)
   rw[if_neg c4]at hr;by_cases c5:kT s=10
   ·rw[if_pos c5]at hr;exact hse hr ht
   rw[if_neg c5]at hr;by_cases c6:kT s=11
   ·rw[if_pos c6]at hr;exact hse hr ht
   rw[if_neg c6]at hr;by_cases c7:kT s=12
   ·rw[if_pos c7]at hr;exact two ht hr (fun x hx hf=>hse hf hx)
   rw[if_neg c7]at hr;refine two h0 hr (fun x hx hf=>?_);by_cases c8:K3 x.1=true/\kT x.2=26
   ·rw[if_pos c8]at hf;exact two (hx.trans (J7 hx.1)) hf (fun y hy hg=>hse hg hy)
   rw[if_neg c8]at hf;by_cases c9:kT x.2=26
   ·rw[if_pos c9]at hf;exact two (hx.trans (Qb hx.1)) hf (fun y hy hg=>hse hg hy)
   ·rw[if_neg c9]at hf;exact hse hf hx
  rw[if_neg t9]at hr;by_cases t10:t=10
  ·rw[if_pos t10]at hr;split at hr
   ·exact one hr h0
   split at hr
   ·exact z2ka
   ·exact z2ka
  rw[if_neg t10]at hr;obtain⟨p,h1,h2⟩:=bind_some hr;have Jd:=ht.trans (Db 1 ht.1);have Fx:=Jd.trans (Db 18 Jd.1);have hw3:=Fx.trans (U4 Fx.1 h1);exact two hw3 h2 (fun x hx hf=>one hf hx)
end
section
open Go.Deep (BT)
variable {n:Nat}{s:PS}{r:BT A3×PS}
def M7(s s':PS):Prop:=s'.bad=0->s.bad=0/\s'.ts.length<s.ts.length
theorem T1.less{k:Nat}{s s':PS}(h:T1 k s s'):M7 s s':=by
 intro hb;obtain⟨h1,p,x,e,_⟩:=h hb;exact⟨h1,by rw[e];simp;omega⟩
theorem M7.reach{s s1 s2:PS}(h:M7 s s1)(k:Reach s1 s2):M7 s s2:=by
 intro hb;obtain⟨h1,p,e⟩:=k.2 hb;obtain⟨h2,l⟩:=h h1;refine⟨h2,?_⟩;rw[e]at l;simp at l;omega
theorem Reach.less{s s1 s2:PS}(h:Reach s s1)(k:M7 s1 s2):M7 s s2:=by
 intro hb;obtain⟨h1,l⟩:=k hb;obtain⟨h2,p,e⟩:=h.2 h1;refine⟨h2,?_⟩;rw[e];simp;omega
def E5(s:PS):Nat:=if s.bad=0 then s.ts.length else 0
theorem Ec{s s':PS}(h:Reach s s'):E5 s'<=E5 s:=by
 unfold E5;split
 ·rename_i hb;obtain⟨h1,p,e⟩:=h.2 hb;rw[if_pos h1,e];simp
 ·exact Nat.zero_le _
theorem Af5{s:PS}(h:WF s)(hb:s.bad=0):1<=E5 s:=by
 unfold E5;rw[if_pos hb];have:=(h.good hb).ne;cases hts:s.ts with
 | nil=>exact absurd hts this
 | cons x r=>simp
theorem Rv{s s':PS}(h:WF s)(hb:s.bad=0)(hl:M7 s s'):E5 s'<E5 s:=by
 have:=Af5 h hb;by_cases hb':s'.bad=0
 ·unfold E5;rw[if_pos hb',if_pos hb];exact(hl hb').2
 ·unfold E5;rw[if_neg hb'];exact this
theorem To{s:PS}(h:WF s)(hk:kT s≠0):s.bad=0:=by
 rcases Nat.eq_zero_or_pos s.bad with e|e
 ·exact e
 ·exact absurd (Mt (h.bad z4sa)) hk
theorem Ty{s:PS}(h:WF s)(hk:kT s≠0):E5 (Aj s)<E5 s:=Rv h (To h hk) (A4h hk).less
theorem Vx(h:WF s)(hr:Ab n 7 0 .nil s=some r):M7 s r.2:=by
 cases n with
 | zero=>exact absurd hr (F3 _ _ _ _ _)
 | succ n=>
  have hw:=Db 20 h;exact(Uy z4ta h).less.reach (E6 _ _ _ _ _ _ hw.1 (Y7 hr))
theorem No{s s1:PS}(h:Reach s s1):M7 s (Aw 25 s1):=h.less (Uy z4ta h.1).less
theorem A46(h:WF s)(hr:Ab n 9 0 .nil s=some r):M7 s r.2:=by
 cases n with
 | zero=>exact absurd hr (F3 _ _ _ _ _)
 | succ n=>
  have h0:=Reach.refl h;have ht:=J7 h;by_cases c1:kT s=5
  ·obtain⟨x,h1,e⟩:=Yj c1 hr;have Jd:=ht.trans (Db 1 ht.1);have Fx:=Jd.trans (Db 26 Jd.1);rw[e];exact No (Fx.trans (E6 _ _ _ _ _ _ Fx.1 h1))
  by_cases c2:kT s=6
  ·obtain⟨x,bl,h1,h2,h3⟩:=Yi c2 hr;have hx:=ht.trans (E6 _ _ _ _ _ _ ht.1 h1);have hb:=hx.less (Vx hx.1 h2);rcases h3 with⟨_,c,h4,e⟩|⟨_,e⟩
   ·have hbr:=hx.trans (E6 _ _ _ _ _ _ hx.1 h2);have hbt:=J7 hbr.1;have hc:=E6 _ _ _ _ _ _ hbt.1 h4;rw[e];exact hb.reach (hbt.trans hc)
   ·rw[e];exact hb
  by_cases c3:kT s=8
  ·obtain⟨x,bl,h1,h2,e⟩:=Yn c3 hr;have hx:=ht.trans (E6 _ _ _ _ _ _ ht.1 h1);have hb:=Vx hx.1 h2;rw[e];exact hx.less hb
  by_cases c4:kT s=9
  ·by_cases c5:kT (Aj s)=25
   ·rw[Ym c4 c5 hr];exact No ht
   ·obtain⟨x,h1,e⟩:=Yl c4 c5 hr;rw[e];exact No (ht.trans (E6 _ _ _ _ _ _ ht.1 h1))
  by_cases c5:kT s=10
  ·rw[Yg c5 hr];exact No ht
  by_cases c6:kT s=11
  ·rw[Yh c6 hr];exact No ht
  by_cases c7:kT s=12
  ·obtain⟨x,h1,e⟩:=Yk c7 hr;rw[e];exact No (ht.trans (E6 _ _ _ _ _ _ ht.1 h1))
  obtain⟨x,h1,h2⟩:=U6 z4sa hr;have hx:=h0.trans (E6 _ _ _ _ _ _ h h1);rcases h2 with⟨_,_,v,h3,e⟩|⟨_,_,v,h3,e⟩|⟨_,e⟩
  ·have hv:=hx.trans (J7 hx.1);rw[e];exact No (hv.trans (E6 _ _ _ _ _ _ hv.1 h3))
  ·have hv:=hx.trans (Qb hx.1);rw[e];exact No (hv.trans (E6 _ _ _ _ _ _ hv.1 h3))
  ·rw[e];exact No hx
theorem U5(h:Ab (n+1) 11 0 .nil s=some r):∃p b,params n (Aw 18 (Aw 1 (Aj s)))=some p/\Ab n 7 0 .nil p.2=some b/\r=(nd ⟨20,(An (Aj s)).line,(An (Aj s)).s,0,p.1⟩ b.1,b.2):=by
 rw[Ab,if_neg z4ta,if_neg z4ta,if_neg z4ta,if_neg z4ta,if_neg z4ta,if_neg z4ta,if_neg z4ta,if_neg z4ta,if_neg z4ta,if_neg z4ta,if_neg z4ta]at h;obtain⟨p,h1,h2⟩:=bind_some h;obtain⟨b,h3,h4⟩:=bind_some h2;exact⟨p,b,h1,h3,(Option.some.inj h4).symm⟩
theorem Acr(h:WF s)(hr:Ab n 11 0 .nil s=some r):M7 s r.2:=by
 cases n with
 | zero=>exact absurd hr (F3 _ _ _ _ _)
 | succ n=>
  obtain⟨p,b,h1,h2,e⟩:=U5 hr;have ht:=J7 h;have Jd:=ht.trans (Db 1 ht.1);have Fx:=Jd.trans (Db 18 Jd.1);have hw3:=Fx.trans (U4 Fx.1 h1);have hb:=Vx hw3.1 h2;rw[e];exact hw3.less hb
theorem Ah0:∀n acc s,WF s->E5 s<n->∃r,Gn n acc s=some r:=by
 intro n;induction n with
 | zero=>intro acc s _ hm;omega
 | succ n ih=>
  intro acc s h hm;rw[Gn];have h1:=Db 1 h;split
  ·rename_i hk;exact ih _ _ (J7 h1.1).1 (by have:=Ty h1.1 z4sa;have:=Ec h1;omega)
  ·exact⟨_,rfl⟩
theorem Afx{n:Nat}{s:PS}(h:WF s)(hm:E5 s<n):∃r,params n s=some r:=by
 unfold params;split
 ·exact⟨_,rfl⟩
 ·exact Ah0 _ _ _ h hm
def cost(t a:Nat):Nat:=if t=0 then 9-a else if t=1 then 1 else if t=2 then 2 else if t=3 then 1 else if t=4 then 1 else if t=5 then 10 else if t=6 then 1 else if t=7 then 12 else if t=8 then 11 else if t=9 then 10 else if t=10 then 14 else 13
theorem G1{α β:Type}{o:Option α}{f:α->Option β}(h:∃x,o=some x)(k:∀x,o=some x->∃y,f x=some y):∃y,o.bind f=some y:=by
 obtain⟨x,e⟩:=h;obtain⟨y,e2⟩:=k x e;exact⟨y,by rw[e];exact e2⟩
theorem z3ga {P:Prop} (h:P:=by
  have:=Ec k3;exact G1 (go (k1.trans k3) (fun _=>by omega) z4ta z4sa) (fun y hy=>⟨_,rfl⟩)):P:=h
theorem z33a {P:Prop} (h:P:=by
  have:=mt z4sa;exact G1 (go ht (fun e=>absurd e z4ta) z4ta (by rw[c2];omega)) (fun x hx=>⟨_,rfl⟩)):P:=h
theorem z2la {P:Prop} (h:P:=by
  exact G1 (go ht (fun _=>by omega) z4ta z4sa) (fun x hx=>⟨_,rfl⟩)):P:=h
theorem Ag3:∀n t a acc s,WF s->(t=0->a<=6)->(t=11->kT s≠0)->20*E5 s+cost t a<=n->∃r,Ab n t a acc s=some r:=by
 intro n;induction n with
 | zero=>
  intro t a acc s _ ha _ hm;exfalso;have:1<=cost t a:=by
   unfold cost;split
   ·rename_i e;have:=ha e;omega
   ·repeat' split
    all_goals omega
  omega
 | succ n ih=>
  intro t a acc s h ha hfn hm;rw[Ab];have h0:=Reach.refl h;have ht:=J7 h;have go:∀{t1 a1:Nat} {acc1:BT A3} {s1:PS},Reach s s1->(t1=0->a1<=6)->t1≠11->20*E5 s1+cost t1 a1<=n->∃r,Ab n t1 a1 acc1 s1=some r:=fun h1 h2 h3 h4=>ih _ _ _ _ h1.1 h2 (fun e=>absurd e h3) h4;have rch:∀{t1 a1:Nat} {acc1:BT A3} {s1:PS} {x:BT A3×PS},Reach s s1->Ab n t1 a1 acc1 s1=some x->Reach s x.2/\E5 x.2<=E5 s1:=fun h1 h2=>⟨h1.trans (E6 _ _ _ _ _ _ h1.1 h2),Ec (E6 _ _ _ _ _ _ h1.1 h2)⟩;have c00:cost 0 0=9:=rfl;have c1:∀a,cost 1 a=1:=fun _=>rfl;have c2:∀a,cost 2 a=2:=fun _=>rfl;have c3:∀a,cost 3 a=1:=fun _=>rfl;have c4:∀a,cost 4 a=1:=fun _=>rfl;have c5:∀a,cost 5 a=10:=fun _=>rfl;have c6:∀a,cost 6 a=1:=fun _=>rfl;have c7:∀a,cost 7 a=12:=fun _=>rfl;have c8:∀a,cost 8 a=11:=fun _=>rfl;have c9:∀a,cost 9 a=10:=fun _=>rfl;have c10:∀a,cost 10 a=14:=fun _=>rfl;have c11:∀a,cost 11 a=13:=fun _=>rfl;have mt:kT s≠0->E5 (Aj s)<E5 s:=Ty h;by_cases t0:t=0
  ·rw[if_pos t0];subst t0;have ha':=ha rfl;have hc:cost 0 a=9-a:=rfl;by_cases a6:a=6
   ·rw[if_pos a6];exact go h0 (fun e=>absurd e z4ta) z4ta (by rw[c2];omega)
   ·rw[if_neg a6];have hc1:cost 0 (a+1)=9-(a+1):=rfl;refine G1 (go h0 (fun _=>by omega) z4ta z4sa) (fun x hx=>?_);obtain⟨k1,k2⟩:=rch h0 hx;exact go k1 (fun e=>absurd e z4ta) z4ta (by rw[c1];omega)
  rw[if_neg t0];by_cases t1:t=1
  ·rw[if_pos t1];subst t1;rw[c1]at hm;by_cases hk:rowOf (kT s)=a+1
   ·rw[if_pos hk];have J2:kT s≠0:=by intro e;rw[e]at hk;exact absurd hk (by simp[rowOf])
    have:=mt J2;have ha5:a+1<=6:=by
     rw[←hk];unfold rowOf;repeat' split
     all_goals omega
    have hc1:cost 0 (a+1)=9-(a+1):=rfl;refine G1 (go ht (fun _=>ha5) z4ta z4sa) (fun x hx=>?_);obtain⟨k1,k2⟩:=rch ht hx;exact go k1 (fun e=>absurd e z4ta) z4ta (by rw[c1];omega)
   ·rw[if_neg hk];exact⟨_,rfl⟩
  rw[if_neg t1];by_cases t2:t=2
  ·rw[if_pos t2];subst t2;rw[c2]at hm;by_cases d1:kT s=28
   ·rw[if_pos d1];exact z33a
   rw[if_neg d1];by_cases d2:kT s=35
   ·rw[if_pos d2];exact z33a
   rw[if_neg d2];refine G1 (go h0 (fun e=>absurd e z4ta) z4ta (by rw[c4];omega)) (fun x hx=>?_);obtain⟨k1,k2⟩:=rch h0 hx;exact go k1 (fun e=>absurd e z4ta) z4ta (by rw[c3];omega)
  rw[if_neg t2];by_cases t3:t=3
  ·rw[if_pos t3];subst t3;rw[c3]at hm;by_cases d1:kT s=22
   ·rw[if_pos d1];have:=mt z4sa;refine G1 (go ht (fun _=>by omega) z4ta z4sa) (fun x hx=>?_);obtain⟨k1,k2⟩:=rch ht hx;have k3:=Db 23 k1.1;have:=Ec k3;exact go (k1.trans k3) (fun e=>absurd e z4ta) z4ta (by rw[c3];omega)
   ·rw[if_neg d1];exact⟨_,rfl⟩
  rw[if_neg t3];by_cases t4:t=4
  ·rw[if_pos t4];subst t4;rw[c4]at hm;by_cases d1:kT s=2
   ·rw[if_pos d1];exact⟨_,rfl⟩
   rw[if_neg d1];by_cases d2:kT s=3
   ·rw[if_pos d2];exact⟨_,rfl⟩
   rw[if_neg d2];by_cases d3:kT s=13
   ·rw[if_pos d3];exact⟨_,rfl⟩
   rw[if_neg d3];by_cases d4:kT s=14
   ·rw[if_pos d4];exact⟨_,rfl⟩
   rw[if_neg d4];by_cases d5:kT s=15
   ·rw[if_pos d5];exact⟨_,rfl⟩
   rw[if_neg d5];by_cases d6:kT s=1
   ·rw[if_pos d6];have:=mt z4sa;by_cases d7:kT (Aj s)=18
    ·rw[if_pos d7];have k3:=J7 ht.1;have:=Ec k3;exact G1 (go (ht.trans k3) (fun e=>absurd e z4ta) z4ta (by rw[c5];omega)) (fun x hx=>⟨_,rfl⟩)
    ·rw[if_neg d7];exact⟨_,rfl⟩
   rw[if_neg d6];by_cases d7:kT s=18
   ·rw[if_pos d7];have:=mt z4sa;exact z2la
   rw[if_neg d7];by_cases d8:kT s=22
   ·rw[if_pos d8];have:=mt z4sa;exact G1 (go ht (fun e=>absurd e z4ta) z4ta (by rw[c5];omega)) (fun x hx=>⟨_,rfl⟩)
   rw[if_neg d8];have k3:=Db 18 ht.1;have k4:=Ec k3;by_cases d9:kT s=16
   ·rw[if_pos d9];have:=mt z4sa;exact G1 (go (ht.trans k3) (fun _=>by omega) z4ta z4sa) (fun x hx=>⟨_,rfl⟩)
   rw[if_neg d9];by_cases d10:kT s=17
   ·rw[if_pos d10];have:=mt z4sa;refine G1 (go (ht.trans k3) (fun _=>by omega) z4ta z4sa) (fun x hx=>?_);obtain⟨j1,j2⟩:=rch (ht.trans k3) hx;have j3:=Db 24 j1.1;have:=Ec j3;exact G1 (go (j1.trans j3) (fun _=>by omega) z4ta z4sa) (fun y hy=>⟨_,rfl⟩)
   rw[if_neg d10];exact⟨_,rfl⟩
  rw[if_neg t4];by_cases t5:t=5
  ·rw[if_pos t5];subst t5;rw[c5]at hm;by_cases d1:kT s=a
   ·rw[if_pos d1];exact⟨_,rfl⟩
   ·rw[if_neg d1];refine G1 (go h0 (fun _=>by omega) z4ta z4sa) (fun x hx=>?_);obtain⟨k1,k2⟩:=rch h0 hx;exact go k1 (fun e=>absurd e z4ta) z4ta (by rw[c6];omega)
  rw[if_neg t5];by_cases t6:t=6
  ·rw[if_pos t6];subst t6;rw[c6]at hm;by_cases d1:kT s=24
   ·rw[if_pos d1];have:=mt z4sa;refine G1 (go ht (fun _=>by omega) z4ta z4sa) (fun x hx=>?_);obtain⟨k1,k2⟩:=rch ht hx;exact go k1 (fun e=>absurd e z4ta) z4ta (by rw[c6];omega)
   ·rw[if_neg d1];exact⟨_,rfl⟩
  rw[if_neg t6];by_cases t7:t=7
  ·rw[if_pos t7];subst t7;rw[c7]at hm;have k3:=Db 20 h;have:=Ec k3;exact go k3 (fun e=>absurd e z4ta) z4ta (by rw[c8];omega)
  rw[if_neg t7];by_cases t8:t=8
  ·rw[if_pos t8];subst t8;rw[c8]at hm;by_cases d1:kT s=21
   ·rw[if_pos d1];exact⟨_,rfl⟩
   rw[if_neg d1];by_cases d2:s.bad≠0
   ·rw[if_pos d2];exact⟨_,rfl⟩
   rw[if_neg d2];refine G1 (go h0 (fun e=>absurd e z4ta) z4ta (by rw[c9];omega)) (fun x hx=>?_);obtain⟨k1,k2⟩:=rch h0 hx;have:=Rv h z4sa (A46 h hx);exact go k1 (fun e=>absurd e z4ta) z4ta (by rw[c8];omega)
  rw[if_neg t8];by_cases t9:t=9
  ·rw[if_pos t9];subst t9;rw[c9]at hm;by_cases d1:kT s=5
   ·rw[if_pos d1];have:=mt z4sa;have k1:=Db 1 ht.1;have k2:=Db 26 k1.1;have:=Ec k1;have:=Ec k2;exact G1 (go ((ht.trans k1).trans k2) (fun _=>by omega) z4ta z4sa) (fun x hx=>⟨_,rfl⟩)
   rw[if_neg d1];by_cases d2:kT s=6
   ·rw[if_pos d2];have:=mt z4sa;refine G1 (go ht (fun _=>by omega) z4ta z4sa) (fun x hx=>?_);obtain⟨k1,k2⟩:=rch ht hx;refine G1 (go k1 (fun e=>absurd e z4ta) z4ta (by rw[c7];omega)) (fun y hy=>?_);obtain⟨k3,k4⟩:=rch k1 hy;by_cases d3:kT y.2=7
    ·rw[if_pos d3];have k5:=J7 k3.1;have:=Ec k5;exact G1 (go (k3.trans k5) (fun e=>absurd e z4ta) z4ta (by rw[c7];omega)) (fun z hz=>⟨_,rfl⟩)
    ·rw[if_neg d3];exact⟨_,rfl⟩
   rw[if_neg d2];by_cases d3:kT s=8
   ·rw[if_pos d3];have:=mt z4sa;refine G1 (go ht (fun _=>by omega) z4ta z4sa) (fun x hx=>?_);obtain⟨k1,k2⟩:=rch ht hx;exact G1 (go k1 (fun e=>absurd e z4ta) z4ta (by rw[c7];omega)) (fun y hy=>⟨_,rfl⟩)
   rw[if_neg d3];by_cases d4:kT s=9
   ·rw[if_pos d4];have:=mt z4sa;by_cases d5:kT (Aj s)=25
    ·rw[if_pos d5];exact⟨_,rfl⟩
    ·rw[if_neg d5];exact z2la
   rw[if_neg d4];by_cases d5:kT s=10
   ·rw[if_pos d5];exact⟨_,rfl⟩
   rw[if_neg d5];by_cases d6:kT s=11
   ·rw[if_pos d6];exact⟨_,rfl⟩
   rw[if_neg d6];by_cases d7:kT s=12
   ·rw[if_pos d7];have:=mt z4sa;exact z2la
   rw[if_neg d7];refine G1 (go h0 (fun _=>by omega) z4ta z4sa) (fun x hx=>?_);obtain⟨k1,k2⟩:=rch h0 hx;by_cases d8:K3 x.1=true/\kT x.2=26
   ·rw[if_pos d8];have k3:=J7 k1.1;exact z3ga
   rw[if_neg d8];by_cases d9:kT x.2=26
   ·rw[if_pos d9];have k3:=Qb k1.1;exact z3ga
   ·rw[if_neg d9];exact⟨_,rfl⟩
  rw[if_neg t9];by_cases t10:t=10
  ·rw[if_pos t10];subst t10;rw[c10]at hm;by_cases d1:kT s=0
   ·rw[if_pos d1];exact⟨_,rfl⟩
   rw[if_neg d1];have hb:=To h d1;by_cases d2:kT s=4
   ·rw[if_pos d2];refine G1 (ih _ _ _ _ h (fun e=>absurd e z4ta) (fun _=>d1) (by rw[c11];omega)) (fun x hx=>?_);obtain⟨k1,k2⟩:=rch h0 hx;have:=Rv h hb (Acr h hx);exact go k1 (fun e=>absurd e z4ta) z4ta (by rw[c10];omega)
   ·rw[if_neg d2];refine G1 (go h0 (fun e=>absurd e z4ta) z4ta (by rw[c9];omega)) (fun x hx=>?_);obtain⟨k1,k2⟩:=rch h0 hx;have:=Rv h hb (A46 h hx);exact go k1 (fun e=>absurd e z4ta) z4ta (by rw[c10];omega)
  rw[if_neg t10];have hc:cost t a=13:=by unfold cost;simp only[if_neg t0,if_neg t1,if_neg t2,if_neg t3,if_neg t4,if_neg t5,if_neg t6,if_neg t7,if_neg t8,if_neg t9,if_neg t10]
  have k1:=Db 1 ht.1;have k2:=Db 18 k1.1;have:=Ec k1;have:=Ec k2;have:=Ec ht;refine G1 (Afx k2.1 z4sa) (fun p hp=>?_);have k3:=U4 k2.1 hp;have:=Ec k3;exact G1 (go (((ht.trans k1).trans k2).trans k3) (fun e=>absurd e z4ta) z4ta (by rw[c7];omega)) (fun x hx=>⟨_,rfl⟩)
end
section
open Go.Deep (BT)
def nest:List Tk->Int->Nat
 | [],_=>0
 | t::r,o=>
  if t.k=18\/t.k=20\/t.k=22 then(if 30<=o then t.line else nest r (o+1))
  else if t.k=19\/t.k=21\/t.k=23 then nest r (o-1)
  else nest r o
abbrev Nm:=List UInt8
abbrev C4:=Nat×Nat
def Cy(is:Bool)(code line:Nat)(f:C4):C4:=if is&&f.1==0 then(code,line) else f
def M0:List (Nm×Nat)->Nm->Option Nat
 | [],_=>none
 | f::r,s=>if f.1=s then some f.2 else M0 r s
def Ma(fns:List (Nm×Nat))(s:Nm)(n:Nat):Bool:=match M0 fns s with
 | none=>true
 | some m=>m !=n
def Ba(fns:List (Nm×Nat)):BT A3->List Nm->List Nm->Nat->Bool->C4->List Nm×C4
 | .nil,_,cur,_,_,f=>(cur,f)
 | .node _ _ l ch sib,outer,cur,wh,inn,f=>
  if l.kd=31 then Ba fns sib outer cur wh inn (Ba fns ch (outer++cur) [] wh inn f).2
  else if l.kd=32 then Ba fns sib outer cur wh inn (Ba fns ch (outer++cur) [] (wh+1) inn f).2
  else if l.kd=21 then
   Ba fns sib outer ((Ba fns ch outer cur wh inn (Cy (decide (l.s∈cur)) 3 l.line f)).1++[l.s]) wh inn (Ba fns ch outer cur wh inn (Cy (decide (l.s∈cur)) 3 l.line f)).2
  else
   let f1:=if l.kd=6\/l.kd=28 then Cy (!decide (l.s∈outer++cur)) 3 l.line f
    else if l.kd=7 then Cy (Ma fns l.s (Ak ch)) 3 l.line f
    else if l.kd=25\/l.kd=26 then Cy (wh==0) 4 l.line f
    else if l.kd=24 then Cy (!inn) 4 l.line f
    else f
   Ba fns sib outer (Ba fns ch outer cur wh inn f1).1 wh inn (Ba fns ch outer cur wh inn f1).2
def Gw:List (Nat×Nm)->List Nm->C4->List Nm×C4
 | [],cur,f=>(cur,f)
 | p::r,cur,f=>Gw r (cur++[p.2]) (Cy (decide (p.2∈cur)) 3 p.1 f)
def Dq(fns:List (Nm×Nat)):BT A3->List Nm->List Nm->C4->C4
 | .nil,_,_,f=>f
 | .node x y l ch sib,seen,cur,f=>
  if l.kd=20 then
   let f1:=Cy (decide (l.s∈seen)) 3 l.line f
   let p:=Gw l.ps [] f1
   Dq fns sib (seen++[l.s]) cur (Ba fns ch cur p.1 0 true p.2).2
  else Dq fns sib seen (Ba fns (.node x y l ch .nil) [] cur 0 false f).1 (Ba fns (.node x y l ch .nil) [] cur 0 false f).2
def Bx:BT A3->List (Nm×Nat)
 | .nil=>[]
 | .node _ _ l _ sib=>if l.kd=20 then(l.s,l.ps.length)::Bx sib else Bx sib
theorem Anu(is:Bool)(code line:Nat)(f:C4)(h:f.1≠0):Cy is code line f=f:=by
 unfold Cy;rw[if_neg];simp[h]
theorem Aiy(fns:List (Nm×Nat))(x y:Nat)(l:A3)(ch sib:BT A3)(outer cur:List Nm)(wh:Nat)(inn:Bool)(f:C4) :
  Ba fns (.node x y l ch sib) outer cur wh inn f=Ba fns sib outer (Ba fns (.node x y l ch .nil) outer cur wh inn f).1 wh inn (Ba fns (.node x y l ch .nil) outer cur wh inn f).2:=by
 by_cases h1:l.kd=31
 ·simp only[Ba,if_pos h1]
 ·by_cases h2:l.kd=32
  ·simp only[Ba,if_neg h1,if_pos h2]
  ·by_cases h3:l.kd=21
   ·simp only[Ba,if_neg h1,if_neg h2,if_pos h3]
   ·simp only[Ba,if_neg h1,if_neg h2,if_neg h3]
def bsize:BT A3->Nat
 | .nil=>0
 | .node _ _ l c r=>1+l.ps.length+bsize c+bsize r
def H8:BT A3->Prop
 | .nil=>True
 | .node _ _ l _ r=>l.kd≠32/\H8 r
def Ev:BT A3->Prop
 | .nil=>True
 | .node _ _ l c r=>(l.kd=8->Ak c=1)/\(l.kd=23->∃e b,c=Co e (nd (Au 32 0) b)/\Ak e=1/\H8 e)/\(l.kd≠23->H8 c)/\Ev c/\Ev r
theorem M9:∀f g:BT A3,bsize (Co f g)=bsize f+bsize g:=by
 intro f;induction f with
 | nil=>intro g;simp[Co,bsize]
 | node x y l c r _ ih=>intro g;simp only[Co,bsize,ih];omega
theorem H8.app:∀f g:BT A3,H8 f->H8 g->H8 (Co f g):=by
 intro f;induction f with
 | nil=>intro g _ h;exact h
 | node x y l c r _ ih=>intro g h1 h2;exact⟨h1.1,ih g h1.2 h2⟩
theorem Ev.app:∀f g:BT A3,Ev f->Ev g->Ev (Co f g):=by
 intro f;induction f with
 | nil=>intro g _ h;exact h
 | node x y l c r _ ih=>intro g h1 h2;exact⟨h1.1,h1.2.1,h1.2.2.1,h1.2.2.2.1,ih g h1.2.2.2.2 h2⟩
theorem Mf{l:A3}{c:BT A3}(h8:l.kd=8->Ak c=1)(h23:l.kd≠23)(hc:Ev c)(ht:H8 c):Ev (nd l c):=⟨h8,fun e=>absurd e h23,fun _=>ht,hc,trivial⟩
theorem N4{l:A3}{c:BT A3}(h:l.kd≠32):H8 (nd l c):=⟨h,trivial⟩
theorem Br(l:A3)(c:BT A3):bsize (nd l c)=1+l.ps.length+bsize c:=by simp[nd,bsize]
theorem Tz{s:PS}{k:Nat}(hk:k≠0)(h:WF s)(hb:(Aw k s).bad=0):E5 (Aw k s)<E5 s:=Rv h (Uy hk h hb).1 (Uy hk h).less
theorem Fv{s s':PS}(h:Reach s s')(hb:s'.bad=0):s.bad=0:=(h.2 hb).1
theorem Agv:∀n acc s r,WF s->Gn n acc s=some r->r.2.bad=0->r.1.length+2*E5 r.2<=acc.length+2*E5 s:=by
 intro n;induction n with
 | zero=>intro acc s r _ hr;rw[Gn]at hr;cases hr
 | succ n ih=>
  intro acc s r h hr hb;rw[Gn]at hr;have h1:=Db 1 h;by_cases hk:kT (Aw 1 s)=24
  ·rw[if_pos hk]at hr;have h2:=J7 h1.1;have:=ih _ _ _ h2.1 hr hb;have hg:=To h1.1 (show kT (Aw 1 s)≠0 by omega);have:=Tz z4ta h hg;have:=Ec h2;simp only[List.length_append,List.length_singleton]at *;omega
  ·rw[if_neg hk]at hr;have e:=(Option.some.inj hr).symm;rw[e]at hb ⊢;have h2:=Db 19 h1.1;have:=Tz z4ta h (Fv h2 hb);have:=Ec h2;simp only[List.length_append,List.length_singleton];omega
theorem Afv{n:Nat}{s:PS}{r:List (Nat×List UInt8)×PS}(h:WF s)(hr:params n s=some r)(hb:r.2.bad=0):r.1.length+2*E5 r.2<=2*E5 s:=by
 unfold params at hr;split at hr
 ·have e:=(Option.some.inj hr).symm;rw[e];have:=Ec (J7 h);simp;omega
 ·have:=Agv _ _ _ _ h hr hb;simpa using this
def Mg(t:Nat):Prop:=t=0\/t=2\/t=4\/t=9\/t=11
def Dc(t:Nat):Prop:=t=1\/t=3
theorem Aj4{x v:BT A3}(hx:Ev x)(h1:Ak x=1)(hv:Ev v)(hvt:H8 v)(hc:K3 x=true):Ev (setNode x v)/\H8 (setNode x v)/\bsize (setNode x v)<=bsize x+bsize v/\Ak (setNode x v)=1:=by
 cases x with
 | nil=>simp[Ak]at h1
 | node i j l c r=>
  by_cases h6:l.kd=6
  ·have e:setNode (.node i j l c r) v=nd ⟨28,l.line,l.s,0,[]⟩ v:=by unfold setNode;rw[if_pos (by exact h6)];rfl
   rw[e];refine⟨Mf (fun e=>absurd (show(28:Nat)=8 from e) z4ta) (show(28:Nat)≠23 by decide) hv hvt,N4 (show(28:Nat)≠32 by decide),?_,rfl⟩;rw[Br];simp[bsize];omega
  ·have e:setNode (.node i j l c r) v=nd (Au 29 l.line) (Co c v):=by unfold setNode;rw[if_neg (by exact h6)];rfl
   have h12:l.kd=12:=by
    unfold K3 at hc;simp only[Hi,Bool.or_eq_true,beq_iff_eq]at hc;omega
   rw[e];refine⟨Mf (fun e=>absurd (show(29:Nat)=8 from e) z4ta) (show(29:Nat)≠23 by decide) (Ev.app _ _ hx.2.2.2.1 hv) (H8.app _ _ (hx.2.2.1 z4sa) hvt),N4 (show(29:Nat)≠32 by decide),?_,rfl⟩;rw[Br,M9];simp[bsize,Au];omega
def Fit(t:Nat)(acc:BT A3)(s:PS)(r:BT A3×PS):Prop:=Ev r.1/\H8 r.1/\bsize r.1+2*E5 r.2<=bsize acc+2*E5 s/\(Mg t\/Dc t->Ak r.1=1)
theorem Fit.leaf{t:Nat}{acc:BT A3}{s s':PS}{l:A3}(h8:l.kd≠8)(h23:l.kd≠23)(h32:l.kd≠32)(hp:l.ps=[])(hm:1+2*E5 s'<=2*E5 s):Fit t acc s (nd l .nil,s'):=by
 refine⟨Mf (fun e=>absurd e h8) h23 trivial trivial,N4 h32,?_,fun _=>rfl⟩;show bsize (nd l .nil)+2*E5 s'<=_;rw[Br,hp];simp[bsize];omega
theorem Fit.wrap{t:Nat}{acc c:BT A3}{s s':PS}{l:A3}(h8:l.kd=8->Ak c=1)(h23:l.kd≠23)(h32:l.kd≠32)(hp:l.ps=[])(hc:Ev c)(ht:H8 c)(hm:1+bsize c+2*E5 s'<=bsize acc+2*E5 s):Fit t acc s (nd l c,s'):=by
 refine⟨Mf h8 h23 hc ht,N4 h32,?_,fun _=>rfl⟩;show bsize (nd l c)+2*E5 s'<=_;rw[Br,hp];simp;omega
theorem z4ya {P:Prop} (h:P:=by unfold Dc;omega):P:=h
theorem z1wa {P:Prop} (h:P:=by
  have f2:=ih _ _ _ _ _ hx.1 k2 hb (Ev.app _ _ hsa f.1) (H8.app _ _ hta f.2.1) (fun e=>absurd e z4ya);refine⟨f2.1,f2.2.1,?_,fun e=>absurd e nt⟩;have h2:=f2.2.2.1;rw[M9]at h2;have:=f.2.2.1;omega):P:=h
theorem Afy:∀n t a acc s r,WF s->Ab n t a acc s=some r->r.2.bad=0->Ev acc->H8 acc->(Dc t->Ak acc=1)->Fit t acc s r:=by
 intro n;induction n with
 | zero=>intro t a acc s r _ hr;exact absurd hr (F3 _ _ _ _ _)
 | succ n ih=>
  intro t a acc s r h hr hb hsa hta hac;have ht:=J7 h;have mt:kT s≠0->E5 (Aj s)<E5 s:=Ty h;have sub:∀{t1 a1:Nat} {s1:PS} {x:BT A3×PS},¬Dc t1->WF s1->Ab n t1 a1 .nil s1=some x->x.2.bad=0->Fit t1 .nil s1 x:=fun h1 h2 h3 h4=>ih _ _ _ _ _ h2 h3 h4 trivial trivial (fun e=>absurd e h1);have b0:bsize (.nil:BT A3)=0:=rfl;by_cases t0:t=0
  ·subst t0;by_cases a6:a=6
   ·subst a6;rw[Ab,if_pos rfl,if_pos rfl]at hr;have f:=sub z4ya h hr hb;exact⟨f.1,f.2.1,by have:=f.2.2.1;omega,fun _=>f.2.2.2 (.inl (.inr (.inl rfl)))⟩
   ·rw[Ab,if_pos rfl,if_neg a6]at hr;obtain⟨x,k1,k2⟩:=bind_some hr;have hx:=E6 _ _ _ _ _ _ h k1;have hy:=E6 _ _ _ _ _ _ hx.1 k2;have f:=sub z4ya h k1 (Fv hy hb);have f2:=ih _ _ _ _ _ hx.1 k2 hb f.1 f.2.1 (fun _=>f.2.2.2 (.inl (.inl rfl)));exact⟨f2.1,f2.2.1,by have:=f.2.2.1;have:=f2.2.2.1;omega,fun _=>f2.2.2.2 (.inr (.inl rfl))⟩
  by_cases t1:t=1
  ·subst t1;by_cases hk:rowOf (kT s)=a+1
   ·obtain⟨y,k1,k2⟩:=Yd hk hr;have J2:kT s≠0:=by intro e;rw[e]at hk;exact absurd hk (by simp[rowOf])
    have hy:=E6 _ _ _ _ _ _ ht.1 k1;have hz:=E6 _ _ _ _ _ _ hy.1 k2;have f:=sub z4ya ht.1 k1 (Fv hz hb);have Ai:Ev (nd (Au (100+kT s) (An s).line) (Co acc y.1)):=Mf (fun e=>absurd (show 100+kT s=8 from e) z4sa) (show 100+kT s≠23 by omega) (Ev.app _ _ hsa f.1) (H8.app _ _ hta f.2.1);have f2:=ih _ _ _ _ _ hy.1 k2 hb Ai (N4 (show 100+kT s≠32 by omega)) (fun _=>rfl);refine⟨f2.1,f2.2.1,?_,fun _=>f2.2.2.2 (.inr (.inl rfl))⟩;have h1:=f.2.2.1;have h2:=f2.2.2.1;rw[Br,M9]at h2;have:=mt J2;simp[Au]at h2;omega
   ·rw[Yc hk hr];exact⟨hsa,hta,Nat.le_refl _,fun _=>hac (.inl rfl)⟩
  by_cases t2:t=2
  ·subst t2;rw[Ab,if_neg z4ta,if_neg z4ta,if_pos rfl]at hr;by_cases d1:kT s=28
   ·rw[if_pos d1]at hr;obtain⟨x,k1,k2⟩:=bind_some hr;have e:=(Option.some.inj k2).symm;subst e;have f:=sub z4ya ht.1 k1 hb;exact Fit.wrap (fun e=>absurd (show(13:Nat)=8 from e) z4ta) (show(13:Nat)≠23 by decide) (show(13:Nat)≠32 by decide) rfl f.1 f.2.1 (by have:=f.2.2.1;have:=mt z4sa;omega)
   rw[if_neg d1]at hr;by_cases d2:kT s=35
   ·rw[if_pos d2]at hr;obtain⟨x,k1,k2⟩:=bind_some hr;have e:=(Option.some.inj k2).symm;subst e;have f:=sub z4ya ht.1 k1 hb;exact Fit.wrap (fun e=>absurd (show(14:Nat)=8 from e) z4ta) (show(14:Nat)≠23 by decide) (show(14:Nat)≠32 by decide) rfl f.1 f.2.1 (by have:=f.2.2.1;have:=mt z4sa;omega)
   rw[if_neg d2]at hr;obtain⟨x,k1,k2⟩:=bind_some hr;have hx:=E6 _ _ _ _ _ _ h k1;have hy:=E6 _ _ _ _ _ _ hx.1 k2;have f:=sub z4ya h k1 (Fv hy hb);have f2:=ih _ _ _ _ _ hx.1 k2 hb f.1 f.2.1 (fun _=>f.2.2.2 (.inl (.inr (.inr (.inl rfl)))));exact⟨f2.1,f2.2.1,by have:=f.2.2.1;have:=f2.2.2.1;omega,fun _=>f2.2.2.2 (.inr (.inr rfl))⟩
  by_cases t3:t=3
  ·subst t3;rw[Ab,if_neg z4ta,if_neg z4ta,if_neg z4ta,if_pos rfl]at hr;by_cases d1:kT s=22
   ·rw[if_pos d1]at hr;obtain⟨y,k1,k2⟩:=bind_some hr;have hy:=E6 _ _ _ _ _ _ ht.1 k1;have hw:=Db 23 hy.1;have hz:=E6 _ _ _ _ _ _ hw.1 k2;have f:=sub z4ya ht.1 k1 (Fv hw (Fv hz hb));have Ai:Ev (nd (Au 12 (An s).line) (Co acc y.1)):=Mf (fun e=>absurd (show(12:Nat)=8 from e) z4ta) (show(12:Nat)≠23 by decide) (Ev.app _ _ hsa f.1) (H8.app _ _ hta f.2.1);have f2:=ih _ _ _ _ _ hw.1 k2 hb Ai (N4 (show(12:Nat)≠32 by decide)) (fun _=>rfl);refine⟨f2.1,f2.2.1,?_,fun _=>f2.2.2.2 (.inr (.inr rfl))⟩;have h1:=f.2.2.1;have h2:=f2.2.2.1;have h3:=Ec hw;rw[Br,M9]at h2;have:=mt z4sa;simp[Au]at h2;omega
   ·rw[if_neg d1]at hr;have e:=(Option.some.inj hr).symm;subst e;exact⟨hsa,hta,Nat.le_refl _,fun _=>hac (.inr rfl)⟩
  by_cases t4:t=4
  ·subst t4;have lf:∀{l:A3},kT s≠0->l.kd≠8->l.kd≠23->l.kd≠32->l.ps=[]->r=(nd l .nil,Aj s)->Fit 4 acc s r:=by
    intro l h0 h8 h23 h32 hp e;rw[e];exact Fit.leaf h8 h23 h32 hp (by have:=mt h0;omega)
   by_cases d1:kT s=2
   ·exact lf z4sa (show(1:Nat)≠8 by decide) (show(1:Nat)≠23 by decide) (show(1:Nat)≠32 by decide) rfl (by rw[Ab,if_neg z4ta,if_neg z4ta,if_neg z4ta,if_neg z4ta,if_pos rfl,if_pos d1]at hr;exact(Option.some.inj hr).symm)
   by_cases d2:kT s=3
   ·exact lf z4sa (show(2:Nat)≠8 by decide) (show(2:Nat)≠23 by decide) (show(2:Nat)≠32 by decide) rfl (by rw[Ab,if_neg z4ta,if_neg z4ta,if_neg z4ta,if_neg z4ta,if_pos rfl,if_neg d1,if_pos d2]at hr;exact(Option.some.inj hr).symm)
   rw[Ab,if_neg z4ta,if_neg z4ta,if_neg z4ta,if_neg z4ta,if_pos rfl,if_neg d1,if_neg d2]at hr;by_cases d3:kT s=13
   ·rw[if_pos d3]at hr;exact lf z4sa (show(3:Nat)≠8 by decide) (show(3:Nat)≠23 by decide) (show(3:Nat)≠32 by decide) rfl (Option.some.inj hr).symm
   rw[if_neg d3]at hr;by_cases d4:kT s=14
   ·rw[if_pos d4]at hr;exact lf z4sa (show(4:Nat)≠8 by decide) (show(4:Nat)≠23 by decide) (show(4:Nat)≠32 by decide) rfl (Option.some.inj hr).symm
   rw[if_neg d4]at hr;by_cases d5:kT s=15
   ·rw[if_pos d5]at hr;exact lf z4sa (show(5:Nat)≠8 by decide) (show(5:Nat)≠23 by decide) (show(5:Nat)≠32 by decide) rfl (Option.some.inj hr).symm
   rw[if_neg d5]at hr;by_cases d6:kT s=1
   ·rw[if_pos d6]at hr;have:=mt z4sa;by_cases d7:kT (Aj s)=18
    ·rw[if_pos d7]at hr;obtain⟨x,k1,k2⟩:=bind_some hr;have e:=(Option.some.inj k2).symm;subst e;have h2:=J7 ht.1;have f:=sub z4ya h2.1 k1 hb;exact Fit.wrap (fun e=>absurd (show(7:Nat)=8 from e) z4ta) (show(7:Nat)≠23 by decide) (show(7:Nat)≠32 by decide) rfl f.1 f.2.1 (by have:=f.2.2.1;have:=Ec h2;omega)
    ·rw[if_neg d7]at hr;exact lf z4sa (show(6:Nat)≠8 by decide) (show(6:Nat)≠23 by decide) (show(6:Nat)≠32 by decide) rfl (Option.some.inj hr).symm
   rw[if_neg d6]at hr;by_cases d7:kT s=18
   ·rw[if_pos d7]at hr;have:=mt z4sa;obtain⟨x,k1,k2⟩:=bind_some hr;have e:=(Option.some.inj k2).symm;subst e;have hx:=E6 _ _ _ _ _ _ ht.1 k1;have hw:=Db 19 hx.1;have f:=sub z4ya ht.1 k1 (Fv hw hb);exact Fit.wrap (fun _=>f.2.2.2 (.inl (.inl rfl))) (show(8:Nat)≠23 by decide) (show(8:Nat)≠32 by decide) rfl f.1 f.2.1 (by have:=f.2.2.1;have:=Ec hw;omega)
   rw[if_neg d7]at hr;by_cases d8:kT s=22
   ·rw[if_pos d8]at hr;have:=mt z4sa;obtain⟨x,k1,k2⟩:=bind_some hr;have e:=(Option.some.inj k2).symm;subst e;have f:=sub z4ya ht.1 k1 hb;exact Fit.wrap (fun e=>absurd (show(9:Nat)=8 from e) z4ta) (show(9:Nat)≠23 by decide) (show(9:Nat)≠32 by decide) rfl f.1 f.2.1 (by have:=f.2.2.1;omega)
   rw[if_neg d8]at hr;have h18:=Db 18 ht.1;have m18:=Ec h18;by_cases d9:kT s=16
   ·rw[if_pos d9]at hr;have:=mt z4sa;obtain⟨x,k1,k2⟩:=bind_some hr;have e:=(Option.some.inj k2).symm;subst e;have hx:=E6 _ _ _ _ _ _ h18.1 k1;have hw:=Db 19 hx.1;have f:=sub z4ya h18.1 k1 (Fv hw hb);exact Fit.wrap (fun e=>absurd (show(10:Nat)=8 from e) z4ta) (show(10:Nat)≠23 by decide) (show(10:Nat)≠32 by decide) rfl f.1 f.2.1 (by have:=f.2.2.1;have:=Ec hw;omega)
   rw[if_neg d9]at hr;by_cases d10:kT s=17
   ·rw[if_pos d10]at hr;have:=mt z4sa;obtain⟨x,k1,k2⟩:=bind_some hr;obtain⟨y,k3,k4⟩:=bind_some k2;have e:=(Option.some.inj k4).symm;subst e;have hx:=E6 _ _ _ _ _ _ h18.1 k1;have h24:=Db 24 hx.1;have hy:=E6 _ _ _ _ _ _ h24.1 k3;have hw:=Db 19 hy.1;have f2:=sub z4ya h24.1 k3 (Fv hw hb);have f:=sub z4ya h18.1 k1 (Fv h24 (Fv hy (Fv hw hb)));exact Fit.wrap (fun e=>absurd (show(11:Nat)=8 from e) z4ta) (show(11:Nat)≠23 by decide) (show(11:Nat)≠32 by decide) rfl (Ev.app _ _ f.1 f2.1) (H8.app _ _ f.2.1 f2.2.1) (by rw[M9];have:=f.2.2.1;have:=f2.2.2.1;have:=Ec hw;have:=Ec h24;omega)
   rw[if_neg d10]at hr;have e:=(Option.some.inj hr).symm;subst e;exact absurd hb (Ri h)
  by_cases t5:t=5
  ·subst t5;have nt:¬(Mg 5\/Dc 5):=by unfold Mg Dc;omega
   rw[Ab,if_neg z4ta,if_neg z4ta,if_neg z4ta,if_neg z4ta,if_neg z4ta,if_pos rfl]at hr;by_cases d1:kT s=a
   ·rw[if_pos d1]at hr;have e:=(Option.some.inj hr).symm;subst e;exact⟨trivial,trivial,by have:=Ec ht;show bsize (.nil:BT A3)+2*E5 (Aj s)<=_;omega,fun e=>absurd e nt⟩
   ·rw[if_neg d1]at hr;obtain⟨x,k1,k2⟩:=bind_some hr;have hx:=E6 _ _ _ _ _ _ h k1;have hy:=E6 _ _ _ _ _ _ hx.1 k2;have f:=sub z4ya h k1 (Fv hy hb);have f2:=ih _ _ _ _ _ hx.1 k2 hb f.1 f.2.1 (fun e=>absurd e z4ya);exact⟨f2.1,f2.2.1,by have:=f.2.2.1;have:=f2.2.2.1;omega,fun e=>absurd e nt⟩
  by_cases t6:t=6
  ·subst t6;have nt:¬(Mg 6\/Dc 6):=by unfold Mg Dc;omega
   rw[Ab,if_neg z4ta,if_neg z4ta,if_neg z4ta,if_neg z4ta,if_neg z4ta,if_neg z4ta,if_pos rfl]at hr;by_cases d1:kT s=24
   ·rw[if_pos d1]at hr;obtain⟨y,k1,k2⟩:=bind_some hr;have hy:=E6 _ _ _ _ _ _ ht.1 k1;have hz:=E6 _ _ _ _ _ _ hy.1 k2;have f:=sub z4ya ht.1 k1 (Fv hz hb);have f2:=ih _ _ _ _ _ hy.1 k2 hb (Ev.app _ _ hsa f.1) (H8.app _ _ hta f.2.1) (fun e=>absurd e z4ya);refine⟨f2.1,f2.2.1,?_,fun e=>absurd e nt⟩;have h2:=f2.2.2.1;rw[M9]at h2;have:=f.2.2.1;have:=Ec ht;omega
   ·rw[if_neg d1]at hr;have e:=(Option.some.inj hr).symm;subst e;exact⟨hsa,hta,by have:=Ec (Db a h);show bsize acc+2*E5 (Aw a s)<=_;omega,fun e=>absurd e nt⟩
  by_cases t7:t=7
  ·subst t7;have nt:¬(Mg 7\/Dc 7):=by unfold Mg Dc;omega
   rw[Ab,if_neg z4ta,if_neg z4ta,if_neg z4ta,if_neg z4ta,if_neg z4ta,if_neg z4ta,if_neg z4ta,if_pos rfl]at hr;have hw:=Db 20 h;have f:=sub z4ya hw.1 hr hb;exact⟨f.1,f.2.1,by have:=f.2.2.1;have:=Ec hw;omega,fun e=>absurd e nt⟩
  by_cases t8:t=8
  ·subst t8;have nt:¬(Mg 8\/Dc 8):=by unfold Mg Dc;omega
   rw[Ab,if_neg z4ta,if_neg z4ta,if_neg z4ta,if_neg z4ta,if_neg z4ta,if_neg z4ta,if_neg z4ta,if_neg z4ta,if_pos rfl]at hr;by_cases d1:kT s=21
   ·rw[if_pos d1]at hr;have e:=(Option.some.inj hr).symm;subst e;exact⟨hsa,hta,by have:=Ec ht;show bsize acc+2*E5 (Aj s)<=_;omega,fun e=>absurd e nt⟩
   rw[if_neg d1]at hr;by_cases d2:s.bad≠0
   ·rw[if_pos d2]at hr;have e:=(Option.some.inj hr).symm;subst e;exact absurd hb d2
   rw[if_neg d2]at hr;obtain⟨x,k1,k2⟩:=bind_some hr;have hx:=E6 _ _ _ _ _ _ h k1;have hy:=E6 _ _ _ _ _ _ hx.1 k2;have f:=sub z4ya h k1 (Fv hy hb);exact z1wa
  by_cases t9:t=9
  ·subst t9;rw[Ab,if_neg z4ta,if_neg z4ta,if_neg z4ta,if_neg z4ta,if_neg z4ta,if_neg z4ta,if_neg z4ta,if_neg z4ta,if_neg z4ta,if_pos rfl]at hr;by_cases d1:kT s=5
   ·rw[if_pos d1]at hr;have:=mt z4sa;obtain⟨x,k1,k2⟩:=bind_some hr;have e:=(Option.some.inj k2).symm;subst e;have w1:=Db 1 ht.1;have w2:=Db 26 w1.1;have hx:=E6 _ _ _ _ _ _ w2.1 k1;have w3:=Db 25 hx.1;have f:=sub z4ya w2.1 k1 (Fv w3 hb);exact Fit.wrap (fun e=>absurd (show(21:Nat)=8 from e) z4ta) (show(21:Nat)≠23 by decide) (show(21:Nat)≠32 by decide) rfl f.1 f.2.1 (by have:=f.2.2.1;have:=Ec w1;have:=Ec w2;have:=Ec w3;omega)
   rw[if_neg d1]at hr;by_cases d2:kT s=6
   ·rw[if_pos d2]at hr;have:=mt z4sa;obtain⟨x,k1,k2⟩:=bind_some hr;obtain⟨y,k3,k4⟩:=bind_some k2;have hx:=E6 _ _ _ _ _ _ ht.1 k1;have hy:=E6 _ _ _ _ _ _ hx.1 k3;by_cases d3:kT y.2=7
    ·rw[if_pos d3]at k4;obtain⟨z,k5,k6⟩:=bind_some k4;have e:=(Option.some.inj k6).symm;subst e;have hyg:=To hy.1 (show kT y.2≠0 by omega);have h7:=J7 hy.1;have f3:=sub z4ya h7.1 k5 hb;have f2:=sub z4ya hx.1 k3 hyg;have f:=sub z4ya ht.1 k1 (Fv hy hyg);have A9:Ev (nd (Au 31 0) y.1):=Mf (fun e=>absurd (show(31:Nat)=8 from e) z4ta) (show(31:Nat)≠23 by decide) f2.1 f2.2.1;have Ar:Ev (nd (Au 31 0) z.1):=Mf (fun e=>absurd (show(31:Nat)=8 from e) z4ta) (show(31:Nat)≠23 by decide) f3.1 f3.2.1;have ht2:∀c,H8 (nd (Au 31 0) c):=fun c=>N4 (show(31:Nat)≠32 by decide);exact Fit.wrap (fun e=>absurd (show(22:Nat)=8 from e) z4ta) (show(22:Nat)≠23 by decide) (show(22:Nat)≠32 by decide) rfl (Ev.app _ _ f.1 (Ev.app _ _ A9 Ar)) (H8.app _ _ f.2.1 (H8.app _ _ (ht2 _) (ht2 _))) (by rw[M9,M9,Br,Br];have:=f.2.2.1;have:=f2.2.2.1;have:=f3.2.2.1;have:=Ty hy.1 (show kT y.2≠0 by omega);simp[Au];omega)
    ·rw[if_neg d3]at k4;have e:=(Option.some.inj k4).symm;subst e;have f2:=sub z4ya hx.1 k3 hb;have f:=sub z4ya ht.1 k1 (Fv hy hb);have A9:Ev (nd (Au 31 0) y.1):=Mf (fun e=>absurd (show(31:Nat)=8 from e) z4ta) (show(31:Nat)≠23 by decide) f2.1 f2.2.1;exact Fit.wrap (fun e=>absurd (show(22:Nat)=8 from e) z4ta) (show(22:Nat)≠23 by decide) (show(22:Nat)≠32 by decide) rfl (Ev.app _ _ f.1 A9) (H8.app _ _ f.2.1 (N4 (show(31:Nat)≠32 by decide))) (by rw[M9,Br];have:=f.2.2.1;have:=f2.2.2.1;simp[Au];omega)
   rw[if_neg d2]at hr;by_cases d3:kT s=8
   ·rw[if_pos d3]at hr;have:=mt z4sa;obtain⟨x,k1,k2⟩:=bind_some hr;obtain⟨y,k3,k4⟩:=bind_some k2;have e:=(Option.some.inj k4).symm;subst e;have hx:=E6 _ _ _ _ _ _ ht.1 k1;have hy:=E6 _ _ _ _ _ _ hx.1 k3;have f2:=sub z4ya hx.1 k3 hb;have f:=sub z4ya ht.1 k1 (Fv hy hb);have A9:Ev (nd (Au 32 0) y.1):=Mf (fun e=>absurd (show(32:Nat)=8 from e) z4ta) (show(32:Nat)≠23 by decide) f2.1 f2.2.1;refine⟨⟨fun e=>absurd (show(23:Nat)=8 from e) z4ta,fun _=>⟨x.1,y.1,rfl,f.2.2.2 (.inl (.inl rfl)),f.2.1⟩,fun e=>absurd (show(23:Nat)=23 from rfl) e,Ev.app _ _ f.1 A9,trivial⟩,N4 (show(23:Nat)≠32 by decide),?_,fun _=>rfl⟩;show bsize (nd _ _)+2*E5 y.2<=_;rw[Br,M9,Br];have:=f.2.2.1;have:=f2.2.2.1;simp[Au];omega
   rw[if_neg d3]at hr;by_cases d4:kT s=9
   ·rw[if_pos d4]at hr;have:=mt z4sa;by_cases d5:kT (Aj s)=25
    ·rw[if_pos d5]at hr;have e:=(Option.some.inj hr).symm;subst e;exact Fit.leaf (show(24:Nat)≠8 by decide) (show(24:Nat)≠23 by decide) (show(24:Nat)≠32 by decide) rfl (by have:=Ec (Db 25 ht.1);omega)
    ·rw[if_neg d5]at hr;obtain⟨x,k1,k2⟩:=bind_some hr;have e:=(Option.some.inj k2).symm;subst e;have hx:=E6 _ _ _ _ _ _ ht.1 k1;have w3:=Db 25 hx.1;have f:=sub z4ya ht.1 k1 (Fv w3 hb);exact Fit.wrap (fun e=>absurd (show(24:Nat)=8 from e) z4ta) (show(24:Nat)≠23 by decide) (show(24:Nat)≠32 by decide) rfl f.1 f.2.1 (by have:=f.2.2.1;have:=Ec w3;omega)
   rw[if_neg d4]at hr;by_cases d5:kT s=10
   ·rw[if_pos d5]at hr;have:=mt z4sa;have e:=(Option.some.inj hr).symm;subst e;exact Fit.leaf (show(25:Nat)≠8 by decide) (show(25:Nat)≠23 by decide) (show(25:Nat)≠32 by decide) rfl (by have:=Ec (Db 25 ht.1);omega)
   rw[if_neg d5]at hr;by_cases d6:kT s=11
   ·rw[if_pos d6]at hr;have:=mt z4sa;have e:=(Option.some.inj hr).symm;subst e;exact Fit.leaf (show(26:Nat)≠8 by decide) (show(26:Nat)≠23 by decide) (show(26:Nat)≠32 by decide) rfl (by have:=Ec (Db 25 ht.1);omega)
   rw[if_neg d6]at hr;by_cases d7:kT s=12
   ·rw[if_pos d7]at hr;have:=mt z4sa;obtain⟨x,k1,k2⟩:=bind_some hr;have e:=(Option.some.inj k2).symm;subst e;have hx:=E6 _ _ _ _ _ _ ht.1 k1;have w3:=Db 25 hx.1;have f:=sub z4ya ht.1 k1 (Fv w3 hb);exact Fit.wrap (fun e=>absurd (show(27:Nat)=8 from e) z4ta) (show(27:Nat)≠23 by decide) (show(27:Nat)≠32 by decide) rfl f.1 f.2.1 (by have:=f.2.2.1;have:=Ec w3;omega)
   rw[if_neg d7]at hr;obtain⟨x,k1,k2⟩:=bind_some hr;have hx:=E6 _ _ _ _ _ _ h k1;by_cases d8:K3 x.1=true/\kT x.2=26
   ·rw[if_pos d8]at k2;obtain⟨v,k3,k4⟩:=bind_some k2;have e:=(Option.some.inj k4).symm;subst e;have h26:=J7 hx.1;have hv:=E6 _ _ _ _ _ _ h26.1 k3;have w3:=Db 25 hv.1;have f2:=sub z4ya h26.1 k3 (Fv w3 hb);have f:=sub z4ya h k1 (Fv h26 (Fv hv (Fv w3 hb)));obtain⟨q1,q2,q3,q4⟩:=Aj4 f.1 (f.2.2.2 (.inl (.inl rfl))) f2.1 f2.2.1 d8.1;refine⟨q1,q2,?_,fun _=>q4⟩;show bsize (setNode x.1 v.1)+2*E5 (Aw 25 v.2)<=_;have:=f.2.2.1;have:=f2.2.2.1;have:=Ec w3;have:=Ec h26;omega
   rw[if_neg d8]at k2;by_cases d9:kT x.2=26
   ·rw[if_pos d9]at k2;obtain⟨v,k3,k4⟩:=bind_some k2;have e:=(Option.some.inj k4).symm;subst e;have hf:=Qb hx.1;have hv:=E6 _ _ _ _ _ _ hf.1 k3;exact absurd (Fv hv (Fv (Db 25 hv.1) hb)) (Ri hx.1)
   ·rw[if_neg d9]at k2;have e:=(Option.some.inj k2).symm;subst e;have w3:=Db 25 hx.1;have f:=sub z4ya h k1 (Fv w3 hb);exact Fit.wrap (fun e=>absurd (show(30:Nat)=8 from e) z4ta) (show(30:Nat)≠23 by decide) (show(30:Nat)≠32 by decide) rfl f.1 f.2.1 (by have:=f.2.2.1;have:=Tz (k:=25) z4ta hx.1 hb;omega)
  by_cases t10:t=10
  ·subst t10;have nt:¬(Mg 10\/Dc 10):=by unfold Mg Dc;omega
   rw[Ab,if_neg z4ta,if_neg z4ta,if_neg z4ta,if_neg z4ta,if_neg z4ta,if_neg z4ta,if_neg z4ta,if_neg z4ta,if_neg z4ta,if_neg z4ta,if_pos rfl]at hr;by_cases d1:kT s=0
   ·rw[if_pos d1]at hr;have e:=(Option.some.inj hr).symm;subst e;exact⟨hsa,hta,Nat.le_refl _,fun e=>absurd e nt⟩
   rw[if_neg d1]at hr;have two:∀{t1:Nat},¬Dc t1->((Ab n t1 0 .nil s).bind fun x=>Ab n 10 0 (Co acc x.1) x.2)=some r->Fit 10 acc s r:=by
    intro t1 hn hr;obtain⟨x,k1,k2⟩:=bind_some hr;have hx:=E6 _ _ _ _ _ _ h k1;have hy:=E6 _ _ _ _ _ _ hx.1 k2;have f:=sub hn h k1 (Fv hy hb);exact z1wa
   by_cases d2:kT s=4
   ·rw[if_pos d2]at hr;exact two z4ya hr
   ·rw[if_neg d2]at hr;exact two z4ya hr
  rw[Ab,if_neg t0,if_neg t1,if_neg t2,if_neg t3,if_neg t4,if_neg t5,if_neg t6,if_neg t7,if_neg t8,if_neg t9,if_neg t10]at hr;obtain⟨p,k1,k2⟩:=bind_some hr;obtain⟨x,k3,k4⟩:=bind_some k2;have e:=(Option.some.inj k4).symm;subst e;have w1:=Db 1 ht.1;have w2:=Db 18 w1.1;have hp:=U4 w2.1 k1;have hx:=E6 _ _ _ _ _ _ hp.1 k3;have hpg:=Fv hx hb;have f:=sub z4ya hp.1 k3 hb;refine⟨Mf (fun e=>absurd (show(20:Nat)=8 from e) z4ta) (show(20:Nat)≠23 by decide) f.1 f.2.1,N4 (show(20:Nat)≠32 by decide),?_,fun _=>rfl⟩;show bsize (nd _ _)+2*E5 x.2<=_;rw[Br];have h1:=f.2.2.1;have h2:=Afv w2.1 k1 hpg;have h3:=Tz (k:=18) z4ta w1.1 (Fv hp hpg);have h4:=Ec w1;have h5:=Ec ht;show 1+p.1.length+bsize x.1+2*E5 x.2<=_;omega
theorem A3f(fns:List (Nm×Nat)):∀(f:BT A3) (outer cur:List Nm) (wh:Nat) (inn:Bool) (v:C4),(Ba fns f outer cur wh inn v).1.length<=cur.length+bsize f:=by
 intro f;induction f with
 | nil=>intro outer cur wh inn v;simp[Ba,bsize]
 | node x y l c r Cb Bn=>
  intro outer cur wh inn v;rw[bsize];by_cases h1:l.kd=31
  ·simp only[Ba,if_pos h1];exact Nat.le_trans (Bn _ _ _ _ _) z4sa
  by_cases h2:l.kd=32
  ·simp only[Ba,if_neg h1,if_pos h2];exact Nat.le_trans (Bn _ _ _ _ _) z4sa
  by_cases h3:l.kd=21
  ·simp only[Ba,if_neg h1,if_neg h2,if_pos h3];refine Nat.le_trans (Bn _ _ _ _ _) ?_;rw[List.length_append,List.length_singleton];have:=Cb outer cur wh inn (Cy (decide (l.s∈cur)) 3 l.line v);omega
  ·simp only[Ba,if_neg h1,if_neg h2,if_neg h3];refine Nat.le_trans (Bn _ _ _ _ _) ?_;exact Nat.le_trans (Nat.add_le_add_right (Cb _ _ _ _ _) _) z4sa
def Ry(kd:Nat):Bool:=(decide (1<=kd)&&decide (kd<=14))||(decide (21<=kd)&&decide (kd<=32))||(decide (127<=kd)&&decide (kd<=140))
def Kd:BT A3->Prop
 | .nil=>True
 | .node _ _ l c r=>Ry l.kd=true/\Kd c/\Kd r
def M6:BT A3->Prop
 | .nil=>True
 | .node _ _ l c r=>(l.kd=20\/Ry l.kd=true)/\Kd c/\M6 r
theorem z1pa {P:Prop} (h:P:=by
  intro f;induction f with
  | nil=>intro g _ h;exact h
  | node x y l c r _ ih=>intro g h1 h2;exact⟨h1.1,h1.2.1,ih g h1.2.2 h2⟩):P:=h
theorem Kd.app:∀f g:BT A3,Kd f->Kd g->Kd (Co f g):=by
 exact z1pa
theorem M6.app:∀f g:BT A3,M6 f->M6 g->M6 (Co f g):=by
 exact z1pa
theorem Kd.top:∀f:BT A3,Kd f->M6 f:=by
 intro f;induction f with
 | nil=>intro h;exact h
 | node x y l c r _ ih=>intro h;exact⟨.inr h.1,h.2.1,ih h.2.2⟩
theorem Kd.nd{l:A3}{c:BT A3}(h:Ry l.kd=true)(hc:Kd c):Kd (nd l c):=⟨h,hc,trivial⟩
theorem Kd.kids{f:BT A3}(h:Kd f):Kd (Pc f):=by
 cases f with
 | nil=>trivial
 | node x y l c r=>exact h.2.1
theorem z2ca {P:Prop} (h:P:=by
  obtain⟨x,k1,k2⟩:=bind_some hr;exact ih _ _ _ _ _ k2 z4ta (sub z4ta k1)):P:=h
theorem z27a {P:Prop} (h:P:=by
  exact one hr (Kd.nd rfl trivial)):P:=h
theorem z0za {P:Prop} (h:P:=by
  obtain⟨x,k1,k2⟩:=bind_some hr;exact one k2 (Kd.nd rfl (sub z4ta k1))):P:=h
theorem A2j:∀n t a acc s r,Ab n t a acc s=some r->t<=9->Kd acc->Kd r.1:=by
 intro n;induction n with
 | zero=>intro t a acc s r hr;exact absurd hr (F3 _ _ _ _ _)
 | succ n ih=>
  intro t a acc s r hr ht9 hacc;have sub:∀{t1 a1:Nat} {s1:PS} {x:BT A3×PS},t1<=9->Ab n t1 a1 .nil s1=some x->Kd x.1:=fun h1 h2=>ih _ _ _ _ _ h2 h1 trivial;have one:∀{y:BT A3} {s1:PS},some (y,s1)=some r->Kd y->Kd r.1:=fun hh he=>by cases hh;exact he
  rw[Ab]at hr;by_cases t0:t=0
  ·rw[if_pos t0]at hr;by_cases a6:a=6
   ·rw[if_pos a6]at hr;exact sub z4ta hr
   ·rw[if_neg a6]at hr;exact z2ca
  rw[if_neg t0]at hr;by_cases t1:t=1
  ·rw[if_pos t1]at hr;by_cases hk:rowOf (kT s)=a+1
   ·rw[if_pos hk]at hr;obtain⟨y,k1,k2⟩:=bind_some hr;refine ih _ _ _ _ _ k2 z4ta (Kd.nd ?_ (Kd.app _ _ hacc (sub z4ta k1)));show Ry (100+kT s)=true;have:27<=kT s/\kT s<=40:=by
     unfold rowOf at hk;repeat' split at hk
     all_goals omega
    unfold Ry;simp only[Bool.or_eq_true,Bool.and_eq_true,decide_eq_true_eq];omega
   ·rw[if_neg hk]at hr;exact one hr hacc
  rw[if_neg t1]at hr;by_cases t2:t=2
  ·rw[if_pos t2]at hr;by_cases d1:kT s=28
   ·rw[if_pos d1]at hr;exact z0za
   rw[if_neg d1]at hr;by_cases d2:kT s=35
   ·rw[if_pos d2]at hr;exact z0za
   rw[if_neg d2]at hr;exact z2ca
  rw[if_neg t2]at hr;by_cases t3:t=3
  ·rw[if_pos t3]at hr;by_cases d1:kT s=22
   ·rw[if_pos d1]at hr;obtain⟨y,k1,k2⟩:=bind_some hr;exact ih _ _ _ _ _ k2 z4ta (Kd.nd rfl (Kd.app _ _ hacc (sub z4ta k1)))
   ·rw[if_neg d1]at hr;exact one hr hacc
  rw[if_neg t3]at hr;by_cases t4:t=4
  ·rw[if_pos t4]at hr;by_cases d1:kT s=2
   ·rw[if_pos d1]at hr;exact z27a
   rw[if_neg d1]at hr;by_cases d2:kT s=3
   ·rw[if_pos d2]at hr;exact z27a
   rw[if_neg d2]at hr;by_cases d3:kT s=13
   ·rw[if_pos d3]at hr;exact z27a
   rw[if_neg d3]at hr;by_cases d4:kT s=14
   ·rw[if_pos d4]at hr;exact z27a
   rw[if_neg d4]at hr;by_cases d5:kT s=15
   ·rw[if_pos d5]at hr;exact z27a
   rw[if_neg d5]at hr;by_cases d6:kT s=1
   ·rw[if_pos d6]at hr;by_cases d7:kT (Aj s)=18
    ·rw[if_pos d7]at hr;exact z0za
    ·rw[if_neg d7]at hr;exact z27a
   rw[if_neg d6]at hr;by_cases d7:kT s=18
   ·rw[if_pos d7]at hr;exact z0za
   rw[if_neg d7]at hr;by_cases d8:kT s=22
   ·rw[if_pos d8]at hr;exact z0za
   rw[if_neg d8]at hr;by_cases d9:kT s=16
   ·rw[if_pos d9]at hr;exact z0za
   rw[if_neg d9]at hr;by_cases d10:kT s=17
   ·rw[if_pos d10]at hr;obtain⟨x,k1,k2⟩:=bind_some hr;obtain⟨y,k3,k4⟩:=bind_some k2;exact one k4 (Kd.nd rfl (Kd.app _ _ (sub z4ta k1) (sub z4ta k3)))
   rw[if_neg d10]at hr;exact one hr trivial
  rw[if_neg t4]at hr;by_cases t5:t=5
  ·rw[if_pos t5]at hr;by_cases d1:kT s=a
   ·rw[if_pos d1]at hr;exact one hr trivial
   ·rw[if_neg d1]at hr;exact z2ca
  rw[if_neg t5]at hr;by_cases t6:t=6
  ·rw[if_pos t6]at hr;by_cases d1:kT s=24
   ·rw[if_pos d1]at hr;obtain⟨y,k1,k2⟩:=bind_some hr;exact ih _ _ _ _ _ k2 z4ta (Kd.app _ _ hacc (sub z4ta k1))
   ·rw[if_neg d1]at hr;exact one hr hacc
  rw[if_neg t6]at hr;by_cases t7:t=7
  ·rw[if_pos t7]at hr;exact sub z4ta hr
  rw[if_neg t7]at hr;by_cases t8:t=8
  ·rw[if_pos t8]at hr;by_cases d1:kT s=21
   ·rw[if_pos d1]at hr;exact one hr hacc
   rw[if_neg d1]at hr;by_cases d2:s.bad≠0
   ·rw[if_pos d2]at hr;exact one hr hacc
   rw[if_neg d2]at hr;obtain⟨x,k1,k2⟩:=bind_some hr;exact ih _ _ _ _ _ k2 z4ta (Kd.app _ _ hacc (sub z4ta k1))
  rw[if_neg t8,if_pos z4sa]at hr;by_cases d1:kT s=5
  ·rw[if_pos d1]at hr;exact z0za
  rw[if_neg d1]at hr;by_cases d2:kT s=6
  ·rw[if_pos d2]at hr;obtain⟨x,k1,k2⟩:=bind_some hr;obtain⟨y,k3,k4⟩:=bind_some k2;have hy:=sub (t1:=7) z4ta k3;by_cases d3:kT y.2=7
   ·rw[if_pos d3]at k4;obtain⟨z,k5,k6⟩:=bind_some k4;exact one k6 (Kd.nd rfl (Kd.app _ _ (sub z4ta k1) (Kd.app _ _ (Kd.nd rfl hy) (Kd.nd rfl (sub z4ta k5)))))
   ·rw[if_neg d3]at k4;exact one k4 (Kd.nd rfl (Kd.app _ _ (sub z4ta k1) (Kd.nd rfl hy)))
  rw[if_neg d2]at hr;by_cases d3:kT s=8
  ·rw[if_pos d3]at hr;obtain⟨x,k1,k2⟩:=bind_some hr;obtain⟨y,k3,k4⟩:=bind_some k2;exact one k4 (Kd.nd rfl (Kd.app _ _ (sub z4ta k1) (Kd.nd rfl (sub z4ta k3))))
  rw[if_neg d3]at hr;by_cases d4:kT s=9
  ·rw[if_pos d4]at hr;by_cases d5:kT (Aj s)=25
   ·rw[if_pos d5]at hr;exact z27a
   ·rw[if_neg d5]at hr;exact z0za
  rw[if_neg d4]at hr;by_cases d5:kT s=10
  ·rw[if_pos d5]at hr;exact z27a
  rw[if_neg d5]at hr;by_cases d6:kT s=11
  ·rw[if_pos d6]at hr;exact z27a
  rw[if_neg d6]at hr;by_cases d7:kT s=12
  ·rw[if_pos d7]at hr;exact z0za
  rw[if_neg d7]at hr;obtain⟨x,k1,k2⟩:=bind_some hr;have hx:=sub (t1:=0) z4ta k1;by_cases d8:K3 x.1=true/\kT x.2=26
  ·rw[if_pos d8]at k2;obtain⟨v,k3,k4⟩:=bind_some k2;have hv:=sub (t1:=0) z4ta k3;refine one k4 ?_;unfold setNode;split
   ·exact Kd.nd rfl hv
   ·exact Kd.nd rfl (Kd.app _ _ hx.kids hv)
  rw[if_neg d8]at k2;by_cases d9:kT x.2=26
  ·rw[if_pos d9]at k2;obtain⟨v,k3,k4⟩:=bind_some k2;exact one k4 (Kd.nd rfl hx)
  ·rw[if_neg d9]at k2;exact one k2 (Kd.nd rfl hx)
theorem Ah1:∀n acc s r,Ab n 10 0 acc s=some r->M6 acc->M6 r.1:=by
 intro n;induction n with
 | zero=>intro acc s r hr;exact absurd hr (F3 _ _ _ _ _)
 | succ n ih=>
  intro acc s r hr hacc;rw[Ab,if_neg z4ta,if_neg z4ta,if_neg z4ta,if_neg z4ta,if_neg z4ta,if_neg z4ta,if_neg z4ta,if_neg z4ta,if_neg z4ta,if_neg z4ta,if_pos rfl]at hr;by_cases d1:kT s=0
  ·rw[if_pos d1]at hr;cases hr;exact hacc
  rw[if_neg d1]at hr;by_cases d2:kT s=4
  ·rw[if_pos d2]at hr;obtain⟨x,k1,k2⟩:=bind_some hr;refine ih _ _ _ k2 (M6.app _ _ hacc ?_);cases n with
   | zero=>exact absurd k1 (F3 _ _ _ _ _)
   | succ m=>
    obtain⟨p,b,_,h2,e⟩:=U5 k1;rw[e];exact⟨.inl rfl,A2j _ _ _ _ _ _ h2 z4ta trivial,trivial⟩
  ·rw[if_neg d2]at hr;obtain⟨x,k1,k2⟩:=bind_some hr;exact ih _ _ _ k2 (M6.app _ _ hacc (A2j _ _ _ _ _ _ k1 z4ta trivial).top)
theorem A1u{fns:List (Nm×Nat)}{s:Nm}{n:Nat}:s∈(fns.take n).map (·.1)↔∃j,∃h:j<fns.length,j<n/\fns[j].1=s:=by
 constructor
 ·intro h;obtain⟨p,hp,e⟩:=List.mem_map.mp h;obtain⟨j,hj,e2⟩:=List.getElem_of_mem hp;rw[List.length_take]at hj;refine⟨j,by omega,by omega,?_⟩;rw[List.getElem_take]at e2;rw[e2];exact e
 ·rintro⟨j,h,hj,e⟩;refine List.mem_map.mpr ⟨fns[j],?_,e⟩;have:(fns.take n)[j]'(by rw[List.length_take];omega)=fns[j]:=List.getElem_take;rw[←this];exact List.getElem_mem _
theorem Acv{fns:List (Nm×Nat)}{n:Nat}{p:Nm×Nat}{r:List (Nm×Nat)}(h:fns.drop n=p::r):∃hn:n<fns.length,fns[n]=p/\fns.drop (n+1)=r/\(fns.take (n+1)).map (·.1)=(fns.take n).map (·.1)++[p.1]:=by
 have hn:n<fns.length:=by
  apply Decidable.byContradiction;intro h2;rw[List.drop_eq_nil_of_le z4sa]at h;cases h
 rw[List.drop_eq_getElem_cons hn]at h;injection h with h1 h2;refine⟨hn,h1,h2,?_⟩;rw[List.take_succ_eq_append_getElem hn,List.map_append,h1];rfl
theorem Aiu(fns:List (Nm×Nat))(x y:Nat)(l:A3)(ch sib:BT A3)(seen cur:List Nm)(f:C4)(h:l.kd=20):Dq fns (.node x y l ch sib) seen cur f=Dq fns sib (seen++[l.s]) cur (Ba fns ch cur (Gw l.ps [] (Cy (decide (l.s∈seen)) 3 l.line f)).1 0 true (Gw l.ps [] (Cy (decide (l.s∈seen)) 3 l.line f)).2).2:=by
 rw[Dq,if_pos h]
theorem Aix(fns:List (Nm×Nat))(x y:Nat)(l:A3)(ch sib:BT A3)(seen cur:List Nm)(f:C4)(h:l.kd≠20):Dq fns (.node x y l ch sib) seen cur f=Dq fns sib seen (Ba fns (.node x y l ch .nil) [] cur 0 false f).1 (Ba fns (.node x y l ch .nil) [] cur 0 false f).2:=by
 rw[Dq,if_neg h]
theorem A0w(x y:Nat)(l:A3)(ch sib:BT A3)(h:l.kd=20):Bx (.node x y l ch sib)=(l.s,l.ps.length)::Bx sib:=by
 rw[Bx,if_pos h]
theorem A0y(x y:Nat)(l:A3)(ch sib:BT A3)(h:l.kd≠20):Bx (.node x y l ch sib)=Bx sib:=by
 rw[Bx,if_neg h]
theorem Xs{p:Prop}[Decidable p]{a b m:Nat}(ha:a<=m)(hb:b<=m):(if p then a else b)<=m:=by
 split
 ·exact ha
 ·exact hb
theorem z3va {P:Prop} (h:P:=by
  repeat refine Xs z4ta ?_
  exact Nat.zero_le _):P:=h
theorem Ano(l:List UInt8):Lm l<=17:=by
 unfold Lm;exact z3va
theorem Ak4(c d:UInt8):Jy c d<=40:=by
 unfold Jy;exact z3va
theorem A3v(c:UInt8):Iv c<=40:=by
 unfold Iv;exact z3va
theorem z2da {P:Prop} (h:P:=by
  split
  ·rename_i h1;rw[if_pos h1]at h;exact absurd rfl h
  ·rename_i h1;have:=A3v c;have h2:Iv c≠0:=fun e=>h1 (by rw[e];rfl);exact⟨by show 1<=Iv c;omega,this⟩):P:=h
theorem A3x(l:List UInt8)(h:(Fa l).2≠0):1<=(Fa l).1/\(Fa l).1<=40:=by
 unfold Fa at h ⊢;split
 ·exact absurd rfl h
 ·rename_i c;simp only at h;exact z2da
 ·rename_i c d r;simp only at h;split
  ·rename_i h1;have:=Ak4 c d;have h2:Jy c d≠0:=by simpa using h1
   exact⟨by show 1<=Jy c d;omega,this⟩
  ·rename_i h0;rw[if_neg h0]at h;exact z2da
theorem Sn(c:UInt8)(r:List UInt8)(t:Tk)(n:Nat)(h:E7 (c::r)=some (t,n)):1<=t.k/\t.k<=40/\1<=n:=by
 rw[E7]at h;split at h
 ·rename_i hd;split at h
  ·injection h with h;injection h with h1 h2;subst h1 h2;refine⟨by simp,by simp,?_⟩;rw[List.takeWhile_cons,if_pos hd];simp
  ·cases h
 ·split at h
  ·rename_i hl;have hn:Di c=true:=by unfold Di;rw[hl];rfl
   split at h
   ·rename_i hw;injection h with h;injection h with h1 h2;subst h1 h2;have:=Ano ((c::r).takeWhile Di);have Fx:Lm ((c::r).takeWhile Di)≠0:=by simpa using hw
    refine⟨by show 1<=Lm _;omega,by show Lm _<=40;omega,?_⟩;rw[List.takeWhile_cons,if_pos hn];simp
   ·split at h
    ·injection h with h;injection h with h1 h2;subst h1 h2;refine⟨by simp,by simp,?_⟩;rw[List.takeWhile_cons,if_pos hn];simp
    ·cases h
  ·split at h
   ·split at h
    ·injection h with h;injection h with h1 h2;subst h1 h2;exact⟨by simp,by simp,by omega⟩
    ·cases h
   ·split at h
    ·cases h
    ·rename_i h0;injection h with h;injection h with h1 h2;subst h1 h2;have hz:(Fa (c::r)).2≠0:=fun e=>h0 (by rw[e];rfl);exact⟨(A3x _ hz).1,(A3x _ hz).2,by omega⟩
def Hu(line:Nat)(m:Nat):List Tk->Prop
 | []=>False
 | x::r=>line<=x.line/\x.line<=line+m/\x.k<=40/\((x.k=0/\r=[])\/(x.k≠0/\Hu line m r))
theorem Hu.weak{a b m k:Nat}(h1:b<=a)(h2:a+m<=b+k):∀ts,Hu a m ts->Hu b k ts:=by
 intro ts;induction ts with
 | nil=>intro h;exact h
 | cons x r ih=>
  rintro⟨k1,k2,k3,k4⟩;refine⟨by omega,by omega,k3,?_⟩;rcases k4 with h|⟨h,h'⟩
  ·exact .inl h
  ·exact .inr ⟨h,ih h'⟩
def R4(line m:Nat):Nat ⊕ List Tk->Prop
 | .inl n=>line<=n/\n<=line+m
 | .inr ts=>ts.length<=m+1/\Hu line m ts
theorem R4.weak{a b m k:Nat}{x:Nat ⊕ List Tk}(h:R4 a m x)(h1:b<=a)(h2:a+m<=b+k)(h3:m<=k):R4 b k x:=by
 cases x with
 | inl n=>obtain⟨k1,k2⟩:=h;exact⟨by omega,by omega⟩
 | inr ts=>obtain⟨k1,k2⟩:=h;exact⟨by omega,Hu.weak h1 h2 _ k2⟩
theorem Aef:∀(f:Nat) (l:List UInt8) (line:Nat) (said:Bool),R4 line l.length (lex f l line said):=by
 intro f;induction f with
 | zero=>intro l line said;rw[lex];exact⟨Nat.le_refl _,by omega⟩
 | succ f ih=>
  intro l line said;cases l with
  | nil=>rw[lex];exact⟨by simp,Nat.le_refl _,by simp,by simp,.inl ⟨rfl,rfl⟩⟩
  | cons c r=>
   rw[lex,List.length_cons];split
   ·exact(ih r (line+1) false).weak z4sa z4sa z4sa
   ·split
    ·exact⟨Nat.le_refl _,by omega⟩
    ·split
     ·exact(ih r line _).weak z4sa z4sa z4sa
     ·cases ht:E7 (c::r) with
      | none=>exact⟨Nat.le_refl _,by omega⟩
      | some p=>
       obtain⟨t,n⟩:=p;obtain⟨k1,k2,k3⟩:=Sn c r t n ht;have:=ih ((c::r).drop n) line false;have hl:((c::r).drop n).length<=r.length:=by rw[List.length_drop,List.length_cons];omega
       show R4 line (r.length+1) (match lex f ((c::r).drop n) line false with
        | .inl l=>.inl l
        | .inr ts=>.inr ({ t with line:=line }::ts))
       cases hx:lex f ((c::r).drop n) line false with
       | inl m=>rw[hx]at this;obtain⟨j1,j2⟩:=this;exact⟨by omega,by omega⟩
       | inr ts=>
        rw[hx]at this;obtain⟨j1,j2⟩:=this;exact⟨by rw[List.length_cons];omega,Nat.le_refl _,by show line<=_;omega,k2,.inr ⟨by show t.k≠0;omega,Hu.weak z4sa z4sa _ j2⟩⟩
theorem Hu.ends{line m:Nat}(h1:1<=line):∀ts,Hu line m ts->R1 ts:=by
 intro ts;induction ts with
 | nil=>intro h;exact h
 | cons x r ih=>
  rintro⟨k1,_,_,k4⟩;refine⟨by omega,?_⟩;rcases k4 with⟨h,_⟩|⟨_,h⟩
  ·exact .inl h
  ·exact .inr (ih h)
theorem Hu.last{line m:Nat}:∀ts,Hu line m ts->∀i (h:i<ts.length),ts[i].k=0↔i+1=ts.length:=by
 intro ts;induction ts with
 | nil=>intro h;exact absurd h id
 | cons x r ih=>
  rintro⟨_,_,_,k4⟩ i hi;rcases k4 with⟨h,rfl⟩|⟨h,h2⟩
  ·simp only[List.length_cons,List.length_nil]at hi ⊢;obtain rfl:i=0:=by omega
   simp[h]
  ·cases i with
   | zero=>
    have:r≠[]:=by rintro rfl;exact h2
    have:0<r.length:=List.length_pos_iff.mpr this;simp only[List.getElem_cons_zero,List.length_cons];omega
   | succ i=>
    simp only[List.getElem_cons_succ,List.length_cons]at hi ⊢;have:=ih h2 i z4sa;omega
theorem Hu.mem{line m:Nat}:∀ts,Hu line m ts->∀t∈ts,line<=t.line/\t.line<=line+m/\t.k<=40:=by
 intro ts;induction ts with
 | nil=>intro _ t ht;cases ht
 | cons x r ih=>
  rintro⟨k1,k2,k3,k4⟩ t ht;rcases List.mem_cons.mp ht with rfl|ht
  ·exact⟨k1,k2,k3⟩
  ·rcases k4 with⟨_,rfl⟩|⟨_,h2⟩
   ·cases ht
   ·exact ih h2 t ht
def Gi(kd:Nat):Bool:=(decide (1<=kd)&&decide (kd<=14))||(decide (127<=kd)&&decide (kd<=140))
def N9(kd:Nat):Bool:=kd==21||(decide (24<=kd)&&decide (kd<=30))
def Wf:Nat->BT A3->Prop
 | _,.nil=>True
 | m,.node _ _ l c r=>Wf m r/\(((m=0\/m=2\/m=3)/\Gi l.kd=true/\Wf 0 c)\/(m=2/\l.kd=31/\Wf 1 c)\/(m=3/\l.kd=32/\Wf 1 c)\/
   ((m=1\/m=4)/\l.kd=22/\Wf 2 c)\/((m=1\/m=4)/\l.kd=23/\Wf 3 c)\/((m=1\/m=4)/\N9 l.kd=true/\Wf 0 c)\/(m=4/\l.kd=20/\Wf 1 c))
theorem Wf.app:∀(m:Nat) (f g:BT A3),Wf m f->Wf m g->Wf m (Co f g):=by
 intro m f;induction f with
 | nil=>intro g _ h;exact h
 | node x y l c r Cb Bn=>intro g h1 h2;exact⟨Bn g h1.1 h2,h1.2⟩
theorem Wf.ex{l:A3}{c:BT A3}(h:Gi l.kd=true)(hc:Wf 0 c):Wf 0 (nd l c):=⟨trivial,.inl ⟨.inl rfl,h,hc⟩⟩
theorem Wf.st{l:A3}{c:BT A3}(h:N9 l.kd=true)(hc:Wf 0 c):Wf 1 (nd l c):=⟨trivial,.inr (.inr (.inr (.inr (.inr (.inl ⟨.inl rfl,h,hc⟩)))))⟩
theorem Wf.up2:∀(f:BT A3),Wf 0 f->Wf 2 f:=by
 intro f;induction f with
 | nil=>intro _;trivial
 | node x y l c r Cb Bn=>
  intro h;refine⟨Bn h.1,?_⟩;rcases h.2 with⟨_,h1,h2⟩|⟨h1,_⟩|⟨h1,_⟩|⟨h1,_⟩|⟨h1,_⟩|⟨h1,_⟩|⟨h1,_⟩
  ·exact .inl ⟨.inr (.inl rfl),h1,h2⟩
  all_goals omega
theorem Wf.up3:∀(f:BT A3),Wf 0 f->Wf 3 f:=by
 intro f;induction f with
 | nil=>intro _;trivial
 | node x y l c r Cb Bn=>
  intro h;refine⟨Bn h.1,?_⟩;rcases h.2 with⟨_,h1,h2⟩|⟨h1,_⟩|⟨h1,_⟩|⟨h1,_⟩|⟨h1,_⟩|⟨h1,_⟩|⟨h1,_⟩
  ·exact .inl ⟨.inr (.inr rfl),h1,h2⟩
  all_goals omega
theorem Wf.up4:∀(f:BT A3),Wf 1 f->Wf 4 f:=by
 intro f;induction f with
 | nil=>intro _;trivial
 | node x y l c r Cb Bn=>
  intro h;refine⟨Bn h.1,?_⟩;rcases h.2 with⟨h0,_⟩|⟨h0,_⟩|⟨h0,_⟩|⟨_,h1,h2⟩|⟨_,h1,h2⟩|⟨_,h1,h2⟩|⟨h0,_⟩
  ·omega
  ·omega
  ·omega
  ·exact .inr (.inr (.inr (.inl ⟨.inr rfl,h1,h2⟩)))
  ·exact .inr (.inr (.inr (.inr (.inl ⟨.inr rfl,h1,h2⟩))))
  ·exact .inr (.inr (.inr (.inr (.inr (.inl ⟨.inr rfl,h1,h2⟩)))))
  ·omega
theorem Wf.Adx{f:BT A3}(h:Wf 0 f):Wf 0 (Pc f):=by
 cases f with
 | nil=>trivial
 | node x y l c r=>
  rcases h.2 with⟨_,h1,h2⟩|⟨h1,_⟩|⟨h1,_⟩|⟨h1,_⟩|⟨h1,_⟩|⟨h1,_⟩|⟨h1,_⟩
  ·exact h2
  all_goals omega
structure Vd (n : Nat) : Prop where
 expr:∀a s r,Ab n 0 a .nil s=some r->Wf 0 r.1
 loop:∀a acc s r,Wf 0 acc->Ab n 1 a acc s=some r->Wf 0 r.1
 unary:∀s r,Ab n 2 0 .nil s=some r->Wf 0 r.1
 index:∀acc s r,Wf 0 acc->Ab n 3 0 acc s=some r->Wf 0 r.1
 atom:∀s r,Ab n 4 0 .nil s=some r->Wf 0 r.1
 list:∀a s r,Ab n 5 a .nil s=some r->Wf 0 r.1
 more:∀a acc s r,Wf 0 acc->Ab n 6 a acc s=some r->Wf 0 r.1
 block:∀s r,Ab n 7 0 .nil s=some r->Wf 1 r.1
 stmts:∀acc s r,Wf 1 acc->Ab n 8 0 acc s=some r->Wf 1 r.1
 stmt:∀s r,Ab n 9 0 .nil s=some r->Wf 1 r.1
theorem Ai5{k a:Nat}(h:rowOf k=a+1):Gi (100+k)=true:=by
 have:27<=k/\k<=40:=by
  unfold rowOf at h;repeat' split at h
  all_goals omega
 unfold Gi;simp only[Bool.or_eq_true,Bool.and_eq_true,decide_eq_true_eq];omega
theorem Ane{n:Nat}(ih:Vd n){s:PS}{r:BT A3×PS}(h:Ab (n+1) 4 0 .nil s=some r):Wf 0 r.1:=by
 by_cases c2:kT s=2
 ·rw[A2i c2 h];exact Wf.ex rfl trivial
 by_cases c3:kT s=3
 ·rw[A2t c3 h];exact Wf.ex rfl trivial
 by_cases c13:kT s=13
 ·rw[A2u c13 h];exact Wf.ex rfl trivial
 by_cases c14:kT s=14
 ·rw[A2e c14 h];exact Wf.ex rfl trivial
 by_cases c15:kT s=15
 ·rw[A2r c15 h];exact Wf.ex rfl trivial
 by_cases c1:kT s=1
 ·by_cases c18:kT (Aj s)=18
  ·obtain⟨x,hx,hr⟩:=A2d c1 c18 h;rw[hr];exact Wf.ex rfl (ih.list _ _ _ hx)
  ·rw[A2o c1 c18 h];exact Wf.ex rfl trivial
 by_cases c18:kT s=18
 ·obtain⟨x,hx,hr⟩:=A2f c18 h;rw[hr];exact Wf.ex rfl (ih.expr _ _ _ hx)
 by_cases c22:kT s=22
 ·obtain⟨x,hx,hr⟩:=A2b c22 h;rw[hr];exact Wf.ex rfl (ih.list _ _ _ hx)
 by_cases c16:kT s=16
 ·obtain⟨x,hx,hr⟩:=A2l c16 h;rw[hr];exact Wf.ex rfl (ih.expr _ _ _ hx)
 by_cases c17:kT s=17
 ·obtain⟨x,y,hx,hy,hr⟩:=A2s c17 h;rw[hr];exact Wf.ex rfl (Wf.app _ _ _ (ih.expr _ _ _ hx) (ih.expr _ _ _ hy))
 rw[Ye c2 c3 c13 c14 c15 c1 c18 c22 c16 c17 h];trivial
theorem z3ia {P:Prop} (h:P:=by
  exact Wf.st rfl (ih.expr _ _ _ hx)):P:=h
theorem Anf{n:Nat}(ih:Vd n){s:PS}{r:BT A3×PS}(h:Ab (n+1) 9 0 .nil s=some r):Wf 1 r.1:=by
 by_cases c5:kT s=5
 ·obtain⟨x,hx,hr⟩:=Yj c5 h;rw[hr];exact z3ia
 by_cases c6:kT s=6
 ·obtain⟨x,bl,h1,h2,⟨h3,c,h4,e⟩|⟨h3,e⟩⟩:=Yi c6 h
  ·rw[e];refine⟨trivial,.inr (.inr (.inr (.inl ⟨.inl rfl,rfl,Wf.app _ _ _ (Wf.up2 _ (ih.expr _ _ _ h1)) (Wf.app _ _ _ ?_ ?_)⟩)))⟩
   ·exact⟨trivial,.inr (.inl ⟨rfl,rfl,ih.block _ _ h2⟩)⟩
   ·exact⟨trivial,.inr (.inl ⟨rfl,rfl,ih.block _ _ h4⟩)⟩
  ·rw[e];refine⟨trivial,.inr (.inr (.inr (.inl ⟨.inl rfl,rfl,Wf.app _ _ _ (Wf.up2 _ (ih.expr _ _ _ h1)) ?_⟩)))⟩;exact⟨trivial,.inr (.inl ⟨rfl,rfl,ih.block _ _ h2⟩)⟩
 by_cases c8:kT s=8
 ·obtain⟨x,bl,h1,h2,e⟩:=Yn c8 h;rw[e];refine⟨trivial,.inr (.inr (.inr (.inr (.inl ⟨.inl rfl,rfl,Wf.app _ _ _ (Wf.up3 _ (ih.expr _ _ _ h1)) ?_⟩))))⟩;exact⟨trivial,.inr (.inr (.inl ⟨rfl,rfl,ih.block _ _ h2⟩))⟩
 by_cases c9:kT s=9
 ·by_cases c25:kT (Aj s)=25
  ·rw[Ym c9 c25 h];exact Wf.st rfl trivial
  ·obtain⟨x,hx,hr⟩:=Yl c9 c25 h;rw[hr];exact z3ia
 by_cases c10:kT s=10
 ·rw[Yg c10 h];exact Wf.st rfl trivial
 by_cases c11:kT s=11
 ·rw[Yh c11 h];exact Wf.st rfl trivial
 by_cases c12:kT s=12
 ·obtain⟨x,hx,hr⟩:=Yk c12 h;rw[hr];exact z3ia
 obtain⟨x,hx,⟨_,_,v,hv,e⟩|⟨_,_,v,hv,e⟩|⟨_,e⟩⟩:=U6 z4sa h
 ·rw[e];show Wf 1 (setNode x.1 v.1);unfold setNode;split
  ·exact Wf.st rfl (ih.expr _ _ _ hv)
  ·exact Wf.st rfl (Wf.app _ _ _ (ih.expr _ _ _ hx).Adx (ih.expr _ _ _ hv))
 ·rw[e];exact z3ia
 ·rw[e];exact z3ia
theorem A54:∀n,Vd n:=by
 intro n;induction n with
 | zero=>exact⟨fun _ _ _ h=>absurd h (F3 _ _ _ _ _),fun _ _ _ _ _ h=>absurd h (F3 _ _ _ _ _),fun _ _ h=>absurd h (F3 _ _ _ _ _),fun _ _ _ _ h=>absurd h (F3 _ _ _ _ _),fun _ _ h=>absurd h (F3 _ _ _ _ _),fun _ _ _ h=>absurd h (F3 _ _ _ _ _),fun _ _ _ _ _ h=>absurd h (F3 _ _ _ _ _),fun _ _ h=>absurd h (F3 _ _ _ _ _),fun _ _ _ _ h=>absurd h (F3 _ _ _ _ _),fun _ _ h=>absurd h (F3 _ _ _ _ _)⟩
 | succ n ih=>
  refine⟨?_,?_,?_,?_,fun s r h=>Ane ih h,?_,?_,fun s r h=>ih.stmts .nil _ _ trivial (Y7 h),?_,fun s r h=>Anf ih h⟩
  ·intro a s r h;by_cases h6:a=6
   ·subst h6;exact ih.unary _ _ (Ya h)
   ·obtain⟨x,h1,h2⟩:=Y9 h6 h;exact ih.loop _ _ _ _ (ih.expr _ _ _ h1) h2
  ·intro a acc s r hacc h;by_cases hk:rowOf (kT s)=a+1
   ·obtain⟨z,h1,h2⟩:=Yd hk h;exact ih.loop _ _ _ _ (Wf.ex (Ai5 hk) (Wf.app _ _ _ hacc (ih.expr _ _ _ h1))) h2
   ·rw[Yc hk h];exact hacc
  ·intro s r h;by_cases c28:kT s=28
   ·obtain⟨x,h1,e⟩:=A2q c28 h;rw[e];exact Wf.ex rfl (ih.unary _ _ h1)
   by_cases c35:kT s=35
   ·obtain⟨x,h1,e⟩:=A2p c35 h;rw[e];exact Wf.ex rfl (ih.unary _ _ h1)
   obtain⟨x,h1,h2⟩:=Yf c28 c35 h;exact ih.index _ _ _ (ih.atom _ _ h1) h2
  ·intro acc s r hacc h;by_cases c22:kT s=22
   ·obtain⟨z,h1,h2⟩:=A2g c22 h;exact ih.index _ _ _ (Wf.ex rfl (Wf.app _ _ _ hacc (ih.expr _ _ _ h1))) h2
   ·rw[A2h c22 h];exact hacc
  ·intro a s r h;by_cases hk:kT s=a
   ·rw[A2m hk h];trivial
   ·obtain⟨y,h1,h2⟩:=bind_some (Yb hk h);exact ih.more _ _ _ _ (ih.expr _ _ _ h1) h2
  ·intro a acc s r hacc h;by_cases hk:kT s=24
   ·obtain⟨y,h1,h2⟩:=bind_some (A2n hk h);exact ih.more _ _ _ _ (Wf.app _ _ _ hacc (ih.expr _ _ _ h1)) h2
   ·rw[A2k hk h];exact hacc
  ·intro acc s r hacc h;by_cases c21:kT s=21
   ·rw[A2c c21 h];exact hacc
   by_cases hb:s.bad=0
   ·obtain⟨x,h1,h2⟩:=Y8 c21 hb h;exact ih.stmts _ _ _ (Wf.app _ _ _ hacc (ih.stmt _ _ h1)) h2
   ·rw[Ab]at h;rw[if_neg z4ta,if_neg z4ta,if_neg z4ta,if_neg z4ta,if_neg z4ta,if_neg z4ta,if_neg z4ta,if_neg z4ta,if_pos rfl,if_neg c21,if_pos hb]at h;rw[←Option.some.inj h];exact hacc
theorem A55:∀n acc s r,Wf 4 acc->Ab n 10 0 acc s=some r->Wf 4 r.1:=by
 intro n;induction n with
 | zero=>intro acc s r _ h;exact absurd h (F3 _ _ _ _ _)
 | succ n ih=>
  intro acc s r hacc h;rw[Ab]at h;rw[if_neg z4ta,if_neg z4ta,if_neg z4ta,if_neg z4ta,if_neg z4ta,if_neg z4ta,if_neg z4ta,if_neg z4ta,if_neg z4ta,if_neg z4ta,if_pos rfl]at h;by_cases c0:kT s=0
  ·rw[if_pos c0]at h;rw[←Option.some.inj h];exact hacc
  rw[if_neg c0]at h;by_cases c4:kT s=4
  ·rw[if_pos c4]at h;obtain⟨x,h1,h2⟩:=bind_some h;cases n with
   | zero=>exact absurd h1 (F3 _ _ _ _ _)
   | succ n=>
    obtain⟨p,b,_,h3,e⟩:=U5 h1;refine ih _ _ _ (Wf.app _ _ _ hacc ?_) h2;rw[e];exact⟨trivial,.inr (.inr (.inr (.inr (.inr (.inr ⟨rfl,rfl,(A54 _).block _ _ h3⟩)))))⟩
  ·rw[if_neg c4]at h;obtain⟨x,h1,h2⟩:=bind_some h;exact ih _ _ _ (Wf.app _ _ _ hacc (Wf.up4 _ ((A54 _).stmt _ _ h1))) h2
theorem Kr(fns:List (Nm×Nat)):∀(f:BT A3),Wf 0 f->∀(outer cur:List Nm) (wh:Nat) (inn:Bool) (v:C4),(Ba fns f outer cur wh inn v).1=cur:=by
 intro f;induction f with
 | nil=>intro _ outer cur wh inn v;rfl
 | node x y l c r Cb Bn=>
  intro h outer cur wh inn v;have h1:Gi l.kd=true/\Wf 0 c:=by
   rcases h.2 with⟨_,h1,h2⟩|⟨h1,_⟩|⟨h1,_⟩|⟨h1,_⟩|⟨h1,_⟩|⟨h1,_⟩|⟨h1,_⟩
   ·exact⟨h1,h2⟩
   all_goals omega
  have hk:l.kd≠31/\l.kd≠32/\l.kd≠21:=by
   have:=h1.1;unfold Gi at this;simp only[Bool.or_eq_true,Bool.and_eq_true,decide_eq_true_eq]at this;omega
  rw[Ba,if_neg hk.1,if_neg hk.2.1,if_neg hk.2.2,Bn h.1,Cb h1.2]
theorem S0{m:Nat}{ts:List Tk}(h:Hu 1 m ts)(hl:ts.length<=2001):∃r,Ab 100000 10 0 .nil ⟨ts,0⟩=some r/\M6 r.1/\(r.2.bad=0->Ev r.1/\H8 r.1/\bsize r.1<=4002):=by
 have hw:WF ⟨ts,0⟩:=⟨fun _=>Hu.ends (Nat.le_refl _) _ h,fun e=>absurd rfl e⟩;have hm:E5 ⟨ts,0⟩=ts.length:=by unfold E5;rw[if_pos rfl]
 obtain⟨r,hr⟩:=Ag3 100000 10 0 .nil ⟨ts,0⟩ hw z4sa z4sa (by rw[hm];show _+14<=_;omega);refine⟨r,hr,Ah1 _ _ _ _ hr trivial,fun hb=>?_⟩;obtain⟨k1,k2,k3,_⟩:=Afy _ _ _ _ _ _ hw hr hb trivial trivial z4ya;refine⟨k1,k2,?_⟩;rw[hm]at k3;have:bsize (.nil:BT A3)=0:=rfl;omega
theorem Pt(l:List UInt8)(h:l.length<=2000):(∃n,lex (l.length+1) l 1 false=.inl n/\1<=n/\n<=2001)\/∃ts,lex (l.length+1) l 1 false=.inr ts/\ts.length<=2001/\Hu 1 2000 ts:=by
 have hf:=Aef (l.length+1) l 1 false;cases hx:lex (l.length+1) l 1 false with
 | inl n=>rw[hx]at hf;obtain⟨k1,k2⟩:=hf;exact .inl ⟨n,rfl,k1,by omega⟩
 | inr ts=>rw[hx]at hf;obtain⟨k1,k2⟩:=hf;exact .inr ⟨ts,rfl,by omega,Hu.weak (Nat.le_refl _) z4sa _ k2⟩
theorem Af8{m:Nat}:∀(ts:List Tk) (o:Int),(∀t∈ts,t.line<=m)->nest ts o<=m:=by
 intro ts;induction ts with
 | nil=>intro o _;exact Nat.zero_le _
 | cons t r ih=>
  intro o h;have h1:=h t (List.mem_cons_self ..);have h2:∀t∈r,t.line<=m:=fun t ht=>h t (List.mem_cons_of_mem _ ht);rw[nest];split
  ·split
   ·exact h1
   ·exact ih _ h2
  ·split
   ·exact ih _ h2
   ·exact ih _ h2
structure PV where
 k:Nat
 y:Bool
 n:Int
 t:List UInt8
 r:Option Nat
def Bp:PV:=⟨0,false,0,[],none⟩
structure Af where
 op:Nat
 arg:Int
 line:Nat
 v:PV
structure Em where
 loc:List Nm
 slots:Nat
 st:List Af
 lps:List (Nat×List Nat)
def Em.step(o:Nat)(a:Int)(ln:Nat)(e:Em):Em:=⟨e.loc,e.slots,e.st++[⟨o,a,ln,Bp⟩],e.lps⟩
def Em.F0(v:PV)(e:Em):Em:=⟨e.loc,e.slots,e.st++[⟨0,0,0,v⟩],e.lps⟩
def Gm:Nat->Int->List Af->List Af
 | _,_,[]=>[]
 | 0,a,i::r=>⟨i.op,a,i.line,i.v⟩::r
 | j+1,a,i::r=>i::Gm j a r
def Em.land(j:Nat)(e:Em):Em:=⟨e.loc,e.slots,Gm j (e.st.length:Nat) e.st,e.lps⟩
def Em.Dn:List Nat->Em->Em
 | [],e=>e
 | j::r,e=>Em.Dn r (e.land j)
def L4(s:Nm):List Nm->Option Nat
 | []=>none
 | x::r=>match L4 s r with
  | some i=>some (i+1)
  | none=>if x=s then some 0 else none
def Kj(s:Nm):List Nm->Option Nat
 | []=>none
 | x::r=>if x=s then some 0 else match Kj s r with
  | some i=>some (i+1)
  | none=>none
def Em.var(gl:List Nm)(s:Nm)(lo gb:Nat)(e:Em):Em:=match L4 s e.loc with
 | some i=>e.step lo (i:Nat) 0
 | none=>match Kj s gl with
  | some i=>e.step gb (i:Nat) 0
  | none=>e
def L3(fns:List (Nm×Nat))(s:Nm):Int:=match Kj s (fns.map Prod.fst) with
 | some i=>(i:Nat)
 | none=>-1
def binOp(s:Nat):Nat:=
 if s=40 then 10 else if s=39 then 9 else if s=27 then 25 else if s=29 then 26 else if s=30 then 29 else if s=31 then 31 else if s=32 then 28
 else if s=33 then 30 else if s=34 then 12 else if s=35 then 15 else if s=36 then 17 else if s=37 then 19 else 21
def Em.Hw(e:Em):Em:=match e.lps with
 | []=>e
 | (s,bs)::r=>⟨e.loc,e.slots,e.st++[⟨6,0,0,Bp⟩],(s,bs++[e.st.length])::r⟩
def Em.cnt(e:Em):Em:=match e.lps with
 | []=>e
 | (s,_)::_=>e.step 6 (s:Nat) 0
def Em.local'(s:Nm)(e:Em):Em:=⟨e.loc++[s],max e.slots (e.loc.length+1),e.st,e.lps⟩
def Em.cut(n:Nat)(e:Em):Em:=⟨e.loc.take n,e.slots,e.st,e.lps⟩
def Em.open'(e:Em):Em:=⟨e.loc,e.slots,e.st,(e.st.length,[])::e.lps⟩
def Em.close(e:Em):Em:=⟨e.loc,e.slots,e.st,e.lps.tail⟩
def Em.Kc(e:Em):List Nat:=match e.lps with
 | []=>[]
 | (_,bs)::_=>bs
def Js(line n:Nat)(k:Nat->Em->Em)(e:Em):Em:=
 let a:=k 1 e
 let b:=k 2 (a.step 8 0 line)
 let d:=(b.step 6 0 0).land a.st.length
 (if n=3 then k 3 d else d).land b.st.length
def L2(line:Nat)(k:Nat->Em->Em)(e:Em):Em:=
 let a:=k 1 e.open'
 let b:=k 2 (a.step 7 0 line)
 let d:=(b.step 6 (e.st.length:Nat) 0).land a.st.length
 (d.Dn d.Kc).close
def Lf(o line:Nat)(k:Nat->Em->Em)(e:Em):Em:=
 let a:=k 1 e
 let b:=k 2 (a.step o 0 line)
 (b.step 11 0 line).land a.st.length
def Am(fns:List (Nm×Nat))(gl:List Nm)(l:A3)(n:Nat)(k:Nat->Em->Em)(e:Em):Em:=
 match l.kd with
 | 1=>e.F0 ⟨2,false,l.n,[],none⟩
 | 2=>e.F0 ⟨3,false,0,l.s,none⟩
 | 3=>e.F0 ⟨1,true,0,[],none⟩
 | 4=>e.F0 ⟨1,false,0,[],none⟩
 | 5=>e.F0 Bp
 | 6=>e.var gl l.s 1 2
 | 7=>(k 0 e).step 42 (L3 fns l.s) l.line
 | 8=>k 0 e
 | 9=>(k 0 e).step 36 (n:Nat) l.line
 | 10=>(k 0 e).step 37 0 l.line
 | 11=>(k 0 e).step 38 0 l.line
 | 12=>(k 0 e).step 39 0 l.line
 | 13=>(k 0 e).step 27 0 l.line
 | 14=>(k 0 e).step 23 0 l.line
 | 21=>((k 0 e).local' l.s).step 3 ((k 0 e).loc.length:Nat) 0
 | 22=>Js l.line n k e
 | 23=>L2 l.line k e
 | 24=>if n=0 then e.step 43 0 0 else(k 0 e).step 44 0 0
 | 25=>e.Hw
 | 26=>e.cnt
 | 27=>(k 0 e).step 41 0 l.line
 | 28=>(k 0 e).var gl l.s 3 4
 | 29=>(k 0 e).step 40 0 l.line
 | 30=>(k 0 e).step 5 0 0
 | 31=>(k 0 e).cut e.loc.length
 | 32=>(k 0 e).cut e.loc.length
 | kd=>if kd=139\/kd=140 then Lf (binOp (kd-100)) l.line k e else(k 0 e).step (binOp (kd-100)) 0 l.line
def em(fns:List (Nm×Nat))(gl:List Nm):BT A3->Nat->Em->Em
 | .nil,_,e=>e
 | .node _ _ l c r,m,e=>
  if 2<=m then em fns gl r (m-1) e
  else if m=1 then Am fns gl l (Ak c) (fun m' e'=>em fns gl c m' e') e
  else em fns gl r 0 (Am fns gl l (Ak c) (fun m' e'=>em fns gl c m' e') e)
structure Fn where
 name:Nm
 params:Nat
 slots:Nat
 steps:List Af
structure D5 where
 globals:Nat
 slots:Nat
 main:List Af
 fns:List Fn
def K4(fns:List (Nm×Nat))(gl:List Nm)(l:A3)(c:BT A3):Fn:=
 let e:=(em fns gl c 0 ⟨l.ps.map Prod.snd,l.ps.length,[],[]⟩).step 43 0 0
 ⟨l.s,l.ps.length,e.slots,e.st⟩
def H9(fns:List (Nm×Nat)):BT A3->List Nm->List Fn->Em->D5
 | .nil,gl,fs,e=>⟨gl.length,e.slots,e.st,fs⟩
 | .node _ _ l c r,gl,fs,e=>
  if l.kd=20 then H9 fns r gl (fs++[K4 fns gl l c]) e
  else if l.kd=21 then H9 fns r (gl++[l.s]) fs ((em fns gl c 0 e).step 4 (gl.length:Nat) 0)
  else H9 fns r gl fs (em fns gl (nd l c) 0 e)
def Ga(c:BT A3):D5:=H9 (Bx c) c [] [] ⟨[],0,[],[]⟩
theorem P9(fns:List (Nm×Nat))(gl:List Nm)(x y:Nat)(l:A3)(c r:BT A3)(e:Em):em fns gl (.node x y l c r) 1 e=Am fns gl l (Ak c) (em fns gl c) e:=rfl
theorem Ib(fns:List (Nm×Nat))(gl:List Nm)(x y:Nat)(l:A3)(c r:BT A3)(e:Em):em fns gl (.node x y l c r) 0 e=em fns gl r 0 (Am fns gl l (Ak c) (em fns gl c) e):=rfl
theorem A0d(fns:List (Nm×Nat))(gl:List Nm)(l:A3)(c:BT A3)(e:Em):em fns gl (nd l c) 0 e=Am fns gl l (Ak c) (em fns gl c) e:=rfl
theorem Ti(fns:List (Nm×Nat))(gl:List Nm)(x y:Nat)(l:A3)(c r:BT A3)(e:Em):em fns gl (.node x y l c r) 2 e=em fns gl r 1 e:=rfl
theorem Abt(fns:List (Nm×Nat))(gl:List Nm)(x y:Nat)(l:A3)(c r:BT A3)(e:Em):em fns gl (.node x y l c r) 3 e=em fns gl r 2 e:=rfl
def gT(n e:Nat)(t:Tk):Tk:=if t.k=0 then⟨0,e,t.s,t.n⟩ else⟨t.k,t.line+n,t.s,t.n⟩
def Ge(n:Nat)(l:A3):A3:=if l.kd=31\/l.kd=32 then l else⟨l.kd,l.line+n,l.s,l.n,l.ps.map (fun p=>(p.1+n,p.2))⟩
def Dj(n:Nat):BT A3->BT A3
 | .nil=>.nil
 | .node x y l c r=>.node x y (Ge n l) (Dj n c) (Dj n r)
theorem M5(n:Nat):∀a b:BT A3,Dj n (Co a b)=Co (Dj n a) (Dj n b):=by
 intro a b;induction a with
 | nil=>rfl
 | node x y l c r _ ih=>show BT.node x y _ _ (Dj n (Co r b))=_;rw[ih];rfl
theorem Po(n:Nat)(l:A3)(c:BT A3):Dj n (nd l c)=nd (Ge n l) (Dj n c):=rfl
theorem Pm(n:Nat)(l:A3):(Ge n l).kd=l.kd:=by unfold Ge;split <;> rfl
theorem Pn(n:Nat)(l:A3):(Ge n l).s=l.s:=by unfold Ge;split <;> rfl
theorem Ajo(n:Nat)(l:A3):(Ge n l).n=l.n:=by unfold Ge;split <;> rfl
theorem Um{n:Nat}{l:A3}(h1:l.kd≠31)(h2:l.kd≠32):(Ge n l).line=l.line+n:=by unfold Ge;rw[if_neg z4sa]
theorem Ajp(n:Nat)(l:A3):(Ge n l).ps.map Prod.snd=l.ps.map Prod.snd:=by
 unfold Ge;split
 ·rfl
 ·simp[Function.comp_def]
theorem A3n(n:Nat)(l:A3):(Ge n l).ps.length=l.ps.length:=by unfold Ge;split <;> simp
theorem A3s(n:Nat):∀a:BT A3,Ak (Dj n a)=Ak a:=by
 intro a;induction a with
 | nil=>rfl
 | node x y l c r _ ih=>show Ak (Dj n r)+1=_;rw[ih];rfl
def Sx(n:Int):Prop:=-9223372036854775808<=n/\n<=9223372036854775807
theorem Lg:Sx 0:=⟨by decide,by decide⟩
def R3(t:Tk):Prop:=Sx t.n/\t.s.length<=2000
def V6(l:A3):Prop:=Sx l.n/\l.s.length<=2000
def Hv(n:Nat):Prop:=1<=n/\n<=5000
def Lt(E:Nat):List Tk->Prop
 | []=>False
 | t::r=>(t.k=0/\r=[]/\t.line=E)\/(t.k≠0/\Hv t.line/\R3 t/\Lt E r)
def Gr(n e E:Nat)(s s':PS):Prop:=Hv E/\1<=e/\((s.bad=0/\s'.bad=0/\s'.ts=s.ts.map (gT n e)/\Lt E s.ts)\/(s.bad≠0/\s.ts=[J0]/\s'.ts=[J0]/\s'.bad≠0/\s.bad<=5000/\(e=E+n->s'.bad=s.bad+n)))
def Ro:BT A3->Prop
 | .nil=>False
 | .node _ _ l _ _=>l.kd≠31/\l.kd≠32
def Cn:BT A3->Prop
 | .nil=>True
 | .node _ _ l c r=>((l.kd=31\/l.kd=32\/(Hv l.line/\∀p∈l.ps,Hv p.1))/\V6 l)/\Cn c/\Cn r
theorem Cn.app:∀f g:BT A3,Cn f->Cn g->Cn (Co f g):=by
 exact z1pa
theorem Cn.nd0{kd line:Nat}{c:BT A3}(h:Hv line)(hc:Cn c):Cn (nd (Au kd line) c):=⟨⟨.inr (.inr ⟨h,fun p q=>by cases q⟩),Lg,by simp[Au]⟩,hc,trivial⟩
theorem Cn.Qg{kd line:Nat}{s:List UInt8}{n:Int}{c:BT A3}(h:Hv line)(hn:Sx n)(hs:s.length<=2000)(hc:Cn c):Cn (nd ⟨kd,line,s,n,[]⟩ c):=⟨⟨.inr (.inr ⟨h,fun p q=>by cases q⟩),hn,hs⟩,hc,trivial⟩
theorem Cn.blk{c:BT A3}{kd:Nat}(h:kd=31\/kd=32)(hc:Cn c):Cn (nd (Au kd 0) c):=⟨⟨h.elim .inl (fun q=>.inr (.inl q)),Lg,by simp[Au]⟩,hc,trivial⟩
theorem Cn.kids{f:BT A3}(h:Cn f):Cn (Pc f):=by
 cases f with
 | nil=>trivial
 | node x y l c r=>exact h.2.1
def Ft(n e E t:Nat)(s:PS):Option (BT A3×PS)->Option (BT A3×PS)->Prop
 | some x,some y=>Gr n e E x.2 y.2/\(x.2.bad=0->s.bad=0/\y.1=Dj n x.1/\(t<=4->Ro x.1)/\Cn x.1)
 | none,none=>True
 | _,_=>False
variable {n e E:Nat} {s s':PS}
theorem Xi(t:Tk):(gT n e t).k=t.k:=by
 unfold gT;split
 ·rename_i h;exact h.symm
 ·rfl
theorem Gr.hd(h:Gr n e E s s')(hb:s.bad=0):An s'=gT n e (An s)/\(kT s=0->(An s).line=E)/\Hv (An s).line/\(kT s≠0->R3 (An s)):=by
 obtain⟨hE,he,⟨_,_,h3,h4⟩|⟨h1,_⟩⟩:=h
 ·unfold kT An;rw[h3];cases hq:s.ts with
  | nil=>rw[hq]at h4;exact h4.elim
  | cons t r=>
   rw[hq]at h4;rcases h4 with⟨k1,_,k3⟩|⟨k1,k2,k4,_⟩
   ·exact⟨rfl,fun _=>k3,by show Hv t.line;rw[k3];exact hE,fun q=>absurd k1 q⟩
   ·exact⟨rfl,fun q=>absurd q k1,k2,fun _=>k4⟩
 ·exact absurd hb h1
theorem Gr.k(h:Gr n e E s s'):kT s'=kT s:=by
 by_cases hb:s.bad=0
 ·unfold kT;rw[(h.hd hb).1,Xi]
 ·obtain⟨_,_,⟨h1,_⟩|⟨_,h2,h3,_⟩⟩:=h
  ·exact absurd h1 hb
  ·rw[Mt h2,Mt h3]
theorem Gr.lab(h:Gr n e E s s')(hb:s.bad=0)(hk:kT s≠0):An s'=⟨(An s).k,(An s).line+n,(An s).s,(An s).n⟩:=by
 rw[(h.hd hb).1];unfold gT;rw[if_neg (show ¬(An s).k=0 from hk)]
theorem Gr.bad(h:Gr n e E s s'):s'.bad=0↔s.bad=0:=by
 obtain⟨_,_,⟨h1,h2,_⟩|⟨h1,_,_,h2,_⟩⟩:=h
 ·simp[h1,h2]
 ·simp[h1,h2]
theorem Gr.fail(h:Gr n e E s s'):Gr n e E (Dh s) (Dh s')/\(Dh s).bad≠0:=by
 by_cases hb:s.bad=0
 ·obtain⟨h1,h2,h3⟩:=h.hd hb;have hb':=h.bad.2 hb;unfold Dh;rw[if_pos hb,if_pos hb'];unfold Hv at h3;refine⟨⟨h.1,h.2.1,.inr ⟨by show(An s).line≠0;omega,rfl,rfl,?_,by show(An s).line<=5000;omega,?_⟩⟩,by show(An s).line≠0;omega⟩
  ·show(An s').line≠0;rw[h1];unfold gT;have:=h.2.1;split
   ·show e≠0;omega
   ·show(An s).line+n≠0;omega
  ·intro q;show(An s').line=(An s).line+n;rw[h1];unfold gT;split
   ·rename_i hk;show e=_;rw[q,h2 hk]
   ·rfl
 ·have hb':s'.bad≠0:=fun q=>hb (h.bad.1 q);rw[T6 hb,T6 hb'];exact⟨h,hb⟩
theorem Gr.take(h:Gr n e E s s'):Gr n e E (Aj s) (Aj s'):=by
 unfold Aj;rw[h.k];by_cases hk:kT s=0
 ·rw[if_pos hk,if_pos hk];exact h
 ·rw[if_neg hk,if_neg hk];obtain⟨hE,he,⟨h1,h2,h3,h4⟩|⟨_,h2,_⟩⟩:=h
  ·refine⟨hE,he,.inl ⟨h1,h2,?_,?_⟩⟩
   ·show s'.ts.tail=_;rw[h3,List.map_tail]
   ·unfold kT An at hk;cases hq:s.ts with
    | nil=>rw[hq]at h4;exact h4.elim
    | cons t r=>
     rw[hq]at h4 hk;rcases h4 with⟨k1,_⟩|⟨_,_,_,k3⟩
     ·exact absurd k1 hk
     ·exact k3
  ·exact absurd (Mt h2) hk
theorem Pr(s:PS):(Aj s).bad=s.bad:=by unfold Aj;split <;> rfl
theorem Gr.want(h:Gr n e E s s')(k:Nat):Gr n e E (Aw k s) (Aw k s')/\((Aw k s).bad=0->s.bad=0/\kT s=k):=by
 unfold Aw;rw[h.k];by_cases hk:kT s=k
 ·rw[if_pos hk,if_pos hk];exact⟨h.take,fun q=>⟨by rw[Pr]at q;exact q,hk⟩⟩
 ·rw[if_neg hk,if_neg hk];exact⟨h.fail.1,fun q=>absurd q h.fail.2⟩
variable {t t1:Nat} {s1:PS}
theorem Ft.up{o o':Option (BT A3×PS)}(h:Ft n e E t1 s1 o o')(hs:s1.bad=0->s.bad=0)(ht:t<=4->t1<=4):Ft n e E t s o o':=by
 cases o with
 | none=>cases o' with
  | none=>trivial
  | some y=>exact h.elim
 | some x=>cases o' with
  | none=>exact h.elim
  | some y=>exact⟨h.1,fun q=>⟨hs (h.2 q).1,(h.2 q).2.1,fun k=>(h.2 q).2.2.1 (ht k),(h.2 q).2.2.2⟩⟩
theorem Ft.bind{o o':Option (BT A3×PS)}{f f':BT A3×PS->Option (BT A3×PS)}(h:Ft n e E t1 s1 o o')(hf:∀x y,Gr n e E x.2 y.2->(x.2.bad=0->s1.bad=0/\y.1=Dj n x.1/\(t1<=4->Ro x.1)/\Cn x.1)->Ft n e E t s (f x) (f' y)):Ft n e E t s (o.bind f) (o'.bind f'):=by
 cases o with
 | none=>cases o' with
  | none=>trivial
  | some y=>exact h.elim
 | some x=>cases o' with
  | none=>exact h.elim
  | some y=>exact hf x y h.1 h.2
theorem Ft.one{x y:BT A3}{r r':PS}(h:Gr n e E r r')(hx:r.bad=0->s.bad=0/\y=Dj n x/\(t<=4->Ro x)/\Cn x):Ft n e E t s (some (x,r)) (some (y,r')):=⟨h,hx⟩
theorem Agy:∀(m:Nat) (acc acc':List (Nat×List UInt8)) (s s':PS),Gr n e E s s'->(s.bad=0->acc'=acc.map (fun p=>(p.1+n,p.2))/\∀p∈acc,Hv p.1)->
  (∃x y,Gn m acc s=some x/\Gn m acc' s'=some y/\Gr n e E x.2 y.2/\(x.2.bad=0->s.bad=0/\y.1=x.1.map (fun p=>(p.1+n,p.2))/\∀p∈x.1,Hv p.1))\/(Gn m acc s=none/\Gn m acc' s'=none):=by
 intro m;induction m with
 | zero=>intro acc acc' s s' _ _;exact .inr ⟨rfl,rfl⟩
 | succ m ih=>
  intro acc acc' s s' h ha;have h1:=h.want 1;rw[Gn,Gn,h1.1.k];have hac:(Aw 1 s).bad=0->s.bad=0/\acc'++[((An s').line,(An s').s)]=(acc++[((An s).line,(An s).s)]).map (fun p=>(p.1+n,p.2))/\∀p∈acc++[((An s).line,(An s).s)],Hv p.1:=fun q=>by
   obtain⟨k1,k2⟩:=h1.2 q;refine⟨k1,?_,fun p hp=>?_⟩
   ·rw[(ha k1).1,h.lab k1 z4sa];simp
   ·rcases List.mem_append.1 hp with r|r
    ·exact(ha k1).2 p r
    ·rw[List.mem_singleton.1 r];exact(h.hd k1).2.2.1
  split
  ·rcases ih _ _ _ _ h1.1.take (fun q=>(hac (by rw[Pr]at q;exact q)).2) with⟨x,y,k1,k2,k3,k4⟩|q
   ·exact .inl ⟨x,y,k1,k2,k3,fun q=>⟨(hac (by have:=(k4 q).1;rw[Pr]at this;exact this)).1,(k4 q).2⟩⟩
   ·exact .inr q
  ·have h2:=h1.1.want 19;exact .inl ⟨_,_,rfl,rfl,h2.1,fun q=>hac (h2.2 q).1⟩
theorem Afw(m:Nat)(h:Gr n e E s s'):(∃x y,params m s=some x/\params m s'=some y/\Gr n e E x.2 y.2/\(x.2.bad=0->s.bad=0/\y.1=x.1.map (fun p=>(p.1+n,p.2))/\∀p∈x.1,Hv p.1))\/(params m s=none/\params m s'=none):=by
 unfold params;rw[h.k];split
 ·exact .inl ⟨_,_,rfl,rfl,h.take,fun q=>⟨by rw[Pr]at q;exact q,rfl,fun p q=>by cases q⟩⟩
 ·exact Agy m [] [] s s' h (fun _=>⟨rfl,fun p q=>by cases q⟩)
theorem A9c(x:BT A3):K3 (Dj n x)=K3 x:=by
 cases x with
 | nil=>rfl
 | node a b l c r=>show((Ge n l).kd==6||(Ge n l).kd==12)=_;rw[Pm];rfl
theorem Ady(x:BT A3):Pc (Dj n x)=Dj n (Pc x):=by cases x <;> rfl
theorem Ub{x:BT A3}(h:Ro x):Hi (Dj n x)=Ge n (Hi x)/\(Hi (Dj n x)).line=(Hi x).line+n:=by
 cases x with
 | nil=>exact h.elim
 | node a b l c r=>exact⟨rfl,Um h.1 h.2⟩
theorem Aj3{x v:BT A3}(h:Ro x):setNode (Dj n x) (Dj n v)=Dj n (setNode x v):=by
 unfold setNode;rw[(Ub h).1,Pm];have hl:=(Ub (n:=n) h).2;rw[(Ub h).1]at hl;split
 ·rw[Po,hl,Pn];rfl
 ·rw[Po,hl,Ady,←M5];rfl
theorem Yx{x:BT A3}(h:Ro x)(hx:Cn x):Hv (Hi x).line:=by
 cases x with
 | nil=>exact h.elim
 | node a b l c r=>
  rcases hx.1.1 with q|q|q
  ·exact absurd q h.1
  ·exact absurd q h.2
  ·exact q.1
theorem Ai2{x:BT A3}(h:Ro x)(hx:Cn x):V6 (Hi x):=by
 cases x with
 | nil=>exact h.elim
 | node a b l c r=>exact hx.1.2
theorem Aj2{x v:BT A3}(h:Ro x)(hx:Cn x)(hv:Cn v):Cn (setNode x v):=by
 unfold setNode;split
 ·exact Cn.Qg (Yx h hx) Lg (Ai2 h hx).2 hv
 ·exact Cn.nd0 (Yx h hx) (Cn.app _ _ hx.kids hv)
theorem Tp{kd line:Nat}(h1:kd≠31)(h2:kd≠32):Ge n (Au kd line)=Au kd (line+n):=by
 unfold Ge Au;rw[if_neg (by show ¬(kd=31\/kd=32);omega)];rfl
theorem Ro.nd{l:A3}{c:BT A3}(h1:l.kd≠31)(h2:l.kd≠32):Ro (nd l c):=⟨h1,h2⟩
theorem z2ua {P:Prop} (h:P:=by
  exact(ih _ _ _ _ _ _ hr (fun q=>⟨(hx q).2.1,fun _=>(hx q).2.2.1 z4sa,(hx q).2.2.2⟩)).up (fun q=>(hx q).1) (fun _=>by omega)):P:=h
theorem z2ha {P:Prop} (h:P:=by
  exact leaf z4sa z4sa z4sa h.take (fun q=>⟨tb q,rfl,trivial⟩)):P:=h
theorem z2ea {P:Prop} (h:P:=by
  exact(sub (t1:=2) z4sa z4sa h.take).bind (fun x y hr hx=>leaf z4sa z4sa z4sa hr (fun q=>⟨tb (hx q).1,(hx q).2.1,(hx q).2.2.2⟩))):P:=h
theorem z1za {P:Prop} (h:P:=by
  exact(sub (t1:=0) z4sa z4sa h.take).bind (fun x y hr hx=>leaf z4sa z4sa z4sa (hr.want 25).1 (fun q=>have q:=((hr.want 25).2 q).1;⟨tb (hx q).1,(hx q).2.1,(hx q).2.2.2⟩))):P:=h
theorem z1sa {P:Prop} (h:P:=by
  exact leaf z4sa z4sa z4sa (h.take.want 25).1 (fun q=>⟨tb ((h.take.want 25).2 q).1,rfl,trivial⟩)):P:=h
theorem z1ga {P:Prop} (h:P:=by
  exact(ih _ _ _ _ _ _ hr (fun q=>⟨by rw[M5,(hx q).2.1,(ha (hx q).1).1],fun q=>by omega,Cn.app _ _ (ha (hx q).1).2.2 (hx q).2.2.2⟩)).up (fun q=>(hx q).1) (fun _=>by omega)):P:=h
theorem z4ia {P:Prop} (h:P:=by
  refine(sub (t1:=9) z4sa z4sa h).bind (fun x y hr hx=>?_);exact z1ga):P:=h
theorem Ag2:∀(m t a:Nat) (acc acc':BT A3) (s s':PS),Gr n e E s s'->(s.bad=0->acc'=Dj n acc/\(t=1\/t=3->Ro acc)/\Cn acc)->Ft n e E t s (Ab m t a acc s) (Ab m t a acc' s'):=by
 intro m;induction m with
 | zero=>intro t a acc acc' s s' _ _;rw[Ab,Ab];trivial
 | succ m ih=>
  intro t a acc acc' s s' h ha;have hk:=h.k;have sub:∀{t1 a1:Nat} {s1 s1':PS},t1≠1->t1≠3->Gr n e E s1 s1'->Ft n e E t1 s1 (Ab m t1 a1 .nil s1) (Ab m t1 a1 .nil s1'):=fun h1 h3 h=>ih _ _ _ _ _ _ h (fun _=>⟨rfl,fun q=>by omega,trivial⟩);have tb:(Aj s).bad=0->s.bad=0:=fun q=>by rw[Pr]at q;exact q
  have leaf:∀{kd:Nat} {x y:BT A3} {r r':PS},kd≠31->kd≠32->kT s≠0->Gr n e E r r'->(r.bad=0->s.bad=0/\y=Dj n x/\Cn x)->Ft n e E t s (some (nd (Au kd (An s).line) x,r)) (some (nd (Au kd (An s').line) y,r')):=fun k1 k2 k0 hr hx=>
   Ft.one hr (fun q=>by
    obtain⟨q1,q2,q3⟩:=hx q;refine⟨q1,?_,fun _=>Ro.nd k1 k2,Cn.nd0 (h.hd q1).2.2.1 q3⟩;rw[Po,Tp k1 k2,q2,h.lab q1 k0])
  rw[Ab,Ab,hk];by_cases t0:t=0
  ·subst t0;rw[if_pos rfl,if_pos rfl];by_cases a6:a=6
   ·rw[if_pos a6,if_pos a6];exact(sub z4sa z4sa h).up id (fun _=>by omega)
   ·rw[if_neg a6,if_neg a6];refine(sub (t1:=0) z4sa z4sa h).bind (fun x y hr hx=>?_);exact z2ua
  rw[if_neg t0,if_neg t0];by_cases t1:t=1
  ·subst t1;rw[if_pos rfl,if_pos rfl];by_cases hr:rowOf (kT s)=a+1
   ·rw[if_pos hr,if_pos hr];have k0:kT s≠0:=by intro q;rw[q]at hr;exact absurd hr (by simp[rowOf])
    have k31:100+kT s≠31:=by omega
    have k32:100+kT s≠32:=by omega
    refine(sub (t1:=0) z4sa z4sa h.take).bind (fun x y hr hx=>?_);refine(ih _ _ _ _ _ _ hr (fun q=>⟨?_,fun _=>Ro.nd k31 k32,Cn.nd0 (h.hd (tb (hx q).1)).2.2.1 (Cn.app _ _ (ha (tb (hx q).1)).2.2 (hx q).2.2.2)⟩)).up (fun q=>tb (hx q).1) (fun _=>by omega);rw[Po,Tp k31 k32,M5,(hx q).2.1,(ha (tb (hx q).1)).1,h.lab (tb (hx q).1) k0]
   ·rw[if_neg hr,if_neg hr];exact Ft.one h (fun q=>⟨q,(ha q).1,fun _=>(ha q).2.1 (.inl rfl),(ha q).2.2⟩)
  rw[if_neg t1,if_neg t1];by_cases t2:t=2
  ·rw[if_pos t2,if_pos t2];by_cases d1:kT s=28
   ·rw[if_pos d1,if_pos d1];exact z2ea
   rw[if_neg d1,if_neg d1];by_cases d2:kT s=35
   ·rw[if_pos d2,if_pos d2];exact z2ea
   rw[if_neg d2,if_neg d2];refine(sub (t1:=4) z4sa z4sa h).bind (fun x y hr hx=>?_);exact z2ua
  rw[if_neg t2,if_neg t2];by_cases t3:t=3
  ·subst t3;rw[if_pos rfl,if_pos rfl];by_cases d1:kT s=22
   ·rw[if_pos d1,if_pos d1];refine(sub (t1:=0) z4sa z4sa h.take).bind (fun x y hr hx=>?_);have hw:=hr.want 23;refine(ih _ _ _ _ _ _ hw.1 (fun q=>⟨?_,fun _=>Ro.nd (by show 12≠31;omega) (by show 12≠32;omega),Cn.nd0 (h.hd (tb (hx (hw.2 q).1).1)).2.2.1 (Cn.app _ _ (ha (tb (hx (hw.2 q).1).1)).2.2 (hx (hw.2 q).1).2.2.2)⟩)).up (fun q=>tb (hx (hw.2 q).1).1) (fun _=>by omega);have q':=(hw.2 q).1;rw[Po,Tp z4sa z4sa,M5,(hx q').2.1,(ha (tb (hx q').1)).1,h.lab (tb (hx q').1) z4sa]
   ·rw[if_neg d1,if_neg d1];exact Ft.one h (fun q=>⟨q,(ha q).1,fun _=>(ha q).2.1 (.inr rfl),(ha q).2.2⟩)
  rw[if_neg t3,if_neg t3];by_cases t4:t=4
  ·rw[if_pos t4,if_pos t4];by_cases d1:kT s=2
   ·rw[if_pos d1,if_pos d1];exact Ft.one h.take (fun q=>⟨tb q,by rw[h.lab (tb q) z4sa];rfl,fun _=>Ro.nd (by show 1≠31;omega) (by show 1≠32;omega),Cn.Qg (h.hd (tb q)).2.2.1 ((h.hd (tb q)).2.2.2 z4sa).1 z4wa trivial⟩)
   rw[if_neg d1,if_neg d1];by_cases d2:kT s=3
   ·rw[if_pos d2,if_pos d2];exact Ft.one h.take (fun q=>⟨tb q,by rw[h.lab (tb q) z4sa];rfl,fun _=>Ro.nd (by show 2≠31;omega) (by show 2≠32;omega),Cn.Qg (h.hd (tb q)).2.2.1 Lg ((h.hd (tb q)).2.2.2 z4sa).2 trivial⟩)
   rw[if_neg d2,if_neg d2];by_cases d3:kT s=13
   ·rw[if_pos d3,if_pos d3];exact z2ha
   rw[if_neg d3,if_neg d3];by_cases d4:kT s=14
   ·rw[if_pos d4,if_pos d4];exact z2ha
   rw[if_neg d4,if_neg d4];by_cases d5:kT s=15
   ·rw[if_pos d5,if_pos d5];exact z2ha
   rw[if_neg d5,if_neg d5];by_cases d6:kT s=1
   ·rw[if_pos d6,if_pos d6,h.take.k];by_cases d7:kT (Aj s)=18
    ·rw[if_pos d7,if_pos d7];refine(sub (t1:=5) z4sa z4sa h.take.take).bind (fun x y hr hx=>Ft.one hr (fun q=>?_));have q1:=tb (by have:=(hx q).1;rw[Pr]at this;exact this);exact⟨q1,by rw[h.lab q1 z4sa,(hx q).2.1];rfl,fun _=>Ro.nd (by show 7≠31;omega) (by show 7≠32;omega),Cn.Qg (h.hd q1).2.2.1 Lg ((h.hd q1).2.2.2 z4sa).2 (hx q).2.2.2⟩
    ·rw[if_neg d7,if_neg d7];exact Ft.one h.take (fun q=>⟨tb q,by rw[h.lab (tb q) z4sa];rfl,fun _=>Ro.nd (by show 6≠31;omega) (by show 6≠32;omega),Cn.Qg (h.hd (tb q)).2.2.1 Lg ((h.hd (tb q)).2.2.2 z4sa).2 trivial⟩)
   rw[if_neg d6,if_neg d6];by_cases d7:kT s=18
   ·rw[if_pos d7,if_pos d7];exact(sub (t1:=0) z4sa z4sa h.take).bind (fun x y hr hx=>leaf z4sa z4sa z4sa (hr.want 19).1 (fun q=>have q:=((hr.want 19).2 q).1;⟨tb (hx q).1,(hx q).2.1,(hx q).2.2.2⟩))
   rw[if_neg d7,if_neg d7];by_cases d8:kT s=22
   ·rw[if_pos d8,if_pos d8];exact(sub (t1:=5) z4sa z4sa h.take).bind (fun x y hr hx=>leaf z4sa z4sa z4sa hr (fun q=>⟨tb (hx q).1,(hx q).2.1,(hx q).2.2.2⟩))
   rw[if_neg d8,if_neg d8];by_cases d9:kT s=16
   ·rw[if_pos d9,if_pos d9];exact(sub (t1:=0) z4sa z4sa (h.take.want 18).1).bind (fun x y hr hx=>leaf z4sa z4sa z4sa (hr.want 19).1 (fun q=>have q:=((hr.want 19).2 q).1;⟨tb ((h.take.want 18).2 (hx q).1).1,(hx q).2.1,(hx q).2.2.2⟩))
   rw[if_neg d9,if_neg d9];by_cases d10:kT s=17
   ·rw[if_pos d10,if_pos d10];exact(sub (t1:=0) z4sa z4sa (h.take.want 18).1).bind (fun x y hr hx=>(sub (t1:=0) z4sa z4sa (hr.want 24).1).bind (fun u v hu hv=>leaf z4sa z4sa z4sa (hu.want 19).1 (fun q=>have q:=((hu.want 19).2 q).1;have q2:=((hr.want 24).2 (hv q).1).1;⟨tb ((h.take.want 18).2 (hx q2).1).1,by rw[M5,(hx q2).2.1,(hv q).2.1],Cn.app _ _ (hx q2).2.2.2 (hv q).2.2.2⟩)))
   rw[if_neg d10,if_neg d10];exact Ft.one h.fail.1 (fun q=>absurd q h.fail.2)
  rw[if_neg t4,if_neg t4];by_cases t5:t=5
  ·rw[if_pos t5,if_pos t5];by_cases d1:kT s=a
   ·rw[if_pos d1,if_pos d1];exact Ft.one h.take (fun q=>⟨tb q,rfl,fun _=>by omega,trivial⟩)
   ·rw[if_neg d1,if_neg d1];refine(sub (t1:=0) z4sa z4sa h).bind (fun x y hr hx=>?_);exact(ih _ _ _ _ _ _ hr (fun q=>⟨(hx q).2.1,fun q=>by omega,(hx q).2.2.2⟩)).up (fun q=>(hx q).1) (fun _=>by omega)
  rw[if_neg t5,if_neg t5];by_cases t6:t=6
  ·rw[if_pos t6,if_pos t6];by_cases d1:kT s=24
   ·rw[if_pos d1,if_pos d1];refine(sub (t1:=0) z4sa z4sa h.take).bind (fun x y hr hx=>?_);exact(ih _ _ _ _ _ _ hr (fun q=>⟨by rw[M5,(hx q).2.1,(ha (tb (hx q).1)).1],fun q=>by omega,Cn.app _ _ (ha (tb (hx q).1)).2.2 (hx q).2.2.2⟩)).up (fun q=>tb (hx q).1) (fun _=>by omega)
   ·rw[if_neg d1,if_neg d1];exact Ft.one (h.want a).1 (fun q=>⟨((h.want a).2 q).1,(ha ((h.want a).2 q).1).1,fun _=>by omega,(ha ((h.want a).2 q).1).2.2⟩)
  rw[if_neg t6,if_neg t6];by_cases t7:t=7
  ·rw[if_pos t7,if_pos t7];exact(sub z4sa z4sa (h.want 20).1).up (fun q=>((h.want 20).2 q).1) (fun _=>by omega)
  rw[if_neg t7,if_neg t7];by_cases t8:t=8
  ·rw[if_pos t8,if_pos t8];by_cases d1:kT s=21
   ·rw[if_pos d1,if_pos d1];exact Ft.one h.take (fun q=>⟨tb q,(ha (tb q)).1,fun _=>by omega,(ha (tb q)).2.2⟩)
   rw[if_neg d1,if_neg d1];by_cases d2:s.bad≠0
   ·rw[if_pos d2,if_pos (fun q=>d2 (h.bad.1 q))];exact Ft.one h (fun q=>absurd q d2)
   ·rw[if_neg d2,if_neg (fun q=>q (h.bad.2 z4sa))];exact z4ia
  rw[if_neg t8,if_neg t8];by_cases t9:t=9
  ·rw[if_pos t9,if_pos t9];by_cases d1:kT s=5
   ·rw[if_pos d1,if_pos d1];have w1:=h.take.want 1;have w2:=w1.1.want 26;refine(sub (t1:=0) z4sa z4sa w2.1).bind (fun x y hr hx=>Ft.one (hr.want 25).1 (fun q=>?_));have q1:=((hr.want 25).2 q).1;have q2:=w1.2 (w2.2 (hx q1).1).1;exact⟨tb q2.1,by rw[h.take.lab q2.1 z4sa,(hx q1).2.1];rfl,fun _=>by omega,Cn.Qg (h.take.hd q2.1).2.2.1 Lg ((h.take.hd q2.1).2.2.2 z4sa).2 (hx q1).2.2.2⟩
   rw[if_neg d1,if_neg d1];by_cases d2:kT s=6
   ·rw[if_pos d2,if_pos d2];refine(sub (t1:=0) z4sa z4sa h.take).bind (fun x y hr hx=>?_);refine(sub (t1:=7) z4sa z4sa hr).bind (fun u v hu hv=>?_);rw[hu.k];by_cases d3:kT u.2=7
    ·rw[if_pos d3,if_pos d3];refine(sub (t1:=7) z4sa z4sa hu.take).bind (fun z w hz hw=>leaf z4sa z4sa z4sa hz (fun q=>?_));have q1:u.2.bad=0:=by have:=(hw q).1;rw[Pr]at this;exact this
     exact⟨tb (hx (hv q1).1).1,by rw[M5,M5,(hx (hv q1).1).2.1,(hv q1).2.1,(hw q).2.1];rfl,Cn.app _ _ (hx (hv q1).1).2.2.2 (Cn.app _ _ (Cn.blk (.inl rfl) (hv q1).2.2.2) (Cn.blk (.inl rfl) (hw q).2.2.2))⟩
    ·rw[if_neg d3,if_neg d3];exact leaf z4sa z4sa z4sa hu (fun q=>⟨tb (hx (hv q).1).1,by rw[M5,(hx (hv q).1).2.1,(hv q).2.1];rfl,Cn.app _ _ (hx (hv q).1).2.2.2 (Cn.blk (.inl rfl) (hv q).2.2.2)⟩)
   rw[if_neg d2,if_neg d2];by_cases d3:kT s=8
   ·rw[if_pos d3,if_pos d3];refine(sub (t1:=0) z4sa z4sa h.take).bind (fun x y hr hx=>?_);refine(sub (t1:=7) z4sa z4sa hr).bind (fun u v hu hv=>?_);exact leaf z4sa z4sa z4sa hu (fun q=>⟨tb (hx (hv q).1).1,by rw[M5,(hx (hv q).1).2.1,(hv q).2.1];rfl,Cn.app _ _ (hx (hv q).1).2.2.2 (Cn.blk (.inr rfl) (hv q).2.2.2)⟩)
   rw[if_neg d3,if_neg d3];by_cases d4:kT s=9
   ·rw[if_pos d4,if_pos d4,h.take.k];by_cases d5:kT (Aj s)=25
    ·rw[if_pos d5,if_pos d5];exact z1sa
    ·rw[if_neg d5,if_neg d5];exact z1za
   rw[if_neg d4,if_neg d4];by_cases d5:kT s=10
   ·rw[if_pos d5,if_pos d5];exact z1sa
   rw[if_neg d5,if_neg d5];by_cases d6:kT s=11
   ·rw[if_pos d6,if_pos d6];exact z1sa
   rw[if_neg d6,if_neg d6];by_cases d7:kT s=12
   ·rw[if_pos d7,if_pos d7];exact z1za
   rw[if_neg d7,if_neg d7];refine(sub (t1:=0) z4sa z4sa h).bind (fun x y hr hx=>?_);rw[hr.k];by_cases d9:kT x.2=26
   ·have hb:x.2.bad=0:=Classical.byContradiction fun q=>by
     obtain⟨_,_,⟨h1,_⟩|⟨_,h2,_⟩⟩:=hr
     ·exact q h1
     ·rw[Mt h2]at d9;omega
    obtain⟨q1,q2,q3,q5⟩:=hx hb;rw[q2,A9c];by_cases d8:K3 x.1=true/\kT x.2=26
    ·rw[if_pos d8,if_pos d8];refine(sub (t1:=0) z4sa z4sa hr.take).bind (fun u v hu hv=>Ft.one (hu.want 25).1 (fun q=>?_));have q4:=((hu.want 25).2 q).1;exact⟨q1,by rw[(hv q4).2.1,Aj3 (q3 z4sa)],fun _=>by omega,Aj2 (q3 z4sa) q5 (hv q4).2.2.2⟩
    ·rw[if_neg d8,if_neg d8,if_pos d9,if_pos d9];refine(sub (t1:=0) z4sa z4sa hr.fail.1).bind (fun u v hu hv=>Ft.one (hu.want 25).1 (fun q=>?_));have q4:=((hu.want 25).2 q).1;exact absurd (hv q4).1 hr.fail.2
   ·rw[if_neg (show ¬(K3 x.1=true/\kT x.2=26) from fun q=>d9 q.2),if_neg (show ¬(K3 y.1=true/\kT x.2=26) from fun q=>d9 q.2),if_neg d9,if_neg d9];refine Ft.one (hr.want 25).1 (fun q=>?_);obtain⟨q1,q2,q3,q5⟩:=hx ((hr.want 25).2 q).1;exact⟨q1,by rw[Po,Tp z4sa z4sa,q2,(Ub (q3 z4sa)).2],fun _=>by omega,Cn.nd0 (Yx (q3 z4sa) q5) q5⟩
  rw[if_neg t9,if_neg t9];by_cases t10:t=10
  ·rw[if_pos t10,if_pos t10];by_cases d1:kT s=0
   ·rw[if_pos d1,if_pos d1];exact Ft.one h (fun q=>⟨q,(ha q).1,fun _=>by omega,(ha q).2.2⟩)
   rw[if_neg d1,if_neg d1];by_cases d2:kT s=4
   ·rw[if_pos d2,if_pos d2];refine(sub (t1:=11) z4sa z4sa h).bind (fun x y hr hx=>?_);exact z1ga
   ·rw[if_neg d2,if_neg d2];exact z4ia
  rw[if_neg t10,if_neg t10];have w1:=h.take.want 1;have w2:=w1.1.want 18;rcases Afw m w2.1 with⟨p,p',k1,k2,k3,k4⟩|⟨k1,k2⟩
  ·rw[k1,k2];show Ft n e E t s (Option.bind _ _) (Option.bind _ _);refine(sub (t1:=7) z4sa z4sa k3).bind (fun x y hr hx=>Ft.one hr (fun q=>?_));have q1:=k4 (hx q).1;have q2:=w1.2 (w2.2 q1.1).1;exact⟨tb q2.1,by rw[h.take.lab q2.1 z4sa,(hx q).2.1,q1.2.1];rfl,fun _=>by omega,⟨.inr (.inr ⟨(h.take.hd q2.1).2.2.1,q1.2.2⟩),Lg,((h.take.hd q2.1).2.2.2 z4sa).2⟩,(hx q).2.2.2,trivial⟩
  ·rw[k1,k2];trivial
end
end Go.Proofs.YtjdlndhfaaolaaaGreatDoor
