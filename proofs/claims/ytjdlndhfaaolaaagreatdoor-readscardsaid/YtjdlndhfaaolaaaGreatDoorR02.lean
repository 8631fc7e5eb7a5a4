import Derived.Deep.Trees
import Derived.Test.YtjdlndhfaaolaaaGreatDoorR01
set_option maxHeartbeats 20000000
namespace Go.Proofs.YtjdlndhfaaolaaaGreatDoor
section
open Go.Deep (BT)
structure A2 where
 kd:Nat
 line:Nat
 s:List UInt8
 n:Int
 ps:List (Nat×List UInt8)
def nd(l:A2)(ch:BT A2):BT A2:=.node 0 0 l ch .nil
def B6:BT A2->BT A2->BT A2
 | .nil,b=>b
 | .node x y l c r,b=>.node x y l c (B6 r b)
def A8:BT A2->Nat
 | .nil=>0
 | .node _ _ _ _ r=>A8 r+1
def Dd:BT A2->A2
 | .nil=>⟨0,0,[],0,[]⟩
 | .node _ _ l _ _=>l
def M6:BT A2->BT A2
 | .nil=>.nil
 | .node _ _ _ c _=>c
structure PS where
 ts:List Tk
 bad:Nat
def Iq:Tk:=⟨0,0,[],0⟩
def A6(s:PS):Tk:=s.ts.headD Iq
def kT(s:PS):Nat:=(A6 s).k
def Cm(s:PS):PS:=if s.bad=0 then⟨[Iq],(A6 s).line⟩ else s
def Aa(s:PS):PS:=if kT s=0 then s else⟨s.ts.tail,s.bad⟩
def Ah(k:Nat)(s:PS):PS:=if kT s=k then Aa s else Cm s
def rowOf(k:Nat):Nat:=
 if k=40 then 1 else if k=39 then 2 else if k=27\/k=29 then 3 else if k=30\/k=31\/k=32\/k=33 then 4
 else if k=34\/k=35 then 5 else if k=36\/k=37\/k=38 then 6 else 0
def Ao(kd line:Nat):A2:=⟨kd,line,[],0,[]⟩
def Ja:Nat->List (Nat×List UInt8)->PS->Option (List (Nat×List UInt8)×PS)
 | 0,_,_=>none
 | n+1,acc,s=>
  if kT (Ah 1 s)=24 then Ja n (acc++[((A6 s).line,(A6 s).s)]) (Aa (Ah 1 s))
  else some (acc++[((A6 s).line,(A6 s).s)],Ah 19 (Ah 1 s))
def params(n:Nat)(s:PS):Option (List (Nat×List UInt8)×PS):=if kT s=19 then some ([],Aa s) else Ja n [] s
def Lh(x:BT A2):Bool:=(Dd x).kd==6||(Dd x).kd==12
def setNode(x v:BT A2):BT A2:=
 if(Dd x).kd=6 then nd ⟨28,(Dd x).line,(Dd x).s,0,[]⟩ v else nd (Ao 29 (Dd x).line) (B6 (M6 x) v)
def A7:Nat->Nat->Nat->BT A2->PS->Option (BT A2×PS)
 | 0,_,_,_,_=>none
 | n+1,t,a,acc,s=>
  if t=0 then
   if a=6 then A7 n 2 0 .nil s
   else(A7 n 0 (a+1) .nil s).bind fun x=>A7 n 1 a x.1 x.2
  else if t=1 then
   if rowOf (kT s)=a+1 then(A7 n 0 (a+1) .nil (Aa s)).bind fun y=>A7 n 1 a (nd (Ao (100+kT s) (A6 s).line) (B6 acc y.1)) y.2
   else some (acc,s)
  else if t=2 then
   if kT s=28 then(A7 n 2 0 .nil (Aa s)).bind fun x=>some (nd (Ao 13 (A6 s).line) x.1,x.2)
   else if kT s=35 then(A7 n 2 0 .nil (Aa s)).bind fun x=>some (nd (Ao 14 (A6 s).line) x.1,x.2)
   else(A7 n 4 0 .nil s).bind fun x=>A7 n 3 0 x.1 x.2
  else if t=3 then
   if kT s=22 then(A7 n 0 0 .nil (Aa s)).bind fun y=>A7 n 3 0 (nd (Ao 12 (A6 s).line) (B6 acc y.1)) (Ah 23 y.2)
   else some (acc,s)
  else if t=4 then
   if kT s=2 then some (nd ⟨1,(A6 s).line,[],(A6 s).n,[]⟩ .nil,Aa s)
   else if kT s=3 then some (nd ⟨2,(A6 s).line,(A6 s).s,0,[]⟩ .nil,Aa s)
   else if kT s=13 then some (nd (Ao 3 (A6 s).line) .nil,Aa s)
   else if kT s=14 then some (nd (Ao 4 (A6 s).line) .nil,Aa s)
   else if kT s=15 then some (nd (Ao 5 (A6 s).line) .nil,Aa s)
   else if kT s=1 then
    if kT (Aa s)=18 then(A7 n 5 19 .nil (Aa (Aa s))).bind fun l=>some (nd ⟨7,(A6 s).line,(A6 s).s,0,[]⟩ l.1,l.2)
    else some (nd ⟨6,(A6 s).line,(A6 s).s,0,[]⟩ .nil,Aa s)
   else if kT s=18 then(A7 n 0 0 .nil (Aa s)).bind fun x=>some (nd (Ao 8 (A6 s).line) x.1,Ah 19 x.2)
   else if kT s=22 then(A7 n 5 23 .nil (Aa s)).bind fun l=>some (nd (Ao 9 (A6 s).line) l.1,l.2)
   else if kT s=16 then(A7 n 0 0 .nil (Ah 18 (Aa s))).bind fun x=>some (nd (Ao 10 (A6 s).line) x.1,Ah 19 x.2)
   else if kT s=17 then(A7 n 0 0 .nil (Ah 18 (Aa s))).bind fun x=>(A7 n 0 0 .nil (Ah 24 x.2)).bind fun y=>some (nd (Ao 11 (A6 s).line) (B6 x.1 y.1),Ah 19 y.2)
   else some (.nil,Cm s)
  else if t=5 then
   if kT s=a then some (.nil,Aa s)
   else(A7 n 0 0 .nil s).bind fun x=>A7 n 6 a x.1 x.2
  else if t=6 then
   if kT s=24 then(A7 n 0 0 .nil (Aa s)).bind fun y=>A7 n 6 a (B6 acc y.1) y.2
   else some (acc,Ah a s)
  else if t=7 then A7 n 8 0 .nil (Ah 20 s)
  else if t=8 then
   if kT s=21 then some (acc,Aa s)
   else if s.bad≠0 then some (acc,s)
   else(A7 n 9 0 .nil s).bind fun x=>A7 n 8 0 (B6 acc x.1) x.2
  else if t=9 then
   if kT s=5 then(A7 n 0 0 .nil (Ah 26 (Ah 1 (Aa s)))).bind fun x=>some (nd ⟨21,(A6 (Aa s)).line,(A6 (Aa s)).s,0,[]⟩ x.1,Ah 25 x.2)
   else if kT s=6 then(A7 n 0 0 .nil (Aa s)).bind fun x=>(A7 n 7 0 .nil x.2).bind fun b=>
    if kT b.2=7 then(A7 n 7 0 .nil (Aa b.2)).bind fun c=>some (nd (Ao 22 (A6 s).line) (B6 x.1 (B6 (nd (Ao 31 0) b.1) (nd (Ao 31 0) c.1))),c.2)
    else some (nd (Ao 22 (A6 s).line) (B6 x.1 (nd (Ao 31 0) b.1)),b.2)
   else if kT s=8 then(A7 n 0 0 .nil (Aa s)).bind fun x=>(A7 n 7 0 .nil x.2).bind fun b=>some (nd (Ao 23 (A6 s).line) (B6 x.1 (nd (Ao 32 0) b.1)),b.2)
   else if kT s=9 then
    if kT (Aa s)=25 then some (nd (Ao 24 (A6 s).line) .nil,Ah 25 (Aa s))
    else(A7 n 0 0 .nil (Aa s)).bind fun x=>some (nd (Ao 24 (A6 s).line) x.1,Ah 25 x.2)
   else if kT s=10 then some (nd (Ao 25 (A6 s).line) .nil,Ah 25 (Aa s))
   else if kT s=11 then some (nd (Ao 26 (A6 s).line) .nil,Ah 25 (Aa s))
   else if kT s=12 then(A7 n 0 0 .nil (Aa s)).bind fun x=>some (nd (Ao 27 (A6 s).line) x.1,Ah 25 x.2)
   else(A7 n 0 0 .nil s).bind fun x=>
    if Lh x.1=true/\kT x.2=26 then(A7 n 0 0 .nil (Aa x.2)).bind fun v=>some (setNode x.1 v.1,Ah 25 v.2)
    else if kT x.2=26 then(A7 n 0 0 .nil (Cm x.2)).bind fun v=>some (nd (Ao 30 (Dd x.1).line) x.1,Ah 25 v.2)
    else some (nd (Ao 30 (Dd x.1).line) x.1,Ah 25 x.2)
  else if t=10 then
   if kT s=0 then some (acc,s)
   else if kT s=4 then(A7 n 11 0 .nil s).bind fun x=>A7 n 10 0 (B6 acc x.1) x.2
   else(A7 n 9 0 .nil s).bind fun x=>A7 n 10 0 (B6 acc x.1) x.2
  else
   (params n (Ah 18 (Ah 1 (Aa s)))).bind fun p=>(A7 n 7 0 .nil p.2).bind fun b=>
    some (nd ⟨20,(A6 (Aa s)).line,(A6 (Aa s)).s,0,p.1⟩ b.1,b.2)
end
section
open Go.Deep (BT)
variable {n:Nat}{s:PS}{r:BT A2×PS}
theorem bind_some{α β:Type}{o:Option α}{f:α->Option β}{r:β}(h:o.bind f=some r):∃x,o=some x/\f x=some r:=by
 cases o with
 | none=>cases h
 | some x=>exact⟨x,rfl,h⟩
theorem Cc(t a:Nat)(acc:BT A2)(s:PS)(r:BT A2×PS):A7 0 t a acc s≠some r:=by intro h;rw[A7]at h;cases h
theorem P4(h:A7 (n+1) 0 6 .nil s=some r):A7 n 2 0 .nil s=some r:=by
 rw[A7,if_pos rfl,if_pos rfl]at h;exact h
theorem P3{n a:Nat}{s:PS}{r:BT A2×PS}(ha:a≠6)(h:A7 (n+1) 0 a .nil s=some r):∃x,A7 n 0 (a+1) .nil s=some x/\A7 n 1 a x.1 x.2=some r:=by
 rw[A7,if_pos rfl,if_neg ha]at h;exact bind_some h
theorem Pz{n a:Nat}{acc:BT A2}{s:PS}{r:BT A2×PS}(hk:rowOf (kT s)=a+1)(h:A7 (n+1) 1 a acc s=some r) :
  ∃y,A7 n 0 (a+1) .nil (Aa s)=some y/\A7 n 1 a (nd (Ao (100+kT s) (A6 s).line) (B6 acc y.1)) y.2=some r:=by
 rw[A7,if_neg (by decide),if_pos rfl,if_pos hk]at h;exact bind_some h
theorem P5{n a:Nat}{acc:BT A2}{s:PS}{r:BT A2×PS}(hk:rowOf (kT s)≠a+1)(h:A7 (n+1) 1 a acc s=some r):r=(acc,s):=by
 rw[A7,if_neg (by decide),if_pos rfl,if_neg hk]at h;cases h;rfl
theorem Q2(hk:kT s=28)(h:A7 (n+1) 2 0 .nil s=some r):∃x,A7 n 2 0 .nil (Aa s)=some x/\r=(nd (Ao 13 (A6 s).line) x.1,x.2):=by
 rw[A7,if_neg (by decide),if_neg (by decide),if_pos rfl,if_pos hk]at h;obtain⟨x,h1,h2⟩:=bind_some h;exact⟨x,h1,(Option.some.inj h2).symm⟩
theorem Q1(hk:kT s=35)(h:A7 (n+1) 2 0 .nil s=some r):∃x,A7 n 2 0 .nil (Aa s)=some x/\r=(nd (Ao 14 (A6 s).line) x.1,x.2):=by
 rw[A7,if_neg (by decide),if_neg (by decide),if_pos rfl,if_neg (by omega),if_pos hk]at h;obtain⟨x,h1,h2⟩:=bind_some h;exact⟨x,h1,(Option.some.inj h2).symm⟩
theorem P6(h1:kT s≠28)(h2:kT s≠35)(h:A7 (n+1) 2 0 .nil s=some r):∃x,A7 n 4 0 .nil s=some x/\A7 n 3 0 x.1 x.2=some r:=by
 rw[A7,if_neg (by decide),if_neg (by decide),if_pos rfl,if_neg h1,if_neg h2]at h;exact bind_some h
theorem Qz{n:Nat}{acc:BT A2}{s:PS}{r:BT A2×PS}(hk:kT s=22)(h:A7 (n+1) 3 0 acc s=some r) :
  ∃y,A7 n 0 0 .nil (Aa s)=some y/\A7 n 3 0 (nd (Ao 12 (A6 s).line) (B6 acc y.1)) (Ah 23 y.2)=some r:=by
 rw[A7,if_neg (by decide),if_neg (by decide),if_neg (by decide),if_pos rfl,if_pos hk]at h;exact bind_some h
theorem R1{n:Nat}{acc:BT A2}{s:PS}{r:BT A2×PS}(hk:kT s≠22)(h:A7 (n+1) 3 0 acc s=some r):r=(acc,s):=by
 rw[A7,if_neg (by decide),if_neg (by decide),if_neg (by decide),if_pos rfl,if_neg hk]at h;exact(Option.some.inj h).symm
theorem Vp{n a:Nat}{s:PS}{r:BT A2×PS}(hk:kT s=a)(h:A7 (n+1) 5 a .nil s=some r):r=(.nil,Aa s):=by
 rw[A7,if_neg (by decide),if_neg (by decide),if_neg (by decide),if_neg (by decide),if_neg (by decide),if_pos rfl,if_pos hk]at h;exact(Option.some.inj h).symm
theorem Tg{n a:Nat}{s:PS}{r:BT A2×PS}(hk:kT s≠a)(h:A7 (n+1) 5 a .nil s=some r):(A7 n 0 0 .nil s).bind (fun y=>A7 n 6 a (B6 .nil y.1) y.2)=some r:=by
 rw[A7,if_neg (by decide),if_neg (by decide),if_neg (by decide),if_neg (by decide),if_neg (by decide),if_pos rfl,if_neg hk]at h;exact h
theorem Vq{n a:Nat}{acc:BT A2}{s:PS}{r:BT A2×PS}(hk:kT s=24)(h:A7 (n+1) 6 a acc s=some r):(A7 n 0 0 .nil (Aa s)).bind (fun y=>A7 n 6 a (B6 acc y.1) y.2)=some r:=by
 rw[A7,if_neg (by decide),if_neg (by decide),if_neg (by decide),if_neg (by decide),if_neg (by decide),if_neg (by decide),if_pos rfl,if_pos hk]at h;exact h
theorem Vo{n a:Nat}{acc:BT A2}{s:PS}{r:BT A2×PS}(hk:kT s≠24)(h:A7 (n+1) 6 a acc s=some r):r=(acc,Ah a s):=by
 rw[A7,if_neg (by decide),if_neg (by decide),if_neg (by decide),if_neg (by decide),if_neg (by decide),if_neg (by decide),if_pos rfl,if_neg hk]at h;exact(Option.some.inj h).symm
theorem Ql{s:PS}(h:s.ts=[Iq]):kT s=0:=by unfold kT A6;rw[h];rfl
theorem Wx{s:PS}(h:s.bad≠0):Cm s=s:=by unfold Cm;rw[if_neg h]
theorem Wz{s:PS}(h:s.ts=[Iq]):Aa s=s:=by unfold Aa;rw[if_pos (Ql h)]
theorem Sq{s:PS}(k:Nat)(h:s.ts=[Iq])(hb:s.bad≠0):Ah k s=s:=by
 unfold Ah;split
 ·exact Wz h
 ·exact Wx hb
theorem Zy{s:PS}(h:s.ts=[Iq])(hb:s.bad≠0):∀n acc r,Ja n acc s=some r->r.2=s:=by
 intro n;induction n with
 | zero=>intro acc r hr;rw[Ja]at hr;cases hr
 | succ n ih=>
  intro acc r hr;rw[Ja,Sq 1 h hb,if_neg (by rw[Ql h];decide)]at hr;have:=(Option.some.inj hr).symm;rw[this,Sq 19 h hb]
theorem Vl{s:PS}(h:s.ts=[Iq])(hb:s.bad≠0)(n:Nat)(r:List (Nat×List UInt8)×PS)(hr:params n s=some r):r.2=s:=by
 unfold params at hr;rw[if_neg (by rw[Ql h];decide)]at hr;exact Zy h hb n [] r hr
theorem A2b{α β:Type}{o:Option (α×PS)}{f:α×PS->Option (β×PS)}{s:PS}{r:β×PS}(h:o.bind f=some r)(h1:∀x,o=some x->x.2=s)(h2:∀x,o=some x->x.2=s->f x=some r->r.2=s):r.2=s:=by
 obtain⟨x,k1,k2⟩:=bind_some h;exact h2 x k1 (h1 x k1) k2
theorem Lm{s:PS}(h:s.ts=[Iq])(hb:s.bad≠0):∀n t a acc r,A7 n t a acc s=some r->r.2=s:=by
 intro n;have k0:kT s=0:=Ql h;have e1:=Wz h;have e2:=Wx hb;have e3:=fun k=>Sq k h hb;induction n with
 | zero=>intro t a acc r hr;rw[A7]at hr;cases hr
 | succ n ih=>
  intro t a acc r hr;rw[A7]at hr;simp only[k0,e1,e2,e3]at hr;have two:∀{t1 a1:Nat} {acc1:BT A2} {f:BT A2×PS->Option (BT A2×PS)},(A7 n t1 a1 acc1 s).bind f=some r->(∀x,x.2=s->f x=some r->r.2=s)->r.2=s:=
   fun hh hf=>A2b hh (fun x hx=>ih _ _ _ _ hx) (fun x _ hxs hfx=>hf x hxs hfx)
  have fin:∀{y:BT A2} {s':PS},some (y,s')=some r->s'=s->r.2=s:=fun hh he=>by cases hh;exact he
  by_cases t0:t=0
  ·rw[if_pos t0]at hr;by_cases a6:a=6
   ·rw[if_pos a6]at hr;exact ih _ _ _ _ hr
   ·rw[if_neg a6]at hr;exact two hr (fun x hx hf=>by rw[hx]at hf;exact ih _ _ _ _ hf)
  rw[if_neg t0]at hr;by_cases t1:t=1
  ·rw[if_pos t1,if_neg (by simp[rowOf])]at hr;exact fin hr rfl
  rw[if_neg t1]at hr;by_cases t2:t=2
  ·rw[if_pos t2,if_neg (by decide),if_neg (by decide)]at hr;exact two hr (fun x hx hf=>by rw[hx]at hf;exact ih _ _ _ _ hf)
  rw[if_neg t2]at hr;by_cases t3:t=3
  ·rw[if_pos t3,if_neg (by decide)]at hr;exact fin hr rfl
  rw[if_neg t3]at hr;by_cases t4:t=4
  ·rw[if_pos t4]at hr;iterate 10 (rw[if_neg (by decide)]at hr)
   exact fin hr rfl
  rw[if_neg t4]at hr;by_cases t5:t=5
  ·rw[if_pos t5]at hr;by_cases ka:0=a
   ·rw[if_pos ka]at hr;exact fin hr rfl
   ·rw[if_neg ka]at hr;exact two hr (fun x hx hf=>by rw[hx]at hf;exact ih _ _ _ _ hf)
  rw[if_neg t5]at hr;by_cases t6:t=6
  ·rw[if_pos t6,if_neg (by decide)]at hr;exact fin hr rfl
  rw[if_neg t6]at hr;by_cases t7:t=7
  ·rw[if_pos t7]at hr;exact ih _ _ _ _ hr
  rw[if_neg t7]at hr;by_cases t8:t=8
  ·rw[if_pos t8,if_neg (by decide),if_pos hb]at hr;exact fin hr rfl
  rw[if_neg t8]at hr;by_cases t9:t=9
  ·rw[if_pos t9]at hr;iterate 7 (rw[if_neg (by decide)]at hr)
   refine two hr (fun x hx hf=>?_);rw[hx,k0,if_neg (by simp),if_neg (by decide)]at hf;exact fin hf (e3 25)
  rw[if_neg t9]at hr;by_cases t10:t=10
  ·rw[if_pos t10,if_pos trivial]at hr;exact fin hr rfl
  rw[if_neg t10]at hr;obtain⟨p,h1,h2⟩:=bind_some hr;have hp:=Vl h hb n p h1;rw[hp]at h2;exact two h2 (fun x hx hf=>fin hf hx)
theorem Px(hk:kT s=2)(h:A7 (n+1) 4 0 .nil s=some r):r=(nd ⟨1,(A6 s).line,[],(A6 s).n,[]⟩ .nil,Aa s):=by
 rw[A7,if_neg (by decide),if_neg (by decide),if_neg (by decide),if_neg (by decide),if_pos rfl,if_pos hk]at h;exact(Option.some.inj h).symm
theorem Q5(hk:kT s=3)(h:A7 (n+1) 4 0 .nil s=some r):r=(nd ⟨2,(A6 s).line,(A6 s).s,0,[]⟩ .nil,Aa s):=by
 rw[A7,if_neg (by decide),if_neg (by decide),if_neg (by decide),if_neg (by decide),if_pos rfl,if_neg (by omega),if_pos hk]at h;exact(Option.some.inj h).symm
theorem Q6(hk:kT s=13)(h:A7 (n+1) 4 0 .nil s=some r):r=(nd (Ao 3 (A6 s).line) .nil,Aa s):=by
 rw[A7,if_neg (by decide),if_neg (by decide),if_neg (by decide),if_neg (by decide),if_pos rfl,if_neg (by omega),if_neg (by omega),if_pos hk]at h;exact(Option.some.inj h).symm
theorem Pu(hk:kT s=14)(h:A7 (n+1) 4 0 .nil s=some r):r=(nd (Ao 4 (A6 s).line) .nil,Aa s):=by
 rw[A7,if_neg (by decide),if_neg (by decide),if_neg (by decide),if_neg (by decide),if_pos rfl,if_neg (by omega),if_neg (by omega),if_neg (by omega),if_pos hk]at h;exact(Option.some.inj h).symm
theorem Q3(hk:kT s=15)(h:A7 (n+1) 4 0 .nil s=some r):r=(nd (Ao 5 (A6 s).line) .nil,Aa s):=by
 rw[A7,if_neg (by decide),if_neg (by decide),if_neg (by decide),if_neg (by decide),if_pos rfl,if_neg (by omega),if_neg (by omega),if_neg (by omega),if_neg (by omega),if_pos hk]at h;exact(Option.some.inj h).symm
theorem Pt(hk:kT s=1)(Bk:kT (Aa s)=18)(h:A7 (n+1) 4 0 .nil s=some r):∃l,A7 n 5 19 .nil (Aa (Aa s))=some l/\r=(nd ⟨7,(A6 s).line,(A6 s).s,0,[]⟩ l.1,l.2):=by
 rw[A7,if_neg (by decide),if_neg (by decide),if_neg (by decide),if_neg (by decide),if_pos rfl,if_neg (by omega),if_neg (by omega),if_neg (by omega),if_neg (by omega),if_neg (by omega),if_pos hk,if_pos Bk]at h;obtain⟨x,h1,h2⟩:=bind_some h;exact⟨x,h1,(Option.some.inj h2).symm⟩
theorem Q0(hk:kT s=1)(Bk:kT (Aa s)≠18)(h:A7 (n+1) 4 0 .nil s=some r):r=(nd ⟨6,(A6 s).line,(A6 s).s,0,[]⟩ .nil,Aa s):=by
 rw[A7,if_neg (by decide),if_neg (by decide),if_neg (by decide),if_neg (by decide),if_pos rfl,if_neg (by omega),if_neg (by omega),if_neg (by omega),if_neg (by omega),if_neg (by omega),if_pos hk,if_neg Bk]at h;exact(Option.some.inj h).symm
theorem Pw(hk:kT s=18)(h:A7 (n+1) 4 0 .nil s=some r):∃x,A7 n 0 0 .nil (Aa s)=some x/\r=(nd (Ao 8 (A6 s).line) x.1,Ah 19 x.2):=by
 rw[A7,if_neg (by decide),if_neg (by decide),if_neg (by decide),if_neg (by decide),if_pos rfl,if_neg (by omega),if_neg (by omega),if_neg (by omega),if_neg (by omega),if_neg (by omega),if_neg (by omega),if_pos hk]at h;obtain⟨x,h1,h2⟩:=bind_some h;exact⟨x,h1,(Option.some.inj h2).symm⟩
theorem Pr(hk:kT s=22)(h:A7 (n+1) 4 0 .nil s=some r):∃l,A7 n 5 23 .nil (Aa s)=some l/\r=(nd (Ao 9 (A6 s).line) l.1,l.2):=by
 rw[A7,if_neg (by decide),if_neg (by decide),if_neg (by decide),if_neg (by decide),if_pos rfl,if_neg (by omega),if_neg (by omega),if_neg (by omega),if_neg (by omega),if_neg (by omega),if_neg (by omega),if_neg (by omega),if_pos hk]at h;obtain⟨x,h1,h2⟩:=bind_some h;exact⟨x,h1,(Option.some.inj h2).symm⟩
theorem Py(hk:kT s=16)(h:A7 (n+1) 4 0 .nil s=some r):∃x,A7 n 0 0 .nil (Ah 18 (Aa s))=some x/\r=(nd (Ao 10 (A6 s).line) x.1,Ah 19 x.2):=by
 rw[A7,if_neg (by decide),if_neg (by decide),if_neg (by decide),if_neg (by decide),if_pos rfl,if_neg (by omega),if_neg (by omega),if_neg (by omega),if_neg (by omega),if_neg (by omega),if_neg (by omega),if_neg (by omega),if_neg (by omega),if_pos hk]at h;obtain⟨x,h1,h2⟩:=bind_some h;exact⟨x,h1,(Option.some.inj h2).symm⟩
theorem Q4(hk:kT s=17)(h:A7 (n+1) 4 0 .nil s=some r):∃x y,A7 n 0 0 .nil (Ah 18 (Aa s))=some x/\A7 n 0 0 .nil (Ah 24 x.2)=some y/\r=(nd (Ao 11 (A6 s).line) (B6 x.1 y.1),Ah 19 y.2):=by
 rw[A7,if_neg (by decide),if_neg (by decide),if_neg (by decide),if_neg (by decide),if_pos rfl,if_neg (by omega),if_neg (by omega),if_neg (by omega),if_neg (by omega),if_neg (by omega),if_neg (by omega),if_neg (by omega),if_neg (by omega),if_neg (by omega),if_pos hk]at h;obtain⟨x,h1,h2⟩:=bind_some h;obtain⟨y,h3,h4⟩:=bind_some h2;exact⟨x,y,h1,h3,(Option.some.inj h4).symm⟩
theorem Ns(h1:kT s≠2)(h2:kT s≠3)(h3:kT s≠13)(h4:kT s≠14)(h5:kT s≠15)(h6:kT s≠1)(h7:kT s≠18)(h8:kT s≠22)(h9:kT s≠16)(h10:kT s≠17)(h:A7 (n+1) 4 0 .nil s=some r):r=(.nil,Cm s):=by
 rw[A7,if_neg (by decide),if_neg (by decide),if_neg (by decide),if_neg (by decide),if_pos rfl,if_neg h1,if_neg h2,if_neg h3,if_neg h4,if_neg h5,if_neg h6,if_neg h7,if_neg h8,if_neg h9,if_neg h10]at h;exact(Option.some.inj h).symm
theorem Te(h:A7 (n+1) 7 0 .nil s=some r):A7 n 8 0 .nil (Ah 20 s)=some r:=by
 rw[A7,if_neg (by decide),if_neg (by decide),if_neg (by decide),if_neg (by decide),if_neg (by decide),if_neg (by decide),if_neg (by decide),if_pos rfl]at h;exact h
theorem Vm{n:Nat}{acc:BT A2}{s:PS}{r:BT A2×PS}(hk:kT s=21)(h:A7 (n+1) 8 0 acc s=some r):r=(acc,Aa s):=by
 rw[A7,if_neg (by decide),if_neg (by decide),if_neg (by decide),if_neg (by decide),if_neg (by decide),if_neg (by decide),if_neg (by decide),if_neg (by decide),if_pos rfl,if_pos hk]at h;exact(Option.some.inj h).symm
theorem Tf{n:Nat}{acc:BT A2}{s:PS}{r:BT A2×PS}(hk:kT s≠21)(hb:s.bad=0)(h:A7 (n+1) 8 0 acc s=some r):∃x,A7 n 9 0 .nil s=some x/\A7 n 8 0 (B6 acc x.1) x.2=some r:=by
 rw[A7,if_neg (by decide),if_neg (by decide),if_neg (by decide),if_neg (by decide),if_neg (by decide),if_neg (by decide),if_neg (by decide),if_neg (by decide),if_pos rfl,if_neg hk,if_neg (by simpa using hb)]at h;exact bind_some h
theorem Tl(hk:kT s=5)(h:A7 (n+1) 9 0 .nil s=some r):∃x,A7 n 0 0 .nil (Ah 26 (Ah 1 (Aa s)))=some x/\r=(nd ⟨21,(A6 (Aa s)).line,(A6 (Aa s)).s,0,[]⟩ x.1,Ah 25 x.2):=by
 rw[A7,if_neg (by decide),if_neg (by decide),if_neg (by decide),if_neg (by decide),if_neg (by decide),if_neg (by decide),if_neg (by decide),if_neg (by decide),if_neg (by decide),if_pos rfl,if_pos hk]at h;obtain⟨x,h1,h2⟩:=bind_some h;exact⟨x,h1,(Option.some.inj h2).symm⟩
theorem Tj(hk:kT s=6)(h:A7 (n+1) 9 0 .nil s=some r):∃x bl,A7 n 0 0 .nil (Aa s)=some x/\A7 n 7 0 .nil x.2=some bl/\
  ((kT bl.2=7/\∃c,A7 n 7 0 .nil (Aa bl.2)=some c/\r=(nd (Ao 22 (A6 s).line) (B6 x.1 (B6 (nd (Ao 31 0) bl.1) (nd (Ao 31 0) c.1))),c.2))\/(kT bl.2≠7/\r=(nd (Ao 22 (A6 s).line) (B6 x.1 (nd (Ao 31 0) bl.1)),bl.2))):=by
 rw[A7,if_neg (by decide),if_neg (by decide),if_neg (by decide),if_neg (by decide),if_neg (by decide),if_neg (by decide),if_neg (by decide),if_neg (by decide),if_neg (by decide),if_pos rfl,if_neg (by omega),if_pos hk]at h;obtain⟨x,h1,h2⟩:=bind_some h;obtain⟨bl,h3,h4⟩:=bind_some h2;refine⟨x,bl,h1,h3,?_⟩;by_cases h7:kT bl.2=7
 ·rw[if_pos h7]at h4;obtain⟨c,h5,h6⟩:=bind_some h4;exact .inl ⟨h7,c,h5,(Option.some.inj h6).symm⟩
 ·rw[if_neg h7]at h4;exact .inr ⟨h7,(Option.some.inj h4).symm⟩
theorem Tp(hk:kT s=8)(h:A7 (n+1) 9 0 .nil s=some r):∃x bl,A7 n 0 0 .nil (Aa s)=some x/\A7 n 7 0 .nil x.2=some bl/\r=(nd (Ao 23 (A6 s).line) (B6 x.1 (nd (Ao 32 0) bl.1)),bl.2):=by
 rw[A7,if_neg (by decide),if_neg (by decide),if_neg (by decide),if_neg (by decide),if_neg (by decide),if_neg (by decide),if_neg (by decide),if_neg (by decide),if_neg (by decide),if_pos rfl,if_neg (by omega),if_neg (by omega),if_pos hk]at h;obtain⟨x,h1,h2⟩:=bind_some h;obtain⟨bl,h3,h4⟩:=bind_some h2;exact⟨x,bl,h1,h3,(Option.some.inj h4).symm⟩
theorem To(hk:kT s=9)(Bk:kT (Aa s)=25)(h:A7 (n+1) 9 0 .nil s=some r):r=(nd (Ao 24 (A6 s).line) .nil,Ah 25 (Aa s)):=by
 rw[A7,if_neg (by decide),if_neg (by decide),if_neg (by decide),if_neg (by decide),if_neg (by decide),if_neg (by decide),if_neg (by decide),if_neg (by decide),if_neg (by decide),if_pos rfl,if_neg (by omega),if_neg (by omega),if_neg (by omega),if_pos hk,if_pos Bk]at h;exact(Option.some.inj h).symm
theorem Tn(hk:kT s=9)(Bk:kT (Aa s)≠25)(h:A7 (n+1) 9 0 .nil s=some r):∃x,A7 n 0 0 .nil (Aa s)=some x/\r=(nd (Ao 24 (A6 s).line) x.1,Ah 25 x.2):=by
 rw[A7,if_neg (by decide),if_neg (by decide),if_neg (by decide),if_neg (by decide),if_neg (by decide),if_neg (by decide),if_neg (by decide),if_neg (by decide),if_neg (by decide),if_pos rfl,if_neg (by omega),if_neg (by omega),if_neg (by omega),if_pos hk,if_neg Bk]at h;obtain⟨x,h1,h2⟩:=bind_some h;exact⟨x,h1,(Option.some.inj h2).symm⟩
theorem Th(hk:kT s=10)(h:A7 (n+1) 9 0 .nil s=some r):r=(nd (Ao 25 (A6 s).line) .nil,Ah 25 (Aa s)):=by
 rw[A7,if_neg (by decide),if_neg (by decide),if_neg (by decide),if_neg (by decide),if_neg (by decide),if_neg (by decide),if_neg (by decide),if_neg (by decide),if_neg (by decide),if_pos rfl,if_neg (by omega),if_neg (by omega),if_neg (by omega),if_neg (by omega),if_pos hk]at h;exact(Option.some.inj h).symm
theorem Ti(hk:kT s=11)(h:A7 (n+1) 9 0 .nil s=some r):r=(nd (Ao 26 (A6 s).line) .nil,Ah 25 (Aa s)):=by
 rw[A7,if_neg (by decide),if_neg (by decide),if_neg (by decide),if_neg (by decide),if_neg (by decide),if_neg (by decide),if_neg (by decide),if_neg (by decide),if_neg (by decide),if_pos rfl,if_neg (by omega),if_neg (by omega),if_neg (by omega),if_neg (by omega),if_neg (by omega),if_pos hk]at h;exact(Option.some.inj h).symm
theorem Tm(hk:kT s=12)(h:A7 (n+1) 9 0 .nil s=some r):∃x,A7 n 0 0 .nil (Aa s)=some x/\r=(nd (Ao 27 (A6 s).line) x.1,Ah 25 x.2):=by
 rw[A7,if_neg (by decide),if_neg (by decide),if_neg (by decide),if_neg (by decide),if_neg (by decide),if_neg (by decide),if_neg (by decide),if_neg (by decide),if_neg (by decide),if_pos rfl,if_neg (by omega),if_neg (by omega),if_neg (by omega),if_neg (by omega),if_neg (by omega),if_neg (by omega),if_pos hk]at h;obtain⟨x,h1,h2⟩:=bind_some h;exact⟨x,h1,(Option.some.inj h2).symm⟩
theorem S0(hk:¬(5<=kT s/\kT s<=12/\kT s≠7))(h:A7 (n+1) 9 0 .nil s=some r):∃x,A7 n 0 0 .nil s=some x/\
  ((Lh x.1=true/\kT x.2=26/\∃v,A7 n 0 0 .nil (Aa x.2)=some v/\r=(setNode x.1 v.1,Ah 25 v.2))\/(Lh x.1=false/\kT x.2=26/\∃v,A7 n 0 0 .nil (Cm x.2)=some v/\r=(nd (Ao 30 (Dd x.1).line) x.1,Ah 25 v.2))\/
   (kT x.2≠26/\r=(nd (Ao 30 (Dd x.1).line) x.1,Ah 25 x.2))):=by
 rw[A7,if_neg (by decide),if_neg (by decide),if_neg (by decide),if_neg (by decide),if_neg (by decide),if_neg (by decide),if_neg (by decide),if_neg (by decide),if_neg (by decide),if_pos rfl,if_neg (by omega),if_neg (by omega),if_neg (by omega),if_neg (by omega),if_neg (by omega),if_neg (by omega),if_neg (by omega)]at h;obtain⟨x,h1,h2⟩:=bind_some h;refine⟨x,h1,?_⟩;by_cases h26:kT x.2=26
 ·cases hc:Lh x.1
  ·rw[if_neg (by rw[hc];simp),if_pos h26]at h2;obtain⟨v,h3,h4⟩:=bind_some h2;exact .inr (.inl ⟨rfl,h26,v,h3,(Option.some.inj h4).symm⟩)
  ·rw[if_pos ⟨hc,h26⟩]at h2;obtain⟨v,h3,h4⟩:=bind_some h2;exact .inl ⟨rfl,h26,v,h3,(Option.some.inj h4).symm⟩
 ·rw[if_neg (fun e=>h26 e.2),if_neg h26]at h2;exact .inr (.inr ⟨h26,(Option.some.inj h2).symm⟩)
theorem Mr:∀(f g:BT A2),A8 (B6 f g)=A8 f+A8 g:=by
 intro f;induction f with
 | nil=>intro g;simp[B6,A8]
 | node x y l c r _ ih=>intro g;simp only[B6,A8,ih];omega
end
section
open Go.Deep (BT)
def Qf:List Tk->Prop
 | []=>False
 | x::r=>1<=x.line/\(x.k=0\/Qf r)
structure WF (s : PS) : Prop where
 good:s.bad=0->Qf s.ts
 bad:s.bad≠0->s.ts=[Iq]
def Reach(s s':PS):Prop:=WF s'/\(s'.bad=0->s.bad=0/\∃pre,s.ts=pre++s'.ts)
def N0(k:Nat)(s s':PS):Prop:=s'.bad=0->s.bad=0/\∃pre x,s.ts=pre++x::s'.ts/\x.k=k
theorem Reach.refl{s:PS}(h:WF s):Reach s s:=⟨h,fun hb=>⟨hb,[],rfl⟩⟩
theorem Reach.trans{s s1 s2:PS}(h:Reach s s1)(k:Reach s1 s2):Reach s s2:=by
 refine⟨k.1,fun hb=>?_⟩;obtain⟨h1,p1,e1⟩:=k.2 hb;obtain⟨h2,p2,e2⟩:=h.2 h1;exact⟨h2,p2++p1,by rw[e2,e1,List.append_assoc]⟩
theorem Reach.U9{k:Nat}{s s1 s2:PS}(h:Reach s s1)(t:N0 k s1 s2):N0 k s s2:=by
 intro hb;obtain⟨h1,p1,x,e1,hx⟩:=t hb;obtain⟨h2,p2,e2⟩:=h.2 h1;exact⟨h2,p2++p1,x,by rw[e2,e1,List.append_assoc],hx⟩
theorem Qf.ne{l:List Tk}(h:Qf l):l≠[]:=by
 intro e;subst e;exact h
theorem A00{s:PS}(hk:kT s≠0):s.ts=A6 s::(Aa s).ts/\(Aa s).bad=s.bad:=by
 unfold Aa;rw[if_neg hk];refine⟨?_,rfl⟩;unfold kT A6 at hk;cases hts:s.ts with
 | nil=>rw[hts]at hk;exact absurd rfl hk
 | cons x r=>simp[A6,hts]
theorem I0{s:PS}(h:WF s):Reach s (Aa s):=by
 by_cases hk:kT s=0
 ·have e:Aa s=s:=by unfold Aa;rw[if_pos hk]
  rw[e];exact Reach.refl h
 ·obtain⟨e1,e2⟩:=A00 hk;refine⟨⟨fun hb=>?_,fun hb=>?_⟩,fun hb=>⟨by rw[←e2];exact hb,[A6 s],e1⟩⟩
  ·have h1:=h.good (by rw[←e2];exact hb);rw[e1]at h1;rcases h1.2 with h2|h2
   ·exact absurd h2 hk
   ·exact h2
  ·rw[e2]at hb;exact absurd (Ql (h.bad hb)) hk
theorem Rb{s:PS}(hk:kT s≠0):N0 (kT s) s (Aa s):=by
 obtain⟨e1,e2⟩:=A00 hk;exact fun hb=>⟨by rw[←e2];exact hb,[],A6 s,e1,rfl⟩
theorem A62{s:PS}(h:WF s)(hb:s.bad=0):1<=(A6 s).line:=by
 have h1:=h.good hb;unfold A6;cases hts:s.ts with
 | nil=>rw[hts]at h1;exact h1.elim
 | cons x r=>rw[hts]at h1;exact h1.1
theorem Ot{s:PS}(h:WF s):(Cm s).bad≠0:=by
 unfold Cm;split
 ·rename_i h0;have:=A62 h h0;show(A6 s).line≠0;omega
 ·assumption
theorem Pg{s:PS}(h:WF s):Reach s (Cm s):=by
 refine⟨⟨fun hb=>absurd hb (Ot h),fun _=>?_⟩,fun hb=>absurd hb (Ot h)⟩;unfold Cm;split
 ·rfl
 ·rename_i h0;exact h.bad h0
theorem Cq{s:PS}(k:Nat)(h:WF s):Reach s (Ah k s):=by
 unfold Ah;split
 ·exact I0 h
 ·exact Pg h
theorem Rd{s:PS}{k:Nat}(hk:k≠0)(h:WF s):N0 k s (Ah k s):=by
 unfold Ah;split
 ·rename_i e;rw[←e];exact Rb (by omega)
 ·exact fun hb=>absurd hb (Ot h)
theorem A8x:∀n acc s r,WF s->Ja n acc s=some r->Reach s r.2:=by
 intro n;induction n with
 | zero=>intro acc s r _ hr;rw[Ja]at hr;cases hr
 | succ n ih=>
  intro acc s r h hr;rw[Ja]at hr;have h1:=Cq 1 h;split at hr
  ·have h2:=h1.trans (I0 h1.1);exact h2.trans (ih _ _ _ h2.1 hr)
  ·have:=(Option.some.inj hr).symm;rw[this];exact h1.trans (Cq 19 h1.1)
theorem Td{n:Nat}{s:PS}{r:List (Nat×List UInt8)×PS}(h:WF s)(hr:params n s=some r):Reach s r.2:=by
 unfold params at hr;split at hr
 ·have:=(Option.some.inj hr).symm;rw[this];exact I0 h
 ·exact A8x _ _ _ _ h hr
theorem Cj:∀n t a acc s r,WF s->A7 n t a acc s=some r->Reach s r.2:=by
 intro n;induction n with
 | zero=>intro t a acc s r _ hr;rw[A7]at hr;cases hr
 | succ n ih=>
  intro t a acc s r h hr;rw[A7]at hr;have one:∀{y:BT A2} {s1:PS},some (y,s1)=some r->Reach s s1->Reach s r.2:=fun hh he=>by cases hh;exact he
  have go:∀{t1 a1:Nat} {acc1:BT A2} {s1:PS},Reach s s1->A7 n t1 a1 acc1 s1=some r->Reach s r.2:=fun h1 h2=>h1.trans (ih _ _ _ _ _ h1.1 h2);have two:∀{t1 a1:Nat} {acc1:BT A2} {s1:PS} {f:BT A2×PS->Option (BT A2×PS)},Reach s s1->(A7 n t1 a1 acc1 s1).bind f=some r->(∀x,Reach s x.2->f x=some r->Reach s r.2)->Reach s r.2:=by
   intro t1 a1 acc1 s1 f h1 h2 h3;obtain⟨x,k1,k2⟩:=bind_some h2;exact h3 x (h1.trans (ih _ _ _ _ _ h1.1 k1)) k2
  have h0:=Reach.refl h;have ht:=I0 h;by_cases t0:t=0
  ·rw[if_pos t0]at hr;by_cases a6:a=6
   ·rw[if_pos a6]at hr;exact go h0 hr
   ·rw[if_neg a6]at hr;exact two h0 hr (fun x hx hf=>go hx hf)
  rw[if_neg t0]at hr;by_cases t1:t=1
  ·rw[if_pos t1]at hr;split at hr
   ·exact two ht hr (fun x hx hf=>go hx hf)
   ·exact one hr h0
  rw[if_neg t1]at hr;by_cases t2:t=2
  ·rw[if_pos t2]at hr;split at hr
   ·exact two ht hr (fun x hx hf=>one hf hx)
   split at hr
   ·exact two ht hr (fun x hx hf=>one hf hx)
   ·exact two h0 hr (fun x hx hf=>go hx hf)
  rw[if_neg t2]at hr;by_cases t3:t=3
  ·rw[if_pos t3]at hr;split at hr
   ·exact two ht hr (fun x hx hf=>go (hx.trans (Cq 23 hx.1)) hf)
   ·exact one hr h0
  rw[if_neg t3]at hr;by_cases t4:t=4
  ·rw[if_pos t4]at hr;by_cases c1:kT s=2
   ·rw[if_pos c1]at hr;exact one hr ht
   rw[if_neg c1]at hr;by_cases c2:kT s=3
   ·rw[if_pos c2]at hr;exact one hr ht
   rw[if_neg c2]at hr;by_cases c3:kT s=13
   ·rw[if_pos c3]at hr;exact one hr ht
   rw[if_neg c3]at hr;by_cases c4:kT s=14
   ·rw[if_pos c4]at hr;exact one hr ht
   rw[if_neg c4]at hr;by_cases c5:kT s=15
   ·rw[if_pos c5]at hr;exact one hr ht
   rw[if_neg c5]at hr;by_cases c6:kT s=1
   ·rw[if_pos c6]at hr;by_cases c7:kT (Aa s)=18
    ·rw[if_pos c7]at hr;exact two (ht.trans (I0 ht.1)) hr (fun x hx hf=>one hf hx)
    ·rw[if_neg c7]at hr;exact one hr ht
   rw[if_neg c6]at hr;by_cases c7:kT s=18
   ·rw[if_pos c7]at hr;exact two ht hr (fun x hx hf=>one hf (hx.trans (Cq 19 hx.1)))
   rw[if_neg c7]at hr;by_cases c8:kT s=22
   ·rw[if_pos c8]at hr;exact two ht hr (fun x hx hf=>one hf hx)
   rw[if_neg c8]at hr;by_cases c9:kT s=16
   ·rw[if_pos c9]at hr;exact two (ht.trans (Cq 18 ht.1)) hr (fun x hx hf=>one hf (hx.trans (Cq 19 hx.1)))
   rw[if_neg c9]at hr;by_cases c10:kT s=17
   ·rw[if_pos c10]at hr;exact two (ht.trans (Cq 18 ht.1)) hr (fun x hx hf=>two (hx.trans (Cq 24 hx.1)) hf (fun y hy hg=>one hg (hy.trans (Cq 19 hy.1))))
   rw[if_neg c10]at hr;exact one hr (Pg h)
  rw[if_neg t4]at hr;by_cases t5:t=5
  ·rw[if_pos t5]at hr;split at hr
   ·exact one hr ht
   ·exact two h0 hr (fun x hx hf=>go hx hf)
  rw[if_neg t5]at hr;by_cases t6:t=6
  ·rw[if_pos t6]at hr;split at hr
   ·exact two ht hr (fun x hx hf=>go hx hf)
   ·exact one hr (Cq a h)
  rw[if_neg t6]at hr;by_cases t7:t=7
  ·rw[if_pos t7]at hr;exact go (Cq 20 h) hr
  rw[if_neg t7]at hr;by_cases t8:t=8
  ·rw[if_pos t8]at hr;split at hr
   ·exact one hr ht
   split at hr
   ·exact one hr h0
   ·exact two h0 hr (fun x hx hf=>go hx hf)
  rw[if_neg t8]at hr;by_cases t9:t=9
  ·rw[if_pos t9]at hr;have hse:∀{y:BT A2} {s1:PS},some (y,Ah 25 s1)=some r->Reach s s1->Reach s r.2:=fun hh he=>one hh (he.trans (Cq 25 he.1));by_cases c1:kT s=5
   ·rw[if_pos c1]at hr;have h1:=ht.trans (Cq 1 ht.1);exact two (h1.trans (Cq 26 h1.1)) hr (fun x hx hf=>hse hf hx)
   rw[if_neg c1]at hr;by_cases c2:kT s=6
   ·rw[if_pos c2]at hr;refine two ht hr (fun x hx hf=>two hx hf (fun y hy hg=>?_));by_cases c3:kT y.2=7
    ·rw[if_pos c3]at hg;exact two (hy.trans (I0 hy.1)) hg (fun z hz hh=>one hh hz)
    ·rw[if_neg c3]at hg;exact one hg hy
   rw[if_neg c2]at hr;by_cases c3:kT s=8
   ·rw[if_pos c3]at hr;exact two ht hr (fun x hx hf=>two hx hf (fun y hy hg=>one hg hy))
   rw[if_neg c3]at hr;by_cases c4:kT s=9
   ·rw[if_pos c4]at hr;by_cases c5:kT (Aa s)=25
    ·rw[if_pos c5]at hr;exact hse hr ht
    ·rw[if_neg c5]at hr;exact two ht hr (fun x hx hf=>hse hf hx)
   rw[if_neg c4]at hr;by_cases c5:kT s=10
   ·rw[if_pos c5]at hr;exact hse hr ht
   rw[if_neg c5]at hr;by_cases c6:kT s=11
   ·rw[if_pos c6]at hr;exact hse hr ht
   rw[if_neg c6]at hr;by_cases c7:kT s=12
   ·rw[if_pos c7]at hr;exact two ht hr (fun x hx hf=>hse hf hx)
   rw[if_neg c7]at hr;refine two h0 hr (fun x hx hf=>?_);by_cases c8:Lh x.1=true/\kT x.2=26
   ·rw[if_pos c8]at hf;exact two (hx.trans (I0 hx.1)) hf (fun y hy hg=>hse hg hy)
   rw[if_neg c8]at hf;by_cases c9:kT x.2=26
   ·rw[if_pos c9]at hf;exact two (hx.trans (Pg hx.1)) hf (fun y hy hg=>hse hg hy)
   ·rw[if_neg c9]at hf;exact hse hf hx
  rw[if_neg t9]at hr;by_cases t10:t=10
  ·rw[if_pos t10]at hr;split at hr
   ·exact one hr h0
   split at hr
   ·exact two h0 hr (fun x hx hf=>go hx hf)
   ·exact two h0 hr (fun x hx hf=>go hx hf)
  rw[if_neg t10]at hr;obtain⟨p,h1,h2⟩:=bind_some hr;have Bm:=ht.trans (Cq 1 ht.1);have hw2:=Bm.trans (Cq 18 Bm.1);have hw3:=hw2.trans (Td hw2.1 h1);exact two hw3 h2 (fun x hx hf=>one hf hx)
def L2(s:PS)(r:BT A2×PS):Prop:=((Dd r.1).kd=6->N0 1 s r.2)/\((Dd r.1).kd=12->N0 23 s r.2)/\((Dd r.1).kd=8->N0 19 s r.2)
theorem L2.no{s:PS}{r:BT A2×PS}{k:Nat}(hk:(Dd r.1).kd=k)(h6:k≠6)(h12:k≠12)(h8:k≠8):L2 s r:=⟨fun e=>absurd (hk.symm.trans e) h6,fun e=>absurd (hk.symm.trans e) h12,fun e=>absurd (hk.symm.trans e) h8⟩
theorem A87:∀n a acc s r,A7 n 1 a acc s=some r->r=(acc,s)\/100<=(Dd r.1).kd:=by
 intro n;induction n with
 | zero=>intro a acc s r hr;exact absurd hr (Cc _ _ _ _ _)
 | succ n ih=>
  intro a acc s r hr;by_cases hk:rowOf (kT s)=a+1
  ·obtain⟨y,h1,h2⟩:=Pz hk hr;rcases ih _ _ _ _ h2 with e|e
   ·right;rw[e];show 100<=100+kT s;omega
   ·exact .inr e
  ·exact .inl (P5 hk hr)
theorem A86:∀n acc s r,WF s->A7 n 3 0 acc s=some r->r=(acc,s)\/((Dd r.1).kd=12/\N0 23 s r.2):=by
 intro n;induction n with
 | zero=>intro acc s r _ hr;exact absurd hr (Cc _ _ _ _ _)
 | succ n ih=>
  intro acc s r h hr;by_cases hk:kT s=22
  ·obtain⟨y,h1,h2⟩:=Qz hk hr;have ht:=I0 h;have hy:=ht.trans (Cj _ _ _ _ _ _ ht.1 h1);have hw:=hy.trans (Cq 23 hy.1);right;rcases ih _ _ _ hw.1 h2 with e|e
   ·rw[e];exact⟨rfl,hy.U9 (Rd (by decide) hy.1)⟩
   ·exact⟨e.1,hw.U9 e.2⟩
  ·exact .inl (R1 hk hr)
theorem A84{n:Nat}{s:PS}{r:BT A2×PS}(h:WF s)(hr:A7 (n+1) 4 0 .nil s=some r):L2 s r:=by
 have ht:=I0 h;by_cases k1:kT s=1
 ·by_cases k2:kT (Aa s)=18
  ·obtain⟨l,_,e⟩:=Pt k1 k2 hr;rw[e];exact L2.no (k:=7) rfl (by decide) (by decide) (by decide)
  ·rw[Q0 k1 k2 hr];refine⟨fun _=>?_,fun e=>absurd (show(6:Nat)=12 from e) (by decide),fun e=>absurd (show(6:Nat)=8 from e) (by decide)⟩;have:=Rb (s:=s) (by omega);rw[k1]at this;exact this
 by_cases k2:kT s=18
 ·obtain⟨x,h1,e⟩:=Pw k2 hr;have hx:=ht.trans (Cj _ _ _ _ _ _ ht.1 h1);rw[e];exact⟨fun e=>absurd (show(8:Nat)=6 from e) (by decide),fun e=>absurd (show(8:Nat)=12 from e) (by decide),fun _=>hx.U9 (Rd (by decide) hx.1)⟩
 by_cases k3:kT s=2
 ·rw[Px k3 hr];exact L2.no (k:=1) rfl (by decide) (by decide) (by decide)
 by_cases k4:kT s=3
 ·rw[Q5 k4 hr];exact L2.no (k:=2) rfl (by decide) (by decide) (by decide)
 by_cases k5:kT s=13
 ·rw[Q6 k5 hr];exact L2.no (k:=3) rfl (by decide) (by decide) (by decide)
 by_cases k6:kT s=14
 ·rw[Pu k6 hr];exact L2.no (k:=4) rfl (by decide) (by decide) (by decide)
 by_cases k7:kT s=15
 ·rw[Q3 k7 hr];exact L2.no (k:=5) rfl (by decide) (by decide) (by decide)
 by_cases k8:kT s=22
 ·obtain⟨l,_,e⟩:=Pr k8 hr;rw[e];exact L2.no (k:=9) rfl (by decide) (by decide) (by decide)
 by_cases k9:kT s=16
 ·obtain⟨l,_,e⟩:=Py k9 hr;rw[e];exact L2.no (k:=10) rfl (by decide) (by decide) (by decide)
 by_cases k10:kT s=17
 ·obtain⟨l,m,_,_,e⟩:=Q4 k10 hr;rw[e];exact L2.no (k:=11) rfl (by decide) (by decide) (by decide)
 rw[Ns k3 k4 k5 k6 k7 k1 k2 k8 k9 k10 hr];exact L2.no (k:=0) rfl (by decide) (by decide) (by decide)
theorem A89{n:Nat}{s:PS}{r:BT A2×PS}(h:WF s)(hr:A7 n 2 0 .nil s=some r):L2 s r:=by
 cases n with
 | zero=>exact absurd hr (Cc _ _ _ _ _)
 | succ n=>
  by_cases k1:kT s=28
  ·obtain⟨x,_,e⟩:=Q2 k1 hr;rw[e];exact L2.no (k:=13) rfl (by decide) (by decide) (by decide)
  by_cases k2:kT s=35
  ·obtain⟨x,_,e⟩:=Q1 k2 hr;rw[e];exact L2.no (k:=14) rfl (by decide) (by decide) (by decide)
  obtain⟨x,h1,h2⟩:=P6 k1 k2 hr;have hx:=Cj _ _ _ _ _ _ h h1;cases n with
  | zero=>exact absurd h1 (Cc _ _ _ _ _)
  | succ n=>
   rcases A86 _ _ _ _ hx.1 h2 with e|e
   ·rw[e];exact A84 h h1
   ·exact⟨fun e'=>absurd (e.1.symm.trans e') (by decide),fun _=>hx.U9 e.2,fun e'=>absurd (e.1.symm.trans e') (by decide)⟩
theorem Vn:∀n a s r,WF s->a<=6->A7 n 0 a .nil s=some r->L2 s r:=by
 intro n;induction n with
 | zero=>intro a s r _ _ hr;exact absurd hr (Cc _ _ _ _ _)
 | succ n ih=>
  intro a s r h ha hr;by_cases a6:a=6
  ·subst a6;exact A89 h (P4 hr)
  ·obtain⟨x,h1,h2⟩:=P3 a6 hr;rcases A87 _ _ _ _ _ h2 with e|e
   ·rw[e];exact ih _ _ _ h (by omega) h1
   ·exact L2.no rfl (by omega) (by omega) (by omega)
end
section
open Go.Deep (BT)
variable {n:Nat}{s:PS}{r:BT A2×PS}
def Le(s s':PS):Prop:=s'.bad=0->s.bad=0/\s'.ts.length<s.ts.length
theorem N0.less{k:Nat}{s s':PS}(h:N0 k s s'):Le s s':=by
 intro hb;obtain⟨h1,p,x,e,_⟩:=h hb;exact⟨h1,by rw[e];simp;omega⟩
theorem Le.reach{s s1 s2:PS}(h:Le s s1)(k:Reach s1 s2):Le s s2:=by
 intro hb;obtain⟨h1,p,e⟩:=k.2 hb;obtain⟨h2,l⟩:=h h1;refine⟨h2,?_⟩;rw[e]at l;simp at l;omega
theorem Reach.less{s s1 s2:PS}(h:Reach s s1)(k:Le s1 s2):Le s s2:=by
 intro hb;obtain⟨h1,l⟩:=k hb;obtain⟨h2,p,e⟩:=h.2 h1;refine⟨h2,?_⟩;rw[e];simp;omega
def E6(s:PS):Nat:=if s.bad=0 then s.ts.length else 0
theorem Ee{s s':PS}(h:Reach s s'):E6 s'<=E6 s:=by
 unfold E6;split
 ·rename_i hb;obtain⟨h1,p,e⟩:=h.2 hb;rw[if_pos h1,e];simp
 ·exact Nat.zero_le _
theorem A74{s:PS}(h:WF s)(hb:s.bad=0):1<=E6 s:=by
 unfold E6;rw[if_pos hb];have:=(h.good hb).ne;cases hts:s.ts with
 | nil=>exact absurd hts this
 | cons x r=>simp
theorem Rv{s s':PS}(h:WF s)(hb:s.bad=0)(hl:Le s s'):E6 s'<E6 s:=by
 have:=A74 h hb;by_cases hb':s'.bad=0
 ·unfold E6;rw[if_pos hb',if_pos hb];exact(hl hb').2
 ·unfold E6;rw[if_neg hb'];exact this
theorem Pk{s:PS}(h:WF s)(hk:kT s≠0):s.bad=0:=by
 rcases Nat.eq_zero_or_pos s.bad with e|e
 ·exact e
 ·exact absurd (Ql (h.bad (by omega))) hk
theorem T7{s:PS}(h:WF s)(hk:kT s≠0):E6 (Aa s)<E6 s:=Rv h (Pk h hk) (Rb hk).less
theorem Ut(h:WF s)(hr:A7 n 7 0 .nil s=some r):Le s r.2:=by
 cases n with
 | zero=>exact absurd hr (Cc _ _ _ _ _)
 | succ n=>
  have hw:=Cq 20 h;exact(Rd (by decide) h).less.reach (Cj _ _ _ _ _ _ hw.1 (Te hr))
theorem O7{s s1:PS}(h:Reach s s1):Le s (Ah 25 s1):=h.less (Rd (by decide) h.1).less
theorem x8(h:WF s)(hr:A7 n 9 0 .nil s=some r):Le s r.2:=by
 cases n with
 | zero=>exact absurd hr (Cc _ _ _ _ _)
 | succ n=>
  have h0:=Reach.refl h;have ht:=I0 h;by_cases c1:kT s=5
  ·obtain⟨x,h1,e⟩:=Tl c1 hr;have Bm:=ht.trans (Cq 1 ht.1);have hw2:=Bm.trans (Cq 26 Bm.1);rw[e];exact O7 (hw2.trans (Cj _ _ _ _ _ _ hw2.1 h1))
  by_cases c2:kT s=6
  ·obtain⟨x,bl,h1,h2,h3⟩:=Tj c2 hr;have hx:=ht.trans (Cj _ _ _ _ _ _ ht.1 h1);have hb:=hx.less (Ut hx.1 h2);rcases h3 with⟨_,c,h4,e⟩|⟨_,e⟩
   ·have hbr:=hx.trans (Cj _ _ _ _ _ _ hx.1 h2);have hbt:=I0 hbr.1;have hc:=Cj _ _ _ _ _ _ hbt.1 h4;rw[e];exact hb.reach (hbt.trans hc)
   ·rw[e];exact hb
  by_cases c3:kT s=8
  ·obtain⟨x,bl,h1,h2,e⟩:=Tp c3 hr;have hx:=ht.trans (Cj _ _ _ _ _ _ ht.1 h1);have hb:=Ut hx.1 h2;rw[e];exact hx.less hb
  by_cases c4:kT s=9
  ·by_cases c5:kT (Aa s)=25
   ·rw[To c4 c5 hr];exact O7 ht
   ·obtain⟨x,h1,e⟩:=Tn c4 c5 hr;rw[e];exact O7 (ht.trans (Cj _ _ _ _ _ _ ht.1 h1))
  by_cases c5:kT s=10
  ·rw[Th c5 hr];exact O7 ht
  by_cases c6:kT s=11
  ·rw[Ti c6 hr];exact O7 ht
  by_cases c7:kT s=12
  ·obtain⟨x,h1,e⟩:=Tm c7 hr;rw[e];exact O7 (ht.trans (Cj _ _ _ _ _ _ ht.1 h1))
  obtain⟨x,h1,h2⟩:=S0 (by omega) hr;have hx:=h0.trans (Cj _ _ _ _ _ _ h h1);rcases h2 with⟨_,_,v,h3,e⟩|⟨_,_,v,h3,e⟩|⟨_,e⟩
  ·have hv:=hx.trans (I0 hx.1);rw[e];exact O7 (hv.trans (Cj _ _ _ _ _ _ hv.1 h3))
  ·have hv:=hx.trans (Pg hx.1);rw[e];exact O7 (hv.trans (Cj _ _ _ _ _ _ hv.1 h3))
  ·rw[e];exact O7 hx
theorem Rz(h:A7 (n+1) 11 0 .nil s=some r):∃p b,params n (Ah 18 (Ah 1 (Aa s)))=some p/\A7 n 7 0 .nil p.2=some b/\r=(nd ⟨20,(A6 (Aa s)).line,(A6 (Aa s)).s,0,p.1⟩ b.1,b.2):=by
 rw[A7,if_neg (by decide),if_neg (by decide),if_neg (by decide),if_neg (by decide),if_neg (by decide),if_neg (by decide),if_neg (by decide),if_neg (by decide),if_neg (by decide),if_neg (by decide),if_neg (by decide)]at h;obtain⟨p,h1,h2⟩:=bind_some h;obtain⟨b,h3,h4⟩:=bind_some h2;exact⟨p,b,h1,h3,(Option.some.inj h4).symm⟩
theorem A5q(h:WF s)(hr:A7 n 11 0 .nil s=some r):Le s r.2:=by
 cases n with
 | zero=>exact absurd hr (Cc _ _ _ _ _)
 | succ n=>
  obtain⟨p,b,h1,h2,e⟩:=Rz hr;have ht:=I0 h;have Bm:=ht.trans (Cq 1 ht.1);have hw2:=Bm.trans (Cq 18 Bm.1);have hw3:=hw2.trans (Td hw2.1 h1);have hb:=Ut hw3.1 h2;rw[e];exact hw3.less hb
theorem A8y:∀n acc s,WF s->E6 s<n->∃r,Ja n acc s=some r:=by
 intro n;induction n with
 | zero=>intro acc s _ hm;omega
 | succ n ih=>
  intro acc s h hm;rw[Ja];have h1:=Cq 1 h;split
  ·rename_i hk;exact ih _ _ (I0 h1.1).1 (by have:=T7 h1.1 (by omega);have:=Ee h1;omega)
  ·exact⟨_,rfl⟩
theorem A83{n:Nat}{s:PS}(h:WF s)(hm:E6 s<n):∃r,params n s=some r:=by
 unfold params;split
 ·exact⟨_,rfl⟩
 ·exact A8y _ _ _ h hm
def cost(t a:Nat):Nat:=if t=0 then 9-a else if t=1 then 1 else if t=2 then 2 else if t=3 then 1 else if t=4 then 1 else if t=5 then 10 else if t=6 then 1 else if t=7 then 12 else if t=8 then 11 else if t=9 then 10 else if t=10 then 14 else 13
theorem Gm{α β:Type}{o:Option α}{f:α->Option β}(h:∃x,o=some x)(k:∀x,o=some x->∃y,f x=some y):∃y,o.bind f=some y:=by
 obtain⟨x,e⟩:=h;obtain⟨y,e2⟩:=k x e;exact⟨y,by rw[e];exact e2⟩
theorem A88:∀n t a acc s,WF s->(t=0->a<=6)->(t=11->kT s≠0)->20*E6 s+cost t a<=n->∃r,A7 n t a acc s=some r:=by
 intro n;induction n with
 | zero=>
  intro t a acc s _ ha _ hm;exfalso;have:1<=cost t a:=by
   unfold cost;split
   ·rename_i e;have:=ha e;omega
   ·repeat' split
    all_goals omega
  omega
 | succ n ih=>
  intro t a acc s h ha hfn hm;rw[A7];have h0:=Reach.refl h;have ht:=I0 h;have go:∀{t1 a1:Nat} {acc1:BT A2} {s1:PS},Reach s s1->(t1=0->a1<=6)->t1≠11->20*E6 s1+cost t1 a1<=n->∃r,A7 n t1 a1 acc1 s1=some r:=fun h1 h2 h3 h4=>ih _ _ _ _ h1.1 h2 (fun e=>absurd e h3) h4;have rch:∀{t1 a1:Nat} {acc1:BT A2} {s1:PS} {x:BT A2×PS},Reach s s1->A7 n t1 a1 acc1 s1=some x->Reach s x.2/\E6 x.2<=E6 s1:=fun h1 h2=>⟨h1.trans (Cj _ _ _ _ _ _ h1.1 h2),Ee (Cj _ _ _ _ _ _ h1.1 h2)⟩;have c00:cost 0 0=9:=rfl;have c1:∀a,cost 1 a=1:=fun _=>rfl;have c2:∀a,cost 2 a=2:=fun _=>rfl;have c3:∀a,cost 3 a=1:=fun _=>rfl;have c4:∀a,cost 4 a=1:=fun _=>rfl;have c5:∀a,cost 5 a=10:=fun _=>rfl;have c6:∀a,cost 6 a=1:=fun _=>rfl;have c7:∀a,cost 7 a=12:=fun _=>rfl;have c8:∀a,cost 8 a=11:=fun _=>rfl;have c9:∀a,cost 9 a=10:=fun _=>rfl;have c10:∀a,cost 10 a=14:=fun _=>rfl;have c11:∀a,cost 11 a=13:=fun _=>rfl;have mt:kT s≠0->E6 (Aa s)<E6 s:=T7 h;by_cases t0:t=0
  ·rw[if_pos t0];subst t0;have ha':=ha rfl;have hc:cost 0 a=9-a:=rfl;by_cases a6:a=6
   ·rw[if_pos a6];exact go h0 (fun e=>absurd e (by decide)) (by decide) (by rw[c2];omega)
   ·rw[if_neg a6];have hc1:cost 0 (a+1)=9-(a+1):=rfl;refine Gm (go h0 (fun _=>by omega) (by decide) (by omega)) (fun x hx=>?_);obtain⟨k1,k2⟩:=rch h0 hx;exact go k1 (fun e=>absurd e (by decide)) (by decide) (by rw[c1];omega)
  rw[if_neg t0];by_cases t1:t=1
  ·rw[if_pos t1];subst t1;rw[c1]at hm;by_cases hk:rowOf (kT s)=a+1
   ·rw[if_pos hk];have Kr:kT s≠0:=by intro e;rw[e]at hk;exact absurd hk (by simp[rowOf])
    have:=mt Kr;have ha5:a+1<=6:=by
     rw[←hk];unfold rowOf;(repeat' split);all_goals omega
    have hc1:cost 0 (a+1)=9-(a+1):=rfl;refine Gm (go ht (fun _=>ha5) (by decide) (by omega)) (fun x hx=>?_);obtain⟨k1,k2⟩:=rch ht hx;exact go k1 (fun e=>absurd e (by decide)) (by decide) (by rw[c1];omega)
   ·rw[if_neg hk];exact⟨_,rfl⟩
  rw[if_neg t1];by_cases t2:t=2
  ·rw[if_pos t2];subst t2;rw[c2]at hm;by_cases d1:kT s=28
   ·rw[if_pos d1];have:=mt (by omega);exact Gm (go ht (fun e=>absurd e (by decide)) (by decide) (by rw[c2];omega)) (fun x hx=>⟨_,rfl⟩)
   rw[if_neg d1];by_cases d2:kT s=35
   ·rw[if_pos d2];have:=mt (by omega);exact Gm (go ht (fun e=>absurd e (by decide)) (by decide) (by rw[c2];omega)) (fun x hx=>⟨_,rfl⟩)
   rw[if_neg d2];refine Gm (go h0 (fun e=>absurd e (by decide)) (by decide) (by rw[c4];omega)) (fun x hx=>?_);obtain⟨k1,k2⟩:=rch h0 hx;exact go k1 (fun e=>absurd e (by decide)) (by decide) (by rw[c3];omega)
  rw[if_neg t2];by_cases t3:t=3
  ·rw[if_pos t3];subst t3;rw[c3]at hm;by_cases d1:kT s=22
   ·rw[if_pos d1];have:=mt (by omega);refine Gm (go ht (fun _=>by omega) (by decide) (by omega)) (fun x hx=>?_);obtain⟨k1,k2⟩:=rch ht hx;have k3:=Cq 23 k1.1;have:=Ee k3;exact go (k1.trans k3) (fun e=>absurd e (by decide)) (by decide) (by rw[c3];omega)
   ·rw[if_neg d1];exact⟨_,rfl⟩
  rw[if_neg t3];by_cases t4:t=4
  ·rw[if_pos t4];subst t4;rw[c4]at hm;by_cases d1:kT s=2
   ·rw[if_pos d1];exact⟨_,rfl⟩
   rw[if_neg d1];by_cases d2:kT s=3
   ·rw[if_pos d2];exact⟨_,rfl⟩
   rw[if_neg d2];by_cases d3:kT s=13
   ·rw[if_pos d3];exact⟨_,rfl⟩
   rw[if_neg d3];by_cases d4:kT s=14
   ·rw[if_pos d4];exact⟨_,rfl⟩
   rw[if_neg d4];by_cases d5:kT s=15
   ·rw[if_pos d5];exact⟨_,rfl⟩
   rw[if_neg d5];by_cases d6:kT s=1
   ·rw[if_pos d6];have:=mt (by omega);by_cases d7:kT (Aa s)=18
    ·rw[if_pos d7];have k3:=I0 ht.1;have:=Ee k3;exact Gm (go (ht.trans k3) (fun e=>absurd e (by decide)) (by decide) (by rw[c5];omega)) (fun x hx=>⟨_,rfl⟩)
    ·rw[if_neg d7];exact⟨_,rfl⟩
   rw[if_neg d6];by_cases d7:kT s=18
   ·rw[if_pos d7];have:=mt (by omega);exact Gm (go ht (fun _=>by omega) (by decide) (by omega)) (fun x hx=>⟨_,rfl⟩)
   rw[if_neg d7];by_cases d8:kT s=22
   ·rw[if_pos d8];have:=mt (by omega);exact Gm (go ht (fun e=>absurd e (by decide)) (by decide) (by rw[c5];omega)) (fun x hx=>⟨_,rfl⟩)
   rw[if_neg d8];have k3:=Cq 18 ht.1;have k4:=Ee k3;by_cases d9:kT s=16
   ·rw[if_pos d9];have:=mt (by omega);exact Gm (go (ht.trans k3) (fun _=>by omega) (by decide) (by omega)) (fun x hx=>⟨_,rfl⟩)
   rw[if_neg d9];by_cases d10:kT s=17
   ·rw[if_pos d10];have:=mt (by omega);refine Gm (go (ht.trans k3) (fun _=>by omega) (by decide) (by omega)) (fun x hx=>?_);obtain⟨j1,j2⟩:=rch (ht.trans k3) hx;have j3:=Cq 24 j1.1;have:=Ee j3;exact Gm (go (j1.trans j3) (fun _=>by omega) (by decide) (by omega)) (fun y hy=>⟨_,rfl⟩)
   rw[if_neg d10];exact⟨_,rfl⟩
  rw[if_neg t4];by_cases t5:t=5
  ·rw[if_pos t5];subst t5;rw[c5]at hm;by_cases d1:kT s=a
   ·rw[if_pos d1];exact⟨_,rfl⟩
   ·rw[if_neg d1];refine Gm (go h0 (fun _=>by omega) (by decide) (by omega)) (fun x hx=>?_);obtain⟨k1,k2⟩:=rch h0 hx;exact go k1 (fun e=>absurd e (by decide)) (by decide) (by rw[c6];omega)
  rw[if_neg t5];by_cases t6:t=6
  ·rw[if_pos t6];subst t6;rw[c6]at hm;by_cases d1:kT s=24
   ·rw[if_pos d1];have:=mt (by omega);refine Gm (go ht (fun _=>by omega) (by decide) (by omega)) (fun x hx=>?_);obtain⟨k1,k2⟩:=rch ht hx;exact go k1 (fun e=>absurd e (by decide)) (by decide) (by rw[c6];omega)
   ·rw[if_neg d1];exact⟨_,rfl⟩
  rw[if_neg t6];by_cases t7:t=7
  ·rw[if_pos t7];subst t7;rw[c7]at hm;have k3:=Cq 20 h;have:=Ee k3;exact go k3 (fun e=>absurd e (by decide)) (by decide) (by rw[c8];omega)
  rw[if_neg t7];by_cases t8:t=8
  ·rw[if_pos t8];subst t8;rw[c8]at hm;by_cases d1:kT s=21
   ·rw[if_pos d1];exact⟨_,rfl⟩
   rw[if_neg d1];by_cases d2:s.bad≠0
   ·rw[if_pos d2];exact⟨_,rfl⟩
   rw[if_neg d2];refine Gm (go h0 (fun e=>absurd e (by decide)) (by decide) (by rw[c9];omega)) (fun x hx=>?_);obtain⟨k1,k2⟩:=rch h0 hx;have:=Rv h (by omega) (x8 h hx);exact go k1 (fun e=>absurd e (by decide)) (by decide) (by rw[c8];omega)
  rw[if_neg t8];by_cases t9:t=9
  ·rw[if_pos t9];subst t9;rw[c9]at hm;by_cases d1:kT s=5
   ·rw[if_pos d1];have:=mt (by omega);have k1:=Cq 1 ht.1;have k2:=Cq 26 k1.1;have:=Ee k1;have:=Ee k2;exact Gm (go ((ht.trans k1).trans k2) (fun _=>by omega) (by decide) (by omega)) (fun x hx=>⟨_,rfl⟩)
   rw[if_neg d1];by_cases d2:kT s=6
   ·rw[if_pos d2];have:=mt (by omega);refine Gm (go ht (fun _=>by omega) (by decide) (by omega)) (fun x hx=>?_);obtain⟨k1,k2⟩:=rch ht hx;refine Gm (go k1 (fun e=>absurd e (by decide)) (by decide) (by rw[c7];omega)) (fun y hy=>?_);obtain⟨k3,k4⟩:=rch k1 hy;by_cases d3:kT y.2=7
    ·rw[if_pos d3];have k5:=I0 k3.1;have:=Ee k5;exact Gm (go (k3.trans k5) (fun e=>absurd e (by decide)) (by decide) (by rw[c7];omega)) (fun z hz=>⟨_,rfl⟩)
    ·rw[if_neg d3];exact⟨_,rfl⟩
   rw[if_neg d2];by_cases d3:kT s=8
   ·rw[if_pos d3];have:=mt (by omega);refine Gm (go ht (fun _=>by omega) (by decide) (by omega)) (fun x hx=>?_);obtain⟨k1,k2⟩:=rch ht hx;exact Gm (go k1 (fun e=>absurd e (by decide)) (by decide) (by rw[c7];omega)) (fun y hy=>⟨_,rfl⟩)
   rw[if_neg d3];by_cases d4:kT s=9
   ·rw[if_pos d4];have:=mt (by omega);by_cases d5:kT (Aa s)=25
    ·rw[if_pos d5];exact⟨_,rfl⟩
    ·rw[if_neg d5];exact Gm (go ht (fun _=>by omega) (by decide) (by omega)) (fun x hx=>⟨_,rfl⟩)
   rw[if_neg d4];by_cases d5:kT s=10
   ·rw[if_pos d5];exact⟨_,rfl⟩
   rw[if_neg d5];by_cases d6:kT s=11
   ·rw[if_pos d6];exact⟨_,rfl⟩
   rw[if_neg d6];by_cases d7:kT s=12
   ·rw[if_pos d7];have:=mt (by omega);exact Gm (go ht (fun _=>by omega) (by decide) (by omega)) (fun x hx=>⟨_,rfl⟩)
   rw[if_neg d7];refine Gm (go h0 (fun _=>by omega) (by decide) (by omega)) (fun x hx=>?_);obtain⟨k1,k2⟩:=rch h0 hx;by_cases d8:Lh x.1=true/\kT x.2=26
   ·rw[if_pos d8];have k3:=I0 k1.1;have:=Ee k3;exact Gm (go (k1.trans k3) (fun _=>by omega) (by decide) (by omega)) (fun y hy=>⟨_,rfl⟩)
   rw[if_neg d8];by_cases d9:kT x.2=26
   ·rw[if_pos d9];have k3:=Pg k1.1;have:=Ee k3;exact Gm (go (k1.trans k3) (fun _=>by omega) (by decide) (by omega)) (fun y hy=>⟨_,rfl⟩)
   ·rw[if_neg d9];exact⟨_,rfl⟩
  rw[if_neg t9];by_cases t10:t=10
  ·rw[if_pos t10];subst t10;rw[c10]at hm;by_cases d1:kT s=0
   ·rw[if_pos d1];exact⟨_,rfl⟩
   rw[if_neg d1];have hb:=Pk h d1;by_cases d2:kT s=4
   ·rw[if_pos d2];refine Gm (ih _ _ _ _ h (fun e=>absurd e (by decide)) (fun _=>d1) (by rw[c11];omega)) (fun x hx=>?_);obtain⟨k1,k2⟩:=rch h0 hx;have:=Rv h hb (A5q h hx);exact go k1 (fun e=>absurd e (by decide)) (by decide) (by rw[c10];omega)
   ·rw[if_neg d2];refine Gm (go h0 (fun e=>absurd e (by decide)) (by decide) (by rw[c9];omega)) (fun x hx=>?_);obtain⟨k1,k2⟩:=rch h0 hx;have:=Rv h hb (x8 h hx);exact go k1 (fun e=>absurd e (by decide)) (by decide) (by rw[c10];omega)
  rw[if_neg t10];have hc:cost t a=13:=by unfold cost;simp only[if_neg t0,if_neg t1,if_neg t2,if_neg t3,if_neg t4,if_neg t5,if_neg t6,if_neg t7,if_neg t8,if_neg t9,if_neg t10]
  have k1:=Cq 1 ht.1;have k2:=Cq 18 k1.1;have:=Ee k1;have:=Ee k2;have:=Ee ht;refine Gm (A83 k2.1 (by omega)) (fun p hp=>?_);have k3:=Td k2.1 hp;have:=Ee k3;exact Gm (go (((ht.trans k1).trans k2).trans k3) (fun e=>absurd e (by decide)) (by decide) (by rw[c7];omega)) (fun x hx=>⟨_,rfl⟩)
theorem A1z(h:WF s)(hr:A7 n 4 0 .nil s=some r):Le s r.2:=by
 by_cases k0:kT s=0
 ·cases n with
  | zero=>exact absurd hr (Cc _ _ _ _ _)
  | succ n=>
   rw[Ns (by omega) (by omega) (by omega) (by omega) (by omega) (by omega) (by omega) (by omega) (by omega) (by omega) hr];exact fun hb=>absurd hb (Ot h)
 ·cases n with
  | zero=>exact absurd hr (Cc _ _ _ _ _)
  | succ n=>
   have ht:=I0 h;have hl:=(Rb k0).less;have up:∀{s1:PS},Reach (Aa s) s1->Le s s1:=fun h1=>hl.reach h1;have h0:=Reach.refl ht.1;by_cases k1:kT s=1
   ·by_cases k2:kT (Aa s)=18
    ·obtain⟨l,h1,e⟩:=Pt k1 k2 hr;have h2:=I0 ht.1;have h3:=Cj _ _ _ _ _ _ h2.1 h1;rw[e];exact up (h2.trans h3)
    ·rw[Q0 k1 k2 hr];exact up h0
   by_cases k2:kT s=18
   ·obtain⟨x,h1,e⟩:=Pw k2 hr;have hx:=Cj _ _ _ _ _ _ ht.1 h1;rw[e];exact up (hx.trans (Cq 19 hx.1))
   by_cases k3:kT s=2
   ·rw[Px k3 hr];exact up h0
   by_cases k4:kT s=3
   ·rw[Q5 k4 hr];exact up h0
   by_cases k5:kT s=13
   ·rw[Q6 k5 hr];exact up h0
   by_cases k6:kT s=14
   ·rw[Pu k6 hr];exact up h0
   by_cases k7:kT s=15
   ·rw[Q3 k7 hr];exact up h0
   by_cases k8:kT s=22
   ·obtain⟨l,h1,e⟩:=Pr k8 hr;have hx:=Cj _ _ _ _ _ _ ht.1 h1;rw[e];exact up hx
   by_cases k9:kT s=16
   ·obtain⟨l,h1,e⟩:=Py k9 hr;have h2:=Cq 18 ht.1;have hx:=h2.trans (Cj _ _ _ _ _ _ h2.1 h1);rw[e];exact up (hx.trans (Cq 19 hx.1))
   by_cases k10:kT s=17
   ·obtain⟨l,m,h1,h2,e⟩:=Q4 k10 hr;have h3:=Cq 18 ht.1;have h4:=h3.trans (Cj _ _ _ _ _ _ h3.1 h1);have h5:=h4.trans (Cq 24 h4.1);have h6:=h5.trans (Cj _ _ _ _ _ _ h5.1 h2);rw[e];exact up (h6.trans (Cq 19 h6.1))
   rw[Ns k3 k4 k5 k6 k7 k1 k2 k8 k9 k10 hr];exact fun hb=>absurd hb (Ot h)
theorem Ad9(h:WF s)(hr:A7 n 2 0 .nil s=some r):Le s r.2:=by
 cases n with
 | zero=>exact absurd hr (Cc _ _ _ _ _)
 | succ n=>
  have ht:=I0 h;by_cases k1:kT s=28
  ·obtain⟨x,h1,e⟩:=Q2 k1 hr;have hx:=Cj _ _ _ _ _ _ ht.1 h1;rw[e];exact(Rb (by omega)).less.reach hx
  by_cases k2:kT s=35
  ·obtain⟨x,h1,e⟩:=Q1 k2 hr;have hx:=Cj _ _ _ _ _ _ ht.1 h1;rw[e];exact(Rb (by omega)).less.reach hx
  obtain⟨x,h1,h2⟩:=P6 k1 k2 hr;have hx:=Cj _ _ _ _ _ _ h h1;exact(A1z h h1).reach (Cj _ _ _ _ _ _ hx.1 h2)
theorem V2:∀n a s r,WF s->A7 n 0 a .nil s=some r->Le s r.2:=by
 intro n;induction n with
 | zero=>intro a s r _ hr;exact absurd hr (Cc _ _ _ _ _)
 | succ n ih=>
  intro a s r h hr;by_cases a6:a=6
  ·subst a6;exact Ad9 h (P4 hr)
  ·obtain⟨x,h1,h2⟩:=P3 a6 hr;have hx:=Cj _ _ _ _ _ _ h h1;exact(ih _ _ _ h h1).reach (Cj _ _ _ _ _ _ hx.1 h2)
def Oq(kd:Nat):Prop:=kd<=14\/(127<=kd/\kd<=140)
theorem A71:∀n a acc s r,Oq (Dd acc).kd->A7 n 1 a acc s=some r->Oq (Dd r.1).kd:=by
 intro n;induction n with
 | zero=>intro a acc s r _ hr;exact absurd hr (Cc _ _ _ _ _)
 | succ n ih=>
  intro a acc s r h hr;by_cases hk:rowOf (kT s)=a+1
  ·obtain⟨y,h1,h2⟩:=Pz hk hr;refine ih _ _ _ _ (.inr ?_) h2;show 127<=100+kT s/\100+kT s<=140;unfold rowOf at hk;repeat' split at hk
   all_goals omega
  ·rw[P5 hk hr];exact h
theorem A63:∀n acc s r,Oq (Dd acc).kd->A7 n 3 0 acc s=some r->Oq (Dd r.1).kd:=by
 intro n;induction n with
 | zero=>intro acc s r _ hr;exact absurd hr (Cc _ _ _ _ _)
 | succ n ih=>
  intro acc s r h hr;by_cases hk:kT s=22
  ·obtain⟨y,h1,h2⟩:=Qz hk hr;refine ih _ _ _ ?_ h2;exact .inl (show(12:Nat)<=14 by decide)
  ·rw[R1 hk hr];exact h
theorem A1x(hr:A7 n 4 0 .nil s=some r):Oq (Dd r.1).kd:=by
 cases n with
 | zero=>exact absurd hr (Cc _ _ _ _ _)
 | succ n=>
  by_cases k1:kT s=1
  ·by_cases k2:kT (Aa s)=18
   ·obtain⟨l,_,e⟩:=Pt k1 k2 hr;rw[e];exact .inl (show(7:Nat)<=14 by decide)
   ·rw[Q0 k1 k2 hr];exact .inl (show(6:Nat)<=14 by decide)
  by_cases k2:kT s=18
  ·obtain⟨x,h1,e⟩:=Pw k2 hr;rw[e];exact .inl (show(8:Nat)<=14 by decide)
  by_cases k3:kT s=2
  ·rw[Px k3 hr];exact .inl (show(1:Nat)<=14 by decide)
  by_cases k4:kT s=3
  ·rw[Q5 k4 hr];exact .inl (show(2:Nat)<=14 by decide)
  by_cases k5:kT s=13
  ·rw[Q6 k5 hr];exact .inl (show(3:Nat)<=14 by decide)
  by_cases k6:kT s=14
  ·rw[Pu k6 hr];exact .inl (show(4:Nat)<=14 by decide)
  by_cases k7:kT s=15
  ·rw[Q3 k7 hr];exact .inl (show(5:Nat)<=14 by decide)
  by_cases k8:kT s=22
  ·obtain⟨l,_,e⟩:=Pr k8 hr;rw[e];exact .inl (show(9:Nat)<=14 by decide)
  by_cases k9:kT s=16
  ·obtain⟨l,_,e⟩:=Py k9 hr;rw[e];exact .inl (show(10:Nat)<=14 by decide)
  by_cases k10:kT s=17
  ·obtain⟨l,m,_,_,e⟩:=Q4 k10 hr;rw[e];exact .inl (show(11:Nat)<=14 by decide)
  rw[Ns k3 k4 k5 k6 k7 k1 k2 k8 k9 k10 hr];exact .inl (show(0:Nat)<=14 by decide)
theorem Ad8(hr:A7 n 2 0 .nil s=some r):Oq (Dd r.1).kd:=by
 cases n with
 | zero=>exact absurd hr (Cc _ _ _ _ _)
 | succ n=>
  by_cases k1:kT s=28
  ·obtain⟨x,_,e⟩:=Q2 k1 hr;rw[e];exact .inl (show(13:Nat)<=14 by decide)
  by_cases k2:kT s=35
  ·obtain⟨x,_,e⟩:=Q1 k2 hr;rw[e];exact .inl (show(14:Nat)<=14 by decide)
  obtain⟨x,h1,h2⟩:=P6 k1 k2 hr;exact A63 _ _ _ _ (A1x h1) h2
theorem V1:∀n a s r,A7 n 0 a .nil s=some r->Oq (Dd r.1).kd:=by
 intro n;induction n with
 | zero=>intro a s r hr;exact absurd hr (Cc _ _ _ _ _)
 | succ n ih=>
  intro a s r hr;by_cases a6:a=6
  ·subst a6;exact Ad8 (P4 hr)
  ·obtain⟨x,h1,h2⟩:=P3 a6 hr;exact A71 _ _ _ _ _ (ih _ _ _ h1) h2
end
section
open Go.Deep (BT)
def nest:List Tk->Int->Nat
 | [],_=>0
 | t::r,o=>
  if t.k=18\/t.k=20\/t.k=22 then(if 30<=o then t.line else nest r (o+1))
  else if t.k=19\/t.k=21\/t.k=23 then nest r (o-1)
  else nest r o
abbrev Nm:=List UInt8
abbrev B3:=Nat×Nat
def Bu(is:Bool)(code line:Nat)(f:B3):B3:=if is&&f.1==0 then(code,line) else f
def Ph:List (Nm×Nat)->Nm->Option Nat
 | [],_=>none
 | f::r,s=>if f.1=s then some f.2 else Ph r s
def Ky(fns:List (Nm×Nat))(s:Nm)(n:Nat):Bool:=match Ph fns s with
 | none=>true
 | some m=>m !=n
def Ag(fns:List (Nm×Nat)):BT A2->List Nm->List Nm->Nat->Bool->B3->List Nm×B3
 | .nil,_,cur,_,_,f=>(cur,f)
 | .node _ _ l ch sib,outer,cur,wh,inn,f=>
  if l.kd=31 then Ag fns sib outer cur wh inn (Ag fns ch (outer++cur) [] wh inn f).2
  else if l.kd=32 then Ag fns sib outer cur wh inn (Ag fns ch (outer++cur) [] (wh+1) inn f).2
  else if l.kd=21 then
   Ag fns sib outer ((Ag fns ch outer cur wh inn (Bu (decide (l.s∈cur)) 3 l.line f)).1++[l.s]) wh inn (Ag fns ch outer cur wh inn (Bu (decide (l.s∈cur)) 3 l.line f)).2
  else
   let f1:=if l.kd=6\/l.kd=28 then Bu (!decide (l.s∈outer++cur)) 3 l.line f
    else if l.kd=7 then Bu (Ky fns l.s (A8 ch)) 3 l.line f
    else if l.kd=25\/l.kd=26 then Bu (wh==0) 4 l.line f
    else if l.kd=24 then Bu (!inn) 4 l.line f
    else f
   Ag fns sib outer (Ag fns ch outer cur wh inn f1).1 wh inn (Ag fns ch outer cur wh inn f1).2
def Ge:List (Nat×Nm)->List Nm->B3->List Nm×B3
 | [],cur,f=>(cur,f)
 | p::r,cur,f=>Ge r (cur++[p.2]) (Bu (decide (p.2∈cur)) 3 p.1 f)
def Dj(fns:List (Nm×Nat)):BT A2->List Nm->List Nm->B3->B3
 | .nil,_,_,f=>f
 | .node x y l ch sib,seen,cur,f=>
  if l.kd=20 then
   let f1:=Bu (decide (l.s∈seen)) 3 l.line f
   let p:=Ge l.ps [] f1
   Dj fns sib (seen++[l.s]) cur (Ag fns ch cur p.1 0 true p.2).2
  else Dj fns sib seen (Ag fns (.node x y l ch .nil) [] cur 0 false f).1 (Ag fns (.node x y l ch .nil) [] cur 0 false f).2
def Bf:BT A2->List (Nm×Nat)
 | .nil=>[]
 | .node _ _ l _ sib=>if l.kd=20 then(l.s,l.ps.length)::Bf sib else Bf sib
theorem A0f(is:Bool)(code line:Nat)(f:B3)(h:f.1≠0):Bu is code line f=f:=by
 unfold Bu;rw[if_neg];simp[h]
theorem Sb(fns:List (Nm×Nat))(x y:Nat)(l:A2)(ch sib:BT A2)(outer cur:List Nm)(wh:Nat)(inn:Bool)(f:B3) :
  Ag fns (.node x y l ch sib) outer cur wh inn f=Ag fns sib outer (Ag fns (.node x y l ch .nil) outer cur wh inn f).1 wh inn (Ag fns (.node x y l ch .nil) outer cur wh inn f).2:=by
 by_cases h1:l.kd=31
 ·simp only[Ag,if_pos h1]
 ·by_cases h2:l.kd=32
  ·simp only[Ag,if_neg h1,if_pos h2]
  ·by_cases h3:l.kd=21
   ·simp only[Ag,if_neg h1,if_neg h2,if_pos h3]
   ·simp only[Ag,if_neg h1,if_neg h2,if_neg h3]
def J1(f:BT A2):Prop:=A8 f<=1/\((Dd f).kd=12->A8 (M6 f)<=2)
theorem J1.leaf{l:A2}{c:BT A2}(h:l.kd≠12):J1 (nd l c):=⟨Nat.le_refl _,fun e=>absurd e h⟩
theorem A7x:J1 .nil:=⟨Nat.zero_le _,fun e=>absurd (show(0:Nat)=12 from e) (by decide)⟩
theorem A7w:∀n a acc s r,J1 acc->A7 n 1 a acc s=some r->J1 r.1:=by
 intro n;induction n with
 | zero=>intro a acc s r _ hr;exact absurd hr (Cc _ _ _ _ _)
 | succ n ih=>
  intro a acc s r h hr;by_cases hk:rowOf (kT s)=a+1
  ·obtain⟨y,h1,h2⟩:=Pz hk hr;refine ih _ _ _ _ ?_ h2;exact J1.leaf (show 100+kT s≠12 by omega)
  ·rw[P5 hk hr];exact h
theorem A7v{n:Nat}{s:PS}{r:BT A2×PS}(hr:A7 n 4 0 .nil s=some r):J1 r.1:=by
 cases n with
 | zero=>exact absurd hr (Cc _ _ _ _ _)
 | succ n=>
  by_cases k1:kT s=1
  ·by_cases k2:kT (Aa s)=18
   ·obtain⟨l,_,e⟩:=Pt k1 k2 hr;rw[e];exact J1.leaf (show(7:Nat)≠12 by decide)
   ·rw[Q0 k1 k2 hr];exact J1.leaf (show(6:Nat)≠12 by decide)
  by_cases k2:kT s=18
  ·obtain⟨x,h1,e⟩:=Pw k2 hr;rw[e];exact J1.leaf (show(8:Nat)≠12 by decide)
  by_cases k3:kT s=2
  ·rw[Px k3 hr];exact J1.leaf (show(1:Nat)≠12 by decide)
  by_cases k4:kT s=3
  ·rw[Q5 k4 hr];exact J1.leaf (show(2:Nat)≠12 by decide)
  by_cases k5:kT s=13
  ·rw[Q6 k5 hr];exact J1.leaf (show(3:Nat)≠12 by decide)
  by_cases k6:kT s=14
  ·rw[Pu k6 hr];exact J1.leaf (show(4:Nat)≠12 by decide)
  by_cases k7:kT s=15
  ·rw[Q3 k7 hr];exact J1.leaf (show(5:Nat)≠12 by decide)
  by_cases k8:kT s=22
  ·obtain⟨l,_,e⟩:=Pr k8 hr;rw[e];exact J1.leaf (show(9:Nat)≠12 by decide)
  by_cases k9:kT s=16
  ·obtain⟨l,_,e⟩:=Py k9 hr;rw[e];exact J1.leaf (show(10:Nat)≠12 by decide)
  by_cases k10:kT s=17
  ·obtain⟨l,m,_,_,e⟩:=Q4 k10 hr;rw[e];exact J1.leaf (show(11:Nat)≠12 by decide)
  rw[Ns k3 k4 k5 k6 k7 k1 k2 k8 k9 k10 hr];exact A7x
theorem A7u:∀n,(∀a s r,A7 n 0 a .nil s=some r->J1 r.1)/\(∀s r,A7 n 2 0 .nil s=some r->J1 r.1)/\(∀acc s r,J1 acc->A7 n 3 0 acc s=some r->J1 r.1):=by
 intro n;induction n with
 | zero=>exact⟨fun a s r hr=>absurd hr (Cc _ _ _ _ _),fun s r hr=>absurd hr (Cc _ _ _ _ _),fun acc s r _ hr=>absurd hr (Cc _ _ _ _ _)⟩
 | succ n ih=>
  refine⟨fun a s r hr=>?_,fun s r hr=>?_,fun acc s r h hr=>?_⟩
  ·by_cases a6:a=6
   ·subst a6;exact ih.2.1 _ _ (P4 hr)
   ·obtain⟨x,h1,h2⟩:=P3 a6 hr;exact A7w _ _ _ _ _ (ih.1 _ _ _ h1) h2
  ·by_cases k1:kT s=28
   ·obtain⟨x,_,e⟩:=Q2 k1 hr;rw[e];exact J1.leaf (show(13:Nat)≠12 by decide)
   by_cases k2:kT s=35
   ·obtain⟨x,_,e⟩:=Q1 k2 hr;rw[e];exact J1.leaf (show(14:Nat)≠12 by decide)
   obtain⟨x,h1,h2⟩:=P6 k1 k2 hr;exact ih.2.2 _ _ _ (A7v h1) h2
  ·by_cases hk:kT s=22
   ·obtain⟨y,h1,h2⟩:=Qz hk hr;refine ih.2.2 _ _ _ ?_ h2;have h3:=ih.1 _ _ _ h1;refine⟨Nat.le_refl _,fun _=>?_⟩;show A8 (B6 acc y.1)<=2;rw[Mr];have:=h.1;have:=h3.1;omega
   ·rw[R1 hk hr];exact h
def bsize:BT A2->Nat
 | .nil=>0
 | .node _ _ l c r=>1+l.ps.length+bsize c+bsize r
def Dq:BT A2->Prop
 | .nil=>True
 | .node _ _ l _ r=>l.kd≠32/\Dq r
def Ek:BT A2->Prop
 | .nil=>True
 | .node _ _ l c r=>(l.kd=8->A8 c=1)/\(l.kd=23->∃e b,c=B6 e (nd (Ao 32 0) b)/\A8 e=1/\Dq e)/\(l.kd≠23->Dq c)/\Ek c/\Ek r
theorem Mv:∀f g:BT A2,bsize (B6 f g)=bsize f+bsize g:=by
 intro f;induction f with
 | nil=>intro g;simp[B6,bsize]
 | node x y l c r _ ih=>intro g;simp only[B6,bsize,ih];omega
theorem Dq.app:∀f g:BT A2,Dq f->Dq g->Dq (B6 f g):=by
 intro f;induction f with
 | nil=>intro g _ h;exact h
 | node x y l c r _ ih=>intro g h1 h2;exact⟨h1.1,ih g h1.2 h2⟩
theorem Ek.app:∀f g:BT A2,Ek f->Ek g->Ek (B6 f g):=by
 intro f;induction f with
 | nil=>intro g _ h;exact h
 | node x y l c r _ ih=>intro g h1 h2;exact⟨h1.1,h1.2.1,h1.2.2.1,h1.2.2.2.1,ih g h1.2.2.2.2 h2⟩
theorem Na{l:A2}{c:BT A2}(h8:l.kd=8->A8 c=1)(h23:l.kd≠23)(hc:Ek c)(ht:Dq c):Ek (nd l c):=⟨h8,fun e=>absurd e h23,fun _=>ht,hc,trivial⟩
theorem Nr{l:A2}{c:BT A2}(h:l.kd≠32):Dq (nd l c):=⟨h,trivial⟩
theorem B8(l:A2)(c:BT A2):bsize (nd l c)=1+l.ps.length+bsize c:=by simp[nd,bsize]
theorem T8{s:PS}{k:Nat}(hk:k≠0)(h:WF s)(hb:(Ah k s).bad=0):E6 (Ah k s)<E6 s:=Rv h (Rd hk h hb).1 (Rd hk h).less
theorem Gh{s s':PS}(h:Reach s s')(hb:s'.bad=0):s.bad=0:=(h.2 hb).1
theorem A8w:∀n acc s r,WF s->Ja n acc s=some r->r.2.bad=0->r.1.length+2*E6 r.2<=acc.length+2*E6 s:=by
 intro n;induction n with
 | zero=>intro acc s r _ hr;rw[Ja]at hr;cases hr
 | succ n ih=>
  intro acc s r h hr hb;rw[Ja]at hr;have h1:=Cq 1 h;by_cases hk:kT (Ah 1 s)=24
  ·rw[if_pos hk]at hr;have h2:=I0 h1.1;have:=ih _ _ _ h2.1 hr hb;have hg:=Pk h1.1 (show kT (Ah 1 s)≠0 by omega);have:=T8 (by decide) h hg;have:=Ee h2;simp only[List.length_append,List.length_singleton]at *;omega
  ·rw[if_neg hk]at hr;have e:=(Option.some.inj hr).symm;rw[e]at hb ⊢;have h2:=Cq 19 h1.1;have:=T8 (by decide) h (Gh h2 hb);have:=Ee h2;simp only[List.length_append,List.length_singleton];omega
theorem A82{n:Nat}{s:PS}{r:List (Nat×List UInt8)×PS}(h:WF s)(hr:params n s=some r)(hb:r.2.bad=0):r.1.length+2*E6 r.2<=2*E6 s:=by
 unfold params at hr;split at hr
 ·have e:=(Option.some.inj hr).symm;rw[e];have:=Ee (I0 h);simp;omega
 ·have:=A8w _ _ _ _ h hr hb;simpa using this
def Nc(t:Nat):Prop:=t=0\/t=2\/t=4\/t=9\/t=11
def Dg(t:Nat):Prop:=t=1\/t=3
theorem Ab5{x v:BT A2}(hx:Ek x)(h1:A8 x=1)(hv:Ek v)(hvt:Dq v)(hc:Lh x=true):Ek (setNode x v)/\Dq (setNode x v)/\bsize (setNode x v)<=bsize x+bsize v/\A8 (setNode x v)=1:=by
 cases x with
 | nil=>simp[A8]at h1
 | node i j l c r=>
  by_cases h6:l.kd=6
  ·have e:setNode (.node i j l c r) v=nd ⟨28,l.line,l.s,0,[]⟩ v:=by unfold setNode;rw[if_pos (by exact h6)];rfl
   rw[e];refine⟨Na (fun e=>absurd (show(28:Nat)=8 from e) (by decide)) (show(28:Nat)≠23 by decide) hv hvt,Nr (show(28:Nat)≠32 by decide),?_,rfl⟩;rw[B8];simp[bsize];omega
  ·have e:setNode (.node i j l c r) v=nd (Ao 29 l.line) (B6 c v):=by unfold setNode;rw[if_neg (by exact h6)];rfl
   have h12:l.kd=12:=by
    unfold Lh at hc;simp only[Dd,Bool.or_eq_true,beq_iff_eq]at hc;omega
   rw[e];refine⟨Na (fun e=>absurd (show(29:Nat)=8 from e) (by decide)) (show(29:Nat)≠23 by decide) (Ek.app _ _ hx.2.2.2.1 hv) (Dq.app _ _ (hx.2.2.1 (by omega)) hvt),Nr (show(29:Nat)≠32 by decide),?_,rfl⟩;rw[B8,Mv];simp[bsize,Ao];omega
def Fit(t:Nat)(acc:BT A2)(s:PS)(r:BT A2×PS):Prop:=Ek r.1/\Dq r.1/\bsize r.1+2*E6 r.2<=bsize acc+2*E6 s/\(Nc t\/Dg t->A8 r.1=1)
theorem Fit.leaf{t:Nat}{acc:BT A2}{s s':PS}{l:A2}(h8:l.kd≠8)(h23:l.kd≠23)(h32:l.kd≠32)(hp:l.ps=[])(hm:1+2*E6 s'<=2*E6 s):Fit t acc s (nd l .nil,s'):=by
 refine⟨Na (fun e=>absurd e h8) h23 trivial trivial,Nr h32,?_,fun _=>rfl⟩;show bsize (nd l .nil)+2*E6 s'<=_;rw[B8,hp];simp[bsize];omega
theorem Fit.wrap{t:Nat}{acc c:BT A2}{s s':PS}{l:A2}(h8:l.kd=8->A8 c=1)(h23:l.kd≠23)(h32:l.kd≠32)(hp:l.ps=[])(hc:Ek c)(ht:Dq c)(hm:1+bsize c+2*E6 s'<=bsize acc+2*E6 s):Fit t acc s (nd l c,s'):=by
 refine⟨Na h8 h23 hc ht,Nr h32,?_,fun _=>rfl⟩;show bsize (nd l c)+2*E6 s'<=_;rw[B8,hp];simp;omega
theorem A85:∀n t a acc s r,WF s->A7 n t a acc s=some r->r.2.bad=0->Ek acc->Dq acc->(Dg t->A8 acc=1)->Fit t acc s r:=by
 intro n;induction n with
 | zero=>intro t a acc s r _ hr;exact absurd hr (Cc _ _ _ _ _)
 | succ n ih=>
  intro t a acc s r h hr hb hsa hta hac;have ht:=I0 h;have mt:kT s≠0->E6 (Aa s)<E6 s:=T7 h;have sub:∀{t1 a1:Nat} {s1:PS} {x:BT A2×PS},¬Dg t1->WF s1->A7 n t1 a1 .nil s1=some x->x.2.bad=0->Fit t1 .nil s1 x:=fun h1 h2 h3 h4=>ih _ _ _ _ _ h2 h3 h4 trivial trivial (fun e=>absurd e h1);have b0:bsize (.nil:BT A2)=0:=rfl;by_cases t0:t=0
  ·subst t0;by_cases a6:a=6
   ·subst a6;rw[A7,if_pos rfl,if_pos rfl]at hr;have f:=sub (by unfold Dg;omega) h hr hb;exact⟨f.1,f.2.1,by have:=f.2.2.1;omega,fun _=>f.2.2.2 (.inl (.inr (.inl rfl)))⟩
   ·rw[A7,if_pos rfl,if_neg a6]at hr;obtain⟨x,k1,k2⟩:=bind_some hr;have hx:=Cj _ _ _ _ _ _ h k1;have hy:=Cj _ _ _ _ _ _ hx.1 k2;have f:=sub (by unfold Dg;omega) h k1 (Gh hy hb);have f2:=ih _ _ _ _ _ hx.1 k2 hb f.1 f.2.1 (fun _=>f.2.2.2 (.inl (.inl rfl)));exact⟨f2.1,f2.2.1,by have:=f.2.2.1;have:=f2.2.2.1;omega,fun _=>f2.2.2.2 (.inr (.inl rfl))⟩
  by_cases t1:t=1
  ·subst t1;by_cases hk:rowOf (kT s)=a+1
   ·obtain⟨y,k1,k2⟩:=Pz hk hr;have Kr:kT s≠0:=by intro e;rw[e]at hk;exact absurd hk (by simp[rowOf])
    have hy:=Cj _ _ _ _ _ _ ht.1 k1;have hz:=Cj _ _ _ _ _ _ hy.1 k2;have f:=sub (by unfold Dg;omega) ht.1 k1 (Gh hz hb);have Ad:Ek (nd (Ao (100+kT s) (A6 s).line) (B6 acc y.1)):=Na (fun e=>absurd (show 100+kT s=8 from e) (by omega)) (show 100+kT s≠23 by omega) (Ek.app _ _ hsa f.1) (Dq.app _ _ hta f.2.1);have f2:=ih _ _ _ _ _ hy.1 k2 hb Ad (Nr (show 100+kT s≠32 by omega)) (fun _=>rfl);refine⟨f2.1,f2.2.1,?_,fun _=>f2.2.2.2 (.inr (.inl rfl))⟩;have h1:=f.2.2.1;have h2:=f2.2.2.1;rw[B8,Mv]at h2;have:=mt Kr;simp[Ao]at h2;omega
   ·rw[P5 hk hr];exact⟨hsa,hta,Nat.le_refl _,fun _=>hac (.inl rfl)⟩
  by_cases t2:t=2
  ·subst t2;rw[A7,if_neg (by decide),if_neg (by decide),if_pos rfl]at hr;by_cases d1:kT s=28
   ·rw[if_pos d1]at hr;obtain⟨x,k1,k2⟩:=bind_some hr;have e:=(Option.some.inj k2).symm;subst e;have f:=sub (by unfold Dg;omega) ht.1 k1 hb;exact Fit.wrap (fun e=>absurd (show(13:Nat)=8 from e) (by decide)) (show(13:Nat)≠23 by decide) (show(13:Nat)≠32 by decide) rfl f.1 f.2.1 (by have:=f.2.2.1;have:=mt (by omega);omega)
   rw[if_neg d1]at hr;by_cases d2:kT s=35
   ·rw[if_pos d2]at hr;obtain⟨x,k1,k2⟩:=bind_some hr;have e:=(Option.some.inj k2).symm;subst e;have f:=sub (by unfold Dg;omega) ht.1 k1 hb;exact Fit.wrap (fun e=>absurd (show(14:Nat)=8 from e) (by decide)) (show(14:Nat)≠23 by decide) (show(14:Nat)≠32 by decide) rfl f.1 f.2.1 (by have:=f.2.2.1;have:=mt (by omega);omega)
   rw[if_neg d2]at hr;obtain⟨x,k1,k2⟩:=bind_some hr;have hx:=Cj _ _ _ _ _ _ h k1;have hy:=Cj _ _ _ _ _ _ hx.1 k2;have f:=sub (by unfold Dg;omega) h k1 (Gh hy hb);have f2:=ih _ _ _ _ _ hx.1 k2 hb f.1 f.2.1 (fun _=>f.2.2.2 (.inl (.inr (.inr (.inl rfl)))));exact⟨f2.1,f2.2.1,by have:=f.2.2.1;have:=f2.2.2.1;omega,fun _=>f2.2.2.2 (.inr (.inr rfl))⟩
  by_cases t3:t=3
  ·subst t3;rw[A7,if_neg (by decide),if_neg (by decide),if_neg (by decide),if_pos rfl]at hr;by_cases d1:kT s=22
   ·rw[if_pos d1]at hr;obtain⟨y,k1,k2⟩:=bind_some hr;have hy:=Cj _ _ _ _ _ _ ht.1 k1;have hw:=Cq 23 hy.1;have hz:=Cj _ _ _ _ _ _ hw.1 k2;have f:=sub (by unfold Dg;omega) ht.1 k1 (Gh hw (Gh hz hb));have Ad:Ek (nd (Ao 12 (A6 s).line) (B6 acc y.1)):=Na (fun e=>absurd (show(12:Nat)=8 from e) (by decide)) (show(12:Nat)≠23 by decide) (Ek.app _ _ hsa f.1) (Dq.app _ _ hta f.2.1);have f2:=ih _ _ _ _ _ hw.1 k2 hb Ad (Nr (show(12:Nat)≠32 by decide)) (fun _=>rfl);refine⟨f2.1,f2.2.1,?_,fun _=>f2.2.2.2 (.inr (.inr rfl))⟩;have h1:=f.2.2.1;have h2:=f2.2.2.1;have h3:=Ee hw;rw[B8,Mv]at h2;have:=mt (by omega);simp[Ao]at h2;omega
   ·rw[if_neg d1]at hr;have e:=(Option.some.inj hr).symm;subst e;exact⟨hsa,hta,Nat.le_refl _,fun _=>hac (.inr rfl)⟩
  by_cases t4:t=4
  ·subst t4;have lf:∀{l:A2},kT s≠0->l.kd≠8->l.kd≠23->l.kd≠32->l.ps=[]->r=(nd l .nil,Aa s)->Fit 4 acc s r:=by
    intro l h0 h8 h23 h32 hp e;rw[e];exact Fit.leaf h8 h23 h32 hp (by have:=mt h0;omega)
   by_cases d1:kT s=2
   ·exact lf (by omega) (show(1:Nat)≠8 by decide) (show(1:Nat)≠23 by decide) (show(1:Nat)≠32 by decide) rfl (by rw[A7,if_neg (by decide),if_neg (by decide),if_neg (by decide),if_neg (by decide),if_pos rfl,if_pos d1]at hr;exact(Option.some.inj hr).symm)
   by_cases d2:kT s=3
   ·exact lf (by omega) (show(2:Nat)≠8 by decide) (show(2:Nat)≠23 by decide) (show(2:Nat)≠32 by decide) rfl (by rw[A7,if_neg (by decide),if_neg (by decide),if_neg (by decide),if_neg (by decide),if_pos rfl,if_neg d1,if_pos d2]at hr;exact(Option.some.inj hr).symm)
   rw[A7,if_neg (by decide),if_neg (by decide),if_neg (by decide),if_neg (by decide),if_pos rfl,if_neg d1,if_neg d2]at hr;by_cases d3:kT s=13
   ·rw[if_pos d3]at hr;exact lf (by omega) (show(3:Nat)≠8 by decide) (show(3:Nat)≠23 by decide) (show(3:Nat)≠32 by decide) rfl (Option.some.inj hr).symm
   rw[if_neg d3]at hr;by_cases d4:kT s=14
   ·rw[if_pos d4]at hr;exact lf (by omega) (show(4:Nat)≠8 by decide) (show(4:Nat)≠23 by decide) (show(4:Nat)≠32 by decide) rfl (Option.some.inj hr).symm
   rw[if_neg d4]at hr;by_cases d5:kT s=15
   ·rw[if_pos d5]at hr;exact lf (by omega) (show(5:Nat)≠8 by decide) (show(5:Nat)≠23 by decide) (show(5:Nat)≠32 by decide) rfl (Option.some.inj hr).symm
   rw[if_neg d5]at hr;by_cases d6:kT s=1
   ·rw[if_pos d6]at hr;have:=mt (by omega);by_cases d7:kT (Aa s)=18
    ·rw[if_pos d7]at hr;obtain⟨x,k1,k2⟩:=bind_some hr;have e:=(Option.some.inj k2).symm;subst e;have h2:=I0 ht.1;have f:=sub (by unfold Dg;omega) h2.1 k1 hb;exact Fit.wrap (fun e=>absurd (show(7:Nat)=8 from e) (by decide)) (show(7:Nat)≠23 by decide) (show(7:Nat)≠32 by decide) rfl f.1 f.2.1 (by have:=f.2.2.1;have:=Ee h2;omega)
    ·rw[if_neg d7]at hr;exact lf (by omega) (show(6:Nat)≠8 by decide) (show(6:Nat)≠23 by decide) (show(6:Nat)≠32 by decide) rfl (Option.some.inj hr).symm
   rw[if_neg d6]at hr;by_cases d7:kT s=18
   ·rw[if_pos d7]at hr;have:=mt (by omega);obtain⟨x,k1,k2⟩:=bind_some hr;have e:=(Option.some.inj k2).symm;subst e;have hx:=Cj _ _ _ _ _ _ ht.1 k1;have hw:=Cq 19 hx.1;have f:=sub (by unfold Dg;omega) ht.1 k1 (Gh hw hb);exact Fit.wrap (fun _=>f.2.2.2 (.inl (.inl rfl))) (show(8:Nat)≠23 by decide) (show(8:Nat)≠32 by decide) rfl f.1 f.2.1 (by have:=f.2.2.1;have:=Ee hw;omega)
   rw[if_neg d7]at hr;by_cases d8:kT s=22
   ·rw[if_pos d8]at hr;have:=mt (by omega);obtain⟨x,k1,k2⟩:=bind_some hr;have e:=(Option.some.inj k2).symm;subst e;have f:=sub (by unfold Dg;omega) ht.1 k1 hb;exact Fit.wrap (fun e=>absurd (show(9:Nat)=8 from e) (by decide)) (show(9:Nat)≠23 by decide) (show(9:Nat)≠32 by decide) rfl f.1 f.2.1 (by have:=f.2.2.1;omega)
   rw[if_neg d8]at hr;have h18:=Cq 18 ht.1;have m18:=Ee h18;by_cases d9:kT s=16
   ·rw[if_pos d9]at hr;have:=mt (by omega);obtain⟨x,k1,k2⟩:=bind_some hr;have e:=(Option.some.inj k2).symm;subst e;have hx:=Cj _ _ _ _ _ _ h18.1 k1;have hw:=Cq 19 hx.1;have f:=sub (by unfold Dg;omega) h18.1 k1 (Gh hw hb);exact Fit.wrap (fun e=>absurd (show(10:Nat)=8 from e) (by decide)) (show(10:Nat)≠23 by decide) (show(10:Nat)≠32 by decide) rfl f.1 f.2.1 (by have:=f.2.2.1;have:=Ee hw;omega)
   rw[if_neg d9]at hr;by_cases d10:kT s=17
   ·rw[if_pos d10]at hr;have:=mt (by omega);obtain⟨x,k1,k2⟩:=bind_some hr;obtain⟨y,k3,k4⟩:=bind_some k2;have e:=(Option.some.inj k4).symm;subst e;have hx:=Cj _ _ _ _ _ _ h18.1 k1;have h24:=Cq 24 hx.1;have hy:=Cj _ _ _ _ _ _ h24.1 k3;have hw:=Cq 19 hy.1;have f2:=sub (by unfold Dg;omega) h24.1 k3 (Gh hw hb);have f:=sub (by unfold Dg;omega) h18.1 k1 (Gh h24 (Gh hy (Gh hw hb)));exact Fit.wrap (fun e=>absurd (show(11:Nat)=8 from e) (by decide)) (show(11:Nat)≠23 by decide) (show(11:Nat)≠32 by decide) rfl (Ek.app _ _ f.1 f2.1) (Dq.app _ _ f.2.1 f2.2.1) (by rw[Mv];have:=f.2.2.1;have:=f2.2.2.1;have:=Ee hw;have:=Ee h24;omega)
   rw[if_neg d10]at hr;have e:=(Option.some.inj hr).symm;subst e;exact absurd hb (Ot h)
  by_cases t5:t=5
  ·subst t5;have nt:¬(Nc 5\/Dg 5):=by unfold Nc Dg;omega
   rw[A7,if_neg (by decide),if_neg (by decide),if_neg (by decide),if_neg (by decide),if_neg (by decide),if_pos rfl]at hr;by_cases d1:kT s=a
   ·rw[if_pos d1]at hr;have e:=(Option.some.inj hr).symm;subst e;exact⟨trivial,trivial,by have:=Ee ht;show bsize (.nil:BT A2)+2*E6 (Aa s)<=_;omega,fun e=>absurd e nt⟩
   ·rw[if_neg d1]at hr;obtain⟨x,k1,k2⟩:=bind_some hr;have hx:=Cj _ _ _ _ _ _ h k1;have hy:=Cj _ _ _ _ _ _ hx.1 k2;have f:=sub (by unfold Dg;omega) h k1 (Gh hy hb);have f2:=ih _ _ _ _ _ hx.1 k2 hb f.1 f.2.1 (fun e=>absurd e (by unfold Dg;omega));exact⟨f2.1,f2.2.1,by have:=f.2.2.1;have:=f2.2.2.1;omega,fun e=>absurd e nt⟩
  by_cases t6:t=6
  ·subst t6;have nt:¬(Nc 6\/Dg 6):=by unfold Nc Dg;omega
   rw[A7,if_neg (by decide),if_neg (by decide),if_neg (by decide),if_neg (by decide),if_neg (by decide),if_neg (by decide),if_pos rfl]at hr;by_cases d1:kT s=24
   ·rw[if_pos d1]at hr;obtain⟨y,k1,k2⟩:=bind_some hr;have hy:=Cj _ _ _ _ _ _ ht.1 k1;have hz:=Cj _ _ _ _ _ _ hy.1 k2;have f:=sub (by unfold Dg;omega) ht.1 k1 (Gh hz hb);have f2:=ih _ _ _ _ _ hy.1 k2 hb (Ek.app _ _ hsa f.1) (Dq.app _ _ hta f.2.1) (fun e=>absurd e (by unfold Dg;omega));refine⟨f2.1,f2.2.1,?_,fun e=>absurd e nt⟩;have h2:=f2.2.2.1;rw[Mv]at h2;have:=f.2.2.1;have:=Ee ht;omega
   ·rw[if_neg d1]at hr;have e:=(Option.some.inj hr).symm;subst e;exact⟨hsa,hta,by have:=Ee (Cq a h);show bsize acc+2*E6 (Ah a s)<=_;omega,fun e=>absurd e nt⟩
  by_cases t7:t=7
  ·subst t7;have nt:¬(Nc 7\/Dg 7):=by unfold Nc Dg;omega
   rw[A7,if_neg (by decide),if_neg (by decide),if_neg (by decide),if_neg (by decide),if_neg (by decide),if_neg (by decide),if_neg (by decide),if_pos rfl]at hr;have hw:=Cq 20 h;have f:=sub (by unfold Dg;omega) hw.1 hr hb;exact⟨f.1,f.2.1,by have:=f.2.2.1;have:=Ee hw;omega,fun e=>absurd e nt⟩
  by_cases t8:t=8
  ·subst t8;have nt:¬(Nc 8\/Dg 8):=by unfold Nc Dg;omega
   rw[A7,if_neg (by decide),if_neg (by decide),if_neg (by decide),if_neg (by decide),if_neg (by decide),if_neg (by decide),if_neg (by decide),if_neg (by decide),if_pos rfl]at hr;by_cases d1:kT s=21
   ·rw[if_pos d1]at hr;have e:=(Option.some.inj hr).symm;subst e;exact⟨hsa,hta,by have:=Ee ht;show bsize acc+2*E6 (Aa s)<=_;omega,fun e=>absurd e nt⟩
   rw[if_neg d1]at hr;by_cases d2:s.bad≠0
   ·rw[if_pos d2]at hr;have e:=(Option.some.inj hr).symm;subst e;exact absurd hb d2
   rw[if_neg d2]at hr;obtain⟨x,k1,k2⟩:=bind_some hr;have hx:=Cj _ _ _ _ _ _ h k1;have hy:=Cj _ _ _ _ _ _ hx.1 k2;have f:=sub (by unfold Dg;omega) h k1 (Gh hy hb);have f2:=ih _ _ _ _ _ hx.1 k2 hb (Ek.app _ _ hsa f.1) (Dq.app _ _ hta f.2.1) (fun e=>absurd e (by unfold Dg;omega));refine⟨f2.1,f2.2.1,?_,fun e=>absurd e nt⟩;have h2:=f2.2.2.1;rw[Mv]at h2;have:=f.2.2.1;omega
  by_cases t9:t=9
  ·subst t9;rw[A7,if_neg (by decide),if_neg (by decide),if_neg (by decide),if_neg (by decide),if_neg (by decide),if_neg (by decide),if_neg (by decide),if_neg (by decide),if_neg (by decide),if_pos rfl]at hr;by_cases d1:kT s=5
   ·rw[if_pos d1]at hr;have:=mt (by omega);obtain⟨x,k1,k2⟩:=bind_some hr;have e:=(Option.some.inj k2).symm;subst e;have w1:=Cq 1 ht.1;have w2:=Cq 26 w1.1;have hx:=Cj _ _ _ _ _ _ w2.1 k1;have w3:=Cq 25 hx.1;have f:=sub (by unfold Dg;omega) w2.1 k1 (Gh w3 hb);exact Fit.wrap (fun e=>absurd (show(21:Nat)=8 from e) (by decide)) (show(21:Nat)≠23 by decide) (show(21:Nat)≠32 by decide) rfl f.1 f.2.1 (by have:=f.2.2.1;have:=Ee w1;have:=Ee w2;have:=Ee w3;omega)
   rw[if_neg d1]at hr;by_cases d2:kT s=6
   ·rw[if_pos d2]at hr;have:=mt (by omega);obtain⟨x,k1,k2⟩:=bind_some hr;obtain⟨y,k3,k4⟩:=bind_some k2;have hx:=Cj _ _ _ _ _ _ ht.1 k1;have hy:=Cj _ _ _ _ _ _ hx.1 k3;by_cases d3:kT y.2=7
    ·rw[if_pos d3]at k4;obtain⟨z,k5,k6⟩:=bind_some k4;have e:=(Option.some.inj k6).symm;subst e;have hyg:=Pk hy.1 (show kT y.2≠0 by omega);have h7:=I0 hy.1;have f3:=sub (by unfold Dg;omega) h7.1 k5 hb;have f2:=sub (by unfold Dg;omega) hx.1 k3 hyg;have f:=sub (by unfold Dg;omega) ht.1 k1 (Gh hy hyg);have A9:Ek (nd (Ao 31 0) y.1):=Na (fun e=>absurd (show(31:Nat)=8 from e) (by decide)) (show(31:Nat)≠23 by decide) f2.1 f2.2.1;have Ar:Ek (nd (Ao 31 0) z.1):=Na (fun e=>absurd (show(31:Nat)=8 from e) (by decide)) (show(31:Nat)≠23 by decide) f3.1 f3.2.1;have ht2:∀c,Dq (nd (Ao 31 0) c):=fun c=>Nr (show(31:Nat)≠32 by decide);exact Fit.wrap (fun e=>absurd (show(22:Nat)=8 from e) (by decide)) (show(22:Nat)≠23 by decide) (show(22:Nat)≠32 by decide) rfl (Ek.app _ _ f.1 (Ek.app _ _ A9 Ar)) (Dq.app _ _ f.2.1 (Dq.app _ _ (ht2 _) (ht2 _))) (by rw[Mv,Mv,B8,B8];have:=f.2.2.1;have:=f2.2.2.1;have:=f3.2.2.1;have:=T7 hy.1 (show kT y.2≠0 by omega);simp[Ao];omega)
    ·rw[if_neg d3]at k4;have e:=(Option.some.inj k4).symm;subst e;have f2:=sub (by unfold Dg;omega) hx.1 k3 hb;have f:=sub (by unfold Dg;omega) ht.1 k1 (Gh hy hb);have A9:Ek (nd (Ao 31 0) y.1):=Na (fun e=>absurd (show(31:Nat)=8 from e) (by decide)) (show(31:Nat)≠23 by decide) f2.1 f2.2.1;exact Fit.wrap (fun e=>absurd (show(22:Nat)=8 from e) (by decide)) (show(22:Nat)≠23 by decide) (show(22:Nat)≠32 by decide) rfl (Ek.app _ _ f.1 A9) (Dq.app _ _ f.2.1 (Nr (show(31:Nat)≠32 by decide))) (by rw[Mv,B8];have:=f.2.2.1;have:=f2.2.2.1;simp[Ao];omega)
   rw[if_neg d2]at hr;by_cases d3:kT s=8
   ·rw[if_pos d3]at hr;have:=mt (by omega);obtain⟨x,k1,k2⟩:=bind_some hr;obtain⟨y,k3,k4⟩:=bind_some k2;have e:=(Option.some.inj k4).symm;subst e;have hx:=Cj _ _ _ _ _ _ ht.1 k1;have hy:=Cj _ _ _ _ _ _ hx.1 k3;have f2:=sub (by unfold Dg;omega) hx.1 k3 hb;have f:=sub (by unfold Dg;omega) ht.1 k1 (Gh hy hb);have A9:Ek (nd (Ao 32 0) y.1):=Na (fun e=>absurd (show(32:Nat)=8 from e) (by decide)) (show(32:Nat)≠23 by decide) f2.1 f2.2.1;refine⟨⟨fun e=>absurd (show(23:Nat)=8 from e) (by decide),fun _=>⟨x.1,y.1,rfl,f.2.2.2 (.inl (.inl rfl)),f.2.1⟩,fun e=>absurd (show(23:Nat)=23 from rfl) e,Ek.app _ _ f.1 A9,trivial⟩,Nr (show(23:Nat)≠32 by decide),?_,fun _=>rfl⟩;show bsize (nd _ _)+2*E6 y.2<=_;rw[B8,Mv,B8];have:=f.2.2.1;have:=f2.2.2.1;simp[Ao];omega
   rw[if_neg d3]at hr;by_cases d4:kT s=9
   ·rw[if_pos d4]at hr;have:=mt (by omega);by_cases d5:kT (Aa s)=25
    ·rw[if_pos d5]at hr;have e:=(Option.some.inj hr).symm;subst e;exact Fit.leaf (show(24:Nat)≠8 by decide) (show(24:Nat)≠23 by decide) (show(24:Nat)≠32 by decide) rfl (by have:=Ee (Cq 25 ht.1);omega)
    ·rw[if_neg d5]at hr;obtain⟨x,k1,k2⟩:=bind_some hr;have e:=(Option.some.inj k2).symm;subst e;have hx:=Cj _ _ _ _ _ _ ht.1 k1;have w3:=Cq 25 hx.1;have f:=sub (by unfold Dg;omega) ht.1 k1 (Gh w3 hb);exact Fit.wrap (fun e=>absurd (show(24:Nat)=8 from e) (by decide)) (show(24:Nat)≠23 by decide) (show(24:Nat)≠32 by decide) rfl f.1 f.2.1 (by have:=f.2.2.1;have:=Ee w3;omega)
   rw[if_neg d4]at hr;by_cases d5:kT s=10
   ·rw[if_pos d5]at hr;have:=mt (by omega);have e:=(Option.some.inj hr).symm;subst e;exact Fit.leaf (show(25:Nat)≠8 by decide) (show(25:Nat)≠23 by decide) (show(25:Nat)≠32 by decide) rfl (by have:=Ee (Cq 25 ht.1);omega)
   rw[if_neg d5]at hr;by_cases d6:kT s=11
   ·rw[if_pos d6]at hr;have:=mt (by omega);have e:=(Option.some.inj hr).symm;subst e;exact Fit.leaf (show(26:Nat)≠8 by decide) (show(26:Nat)≠23 by decide) (show(26:Nat)≠32 by decide) rfl (by have:=Ee (Cq 25 ht.1);omega)
   rw[if_neg d6]at hr;by_cases d7:kT s=12
   ·rw[if_pos d7]at hr;have:=mt (by omega);obtain⟨x,k1,k2⟩:=bind_some hr;have e:=(Option.some.inj k2).symm;subst e;have hx:=Cj _ _ _ _ _ _ ht.1 k1;have w3:=Cq 25 hx.1;have f:=sub (by unfold Dg;omega) ht.1 k1 (Gh w3 hb);exact Fit.wrap (fun e=>absurd (show(27:Nat)=8 from e) (by decide)) (show(27:Nat)≠23 by decide) (show(27:Nat)≠32 by decide) rfl f.1 f.2.1 (by have:=f.2.2.1;have:=Ee w3;omega)
   rw[if_neg d7]at hr;obtain⟨x,k1,k2⟩:=bind_some hr;have hx:=Cj _ _ _ _ _ _ h k1;by_cases d8:Lh x.1=true/\kT x.2=26
   ·rw[if_pos d8]at k2;obtain⟨v,k3,k4⟩:=bind_some k2;have e:=(Option.some.inj k4).symm;subst e;have h26:=I0 hx.1;have hv:=Cj _ _ _ _ _ _ h26.1 k3;have w3:=Cq 25 hv.1;have f2:=sub (by unfold Dg;omega) h26.1 k3 (Gh w3 hb);have f:=sub (by unfold Dg;omega) h k1 (Gh h26 (Gh hv (Gh w3 hb)));obtain⟨q1,q2,q3,q4⟩:=Ab5 f.1 (f.2.2.2 (.inl (.inl rfl))) f2.1 f2.2.1 d8.1;refine⟨q1,q2,?_,fun _=>q4⟩;show bsize (setNode x.1 v.1)+2*E6 (Ah 25 v.2)<=_;have:=f.2.2.1;have:=f2.2.2.1;have:=Ee w3;have:=Ee h26;omega
   rw[if_neg d8]at k2;by_cases d9:kT x.2=26
   ·rw[if_pos d9]at k2;obtain⟨v,k3,k4⟩:=bind_some k2;have e:=(Option.some.inj k4).symm;subst e;have hf:=Pg hx.1;have hv:=Cj _ _ _ _ _ _ hf.1 k3;exact absurd (Gh hv (Gh (Cq 25 hv.1) hb)) (Ot hx.1)
   ·rw[if_neg d9]at k2;have e:=(Option.some.inj k2).symm;subst e;have w3:=Cq 25 hx.1;have f:=sub (by unfold Dg;omega) h k1 (Gh w3 hb);exact Fit.wrap (fun e=>absurd (show(30:Nat)=8 from e) (by decide)) (show(30:Nat)≠23 by decide) (show(30:Nat)≠32 by decide) rfl f.1 f.2.1 (by have:=f.2.2.1;have:=T8 (k:=25) (by decide) hx.1 hb;omega)
  by_cases t10:t=10
  ·subst t10;have nt:¬(Nc 10\/Dg 10):=by unfold Nc Dg;omega
   rw[A7,if_neg (by decide),if_neg (by decide),if_neg (by decide),if_neg (by decide),if_neg (by decide),if_neg (by decide),if_neg (by decide),if_neg (by decide),if_neg (by decide),if_neg (by decide),if_pos rfl]at hr;by_cases d1:kT s=0
   ·rw[if_pos d1]at hr;have e:=(Option.some.inj hr).symm;subst e;exact⟨hsa,hta,Nat.le_refl _,fun e=>absurd e nt⟩
   rw[if_neg d1]at hr;have two:∀{t1:Nat},¬Dg t1->((A7 n t1 0 .nil s).bind fun x=>A7 n 10 0 (B6 acc x.1) x.2)=some r->Fit 10 acc s r:=by
    intro t1 hn hr;obtain⟨x,k1,k2⟩:=bind_some hr;have hx:=Cj _ _ _ _ _ _ h k1;have hy:=Cj _ _ _ _ _ _ hx.1 k2;have f:=sub hn h k1 (Gh hy hb);have f2:=ih _ _ _ _ _ hx.1 k2 hb (Ek.app _ _ hsa f.1) (Dq.app _ _ hta f.2.1) (fun e=>absurd e (by unfold Dg;omega));refine⟨f2.1,f2.2.1,?_,fun e=>absurd e nt⟩;have h2:=f2.2.2.1;rw[Mv]at h2;have:=f.2.2.1;omega
   by_cases d2:kT s=4
   ·rw[if_pos d2]at hr;exact two (by unfold Dg;omega) hr
   ·rw[if_neg d2]at hr;exact two (by unfold Dg;omega) hr
  rw[A7,if_neg t0,if_neg t1,if_neg t2,if_neg t3,if_neg t4,if_neg t5,if_neg t6,if_neg t7,if_neg t8,if_neg t9,if_neg t10]at hr;obtain⟨p,k1,k2⟩:=bind_some hr;obtain⟨x,k3,k4⟩:=bind_some k2;have e:=(Option.some.inj k4).symm;subst e;have w1:=Cq 1 ht.1;have w2:=Cq 18 w1.1;have hp:=Td w2.1 k1;have hx:=Cj _ _ _ _ _ _ hp.1 k3;have hpg:=Gh hx hb;have f:=sub (by unfold Dg;omega) hp.1 k3 hb;refine⟨Na (fun e=>absurd (show(20:Nat)=8 from e) (by decide)) (show(20:Nat)≠23 by decide) f.1 f.2.1,Nr (show(20:Nat)≠32 by decide),?_,fun _=>rfl⟩;show bsize (nd _ _)+2*E6 x.2<=_;rw[B8];have h1:=f.2.2.1;have h2:=A82 w2.1 k1 hpg;have h3:=T8 (k:=18) (by decide) w1.1 (Gh hp hpg);have h4:=Ee w1;have h5:=Ee ht;show 1+p.1.length+bsize x.1+2*E6 x.2<=_;omega
theorem Vg{fns:List (Nm×Nat)}{s:Nm}{n:Nat}:s∈(fns.take n).map (·.1)↔∃j,∃h:j<fns.length,j<n/\fns[j].1=s:=by
 constructor
 ·intro h;obtain⟨p,hp,e⟩:=List.mem_map.mp h;obtain⟨j,hj,e2⟩:=List.getElem_of_mem hp;rw[List.length_take]at hj;refine⟨j,by omega,by omega,?_⟩;rw[List.getElem_take]at e2;rw[e2];exact e
 ·rintro⟨j,h,hj,e⟩;refine List.mem_map.mpr ⟨fns[j],?_,e⟩;have:(fns.take n)[j]'(by rw[List.length_take];omega)=fns[j]:=List.getElem_take;rw[←this];exact List.getElem_mem _
theorem A5n{fns:List (Nm×Nat)}{n:Nat}{s:Nm}{q:Int}(hn:n<fns.length)(he:fns[n].1=s)
  (hq:(∃i,∃h:i<fns.length,q=(i:Nat)/\fns[i].1=s/\∀j,j<i->∀h':j<fns.length,fns[j].1≠s)\/(q=-1/\∀j,∀h:j<fns.length,fns[j].1≠s)) :
  (q !=(n:Int))=decide (s∈(fns.take n).map (·.1)):=by
 rcases hq with⟨i,hi,rfl,e,hno⟩|⟨_,hno⟩
 ·rw[Bool.eq_iff_iff,bne_iff_ne,decide_eq_true_eq,Vg];constructor
  ·intro h;refine⟨i,hi,?_,e⟩;have:¬n<i:=fun hl=>hno n hl hn he;omega
  ·rintro⟨j,hj,hjn,e2⟩ h;have:¬j<i:=fun hl=>hno j hl hj e2;omega
 ·exact absurd he (hno n hn)
theorem Yv{fns:List (Nm×Nat)}{n:Nat}{p:Nm×Nat}{r:List (Nm×Nat)}(h:fns.drop n=p::r):∃hn:n<fns.length,fns[n]=p/\fns.drop (n+1)=r/\(fns.take (n+1)).map (·.1)=(fns.take n).map (·.1)++[p.1]:=by
 have hn:n<fns.length:=by
  apply Decidable.byContradiction;intro h2;rw[List.drop_eq_nil_of_le (by omega)]at h;cases h
 rw[List.drop_eq_getElem_cons hn]at h;injection h with h1 h2;refine⟨hn,h1,h2,?_⟩;rw[List.take_succ_eq_append_getElem hn,List.map_append,h1];rfl
theorem Tu(fns:List (Nm×Nat))(x y:Nat)(l:A2)(ch sib:BT A2)(seen cur:List Nm)(f:B3)(h:l.kd=20):Dj fns (.node x y l ch sib) seen cur f=Dj fns sib (seen++[l.s]) cur (Ag fns ch cur (Ge l.ps [] (Bu (decide (l.s∈seen)) 3 l.line f)).1 0 true (Ge l.ps [] (Bu (decide (l.s∈seen)) 3 l.line f)).2).2:=by
 rw[Dj,if_pos h]
theorem R6(fns:List (Nm×Nat))(x y:Nat)(l:A2)(ch sib:BT A2)(seen cur:List Nm)(f:B3)(h:l.kd≠20):Dj fns (.node x y l ch sib) seen cur f=Dj fns sib seen (Ag fns (.node x y l ch .nil) [] cur 0 false f).1 (Ag fns (.node x y l ch .nil) [] cur 0 false f).2:=by
 rw[Dj,if_neg h]
theorem T2(x y:Nat)(l:A2)(ch sib:BT A2)(h:l.kd=20):Bf (.node x y l ch sib)=(l.s,l.ps.length)::Bf sib:=by
 rw[Bf,if_pos h]
theorem Qt(x y:Nat)(l:A2)(ch sib:BT A2)(h:l.kd≠20):Bf (.node x y l ch sib)=Bf sib:=by
 rw[Bf,if_neg h]
theorem V8{p:Prop}[Decidable p]{a b m:Nat}(ha:a<=m)(hb:b<=m):(if p then a else b)<=m:=by
 split
 ·exact ha
 ·exact hb
theorem Adv(l:List UInt8):Iz l<=17:=by
 unfold Iz;repeat refine V8 (by decide) ?_
 exact Nat.zero_le _
theorem Abe(c d:UInt8):L1 c d<=40:=by
 unfold L1;repeat refine V8 (by decide) ?_
 exact Nat.zero_le _
theorem q7(c:UInt8):Hz c<=40:=by
 unfold Hz;repeat refine V8 (by decide) ?_
 exact Nat.zero_le _
theorem q9(l:List UInt8)(h:(Ep l).2≠0):1<=(Ep l).1/\(Ep l).1<=40:=by
 unfold Ep at h ⊢;split
 ·exact absurd rfl h
 ·rename_i c;simp only at h;split
  ·rename_i h1;rw[if_pos h1]at h;exact absurd rfl h
  ·rename_i h1;have:=q7 c;have h2:Hz c≠0:=fun e=>h1 (by rw[e];rfl);exact⟨by show 1<=Hz c;omega,this⟩
 ·rename_i c d r;simp only at h;split
  ·rename_i h1;have:=Abe c d;have h2:L1 c d≠0:=by simpa using h1
   exact⟨by show 1<=L1 c d;omega,this⟩
  ·rename_i h0;rw[if_neg h0]at h;split
   ·rename_i h1;rw[if_pos h1]at h;exact absurd rfl h
   ·rename_i h1;have:=q7 c;have h2:Hz c≠0:=fun e=>h1 (by rw[e];rfl);exact⟨by show 1<=Hz c;omega,this⟩
theorem Wi(c:UInt8)(r:List UInt8)(t:Tk)(n:Nat)(h:Dp (c::r)=some (t,n)):1<=t.k/\t.k<=40/\1<=n:=by
 rw[Dp]at h;split at h
 ·rename_i hd;split at h
  ·injection h with h;injection h with h1 h2;subst h1 h2;refine⟨by simp,by simp,?_⟩;rw[List.takeWhile_cons,if_pos hd];simp
  ·cases h
 ·split at h
  ·rename_i hl;have hn:Ct c=true:=by unfold Ct;rw[hl];rfl
   split at h
   ·rename_i hw;injection h with h;injection h with h1 h2;subst h1 h2;have:=Adv ((c::r).takeWhile Ct);have hw2:Iz ((c::r).takeWhile Ct)≠0:=by simpa using hw
    refine⟨by show 1<=Iz _;omega,by show Iz _<=40;omega,?_⟩;rw[List.takeWhile_cons,if_pos hn];simp
   ·split at h
    ·injection h with h;injection h with h1 h2;subst h1 h2;refine⟨by simp,by simp,?_⟩;rw[List.takeWhile_cons,if_pos hn];simp
    ·cases h
  ·split at h
   ·split at h
    ·injection h with h;injection h with h1 h2;subst h1 h2;exact⟨by simp,by simp,by omega⟩
    ·cases h
   ·split at h
    ·cases h
    ·rename_i h0;injection h with h;injection h with h1 h2;subst h1 h2;have hz:(Ep (c::r)).2≠0:=fun e=>h0 (by rw[e];rfl);exact⟨(q9 _ hz).1,(q9 _ hz).2,by omega⟩
def Gk(line:Nat)(m:Nat):List Tk->Prop
 | []=>False
 | x::r=>line<=x.line/\x.line<=line+m/\x.k<=40/\((x.k=0/\r=[])\/(x.k≠0/\Gk line m r))
theorem Gk.weak{a b m k:Nat}(h1:b<=a)(h2:a+m<=b+k):∀ts,Gk a m ts->Gk b k ts:=by
 intro ts;induction ts with
 | nil=>intro h;exact h
 | cons x r ih=>
  rintro⟨k1,k2,k3,k4⟩;refine⟨by omega,by omega,k3,?_⟩;rcases k4 with h|⟨h,h'⟩
  ·exact .inl h
  ·exact .inr ⟨h,ih h'⟩
def Rg(line m:Nat):Nat ⊕ List Tk->Prop
 | .inl n=>line<=n/\n<=line+m
 | .inr ts=>ts.length<=m+1/\Gk line m ts
theorem Rg.weak{a b m k:Nat}{x:Nat ⊕ List Tk}(h:Rg a m x)(h1:b<=a)(h2:a+m<=b+k)(h3:m<=k):Rg b k x:=by
 cases x with
 | inl n=>obtain⟨k1,k2⟩:=h;exact⟨by omega,by omega⟩
 | inr ts=>obtain⟨k1,k2⟩:=h;exact⟨by omega,Gk.weak h1 h2 _ k2⟩
theorem A6v:∀(f:Nat) (l:List UInt8) (line:Nat) (said:Bool),Rg line l.length (lex f l line said):=by
 intro f;induction f with
 | zero=>intro l line said;rw[lex];exact⟨Nat.le_refl _,by omega⟩
 | succ f ih=>
  intro l line said;cases l with
  | nil=>rw[lex];exact⟨by simp,Nat.le_refl _,by simp,by simp,.inl ⟨rfl,rfl⟩⟩
  | cons c r=>
   rw[lex,List.length_cons];split
   ·exact(ih r (line+1) false).weak (by omega) (by omega) (by omega)
   ·split
    ·exact⟨Nat.le_refl _,by omega⟩
    ·split
     ·exact(ih r line _).weak (by omega) (by omega) (by omega)
     ·cases ht:Dp (c::r) with
      | none=>exact⟨Nat.le_refl _,by omega⟩
      | some p=>
       obtain⟨t,n⟩:=p;obtain⟨k1,k2,k3⟩:=Wi c r t n ht;have:=ih ((c::r).drop n) line false;have hl:((c::r).drop n).length<=r.length:=by rw[List.length_drop,List.length_cons];omega
       show Rg line (r.length+1) (match lex f ((c::r).drop n) line false with
        | .inl l=>.inl l
        | .inr ts=>.inr ({ t with line:=line }::ts))
       cases hx:lex f ((c::r).drop n) line false with
       | inl m=>rw[hx]at this;obtain⟨j1,j2⟩:=this;exact⟨by omega,by omega⟩
       | inr ts=>
        rw[hx]at this;obtain⟨j1,j2⟩:=this;exact⟨by rw[List.length_cons];omega,Nat.le_refl _,by show line<=_;omega,k2,.inr ⟨by show t.k≠0;omega,Gk.weak (by omega) (by omega) _ j2⟩⟩
theorem Gk.ends{line m:Nat}(h1:1<=line):∀ts,Gk line m ts->Qf ts:=by
 intro ts;induction ts with
 | nil=>intro h;exact h
 | cons x r ih=>
  rintro⟨k1,_,_,k4⟩;refine⟨by omega,?_⟩;rcases k4 with⟨h,_⟩|⟨_,h⟩
  ·exact .inl h
  ·exact .inr (ih h)
theorem Gk.last{line m:Nat}:∀ts,Gk line m ts->∀i (h:i<ts.length),ts[i].k=0↔i+1=ts.length:=by
 intro ts;induction ts with
 | nil=>intro h;exact absurd h id
 | cons x r ih=>
  rintro⟨_,_,_,k4⟩ i hi;rcases k4 with⟨h,rfl⟩|⟨h,h2⟩
  ·simp only[List.length_cons,List.length_nil]at hi ⊢;obtain rfl:i=0:=by omega
   simp[h]
  ·cases i with
   | zero=>
    have:r≠[]:=by rintro rfl;exact h2
    have:0<r.length:=List.length_pos_iff.mpr this;simp only[List.getElem_cons_zero,List.length_cons];omega
   | succ i=>
    simp only[List.getElem_cons_succ,List.length_cons]at hi ⊢;have:=ih h2 i (by omega);omega
theorem Gk.mem{line m:Nat}:∀ts,Gk line m ts->∀t∈ts,line<=t.line/\t.line<=line+m/\t.k<=40:=by
 intro ts;induction ts with
 | nil=>intro _ t ht;cases ht
 | cons x r ih=>
  rintro⟨k1,k2,k3,k4⟩ t ht;rcases List.mem_cons.mp ht with rfl|ht
  ·exact⟨k1,k2,k3⟩
  ·rcases k4 with⟨_,rfl⟩|⟨_,h2⟩
   ·cases ht
   ·exact ih h2 t ht
def Jz(kd:Nat):Bool:=(decide (1<=kd)&&decide (kd<=14))||(decide (127<=kd)&&decide (kd<=140))
def Qa(kd:Nat):Bool:=kd==21||(decide (24<=kd)&&decide (kd<=30))
def Wf:Nat->BT A2->Prop
 | _,.nil=>True
 | m,.node _ _ l c r=>Wf m r/\(((m=0\/m=2\/m=3)/\Jz l.kd=true/\Wf 0 c)\/(m=2/\l.kd=31/\Wf 1 c)\/(m=3/\l.kd=32/\Wf 1 c)\/
   ((m=1\/m=4)/\l.kd=22/\Wf 2 c)\/((m=1\/m=4)/\l.kd=23/\Wf 3 c)\/((m=1\/m=4)/\Qa l.kd=true/\Wf 0 c)\/(m=4/\l.kd=20/\Wf 1 c))
theorem Wf.app:∀(m:Nat) (f g:BT A2),Wf m f->Wf m g->Wf m (B6 f g):=by
 intro m f;induction f with
 | nil=>intro g _ h;exact h
 | node x y l c r C2 Bl=>intro g h1 h2;exact⟨Bl g h1.1 h2,h1.2⟩
theorem Wf.ex{l:A2}{c:BT A2}(h:Jz l.kd=true)(hc:Wf 0 c):Wf 0 (nd l c):=⟨trivial,.inl ⟨.inl rfl,h,hc⟩⟩
theorem Wf.st{l:A2}{c:BT A2}(h:Qa l.kd=true)(hc:Wf 0 c):Wf 1 (nd l c):=⟨trivial,.inr (.inr (.inr (.inr (.inr (.inl ⟨.inl rfl,h,hc⟩)))))⟩
theorem Wf.up2:∀(f:BT A2),Wf 0 f->Wf 2 f:=by
 intro f;induction f with
 | nil=>intro _;trivial
 | node x y l c r C2 Bl=>
  intro h;refine⟨Bl h.1,?_⟩;rcases h.2 with⟨_,h1,h2⟩|⟨h1,_⟩|⟨h1,_⟩|⟨h1,_⟩|⟨h1,_⟩|⟨h1,_⟩|⟨h1,_⟩
  ·exact .inl ⟨.inr (.inl rfl),h1,h2⟩
  all_goals omega
theorem Wf.up3:∀(f:BT A2),Wf 0 f->Wf 3 f:=by
 intro f;induction f with
 | nil=>intro _;trivial
 | node x y l c r C2 Bl=>
  intro h;refine⟨Bl h.1,?_⟩;rcases h.2 with⟨_,h1,h2⟩|⟨h1,_⟩|⟨h1,_⟩|⟨h1,_⟩|⟨h1,_⟩|⟨h1,_⟩|⟨h1,_⟩
  ·exact .inl ⟨.inr (.inr rfl),h1,h2⟩
  all_goals omega
theorem Wf.up4:∀(f:BT A2),Wf 1 f->Wf 4 f:=by
 intro f;induction f with
 | nil=>intro _;trivial
 | node x y l c r C2 Bl=>
  intro h;refine⟨Bl h.1,?_⟩;rcases h.2 with⟨h0,_⟩|⟨h0,_⟩|⟨h0,_⟩|⟨_,h1,h2⟩|⟨_,h1,h2⟩|⟨_,h1,h2⟩|⟨h0,_⟩
  ·omega
  ·omega
  ·omega
  ·exact .inr (.inr (.inr (.inl ⟨.inr rfl,h1,h2⟩)))
  ·exact .inr (.inr (.inr (.inr (.inl ⟨.inr rfl,h1,h2⟩))))
  ·exact .inr (.inr (.inr (.inr (.inr (.inl ⟨.inr rfl,h1,h2⟩)))))
  ·omega
theorem Wf.A6i{f:BT A2}(h:Wf 0 f):Wf 0 (M6 f):=by
 cases f with
 | nil=>trivial
 | node x y l c r=>
  rcases h.2 with⟨_,h1,h2⟩|⟨h1,_⟩|⟨h1,_⟩|⟨h1,_⟩|⟨h1,_⟩|⟨h1,_⟩|⟨h1,_⟩
  ·exact h2
  all_goals omega
structure Un (n : Nat) : Prop where
 expr:∀a s r,A7 n 0 a .nil s=some r->Wf 0 r.1
 loop:∀a acc s r,Wf 0 acc->A7 n 1 a acc s=some r->Wf 0 r.1
 unary:∀s r,A7 n 2 0 .nil s=some r->Wf 0 r.1
 index:∀acc s r,Wf 0 acc->A7 n 3 0 acc s=some r->Wf 0 r.1
 atom:∀s r,A7 n 4 0 .nil s=some r->Wf 0 r.1
 list:∀a s r,A7 n 5 a .nil s=some r->Wf 0 r.1
 more:∀a acc s r,Wf 0 acc->A7 n 6 a acc s=some r->Wf 0 r.1
 block:∀s r,A7 n 7 0 .nil s=some r->Wf 1 r.1
 stmts:∀acc s r,Wf 1 acc->A7 n 8 0 acc s=some r->Wf 1 r.1
 stmt:∀s r,A7 n 9 0 .nil s=some r->Wf 1 r.1
theorem Aa8{k a:Nat}(h:rowOf k=a+1):Jz (100+k)=true:=by
 have:27<=k/\k<=40:=by
  unfold rowOf at h;repeat' split at h
  all_goals omega
 unfold Jz;simp only[Bool.or_eq_true,Bool.and_eq_true,decide_eq_true_eq];omega
theorem Adk{n:Nat}(ih:Un n){s:PS}{r:BT A2×PS}(h:A7 (n+1) 4 0 .nil s=some r):Wf 0 r.1:=by
 by_cases c2:kT s=2
 ·rw[Px c2 h];exact Wf.ex rfl trivial
 by_cases c3:kT s=3
 ·rw[Q5 c3 h];exact Wf.ex rfl trivial
 by_cases c13:kT s=13
 ·rw[Q6 c13 h];exact Wf.ex rfl trivial
 by_cases c14:kT s=14
 ·rw[Pu c14 h];exact Wf.ex rfl trivial
 by_cases c15:kT s=15
 ·rw[Q3 c15 h];exact Wf.ex rfl trivial
 by_cases c1:kT s=1
 ·by_cases c18:kT (Aa s)=18
  ·obtain⟨x,hx,hr⟩:=Pt c1 c18 h;rw[hr];exact Wf.ex rfl (ih.list _ _ _ hx)
  ·rw[Q0 c1 c18 h];exact Wf.ex rfl trivial
 by_cases c18:kT s=18
 ·obtain⟨x,hx,hr⟩:=Pw c18 h;rw[hr];exact Wf.ex rfl (ih.expr _ _ _ hx)
 by_cases c22:kT s=22
 ·obtain⟨x,hx,hr⟩:=Pr c22 h;rw[hr];exact Wf.ex rfl (ih.list _ _ _ hx)
 by_cases c16:kT s=16
 ·obtain⟨x,hx,hr⟩:=Py c16 h;rw[hr];exact Wf.ex rfl (ih.expr _ _ _ hx)
 by_cases c17:kT s=17
 ·obtain⟨x,y,hx,hy,hr⟩:=Q4 c17 h;rw[hr];exact Wf.ex rfl (Wf.app _ _ _ (ih.expr _ _ _ hx) (ih.expr _ _ _ hy))
 rw[Ns c2 c3 c13 c14 c15 c1 c18 c22 c16 c17 h];trivial
theorem Adm{n:Nat}(ih:Un n){s:PS}{r:BT A2×PS}(h:A7 (n+1) 9 0 .nil s=some r):Wf 1 r.1:=by
 by_cases c5:kT s=5
 ·obtain⟨x,hx,hr⟩:=Tl c5 h;rw[hr];exact Wf.st rfl (ih.expr _ _ _ hx)
 by_cases c6:kT s=6
 ·obtain⟨x,bl,h1,h2,⟨h3,c,h4,e⟩|⟨h3,e⟩⟩:=Tj c6 h
  ·rw[e];refine⟨trivial,.inr (.inr (.inr (.inl ⟨.inl rfl,rfl,Wf.app _ _ _ (Wf.up2 _ (ih.expr _ _ _ h1)) (Wf.app _ _ _ ?_ ?_)⟩)))⟩
   ·exact⟨trivial,.inr (.inl ⟨rfl,rfl,ih.block _ _ h2⟩)⟩
   ·exact⟨trivial,.inr (.inl ⟨rfl,rfl,ih.block _ _ h4⟩)⟩
  ·rw[e];refine⟨trivial,.inr (.inr (.inr (.inl ⟨.inl rfl,rfl,Wf.app _ _ _ (Wf.up2 _ (ih.expr _ _ _ h1)) ?_⟩)))⟩;exact⟨trivial,.inr (.inl ⟨rfl,rfl,ih.block _ _ h2⟩)⟩
 by_cases c8:kT s=8
 ·obtain⟨x,bl,h1,h2,e⟩:=Tp c8 h;rw[e];refine⟨trivial,.inr (.inr (.inr (.inr (.inl ⟨.inl rfl,rfl,Wf.app _ _ _ (Wf.up3 _ (ih.expr _ _ _ h1)) ?_⟩))))⟩;exact⟨trivial,.inr (.inr (.inl ⟨rfl,rfl,ih.block _ _ h2⟩))⟩
 by_cases c9:kT s=9
 ·by_cases c25:kT (Aa s)=25
  ·rw[To c9 c25 h];exact Wf.st rfl trivial
  ·obtain⟨x,hx,hr⟩:=Tn c9 c25 h;rw[hr];exact Wf.st rfl (ih.expr _ _ _ hx)
 by_cases c10:kT s=10
 ·rw[Th c10 h];exact Wf.st rfl trivial
 by_cases c11:kT s=11
 ·rw[Ti c11 h];exact Wf.st rfl trivial
 by_cases c12:kT s=12
 ·obtain⟨x,hx,hr⟩:=Tm c12 h;rw[hr];exact Wf.st rfl (ih.expr _ _ _ hx)
 obtain⟨x,hx,⟨_,_,v,hv,e⟩|⟨_,_,v,hv,e⟩|⟨_,e⟩⟩:=S0 (by omega) h
 ·rw[e];show Wf 1 (setNode x.1 v.1);unfold setNode;split
  ·exact Wf.st rfl (ih.expr _ _ _ hv)
  ·exact Wf.st rfl (Wf.app _ _ _ (ih.expr _ _ _ hx).A6i (ih.expr _ _ _ hv))
 ·rw[e];exact Wf.st rfl (ih.expr _ _ _ hx)
 ·rw[e];exact Wf.st rfl (ih.expr _ _ _ hx)
theorem A0b:∀n,Un n:=by
 intro n;induction n with
 | zero=>exact⟨fun _ _ _ h=>absurd h (Cc _ _ _ _ _),fun _ _ _ _ _ h=>absurd h (Cc _ _ _ _ _),fun _ _ h=>absurd h (Cc _ _ _ _ _),fun _ _ _ _ h=>absurd h (Cc _ _ _ _ _),fun _ _ h=>absurd h (Cc _ _ _ _ _),fun _ _ _ h=>absurd h (Cc _ _ _ _ _),fun _ _ _ _ _ h=>absurd h (Cc _ _ _ _ _),fun _ _ h=>absurd h (Cc _ _ _ _ _),fun _ _ _ _ h=>absurd h (Cc _ _ _ _ _),fun _ _ h=>absurd h (Cc _ _ _ _ _)⟩
 | succ n ih=>
  refine⟨?_,?_,?_,?_,fun s r h=>Adk ih h,?_,?_,fun s r h=>ih.stmts .nil _ _ trivial (Te h),?_,fun s r h=>Adm ih h⟩
  ·intro a s r h;by_cases h6:a=6
   ·subst h6;exact ih.unary _ _ (P4 h)
   ·obtain⟨x,h1,h2⟩:=P3 h6 h;exact ih.loop _ _ _ _ (ih.expr _ _ _ h1) h2
  ·intro a acc s r hacc h;by_cases hk:rowOf (kT s)=a+1
   ·obtain⟨z,h1,h2⟩:=Pz hk h;exact ih.loop _ _ _ _ (Wf.ex (Aa8 hk) (Wf.app _ _ _ hacc (ih.expr _ _ _ h1))) h2
   ·rw[P5 hk h];exact hacc
  ·intro s r h;by_cases c28:kT s=28
   ·obtain⟨x,h1,e⟩:=Q2 c28 h;rw[e];exact Wf.ex rfl (ih.unary _ _ h1)
   by_cases c35:kT s=35
   ·obtain⟨x,h1,e⟩:=Q1 c35 h;rw[e];exact Wf.ex rfl (ih.unary _ _ h1)
   obtain⟨x,h1,h2⟩:=P6 c28 c35 h;exact ih.index _ _ _ (ih.atom _ _ h1) h2
  ·intro acc s r hacc h;by_cases c22:kT s=22
   ·obtain⟨z,h1,h2⟩:=Qz c22 h;exact ih.index _ _ _ (Wf.ex rfl (Wf.app _ _ _ hacc (ih.expr _ _ _ h1))) h2
   ·rw[R1 c22 h];exact hacc
  ·intro a s r h;by_cases hk:kT s=a
   ·rw[Vp hk h];trivial
   ·obtain⟨y,h1,h2⟩:=bind_some (Tg hk h);exact ih.more _ _ _ _ (ih.expr _ _ _ h1) h2
  ·intro a acc s r hacc h;by_cases hk:kT s=24
   ·obtain⟨y,h1,h2⟩:=bind_some (Vq hk h);exact ih.more _ _ _ _ (Wf.app _ _ _ hacc (ih.expr _ _ _ h1)) h2
   ·rw[Vo hk h];exact hacc
  ·intro acc s r hacc h;by_cases c21:kT s=21
   ·rw[Vm c21 h];exact hacc
   by_cases hb:s.bad=0
   ·obtain⟨x,h1,h2⟩:=Tf c21 hb h;exact ih.stmts _ _ _ (Wf.app _ _ _ hacc (ih.stmt _ _ h1)) h2
   ·rw[A7]at h;rw[if_neg (by decide),if_neg (by decide),if_neg (by decide),if_neg (by decide),if_neg (by decide),if_neg (by decide),if_neg (by decide),if_neg (by decide),if_pos rfl,if_neg c21,if_pos hb]at h;rw[←Option.some.inj h];exact hacc
theorem Adl:∀n acc s r,Wf 4 acc->A7 n 10 0 acc s=some r->Wf 4 r.1:=by
 intro n;induction n with
 | zero=>intro acc s r _ h;exact absurd h (Cc _ _ _ _ _)
 | succ n ih=>
  intro acc s r hacc h;rw[A7]at h;rw[if_neg (by decide),if_neg (by decide),if_neg (by decide),if_neg (by decide),if_neg (by decide),if_neg (by decide),if_neg (by decide),if_neg (by decide),if_neg (by decide),if_neg (by decide),if_pos rfl]at h;by_cases c0:kT s=0
  ·rw[if_pos c0]at h;rw[←Option.some.inj h];exact hacc
  rw[if_neg c0]at h;by_cases c4:kT s=4
  ·rw[if_pos c4]at h;obtain⟨x,h1,h2⟩:=bind_some h;cases n with
   | zero=>exact absurd h1 (Cc _ _ _ _ _)
   | succ n=>
    obtain⟨p,b,_,h3,e⟩:=Rz h1;refine ih _ _ _ (Wf.app _ _ _ hacc ?_) h2;rw[e];exact⟨trivial,.inr (.inr (.inr (.inr (.inr (.inr ⟨rfl,rfl,(A0b _).block _ _ h3⟩)))))⟩
  ·rw[if_neg c4]at h;obtain⟨x,h1,h2⟩:=bind_some h;exact ih _ _ _ (Wf.app _ _ _ hacc (Wf.up4 _ ((A0b _).stmt _ _ h1))) h2
theorem Lx(fns:List (Nm×Nat)):∀(f:BT A2),Wf 0 f->∀(outer cur:List Nm) (wh:Nat) (inn:Bool) (v:B3),(Ag fns f outer cur wh inn v).1=cur:=by
 intro f;induction f with
 | nil=>intro _ outer cur wh inn v;rfl
 | node x y l c r C2 Bl=>
  intro h outer cur wh inn v;have h1:Jz l.kd=true/\Wf 0 c:=by
   rcases h.2 with⟨_,h1,h2⟩|⟨h1,_⟩|⟨h1,_⟩|⟨h1,_⟩|⟨h1,_⟩|⟨h1,_⟩|⟨h1,_⟩
   ·exact⟨h1,h2⟩
   all_goals omega
  have hk:l.kd≠31/\l.kd≠32/\l.kd≠21:=by
   have:=h1.1;unfold Jz at this;simp only[Bool.or_eq_true,Bool.and_eq_true,decide_eq_true_eq]at this;omega
  rw[Ag,if_neg hk.1,if_neg hk.2.1,if_neg hk.2.2,Bl h.1,C2 h1.2]
structure PV where
 k:Nat
 y:Bool
 n:Int
 t:List UInt8
 r:Option Nat
def Nb:PV:=⟨0,false,0,[],none⟩
structure G4 where
 op:Nat
 arg:Int
 line:Nat
 v:PV
structure Em where
 loc:List Nm
 slots:Nat
 st:List G4
 lps:List (Nat×List Nat)
def Em.step(o:Nat)(a:Int)(ln:Nat)(e:Em):Em:=⟨e.loc,e.slots,e.st++[⟨o,a,ln,Nb⟩],e.lps⟩
def Em.Kn(v:PV)(e:Em):Em:=⟨e.loc,e.slots,e.st++[⟨0,0,0,v⟩],e.lps⟩
def N8:Nat->Int->List G4->List G4
 | _,_,[]=>[]
 | 0,a,i::r=>⟨i.op,a,i.line,i.v⟩::r
 | j+1,a,i::r=>i::N8 j a r
def Em.land(j:Nat)(e:Em):Em:=⟨e.loc,e.slots,N8 j (e.st.length:Nat) e.st,e.lps⟩
def Em.Iw:List Nat->Em->Em
 | [],e=>e
 | j::r,e=>Em.Iw r (e.land j)
def Ob(s:Nm):List Nm->Option Nat
 | []=>none
 | x::r=>match Ob s r with
  | some i=>some (i+1)
  | none=>if x=s then some 0 else none
def O8(s:Nm):List Nm->Option Nat
 | []=>none
 | x::r=>if x=s then some 0 else match O8 s r with
  | some i=>some (i+1)
  | none=>none
def Em.var(gl:List Nm)(s:Nm)(lo gb:Nat)(e:Em):Em:=match Ob s e.loc with
 | some i=>e.step lo (i:Nat) 0
 | none=>match O8 s gl with
  | some i=>e.step gb (i:Nat) 0
  | none=>e
def O9(fns:List (Nm×Nat))(s:Nm):Int:=match O8 s (fns.map Prod.fst) with
 | some i=>(i:Nat)
 | none=>-1
def binOp(s:Nat):Nat:=
 if s=40 then 10 else if s=39 then 9 else if s=27 then 25 else if s=29 then 26 else if s=30 then 29 else if s=31 then 31 else if s=32 then 28
 else if s=33 then 30 else if s=34 then 12 else if s=35 then 15 else if s=36 then 17 else if s=37 then 19 else 21
def Em.M0(e:Em):Em:=match e.lps with
 | []=>e
 | (s,bs)::r=>⟨e.loc,e.slots,e.st++[⟨6,0,0,Nb⟩],(s,bs++[e.st.length])::r⟩
def Em.cnt(e:Em):Em:=match e.lps with
 | []=>e
 | (s,_)::_=>e.step 6 (s:Nat) 0
def Em.local'(s:Nm)(e:Em):Em:=⟨e.loc++[s],max e.slots (e.loc.length+1),e.st,e.lps⟩
def Em.cut(n:Nat)(e:Em):Em:=⟨e.loc.take n,e.slots,e.st,e.lps⟩
def Em.open'(e:Em):Em:=⟨e.loc,e.slots,e.st,(e.st.length,[])::e.lps⟩
def Em.close(e:Em):Em:=⟨e.loc,e.slots,e.st,e.lps.tail⟩
def Em.Sr(e:Em):List Nat:=match e.lps with
 | []=>[]
 | (_,bs)::_=>bs
def Mf(line n:Nat)(k:Nat->Em->Em)(e:Em):Em:=
 let a:=k 1 e
 let b:=k 2 (a.step 8 0 line)
 let d:=(b.step 6 0 0).land a.st.length
 (if n=3 then k 3 d else d).land b.st.length
def N4(line:Nat)(k:Nat->Em->Em)(e:Em):Em:=
 let a:=k 1 e.open'
 let b:=k 2 (a.step 7 0 line)
 let d:=(b.step 6 (e.st.length:Nat) 0).land a.st.length
 (d.Iw d.Sr).close
def No(o line:Nat)(k:Nat->Em->Em)(e:Em):Em:=
 let a:=k 1 e
 let b:=k 2 (a.step o 0 line)
 (b.step 11 0 line).land a.st.length
def Am(fns:List (Nm×Nat))(gl:List Nm)(l:A2)(n:Nat)(k:Nat->Em->Em)(e:Em):Em:=
 match l.kd with
 | 1=>e.Kn ⟨2,false,l.n,[],none⟩
 | 2=>e.Kn ⟨3,false,0,l.s,none⟩
 | 3=>e.Kn ⟨1,true,0,[],none⟩
 | 4=>e.Kn ⟨1,false,0,[],none⟩
 | 5=>e.Kn Nb
 | 6=>e.var gl l.s 1 2
 | 7=>(k 0 e).step 42 (O9 fns l.s) l.line
 | 8=>k 0 e
 | 9=>(k 0 e).step 36 (n:Nat) l.line
 | 10=>(k 0 e).step 37 0 l.line
 | 11=>(k 0 e).step 38 0 l.line
 | 12=>(k 0 e).step 39 0 l.line
 | 13=>(k 0 e).step 27 0 l.line
 | 14=>(k 0 e).step 23 0 l.line
 | 21=>((k 0 e).local' l.s).step 3 ((k 0 e).loc.length:Nat) 0
 | 22=>Mf l.line n k e
 | 23=>N4 l.line k e
 | 24=>if n=0 then e.step 43 0 0 else(k 0 e).step 44 0 0
 | 25=>e.M0
 | 26=>e.cnt
 | 27=>(k 0 e).step 41 0 l.line
 | 28=>(k 0 e).var gl l.s 3 4
 | 29=>(k 0 e).step 40 0 l.line
 | 30=>(k 0 e).step 5 0 0
 | 31=>(k 0 e).cut e.loc.length
 | 32=>(k 0 e).cut e.loc.length
 | kd=>if kd=139\/kd=140 then No (binOp (kd-100)) l.line k e else(k 0 e).step (binOp (kd-100)) 0 l.line
def em(fns:List (Nm×Nat))(gl:List Nm):BT A2->Nat->Em->Em
 | .nil,_,e=>e
 | .node _ _ l c r,m,e=>
  if 2<=m then em fns gl r (m-1) e
  else if m=1 then Am fns gl l (A8 c) (fun m' e'=>em fns gl c m' e') e
  else em fns gl r 0 (Am fns gl l (A8 c) (fun m' e'=>em fns gl c m' e') e)
structure Fn where
 name:Nm
 params:Nat
 slots:Nat
 steps:List G4
structure Pc where
 globals:Nat
 slots:Nat
 main:List G4
 fns:List Fn
def N3(fns:List (Nm×Nat))(gl:List Nm)(l:A2)(c:BT A2):Fn:=
 let e:=(em fns gl c 0 ⟨l.ps.map Prod.snd,l.ps.length,[],[]⟩).step 43 0 0
 ⟨l.s,l.ps.length,e.slots,e.st⟩
def Np(fns:List (Nm×Nat)):BT A2->List Nm->List Fn->Em->Pc
 | .nil,gl,fs,e=>⟨gl.length,e.slots,e.st,fs⟩
 | .node _ _ l c r,gl,fs,e=>
  if l.kd=20 then Np fns r gl (fs++[N3 fns gl l c]) e
  else if l.kd=21 then Np fns r (gl++[l.s]) fs ((em fns gl c 0 e).step 4 (gl.length:Nat) 0)
  else Np fns r gl fs (em fns gl (nd l c) 0 e)
def Qp(c:BT A2):Pc:=Np (Bf c) c [] [] ⟨[],0,[],[]⟩
theorem Qq(fns:List (Nm×Nat))(gl:List Nm)(x y:Nat)(l:A2)(c r:BT A2)(e:Em):em fns gl (.node x y l c r) 1 e=Am fns gl l (A8 c) (em fns gl c) e:=rfl
theorem Jk(fns:List (Nm×Nat))(gl:List Nm)(x y:Nat)(l:A2)(c r:BT A2)(e:Em):em fns gl (.node x y l c r) 0 e=em fns gl r 0 (Am fns gl l (A8 c) (em fns gl c) e):=rfl
theorem Yg(fns:List (Nm×Nat))(gl:List Nm)(l:A2)(c:BT A2)(e:Em):em fns gl (nd l c) 0 e=Am fns gl l (A8 c) (em fns gl c) e:=rfl
theorem T1(fns:List (Nm×Nat))(gl:List Nm)(x y:Nat)(l:A2)(c r:BT A2)(e:Em):em fns gl (.node x y l c r) 2 e=em fns gl r 1 e:=rfl
theorem A59(fns:List (Nm×Nat))(gl:List Nm)(x y:Nat)(l:A2)(c r:BT A2)(e:Em):em fns gl (.node x y l c r) 3 e=em fns gl r 2 e:=rfl
end
end Go.Proofs.YtjdlndhfaaolaaaGreatDoor
