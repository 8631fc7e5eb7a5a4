import Derived.Test.YtjdlndhfaaolaaaGreatDoorR27
set_option maxHeartbeats 20000000
namespace Go.Proofs.YtjdlndhfaaolaaaGreatDoor
section
open Go.Deep (BT)
def E2:BT A2->BT A2
 | .nil=>.nil
 | .node x y l c r=>if l.kd=8 then B6 (E2 c) (E2 r) else .node x y l (E2 c) (E2 r)
def Hs:BT A2->Prop
 | .nil=>True
 | .node _ _ l c r=>l.kd≠8/\(l.kd=23->∃x1 y1 l1 c1 x2 y2 l2 c2,c=.node x1 y1 l1 c1 (.node x2 y2 l2 c2 .nil)/\l1.kd≠32/\l2.kd=32)/\(l.kd≠23->Dq c)/\Hs c/\Hs r
theorem A27:∀f:BT A2,B6 f .nil=f:=by
 intro f;induction f with
 | nil=>rfl
 | node x y l c r _ ih=>rw[B6,ih]
theorem Adb:∀f g:BT A2,E2 (B6 f g)=B6 (E2 f) (E2 g):=by
 intro f;induction f with
 | nil=>intro g;rfl
 | node x y l c r _ ih=>
  intro g;rw[B6,E2,E2,ih];split
  ·rw[Uq]
  ·rfl
theorem Sh:∀f:BT A2,Ek f->A8 (E2 f)=A8 f:=by
 intro f;induction f with
 | nil=>intro _;rfl
 | node x y l c r C2 Bl=>
  intro h;rw[E2];split
  ·rename_i h8;rw[Mr,C2 h.2.2.2.1,Bl h.2.2.2.2,h.1 h8,A8];omega
  ·rw[A8,A8,Bl h.2.2.2.2]
theorem Ade:∀f:BT A2,bsize (E2 f)<=bsize f:=by
 intro f;induction f with
 | nil=>exact Nat.le_refl _
 | node x y l c r C2 Bl=>
  rw[E2];split
  ·rw[Mv,bsize];omega
  ·rw[bsize,bsize];omega
theorem Wn:∀f:BT A2,Ek f->Dq f->Dq (E2 f):=by
 intro f;induction f with
 | nil=>intro _ _;trivial
 | node x y l c r C2 Bl=>
  intro h ht;rw[E2];split
  ·rename_i h8;exact Dq.app _ _ (C2 h.2.2.2.1 (h.2.2.1 (by omega))) (Bl h.2.2.2.2 ht.2)
  ·exact⟨ht.1,Bl h.2.2.2.2 ht.2⟩
theorem Hs.app:∀f g:BT A2,Hs f->Hs g->Hs (B6 f g):=by
 intro f;induction f with
 | nil=>intro g _ h;exact h
 | node x y l c r _ ih=>intro g h1 h2;exact⟨h1.1,h1.2.1,h1.2.2.1,h1.2.2.2.1,ih g h1.2.2.2.2 h2⟩
theorem Adc:∀f:BT A2,Ek f->Hs (E2 f):=by
 intro f;induction f with
 | nil=>intro _;trivial
 | node x y l c r C2 Bl=>
  intro h;rw[E2];split
  ·exact Hs.app _ _ (C2 h.2.2.2.1) (Bl h.2.2.2.2)
  ·rename_i h8;refine⟨h8,fun e=>?_,fun e=>Wn _ h.2.2.2.1 (h.2.2.1 e),C2 h.2.2.2.1,Bl h.2.2.2.2⟩;obtain⟨q,b,e1,e2,e3⟩:=h.2.1 e;have hs:=h.2.2.2.1;rw[e1]at hs ⊢;have hq:Ek q:=by
    clear e1 e2 e3 C2 Bl h;induction q with
    | nil=>trivial
    | node x' y' l' c' r' _ ih=>exact⟨hs.1,hs.2.1,hs.2.2.1,hs.2.2.2.1,ih hs.2.2.2.2⟩
   have hl:=Sh q hq;have ht:=Wn q hq e3;rw[Adb];have hn:E2 (nd (Ao 32 0) b)=.node 0 0 (Ao 32 0) (E2 b) .nil:=by unfold nd;rw[E2,if_neg (by show(32:Nat)≠8;decide)];rfl
   rw[hn];cases hu:E2 q with
   | nil=>rw[hu,e2]at hl;simp[A8]at hl
   | node x' y' l' c' r'=>
    rw[hu]at hl ht;have hr':r'=.nil:=by
     cases r' with
     | nil=>rfl
     | node a b c d e=>rw[e2]at hl;simp[A8]at hl
    subst hr';exact⟨_,_,_,_,_,_,_,_,rfl,ht.1,rfl⟩
theorem Aau(fns:List (Nm×Nat)):∀(f g:BT A2) (outer cur:List Nm) (wh:Nat) (inn:Bool) (v:B3),
  Ag fns (B6 f g) outer cur wh inn v=Ag fns g outer (Ag fns f outer cur wh inn v).1 wh inn (Ag fns f outer cur wh inn v).2:=by
 intro f;induction f with
 | nil=>intro g outer cur wh inn v;rfl
 | node x y l c r _ ih=>
  intro g outer cur wh inn v;rw[B6,Sb,ih,Sb fns x y l c r]
theorem o9(fns:List (Nm×Nat)):∀(f:BT A2),Ek f->∀(outer cur:List Nm) (wh:Nat) (inn:Bool) (v:B3),Ag fns (E2 f) outer cur wh inn v=Ag fns f outer cur wh inn v:=by
 intro f;induction f with
 | nil=>intro _ outer cur wh inn v;rfl
 | node x y l c r C2 Bl=>
  intro h outer cur wh inn v;have i1:=C2 h.2.2.2.1;have i2:=Bl h.2.2.2.2;rw[E2];split
  ·rename_i h8;rw[Aau,i1,i2];conv=>rhs;rw[Ag]
   rw[if_neg (by omega),if_neg (by omega),if_neg (by omega)];simp only[h8];rfl
  ·simp only[Ag,i1,i2,Sh c h.2.2.2.1]
theorem M8(fns:List (Nm×Nat)):∀(f:BT A2) (outer cur:List Nm) (wh:Nat) (inn:Bool) (v:B3),(Ag fns f outer cur wh inn v).1.length<=cur.length+bsize f:=by
 intro f;induction f with
 | nil=>intro outer cur wh inn v;simp[Ag,bsize]
 | node x y l c r C2 Bl=>
  intro outer cur wh inn v;rw[bsize];by_cases h1:l.kd=31
  ·simp only[Ag,if_pos h1];exact Nat.le_trans (Bl _ _ _ _ _) (by omega)
  by_cases h2:l.kd=32
  ·simp only[Ag,if_neg h1,if_pos h2];exact Nat.le_trans (Bl _ _ _ _ _) (by omega)
  by_cases h3:l.kd=21
  ·simp only[Ag,if_neg h1,if_neg h2,if_pos h3];refine Nat.le_trans (Bl _ _ _ _ _) ?_;rw[List.length_append,List.length_singleton];have:=C2 outer cur wh inn (Bu (decide (l.s∈cur)) 3 l.line v);omega
  ·simp only[Ag,if_neg h1,if_neg h2,if_neg h3];refine Nat.le_trans (Bl _ _ _ _ _) ?_;exact Nat.le_trans (Nat.add_le_add_right (C2 _ _ _ _ _) _) (by omega)
def Mw(kd:Nat):Bool:=(decide (1<=kd)&&decide (kd<=14))||(decide (21<=kd)&&decide (kd<=32))||(decide (127<=kd)&&decide (kd<=140))
def Kd:BT A2->Prop
 | .nil=>True
 | .node _ _ l c r=>Mw l.kd=true/\Kd c/\Kd r
def Jh:BT A2->Prop
 | .nil=>True
 | .node _ _ l c r=>(l.kd=20\/Mw l.kd=true)/\Kd c/\Jh r
theorem Kd.app:∀f g:BT A2,Kd f->Kd g->Kd (B6 f g):=by
 intro f;induction f with
 | nil=>intro g _ h;exact h
 | node x y l c r _ ih=>intro g h1 h2;exact⟨h1.1,h1.2.1,ih g h1.2.2 h2⟩
theorem Jh.app:∀f g:BT A2,Jh f->Jh g->Jh (B6 f g):=by
 intro f;induction f with
 | nil=>intro g _ h;exact h
 | node x y l c r _ ih=>intro g h1 h2;exact⟨h1.1,h1.2.1,ih g h1.2.2 h2⟩
theorem Kd.top:∀f:BT A2,Kd f->Jh f:=by
 intro f;induction f with
 | nil=>intro h;exact h
 | node x y l c r _ ih=>intro h;exact⟨.inr h.1,h.2.1,ih h.2.2⟩
theorem Kd.nd{l:A2}{c:BT A2}(h:Mw l.kd=true)(hc:Kd c):Kd (nd l c):=⟨h,hc,trivial⟩
theorem Kd.kids{f:BT A2}(h:Kd f):Kd (M6 f):=by
 cases f with
 | nil=>trivial
 | node x y l c r=>exact h.2.1
theorem Kd.E2:∀f:BT A2,Kd f->Kd (E2 f):=by
 intro f;induction f with
 | nil=>intro h;exact h
 | node x y l c r C2 Bl=>
  intro h;rw[YtjdlndhfaaolaaaGreatDoor.E2];split
  ·exact Kd.app _ _ (C2 h.2.1) (Bl h.2.2)
  ·exact⟨h.1,C2 h.2.1,Bl h.2.2⟩
theorem Zr:∀n t a acc s r,A7 n t a acc s=some r->t<=9->Kd acc->Kd r.1:=by
 intro n;induction n with
 | zero=>intro t a acc s r hr;exact absurd hr (Cc _ _ _ _ _)
 | succ n ih=>
  intro t a acc s r hr ht9 hacc;have sub:∀{t1 a1:Nat} {s1:PS} {x:BT A2×PS},t1<=9->A7 n t1 a1 .nil s1=some x->Kd x.1:=fun h1 h2=>ih _ _ _ _ _ h2 h1 trivial;have one:∀{y:BT A2} {s1:PS},some (y,s1)=some r->Kd y->Kd r.1:=fun hh he=>by cases hh;exact he
  rw[A7]at hr;by_cases t0:t=0
  ·rw[if_pos t0]at hr;by_cases a6:a=6
   ·rw[if_pos a6]at hr;exact sub (by decide) hr
   ·rw[if_neg a6]at hr;obtain⟨x,k1,k2⟩:=bind_some hr;exact ih _ _ _ _ _ k2 (by decide) (sub (by decide) k1)
  rw[if_neg t0]at hr;by_cases t1:t=1
  ·rw[if_pos t1]at hr;by_cases hk:rowOf (kT s)=a+1
   ·rw[if_pos hk]at hr;obtain⟨y,k1,k2⟩:=bind_some hr;refine ih _ _ _ _ _ k2 (by decide) (Kd.nd ?_ (Kd.app _ _ hacc (sub (by decide) k1)));show Mw (100+kT s)=true;have:27<=kT s/\kT s<=40:=by
     unfold rowOf at hk;repeat' split at hk
     all_goals omega
    unfold Mw;simp only[Bool.or_eq_true,Bool.and_eq_true,decide_eq_true_eq];omega
   ·rw[if_neg hk]at hr;exact one hr hacc
  rw[if_neg t1]at hr;by_cases t2:t=2
  ·rw[if_pos t2]at hr;by_cases d1:kT s=28
   ·rw[if_pos d1]at hr;obtain⟨x,k1,k2⟩:=bind_some hr;exact one k2 (Kd.nd rfl (sub (by decide) k1))
   rw[if_neg d1]at hr;by_cases d2:kT s=35
   ·rw[if_pos d2]at hr;obtain⟨x,k1,k2⟩:=bind_some hr;exact one k2 (Kd.nd rfl (sub (by decide) k1))
   rw[if_neg d2]at hr;obtain⟨x,k1,k2⟩:=bind_some hr;exact ih _ _ _ _ _ k2 (by decide) (sub (by decide) k1)
  rw[if_neg t2]at hr;by_cases t3:t=3
  ·rw[if_pos t3]at hr;by_cases d1:kT s=22
   ·rw[if_pos d1]at hr;obtain⟨y,k1,k2⟩:=bind_some hr;exact ih _ _ _ _ _ k2 (by decide) (Kd.nd rfl (Kd.app _ _ hacc (sub (by decide) k1)))
   ·rw[if_neg d1]at hr;exact one hr hacc
  rw[if_neg t3]at hr;by_cases t4:t=4
  ·rw[if_pos t4]at hr;by_cases d1:kT s=2
   ·rw[if_pos d1]at hr;exact one hr (Kd.nd rfl trivial)
   rw[if_neg d1]at hr;by_cases d2:kT s=3
   ·rw[if_pos d2]at hr;exact one hr (Kd.nd rfl trivial)
   rw[if_neg d2]at hr;by_cases d3:kT s=13
   ·rw[if_pos d3]at hr;exact one hr (Kd.nd rfl trivial)
   rw[if_neg d3]at hr;by_cases d4:kT s=14
   ·rw[if_pos d4]at hr;exact one hr (Kd.nd rfl trivial)
   rw[if_neg d4]at hr;by_cases d5:kT s=15
   ·rw[if_pos d5]at hr;exact one hr (Kd.nd rfl trivial)
   rw[if_neg d5]at hr;by_cases d6:kT s=1
   ·rw[if_pos d6]at hr;by_cases d7:kT (Aa s)=18
    ·rw[if_pos d7]at hr;obtain⟨x,k1,k2⟩:=bind_some hr;exact one k2 (Kd.nd rfl (sub (by decide) k1))
    ·rw[if_neg d7]at hr;exact one hr (Kd.nd rfl trivial)
   rw[if_neg d6]at hr;by_cases d7:kT s=18
   ·rw[if_pos d7]at hr;obtain⟨x,k1,k2⟩:=bind_some hr;exact one k2 (Kd.nd rfl (sub (by decide) k1))
   rw[if_neg d7]at hr;by_cases d8:kT s=22
   ·rw[if_pos d8]at hr;obtain⟨x,k1,k2⟩:=bind_some hr;exact one k2 (Kd.nd rfl (sub (by decide) k1))
   rw[if_neg d8]at hr;by_cases d9:kT s=16
   ·rw[if_pos d9]at hr;obtain⟨x,k1,k2⟩:=bind_some hr;exact one k2 (Kd.nd rfl (sub (by decide) k1))
   rw[if_neg d9]at hr;by_cases d10:kT s=17
   ·rw[if_pos d10]at hr;obtain⟨x,k1,k2⟩:=bind_some hr;obtain⟨y,k3,k4⟩:=bind_some k2;exact one k4 (Kd.nd rfl (Kd.app _ _ (sub (by decide) k1) (sub (by decide) k3)))
   rw[if_neg d10]at hr;exact one hr trivial
  rw[if_neg t4]at hr;by_cases t5:t=5
  ·rw[if_pos t5]at hr;by_cases d1:kT s=a
   ·rw[if_pos d1]at hr;exact one hr trivial
   ·rw[if_neg d1]at hr;obtain⟨x,k1,k2⟩:=bind_some hr;exact ih _ _ _ _ _ k2 (by decide) (sub (by decide) k1)
  rw[if_neg t5]at hr;by_cases t6:t=6
  ·rw[if_pos t6]at hr;by_cases d1:kT s=24
   ·rw[if_pos d1]at hr;obtain⟨y,k1,k2⟩:=bind_some hr;exact ih _ _ _ _ _ k2 (by decide) (Kd.app _ _ hacc (sub (by decide) k1))
   ·rw[if_neg d1]at hr;exact one hr hacc
  rw[if_neg t6]at hr;by_cases t7:t=7
  ·rw[if_pos t7]at hr;exact sub (by decide) hr
  rw[if_neg t7]at hr;by_cases t8:t=8
  ·rw[if_pos t8]at hr;by_cases d1:kT s=21
   ·rw[if_pos d1]at hr;exact one hr hacc
   rw[if_neg d1]at hr;by_cases d2:s.bad≠0
   ·rw[if_pos d2]at hr;exact one hr hacc
   rw[if_neg d2]at hr;obtain⟨x,k1,k2⟩:=bind_some hr;exact ih _ _ _ _ _ k2 (by decide) (Kd.app _ _ hacc (sub (by decide) k1))
  rw[if_neg t8,if_pos (by omega)]at hr;by_cases d1:kT s=5
  ·rw[if_pos d1]at hr;obtain⟨x,k1,k2⟩:=bind_some hr;exact one k2 (Kd.nd rfl (sub (by decide) k1))
  rw[if_neg d1]at hr;by_cases d2:kT s=6
  ·rw[if_pos d2]at hr;obtain⟨x,k1,k2⟩:=bind_some hr;obtain⟨y,k3,k4⟩:=bind_some k2;have hy:=sub (t1:=7) (by decide) k3;by_cases d3:kT y.2=7
   ·rw[if_pos d3]at k4;obtain⟨z,k5,k6⟩:=bind_some k4;exact one k6 (Kd.nd rfl (Kd.app _ _ (sub (by decide) k1) (Kd.app _ _ (Kd.nd rfl hy) (Kd.nd rfl (sub (by decide) k5)))))
   ·rw[if_neg d3]at k4;exact one k4 (Kd.nd rfl (Kd.app _ _ (sub (by decide) k1) (Kd.nd rfl hy)))
  rw[if_neg d2]at hr;by_cases d3:kT s=8
  ·rw[if_pos d3]at hr;obtain⟨x,k1,k2⟩:=bind_some hr;obtain⟨y,k3,k4⟩:=bind_some k2;exact one k4 (Kd.nd rfl (Kd.app _ _ (sub (by decide) k1) (Kd.nd rfl (sub (by decide) k3))))
  rw[if_neg d3]at hr;by_cases d4:kT s=9
  ·rw[if_pos d4]at hr;by_cases d5:kT (Aa s)=25
   ·rw[if_pos d5]at hr;exact one hr (Kd.nd rfl trivial)
   ·rw[if_neg d5]at hr;obtain⟨x,k1,k2⟩:=bind_some hr;exact one k2 (Kd.nd rfl (sub (by decide) k1))
  rw[if_neg d4]at hr;by_cases d5:kT s=10
  ·rw[if_pos d5]at hr;exact one hr (Kd.nd rfl trivial)
  rw[if_neg d5]at hr;by_cases d6:kT s=11
  ·rw[if_pos d6]at hr;exact one hr (Kd.nd rfl trivial)
  rw[if_neg d6]at hr;by_cases d7:kT s=12
  ·rw[if_pos d7]at hr;obtain⟨x,k1,k2⟩:=bind_some hr;exact one k2 (Kd.nd rfl (sub (by decide) k1))
  rw[if_neg d7]at hr;obtain⟨x,k1,k2⟩:=bind_some hr;have hx:=sub (t1:=0) (by decide) k1;by_cases d8:Lh x.1=true/\kT x.2=26
  ·rw[if_pos d8]at k2;obtain⟨v,k3,k4⟩:=bind_some k2;have hv:=sub (t1:=0) (by decide) k3;refine one k4 ?_;unfold setNode;split
   ·exact Kd.nd rfl hv
   ·exact Kd.nd rfl (Kd.app _ _ hx.kids hv)
  rw[if_neg d8]at k2;by_cases d9:kT x.2=26
  ·rw[if_pos d9]at k2;obtain⟨v,k3,k4⟩:=bind_some k2;exact one k4 (Kd.nd rfl hx)
  ·rw[if_neg d9]at k2;exact one k2 (Kd.nd rfl hx)
theorem A8z:∀n acc s r,A7 n 10 0 acc s=some r->Jh acc->Jh r.1:=by
 intro n;induction n with
 | zero=>intro acc s r hr;exact absurd hr (Cc _ _ _ _ _)
 | succ n ih=>
  intro acc s r hr hacc;rw[A7,if_neg (by decide),if_neg (by decide),if_neg (by decide),if_neg (by decide),if_neg (by decide),if_neg (by decide),if_neg (by decide),if_neg (by decide),if_neg (by decide),if_neg (by decide),if_pos rfl]at hr;by_cases d1:kT s=0
  ·rw[if_pos d1]at hr;cases hr;exact hacc
  rw[if_neg d1]at hr;by_cases d2:kT s=4
  ·rw[if_pos d2]at hr;obtain⟨x,k1,k2⟩:=bind_some hr;refine ih _ _ _ k2 (Jh.app _ _ hacc ?_);cases n with
   | zero=>exact absurd k1 (Cc _ _ _ _ _)
   | succ m=>
    obtain⟨p,b,_,h2,e⟩:=Rz k1;rw[e];exact⟨.inl rfl,Zr _ _ _ _ _ _ h2 (by decide) trivial,trivial⟩
  ·rw[if_neg d2]at hr;obtain⟨x,k1,k2⟩:=bind_some hr;exact ih _ _ _ k2 (Jh.app _ _ hacc (Zr _ _ _ _ _ _ k1 (by decide) trivial).top)
theorem Jh.E2:∀f:BT A2,Jh f->Jh (E2 f):=by
 intro f;induction f with
 | nil=>intro h;exact h
 | node x y l c r C2 Bl=>
  intro h;rw[YtjdlndhfaaolaaaGreatDoor.E2];split
  ·exact Jh.app _ _ (Kd.top _ (Kd.E2 c h.2.1)) (Bl h.2.2)
  ·exact⟨h.1,Kd.E2 c h.2.1,Bl h.2.2⟩
theorem Zn{kd:Nat}(h:Mw kd=true):kd≠20:=by
 intro e;subst e;exact absurd h (by decide)
theorem A5r:∀f g:BT A2,Kd f->Bf (B6 f g)=Bf g:=by
 intro f;induction f with
 | nil=>intro g _;rfl
 | node x y l c r _ ih=>intro g h;rw[B6,Qt _ _ _ _ _ (Zn h.1)];exact ih g h.2.2
theorem Yu:∀f:BT A2,Jh f->Bf (E2 f)=Bf f:=by
 intro f;induction f with
 | nil=>intro _;rfl
 | node x y l c r _ ih=>
  intro h;rw[E2];split
  ·rename_i h8;rw[A5r _ _ (Kd.E2 c h.2.1),ih h.2.2,Qt _ _ _ _ _ (by omega)]
  ·rw[Bf,Bf,ih h.2.2]
theorem Aar(fns:List (Nm×Nat)):∀(f g:BT A2),Kd f->∀(seen cur:List Nm) (v:B3),Dj fns (B6 f g) seen cur v=Dj fns g seen (Ag fns f [] cur 0 false v).1 (Ag fns f [] cur 0 false v).2:=by
 intro f;induction f with
 | nil=>intro g _ seen cur v;rfl
 | node x y l c r _ ih=>
  intro g h seen cur v;rw[B6,R6 _ _ _ _ _ _ _ _ _ (Zn h.1),ih g h.2.2,Sb fns x y l c r]
theorem Aat(fns:List (Nm×Nat)):∀(f:BT A2),Ek f->Jh f->∀(seen cur:List Nm) (v:B3),Dj fns (E2 f) seen cur v=Dj fns f seen cur v:=by
 intro f;induction f with
 | nil=>intro _ _ seen cur v;rfl
 | node x y l c r _ ih=>
  intro hs hk seen cur v;have i2:=ih hs.2.2.2.2 hk.2.2;have Ad:Ek (.node x y l c .nil):=⟨hs.1,hs.2.1,hs.2.2.1,hs.2.2.2.1,trivial⟩;have i1:=o9 fns (.node x y l c .nil) Ad;rw[E2]at i1 ⊢;by_cases h8:l.kd=8
  ·rw[if_pos h8]at i1 ⊢;rw[show E2 .nil=.nil from rfl,A27]at i1;rw[Aar fns _ _ (Kd.E2 c hk.2.1),i1,i2,R6 _ _ _ _ _ _ _ _ _ (by omega)]
  ·rw[if_neg h8]at i1 ⊢;by_cases h20:l.kd=20
   ·rw[Tu _ _ _ _ _ _ _ _ _ h20,Tu _ _ _ _ _ _ _ _ _ h20,i2,o9 fns c hs.2.2.2.1]
   ·rw[R6 _ _ _ _ _ _ _ _ _ h20,R6 _ _ _ _ _ _ _ _ _ h20,i2];rw[show E2 .nil=.nil from rfl]at i1;rw[i1]
def K7(l:List UInt8):B3×List (Nm×Nat):=
 if 2000<l.length then((1,0),[])
 else match lex (l.length+1) l 1 false with
  | .inl n=>((2,n),[])
  | .inr ts=>
   match A7 100000 10 0 .nil ⟨ts,0⟩ with
   | none=>((0,0),[])
   | some r=>
    if r.2.bad≠0 then((2,r.2.bad),[])
    else if nest ts 0≠0 then((1,nest ts 0),[])
    else if(Dj (Bf r.1) r.1 [] [] (0,0)).1≠0 then(Dj (Bf r.1) r.1 [] [] (0,0),[])
    else((0,0),Bf r.1)
theorem b5{m:Nat}{ts:List Tk}(h:Gk 1 m ts)(hl:ts.length<=2001):∃r,A7 100000 10 0 .nil ⟨ts,0⟩=some r/\Jh r.1/\(r.2.bad=0->Ek r.1/\Dq r.1/\bsize r.1<=4002):=by
 have hw:WF ⟨ts,0⟩:=⟨fun _=>Gk.ends (Nat.le_refl _) _ h,fun e=>absurd rfl e⟩;have hm:E6 ⟨ts,0⟩=ts.length:=by unfold E6;rw[if_pos rfl]
 obtain⟨r,hr⟩:=A88 100000 10 0 .nil ⟨ts,0⟩ hw (by omega) (by omega) (by rw[hm];show _+14<=_;omega);refine⟨r,hr,A8z _ _ _ _ hr trivial,fun hb=>?_⟩;obtain⟨k1,k2,k3,_⟩:=A85 _ _ _ _ _ _ hw hr hb trivial trivial (by unfold Dg;omega);refine⟨k1,k2,?_⟩;rw[hm]at k3;have:bsize (.nil:BT A2)=0:=rfl;omega
theorem Wh(l:List UInt8)(h:l.length<=2000):(∃n,lex (l.length+1) l 1 false=.inl n/\1<=n/\n<=2001)\/∃ts,lex (l.length+1) l 1 false=.inr ts/\ts.length<=2001/\Gk 1 2000 ts:=by
 have hf:=A6v (l.length+1) l 1 false;cases hx:lex (l.length+1) l 1 false with
 | inl n=>rw[hx]at hf;obtain⟨k1,k2⟩:=hf;exact .inl ⟨n,rfl,k1,by omega⟩
 | inr ts=>rw[hx]at hf;obtain⟨k1,k2⟩:=hf;exact .inr ⟨ts,rfl,by omega,Gk.weak (Nat.le_refl _) (by omega) _ k2⟩
theorem A77{m:Nat}:∀(ts:List Tk) (o:Int),(∀t∈ts,t.line<=m)->nest ts o<=m:=by
 intro ts;induction ts with
 | nil=>intro o _;exact Nat.zero_le _
 | cons t r ih=>
  intro o h;have h1:=h t (List.mem_cons_self ..);have h2:∀t∈r,t.line<=m:=fun t ht=>h t (List.mem_cons_of_mem _ ht);rw[nest];split
  ·split
   ·exact h1
   ·exact ih _ h2
  ·split
   ·exact ih _ h2
   ·exact ih _ h2
end
end Go.Proofs.YtjdlndhfaaolaaaGreatDoor
