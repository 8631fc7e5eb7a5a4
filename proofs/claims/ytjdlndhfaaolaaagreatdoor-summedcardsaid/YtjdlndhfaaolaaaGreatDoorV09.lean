import Derived.Test.YtjdlndhfaaolaaaGreatDoorV08
set_option maxHeartbeats 20000000
namespace Go.Proofs.YtjdlndhfaaolaaaGreatDoor
section
open Go.Deep (BT)
def Rs(a b:Em):Prop:=a.lps=b.lps/\a.loc=b.loc/\a.slots=b.slots
theorem Ac5(fns:List (Nm×Nat))(gl:List Nm)(l:A6)(n:Nat)(k:Nat->Em->Em)(hk:Iv l.kd=true)(h:∀m e,Rs (k m e) e)(e:Em):Rs (Ar fns gl l n k e) e:=by
 unfold Iv at hk;simp only[Bool.or_eq_true,Bool.and_eq_true,decide_eq_true_eq]at hk;have h0:=h 0 e;have hb:∀o ln,Rs (N2 o ln k e) e:=by
  intro o ln;have a1:=h 1 e;have a2:=h 2 ((k 1 e).step o 0 ln);exact⟨a2.1.trans a1.1,a2.2.1.trans a1.2.1,a2.2.2.trans a1.2.2⟩
 by_cases A1:127<=l.kd
 ·by_cases A8:l.kd<=138
  ·rw[A06 A1 A8];exact h0
  ·rw[A08 z4va];exact hb _ _
 ·have Ci:l.kd=1\/l.kd=2\/l.kd=3\/l.kd=4\/l.kd=5\/l.kd=6\/l.kd=7\/l.kd=8\/l.kd=9\/l.kd=10\/l.kd=11\/l.kd=12\/l.kd=13\/l.kd=14:=by omega
  rcases Ci with h|h|h|h|h|h|h|h|h|h|h|h|h|h
  ·rw[n9 h];exact⟨rfl,rfl,rfl⟩
  ·rw[p8 h];exact⟨rfl,rfl,rfl⟩
  ·rw[y8 h];exact⟨rfl,rfl,rfl⟩
  ·rw[A00 h];exact⟨rfl,rfl,rfl⟩
  ·rw[A01 h];exact⟨rfl,rfl,rfl⟩
  ·rw[A02 h];exact Q8 _ _ _ _ _
  ·rw[A03 h];exact h0
  ·rw[A04 h];exact h0
  ·rw[A05 h];exact h0
  ·rw[o6 h];exact h0
  ·rw[o7 h];exact h0
  ·rw[o8 h];exact h0
  ·rw[o9 h];exact h0
  ·rw[p7 h];exact h0
theorem A0f(fns:List (Nm×Nat))(gl:List Nm):∀(c:BT A6),Wf 0 c->∀(m:Nat) (e:Em),Rs (em fns gl c m e) e:=by
 intro c;induction c with
 | nil=>intro _ m e;exact⟨rfl,rfl,rfl⟩
 | node x y l c r Dr D8=>
  intro hw m e;obtain⟨w1,w2⟩:=hw;have hx:Iv l.kd=true/\Wf 0 c:=by
   rcases w2 with⟨_,h1,h2⟩|⟨h1,_⟩|⟨h1,_⟩|⟨h1,_⟩|⟨h1,_⟩|⟨h1,_⟩|⟨h1,_⟩
   ·exact⟨h1,h2⟩
   all_goals omega
  have hN:=Ac5 fns gl l (Ax c) (em fns gl c) hx.1 (fun m e=>Dr hx.2 m e) e;rw[em];split
  ·exact D8 w1 _ _
  ·split
   ·exact hN
   ·have:=D8 w1 0 (Ar fns gl l (Ax c) (em fns gl c) e);exact⟨this.1.trans hN.1,this.2.1.trans hN.2.1,this.2.2.trans hN.2.2⟩
theorem Nx(fns:List (Nm×Nat))(gl:List Nm)(l:A6)(c:BT A6)(hk:Iv l.kd=true)(hw:Wf 0 c)(e:Em):Rs (Ar fns gl l (Ax c) (em fns gl c) e) e:=A0f fns gl (nd l c) ⟨trivial,.inl ⟨.inl rfl,hk,hw⟩⟩ 0 e
theorem A09(fns:List (Nm×Nat))(gl:List Nm)(l:A6)(n:Nat)(k:Nat->Em->Em)(h:∀m e,e.loc.length<=(k m e).loc.length)(e:Em):e.loc.length<=(Ar fns gl l n k e).loc.length:=by
 have h0:=h 0 e;unfold Ar;split;all_goals try (first|exact Nat.le_refl _|exact h0)
 ·rw[(Q8 _ _ _ _ _).2.1];exact z4ca
 ·show _<=((k 0 e).loc++[l.s]).length;simp;omega
 ·unfold Lm;have a1:=h 1 e;have a2:(k 1 e).loc.length<=(k 2 ((k 1 e).step 8 0 l.line)).loc.length:=h 2 ((k 1 e).step 8 0 l.line);show _<=(if n=3 then _ else _:Em).loc.length;split
  ·have a3:(k 2 ((k 1 e).step 8 0 l.line)).loc.length<=_:=h 3 (((k 2 ((k 1 e).step 8 0 l.line)).step 6 0 0).land (k 1 e).st.length);omega
  ·show _<=(k 2 ((k 1 e).step 8 0 l.line)).loc.length;omega
 ·unfold Ln;show _<=(Em.Hx _ _).loc.length;rw[Xk];have a1:e.loc.length<=(k 1 e.open').loc.length:=h 1 e.open';have a2:(k 1 e.open').loc.length<=(k 2 ((k 1 e.open').step 7 0 l.line)).loc.length:=h 2 ((k 1 e.open').step 7 0 l.line);show _<=(k 2 ((k 1 e.open').step 7 0 l.line)).loc.length;omega
 ·split
  ·exact z4ca
  ·exact h0
 ·rw[(V4 e).2];exact z4ca
 ·rw[(V5 e).2];exact z4ca
 ·rw[(Q8 _ _ _ _ _).2.1];exact h0
 ·show _<=((k 0 e).loc.take e.loc.length).length;simp;omega
 ·show _<=((k 0 e).loc.take e.loc.length).length;simp;omega
 ·split
  ·unfold N2;have a1:=h 1 e;have a2:(k 1 e).loc.length<=(k 2 ((k 1 e).step (binOp (l.kd-100)) 0 l.line)).loc.length:=h 2 ((k 1 e).step (binOp (l.kd-100)) 0 l.line);show _<=(k 2 ((k 1 e).step (binOp (l.kd-100)) 0 l.line)).loc.length;omega
  ·exact h0
theorem Ach(fns:List (Nm×Nat))(gl:List Nm):∀(c:BT A6) (m:Nat) (e:Em),e.loc.length<=(em fns gl c m e).loc.length:=by
 intro c;induction c with
 | nil=>intro m e;exact Nat.le_refl _
 | node x y l c r Dr D8=>
  intro m e;rw[em];split
  ·exact D8 _ _
  ·split
   ·exact A09 _ _ _ _ _ Dr e
   ·exact Nat.le_trans (A09 fns gl l (Ax c) _ Dr e) (D8 _ _)
def Dj(e:Em):Prop:=∀x∈e.lps,x.2.length<=e.st.length/\∀j∈x.2,j<e.st.length
theorem Dj.up{e e':Em}(h:Dj e)(hl:e'.lps=e.lps)(hs:e.st.length<=e'.st.length):Dj e':=by
 intro x hx;rw[hl]at hx;exact⟨Nat.le_trans (h x hx).1 hs,fun j hj=>Nat.lt_of_lt_of_le ((h x hx).2 j hj) hs⟩
theorem Dj.step{e:Em}(h:Dj e)(o:Nat)(a:Int)(ln:Nat):Dj (e.step o a ln):=h.up rfl (by rw[Dy];omega)
theorem Dj.Jb{e:Em}(h:Dj e)(v:PV):Dj (e.Jb v):=h.up rfl (by rw[Wb];omega)
theorem Dj.land{e:Em}(h:Dj e)(j:Nat):Dj (e.land j):=h.up rfl (by rw[K5];exact Nat.le_refl _)
theorem Dj.Hx{e:Em}(h:Dj e)(l:List Nat):Dj (e.Hx l):=h.up (Xl l e) (by rw[Uh];exact Nat.le_refl _)
theorem Dj.var{e:Em}(h:Dj e)(gl:List Nm)(s:Nm)(a b:Nat):Dj (e.var gl s a b):=by
 unfold Em.var;split
 ·exact h.step _ _ _
 ·split
  ·exact h.step _ _ _
  ·exact h
theorem Dj.L6{e:Em}(h:Dj e):Dj e.L6:=by
 unfold Em.L6;split
 ·exact h
 ·rename_i s bs r hq;intro x hx;simp only[List.mem_cons]at hx;rcases hx with rfl|hx
  ·have:=h (s,bs) (by rw[hq];simp);simp only at this;refine⟨by simp;omega,fun j hj=>?_⟩;simp only[List.mem_append,List.mem_singleton]at hj;simp only[List.length_append,List.length_singleton];rcases hj with hj|hj
   ·have:=this.2 j hj;omega
   ·omega
  ·have:=h x (by rw[hq];simp[hx]);refine⟨by simp;omega,fun j hj=>?_⟩;have:=this.2 j hj;simp;omega
theorem Dj.cnt{e:Em}(h:Dj e):Dj e.cnt:=by
 unfold Em.cnt;split
 ·exact h
 ·exact h.step _ _ _
theorem Dj.open'{e:Em}(h:Dj e):Dj e.open':=by
 intro x hx;simp only[Em.open',List.mem_cons]at hx;rcases hx with rfl|hx
 ·exact⟨Nat.zero_le _,fun j hj=>by cases hj⟩
 ·exact h x hx
theorem Dj.close{e:Em}(h:Dj e):Dj e.close:=fun x hx=>h x (List.mem_of_mem_tail hx)
theorem Dj.cut{e:Em}(h:Dj e)(n:Nat):Dj (e.cut n):=h
theorem A07(fns:List (Nm×Nat))(gl:List Nm)(l:A6)(n:Nat)(k:Nat->Em->Em)(h:∀m e,Dj e->Dj (k m e))(e:Em)(he:Dj e):Dj (Ar fns gl l n k e):=by
 have h0:=h 0 e he;unfold Ar;split;all_goals try (first|exact he.Jb _|exact h0|exact h0.step _ _ _|exact h0.cut _)
 ·exact he.var _ _ _ _
 ·unfold Lm;refine Dj.land ?_ _;split
  ·exact h _ _ ((((h _ _ ((h _ _ he).step _ _ _)).step _ _ _).land _))
  ·exact((h _ _ ((h _ _ he).step _ _ _)).step _ _ _).land _
 ·unfold Ln;exact(((((h _ _ ((h _ _ he.open').step _ _ _)).step _ _ _).land _).Hx _).close)
 ·split
  ·exact he.step _ _ _
  ·exact h0.step _ _ _
 ·exact he.L6
 ·exact he.cnt
 ·exact h0.var _ _ _ _
 ·split
  ·unfold N2;exact((h _ _ ((h _ _ he).step _ _ _)).step _ _ _).land _
  ·exact h0.step _ _ _
theorem U8(fns:List (Nm×Nat))(gl:List Nm):∀(c:BT A6) (m:Nat) (e:Em),Dj e->Dj (em fns gl c m e):=by
 intro c;induction c with
 | nil=>intro m e h;exact h
 | node x y l c r Dr D8=>
  intro m e h;rw[em];split
  ·exact D8 _ _ h
  ·split
   ·exact A07 _ _ _ _ _ Dr e h
   ·exact D8 _ _ (A07 fns gl l (Ax c) _ Dr e h)
theorem U7(fns:List (Nm×Nat))(gl:List Nm)(l:A6)(c:BT A6)(e:Em)(h:Dj e):Dj (Ar fns gl l (Ax c) (em fns gl c) e):=U8 fns gl (nd l c) 0 e h
theorem Afo:∀(a b:List Nat) (e:Em),e.Hx (a++b)=(e.Hx a).Hx b:=by
 intro a;induction a with
 | nil=>intro b e;rfl
 | cons x r ih=>intro b e;exact ih b (e.land x)
theorem Afp(bs:List Nat)(i:Nat)(h:i<bs.length)(e:Em):e.Hx (bs.take (i+1))=(e.Hx (bs.take i)).land bs[i]:=by
 rw[List.take_succ_eq_append_getElem h,Afo];rfl
def Np:BT A6->Prop
 | .nil=>True
 | .node _ _ l c r=>(if l.kd=20 then Lp c 0 else Lp (nd l c) 0)/\Np r
theorem Ahy:∀(ps:List (Nat×Nm)) (cur:List Nm) (f:Ct),(J4 ps cur f).2.1=0->f.1=0:=by
 intro ps;induction ps with
 | nil=>intro cur f h;exact h
 | cons p r ih=>
  intro cur f h;rw[J4]at h;exact(Qb z4va (ih _ _ h)).1
theorem Akn(fns:List (Nm×Nat)):∀(c:BT A6) (seen cur:List Nm) (f:Ct),(Et fns c seen cur f).1=0->f.1=0/\Np c:=by
 intro c;induction c with
 | nil=>intro seen cur f h;exact⟨h,trivial⟩
 | node x y l c r Dr D8=>
  intro seen cur f h;rw[Et]at h;by_cases h20:l.kd=20
  ·rw[if_pos h20]at h;obtain⟨a1,a2⟩:=D8 _ _ _ h;obtain⟨b1,b2⟩:=A3q fns c _ _ _ _ _ a1;have b3:=Ahy _ _ _ b1;exact⟨(Qb z4va b3).1,by rw[if_pos h20];exact b2,a2⟩
  ·rw[if_neg h20]at h;obtain⟨a1,a2⟩:=D8 _ _ _ h;obtain⟨b1,b2⟩:=A3q fns (.node x y l c .nil) _ _ _ _ _ a1;exact⟨b1,by rw[if_neg h20];exact⟨b2.1,b2.2.1,trivial⟩,a2⟩
def Hi(l:List UInt8):Ct×Option (BT A6):=
 if 2000<l.length then((1,0),none)
 else match lex (l.length+1) l 1 false with
  | .inl n=>((2,n),none)
  | .inr ts=>
   match Ah 100000 10 0 .nil ⟨ts,0⟩ with
   | none=>((0,0),none)
   | some r=>
    if r.2.bad≠0 then((2,r.2.bad),none)
    else if nest ts 0≠0 then((1,nest ts 0),none)
    else if(Et (Cr r.1) r.1 [] [] (0,0)).1≠0 then(Et (Cr r.1) r.1 [] [] (0,0),none)
    else((0,0),some r.1)
def Qd(l:List UInt8):Prop:=∀ts,lex (l.length+1) l 1 false=.inr ts->∃r,Ah 100000 10 0 .nil ⟨ts,0⟩=some r/\(r.2.bad=0->bsize r.1<=4002)
theorem A0e(fns:List (Nm×Nat))(gl:List Nm):∀(c:BT A6),Wf 2 c\/Wf 3 c->∀(m:Nat) (e:Em),e.loc=[]->(em fns gl c m e).loc=[]:=by
 intro c;induction c with
 | nil=>intro _ m e h;exact h
 | node x y l c r Dr D8=>
  intro hw m e he;have hr:Wf 2 r\/Wf 3 r:=hw.imp (fun h=>h.1) (fun h=>h.1);have hx:(Iv l.kd=true/\Wf 0 c)\/l.kd=31\/l.kd=32:=by
   rcases hw with h|h
   ·rcases h.2 with⟨_,h1,h2⟩|⟨_,h1,_⟩|⟨h1,_⟩|⟨h1,_⟩|⟨h1,_⟩|⟨h1,_⟩|⟨h1,_⟩
    ·exact .inl ⟨h1,h2⟩
    ·exact .inr (.inl h1)
    all_goals omega
   ·rcases h.2 with⟨_,h1,h2⟩|⟨h1,_⟩|⟨_,h1,_⟩|⟨h1,_⟩|⟨h1,_⟩|⟨h1,_⟩|⟨h1,_⟩
    ·exact .inl ⟨h1,h2⟩
    ·omega
    ·exact .inr (.inr h1)
    all_goals omega
  have hN:∀e:Em,e.loc=[]->(Ar fns gl l (Ax c) (em fns gl c) e).loc=[]:=by
   intro e he;rcases hx with⟨h1,h2⟩|h1|h1
   ·rw[(Nx fns gl l c h1 h2 e).2.1];exact he
   ·rw[U6 h1,he];rfl
   ·rw[z8 h1,he];rfl
  rw[em];split
  ·exact D8 hr _ _ he
  ·split
   ·exact hN e he
   ·exact D8 hr _ _ (hN e he)
theorem Ac6(fns:List (Nm×Nat))(gl:List Nm)(l:A6)(c:BT A6)(hw:Wf 1 (nd l c))(h21:l.kd≠21)(e:Em)(he:e.loc=[])(hl:e.lps=[]):∃slots st,Ar fns gl l (Ax c) (em fns gl c) e=⟨[],slots,st,[]⟩:=by
 have h1:(Ar fns gl l (Ax c) (em fns gl c) e).lps=[]:=by
  have:=A0a fns gl l c e;rw[hl]at this;exact List.length_eq_zero_iff.1 this
 have h2:(Ar fns gl l (Ax c) (em fns gl c) e).loc=[]:=by
  rcases hw.2 with⟨h0,_⟩|⟨h0,_⟩|⟨h0,_⟩|⟨_,hk,hw⟩|⟨_,hk,hw⟩|⟨_,hk,hw⟩|⟨h0,_⟩
  ·omega
  ·omega
  ·omega
  ·rw[p9 hk];unfold Lm;have k:=A0e fns gl c (.inl hw);show(if Ax c=3 then _ else _:Em).loc=[];split
   ·exact k 3 _ (k 2 _ (k 1 e he))
   ·exact k 2 _ (k 1 e he)
  ·rw[r8 hk];unfold Ln;have k:=A0e fns gl c (.inr hw);show(Em.Hx _ _).loc=[];rw[Xk];exact k 2 _ (k 1 _ he)
  ·have k:(em fns gl c 0 e).loc=[]:=by rw[(A0f fns gl c hw 0 e).2.1];exact he
   unfold Q4 at hk;simp only[Bool.or_eq_true,Bool.and_eq_true,decide_eq_true_eq,beq_iff_eq]at hk;have hc:l.kd=24\/l.kd=25\/l.kd=26\/l.kd=27\/l.kd=28\/l.kd=29\/l.kd=30:=by omega
   rcases hc with h|h|h|h|h|h|h
   ·rw[s6 h];split
    ·exact he
    ·exact k
   ·rw[s7 h,(V4 e).2];exact he
   ·rw[s8 h,(V5 e).2];exact he
   ·rw[s9 h];exact k
   ·rw[x7 h,(Q8 _ _ _ _ _).2.1];exact k
   ·rw[x8 h];exact k
   ·rw[y9 h];exact k
  ·omega
 generalize Ar fns gl l (Ax c) (em fns gl c) e=q at *;obtain⟨a,b,c,d⟩:=q;simp only at h1 h2;subst h1 h2;exact⟨b,c,rfl⟩
end
end Go.Proofs.YtjdlndhfaaolaaaGreatDoor
