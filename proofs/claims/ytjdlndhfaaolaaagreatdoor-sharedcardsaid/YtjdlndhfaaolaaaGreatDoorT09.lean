import Derived.Test.YtjdlndhfaaolaaaGreatDoorT08
set_option maxHeartbeats 20000000
namespace Go.Proofs.YtjdlndhfaaolaaaGreatDoor
section
open Go.Deep (BT)
def Gh(e:Em):List Nat:=e.lps.map Prod.fst
theorem Ow(o:Nat)(a:Int)(ln:Nat)(e:Em):Gh (e.step o a ln)=Gh e:=rfl
theorem Sj(j:Nat)(e:Em):Gh (e.land j)=Gh e:=rfl
theorem z4na {P:Prop} (h:P:=by
  intro l;induction l with
  | nil=>intro e;rfl
  | cons j r ih=>intro e;rw[Em.Hv,ih];rfl):P:=h
theorem X9:∀(l:List Nat) (e:Em),(e.Hv l).lps=e.lps:=by
 exact z4na
theorem X8:∀(l:List Nat) (e:Em),(e.Hv l).loc=e.loc:=by
 exact z4na
theorem A46(gl:List Nm)(s:Nm)(a b:Nat)(e:Em):Gh (e.var gl s a b)=Gh e:=by
 unfold Em.var;split
 ·rfl
 ·split <;> rfl
theorem Pq(gl:List Nm)(s:Nm)(a b:Nat)(e:Em):(e.var gl s a b).lps=e.lps/\(e.var gl s a b).loc=e.loc/\(e.var gl s a b).slots=e.slots:=by
 unfold Em.var;split
 ·exact⟨rfl,rfl,rfl⟩
 ·split <;> exact⟨rfl,rfl,rfl⟩
theorem Uy(e:Em):Gh e.Kt=Gh e/\e.Kt.loc=e.loc:=by
 unfold Em.Kt;split
 ·exact⟨rfl,rfl⟩
 ·rename_i s bs r h;exact⟨by simp[Gh,h],rfl⟩
theorem Uz(e:Em):Gh e.cnt=Gh e/\e.cnt.loc=e.loc:=by
 unfold Em.cnt;split
 ·exact⟨rfl,rfl⟩
 ·exact⟨rfl,rfl⟩
theorem z8(fns:List (Nm×Nat))(gl:List Nm)(l:A6)(n:Nat)(k:Nat->Em->Em)(h:∀m e,Gh (k m e)=Gh e)(e:Em):Gh (As fns gl l n k e)=Gh e:=by
 have h0:=h 0 e;unfold As;split;all_goals try (first|rfl|exact h0)
 ·exact A46 _ _ _ _ _
 ·unfold Ld;simp only[];rw[Sj];split
  ·rw[h,Sj,Ow,h,Ow,h]
  ·rw[Sj,Ow,h,Ow,h]
 ·unfold M6;simp only[];have h1:Gh (((k 2 ((k 1 e.open').step 7 0 l.line)).step 6 (e.st.length:Nat) 0).land (k 1 e.open').st.length)=e.st.length::Gh e:=by
   rw[Sj,Ow,h,Ow,h];rfl
  show((Em.Hv _ _).lps.tail).map Prod.fst=_;rw[X9];have h2:∀x:List (Nat×List Nat),x.tail.map Prod.fst=(x.map Prod.fst).tail:=fun x=>by cases x <;> rfl
  rw[h2];show List.tail (Gh _)=_;rw[h1];rfl
 ·split
  ·rfl
  ·exact h0
 ·exact(Uy e).1
 ·exact(Uz e).1
 ·rw[A46];exact h0
 ·split
  ·unfold Mx;simp only[];rw[Sj,Ow,h,Ow,h]
  ·exact h0
theorem A04(fns:List (Nm×Nat))(gl:List Nm):∀(c:BT A6) (m:Nat) (e:Em),Gh (em fns gl c m e)=Gh e:=by
 intro c;induction c with
 | nil=>intro m e;rfl
 | node x y l c r Ds D9=>
  intro m e;rw[em];split
  ·exact D9 _ _
  ·split
   ·exact z8 _ _ _ _ _ Ds e
   ·rw[D9];exact z8 _ _ _ _ _ Ds e
theorem Wa(fns:List (Nm×Nat))(gl:List Nm)(c:BT A6)(m:Nat)(e:Em):(em fns gl c m e).lps.length=e.lps.length:=by
 have:=congrArg List.length (A04 fns gl c m e);simpa [Gh]using this
theorem y9(fns:List (Nm×Nat))(gl:List Nm)(l:A6)(c:BT A6)(e:Em):(As fns gl l (Az c) (em fns gl c) e).lps.length=e.lps.length:=Wa fns gl (nd l c) 0 e
theorem Abu(fns:List (Nm×Nat))(gl:List Nm)(l:A6)(n s s1 s2 s3:Nat)(k:Nat->Em->Em)(h0:∀e,(k 0 e).loc.length<=e.loc.length+s)(h1:∀e,(k 1 e).loc.length<=e.loc.length+s1)(h2:∀e,(k 2 e).loc.length<=e.loc.length+s2)(h3:∀e,(k 3 e).loc.length<=e.loc.length+s3)(hs:s1+s2+s3<=s)(e:Em) :
  (As fns gl l n k e).loc.length<=e.loc.length+(1+s):=by
 have g0:=h0 e;unfold As;split;all_goals try (first|(show e.loc.length<=_;omega)|(show(k 0 e).loc.length<=_;omega))
 ·rw[(Pq _ _ _ _ _).2.1];omega
 ·show((k 0 e).loc++[l.s]).length<=_;simp;omega
 ·unfold Ld;have a1:=h1 e;have a2:=h2 ((k 1 e).step 8 0 l.line);have b2:((k 1 e).step 8 0 l.line).loc=(k 1 e).loc:=rfl;rw[b2]at a2;show(if n=3 then _ else _:Em).loc.length<=_;split
  ·have a3:=h3 (((k 2 ((k 1 e).step 8 0 l.line)).step 6 0 0).land (k 1 e).st.length);have b3:(((k 2 ((k 1 e).step 8 0 l.line)).step 6 0 0).land (k 1 e).st.length).loc=(k 2 ((k 1 e).step 8 0 l.line)).loc:=rfl;rw[b3]at a3;omega
  ·show(k 2 ((k 1 e).step 8 0 l.line)).loc.length<=_;omega
 ·unfold M6;show(Em.Hv _ _).loc.length<=_;rw[X8];have a1:=h1 e.open';have a2:=h2 ((k 1 e.open').step 7 0 l.line);have b2:((k 1 e.open').step 7 0 l.line).loc=(k 1 e.open').loc:=rfl;have b1:e.open'.loc=e.loc:=rfl;rw[b2]at a2;rw[b1]at a1;show(k 2 ((k 1 e.open').step 7 0 l.line)).loc.length<=_;omega
 ·split
  ·show e.loc.length<=_;omega
  ·show(k 0 e).loc.length<=_;omega
 ·rw[(Uy e).2];omega
 ·rw[(Uz e).2];omega
 ·rw[(Pq _ _ _ _ _).2.1];omega
 ·show((k 0 e).loc.take e.loc.length).length<=_;simp;omega
 ·show((k 0 e).loc.take e.loc.length).length<=_;simp;omega
 ·split
  ·unfold Mx;have a1:=h1 e;have a2:=h2 ((k 1 e).step (binOp (l.kd-100)) 0 l.line);have b2:((k 1 e).step (binOp (l.kd-100)) 0 l.line).loc=(k 1 e).loc:=rfl;rw[b2]at a2;show(k 2 ((k 1 e).step (binOp (l.kd-100)) 0 l.line)).loc.length<=_;omega
  ·show(k 0 e).loc.length<=_;omega
theorem Ac3(fns:List (Nm×Nat))(gl:List Nm):∀(c:BT A6),(∀e,(em fns gl c 0 e).loc.length<=e.loc.length+bsize c)/\(∀m,1<=m->∀e,(em fns gl c m e).loc.length<=e.loc.length+G8 c m):=by
 intro c;induction c with
 | nil=>exact⟨fun e=>by rw[em];omega,fun m _ e=>by rw[em];omega⟩
 | node x y l c r Ds D9=>
  have hN:∀e,(As fns gl l (Az c) (em fns gl c) e).loc.length<=e.loc.length+(1+bsize c):=
   fun e=>Abu fns gl l (Az c) (bsize c) (G8 c 1) (G8 c 2) (G8 c 3) (em fns gl c) Ds.1 (Ds.2 1 z51a) (Ds.2 2 z51a) (Ds.2 3 z51a) (A32 c) e
  exact z1fa
theorem Abv(fns:List (Nm×Nat))(gl:List Nm)(l:A6)(c:BT A6)(e:Em):(As fns gl l (Az c) (em fns gl c) e).loc.length<=e.loc.length+bsize (nd l c):=(Ac3 fns gl (nd l c)).1 e
theorem A00(fns:List (Nm×Nat))(gl:List Nm)(l:A6)(n:Nat)(k:Nat->Em->Em)(h:∀m e,e.st.length<=(k m e).st.length)(e:Em):e.st.length<=(As fns gl l n k e).st.length:=by
 have h0:=h 0 e;have hv:∀(s:Nm) (a b:Nat) (e:Em),e.st.length<=(e.var gl s a b).st.length:=by
  intro s a b e;unfold Em.var;split
  ·rw[Dy];omega
  ·split
   ·rw[Dy];omega
   ·exact z4ia
 unfold As;split;all_goals try (first|(rw[Vy];omega)|(rw[Dy];omega)|omega)
 ·exact hv _ _ _ _
 ·rw[Dy];show _<=(k 0 e).st.length+1;omega
 ·unfold Ld;simp only[Jy];have a1:=h 1 e;have a2:=h 2 ((k 1 e).step 8 0 l.line);rw[Dy]at a2;split
  ·have a3:=h 3 (((k 2 ((k 1 e).step 8 0 l.line)).step 6 0 0).land (k 1 e).st.length);rw[Jy,Dy]at a3;omega
  ·rw[Jy,Dy];omega
 ·unfold M6;simp only[Em.close,U0,Jy,Dy];have a1:=h 1 e.open';have a2:=h 2 ((k 1 e.open').step 7 0 l.line);rw[Dy]at a2;have:e.open'.st.length=e.st.length:=rfl;omega
 ·split
  ·rw[Dy];omega
  ·rw[Dy];omega
 ·unfold Em.Kt;split
  ·exact z4ia
  ·simp
 ·unfold Em.cnt;split
  ·exact z4ia
  ·rw[Dy];omega
 ·have:=hv l.s 3 4 (k 0 e);omega
 ·exact h0
 ·exact h0
 ·split
  ·unfold Mx;simp only[Jy,Dy];have a1:=h 1 e;have a2:=h 2 ((k 1 e).step (binOp (l.kd-100)) 0 l.line);rw[Dy]at a2;omega
  ·rw[Dy];omega
theorem Rf(fns:List (Nm×Nat))(gl:List Nm):∀(c:BT A6) (m:Nat) (e:Em),e.st.length<=(em fns gl c m e).st.length:=by
 intro c;induction c with
 | nil=>intro m e;exact Nat.le_refl _
 | node x y l c r Ds D9=>
  intro m e;rw[em];split
  ·exact D9 _ _
  ·split
   ·exact A00 _ _ _ _ _ Ds e
   ·exact Nat.le_trans (A00 fns gl l (Az c) _ Ds e) (D9 _ _)
theorem W9(fns:List (Nm×Nat))(gl:List Nm)(l:A6)(c:BT A6)(e:Em):e.st.length<=(As fns gl l (Az c) (em fns gl c) e).st.length:=Rf fns gl (nd l c) 0 e
def Lp:BT A6->Nat->Prop
 | .nil,_=>True
 | .node _ _ l c r,n=>(l.kd=25\/l.kd=26->n≠0)/\Lp c (if l.kd=32 then n+1 else n)/\Lp r n
theorem Pv{is:Bool}{code line:Nat}{f:Cw}(hc:code≠0)(h:(Ed is code line f).1=0):f.1=0/\is=false:=by
 unfold Ed at h;split at h
 ·exact absurd h hc
 ·rename_i hn;refine⟨h,?_⟩;cases is
  ·rfl
  ·exfalso;apply hn;rw[h];rfl
theorem z4ja {P:Prop} (h:P:=by
  exact⟨(Pv z51a b1).1,fun e=>by omega⟩):P:=h
theorem A3l(fns:List (Nm×Nat)):∀(c:BT A6) (outer cur:List Nm) (wh:Nat) (inn:Bool) (f:Cw),(By fns c outer cur wh inn f).2.1=0->f.1=0/\Lp c wh:=by
 intro c;induction c with
 | nil=>intro outer cur wh inn f h;exact⟨h,trivial⟩
 | node x y l c r Ds D9=>
  intro outer cur wh inn f h;rw[By]at h;by_cases h31:l.kd=31
  ·rw[if_pos h31]at h;obtain⟨a1,a2⟩:=D9 _ _ _ _ _ h;obtain⟨b1,b2⟩:=Ds _ _ _ _ _ a1;exact⟨b1,fun e=>by omega,by rw[if_neg z51a];exact b2,a2⟩
  ·rw[if_neg h31]at h;by_cases h32:l.kd=32
   ·rw[if_pos h32]at h;obtain⟨a1,a2⟩:=D9 _ _ _ _ _ h;obtain⟨b1,b2⟩:=Ds _ _ _ _ _ a1;exact⟨b1,fun e=>by omega,by rw[if_pos h32];exact b2,a2⟩
   ·rw[if_neg h32]at h;by_cases h21:l.kd=21
    ·rw[if_pos h21]at h;obtain⟨a1,a2⟩:=D9 _ _ _ _ _ h;obtain⟨b1,b2⟩:=Ds _ _ _ _ _ a1;exact⟨(Pv z51a b1).1,fun e=>by omega,by rw[if_neg z51a];exact b2,a2⟩
    ·rw[if_neg h21]at h;obtain⟨a1,a2⟩:=D9 _ _ _ _ _ h;obtain⟨b1,b2⟩:=Ds _ _ _ _ _ a1;have hz:f.1=0/\(l.kd=25\/l.kd=26->wh≠0):=by
      split at b1
      ·exact z4ja
      ·split at b1
       ·exact z4ja
       ·split at b1
        ·have:=Pv z51a b1;exact⟨this.1,fun _ e=>by have:=this.2;simp at this;exact this e⟩
        ·split at b1
         ·exact z4ja
         ·exact⟨b1,fun e=>by omega⟩
     exact⟨hz.1,hz.2,by rw[if_neg z51a];exact b2,a2⟩
def R6(a b:Em):Prop:=a.lps=b.lps/\a.loc=b.loc/\a.slots=b.slots
theorem Abw(fns:List (Nm×Nat))(gl:List Nm)(l:A6)(n:Nat)(k:Nat->Em->Em)(hk:It l.kd=true)(h:∀m e,R6 (k m e) e)(e:Em):R6 (As fns gl l n k e) e:=by
 unfold It at hk;simp only[Bool.or_eq_true,Bool.and_eq_true,decide_eq_true_eq]at hk;have h0:=h 0 e;have hb:∀o ln,R6 (Mx o ln k e) e:=by
  intro o ln;have a1:=h 1 e;have a2:=h 2 ((k 1 e).step o 0 ln);exact⟨a2.1.trans a1.1,a2.2.1.trans a1.2.1,a2.2.2.trans a1.2.2⟩
 by_cases A1:127<=l.kd
 ·by_cases A8:l.kd<=138
  ·rw[s9 A1 A8];exact h0
  ·rw[x8 z51a];exact hb _ _
 ·have Cm:l.kd=1\/l.kd=2\/l.kd=3\/l.kd=4\/l.kd=5\/l.kd=6\/l.kd=7\/l.kd=8\/l.kd=9\/l.kd=10\/l.kd=11\/l.kd=12\/l.kd=13\/l.kd=14:=by omega
  rcases Cm with h|h|h|h|h|h|h|h|h|h|h|h|h|h
  ·rw[b9 h];exact⟨rfl,rfl,rfl⟩
  ·rw[j8 h];exact⟨rfl,rfl,rfl⟩
  ·rw[o8 h];exact⟨rfl,rfl,rfl⟩
  ·rw[p8 h];exact⟨rfl,rfl,rfl⟩
  ·rw[p9 h];exact⟨rfl,rfl,rfl⟩
  ·rw[r8 h];exact Pq _ _ _ _ _
  ·rw[s6 h];exact h0
  ·rw[s7 h];exact h0
  ·rw[s8 h];exact h0
  ·rw[j0 h];exact h0
  ·rw[j4 h];exact h0
  ·rw[j5 h];exact h0
  ·rw[j6 h];exact h0
  ·rw[j7 h];exact h0
theorem A03(fns:List (Nm×Nat))(gl:List Nm):∀(c:BT A6),Wf 0 c->∀(m:Nat) (e:Em),R6 (em fns gl c m e) e:=by
 intro c;induction c with
 | nil=>intro _ m e;exact⟨rfl,rfl,rfl⟩
 | node x y l c r Ds D9=>
  intro hw m e;obtain⟨w1,w2⟩:=hw;have hx:It l.kd=true/\Wf 0 c:=by
   rcases w2 with⟨_,h1,h2⟩|⟨h1,_⟩|⟨h1,_⟩|⟨h1,_⟩|⟨h1,_⟩|⟨h1,_⟩|⟨h1,_⟩
   ·exact⟨h1,h2⟩
   all_goals omega
  have hN:=Abw fns gl l (Az c) (em fns gl c) hx.1 (fun m e=>Ds hx.2 m e) e;rw[em];split
  ·exact D9 w1 _ _
  ·split
   ·exact hN
   ·have:=D9 w1 0 (As fns gl l (Az c) (em fns gl c) e);exact⟨this.1.trans hN.1,this.2.1.trans hN.2.1,this.2.2.trans hN.2.2⟩
theorem No(fns:List (Nm×Nat))(gl:List Nm)(l:A6)(c:BT A6)(hk:It l.kd=true)(hw:Wf 0 c)(e:Em):R6 (As fns gl l (Az c) (em fns gl c) e) e:=A03 fns gl (nd l c) ⟨trivial,.inl ⟨.inl rfl,hk,hw⟩⟩ 0 e
theorem y8(fns:List (Nm×Nat))(gl:List Nm)(l:A6)(n:Nat)(k:Nat->Em->Em)(h:∀m e,e.loc.length<=(k m e).loc.length)(e:Em):e.loc.length<=(As fns gl l n k e).loc.length:=by
 have h0:=h 0 e;unfold As;split;all_goals try (first|exact Nat.le_refl _|exact h0)
 ·rw[(Pq _ _ _ _ _).2.1];exact z4ia
 ·show _<=((k 0 e).loc++[l.s]).length;simp;omega
 ·unfold Ld;have a1:=h 1 e;have a2:(k 1 e).loc.length<=(k 2 ((k 1 e).step 8 0 l.line)).loc.length:=h 2 ((k 1 e).step 8 0 l.line);show _<=(if n=3 then _ else _:Em).loc.length;split
  ·have a3:(k 2 ((k 1 e).step 8 0 l.line)).loc.length<=_:=h 3 (((k 2 ((k 1 e).step 8 0 l.line)).step 6 0 0).land (k 1 e).st.length);omega
  ·show _<=(k 2 ((k 1 e).step 8 0 l.line)).loc.length;omega
 ·unfold M6;show _<=(Em.Hv _ _).loc.length;rw[X8];have a1:e.loc.length<=(k 1 e.open').loc.length:=h 1 e.open';have a2:(k 1 e.open').loc.length<=(k 2 ((k 1 e.open').step 7 0 l.line)).loc.length:=h 2 ((k 1 e.open').step 7 0 l.line);show _<=(k 2 ((k 1 e.open').step 7 0 l.line)).loc.length;omega
 ·split
  ·exact z4ia
  ·exact h0
 ·rw[(Uy e).2];exact z4ia
 ·rw[(Uz e).2];exact z4ia
 ·rw[(Pq _ _ _ _ _).2.1];exact h0
 ·show _<=((k 0 e).loc.take e.loc.length).length;simp;omega
 ·show _<=((k 0 e).loc.take e.loc.length).length;simp;omega
 ·split
  ·unfold Mx;have a1:=h 1 e;have a2:(k 1 e).loc.length<=(k 2 ((k 1 e).step (binOp (l.kd-100)) 0 l.line)).loc.length:=h 2 ((k 1 e).step (binOp (l.kd-100)) 0 l.line);show _<=(k 2 ((k 1 e).step (binOp (l.kd-100)) 0 l.line)).loc.length;omega
  ·exact h0
theorem Ac2(fns:List (Nm×Nat))(gl:List Nm):∀(c:BT A6) (m:Nat) (e:Em),e.loc.length<=(em fns gl c m e).loc.length:=by
 intro c;induction c with
 | nil=>intro m e;exact Nat.le_refl _
 | node x y l c r Ds D9=>
  intro m e;rw[em];split
  ·exact D9 _ _
  ·split
   ·exact y8 _ _ _ _ _ Ds e
   ·exact Nat.le_trans (y8 fns gl l (Az c) _ Ds e) (D9 _ _)
def Dk(e:Em):Prop:=∀x∈e.lps,x.2.length<=e.st.length/\∀j∈x.2,j<e.st.length
theorem Dk.up{e e':Em}(h:Dk e)(hl:e'.lps=e.lps)(hs:e.st.length<=e'.st.length):Dk e':=by
 intro x hx;rw[hl]at hx;exact⟨Nat.le_trans (h x hx).1 hs,fun j hj=>Nat.lt_of_lt_of_le ((h x hx).2 j hj) hs⟩
theorem Dk.step{e:Em}(h:Dk e)(o:Nat)(a:Int)(ln:Nat):Dk (e.step o a ln):=h.up rfl (by rw[Dy];omega)
theorem Dk.Ja{e:Em}(h:Dk e)(v:PV):Dk (e.Ja v):=h.up rfl (by rw[Vy];omega)
theorem Dk.land{e:Em}(h:Dk e)(j:Nat):Dk (e.land j):=h.up rfl (by rw[Jy];exact Nat.le_refl _)
theorem Dk.Hv{e:Em}(h:Dk e)(l:List Nat):Dk (e.Hv l):=h.up (X9 l e) (by rw[U0];exact Nat.le_refl _)
theorem Dk.var{e:Em}(h:Dk e)(gl:List Nm)(s:Nm)(a b:Nat):Dk (e.var gl s a b):=by
 unfold Em.var;split
 ·exact h.step _ _ _
 ·split
  ·exact h.step _ _ _
  ·exact h
theorem Dk.Kt{e:Em}(h:Dk e):Dk e.Kt:=by
 unfold Em.Kt;split
 ·exact h
 ·rename_i s bs r hq;intro x hx;simp only[List.mem_cons]at hx;rcases hx with rfl|hx
  ·have:=h (s,bs) (by rw[hq];simp);simp only at this;refine⟨by simp;omega,fun j hj=>?_⟩;simp only[List.mem_append,List.mem_singleton]at hj;simp only[List.length_append,List.length_singleton];rcases hj with hj|hj
   ·have:=this.2 j hj;omega
   ·omega
  ·have:=h x (by rw[hq];simp[hx]);refine⟨by simp;omega,fun j hj=>?_⟩;have:=this.2 j hj;simp;omega
theorem Dk.cnt{e:Em}(h:Dk e):Dk e.cnt:=by
 unfold Em.cnt;split
 ·exact h
 ·exact h.step _ _ _
theorem Dk.open'{e:Em}(h:Dk e):Dk e.open':=by
 intro x hx;simp only[Em.open',List.mem_cons]at hx;rcases hx with rfl|hx
 ·exact⟨Nat.zero_le _,fun j hj=>by cases hj⟩
 ·exact h x hx
theorem Dk.close{e:Em}(h:Dk e):Dk e.close:=fun x hx=>h x (List.mem_of_mem_tail hx)
theorem Dk.cut{e:Em}(h:Dk e)(n:Nat):Dk (e.cut n):=h
theorem x7(fns:List (Nm×Nat))(gl:List Nm)(l:A6)(n:Nat)(k:Nat->Em->Em)(h:∀m e,Dk e->Dk (k m e))(e:Em)(he:Dk e):Dk (As fns gl l n k e):=by
 have h0:=h 0 e he;unfold As;split;all_goals try (first|exact he.Ja _|exact h0|exact h0.step _ _ _|exact h0.cut _)
 ·exact he.var _ _ _ _
 ·unfold Ld;refine Dk.land ?_ _;split
  ·exact h _ _ ((((h _ _ ((h _ _ he).step _ _ _)).step _ _ _).land _))
  ·exact((h _ _ ((h _ _ he).step _ _ _)).step _ _ _).land _
 ·unfold M6;exact(((((h _ _ ((h _ _ he.open').step _ _ _)).step _ _ _).land _).Hv _).close)
 ·split
  ·exact he.step _ _ _
  ·exact h0.step _ _ _
 ·exact he.Kt
 ·exact he.cnt
 ·exact h0.var _ _ _ _
 ·split
  ·unfold Mx;exact((h _ _ ((h _ _ he).step _ _ _)).step _ _ _).land _
  ·exact h0.step _ _ _
theorem Tr(fns:List (Nm×Nat))(gl:List Nm):∀(c:BT A6) (m:Nat) (e:Em),Dk e->Dk (em fns gl c m e):=by
 intro c;induction c with
 | nil=>intro m e h;exact h
 | node x y l c r Ds D9=>
  intro m e h;rw[em];split
  ·exact D9 _ _ h
  ·split
   ·exact x7 _ _ _ _ _ Ds e h
   ·exact D9 _ _ (x7 fns gl l (Az c) _ Ds e h)
theorem Tq(fns:List (Nm×Nat))(gl:List Nm)(l:A6)(c:BT A6)(e:Em)(h:Dk e):Dk (As fns gl l (Az c) (em fns gl c) e):=Tr fns gl (nd l c) 0 e h
theorem Af9:∀(a b:List Nat) (e:Em),e.Hv (a++b)=(e.Hv a).Hv b:=by
 intro a;induction a with
 | nil=>intro b e;rfl
 | cons x r ih=>intro b e;exact ih b (e.land x)
theorem Afa(bs:List Nat)(i:Nat)(h:i<bs.length)(e:Em):e.Hv (bs.take (i+1))=(e.Hv (bs.take i)).land bs[i]:=by
 rw[List.take_succ_eq_append_getElem h,Af9];rfl
def Nf:BT A6->Prop
 | .nil=>True
 | .node _ _ l c r=>(if l.kd=20 then Lp c 0 else Lp (nd l c) 0)/\Nf r
theorem Ahs:∀(ps:List (Nat×Nm)) (cur:List Nm) (f:Cw),(J4 ps cur f).2.1=0->f.1=0:=by
 intro ps;induction ps with
 | nil=>intro cur f h;exact h
 | cons p r ih=>
  intro cur f h;rw[J4]at h;exact(Pv z51a (ih _ _ h)).1
theorem Akg(fns:List (Nm×Nat)):∀(c:BT A6) (seen cur:List Nm) (f:Cw),(Et fns c seen cur f).1=0->f.1=0/\Nf c:=by
 intro c;induction c with
 | nil=>intro seen cur f h;exact⟨h,trivial⟩
 | node x y l c r Ds D9=>
  intro seen cur f h;rw[Et]at h;by_cases h20:l.kd=20
  ·rw[if_pos h20]at h;obtain⟨a1,a2⟩:=D9 _ _ _ h;obtain⟨b1,b2⟩:=A3l fns c _ _ _ _ _ a1;have b3:=Ahs _ _ _ b1;exact⟨(Pv z51a b3).1,by rw[if_pos h20];exact b2,a2⟩
  ·rw[if_neg h20]at h;obtain⟨a1,a2⟩:=D9 _ _ _ h;obtain⟨b1,b2⟩:=A3l fns (.node x y l c .nil) _ _ _ _ _ a1;exact⟨b1,by rw[if_neg h20];exact⟨b2.1,b2.2.1,trivial⟩,a2⟩
def Hh(l:List UInt8):Cw×Option (BT A6):=
 if 2000<l.length then((1,0),none)
 else match lex (l.length+1) l 1 false with
  | .inl n=>((2,n),none)
  | .inr ts=>
   match Ai 100000 10 0 .nil ⟨ts,0⟩ with
   | none=>((0,0),none)
   | some r=>
    if r.2.bad≠0 then((2,r.2.bad),none)
    else if nest ts 0≠0 then((1,nest ts 0),none)
    else if(Et (Cu r.1) r.1 [] [] (0,0)).1≠0 then(Et (Cu r.1) r.1 [] [] (0,0),none)
    else((0,0),some r.1)
def Px(l:List UInt8):Prop:=∀ts,lex (l.length+1) l 1 false=.inr ts->∃r,Ai 100000 10 0 .nil ⟨ts,0⟩=some r/\(r.2.bad=0->bsize r.1<=4002)
theorem A02(fns:List (Nm×Nat))(gl:List Nm):∀(c:BT A6),Wf 2 c\/Wf 3 c->∀(m:Nat) (e:Em),e.loc=[]->(em fns gl c m e).loc=[]:=by
 intro c;induction c with
 | nil=>intro _ m e h;exact h
 | node x y l c r Ds D9=>
  intro hw m e he;have hr:Wf 2 r\/Wf 3 r:=hw.imp (fun h=>h.1) (fun h=>h.1);have hx:(It l.kd=true/\Wf 0 c)\/l.kd=31\/l.kd=32:=by
   rcases hw with h|h
   ·rcases h.2 with⟨_,h1,h2⟩|⟨_,h1,_⟩|⟨h1,_⟩|⟨h1,_⟩|⟨h1,_⟩|⟨h1,_⟩|⟨h1,_⟩
    ·exact .inl ⟨h1,h2⟩
    ·exact .inr (.inl h1)
    all_goals omega
   ·rcases h.2 with⟨_,h1,h2⟩|⟨h1,_⟩|⟨_,h1,_⟩|⟨h1,_⟩|⟨h1,_⟩|⟨h1,_⟩|⟨h1,_⟩
    ·exact .inl ⟨h1,h2⟩
    ·omega
    ·exact .inr (.inr h1)
    all_goals omega
  have hN:∀e:Em,e.loc=[]->(As fns gl l (Az c) (em fns gl c) e).loc=[]:=by
   intro e he;rcases hx with⟨h1,h2⟩|h1|h1
   ·rw[(No fns gl l c h1 h2 e).2.1];exact he
   ·rw[Tp h1,he];rfl
   ·rw[p7 h1,he];rfl
  rw[em];split
  ·exact D9 hr _ _ he
  ·split
   ·exact hN e he
   ·exact D9 hr _ _ (hN e he)
theorem Abx(fns:List (Nm×Nat))(gl:List Nm)(l:A6)(c:BT A6)(hw:Wf 1 (nd l c))(h21:l.kd≠21)(e:Em)(he:e.loc=[])(hl:e.lps=[]):∃slots st,As fns gl l (Az c) (em fns gl c) e=⟨[],slots,st,[]⟩:=by
 have h1:(As fns gl l (Az c) (em fns gl c) e).lps=[]:=by
  have:=y9 fns gl l c e;rw[hl]at this;exact List.length_eq_zero_iff.1 this
 have h2:(As fns gl l (Az c) (em fns gl c) e).loc=[]:=by
  rcases hw.2 with⟨h0,_⟩|⟨h0,_⟩|⟨h0,_⟩|⟨_,hk,hw⟩|⟨_,hk,hw⟩|⟨_,hk,hw⟩|⟨h0,_⟩
  ·omega
  ·omega
  ·omega
  ·rw[j9 hk];unfold Ld;have k:=A02 fns gl c (.inl hw);show(if Az c=3 then _ else _:Em).loc=[];split
   ·exact k 3 _ (k 2 _ (k 1 e he))
   ·exact k 2 _ (k 1 e he)
  ·rw[k7 hk];unfold M6;have k:=A02 fns gl c (.inr hw);show(Em.Hv _ _).loc=[];rw[X8];exact k 2 _ (k 1 _ he)
  ·have k:(em fns gl c 0 e).loc=[]:=by rw[(A03 fns gl c hw 0 e).2.1];exact he
   unfold Po at hk;simp only[Bool.or_eq_true,Bool.and_eq_true,decide_eq_true_eq,beq_iff_eq]at hk;have hc:l.kd=24\/l.kd=25\/l.kd=26\/l.kd=27\/l.kd=28\/l.kd=29\/l.kd=30:=by omega
   rcases hc with h|h|h|h|h|h|h
   ·rw[l8 h];split
    ·exact he
    ·exact k
   ·rw[l9 h,(Uy e).2];exact he
   ·rw[n8 h,(Uz e).2];exact he
   ·rw[n9 h];exact k
   ·rw[o6 h,(Pq _ _ _ _ _).2.1];exact k
   ·rw[o7 h];exact k
   ·rw[o9 h];exact k
  ·omega
 generalize As fns gl l (Az c) (em fns gl c) e=q at *;obtain⟨a,b,c,d⟩:=q;simp only at h1 h2;subst h1 h2;exact⟨b,c,rfl⟩
end
end Go.Proofs.YtjdlndhfaaolaaaGreatDoor
