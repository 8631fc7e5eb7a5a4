import Derived.Test.YtjdlndhfaaolaaaGreatDoorY15
set_option maxHeartbeats 20000000
set_option linter.defProp false
namespace Go.Proofs.YtjdlndhfaaolaaaGreatDoor
section
open Go.Deep (BT)
def I1(N G A:Nat)(i:Aa):Prop:=(i.v.r=none/\i.v.k≠4/\F4 i.v)/\(i.op<=44/\P0 i.op=true/\i.line<=5000)/\(F2 i.op\/(0<=i.arg/\i.arg<=A/\(i.op=42->i.arg.toNat<N)/\(i.op=2\/i.op=4->i.arg.toNat<G)))
def JP(e:Em)(p:Nat):Prop:=∃i,e.st[p]?=some i/\F2 i.op
structure KI (N G A : Nat) (e : Em) : Prop where
 ok:∀i∈e.st,I1 N G A i
 bk:∀x∈e.lps,∀j∈x.2,JP e j
def vs(e:Em):Nat:=max e.slots e.loc.length
variable {N G A:Nat} {e:Em}
def JP.app{p:Nat}(h:JP e p)(loc:List Nm)(slots:Nat)(is:List Aa)(lps:List (Nat×List Nat)):JP ⟨loc,slots,e.st++is,lps⟩ p:=by
 obtain⟨i,h1,h2⟩:=h;obtain⟨q,_⟩:=K4.1 h1;exact⟨i,by rw[Ou q];exact h1,h2⟩
def JP.land{p j:Nat}(h:JP e p):JP (e.land j) p:=by
 obtain⟨i,h1,h2⟩:=h;show ∃i,(Gy j (e.st.length:Nat) e.st)[p]?=some i/\F2 i.op;exact z4ba
def KI.add(h:KI N G A e){i0:Aa}(hi:I1 N G A i0)(loc:List Nm)(slots:Nat):KI N G A ⟨loc,slots,e.st++[i0],e.lps⟩:=by
 refine⟨fun i q=>?_,fun x hx j hj=>(h.bk x hx j hj).app _ _ _ _⟩;rcases Jp.1 q with q|q
 ·exact h.ok i q
 ·rw[Lb.1 q];exact hi
def KI.land{j:Nat}(h:KI N G A e)(hj:JP e j):KI N G A (e.land j):=by
 refine⟨fun i q=>?_,fun x hx k hk=>(h.bk x hx k hk).land⟩;obtain⟨p,hp⟩:=Zl.1 q;have hp:(Gy j (e.st.length:Nat) e.st)[p]?=some i:=hp;rw[Ri]at hp;split at hp
 ·obtain⟨i0,k1,k2⟩:=hj;rw[k1]at hp;cases hp;have:=h.ok i0 (Gl k1);exact⟨this.1,this.2.1,.inl k2⟩
 ·exact h.ok i (Gl hp)
def KI.E7:∀(l:List Nat) {e:Em},KI N G A e->(∀j∈l,JP e j)->KI N G A (e.E7 l)/\∀p,JP e p->JP (e.E7 l) p:=by
 intro l;induction l with
 | nil=>intro e h _;exact⟨h,fun _ q=>q⟩
 | cons j r ih=>
  intro e h hj;obtain⟨k1,k2⟩:=ih (h.land (hj j z4ra)) (fun i hi=>(hj i (by simp[hi])).land);exact⟨k1,fun p hp=>k2 p hp.land⟩
def D7(N G A s:Nat)(f:Em->Em):Prop:=∀e,KI N G A e->vs e+s<=A->KI N G A (f e)/\(∀p,JP e p->JP (f e) p)/\vs (f e)<=vs e+s/\e.slots<=(f e).slots
variable {s s1 s2 s3:Nat} {f f1 f2 f3:Em->Em}
def D7.eq{g:Em->Em}(h:D7 N G A s f)(q:∀x,g x=f x):D7 N G A s g:=by
 have:g=f:=funext q;rw[this];exact h
def D7.more(h:D7 N G A s1 f)(hs:s1<=s):D7 N G A s f:=fun e hk hv=>by
 obtain⟨k1,k2,k3,k4⟩:=h e hk z4ma;exact⟨k1,k2,by omega,k4⟩
def D7.Kl:D7 N G A 0 (fun e=>e):=fun _ h _=>⟨h,fun _ q=>q,Af _,Af _⟩
def D7.comp(h1:D7 N G A s1 f1)(h2:D7 N G A s2 f2):D7 N G A (s1+s2) (fun e=>f2 (f1 e)):=fun e hk hv=>by
 obtain⟨k1,k2,k3,k4⟩:=h1 e hk z4ma;obtain⟨q1,q2,q3,q4⟩:=h2 (f1 e) k1 z4ma;exact⟨q1,fun p hp=>q2 p (k2 p hp),by show vs (f2 (f1 e))<=_;omega,by show e.slots<=(f2 (f1 e)).slots;omega⟩
def D7.ins(h:D7 N G A s f)(i:Em->Aa)(hi:∀e,KI N G A (f e)->vs (f e)<=A->I1 N G A (i e)):D7 N G A s (fun e=>⟨(f e).loc,(f e).slots,(f e).st++[i e],(f e).lps⟩):=fun e hk hv=>by
 obtain⟨k1,k2,k3,k4⟩:=h e hk hv;exact⟨k1.add (hi e k1 z4ma) _ _,fun p hp=>(k2 p hp).app _ _ _ _,k3,k4⟩
def Ub:Bb.r=none/\Bb.k≠4/\F4 Bb:=⟨rfl,by show(0:Nat)≠4;decide,Sr⟩
def D7.step(h:D7 N G A s f)(o:Nat)(a:Em->Int)(ln:Nat)(hln:ln<=5000)(ho:o<=44/\P0 o=true)(ha:F2 o\/∀e,vs (f e)<=A->0<=a e/\a e<=A/\(o=42->(a e).toNat<N)/\(o=2\/o=4->(a e).toNat<G)):D7 N G A s (fun e=>(f e).step o (a e) ln):=
 h.ins (fun e=>⟨o,a e,ln,Bb⟩) (fun e _ hv=>⟨Ub,⟨ho.1,ho.2,hln⟩,ha.imp id (fun q=>q e hv)⟩)
def D7.zero(h:D7 N G A s f)(o:Nat)(ln:Nat)(hln:ln<=5000)(ho:(o<=44/\P0 o=true)/\o≠42/\o≠2/\o≠4):D7 N G A s (fun e=>(f e).step o 0 ln):=
 h.step o (fun _=>0) ln hln ho.1 (.inr (fun _ _=>⟨by omega,by omega,fun q=>absurd q ho.2.1,fun q=>by omega⟩))
def D7.F5(v:PV)(hv:v.r=none/\v.k≠4/\F4 v):D7 N G A 0 (fun e=>e.F5 v):=
 D7.Kl.ins (fun _=>⟨0,0,0,v⟩) (fun _ _ _=>⟨hv,⟨by dsimp only;omega,rfl,by dsimp only;omega⟩,.inr ⟨by dsimp only;omega,by dsimp only;omega,(fun q=>by cases q),(fun q=>by rcases q with q|q <;> cases q)⟩⟩)
def A70{x:Nm}:∀{l:List Nm} {i:Nat},Mh x l=some i->i<l.length:=by
 intro l;induction l with
 | nil=>intro i h;cases h
 | cons y r ih=>
  intro i h;rw[Mh]at h;cases hq:Mh x r with
  | some j=>rw[hq]at h;cases h;have:=ih hq;simp;omega
  | none=>
   rw[hq]at h;dsimp only at h;split at h
   ·cases h;simp
   ·cases h
def A63{x:Nm}:∀{l:List Nm} {i:Nat},Lm x l=some i->i<l.length:=by
 intro l;induction l with
 | nil=>intro i h;cases h
 | cons y r ih=>
  intro i h;rw[Lm]at h;split at h
  ·cases h;simp
  ·cases hq:Lm x r with
   | some j=>rw[hq]at h;cases h;have:=ih hq;simp;omega
   | none=>rw[hq]at h;cases h
def D7.var(h:D7 N G A s f)(gl:List Nm)(hg:gl.length<=G)(hGA:G<=A)(x:Nm)(a b:Nat)(ha:a=1\/a=3)(hb:b=2\/b=4):D7 N G A s (fun e=>(f e).var gl x a b):=by
 intro e hk hv;obtain⟨k1,k2,k3,k4⟩:=h e hk hv;show KI N G A ((f e).var gl x a b)/\(∀p,JP e p->JP ((f e).var gl x a b) p)/\vs ((f e).var gl x a b)<=_/\_<=((f e).var gl x a b).slots;unfold Em.var;have hl:(f e).loc.length<=vs (f e):=A3q _ _;split
 ·rename_i i hi;have:=A70 hi;exact⟨k1.add ⟨Ub,by rcases ha with rfl|rfl <;> exact⟨by dsimp only;omega,rfl,by dsimp only;omega⟩,.inr ⟨by dsimp only;omega,by dsimp only;omega,fun q=>by dsimp only at q;omega,fun q=>by dsimp only at q;omega⟩⟩ _ _,fun p hp=>(k2 p hp).app _ _ _ _,k3,k4⟩
 ·split
  ·rename_i i hi;have:=A63 hi;exact⟨k1.add ⟨Ub,by rcases hb with rfl|rfl <;> exact⟨by dsimp only;omega,rfl,by dsimp only;omega⟩,.inr ⟨by dsimp only;omega,by dsimp only;omega,fun q=>by dsimp only at q;omega,fun _=>by dsimp only;omega⟩⟩ _ _,fun p hp=>(k2 p hp).app _ _ _ _,k3,k4⟩
  ·exact⟨k1,k2,k3,k4⟩
def j6(k:Nat)(hk:6<=k/\k<=10)(a:Int){ln:Nat}(hln:ln<=5000):I1 N G A ⟨k,a,ln,Bb⟩:=by
 refine⟨Ub,⟨by dsimp only;omega,?_,hln⟩,.inl hk⟩;have:k=6\/k=7\/k=8\/k=9\/k=10:=by omega
 rcases this with rfl|rfl|rfl|rfl|rfl <;> rfl
def Vx(e:Em)(k:Nat)(hk:6<=k/\k<=10)(a:Int)(ln:Nat):JP (e.step k a ln) e.st.length:=by
 refine⟨⟨k,a,ln,Bb⟩,?_,hk⟩;show(e.st++[_])[e.st.length]?=_;simp
def D7.Ip:D7 N G A 0 Em.Ip:=by
 intro e hk _;unfold Em.Ip;split
 ·exact⟨hk,fun _ q=>q,Af _,Af _⟩
 ·rename_i s bs r hq;refine⟨⟨(hk.add (j6 6 z4ma 0 (De _)) e.loc e.slots).ok,fun x hx j hj=>?_⟩,fun p hp=>hp.app _ _ _ _,Af _,Af _⟩;rcases L9.1 hx with rfl|hx
  ·rcases Jp.1 hj with hj|hj
   ·exact(hk.bk (s,bs) z6ia j hj).app _ _ _ _
   ·rw[Lb.1 hj];obtain⟨i,h1,h2⟩:=Vx e 6 z4ma 0 0;exact⟨i,h1,h2⟩
  ·exact(hk.bk x (by rw[hq];simp[hx]) j hj).app _ _ _ _
def D7.cnt:D7 N G A 0 Em.cnt:=by
 intro e hk _;unfold Em.cnt;split
 ·exact⟨hk,fun _ q=>q,Af _,Af _⟩
 ·exact⟨hk.add (j6 6 z4ma _ (De _)) e.loc e.slots,fun p hp=>hp.app _ _ _ _,Af _,Af _⟩
def D7.jmp(h:D7 N G A s f)(k:Nat)(hk:6<=k/\k<=10)(a:Em->Int){ln:Nat}(hln:ln<=5000):D7 N G A s (fun e=>(f e).step k (a e) ln):=h.ins (fun e=>⟨k,a e,ln,Bb⟩) (fun _ _ _=>j6 k hk _ hln)
def D7.bool(h1:D7 N G A s1 f1)(h2:D7 N G A s2 f2)(o:Nat){line:Nat}(hln:line<=5000)(ho:6<=o/\o<=10):D7 N G A (s1+s2) (fun e=>((f2 ((f1 e).step o 0 line)).step 11 0 line).land (f1 e).st.length):=by
 intro e hk hv;obtain⟨k1,k2,k3,k4⟩:=(h1.jmp o ho (fun _=>0) hln) e hk z4ma;dsimp only at k1 k2 k3 k4;obtain⟨q1,q2,q3,q4⟩:=(h2.zero 11 line hln ⟨⟨by omega,rfl⟩,by omega,by omega,by omega⟩) _ k1 z4ma;dsimp only at q1 q2 q3 q4;exact⟨q1.land (q2 _ (Vx (f1 e) o ho 0 line)),fun p hp=>(q2 p (k2 p hp)).land,(show vs (f2 ((f1 e).step o 0 line))<=_ from by have:vs ((f2 ((f1 e).step o 0 line)).step 11 0 line)=vs (f2 ((f1 e).step o 0 line)):=rfl;omega),(show e.slots<=(f2 ((f1 e).step o 0 line)).slots from Fu k4 q4)⟩
def D7.cond(h1:D7 N G A s1 f1)(h2:D7 N G A s2 f2)(h3:D7 N G A s3 f3){line:Nat}(hln:line<=5000):D7 N G A (s1+s2+s3) (fun e=>(f3 (((f2 ((f1 e).step 8 0 line)).step 6 0 0).land (f1 e).st.length)).land (f2 ((f1 e).step 8 0 line)).st.length):=by
 intro e hk hv;obtain⟨k1,k2,k3,k4⟩:=(h1.jmp 8 z4ma (fun _=>0) hln) e hk z4ma;dsimp only at k1 k2 k3 k4;obtain⟨q1,q2,q3,q4⟩:=(h2.jmp 6 z4ma (fun _=>0) (De _)) _ k1 z4ma;dsimp only at q1 q2 q3 q4;have v2:vs (((f2 ((f1 e).step 8 0 line)).step 6 0 0).land (f1 e).st.length)=vs ((f2 ((f1 e).step 8 0 line)).step 6 0 0):=rfl;obtain⟨r1,r2,r3,r4⟩:=h3 _ (q1.land (q2 _ (Vx (f1 e) 8 z4ma 0 line))) z4ma;have r4':((f2 ((f1 e).step 8 0 line)).step 6 0 0).slots<=(f3 (((f2 ((f1 e).step 8 0 line)).step 6 0 0).land (f1 e).st.length)).slots:=r4;exact⟨r1.land (r2 _ (JP.land (Vx _ 6 z4ma 0 0))),fun p hp=>(r2 p (q2 p (k2 p hp)).land).land,(show vs (f3 _)<=_ from by omega),(show e.slots<=(f3 _).slots from Fu (Fu k4 q4) r4')⟩
def D7.while(h1:D7 N G A s1 f1)(h2:D7 N G A s2 f2){line:Nat}(hln:line<=5000):D7 N G A (s1+s2) (fun e=>(Em.E7 (((f2 ((f1 e.open').step 7 0 line)).step 6 (e.st.length:Nat) 0).land (f1 e.open').st.length).Kv (((f2 ((f1 e.open').step 7 0 line)).step 6 (e.st.length:Nat) 0).land (f1 e.open').st.length)).close):=by
 intro e hk hv;have hk0:KI N G A e.open':=⟨hk.ok,fun x hx j hj=>by
  rcases L9.1 hx with rfl|hx
  ·cases hj
  ·exact hk.bk x hx j hj⟩
 have v0:vs e.open'=vs e:=rfl;obtain⟨k1,k2,k3,k4⟩:=(h1.jmp 7 z4ma (fun _=>0) hln) e.open' hk0 z4ma;dsimp only at k1 k2 k3 k4;obtain⟨q1,q2,q3,q4⟩:=(h2.jmp 6 z4ma (fun _=>(e.st.length:Nat)) (De _)) _ k1 z4ma;dsimp only at q1 q2 q3 q4;have r1:=q1.land (q2 _ (Vx (f1 e.open') 7 z4ma 0 line));have r4:e.slots<=((f2 ((f1 e.open').step 7 0 line)).step 6 (e.st.length:Nat) 0).slots:=Fu k4 q4;have r3:vs ((f2 ((f1 e.open').step 7 0 line)).step 6 (e.st.length:Nat) 0)<=vs e+(s1+s2):=by omega
 have r2:∀p,JP e p->JP (((f2 ((f1 e.open').step 7 0 line)).step 6 (e.st.length:Nat) 0).land (f1 e.open').st.length) p:=fun p hp=>(q2 p (k2 p hp)).land;dsimp only;generalize hd:((f2 ((f1 e.open').step 7 0 line)).step 6 (e.st.length:Nat) 0).land (f1 e.open').st.length=d at *;have hb:∀j∈d.Kv,JP d j:=fun j hj=>by
  unfold Em.Kv at hj;split at hj
  ·cases hj
  ·rename_i q;exact r1.bk _ (by rw[q];exact Q0) j hj
 obtain⟨t1,t2⟩:=KI.E7 d.Kv r1 hb;have hvd:vs d<=vs e+(s1+s2):=by rw[←hd];exact r3
 have hsd:e.slots<=d.slots:=by rw[←hd];exact r4
 have hls:∀(l:List Nat) (x:Em),(x.E7 l).slots=x.slots:=by
  intro l;induction l with
  | nil=>intro x;rfl
  | cons j r ih=>intro x;rw[Em.E7,ih];rfl
 refine⟨⟨t1.ok,fun x hx j hj=>t1.bk x (A3d hx) j hj⟩,fun p hp=>t2 p (r2 p hp),?_,?_⟩
 ·show max (d.E7 d.Kv).slots (d.E7 d.Kv).loc.length<=_;rw[hls,W5];exact hvd
 ·show e.slots<=(d.E7 d.Kv).slots;rw[hls];exact hsd
def D7.cut(h:D7 N G A s f)(n:Em->Nat):D7 N G A s (fun e=>(f e).cut (n e)):=fun e hk hv=>by
 obtain⟨k1,k2,k3,k4⟩:=h e hk hv;refine⟨⟨k1.ok,k1.bk⟩,k2,?_,k4⟩;unfold vs at *;show max (f e).slots ((f e).loc.take (n e)).length<=_;rw[G3];omega
def CK(fns:List (Nm×Nat)):BT A5->Prop
 | .nil=>True
 | .node _ _ l c r=>(l.kd=7->M4 fns l.s≠none)/\CK fns c/\CK fns r
def Aji(fns:List (Nm×Nat))(x:Nm)(h:M4 fns x≠none):0<=Lo fns x/\(Lo fns x).toNat<fns.length:=by
 have hf:∃i,Lm x (fns.map Prod.fst)=some i:=by
  induction fns with
  | nil=>exact absurd rfl h
  | cons f r ih=>
   rw[M4]at h;rw[Q2,Lm];by_cases hq:f.1=x
   ·exact⟨0,by rw[A7 hq]⟩
   ·rw[A1 hq]at h;obtain⟨i,hi⟩:=ih h;exact⟨i+1,by rw[A1 hq,hi]⟩
 obtain⟨i,hi⟩:=hf;have:=A63 hi;rw[Mb]at this;unfold Lo;rw[hi];dsimp only;omega
def Afh:∀c:BT A5,Aj c<=bsize c:=by
 intro c;induction c with
 | nil=>simp[Aj]
 | node x y l c r _ ih=>rw[Aj,bsize];omega
def Aey{s:Nat}(h:s≠39/\s≠40):(binOp s<=44/\P0 (binOp s)=true)/\binOp s≠42/\binOp s≠2/\binOp s≠4:=by
 unfold binOp;rw[Ai,Ai];repeat' split
 all_goals exact⟨⟨by omega,rfl⟩,by omega,by omega,by omega⟩
def Aex{s:Nat}(h:s=39\/s=40):6<=binOp s/\binOp s<=10:=by
 rcases h with rfl|rfl <;> decide
variable {fns:List (Nm×Nat)} {gl:List Nm}
def Ai5(hg:gl.length<=G)(hGA:G<=A)(hN:fns.length=N)(hNA:N<=A){l:A5}{c:BT A5}(hf:Tm l)(hln:l.kd≠31->l.kd≠32->l.line<=5000)(hc7:l.kd=7->M4 fns l.s≠none)(hA:bsize c<=A)(h0:D7 N G A (bsize c) (em fns gl c 0))(hm:∀m,1<=m->D7 N G A (Gi c m) (em fns gl c m)):D7 N G A (1+bsize c) (Aq fns gl l (Aj c) (em fns gl c)):=by
 have h3:=A1x c;have hI:F4 ⟨2,false,l.n,[],none⟩:=⟨by simp,hf.1,fun _=>rfl⟩;have hS:F4 ⟨3,false,0,l.s,none⟩:=⟨hf.2,Rd,fun q=>absurd q (by show(3:Nat)≠2;decide)⟩;have hB:∀b,F4 ⟨1,b,0,[],none⟩:=fun b=>⟨by simp,Rd,fun _=>rfl⟩;have cons:∀{v:PV},v.r=none/\v.k≠4/\F4 v->D7 N G A (1+bsize c) (fun e=>e.F5 v):=fun q=>(D7.F5 _ q).more z4ma;have zro:∀(o ln:Nat),ln<=5000->((o<=44/\P0 o=true)/\o≠42/\o≠2/\o≠4)->D7 N G A (1+bsize c) (fun e=>(em fns gl c 0 e).step o 0 ln):=fun o ln hl q=>(h0.zero o ln hl q).more z4ma;have q:Aq fns gl l (Aj c) (em fns gl c)=fun e=>Aq fns gl l (Aj c) (em fns gl c) e:=rfl;rw[q];unfold Aq;generalize hkd:l.kd=kd at *;split
 ·exact cons ⟨rfl,by show(2:Nat)≠4;decide,hI⟩
 ·exact cons ⟨rfl,by show(3:Nat)≠4;decide,hS⟩
 ·exact cons ⟨rfl,by show(1:Nat)≠4;decide,hB true⟩
 ·exact cons ⟨rfl,by show(1:Nat)≠4;decide,hB false⟩
 ·exact cons Ub
 ·exact(D7.Kl.var gl hg hGA l.s 1 2 (.inl rfl) (.inl rfl)).more z4ma
 ·have:=Aji fns l.s (hc7 rfl);exact(h0.step 42 (fun _=>Lo fns l.s) l.line (hln z4ma z4ma) ⟨by omega,rfl⟩ (.inr (fun _ _=>⟨this.1,by omega,fun _=>by omega,fun q=>by omega⟩))).more z4ma
 ·exact h0.more z4ma
 ·have:=Afh c;exact(h0.step 36 (fun _=>(Aj c:Nat)) l.line (hln z4ma z4ma) ⟨by omega,rfl⟩ (.inr (fun _ _=>⟨by omega,by omega,fun q=>by omega,fun q=>by omega⟩))).more z4ma
 ·exact zro 37 _ (hln z4ma z4ma) ⟨⟨by omega,rfl⟩,by omega,by omega,by omega⟩
 ·exact zro 38 _ (hln z4ma z4ma) ⟨⟨by omega,rfl⟩,by omega,by omega,by omega⟩
 ·exact zro 39 _ (hln z4ma z4ma) ⟨⟨by omega,rfl⟩,by omega,by omega,by omega⟩
 ·exact zro 27 _ (hln z4ma z4ma) ⟨⟨by omega,rfl⟩,by omega,by omega,by omega⟩
 ·exact zro 23 _ (hln z4ma z4ma) ⟨⟨by omega,rfl⟩,by omega,by omega,by omega⟩
 ·intro e hk hv;obtain⟨k1,k2,k3,k4⟩:=h0 e hk z4ma;have hl:(em fns gl c 0 e).loc.length<=vs (em fns gl c 0 e):=A3q _ _;refine⟨k1.add ⟨Ub,⟨by dsimp only;omega,rfl,by dsimp only;omega⟩,.inr ⟨by dsimp only;omega,by dsimp only;omega,fun q=>by dsimp only at q;omega,fun q=>by dsimp only at q;omega⟩⟩ _ _,fun p hp=>(k2 p hp).app _ _ _ _,?_,?_⟩
  ·unfold vs at *;show max (max (em fns gl c 0 e).slots ((em fns gl c 0 e).loc.length+1)) ((em fns gl c 0 e).loc++[l.s]).length<=_;simp only[Ds,Lw];omega
  ·show e.slots<=max (em fns gl c 0 e).slots _;omega
 ·unfold M3;dsimp only;by_cases hn:Aj c=3
  ·rw[hn];exact((D7.cond (hm 1 z4ma) (hm 2 z4ma) (hm 3 z4ma) (hln z4ma z4ma)).more z4ma).eq (fun e=>by rw[A7 rfl])
  ·exact((D7.cond (hm 1 z4ma) (hm 2 z4ma) D7.Kl (hln z4ma z4ma)).more z4ma).eq (fun e=>by rw[A1 hn])
 ·exact(D7.while (hm 1 z4ma) (hm 2 z4ma) (hln z4ma z4ma)).more z4ma
 ·by_cases hn:Aj c=0
  ·exact((D7.Kl.zero 43 0 (De _) ⟨⟨by omega,rfl⟩,by omega,by omega,by omega⟩).more z4ma).eq (fun e=>by rw[A7 hn])
  ·exact(zro 44 0 (De _) ⟨⟨by omega,rfl⟩,by omega,by omega,by omega⟩).eq (fun e=>by rw[A1 hn])
 ·exact D7.Ip.more z4ma
 ·exact D7.cnt.more z4ma
 ·exact zro 41 _ (hln z4ma z4ma) ⟨⟨by omega,rfl⟩,by omega,by omega,by omega⟩
 ·exact(h0.var gl hg hGA l.s 3 4 (.inr rfl) (.inr rfl)).more z4ma
 ·exact zro 40 _ (hln z4ma z4ma) ⟨⟨by omega,rfl⟩,by omega,by omega,by omega⟩
 ·exact zro 5 _ (De _) ⟨⟨by omega,rfl⟩,by omega,by omega,by omega⟩
 ·exact(h0.cut (fun e=>e.loc.length)).more z4ma
 ·exact(h0.cut (fun e=>e.loc.length)).more z4ma
 ·by_cases hb:kd=139\/kd=140
  ·exact((D7.bool (hm 1 z4ma) (hm 2 z4ma) (binOp (kd-100)) (hln z4ma z4ma) (Aex z4ma)).more z4ma).eq (fun e=>by rw[A7 hb];rfl)
  ·exact(zro (binOp (kd-100)) l.line (hln (by assumption) (by assumption)) (Aey z4ma)).eq (fun e=>by rw[A1 hb])
def A0x(hg:gl.length<=G)(hGA:G<=A)(hN:fns.length=N)(hNA:N<=A):∀c:BT A5,Vd c->CK fns c->bsize c<=A->D7 N G A (bsize c) (em fns gl c 0)/\∀m,1<=m->D7 N G A (Gi c m) (em fns gl c m):=by
 intro c;induction c with
 | nil=>intro _ _ _;exact⟨D7.Kl.eq (fun _=>rfl),fun m _=>(D7.Kl.more (De _)).eq (fun _=>by cases m <;> rfl)⟩
 | node x y l c r D5 C6=>
  rintro⟨l1,l2,l3⟩ ⟨c1,c2,c3⟩ hA;rw[bsize]at hA;obtain⟨a1,a2⟩:=D5 l2 c2 z4ma;obtain⟨b1,b2⟩:=C6 l3 c3 z4ma;have hn:=Ai5 hg hGA hN hNA l1.2 (fun h1 h2=>by rcases l1.1 with q|q|q;exact absurd q h1;exact absurd q h2;exact q.1.2) c1 z4ma a1 a2;refine⟨?_,fun m hm=>?_⟩
  ·exact((hn.comp b1).more (by rw[bsize];omega)).eq (fun e=>Iq _ _ _ _ _ _ _ _)
  ·by_cases h2:2<=m
   ·exact((b2 (m-1) z4ma).more (by rw[Gi,A7 h2];exact Af _)).eq (fun e=>by rw[em,A7 h2])
   ·have h1:m=1:=by omega
    subst h1;exact(hn.more (by show 1+bsize c<=bsize (nd l c);rw[Cf];omega)).eq (fun e=>Qh _ _ _ _ _ _ _ _)
end
section
open Go.Deep (BT)
def Zr:BT A5->Prop
 | .nil=>True
 | .node _ _ l _ r=>l.kd=31/\Zr r
def Nr(kd:Nat)(c:BT A5):Prop:=(kd=8\/kd=10\/kd=13\/kd=14\/kd=21\/kd=27\/kd=28\/kd=30->Aj c=1)/\(kd=11\/kd=12\/127<=kd->Aj c=2)/\(kd=29->Aj c=3)/\(kd=24->Aj c<=1)/\(kd=22->∃x y l1 c1 r,c=.node x y l1 c1 r/\l1.kd≠31/\Zr r/\1<=Aj r/\Aj r<=2)/\(kd<=6->c=.nil)
def Zm:BT A5->Prop
 | .nil=>True
 | .node _ _ l c r=>Nr l.kd c/\Zm c/\Zm r
variable {P:C5} {ps:List Kn} {fns:List (Nm×Nat)} {gl v v1:List Nm}
def V9(P:C5)(fns:List (Nm×Nat)):Prop:=∀(s:Nm) (k ln:Nat),M4 fns s=some k->Dv P ⟨42,Lo fns s,ln,Bb⟩=(k:Nat)
def Dt.st{n:Nat}{f:Em->Em}(h:Dt P ps gl v n f)(o:Nat)(u:Em->Int)(ln:Nat)(hn:NJ o)(ht:∀e,Dv P ⟨o,u e,ln,Bb⟩=(n:Nat))(hg:∀e x,∃k,Hu ps x ⟨o,u e,ln,Bb⟩=some k):Dt P ps gl v 1 (fun e=>(f e).step o (u e) ln):=
 h.one (fun e=>⟨o,u e,ln,Bb⟩) (fun _=>hn) ht hg
def Dt.dr{n:Nat}{f:Em->Em}(h:Dt P ps gl v n f)(o:Nat)(u:Em->Int)(ln:Nat)(hn:NJ o)(ht:∀e,Dv P ⟨o,u e,ln,Bb⟩=(n:Nat))(hg:∀e x,Hu ps x ⟨o,u e,ln,Bb⟩=none):Fl P ps gl v v (fun e=>(f e).step o (u e) ln):=
 h.drop (fun e=>⟨o,u e,ln,Bb⟩) (fun _=>hn) ht hg
def Dt.F5(u:PV):Dt P ps gl v 1 (fun e=>e.F5 u):=Dt.one (n:=0) Dt.Kl (fun _=>⟨0,0,0,u⟩) (fun _=>nk (.inl rfl)) (fun _=>rfl) (fun _ _=>⟨_,rfl⟩)
def Aez{s:Nat}(h:s≠39/\s≠40)(v:Int)(ln:Nat):Dv P ⟨binOp s,v,ln,Bb⟩=(2:Nat)/\∀x,∃k,Hu ps x ⟨binOp s,v,ln,Bb⟩=some k:=by
 unfold binOp;rw[Ai,Ai];repeat' split
 all_goals exact⟨rfl,fun x=>⟨_,rfl⟩⟩
end
section
open Go.Deep (BT)
def Kh(kd:Nat):Nat:=if kd=31\/kd=32\/kd=20 then 1 else if kd=22 then 2 else if kd=23 then 3 else 0
def Rf(m kd:Nat):Prop:=((m=0\/m=2\/m=3)/\Ej kd=true)\/(m=2/\kd=31)\/(m=3/\kd=32)\/((m=1\/m=4)/\(kd=22\/kd=23\/No kd=true))\/(m=4/\kd=20)
def Vb(l:A5):Prop:=(l.kd=31\/l.kd=32\/(Lz l.line/\∀p∈l.ps,Lz p.1))/\Tm l
def Vg(kd:Nat)(c:BT A5):Prop:=kd=23->∃x b,c=Dw x (nd (B4 32 0) b)/\Aj x=1/\(I8 x).kd≠32
def Tr:Nat->BT A5->Prop
 | _,.nil=>True
 | m,.node _ _ l c r=>Tr m r/\Vb l/\Nr l.kd c/\Vg l.kd c/\Rf m l.kd/\Tr (Kh l.kd) c
def Tr.app{m:Nat}:∀f g:BT A5,Tr m f->Tr m g->Tr m (Dw f g):=by
 intro f;induction f with
 | nil=>intro g _ h;exact h
 | node x y l c r _ ih=>intro g h1 h2;exact⟨ih g h1.1 h2,h1.2⟩
def Tr.nd{m:Nat}{l:A5}{c:BT A5}(h1:Vb l)(h2:Nr l.kd c)(h3:Vg l.kd c)(h4:Rf m l.kd)(h5:Tr (Kh l.kd) c):Tr m (nd l c):=⟨trivial,h1,h2,h3,h4,h5⟩
def Tr.up{m k:Nat}(hk:∀d,Rf m d->Rf k d):∀f:BT A5,Tr m f->Tr k f:=by
 intro f;induction f with
 | nil=>intro _;trivial
 | node x y l c r _ ih=>intro h;exact⟨ih h.1,h.2.1,h.2.2.1,h.2.2.2.1,hk _ h.2.2.2.2.1,h.2.2.2.2.2⟩
def Tr.wf:∀(f:BT A5) (m:Nat),Tr m f->Wf m f:=by
 intro f;induction f with
 | nil=>intro m _;trivial
 | node x y l c r D5 C6=>
  intro m h;have hc:=D5 _ h.2.2.2.2.2;refine⟨C6 m h.1,?_⟩;rcases h.2.2.2.2.1 with⟨q,k⟩|⟨q,k⟩|⟨q,k⟩|⟨q,k|k|k⟩|⟨q,k⟩
  ·refine .inl ⟨q,k,?_⟩;have:Kh l.kd=0:=by unfold Ej at k;simp only[Gz,F3,Jg]at k;unfold Kh;rw[Ai,Ai,Ai]
   rw[this]at hc;exact hc
  ·refine .inr (.inl ⟨q,k,?_⟩);rw[k]at hc;exact hc
  ·refine .inr (.inr (.inl ⟨q,k,?_⟩));rw[k]at hc;exact hc
  ·refine .inr (.inr (.inr (.inl ⟨q,k,?_⟩)));rw[k]at hc;exact hc
  ·refine .inr (.inr (.inr (.inr (.inl ⟨q,k,?_⟩))));rw[k]at hc;exact hc
  ·refine .inr (.inr (.inr (.inr (.inr (.inl ⟨q,k,?_⟩)))));have:Kh l.kd=0:=by unfold No at k;simp only[Gz,F3,Jg,Fh]at k;unfold Kh;rw[Ai,Ai,Ai]
   rw[this]at hc;exact hc
  ·refine .inr (.inr (.inr (.inr (.inr (.inr ⟨q,k,?_⟩)))));rw[k]at hc;exact hc
def Tr.ln:∀(f:BT A5) (m:Nat),Tr m f->Vd f/\Zm f:=by
 intro f;induction f with
 | nil=>intro m _;exact⟨trivial,trivial⟩
 | node x y l c r D5 C6=>intro m h;exact⟨⟨h.2.1,(D5 _ h.2.2.2.2.2).1,(C6 m h.1).1⟩,h.2.2.1,(D5 _ h.2.2.2.2.2).2,(C6 m h.1).2⟩
def Tr.t32:∀(f:BT A5) (m:Nat),m≠3->Tr m f->Xk f:=by
 intro f;induction f with
 | nil=>intro m _ _;trivial
 | node x y l c r _ C6=>
  intro m hm h;refine⟨fun k=>?_,C6 m hm h.1⟩;rcases h.2.2.2.2.1 with⟨_,q⟩|⟨_,q⟩|⟨q,_⟩|⟨_,q|q|q⟩|⟨_,q⟩
  ·rw[k]at q;exact z2ba
  ·omega
  ·exact hm q
  ·omega
  ·omega
  ·rw[k]at q;exact z2ba
  ·omega
def Tr.Aqt:∀(f:BT A5) (m:Nat),Tr m f->R3 f:=by
 intro f;induction f with
 | nil=>intro m _;trivial
 | node x y l c r D5 C6=>
  intro m h;refine⟨fun k=>h.2.2.1.1 (.inl k),fun k=>?_,fun k=>?_,D5 _ h.2.2.2.2.2,C6 m h.1⟩
  ·obtain⟨e,b,q1,q2,q3⟩:=h.2.2.2.1 k;refine⟨e,b,q1,q2,?_⟩;cases e with
   | nil=>trivial
   | node x1 y1 l1 c1 r1=>
    cases r1 with
    | nil=>exact⟨q3,trivial⟩
    | node x2 y2 l2 c2 r2=>simp[Aj]at q2
  ·refine Tr.t32 c _ ?_ h.2.2.2.2.2;unfold Kh;repeat' split
   all_goals (first|omega|contradiction)
end
section
open Go.Deep (BT)
variable {P:C5} {ps:List Kn} {fns:List (Nm×Nat)} {gl v v1:List Nm}
def nx(l:A5)(v:List Nm):List Nm:=if l.kd=21 then v++[l.s] else v
def VT(fns:List (Nm×Nat)):BT A5->List Nm->Prop
 | .nil,_=>True
 | .node _ _ l c r,v=>((l.kd=6\/l.kd=28->l.s∈v)/\(l.kd=7->M4 fns l.s=some (Aj c)))/\VT fns c v/\VT fns r (nx l v)
def Yp:∀(f:BT A5) (m:Nat),m≠1/\m≠4->Wf m f->∀(outer cur:List Nm) (wh:Nat) (inn:Bool) (u:Da),(Bt fns f outer cur wh inn u).1=cur:=by
 intro f;induction f with
 | nil=>intro m _ _ outer cur wh inn u;rfl
 | node x y l c r D5 C6=>
  intro m hm h outer cur wh inn u;rw[Bt];by_cases h31:l.kd=31
  ·rw[A7 h31];exact C6 m hm h.1 _ _ _ _ _
  rw[A1 h31];by_cases h32:l.kd=32
  ·rw[A7 h32];exact C6 m hm h.1 _ _ _ _ _
  rw[A1 h32];have h1:Ej l.kd=true/\Wf 0 c:=by
   rcases h.2 with⟨_,h1,h2⟩|⟨_,h1,_⟩|⟨_,h1,_⟩|⟨h1,_⟩|⟨h1,_⟩|⟨h1,_⟩|⟨h1,_⟩
   ·exact⟨h1,h2⟩
   all_goals omega
  have h21:l.kd≠21:=fun e=>by rw[e]at h1;exact absurd h1.1 z4oa
  rw[A1 h21,C6 m hm h.1,D5 0 z4ma h1.2]
def A8z:∀(c:BT A5) (m:Nat),m≠4->Wf m c->∀(outer cur:List Nm) (wh:Nat) (inn:Bool) (f:Da),(Bt fns c outer cur wh inn f).2.1=0->f.1=0/\VT fns c (outer++cur):=by
 intro c;induction c with
 | nil=>intro m _ _ outer cur wh inn f h;exact⟨h,trivial⟩
 | node x y l c r D5 C6=>
  intro m hm hw outer cur wh inn f h;rw[Bt]at h;have no:∀{k:Nat},k≠6->k≠28->k≠7->l.kd=k->(l.kd=6\/l.kd=28->l.s∈outer++cur)/\(l.kd=7->M4 fns l.s=some (Aj c)):=fun h1 h2 h3 e=>⟨fun q=>by omega,fun q=>by omega⟩;have h31':l.kd=31\/l.kd=32->Wf 1 c:=fun q=>by
   rcases hw.2 with⟨_,h1,h2⟩|⟨_,_,h2⟩|⟨_,_,h2⟩|⟨_,h1,h2⟩|⟨_,h1,h2⟩|⟨_,h1,h2⟩|⟨_,h1,h2⟩
   ·rcases q with q|q <;> rw[q]at h1 <;> exact absurd h1 z4oa
   ·exact h2
   ·exact h2
   ·omega
   ·omega
   ·rcases q with q|q <;> rw[q]at h1 <;> exact absurd h1 z4oa
   ·omega
  by_cases h31:l.kd=31
  ·rw[A7 h31]at h;obtain⟨a1,a2⟩:=C6 m hm hw.1 _ _ _ _ _ h;obtain⟨b1,b2⟩:=D5 1 z4ma (h31' (.inl h31)) _ _ _ _ _ a1;rw[Lx]at b2;exact⟨b1,no z4ma z4ma z4ma h31,b2,by unfold nx;rw[Ai];exact a2⟩
  rw[A1 h31]at h;by_cases h32:l.kd=32
  ·rw[A7 h32]at h;obtain⟨a1,a2⟩:=C6 m hm hw.1 _ _ _ _ _ h;obtain⟨b1,b2⟩:=D5 1 z4ma (h31' (.inr h32)) _ _ _ _ _ a1;rw[Lx]at b2;exact⟨b1,no z4ma z4ma z4ma h32,b2,by unfold nx;rw[Ai];exact a2⟩
  rw[A1 h32]at h;have hcl:∃k,(k≠1/\k≠4)/\Wf k c:=by
   rcases hw.2 with⟨_,_,h2⟩|⟨_,h2,_⟩|⟨_,h2,_⟩|⟨_,_,h2⟩|⟨_,_,h2⟩|⟨_,_,h2⟩|⟨h2,_⟩
   ·exact⟨0,by omega,h2⟩
   ·omega
   ·omega
   ·exact⟨2,by omega,h2⟩
   ·exact⟨3,by omega,h2⟩
   ·exact⟨0,by omega,h2⟩
   ·omega
  obtain⟨k,hk,hc⟩:=hcl;by_cases h21:l.kd=21
  ·rw[A7 h21]at h;obtain⟨a1,a2⟩:=C6 m hm hw.1 _ _ _ _ _ h;rw[Yp c k hk hc,←Gv]at a2;obtain⟨b1,b2⟩:=D5 k hk.2 hc _ _ _ _ _ a1;exact⟨(On z4ma b1).1,no z4ma z4ma z4ma h21,b2,by unfold nx;rw[A7 h21];exact a2⟩
  rw[A1 h21]at h;obtain⟨a1,a2⟩:=C6 m hm hw.1 _ _ _ _ _ h;rw[Yp c k hk hc]at a2;obtain⟨b1,b2⟩:=D5 k hk.2 hc _ _ _ _ _ a1;refine⟨?_,⟨fun q=>?_,fun q=>?_⟩,b2,by unfold nx;rw[A1 h21];exact a2⟩
  ·repeat' split at b1
   all_goals first|exact(On z4ma b1).1|exact b1
  ·rw[A7 q]at b1;have:=(On z4ma b1).2;by_cases k:l.s∈outer++cur
   ·exact k
   ·rw[O2 k]at this;cases this
  ·rw[Ai,A7 q]at b1;have:=(On z4ma b1).2;unfold Qd at this;split at this
   ·cases this
   ·rename_i w hw;rw[hw];simp only[bne_eq_false_iff_eq]at this;rw[this]
def VT.ck:∀(c:BT A5) (v:List Nm),VT fns c v->CK fns c:=by
 intro c;induction c with
 | nil=>intro v _;trivial
 | node x y l c r D5 C6=>intro v h;exact⟨fun q e=>(by rw[h.1.2 q]at e;cases e),D5 _ h.2.1,C6 _ h.2.2⟩
def Zu(P:C5)(ps:List Kn)(gl v:List Nm)(l:A5)(F:Em->Em):Prop:=(Ej l.kd=true->Dt P ps gl v 1 F)/\(Ej l.kd=false->Fl P ps gl v (nx l v) F)
def Ke(P:C5)(ps:List Kn)(fns:List (Nm×Nat))(gl:List Nm):BT A5->List Nm->Prop
 | .nil,_=>True
 | .node _ _ l c r,v=>Zu P ps gl v l (Aq fns gl l (Aj c) (em fns gl c))/\Ke P ps fns gl r (nx l v)
def vx:BT A5->List Nm->List Nm
 | .nil,v=>v
 | .node _ _ l _ r,v=>vx r (nx l v)
def Aj1{k:Nat}(h:Ej k=true):k≠21/\k≠31/\k≠32:=⟨fun e=>by rw[e]at h;exact absurd h z4oa,fun e=>by rw[e]at h;exact absurd h z4oa,fun e=>by rw[e]at h;exact absurd h z4oa⟩
def A7x{l:A5}(h:Ej l.kd=true):nx l v=v:=by unfold nx;rw[A1 (Aj1 h).1]
def in0{k:Nat}(h:Rf 0 k):Ej k=true:=by
 rcases h with⟨_,q⟩|⟨q,_⟩|⟨q,_⟩|⟨q,_⟩|⟨q,_⟩
 ·exact q
 all_goals omega
def Ke.ex:∀(c:BT A5),Tr 0 c->Ke P ps fns gl c v->Dt P ps gl v (Aj c) (em fns gl c 0):=by
 intro c;induction c with
 | nil=>intro _ _;exact Dt.Kl.eq (fun _=>rfl)
 | node x y l c r _ ih=>
  intro h k;have hx:=in0 h.2.2.2.2.1;rw[Ke,A7x hx]at k;have:=(k.1.1 hx).comp (ih h.1 k.2);rw[show Aj (.node x y l c r)=1+Aj r by rw[Aj];omega];exact this.eq (fun e=>Iq _ _ _ _ _ _ _ _)
def Ke.st:∀(c:BT A5) (v:List Nm),Tr 1 c->Ke P ps fns gl c v->Fl P ps gl v (vx c v) (em fns gl c 0):=by
 intro c;induction c with
 | nil=>intro v _ _;exact Fl.Kl.eq (fun _=>rfl)
 | node x y l c r _ ih=>
  intro v h k;have hx:Ej l.kd=false:=by
   rcases h.2.2.2.2.1 with⟨q,_⟩|⟨q,_⟩|⟨q,_⟩|⟨_,q|q|q⟩|⟨q,_⟩
   ·omega
   ·omega
   ·omega
   ·rw[q];rfl
   ·rw[q];rfl
   ·unfold No at q;unfold Ej;simp only[Gz,F3,Jg,Fh]at q;simp only[Zb,Aas,Ze];omega
   ·omega
  exact((k.1.2 hx).comp (ih _ h.1 k.2)).eq (fun e=>Iq _ _ _ _ _ _ _ _)
def Ke.one{x y:Nat}{l:A5}{c r:BT A5}(h:Ke P ps fns gl (.node x y l c r) v)(hk:Ej l.kd=true):Dt P ps gl v 1 (em fns gl (.node x y l c r) 1)/\Ke P ps fns gl r v:=by
 rw[Ke,A7x hk]at h;exact⟨(h.1.1 hk).eq (fun e=>Qh _ _ _ _ _ _ _ _),h.2⟩
def Ke.blk{x y:Nat}{l:A5}{c r:BT A5}(h:Ke P ps fns gl (.node x y l c r) v)(hk:l.kd=31\/l.kd=32):Fl P ps gl v v (em fns gl (.node x y l c r) 1)/\Ke P ps fns gl r v:=by
 have e:nx l v=v:=by unfold nx;rw[Ai]
 rw[Ke,e]at h;have:=h.1.2 (by rcases hk with q|q <;> rw[q] <;> rfl);rw[e]at this;exact⟨this.eq (fun e=>Qh _ _ _ _ _ _ _ _),h.2⟩
def Alw{s:Nm}:∀{l:List Nm},s∈l->∃i,Mh s l=some i:=by
 intro l;induction l with
 | nil=>intro h;cases h
 | cons x r ih=>
  intro h;rw[Mh];rcases L9.1 h with h|h
  ·cases Mh s r with
   | none=>exact⟨0,by simp[h]⟩
   | some i=>exact⟨i+1,rfl⟩
  ·obtain⟨i,hi⟩:=ih h;exact⟨i+1,by rw[hi]⟩
def Aj5{s:Nm}:∀{l:List Nm},s∈l->∃i,Lm s l=some i:=by
 intro l;induction l with
 | nil=>intro h;cases h
 | cons x r ih=>
  intro h;rw[Lm];by_cases hx:x=s
  ·exact⟨0,A7 hx⟩
  ·rw[A1 hx];obtain⟨i,hi⟩:=ih ((L9.1 h).resolve_left (fun q=>hx q.symm));exact⟨i+1,by rw[hi]⟩
def Aa5{s:Nm}(hs:s∈v)(e:Em)(hv:Cv gl v e.loc)(lo gb:Nat):∃(o:Nat) (i:Nat),(o=lo/\i<e.loc.length\/o=gb)/\e.var gl s lo gb=e.step o (i:Nat) 0:=by
 unfold Em.var;cases hl:Mh s e.loc with
 | some i=>exact⟨lo,i,.inl ⟨rfl,A70 hl⟩,rfl⟩
 | none=>
  rcases hv s hs with q|q
  ·obtain⟨i,hi⟩:=Alw q;rw[hl]at hi;cases hi
  ·obtain⟨i,hi⟩:=Aj5 q;rw[hi];exact⟨gb,i,.inr rfl,rfl⟩
def Dt.ld{s:Nm}(hs:s∈v):Dt P ps gl v 1 (fun e=>e.var gl s 1 2):=fun us a Q e hv h=>by
 obtain⟨o,i,ho,q⟩:=Aa5 hs e hv 1 2;dsimp only;rw[q];refine Dt.at1 (f:=fun e=>e) (n:=0) Dt.Kl hv h ⟨o,(i:Nat),0,Bb⟩ (nj z66a) (fun hl q=>by dsimp only at *;omega) ?_ (fun x=>?_)
 ·rcases ho with⟨rfl,_⟩|rfl <;> rfl
 ·rcases ho with⟨rfl,_⟩|rfl <;> exact⟨_,rfl⟩
def Dt.sto{s:Nm}{f:Em->Em}(h0:Dt P ps gl v 1 f)(hs:s∈v):Fl P ps gl v v (fun e=>(f e).var gl s 3 4):=fun us Q e hv h=>by
 obtain⟨e1,_⟩:=h0 us [] Q e hv h;obtain⟨o,i,ho,q⟩:=Aa5 hs (f e) (by rw[e1];exact hv) 3 4;dsimp only;rw[q];obtain⟨_,h1⟩:=h0.at0 hv h ⟨o,(i:Nat),0,Bb⟩ (nj z66a) (fun hl q=>by dsimp only at *;omega) (by rcases ho with⟨rfl,_⟩|rfl <;> rfl) (fun x=>by rcases ho with⟨rfl,_⟩|rfl <;> rfl);exact z3ha
def Dt.let'{s:Nm}{f:Em->Em}(h0:Dt P ps gl v 1 f):Fl P ps gl v (v++[s]) (fun e=>((f e).local' s).step 3 ((f e).loc.length:Nat) 0):=fun us Q e hv h=>by
 obtain⟨e1,us1,k1,l1,g1,o1⟩:=h0 us [] Q e hv h;have g2:=g1.same (e':=(f e).local' s) rfl rfl (by show((f e).loc++[s]).length<=_;rw[Ds];exact A3q _ _) (A3r _ _);have hf:follow P ps ([]++k1) ⟨3,((f e).loc.length:Nat),0,Bb⟩=[]:=by
  rw[Ss _ _ 1 rfl,show Hu ps ([]++k1) ⟨3,((f e).loc.length:Nat),0,Bb⟩=none from rfl,A1 (by rw[Se];omega)];have:([]++k1:List Kn).length-1=0:=by simp;omega
  rw[this];simp
 have ht:Dv P ⟨3,((f e).loc.length:Nat),0,Bb⟩=(1:Nat):=rfl;have g3:=g2.op ⟨3,((f e).loc.length:Nat),0,Bb⟩ (nj z66a) (fun _=>⟨by dsimp only;omega,by show(((f e).loc.length:Nat):Int)<((max (f e).slots ((f e).loc.length+1):Nat):Int);omega⟩) hf ⟨by rw[ht];omega,by rw[ht,Se];omega⟩;refine⟨⟨?_,[s],?_⟩,us1++[[]],by rw[←Gv];exact g3,fun p o q=>(o1 p o q).app _ _ _ _⟩
 ·show Cv gl (v++[s]) ((f e).loc++[s]);rw[e1];intro x hx;rcases Jp.1 hx with q|q
  ·exact(hv x q).imp (fun q=>Jp.2 (.inl q)) id
  ·exact .inl (Jp.2 (.inr q))
 ·show(f e).loc++[s]=_;rw[e1]
def z20a {P:Prop} (h:P:=by
  exact⟨fun _=>Dt.F5 _,fun q=>absurd q z4oa⟩):P:=h
def Ai0(hC:V9 P fns){l:A5}{c:BT A5}(hK:Ej l.kd=true\/(21<=l.kd/\l.kd<=32))(hA:Nr l.kd c)(hW:Vg l.kd c)(hT:Tr (Kh l.kd) c)(hV:(l.kd=6\/l.kd=28->l.s∈v)/\(l.kd=7->M4 fns l.s=some (Aj c)))(h:Ke P ps fns gl c v):Zu P ps gl v l (Aq fns gl l (Aj c) (em fns gl c)):=by
 have q:Aq fns gl l (Aj c) (em fns gl c)=fun e=>Aq fns gl l (Aj c) (em fns gl c) e:=rfl;rw[q];unfold Aq Zu nx;generalize hkd:l.kd=kd at *;have X:∀{m:Nat} (o ln:Nat),Tr 0 c->Aj c=m->NJ o->Dv P ⟨o,0,ln,Bb⟩=(m:Nat)->(∀x,∃k,Hu ps x ⟨o,0,ln,Bb⟩=some k)->Dt P ps gl v 1 (fun e=>(em fns gl c 0 e).step o 0 ln):=fun o ln h1 h2 h3 h4 h5=>(h.ex c h1).st o (fun _=>0) ln h3 (fun _=>by rw[h2];exact h4) (fun _=>h5);have Y:∀{m:Nat} (o ln:Nat),Tr 0 c->Aj c=m->NJ o->Dv P ⟨o,0,ln,Bb⟩=(m:Nat)->(∀x,Hu ps x ⟨o,0,ln,Bb⟩=none)->Fl P ps gl v v (fun e=>(em fns gl c 0 e).step o 0 ln):=fun o ln h1 h2 h3 h4 h5=>(h.ex c h1).dr o (fun _=>0) ln h3 (fun _=>by rw[h2];exact h4) (fun _=>h5);have b1:=hA.1;have b2:=hA.2.1;split
 ·exact z20a
 ·exact z20a
 ·exact z20a
 ·exact z20a
 ·exact z20a
 ·exact⟨fun _=>Dt.ld (hV.1 (.inl rfl)),fun q=>absurd q z4oa⟩
 ·exact⟨fun _=>(h.ex c hT).st 42 (fun _=>Lo fns l.s) l.line (nk z4ma) (fun _=>hC _ _ _ (hV.2 rfl)) (fun _ _=>⟨_,rfl⟩),fun q=>absurd q z4oa⟩
 ·exact⟨fun _=>by have:=h.ex c hT;rw[b1 z4ma]at this;exact this,fun q=>absurd q z4oa⟩
 ·exact⟨fun _=>(h.ex c hT).st 36 (fun _=>(Aj c:Nat)) l.line (nk z4ma) (fun _=>rfl) (fun _ _=>⟨_,rfl⟩),fun q=>absurd q z4oa⟩
 ·exact⟨fun _=>X 37 _ hT (b1 z4ma) (nk z4ma) rfl (fun _=>⟨_,rfl⟩),fun q=>absurd q z4oa⟩
 ·exact⟨fun _=>X 38 _ hT (b2 z4ma) (nk z4ma) rfl (fun _=>⟨_,rfl⟩),fun q=>absurd q z4oa⟩
 ·exact⟨fun _=>X 39 _ hT (b2 z4ma) (nk z4ma) rfl (fun _=>⟨_,rfl⟩),fun q=>absurd q z4oa⟩
 ·exact⟨fun _=>X 27 _ hT (b1 z4ma) (nk z4ma) rfl (fun _=>⟨_,rfl⟩),fun q=>absurd q z4oa⟩
 ·exact⟨fun _=>X 23 _ hT (b1 z4ma) (nk z4ma) rfl (fun _=>⟨_,rfl⟩),fun q=>absurd q z4oa⟩
 ·refine⟨fun q=>absurd q z4oa,fun _=>?_⟩;have:=h.ex c hT;rw[b1 z4ma]at this;exact this.let'
 ·refine⟨fun q=>absurd q z4oa,fun _=>?_⟩;obtain⟨x,y,l1,c1,r,hc,n31,k31,r1,r2⟩:=hA.2.2.2.2.1 rfl;subst hc;have hk1:Ej l1.kd=true:=by
   rcases hT.2.2.2.2.1 with⟨_,q⟩|⟨_,q⟩|⟨q,_⟩|⟨q,_⟩|⟨q,_⟩
   ·exact q
   ·exact absurd q n31
   ·exact z2ba
   ·exact z2ba
   ·exact z2ba
  obtain⟨p1,hr⟩:=h.one hk1;cases r with
  | nil=>simp[Aj]at r1
  | node x2 y2 l2 c2 r'=>
   obtain⟨p2,hr'⟩:=hr.blk (.inl k31.1);unfold M3;dsimp only;by_cases hn:Aj (.node x y l1 c1 (.node x2 y2 l2 c2 r'))=3
   ·cases r' with
    | nil=>simp[Aj]at hn
    | node x3 y3 l3 c3 r3=>
     obtain⟨p3,_⟩:=hr'.blk (.inl k31.2.1);exact(Fl.cond p1 p2 p3 l.line).eq (fun e=>by rw[A7 hn];rfl)
   ·exact(Fl.cond p1 p2 Fl.Kl l.line).eq (fun e=>by rw[A1 hn];rfl)
 ·refine⟨fun q=>absurd q z4oa,fun _=>?_⟩;obtain⟨x,b,hc,Er,I5⟩:=hW rfl;subst hc;cases x with
  | nil=>simp[Aj]at Er
  | node x1 y1 l1 c1 r1=>
   cases r1 with
   | node _ _ _ _ _=>simp[Aj]at Er
   | nil=>
    have hk1:Ej l1.kd=true:=by
     rcases hT.2.2.2.2.1 with⟨_,q⟩|⟨q,_⟩|⟨_,q⟩|⟨q,_⟩|⟨q,_⟩
     ·exact q
     ·exact z2ba
     ·exact absurd q I5
     ·exact z2ba
     ·exact z2ba
    obtain⟨p1,hr⟩:=Ke.one (r:=nd (B4 32 0) b) h hk1;obtain⟨p2,_⟩:=Ke.blk hr (.inr rfl);exact(Fl.while p1 p2 l.line).eq (fun e=>rfl)
 ·refine⟨fun q=>absurd q z4oa,fun _=>?_⟩;by_cases hn:Aj c=0
  ·exact(Dt.dr (f:=fun e=>e) (n:=0) Dt.Kl 43 (fun _=>0) 0 (nk z4ma) (fun _=>rfl) (fun _ _=>rfl)).eq (fun e=>by rw[A7 hn])
  ·exact(Y 44 0 hT (show Aj c=1 by have:=hA.2.2.2.1 rfl;omega) (nk z4ma) rfl (fun _=>rfl)).eq (fun e=>by rw[A1 hn])
 ·exact⟨fun q=>absurd q z4oa,fun _=>Fl.Ip⟩
 ·exact⟨fun q=>absurd q z4oa,fun _=>Fl.cnt⟩
 ·exact⟨fun q=>absurd q z4oa,fun _=>Y 41 _ hT (b1 z4ma) (nk z4ma) rfl (fun _=>rfl)⟩
 ·refine⟨fun q=>absurd q z4oa,fun _=>?_⟩;have:=h.ex c hT;rw[b1 z4ma]at this;exact this.sto (hV.1 (.inr rfl))
 ·exact⟨fun q=>absurd q z4oa,fun _=>Y 40 _ hT (hA.2.2.1 rfl) (nk z4ma) rfl (fun _=>rfl)⟩
 ·exact⟨fun q=>absurd q z4oa,fun _=>Y 5 _ hT (b1 z4ma) (nk z4ma) rfl (fun _=>rfl)⟩
 ·exact⟨fun q=>absurd q z4oa,fun _=>(h.st c v hT).cut⟩
 ·exact⟨fun q=>absurd q z4oa,fun _=>(h.st c v hT).cut⟩
 ·have hn:kd≠1/\kd≠2/\kd≠3/\kd≠4/\kd≠5/\kd≠6/\kd≠7/\kd≠8/\kd≠9/\kd≠10/\kd≠11/\kd≠12/\kd≠13/\kd≠14/\kd≠21/\kd≠22/\kd≠23/\kd≠24/\kd≠25/\kd≠26/\kd≠27/\kd≠28/\kd≠29/\kd≠30/\kd≠31/\kd≠32:=by
   refine⟨?_,?_,?_,?_,?_,?_,?_,?_,?_,?_,?_,?_,?_,?_,?_,?_,?_,?_,?_,?_,?_,?_,?_,?_,?_,?_⟩ <;> assumption
  have hx:Ej kd=true/\127<=kd/\kd<=140:=by
   rcases hK with q|q
   ·refine⟨q,?_⟩;unfold Ej at q;simp only[Gz,F3,Jg]at q;omega
   ·omega
  refine⟨fun _=>?_,fun q=>by rw[hx.1]at q;cases q⟩;have hcl:Kh kd=0:=by unfold Kh;rw[Ai,Ai,Ai]
  rw[hcl]at hT;have Ad:=b2 z4ma;by_cases hb:kd=139\/kd=140
  ·cases c with
   | nil=>simp[Aj]at Ad
   | node x1 y1 l1 c1 r1=>
    obtain⟨p1,hr⟩:=h.one (in0 hT.2.2.2.2.1);cases r1 with
    | nil=>simp[Aj]at Ad
    | node x2 y2 l2 c2 r2=>
     obtain⟨p2,_⟩:=hr.one (in0 hT.1.2.2.2.2.1);exact(Dt.bool p1 p2 (binOp (kd-100)) l.line (by rcases hb with q|q <;> rw[q] <;> decide)).eq (fun e=>by rw[A7 hb];rfl)
  ·have ht:=Aez (P:=P) (ps:=ps) (s:=kd-100) z4ma 0 l.line;exact(X (binOp (kd-100)) l.line hT Ad ⟨A4p z4ma,by have:=A4o (kd-100);omega,by have:=A4o (kd-100);omega⟩ ht.1 ht.2).eq (fun e=>by rw[A1 hb])
def A0v(hC:V9 P fns):∀(c:BT A5) (m:Nat) (v:List Nm),m<=3->Tr m c->VT fns c v->Ke P ps fns gl c v:=by
 intro c;induction c with
 | nil=>intro m v _ _ _;trivial
 | node x y l c r D5 C6=>
  intro m v hm h hv;have hK:Ej l.kd=true\/(21<=l.kd/\l.kd<=32):=by
   rcases h.2.2.2.2.1 with⟨_,q⟩|⟨_,q⟩|⟨_,q⟩|⟨_,q|q|q⟩|⟨q,_⟩
   ·exact .inl q
   ·omega
   ·omega
   ·omega
   ·omega
   ·right;unfold No at q;simp only[Gz,F3,Jg,Fh]at q;omega
   ·omega
  have hcl:Kh l.kd<=3:=by
   unfold Kh;exact z40a
  exact⟨Ai0 hC hK h.2.2.1 h.2.2.2.1 h.2.2.2.2.2 hv.1 (D5 _ _ hcl h.2.2.2.2.2 hv.2.1),C6 m _ hm h.1 hv.2.2⟩
end
section
open Go.Deep (BT)
variable {P:C5} {ps:List Kn} {fns:List (Nm×Nat)} {gl v:List Nm}
structure Nq (P : C5) (ps : List Kn) (us : List (List Kn)) (n : Nat) (st : List Aa) : Prop where
 len:us.length=st.length+1
 zero:us[0]?=some []
 sq:∀(p:Nat) (i:Aa),st[p]?=some i->∃x,us[p]?=some x/\us[p+1]?=some (follow P ps x i)/\R4 P x i
 jm:∀(p:Nat) (i:Aa),st[p]?=some i->JA us p i
 sl:∀(p:Nat) (i:Aa),st[p]?=some i->Ts n i
def GA.abl{us:List (List Kn)}{a:List Kn}{e:Em}(h:GA P ps us a Po e)(h0:us[0]?=some [])(hl:e.lps=[]):Nq P ps us e.slots e.st:=by
 refine⟨h.len,h0,h.sq,fun p i hp=>?_,h.sl⟩;rcases h.jm p i hp with r|r|⟨x,hx,_⟩
 ·exact r
 ·exact r.elim
 ·rw[hl]at hx;cases hx
def A6l{loc:List Nm}{slots:Nat}(h:loc.length<=slots):GA P ps [[]] [] Po ⟨loc,slots,[],[]⟩:=⟨rfl,rfl,fun p i q=>by simp at q,fun p i q=>by simp at q,fun x q=>(by cases q),h,fun p i q=>by simp at q⟩
def A1p{c:BT A5}{m:Nat}{e:Em}(h:e.lps=[]):(em fns gl c m e).lps=[]:=List.eq_nil_of_length_eq_zero (by rw[Y2,h];rfl)
def Ahw(hC:V9 P fns)(l:A5)(c:BT A5)(hT:Tr 1 c)(hV:VT fns c (gl++l.ps.map Prod.snd)):∃us,Nq P ps us (Mf fns gl l c).slots (Mf fns gl l c).steps:=by
 have h:=(Ke.st c _ hT (A0v (P:=P) (ps:=ps) (gl:=gl) hC c 1 _ z4ma hT hV)).comp (Dt.dr (f:=fun e=>e) (n:=0) Dt.Kl 43 (fun _=>0) 0 (nk z4ma) (fun _=>rfl) (fun _ _=>rfl));obtain⟨_,us,h1,_⟩:=h [[]] Po ⟨l.ps.map Prod.snd,l.ps.length,[],[]⟩ (fun s hs=>by
  rcases Jp.1 hs with q|q
  ·exact .inr q
  ·exact .inl q) (A6l z4ra)
 exact⟨_,h1.abl rfl (A1p (fns:=fns) (gl:=gl) (c:=c) (m:=0) (e:=⟨l.ps.map Prod.snd,l.ps.length,[],[]⟩) rfl)⟩
def Q8(fns:List (Nm×Nat)):BT A5->List Nm->Prop
 | .nil,_=>True
 | .node _ _ l c r,gl=>(l.kd=20->VT fns c (gl++l.ps.map Prod.snd))/\(l.kd≠20->VT fns (nd l c) gl)/\Q8 fns r (nx l gl)
def Ap0:∀(ps:List (Nat×Nm)) (cur:List Nm) (f:Da),(Jl ps cur f).1=cur++ps.map Prod.snd:=by
 intro ps;induction ps with
 | nil=>intro cur f;simp[Jl]
 | cons p r ih=>intro cur f;rw[Jl,ih];simp
def Aw2{x y:Nat}{l:A5}{c r:BT A5}(h:Wf 4 (.node x y l c r))(h20:l.kd≠20):Wf 1 (.node x y l c .nil):=by
 refine⟨trivial,?_⟩;rcases h.2 with⟨q,_⟩|⟨q,_⟩|⟨q,_⟩|⟨_,q⟩|⟨_,q⟩|⟨_,q⟩|⟨_,q,_⟩
 ·omega
 ·omega
 ·omega
 ·exact z3wa
 ·exact .inr (.inr (.inr (.inr (.inl ⟨.inl rfl,q⟩))))
 ·exact .inr (.inr (.inr (.inr (.inr (.inl ⟨.inl rfl,q⟩)))))
 ·exact absurd q h20
def Ar8{x y:Nat}{l:A5}{c:BT A5}(h:Wf 1 (.node x y l c .nil))(outer cur:List Nm)(wh:Nat)(inn:Bool)(f:Da):(Bt fns (.node x y l c .nil) outer cur wh inn f).1=nx l cur:=by
 have hc:(l.kd≠31/\l.kd≠32)/\∃k,(k≠1/\k≠4)/\Wf k c:=by
  rcases h.2 with⟨q,_⟩|⟨q,_⟩|⟨q,_⟩|⟨_,q,h2⟩|⟨_,q,h2⟩|⟨_,q,h2⟩|⟨q,_⟩
  ·omega
  ·omega
  ·omega
  ·exact⟨by omega,2,by omega,h2⟩
  ·exact⟨by omega,3,by omega,h2⟩
  ·exact⟨⟨fun e=>by rw[e]at q;exact absurd q z4oa,fun e=>by rw[e]at q;exact absurd q z4oa⟩,0,by omega,h2⟩
  ·omega
 obtain⟨⟨n31,n32⟩,k,hk,hw⟩:=hc;rw[Bt,A1 n31,A1 n32];unfold nx;split
 ·rw[Yp c k hk hw];rfl
 ·exact Yp c k hk hw _ _ _ _ _
def A8w:∀(c:BT A5) (seen gl:List Nm) (f:Da),Wf 4 c->(G2 fns c seen gl f).1=0->f.1=0/\Q8 fns c gl:=by
 intro c;induction c with
 | nil=>intro seen gl f _ h;exact⟨h,trivial⟩
 | node x y l c r _ C6=>
  intro seen gl f hw h;rw[G2]at h;by_cases h20:l.kd=20
  ·rw[A7 h20]at h;obtain⟨a1,a2⟩:=C6 _ _ _ hw.1 h;have Fe:Wf 1 c:=by
    rcases hw.2 with⟨q,_⟩|⟨q,_⟩|⟨q,_⟩|⟨_,q,_⟩|⟨_,q,_⟩|⟨_,q,_⟩|⟨_,_,q⟩
    ·omega
    ·omega
    ·omega
    ·omega
    ·omega
    ·rw[h20]at q;exact z2ba
    ·exact q
   obtain⟨b1,b2⟩:=A8z c 1 z4ma Fe _ _ _ _ _ a1;rw[Ap0,Se]at b2;exact⟨(On z4ma (A8g _ _ _ b1)).1,fun _=>b2,fun q=>absurd h20 q,by unfold nx;rw[Ai];exact a2⟩
  ·rw[A1 h20]at h;have Fe:=Aw2 hw h20;obtain⟨a1,a2⟩:=C6 _ _ _ hw.1 h;rw[Ar8 Fe]at a2;obtain⟨b1,b2⟩:=A8z _ 1 z4ma Fe _ _ _ _ _ a1;exact⟨b1,fun q=>absurd q h20,fun _=>b2,a2⟩
def Aic(hC:V9 P fns):∀(c:BT A5) (gl:List Nm) (fs:List Fn) (e:Em) (us:List (List Kn)),Tr 4 c->Q8 fns c gl->(∀f∈fs,∀ps,∃us,Nq P ps us f.slots f.steps)->GA P [] us [] Po e->us[0]?=some []->e.lps=[]->(∃us,Nq P [] us (Ht fns c gl fs e).slots (Ht fns c gl fs e).main)/\∀f∈(Ht fns c gl fs e).fns,∀ps,∃us,Nq P ps us f.slots f.steps:=by
 intro c;induction c with
 | nil=>intro gl fs e us _ _ hf h h0 hl;exact⟨⟨us,h.abl h0 hl⟩,hf⟩
 | node x y l c r _ C6=>
  intro gl fs e us hT hV hf h h0 hl;have hin:=hT.2.2.2.2.1;have hTc:=hT.2.2.2.2.2;rw[Ht];by_cases h20:l.kd=20
  ·rw[A7 h20];have en:nx l gl=gl:=by unfold nx;rw[Ai]
   rw[Q8,en]at hV;rw[h20]at hTc;refine C6 gl _ e us hT.1 hV.2.2 (fun f hff=>?_) h h0 hl;rcases Jp.1 hff with q|q
   ·exact hf f q
   ·rw[Lb.1 q];exact fun ps=>Ahw hC l c hTc (hV.1 h20)
  rw[A1 h20];have hV1:=hV.2.1 h20;have next:∀{f:Em->Em} {w:List Nm},Fl P [] gl gl w f->∃us',GA P [] us' [] Po (f e)/\us'[0]?=some []:=fun hO=>by
   obtain⟨_,u1,h1,_⟩:=hO us Po e (fun s hs=>.inr hs) h;exact⟨us++u1,h1,Gq h0⟩
  have hT1:Tr 1 (nd l c):=by
   refine Tr.nd hT.2.1 hT.2.2.1 hT.2.2.2.1 ?_ hTc;rcases hin with⟨q,_⟩|⟨q,_⟩|⟨q,_⟩|⟨_,q⟩|⟨_,q⟩
   ·omega
   ·omega
   ·omega
   ·exact z3wa
   ·exact absurd q h20
  by_cases h21:l.kd=21
  ·rw[A7 h21];have en:nx l gl=gl++[l.s]:=by unfold nx;rw[A7 h21]
   rw[Q8,en]at hV;have hT0:Tr 0 c:=by rw[h21]at hTc;exact hTc
   have hx:=Ke.ex c hT0 (A0v (P:=P) (ps:=[]) (gl:=gl) hC c 0 gl z4ma hT0 hV1.2.1);rw[hT.2.2.1.1 z4ma]at hx;obtain⟨us',k1,k2⟩:=next (hx.dr 4 (fun _=>(gl.length:Nat)) 0 (nk z4ma) (fun _=>rfl) (fun _ _=>rfl));exact C6 _ _ _ us' hT.1 hV.2.2 hf k1 k2 (A1p (fns:=fns) (gl:=gl) (c:=c) (m:=0) hl)
  ·rw[A1 h21];have en:nx l gl=gl:=by unfold nx;rw[A1 h21]
   rw[Q8,en]at hV;obtain⟨us',k1,k2⟩:=next (Ke.st (nd l c) gl hT1 (A0v (P:=P) (ps:=[]) (gl:=gl) hC (nd l c) 1 gl z4ma hT1 hV1));exact C6 _ _ _ us' hT.1 hV.2.2 hf k1 k2 (A1p (fns:=fns) (gl:=gl) (c:=nd l c) (m:=0) hl)
def Aid(fns:List (Nm×Nat)):∀(c:BT A5) (gl:List Nm) (fs:List Fn) (e:Em),(Ht fns c gl fs e).fns.map (fun f=>(f.name,f.params))=fs.map (fun f=>(f.name,f.params))++Cr c:=by
 intro c;induction c with
 | nil=>intro gl fs e;simp[Ht,Cr]
 | node x y l c r _ ih=>
  intro gl fs e;rw[Ht,Cr];split
  ·rw[ih];simp[Mf]
  ·split
   ·rw[ih]
   ·rw[ih]
def Ajf{s:Nm}{k:Nat}:∀{fns:List (Nm×Nat)},M4 fns s=some k->∃j,Lm s (fns.map Prod.fst)=some j/\(fns[j]?).map Prod.snd=some k:=by
 intro fns;induction fns with
 | nil=>intro h;cases h
 | cons f r ih=>
  intro h;rw[M4]at h;rw[Q2,Lm];by_cases hq:f.1=s
  ·rw[A7 hq]at h ⊢;exact⟨0,rfl,h⟩
  ·rw[A1 hq]at h ⊢;obtain⟨j,h1,h2⟩:=ih h;exact⟨j+1,by rw[h1],h2⟩
def Afw(c:BT A5):V9 (Fo c) (Cr c):=fun s k ln h=>by
 obtain⟨j,h1,h2⟩:=Ajf h;have e:(Fo c).fns.map (fun f=>(f.name,f.params))=Cr c:=Aid (Cr c) c [] [] ⟨[],0,[],[]⟩;have hn:Lo (Cr c) s=((j:Nat):Int):=by unfold Lo;rw[h1]
 rw[hn];show(match (Fo c).fns[((j:Nat):Int).toNat]? with|some f=>((f.params:Nat):Int)|none=>0)=_;rw[O8];rw[←e,Qt]at h2;cases hf:(Fo c).fns[j]? with
 | none=>rw[hf]at h2;cases h2
 | some f=>rw[hf]at h2;simp at h2;rw[←h2]
def Ai9{c:BT A5}(hT:Tr 4 c)(hs:(G2 (Cr c) c [] [] (0,0)).1=0):(∃us,Nq (Fo c) [] us (Fo c).slots (Fo c).main)/\∀f∈(Fo c).fns,∀ps,∃us,Nq (Fo c) ps us f.slots f.steps:=
 Aic (Afw c) c [] [] ⟨[],0,[],[]⟩ [[]] hT (A8w c [] [] (0,0) (hT.wf c 4) hs).2 (fun f q=>by cases q) (A6l (Af _)) rfl rfl
def Q8.ck:∀(c:BT A5) (gl:List Nm),Q8 fns c gl->CK fns c:=by
 intro c;induction c with
 | nil=>intro gl _;trivial
 | node x y l c r _ ih=>
  intro gl h;by_cases h20:l.kd=20
  ·exact⟨fun q=>by omega,VT.ck _ _ (h.1 h20),ih _ h.2.2⟩
  ·have k:=VT.ck _ _ (h.2.1 h20);exact⟨k.1,k.2.1,ih _ h.2.2⟩
end
section
open Go.Deep (BT)
def A8u{v w:PV}(h:v.same w=true):v=w:=by
 unfold PV.same at h;simp only[F3,Fh]at h;cases v;cases w;simp_all
def Wq{k:Kn}{v:PV}{kd:Nat}(h:k.is v=true)(s:k.sure kd=true):v.k=kd:=by
 unfold Kn.sure at s;simp only[F3,Fh]at s;unfold Kn.is at h;split at h
 ·rw[A8u h];exact s.2
 ·rw[s.1]at h;simp at h;rw[h];exact s.2
def Hs:List Kn->List PV->Prop
 | [],[]=>True
 | k::x,v::b=>k.is v=true/\Hs x b
 | _,_=>False
def Hs.len:∀{x:List Kn} {b:List PV},Hs x b->x.length=b.length:=by
 intro x;induction x with
 | nil=>intro b h;cases b with
  | nil=>rfl
  | cons=>exact h.elim
 | cons k x ih=>intro b h;cases b with
  | nil=>exact h.elim
  | cons v b=>simp[ih h.2]
def Hs.app:∀{x:List Kn} {b:List PV} {y:List Kn} {c:List PV},Hs x b->Hs y c->Hs (x++y) (b++c):=by
 intro x;induction x with
 | nil=>intro b y c h k;cases b with
  | nil=>exact k
  | cons=>exact h.elim
 | cons a x ih=>intro b y c h k;cases b with
  | nil=>exact h.elim
  | cons v b=>exact⟨h.1,ih h.2 k⟩
def Hs.split:∀{x:List Kn} {y:List Kn} {b:List PV},Hs (x++y) b->∃b1 b2,b=b1++b2/\Hs x b1/\Hs y b2:=by
 intro x;induction x with
 | nil=>intro y b h;exact⟨[],b,rfl,trivial,h⟩
 | cons a x ih=>intro y b h;cases b with
  | nil=>exact h.elim
  | cons v b=>
   obtain⟨b1,b2,e,h1,h2⟩:=ih h.2;exact⟨v::b1,b2,by rw[e];rfl,⟨h.1,h1⟩,h2⟩
def Hs.snoc{x:List Kn}{k:Kn}{b:List PV}(h:Hs (x++[k]) b):∃c v,b=c++[v]/\Hs x c/\k.is v=true:=by
 obtain⟨b1,b2,e,h1,h2⟩:=h.split;cases b2 with
 | nil=>exact h2.elim
 | cons v b2=>cases b2 with
  | nil=>exact⟨b1,v,e,h1,h2.1⟩
  | cons=>exact h2.2.elim
def R5(x:List Kn)(vals:List PV):Prop:=∃a b,vals=a++b/\Hs x b
def A2f{α:Type}:∀(l:List α),l≠[]->∃x a,l=x++[a]:=by
 intro l h;exact⟨l.dropLast,l.getLast h,(List.dropLast_concat_getLast h).symm⟩
def A2j{x:List Kn}{kd:Nat}(h:(El x).sure kd=true):x≠[]:=by
 intro e;rw[e]at h;exact absurd h (by simp[El,Kn.sure,E2])
def R5.pop{x:List Kn}{k:Kn}{vals:List PV}(h:R5 (x++[k]) vals):∃c v,vals=c++[v]/\R5 x c/\k.is v=true:=by
 obtain⟨a,b,e,h⟩:=h;obtain⟨c,v,e2,h1,h2⟩:=h.snoc;exact⟨a++c,v,by rw[e,e2,Gv],⟨a,c,rfl,h1⟩,h2⟩
variable {P:C5} {bets:List Cl} {ps x:List Kn} {i:Aa} {m:MS}
def A2p{kd:Nat}(h:R5 x m.vals)(s:(El x).sure kd=true):m.top.k=kd/\R5 x.dropLast m.pop.vals:=by
 obtain⟨y,k,rfl⟩:=A2f x (A2j s);obtain⟨c,v,e,h1,h2⟩:=h.pop;have hk:El (y++[k])=k:=by simp[El]
 rw[hk]at s;refine⟨?_,?_⟩
 ·unfold MS.top;rw[e];simpa using Wq h2 s
 ·show R5 (y++[k]).dropLast m.vals.dropLast;rw[e];simpa using h1
def s9{kd:Nat}(h:R5 x m.vals)(s:Gb x kd=true):m.top.k=kd/\m.pop.top.k=kd/\m.both kd=true:=by
 unfold Gb at s;simp only[F3]at s;obtain⟨h1,h2⟩:=A2p h s.1;have h3:=(A2p (m:=m.pop) h2 s.2).1;refine⟨h1,h3,?_⟩;have e:m.at' ((m.vals.length:Nat)-2)=m.pop.top:=by
  obtain⟨y,k,hy⟩:=A2f x (A2j s.1);obtain⟨z,k2,hz⟩:=A2f x.dropLast (A2j s.2);rw[hy]at h hz;simp only[V7]at hz;rw[hz]at h;obtain⟨c,v,e,h4,_⟩:=h.pop;obtain⟨d,w,e2,_,_⟩:=h4.pop;unfold MS.at' MS.pop MS.top;rw[e,e2];rw[A1 z4ra];have:((((d++[w]++[v]).length:Nat):Int)-2).toNat=d.length:=by simp
  rw[this];simp
 unfold MS.both;rw[e,h1,h3];simp
def noT{m:MS}(hw:∀v∈m.vals,v.k=2->v.t=[])(h:m.top.k=2):m.top.t=[]:=by
 unfold MS.top at *;cases hq:m.vals with
 | nil=>rfl
 | cons a r=>
  rw[hq]at h hw;refine hw _ ?_ h;have:(a::r)≠[]:=by simp
  rw[Sf,List.getLast?_eq_some_getLast this];exact List.getLast_mem this
def Xo{a b:PV}(ha:a.t=[])(hb:b.t=[]):before a b=decide (a.n<b.n):=by
 unfold before;rw[ha,hb];have:Op.bytesLess ([]:List UInt8) []=false:=by decide
 rw[this,Bool.or_false]
def Vv{m:MS}{i:Aa}{k:Int->Int->MS->MS}(h:m.both 2=true):m.ints i k=m.two (fun a b m'=>k a.n b.n m'):=by
 unfold MS.ints;rw[h,A7 rfl]
def Aba(ps:List Kn)(m:MS):Prop:=∀(j:Nat) (k:Kn),ps[j]?=some k->k.is (m.at' (m.now.base+(j:Nat)))=true
def Apj(hx:R5 x m.vals)(hp:Aba ps m)(hw:∀v∈m.vals,v.k=2->v.t=[])(ha:i.op=1->0<=i.arg):Ap P bets (quick ps x i) m=Ap P bets i m:=by
 unfold quick;split
 ·rename_i hl;have h1:i.op=1:=by
   unfold Mi at hl;split at hl
   ·assumption
   ·cases hl
  have hk:Mi ps i=(ps[i.arg.toNat]?).getD E2:=by unfold Mi;rw[A7 h1]
  rw[hk]at hl ⊢;cases hq:ps[i.arg.toNat]? with
  | none=>rw[hq]at hl;cases hl
  | some k=>
   rw[hq]at hl;have h2:=hp _ _ hq;have h3:k.whole=true:=hl;unfold Kn.is at h2;rw[A7 h3]at h2;have e:=A8u h2;have:((i.arg.toNat:Nat):Int)=i.arg:=by have:=ha h1;omega
   rw[this]at e;obtain⟨op,arg,ln,v⟩:=i;dsimp only at h1 e ⊢;subst h1;show m.push k.like=m.push (m.at' (m.now.base+arg));rw[e]
 ·dsimp only;by_cases b2:Gb x 2=true
  ·obtain⟨k1,k2,k3⟩:=s9 hx b2;have n3:Gb x 3=false:=by
    cases hb:Gb x 3 with
    | false=>rfl
    | true=>have:=(s9 hx hb).1;omega
   have m3:m.both 3=false:=by unfold MS.both;rw[k1];rfl
   have t1:=noT hw k1;have t2:=noT (m:=m.pop) (fun v hv=>hw v (Q3 _ hv)) k2;rw[b2,A7 rfl,n3];obtain⟨op,arg,ln,v⟩:=i;dsimp only;rw[show(if op=12/\false=true then 14 else op)=op from A1 z4ra];unfold Ik;by_cases o12:op=12
   ·subst o12;show MS.two m (fun a b m'=>m'.push (ofInt (wr (a.n+b.n))))=(if m.both 3 then MS.join ⟨12,arg,ln,v⟩ m else MS.ints ⟨12,arg,ln,v⟩ m (fun a b m'=>m'.push (ofInt (wr (a+b)))));rw[m3,A1 z4ra,Vv k3]
   by_cases o15:op=15
   ·subst o15;show MS.two m (fun a b m'=>m'.push (ofInt (wr (a.n-b.n))))=MS.ints ⟨15,arg,ln,v⟩ m (fun a b m'=>m'.push (ofInt (wr (a-b))));rw[Vv k3]
   by_cases o17:op=17
   ·subst o17;show MS.two m (fun a b m'=>m'.push (ofInt (wr (a.n*b.n))))=MS.ints ⟨17,arg,ln,v⟩ m (fun a b m'=>m'.push (ofInt (wr (a*b))));rw[Vv k3]
   by_cases o19:op=19
   ·subst o19;show MS.two m (fun a b m'=>if b.n=0 then m'.fail 6 ⟨20,arg,ln,v⟩ else m'.push (ofInt (wr (a.n.tdiv b.n))))=MS.ints ⟨19,arg,ln,v⟩ m (fun a b m'=>if b=0 then m'.fail 6 ⟨19,arg,ln,v⟩ else m'.push (ofInt (wr (a.tdiv b))));rw[Vv k3];rfl
   by_cases o21:op=21
   ·subst o21;show MS.two m (fun a b m'=>if b.n=0 then m'.fail 6 ⟨22,arg,ln,v⟩ else m'.push (ofInt (a.n.tmod b.n)))=MS.ints ⟨21,arg,ln,v⟩ m (fun a b m'=>if b=0 then m'.fail 6 ⟨21,arg,ln,v⟩ else m'.push (ofInt (a.tmod b)));rw[Vv k3];rfl
   by_cases o28:op=28
   ·subst o28;show MS.two m (fun a b m'=>m'.push (ofBool (decide (b.n<a.n))))=(if m.both 2||m.both 3 then MS.two m (fun a b m'=>m'.push (ofBool (before b a))) else _);rw[k3,X5,A7 rfl];unfold MS.two;dsimp only;rw[Xo t1 t2]
   by_cases o29:op=29
   ·subst o29;show MS.two m (fun a b m'=>m'.push (ofBool (decide (a.n<b.n))))=(if m.both 2||m.both 3 then MS.two m (fun a b m'=>m'.push (ofBool (before a b))) else _);rw[k3,X5,A7 rfl];unfold MS.two;dsimp only;rw[Xo t2 t1]
   by_cases o30:op=30
   ·subst o30;show MS.two m (fun a b m'=>m'.push (ofBool (decide (b.n<=a.n))))=(if m.both 2||m.both 3 then MS.two m (fun a b m'=>m'.push (ofBool (!before a b))) else _);rw[k3,X5,A7 rfl];unfold MS.two;dsimp only;rw[Xo t2 t1,←decide_not];congr 3;exact propext ⟨fun h=>by omega,fun h=>by omega⟩
   by_cases o31:op=31
   ·subst o31;show MS.two m (fun a b m'=>m'.push (ofBool (decide (a.n<=b.n))))=(if m.both 2||m.both 3 then MS.two m (fun a b m'=>m'.push (ofBool (!before b a))) else _);rw[k3,X5,A7 rfl];unfold MS.two;dsimp only;rw[Xo t1 t2,←decide_not];congr 3;exact propext ⟨fun h=>by omega,fun h=>by omega⟩
   by_cases o23:op=23
   ·subst o23;cases hs:(El x).sure 2 with
    | false=>rfl
    | true=>
     show m.pop.push (ofInt (wr (-m.top.n)))=(if m.top.k=2 then m.pop.push (ofInt (wr (-m.top.n))) else _);rw[A7 k1]
   ·rw[A1 (show ¬(op=23/\(El x).sure 2=true) from fun q=>o23 q.1),A1 o12,A1 o15,A1 o17,A1 o19,A1 o21,A1 o28,A1 o29,A1 o30,A1 o31]
  ·rw[A1 b2];obtain⟨op,arg,ln,v⟩:=i;dsimp only;by_cases o12:op=12/\Gb x 3=true
   ·rw[A7 o12];obtain⟨rfl,b3⟩:=o12;obtain⟨_,_,k3⟩:=s9 hx b3;rw[A1 z4ra];show m.join _=(if m.both 3 then m.join _ else _);rw[k3,A7 rfl];rfl
   ·rw[A1 o12];by_cases o23:op=23/\(El x).sure 2=true
    ·rw[A7 o23];obtain⟨rfl,s⟩:=o23;show m.pop.push (ofInt (wr (-m.top.n)))=(if m.top.k=2 then m.pop.push (ofInt (wr (-m.top.n))) else _);rw[A7 (A2p hx s).1]
    ·rw[A1 o23]
end
section
open Go.Deep (BT)
variable {P:C5} {bets bets':List Cl} {i:Aa} {m:MS}
def MS.sw(c:List Fr)(st:List Aa)(L:List En)(m:MS):MS:={ m with calls:=c,now:=⟨st,m.now.pc,m.now.base⟩,lots:=L }
variable {c:List Fr} {st:List Aa} {L:List En}
def Je{p:Prop}[Decidable p]{a b:MS}:(if p then a else b).sw c st L=if p then a.sw c st L else b.sw c st L:=by split <;> rfl
def Uq{p:Prop}[Decidable p]{a b a' b':MS}(h1:a.sw c st L=a')(h2:b.sw c st L=b'):(if p then a else b).sw c st L=if p then a' else b':=by rw[Je,h1,h2]
def Tb{k k':PV->PV->MS->MS}(h:∀a b m',(k' a b m').sw c st L=k a b (m'.sw c st L)):(m.two k').sw c st L=(m.sw c st L).two k:=h _ _ _
def Wr{k k':Int->Int->MS->MS}(h:∀a b m',(k' a b m').sw c st L=k a b (m'.sw c st L)):(m.ints i k').sw c st L=(m.sw c st L).ints i k:=by
 unfold MS.ints;rw[Je,Tb (k:=fun a b m'=>k a.n b.n m') (fun a b m'=>h _ _ _)];rfl
def A9m{n:Int}{k k':MS->MS}(h:∀m',(k' m').sw c st L=k (m'.sw c st L)):(m.room n i k').sw c st L=(m.sw c st L).room n i k:=by
 unfold MS.room;rw[Je,h];rfl
def A9l{a b:PV}{k k':MS->MS}(h:∀m',(k' m').sw c st L=k (m'.sw c st L)):(m.place a b i k').sw c st L=(m.sw c st L).place a b i k:=by
 unfold MS.place;rw[show sizeOf' (m.sw c st L) a=sizeOf' m a from rfl];cases sizeOf' m a with
 | none=>rfl
 | some n=>dsimp only;rw[Je,Je,h];rfl
def Auk{k k':MS->MS}(h:∀m',(k' m').sw c st L=k (m'.sw c st L)):(m.Jd i k').sw c st L=(m.sw c st L).Jd i k:=by
 unfold MS.Jd;rw[Je,h];rfl
def A9k:(m.join i).sw c st L=(m.sw c st L).join i:=by
 unfold MS.join;exact Tb (fun a b m'=>by rw[Je];rfl)
def A7f(h:i.op≠42/\i.op≠43/\i.op≠44):(Ap P bets i m).sw c st L=Ap P bets' i (m.sw c st L):=by
 unfold Ap;generalize i.op=o at *;split
 case _=>rfl
 case _=>rfl
 case _=>rfl
 case _=>rfl
 case _=>rfl
 case _=>rfl
 case _=>rfl
 case _=>exact Uq (Auk (k:=fun m'=>if m.top.k=1 then m' else m'.fail 5 i) (fun m'=>Uq rfl rfl)) (Uq rfl rfl)
 case _=>rw[Je,Je];rfl
 case _=>rw[Je,Je];rfl
 case _=>rw[Je,Je];rfl
 case _=>rw[Je];rfl
 case _=>exact Uq A9k (Wr (fun a b m'=>rfl))
 case _=>rfl
 case _=>exact A9k
 case _=>exact Wr (fun a b m'=>rfl)
 case _=>rfl
 case _=>exact Wr (fun a b m'=>rfl)
 case _=>rfl
 case _=>exact Wr (fun a b m'=>by rw[Je];rfl)
 case _=>exact Tb (fun a b m'=>by rw[Je];rfl)
 case _=>exact Wr (fun a b m'=>by rw[Je];rfl)
 case _=>exact Tb (fun a b m'=>by rw[Je];rfl)
 case _=>rw[Je];rfl
 case _=>rfl
 case _=>rfl
 case _=>rfl
 case _=>rw[Je];rfl
 case _=>rw[Je];rfl
 case _=>rw[Je];rfl
 case _=>rw[Je];rfl
 case _=>rw[Je];rfl
 case _=>rfl
 case _=>rfl
 case _=>rfl
 case _=>rfl
 case _=>exact A9m (fun m'=>rfl)
 case _=>
  rw[show sizeOf' (m.sw c st L) (m.sw c st L).top=sizeOf' m m.top from rfl];cases sizeOf' m m.top <;> rfl
 case _=>exact Tb (fun a b m'=>Uq (A9m (fun m'=>rfl)) rfl)
 case _=>exact Tb (fun a b m'=>A9l (fun m'=>rfl))
 case _=>exact Tb (fun a b m'=>Uq (A9l (fun m'=>rfl)) rfl)
 case _=>unfold MS.Nn;rw[Je];rfl
 case _=>exact absurd rfl h.1
 case _=>exact absurd rfl h.2.1
 case _=>exact absurd rfl h.2.2
 case _=>rfl
end
section
open Go.Deep (BT)
variable {P:C5} {bets:List Cl} {ps x:List Kn} {i:Aa} {m:MS} {C:List PV} {u v:PV} {k:Kn}
def MS.wv(C:List PV)(m:MS):MS:={ m with vals:=C }
def T7(h:m.vals=C++[v]):m.pop=m.wv C/\m.top=v:=by
 unfold MS.pop MS.wv MS.top;rw[h];simp
def Wu(h:m.vals=C++[u,v])(k:PV->PV->MS->MS):m.two k=k u v (m.wv C)/\∀kd,m.both kd=(v.k==kd&&u.k==kd):=by
 have h1:m.vals=(C++[u])++[v]:=by rw[h];simp
 obtain⟨e1,e2⟩:=T7 h1;obtain⟨e3,e4⟩:=T7 (m:=m.wv (C++[u])) (C:=C) (v:=u) rfl;unfold MS.two;rw[e1,e2,e3,e4];refine⟨rfl,fun kd=>?_⟩;unfold MS.both;rw[e2];have:m.at' ((m.vals.length:Nat)-2)=u:=by
  unfold MS.at';rw[h,A1 z4ra];have:((((C++[u,v]).length:Nat):Int)-2).toNat=C.length:=by simp
  rw[this];simp
 rw[this]
def Co(m:MS)(C:List PV)(k:Kn)(m1:MS):Prop:=m1.code≠0\/(m1.now=m.now/\m1.calls=m.calls/\∃w,m1.vals=C++[w]/\k.is w=true)
def Co.push{w:PV}{m1:MS}(hn:m1.now=m.now)(hc:m1.calls=m.calls)(hv:m1.vals=C)(hk:k.is w=true):Co m C k (m1.push w):=.inr ⟨hn,hc,w,by show m1.vals++[w]=_;rw[hv],hk⟩
def Co.fail{c:Nat}{m1:MS}(hc:c≠0):Co m C k (m1.fail c i):=.inl hc
def Co.ite{p:Prop}[Decidable p]{a b:MS}(h1:p->Co m C k a)(h2:¬p->Co m C k b):Co m C k (if p then a else b):=by
 split
 ·exact h1 ‹_›
 ·exact h2 ‹_›
def Co.ints{f:Int->Int->MS->MS}(h:m.vals=C++[u,v])(hf:v.k=2->u.k=2->Co m C k (f u.n v.n (m.wv C))):Co m C k (m.ints i f):=by
 unfold MS.ints;refine Co.ite (fun q=>?_) (fun _=>Co.fail z4ma);rw[(Wu h _).1];rw[(Wu h (fun _ _ m=>m)).2]at q;simp only[F3,Fh]at q;exact hf q.1 q.2
def Qk{a:Nat}{w:PV}(h:w.k=a):(Dh a).is w=true:=by simp[Kn.is,Dh,h]
def Rh(w:PV):E2.is w=true:=by simp[Kn.is,E2]
def isV(w:PV):(Lf w).is w=true:=by simp[Kn.is,Lf,PV.same]
def z3ia {P:Prop} (h:P:=by
  rename_i hh;simp only[Gz]at hh;rcases hh with hh|hh
  ·have:=Wq h2 hh;omega
  ·have:=Wq h1 hh;omega):P:=h
def z33a {P:Prop} (h:P:=by
  cases hg;exact Co.ints h (fun _ _=>Co.ite (fun _=>Co.fail z4ma) (fun _=>Co.push rfl rfl rfl (int _)))):P:=h
def z1ha {P:Prop} (h:P:=by
  cases hg;refine Co.ite (fun _=>?_) (fun _=>Co.fail z4ma);rw[two];exact Co.push rfl rfl rfl (boo _)):P:=h
def Ak2(h:m.vals=C++[u,v]){k1 k2:Kn}{y:List Kn}(hx:x=y++[k1,k2])(h1:k1.is u=true)(h2:k2.is v=true)(ho:i.op=12\/i.op=15\/i.op=17\/i.op=19\/i.op=21\/i.op=25\/i.op=26\/i.op=28\/i.op=29\/i.op=30\/i.op=31\/i.op=38\/i.op=39)(hg:Hu ps x i=some k):Co m C k (Ap P bets i m):=by
 have ht:El x=k2:=by rw[hx];simp[El]
 have hs:M8 x=k1:=by
  rw[hx,show y++[k1,k2]=(y++[k1])++[k2] by simp];unfold M8;rw[V7];simp
 have two:∀f,m.two f=f u v (m.wv C):=fun f=>(Wu h f).1;have both:=(Wu h (fun _ _ m=>m)).2;obtain⟨op,arg,ln,w⟩:=i;dsimp only at ho;have int:∀n:Int,(Dh 2).is (ofInt n)=true:=fun n=>Qk rfl;have boo:∀b:Bool,(Dh 1).is (ofBool b)=true:=fun b=>Qk rfl;rcases ho with rfl|rfl|rfl|rfl|rfl|rfl|rfl|rfl|rfl|rfl|rfl|rfl|rfl
 ·have hk:k=Ny x:=(Dl hg).symm;subst hk;show Co m C (Ny x) (if m.both 3 then m.join _ else m.ints _ _);unfold Ny;rw[ht,hs];refine Co.ite (fun q=>?_) (fun q=>?_)
  ·rw[both]at q;simp only[F3,Fh]at q;unfold MS.join;rw[two];refine Co.ite (fun _=>Co.fail z4ma) (fun _=>Co.push rfl rfl rfl ?_);split
   ·exact z3ia
   ·split
    ·exact Qk rfl
    ·exact Rh _
  ·refine Co.ints h (fun q1 q2=>Co.push rfl rfl rfl ?_);split
   ·exact int _
   ·split
    ·exact z3ia
    ·exact Rh _
 ·cases hg;exact Co.ints h (fun _ _=>Co.push rfl rfl rfl (int _))
 ·cases hg;exact Co.ints h (fun _ _=>Co.push rfl rfl rfl (int _))
 ·exact z33a
 ·exact z33a
 ·cases hg;show Co m C _ (m.two _);rw[two];exact Co.push rfl rfl rfl (boo _)
 ·cases hg;show Co m C _ (m.two _);rw[two];exact Co.push rfl rfl rfl (boo _)
 ·exact z1ha
 ·exact z1ha
 ·exact z1ha
 ·exact z1ha
 ·have hk:k=El x:=(Dl hg).symm;rw[hk,ht];show Co m C _ (m.two _);rw[two];refine Co.ite (fun _=>?_) (fun _=>Co.fail z4ma);unfold MS.room;exact Co.ite (fun _=>Co.fail z4ma) (fun _=>Co.push rfl rfl rfl h2)
 ·have hk:k=E2:=(Dl hg).symm;rw[hk];show Co m C _ (m.two _);rw[two];unfold MS.place;split
  ·exact Co.fail z4ma
  ·exact Co.ite (fun _=>Co.fail z4ma) (fun _=>Co.ite (fun _=>Co.fail z4ma) (fun _=>Co.push rfl rfl rfl (Rh _)))
def z38a {P:Prop} (h:P:=by
  cases hg;refine Co.ite (fun q=>?_) (fun _=>Co.fail z4ma);rw[e1];exact Co.push rfl rfl rfl (Qk rfl)):P:=h
def Ak1(h:m.vals=C++[v])(ho:i.op=11\/i.op=23\/i.op=27\/i.op=37)(hg:Hu ps x i=some k):Co m C k (Ap P bets i m):=by
 obtain⟨e1,e2⟩:=T7 h;obtain⟨op,arg,ln,w⟩:=i;dsimp only at ho;rcases ho with rfl|rfl|rfl|rfl
 ·cases hg;exact Co.ite (fun q=>.inr ⟨rfl,rfl,v,h,Qk (by rw[←e2];exact q)⟩) (fun _=>Co.fail z4ma)
 ·exact z38a
 ·exact z38a
 ·cases hg;show Co m C _ (match sizeOf' m m.top with|some n=>m.pop.push (ofInt (n:Nat))|none=>m.pop.fail 5 _);split
  ·rw[e1];exact Co.push rfl rfl rfl (Qk rfl)
  ·exact Co.fail z4ma
end
section
open Go.Deep (BT)
variable {P:C5} {bets:List Cl} {ps:List Kn} {us:List (List Kn)} {n pc:Nat} {steps:List Aa} {base:Int} {i:Aa} {m:MS} {A:List PV}
structure FC (P : C5) (ps : List Kn) (us : List (List Kn)) (n : Nat) (steps : List Aa) : Prop where
 ab:Nq P ps us n steps
 st:∀(p:Nat) (i:Aa),steps[p]?=some i->i.op=3->∀k,ps[i.arg.toNat]?=some k->k=E2
def KA(ps:List Kn)(S:List PV):Prop:=∀(j:Nat) (k:Kn),ps[j]?=some k->∃v,S[j]?=some v/\k.is v=true
def FV(ps:List Kn)(us:List (List Kn))(n pc:Nat)(base:Int)(vals A:List PV):Prop:=base=(A.length:Nat)/\∃S B x,vals=A++S++B/\S.length=n/\us[pc]?=some x/\Hs x B/\KA ps S
def fol{t:Nat}{y z:List Kn}(ht:Dv P i=(t:Nat))(hz:z.length=t):follow P ps (y++z) i=y++(Hu ps (y++z) i).toList:=by
 rw[Ss _ _ t ht,A1 z4qa];have:(y++z).length-t=y.length:=by simp;omega
 rw[this];simp
def Hs.cut{x:List Kn}{B:List PV}(h:Hs x B)(t:Nat)(ht:t<=x.length):∃y z B1 B2,x=y++z/\z.length=t/\B=B1++B2/\Hs y B1/\Hs z B2:=by
 have e:x=x.take (x.length-t)++x.drop (x.length-t):=(A35 _ _).symm;rw[e]at h;obtain⟨b1,b2,e2,h1,h2⟩:=h.split;exact⟨_,_,b1,b2,e,by rw[Qs];omega,e2,h1,h2⟩
def Hs.one{z:List Kn}{B:List PV}(h:Hs z B)(hz:z.length=1):∃k v,z=[k]/\B=[v]/\k.is v=true:=by
 obtain⟨k,rfl⟩:=Aay.1 hz;cases B with
 | nil=>exact h.elim
 | cons v B=>cases B with
  | nil=>exact⟨k,v,rfl,rfl,h.1⟩
  | cons=>exact h.2.elim
def Hs.two{z:List Kn}{B:List PV}(h:Hs z B)(hz:z.length=2):∃k1 k2 u v,z=[k1,k2]/\B=[u,v]/\k1.is u=true/\k2.is v=true:=by
 match z,hz with
 | [k1,k2],_=>
  cases B with
  | nil=>exact h.elim
  | cons u B=>cases B with
   | nil=>exact h.2.elim
   | cons v B=>cases B with
    | nil=>exact⟨k1,k2,u,v,rfl,rfl,h.1,h.2.1⟩
    | cons=>exact h.2.2.elim
def G5(ps:List Kn)(us:List (List Kn))(n:Nat)(base:Int)(A:List PV)(m m1:MS):Prop:=m1.code≠0\/(m1.calls=m.calls/\m1.now.steps=m.now.steps/\m1.now.base=base/\FV ps us n m1.now.pc base m1.vals A)
def Co.stp{C:List PV}{k:Kn}{m1:MS}{y:List Kn}{S B1:List PV}(h:Co m C k m1)(hb:base=(A.length:Nat))(hn:m.now.base=base)(hC:C=A++S++B1)(hS:S.length=n)(hu:us[m.now.pc]?=some (y++[k]))(hy:Hs y B1)(hk:KA ps S):G5 ps us n base A m m1:=by
 rcases h with h|⟨h1,h2,w,h3,h4⟩
 ·exact .inl h
 ·refine .inr ⟨h2,by rw[h1],by rw[h1];exact hn,hb,S,B1++[w],y++[k],?_,hS,by rw[h1];exact hu,hy.app ⟨h4,trivial⟩,hk⟩;rw[h3,hC,Gv]
def KA.set{S:List PV}{a:Nat}{v:PV}(h:KA ps S)(ha:a<S.length)(hk:∀k,ps[a]?=some k->k=E2):KA ps (S.set a v):=by
 intro j k hj;obtain⟨w,h1,h2⟩:=h j k hj;by_cases e:j=a
 ·subst e;exact⟨v,by rw[Zk ha],by rw[hk k hj];exact Rh _⟩
 ·exact⟨w,by rw[List.getElem?_set_ne (fun q=>e q.symm)];exact h1,h2⟩
def G5.ite{p:Prop}[Decidable p]{a b:MS}(h1:p->G5 ps us n base A m a)(h2:¬p->G5 ps us n base A m b):G5 ps us n base A m (if p then a else b):=by
 split
 ·exact h1 ‹_›
 ·exact h2 ‹_›
def A4j{S B:List PV}{a:Int}(h:m.vals=A++S++B)(h0:0<=a)(h1:a<(S.length:Nat)):m.at' ((A.length:Nat)+a)=(S[a.toNat]?).getD Bb:=by
 unfold MS.at';rw[Ai,h];have:(((A.length:Nat):Int)+a).toNat=A.length+a.toNat:=by omega
 rw[this,Gv,Th z4ma];rw[show A.length+a.toNat-A.length=a.toNat by omega,Ou z4ma]
def Aug(hF:FC P ps us n steps)(hp:steps[pc]?=some i)(hV:FV ps us n pc base m.vals A)(hm:m.now=⟨steps,pc+1,base⟩)(hl:P0 i.op=true)(h41:i.op<=41):G5 ps us n base A m (Ap P bets i m):=by
 obtain⟨hb,S,B,x,hv,hS,hx,hB,hK⟩:=hV;obtain⟨x',hx',hfo,hT0,hT1⟩:=hF.ab.sq pc i hp;rw[hx]at hx';cases hx';have hJ:=hF.ab.jm pc i hp;have hsl:=hF.ab.sl pc i hp;have hst:=hF.st pc i hp;have hnb:m.now.base=base:=by rw[hm]
 have hpc:m.now.pc=pc+1:=by rw[hm]
 have hns:m.now.steps=steps:=by rw[hm]
 have giv:∀{C:List PV} {k:Kn} {m1:MS} {y:List Kn} {B1:List PV},Co m C k m1->C=A++S++B1->follow P ps x i=y++[k]->Hs y B1->G5 ps us n base A m m1:=fun h1 h2 h3 h4=>h1.stp hb hnb h2 hS (by rw[hpc,hfo,h3]) h4 hK;have drp:∀{m1:MS} {y:List Kn} {S' B1:List PV},m1.calls=m.calls->m1.now=m.now->m1.vals=A++S'++B1->S'.length=n->KA ps S'->follow P ps x i=y->Hs y B1->G5 ps us n base A m m1:=fun h1 h2 h3 h4 h5 h6 h7=>.inr ⟨h1,by rw[h2],by rw[h2];exact hnb,hb,_,_,_,h3,h4,by rw[h2,hpc,hfo,h6],h7,h5⟩;obtain⟨op,arg,ln,w⟩:=i;dsimp only at *;have cut:∀t:Nat,Dv P ⟨op,arg,ln,w⟩=(t:Nat)->∃y z B1 B2,x=y++z/\z.length=t/\m.vals=A++S++B1++B2/\Hs y B1/\Hs z B2/\follow P ps x ⟨op,arg,ln,w⟩=y++(Hu ps x ⟨op,arg,ln,w⟩).toList:=fun t ht=>by
  obtain⟨y,z,B1,B2,e1,e2,e3,e4,e5⟩:=hB.cut t (by rw[ht]at hT1;omega);exact⟨y,z,B1,B2,e1,e2,by rw[hv,e3,←Gv],e4,e5,by rw[e1];exact fol ht e2⟩
 by_cases o0:op=0\/op=1\/op=2
 ·have ht:Dv P ⟨op,arg,ln,w⟩=(0:Nat):=by rcases o0 with rfl|rfl|rfl <;> rfl
  have hf:=fol (ps:=ps) (y:=x) (z:=[]) ht rfl;rw[Lx]at hf;rcases o0 with rfl|rfl|rfl
  ·exact giv (C:=m.vals) (k:=Lf w) (Co.push rfl rfl rfl (isV w)) hv hf hB
  ·obtain⟨s0,s1⟩:=hsl (.inl rfl);refine giv (C:=m.vals) (k:=(ps[arg.toNat]?).getD E2) (Co.push rfl rfl rfl ?_) hv hf hB;rw[hnb,hb,A4j hv s0 (by rw[hS];exact s1)];cases hq:ps[arg.toNat]? with
   | none=>exact Rh _
   | some k=>
    obtain⟨v,k1,k2⟩:=hK _ _ hq;rw[k1];exact k2
  ·exact giv (C:=m.vals) (k:=E2) (Co.push rfl rfl rfl (Rh _)) hv hf hB
 by_cases o1:op=11\/op=23\/op=27\/op=37
 ·have ht:Dv P ⟨op,arg,ln,w⟩=(1:Nat):=by rcases o1 with rfl|rfl|rfl|rfl <;> rfl
  obtain⟨k,hg⟩:∃k,Hu ps x ⟨op,arg,ln,w⟩=some k:=by rcases o1 with rfl|rfl|rfl|rfl <;> exact⟨_,rfl⟩
  obtain⟨y,z,B1,B2,e1,e2,e3,e4,e5,e6⟩:=cut 1 ht;obtain⟨k1,v,rfl,rfl,_⟩:=e5.one e2;rw[hg]at e6;exact giv (Ak1 (bets:=bets) (P:=P) e3 o1 hg) rfl e6 e4
 by_cases o2:op=12\/op=15\/op=17\/op=19\/op=21\/op=25\/op=26\/op=28\/op=29\/op=30\/op=31\/op=38\/op=39
 ·have ht:Dv P ⟨op,arg,ln,w⟩=(2:Nat):=by rcases o2 with rfl|rfl|rfl|rfl|rfl|rfl|rfl|rfl|rfl|rfl|rfl|rfl|rfl <;> rfl
  obtain⟨k,hg⟩:∃k,Hu ps x ⟨op,arg,ln,w⟩=some k:=by rcases o2 with rfl|rfl|rfl|rfl|rfl|rfl|rfl|rfl|rfl|rfl|rfl|rfl|rfl <;> exact⟨_,rfl⟩
  obtain⟨y,z,B1,B2,e1,e2,e3,e4,e5,e6⟩:=cut 2 ht;obtain⟨k1,k2,u,v,rfl,rfl,h1,h2⟩:=e5.two e2;rw[hg]at e6;exact giv (Ak2 (bets:=bets) (P:=P) e3 e1 h1 h2 o2 hg) rfl e6 e4
 by_cases o3:op=3\/op=4\/op=5\/op=41
 ·have ht:Dv P ⟨op,arg,ln,w⟩=(1:Nat):=by rcases o3 with rfl|rfl|rfl|rfl <;> rfl
  have hg:Hu ps x ⟨op,arg,ln,w⟩=none:=by rcases o3 with rfl|rfl|rfl|rfl <;> rfl
  obtain⟨y,z,B1,B2,e1,e2,e3,e4,e5,e6⟩:=cut 1 ht;obtain⟨k1,v,rfl,rfl,_⟩:=e5.one e2;obtain⟨p1,p2⟩:=T7 e3;rw[hg,Option.toList,Lx]at e6;rcases o3 with rfl|rfl|rfl|rfl
  ·obtain⟨s0,s1⟩:=hsl (.inr rfl);dsimp only at s0 s1;show G5 ps us n base A m (m.pop.put (m.now.base+arg) m.top);rw[p1,p2,hnb];refine drp (S':=S.set arg.toNat v) rfl rfl ?_ (by rw[Lc];exact hS) (hK.set z4ma (hst rfl)) e6 e4;show(if base+arg<0 then A++S++B1 else(A++S++B1).set (base+arg).toNat v)=_;rw[Ai,hb];have:(((A.length:Nat):Int)+arg).toNat=A.length+arg.toNat:=by omega
   rw[this,Gv,List.set_append,Ai,show A.length+arg.toNat-A.length=arg.toNat by omega,List.set_append,Mn,Gv]
  ·show G5 ps us n base A m { m.pop with gl:=m.gl.set arg.toNat m.top };rw[p1];exact drp rfl rfl rfl hS hK e6 e4
  ·show G5 ps us n base A m m.pop;rw[p1];exact drp rfl rfl rfl hS hK e6 e4
  ·show G5 ps us n base A m (m.Nn _);unfold MS.Nn;refine G5.ite (fun _=>.inl (by show(10:Nat)≠0;omega)) (fun _=>?_);rw[p1];exact drp rfl rfl rfl hS hK e6 e4
 by_cases o40:op=40
 ·subst o40;obtain⟨y,z,B1,B2,e1,e2,e3,e4,e5,e6⟩:=cut 3 rfl;have hl3:=e5.len;match B2,hl3 with
  | [a,b,c],_=>
   have e7:m.vals=A++S++B1++[a,b]++[c]:=by rw[e3];simp
   obtain⟨p1,p2⟩:=T7 e7;show G5 ps us n base A m (m.pop.two _);rw[p1,(Wu (m:=m.wv (A++S++B1++[a,b])) (C:=A++S++B1) (u:=a) (v:=b) rfl _).1];refine G5.ite (fun _=>?_) (fun _=>.inl (by show(5:Nat)≠0;omega));unfold MS.place;split
   ·exact .inl (by show(5:Nat)≠0;omega)
   ·refine G5.ite (fun _=>.inl (by show(5:Nat)≠0;omega)) (fun _=>G5.ite (fun _=>.inl (by show(7:Nat)≠0;omega)) (fun _=>?_));exact drp rfl rfl rfl hS hK (e6.trans (Lx _)) e4
  | [],q=>rw[e2]at q;cases q
  | [_],q=>rw[e2]at q;cases q
  | [_,_],q=>rw[e2]at q;cases q
  | _::_::_::_::_,q=>rw[e2]at q;simp at q
 by_cases o36:op=36
 ·subst o36;have ha:(0:Int)<=arg:=hT0;obtain⟨y,z,B1,B2,e1,e2,e3,e4,e5,e6⟩:=cut arg.toNat (by show arg=_;omega);have Gx:=e5.len;show G5 ps us n base A m (m.room arg _ _);unfold MS.room;refine G5.ite (fun _=>.inl (by show(10:Nat)≠0;omega)) (fun _=>?_);refine giv (C:=A++S++B1) (k:=Dh 4) (.inr ⟨rfl,rfl,Pp m.arr.length,?_,Qk rfl⟩) rfl e6 e4;show(if((m.vals.length:Nat):Int)-arg<0 then m.vals else m.vals.take (((m.vals.length:Nat):Int)-arg).toNat)++[Pp m.arr.length]=_;have hl:m.vals.length=(A++S++B1).length+arg.toNat:=by rw[e3,Ds,←Gx,e2]
  rw[Ai,show(((m.vals.length:Nat):Int)-arg).toNat=(A++S++B1).length by omega,e3,Tj]
 have oj:6<=op/\op<=10:=by
  unfold P0 at hl;simp only[F3,P8]at hl;omega
 obtain⟨xx,yy,j1,j2,j3,j4,j5⟩:=hJ z51a;rw[hx]at j1;cases j1;have jmp:∀{m1:MS} {B1:List PV},m1.calls=m.calls->m1.now=⟨m.now.steps,arg.toNat,m.now.base⟩->m1.vals=A++S++B1->Hs yy B1->G5 ps us n base A m m1:=fun h1 h2 h3 h4=>.inr ⟨h1,by rw[h2],by rw[h2];exact hnb,hb,S,_,yy,h3,hS,by rw[h2];exact j2,h4,hK⟩;by_cases o6:op=6
 ·subst o6;obtain⟨rfl,rfl⟩:=j3 rfl;exact jmp rfl rfl hv hB
 have ht:Dv P ⟨op,arg,ln,w⟩=(1:Nat):=A9p z4ma arg ln w;have hg:Hu ps x ⟨op,arg,ln,w⟩=none:=A1b z51a arg ln w x;obtain⟨y,z,B1,B2,e1,e2,e3,e4,e5,e6⟩:=cut 1 ht;obtain⟨k1,v,rfl,rfl,_⟩:=e5.one e2;obtain⟨p1,p2⟩:=T7 e3;rw[hg,Option.toList,Lx]at e6;have fl:∀{c:Nat} {j:Aa} {m1:MS},c≠0->G5 ps us n base A m (m1.fail c j):=fun h=>.inl h;by_cases o78:op=7\/op=8
 ·obtain⟨q1,rfl⟩:=j4 o78;have hy0:y=[]:=by
   rw[e1]at q1;simp at q1;exact q1
  subst hy0;rcases o78 with rfl|rfl
  ·show G5 ps us n base A m (if m.top.y then m.pop.Jd _ (fun m'=>if m.top.k=1 then m' else m'.fail 5 _) else if m.top.k=1 then m.pop.jump arg else m.pop.fail 5 _);rw[p1,p2];refine G5.ite (fun _=>?_) (fun _=>G5.ite (fun _=>jmp rfl rfl rfl e4) (fun _=>fl z4ma));unfold MS.Jd;exact G5.ite (fun _=>fl z4ma) (fun _=>G5.ite (fun _=>drp rfl rfl rfl hS hK e6 e4) (fun _=>fl z4ma))
  ·show G5 ps us n base A m (if m.top.k=1 then(if m.top.y then m.pop else m.pop.jump arg) else m.pop.fail 5 _);rw[p1,p2];exact G5.ite (fun _=>G5.ite (fun _=>drp rfl rfl rfl hS hK e6 e4) (fun _=>jmp rfl rfl rfl e4)) (fun _=>fl z4ma)
 have o910:op=9\/op=10:=by omega
 obtain⟨_,q2⟩:=j5 o910;have hyy:v.k=1->Hs yy (B1++[v]):=fun q=>by
  rw[q2,e1,V7];exact e4.app ⟨Qk q,trivial⟩
 have e3':m.vals=A++S++(B1++[v]):=by rw[e3,←Gv]
 rcases o910 with rfl|rfl
 ·show G5 ps us n base A m (if m.top.k=1 then(if m.top.y then m.pop else m.jump arg) else m.fail 5 _);rw[p1,p2];exact G5.ite (fun q=>G5.ite (fun _=>drp rfl rfl rfl hS hK e6 e4) (fun _=>jmp rfl rfl e3' (hyy q))) (fun _=>fl z4ma)
 ·show G5 ps us n base A m (if m.top.k=1 then(if m.top.y then m.jump arg else m.pop) else m.fail 5 _);rw[p1,p2];exact G5.ite (fun q=>G5.ite (fun _=>jmp rfl rfl e3' (hyy q)) (fun _=>drp rfl rfl rfl hS hK e6 e4)) (fun _=>fl z4ma)
end
section
open Go.Deep (BT)
variable {P:C5} {bets:List Cl} {ps:List Kn} {us:List (List Kn)} {n:Nat} {steps:List Aa} {m:MS}
def A73:∀(st:List Aa) (ks:List Kn),(Km st ks).length=ks.length:=by
 intro st;induction st with
 | nil=>intro ks;rfl
 | cons i r ih=>
  intro ks;rw[Km,ih];split
  ·rw[Lc]
  ·rfl
def A72:∀(st:List Aa) (ks:List Kn) (j:Nat) (k:Kn),(Km st ks)[j]?=some k->k=E2\/ks[j]?=some k:=by
 intro st;induction st with
 | nil=>intro ks j k h;exact .inr h
 | cons i r ih=>
  intro ks j k h;rw[Km]at h;rcases ih _ _ _ h with q|q
  ·exact .inl q
  ·split at q
   ·rw[A3n]at q;split at q
    ·split at q
     ·cases q;exact .inl rfl
     ·cases q
    ·exact .inr q
   ·exact .inr q
def Alv:∀(st:List Aa) (ks:List Kn) (p:Nat) (i:Aa),st[p]?=some i->i.op=3->0<=i.arg->∀k,(Km st ks)[i.arg.toNat]?=some k->k=E2:=by
 intro st;induction st with
 | nil=>intro ks p i h;simp at h
 | cons j r ih=>
  intro ks p i hp ho ha k hk;rw[Km]at hk;cases p with
  | zero=>
   simp at hp;subst hp;have hlt:j.arg.toNat<ks.length:=by
    have:=(K4.1 hk).1;rw[A73]at this;split at this
    ·rw[Lc]at this;exact this
    ·exact this
   rw[A7 ⟨ho,by omega⟩]at hk;rcases A72 _ _ _ _ hk with q|q
   ·exact q
   ·rw[Zk hlt]at q;cases q;rfl
  | succ p=>exact ih _ p i (by simpa using hp) ho ha k hk
def Apn(h:Nq P ps us n steps):∀(st:List Aa) (o p:Nat) (x:List Kn),steps.drop o=st->us[o]?=some x->(Ix P ps x st)[p]?=(st[p]?).bind (fun i=>(us[o+p]?).map (fun y=>quick ps y i)):=by
 intro st;induction st with
 | nil=>intro o p x _ _;simp[Ix]
 | cons i r ih=>
  intro o p x hd hx;have hi:steps[o]?=some i:=by
   have:=N3 (fun l=>l[0]?) hd;simpa using this
  have hr:steps.drop (o+1)=r:=by
   have:=N3 List.tail hd;simpa using this
  obtain⟨x',h1,h2,_⟩:=h.sq o i hi;rw[hx]at h1;cases h1;rw[Ix];cases p with
  | zero=>simp[hx]
  | succ p=>
   have:=ih (o+1) p _ hr h2;rw[Ti,Ti,this,show o+1+p=o+(p+1) by omega]
def Aja:∀(ks:List Kn) (i:Int),Ju m i ks=true->∀(j:Nat) (k:Kn),ks[j]?=some k->k.is (m.at' (i+(j:Nat)))=true:=by
 intro ks;induction ks with
 | nil=>intro i _ j k h;simp at h
 | cons a r ih=>
  intro i h j k hk;rw[Ju]at h;simp only[F3]at h;cases j with
  | zero=>simp at hk;subst hk;simpa using h.1
  | succ j=>
   have:=ih (i+1) h.2 j k (by simpa using hk);rw[show i+((j+1:Nat):Int)=i+1+((j:Nat):Int) by omega];exact this
def A6g{A T:List PV}{f:Fn}(h0:us[0]?=some [])(hT:T.length=f.params)(hps:f.params<=f.slots)(hv:m.vals=A++T)(hk:∀(j:Nat) (k:Kn),ps[j]?=some k->∃v,T[j]?=some v/\k.is v=true):FV ps us f.slots 0 ((m.vals.length:Nat)-(f.params:Nat)) (m.vals++Jc (f.slots-f.params)) A:=by
 refine⟨by rw[hv,Ds];omega,T++Jc (f.slots-f.params),[],[],by rw[hv];simp,by rw[Ds,Jc,Tl];omega,h0,trivial,fun j k hj=>?_⟩;obtain⟨v,h1,h2⟩:=hk j k hj;exact⟨v,by rw[Ou (K4.1 h1).1];exact h1,h2⟩
end
section
open Go.Deep (BT)
variable {P:C5} {bets:List Cl} {i:Aa} {m:MS} {c:List Fr} {st:List Aa} {Lt:List En}
def Xd(P:C5)(i:Aa):Prop:=P0 i.op=true/\i.op<=44/\(i.op=42->i.arg.toNat<P.fns.length)
structure PF (P : C5) : Prop where
 f:∀f∈P.fns,f.params<=f.slots/\(∀(p:Nat) (i:Aa),f.steps[p]?=some i->Xd P i)/\∀ps,∃us,Nq P ps us f.slots f.steps
def FR(P:C5)(F:Fr)(gs:List Aa)(vals A:List PV):Prop:=∃ps us n,FC P ps us n F.steps/\FV ps us n F.pc F.base vals A/\(gs=F.steps\/gs=Ix P ps [] F.steps)/\∀(p:Nat) (i:Aa),F.steps[p]?=some i->Xd P i
def V8(P:C5):List (Fr×List Aa)->List PV->Prop
 | [],_=>True
 | q::r,A=>∃A',(∀w,FR P q.1 q.2 (A++[w]) A')/\V8 P r A'
def U7(q:Fr×List Aa):Fr:=⟨q.2,q.1.pc,q.1.base⟩
structure Rl (P : C5) (m : MS) (c : List Fr) (st : List Aa) (Lt : List En) : Prop where
 live:m.code=0->(m.now.steps=[]/\st=[])\/∃L A,m.calls=(L.map Prod.fst).reverse/\c=(L.map U7).reverse/\FR P m.now st m.vals A/\V8 P L A
 l1:m.lots.length=P.fns.length/\∀l∈m.lots,l.form=none/\l.fast=0/\l.drops=0
 l2:Lt.length=P.fns.length/\∀(n:Nat) (l:En) (fo:Form),Lt[n]?=some l->l.form=some fo->∃f b,P.fns[n]?=some f/\fo=G8 P b f
def MS.nx(m:MS):MS:={ m with now:=⟨m.now.steps,m.now.pc+1,m.now.base⟩ }
def An4(h:i.op≠42/\i.op≠43/\i.op≠44):(Ap P bets i m).sw m.calls m.now.steps m.lots=Ap P bets i m:=A7f (bets':=bets) (c:=m.calls) (st:=m.now.steps) (L:=m.lots) h
def Xc(i' i:Aa):Prop:=i'.op=2\/i'.op=4->i'.op=i.op/\i'.arg=i.arg
def Apl(ps x:List Kn)(i:Aa):Xc (quick ps x i) i:=by
 have h1:∀o,Ik o=o\/13<=Ik o:=fun o=>by
  unfold Ik;exact z40a
 have h2:∀(p:Prop) [Decidable p] (a b d:Nat),(b=d\/13<=b)->(a=d\/13<=a)->(if p then a else b)=d\/13<=(if p then a else b):=fun p _ a b d hb ha=>by
  split
  ·exact ha
  ·exact hb
 unfold Xc quick;split
 ·intro q;dsimp only at q;omega
 ·dsimp only;intro q;refine⟨?_,rfl⟩;have k1:=h2 (i.op=12/\Gb x 3=true) 14 i.op i.op (.inl rfl) (.inr z4ma);generalize (if i.op=12/\Gb x 3=true then 14 else i.op)=o1 at *;have k2:=h2 (o1=23/\(El x).sure 2=true) 24 o1 i.op k1 (.inr z4ma);generalize (if o1=23/\(El x).sure 2=true then 24 else o1)=o2 at *;have k3:=h2 (Gb x 2=true) (Ik o2) o2 i.op k2 (by have:=h1 o2;omega);omega
def Aj4{A:List PV}(hw:∀v∈m.vals,v.k=2->v.t=[])(h:FR P m.now st m.vals A)(hi:m.now.steps[m.now.pc]?=some i):∃i',st[m.now.pc]?=some i'/\Xc i' i/\Ap P bets i' (m.nx.sw c st Lt)=Ap P bets i (m.nx.sw c st Lt):=by
 obtain⟨ps,us,n,hF,⟨hb,S,B,x,hv,hS,hx,hB,hK⟩,hg,_⟩:=h;rcases hg with rfl|rfl
 ·exact⟨i,hi,fun _=>⟨rfl,rfl⟩,rfl⟩
 ·have hq:=Apn hF.ab m.now.steps 0 m.now.pc [] rfl hF.ab.zero;rw[hi,Tf,hx]at hq;refine⟨quick ps x i,hq,Apl ps x i,?_⟩;refine Apj ⟨A++S,B,hv,hB⟩ (fun j k hj=>?_) hw (fun q=>(hF.ab.sl _ _ hi (.inl q)).1);obtain⟨v,h1,h2⟩:=hK j k hj;have hlt:=(K4.1 h1).1;have:(m.nx.sw c (Ix P ps [] m.now.steps) Lt).at' ((m.nx.sw c (Ix P ps [] m.now.steps) Lt).now.base+(j:Nat))=v:=by
   show m.at' (m.now.base+(j:Nat))=v;rw[hb,A4j hv z4ma z4ma,O8,h1];rfl
  rw[this];exact h2
def Aqd{A:List PV}{L:List (Fr×List Aa)}(h:Rl P m c st Lt)(h1:m.calls=(L.map Prod.fst).reverse)(h2:c=(L.map U7).reverse)(h3:FR P m.now st m.vals A)(h4:V8 P L A)(hi:m.now.steps[m.now.pc]?=some i)(h41:i.op<=41):Ap P bets i (m.nx.sw c st Lt)=(Ii P [] i m).sw c st Lt/\Rl P (Ii P [] i m) c st Lt:=by
 have ho:i.op≠42/\i.op≠43/\i.op≠44:=by omega
 have own:=An4 (P:=P) (bets:=[]) (m:=m.nx) ho;refine⟨(A7f ho).symm,fun hc=>?_,?_,h.l2⟩
 ·obtain⟨ps,us,n,hF,hV,hg,hlo⟩:=h3;have:=Aug (bets:=[]) (m:=m.nx) hF hi hV rfl (hlo _ _ hi).1 h41;rcases this with q|⟨q1,q2,q3,q4⟩
  ·exact absurd hc q
  ·refine .inr ⟨L,A,q1.trans h1,h2,⟨ps,us,n,?_,?_,?_,?_⟩,h4⟩
   ·show FC P ps us n (Ap P [] i m.nx).now.steps;rw[q2];exact hF
   ·show FV ps us n _ (Ap P [] i m.nx).now.base _ A;rw[q3];exact q4
   ·show st=(Ap P [] i m.nx).now.steps\/st=Ix P ps [] (Ap P [] i m.nx).now.steps;rw[q2];exact hg
   ·show ∀(p:Nat) (j:Aa),(Ap P [] i m.nx).now.steps[p]?=some j->_;rw[q2];exact hlo
 ·have:(Ii P [] i m).lots=m.lots:=by
   show(Ap P [] i m.nx).lots=_;rw[←own];rfl
  rw[this];exact h.l1
def A8n{A:List PV}{L:List (Fr×List Aa)}{w:PV}(h:Rl P m c st Lt)(h1:m.calls=(L.map Prod.fst).reverse)(h2:c=(L.map U7).reverse)(h4:V8 P L A)(m1:MS)(e:m1={ m.wv (A++[w]) with now:=m.calls.getLastD ⟨[],0,0⟩,calls:=m.calls.dropLast }):∃c1 Gt,{ (m.wv (A++[w])).sw c st Lt with now:=c.getLastD ⟨[],0,0⟩,calls:=c.dropLast }=m1.sw c1 Gt Lt/\Rl P m1 c1 Gt Lt:=by
 cases L with
 | nil=>
  simp only[A3f,List.reverse_nil]at h1 h2;rw[h1]at e;subst h2;subst e;exact⟨[],[],rfl,fun _=>.inl ⟨rfl,rfl⟩,h.l1,h.l2⟩
 | cons q r=>
  obtain⟨A',k1,k2⟩:=h4;simp only[Q2,A3e]at h1 h2;rw[h1]at e;simp only[A3p,V7]at e;subst h2;subst e;refine⟨(r.map U7).reverse,q.2,?_,fun _=>.inr ⟨r,A',rfl,rfl,k1 w,k2⟩,h.l1,h.l2⟩;simp only[A3p,V7];rfl
def Afq{f:Fn}{k:Nat}{l:En}{M:MS}(hl:M.lots[k]?=some l)(hf:∀fo,l.form=some fo->∃b,fo=G8 P b f):∃l2 gs,M.body P bets k f=(M.Ls k l2).begin f.slots gs f.params/\(gs=f.steps\/∃b,gs=(G8 P b f).steps/\Ju M ((M.vals.length:Nat)-((G8 P b f).bet.length:Nat)) (G8 P b f).bet=true)/\(l2.form=none\/∃b,l2.form=some (G8 P b f)):=by
 unfold MS.body;rw[hl];dsimp only;have key:∀fm:Option Form,(∀fo,fm=some fo->∃b,fo=G8 P b f)->∃l2 gs,(match fm with
   | none=>(M.Ls k ⟨l.calls+1,none,l.fast,l.drops⟩).begin f.slots f.steps f.params
   | some fo=>if Ju M ((M.vals.length:Nat)-(fo.bet.length:Nat)) fo.bet then(M.Ls k ⟨l.calls+1,some fo,l.fast+1,l.drops⟩).begin fo.slots fo.steps f.params
    else(M.Ls k ⟨l.calls+1,none,l.fast,l.drops+1⟩).begin f.slots f.steps f.params)=(M.Ls k l2).begin f.slots gs f.params/\(gs=f.steps\/∃b,gs=(G8 P b f).steps/\Ju M ((M.vals.length:Nat)-((G8 P b f).bet.length:Nat)) (G8 P b f).bet=true)/\(l2.form=none\/∃b,l2.form=some (G8 P b f)):=by
  intro fm h;cases fm with
  | none=>exact⟨_,_,rfl,.inl rfl,.inl rfl⟩
  | some fo=>
   obtain⟨b,rfl⟩:=h fo rfl;dsimp only;split
   ·rename_i hfit;exact⟨_,_,rfl,.inr ⟨b,rfl,hfit⟩,.inr ⟨b,rfl⟩⟩
   ·exact⟨_,_,rfl,.inl rfl,.inl rfl⟩
 refine key _ (fun fo h=>?_);split at h
 ·rename_i b _;exact⟨b,(Dl h).symm⟩
 ·exact hf fo h
def Aec{A T:List PV}{j:Nat}(hv:m.vals=A++T):m.at' ((m.vals.length:Nat)-(T.length:Nat)+(j:Nat))=(T[j]?).getD Bb:=by
 unfold MS.at';rw[hv];rw[A1 (by simp only[Ds];omega)];have:((((A++T).length:Nat):Int)-((T.length:Nat):Int)+((j:Nat):Int)).toNat=A.length+j:=by simp only[Ds];omega
 rw[this,Th z4ma,show A.length+j-A.length=j by omega]
def A4v{arg:Int}{ln:Nat}{w:PV}{f:Fn}(hff:P.fns[arg.toNat]?=some f):Ap P bets ⟨42,arg,ln,w⟩ m=if m.fuel=0 then m.fail 8 ⟨42,arg,ln,w⟩ else if m.calls.length=40 then({ m with fuel:=m.fuel-1 }:MS).fail 9 ⟨42,arg,ln,w⟩ else({ m with fuel:=m.fuel-1,calls:=m.calls++[m.now] }:MS).body P bets arg.toNat f:=by
 unfold Ap MS.Jd;dsimp only;rw[hff];rfl
def Aqc{A:List PV}{L:List (Fr×List Aa)}(hP:PF P)(h:Rl P m c st Lt)(h1:m.calls=(L.map Prod.fst).reverse)(h2:c=(L.map U7).reverse)(h3:FR P m.now st m.vals A)(h4:V8 P L A)(hi:m.now.steps[m.now.pc]?=some i)(ho:i.op=42):∃c1 Gt Io,Ap P bets i (m.nx.sw c st Lt)=(Ii P [] i m).sw c1 Gt Io/\Rl P (Ii P [] i m) c1 Gt Io:=by
 obtain⟨ps,us,n,hF,⟨hb,S,B,x,hv,hS,hx,hB,hK⟩,hg,hlo⟩:=h3;obtain⟨x',hx',hfo,hT0,hT1⟩:=hF.ab.sq _ i hi;rw[hx]at hx';cases hx';have hlt:=(hlo _ _ hi).2.2 ho;obtain⟨op,arg,ln,w⟩:=i;dsimp only at ho hlt;subst ho;have hfm:=Ho hlt;have hff:P.fns[arg.toNat]?=some P.fns[arg.toNat]:=Eh hlt;generalize P.fns[arg.toNat]=f at hfm hff;obtain⟨f1,f2,f3⟩:=hP.f f hfm;have ht:Dv P ⟨42,arg,ln,w⟩=(f.params:Nat):=by
  show(match P.fns[arg.toNat]? with|some f=>((f.params:Nat):Int)|none=>0)=_;rw[hff]
 obtain⟨y,z,B1,T,e1,e2,e3,e4,e5⟩:=hB.cut f.params (by rw[ht]at hT1;omega);have hTl:T.length=f.params:=by rw[←e5.len,e2]
 have hfo2:us[m.now.pc+1]?=some (y++[E2]):=by
  rw[hfo,e1,fol ht e2];rfl
 have hcl:c.length=m.calls.length:=by rw[h1,h2];simp
 have hmv:m.vals=(A++S++B1)++T:=by rw[hv,e3,←Gv]
 show ∃c1 Gt Io,Ap P bets ⟨42,arg,ln,w⟩ (m.nx.sw c st Lt)=(Ap P [] ⟨42,arg,ln,w⟩ m.nx).sw c1 Gt Io/\Rl P (Ap P [] ⟨42,arg,ln,w⟩ m.nx) c1 Gt Io;rw[A4v hff,A4v hff];by_cases hfu:m.fuel=0
 ·rw[A7 (show m.nx.fuel=0 from hfu),A7 (show(m.nx.sw c st Lt).fuel=0 from hfu)];exact⟨c,st,Lt,rfl,fun q=>absurd q (by show(8:Nat)≠0;omega),h.l1,h.l2⟩
 rw[A1 (show ¬m.nx.fuel=0 from hfu),A1 (show ¬(m.nx.sw c st Lt).fuel=0 from hfu)];by_cases h40:m.calls.length=40
 ·rw[A7 (show m.nx.calls.length=40 from h40),A7 (show(m.nx.sw c st Lt).calls.length=40 from hcl.trans h40)];exact⟨c,st,Lt,rfl,fun q=>absurd q (by show(9:Nat)≠0;omega),h.l1,h.l2⟩
 rw[A1 (show ¬m.nx.calls.length=40 from h40),A1 (show ¬(m.nx.sw c st Lt).calls.length=40 from fun q=>h40 (hcl.symm.trans q))];have Cc:arg.toNat<m.lots.length:=by rw[h.l1.1];exact hlt
 have Eu:arg.toNat<Lt.length:=by rw[h.l2.1];exact hlt
 have sl:({ m.nx with fuel:=m.nx.fuel-1,calls:=m.calls++[m.nx.now] }:MS).lots[arg.toNat]?=some m.lots[arg.toNat]:=Eh Cc;have hzero:=h.l1.2 _ (Ho Cc);have hnone:=hzero.1;have Uo:({ m.nx with fuel:=m.nx.fuel-1,calls:=m.calls++[m.nx.now] }:MS).body P [] arg.toNat f=(({ m.nx with fuel:=m.nx.fuel-1,calls:=m.calls++[m.nx.now] }:MS).Ls arg.toNat ⟨(m.lots[arg.toNat]).calls+1,none,(m.lots[arg.toNat]).fast,(m.lots[arg.toNat]).drops⟩).begin f.slots f.steps f.params:=by
  unfold MS.body;rw[sl];simp only[taken,hnone]
 obtain⟨l2,gs,b1,b2,b3⟩:=Afq (P:=P) (bets:=bets) (f:=f) (k:=arg.toNat) (l:=Lt[arg.toNat]) (M:={ m.nx.sw c st Lt with fuel:=m.nx.fuel-1,calls:=c++[⟨st,m.now.pc+1,m.now.base⟩] }) (Eh Eu) (fun fo hfo=>by
  obtain⟨f',b,q1,q2⟩:=h.l2.2 _ _ _ (Eh Eu) hfo;rw[hff]at q1;cases q1;exact⟨b,q2⟩)
 refine⟨c++[⟨st,m.now.pc+1,m.now.base⟩],gs,Lt.set arg.toNat l2,?_,?_⟩
 ·exact b1.trans (by rw[show({ m.nx with fuel:=m.nx.fuel-1,calls:=m.nx.calls++[m.nx.now] }:MS).body P [] arg.toNat f=_ from Uo];rfl)
 ·rw[show({ m.nx with fuel:=m.nx.fuel-1,calls:=m.nx.calls++[m.nx.now] }:MS).body P [] arg.toNat f=_ from Uo];refine⟨fun _=>.inr ⟨(m.nx.now,st)::L,A++S++B1,?_,?_,?_,A,fun v=>?_,h4⟩,⟨?_,fun l hl=>?_⟩,?_,fun k l fo hk hfo=>?_⟩
  ·show m.calls++[m.nx.now]=_;rw[h1];simp
  ·rw[h2];simp[U7,MS.nx]
  ·rcases b2 with rfl|⟨b,rfl,hfit⟩
   ·obtain⟨u2,hu2⟩:=f3 [];exact⟨[],u2,f.slots,⟨hu2,fun p j _ _ k q=>by simp at q⟩,A6g (m:=m) hu2.zero hTl f1 hmv (fun j k q=>by simp at q),.inl rfl,f2⟩
   ·obtain⟨u2,hu2⟩:=f3 (Km f.steps ((List.range f.params).map (Ku b)));refine⟨_,u2,f.slots,⟨hu2,fun p j hj h3=>Alv _ _ p j hj h3 (hu2.sl p j hj (.inr h3)).1⟩,A6g (m:=m) hu2.zero hTl f1 hmv (fun j k q=>?_),.inr rfl,f2⟩;have hjl:j<T.length:=by
     have:=(K4.1 q).1;rw[A73]at this;simp at this;omega
    refine⟨T[j],Eh hjl,?_⟩;rcases A72 _ _ _ _ q with q|q
    ·rw[q];exact Rh _
    ·have hh:=Aja _ _ hfit j k q;have hbl:(G8 P b f).bet.length=T.length:=by simp[G8,hTl]
     rw[hbl]at hh;have e:({ m.nx.sw c st Lt with fuel:=m.nx.fuel-1,calls:=c++[⟨st,m.now.pc+1,m.now.base⟩] }:MS).at' ((m.vals.length:Nat)-(T.length:Nat)+(j:Nat))=T[j]:=by
      show m.at' _=_;rw[Aec hmv,Eh hjl];rfl
     have hh':k.is (({ m.nx.sw c st Lt with fuel:=m.nx.fuel-1,calls:=c++[⟨st,m.now.pc+1,m.now.base⟩] }:MS).at' ((m.vals.length:Nat)-(T.length:Nat)+(j:Nat)))=true:=hh;rw[e]at hh';exact hh'
  ·exact⟨ps,us,n,hF,⟨hb,S,B1++[v],y++[E2],by simp,hS,hfo2,e4.app ⟨Rh v,trivial⟩,hK⟩,hg,hlo⟩
  ·show(m.lots.set _ _).length=_;rw[Lc];exact h.l1.1
  ·rcases O6 hl with q|q
   ·exact h.l1.2 l q
   ·rw[q];exact⟨rfl,hzero.2⟩
  ·rw[Lc];exact h.l2.1
  ·rw[A3n]at hk;split at hk
   ·rename_i e;cases hk;rcases b3 with q|⟨b,q⟩
    ·rw[q]at hfo;cases hfo
    ·rw[q]at hfo;cases hfo;exact⟨f,b,by rw[←e];exact hff,rfl⟩
   ·exact h.l2.2 k l fo hk hfo
def A8o(hP:PF P)(h:Rl P m c st Lt)(hc:m.code=0)(hw:∀v∈m.vals,v.k=2->v.t=[])(hi:m.now.steps[m.now.pc]?=some i):∃i' c1 Gt Io,st[m.now.pc]?=some i'/\Xc i' i/\Ii P bets i' (m.sw c st Lt)=(Ii P [] i m).sw c1 Gt Io/\Rl P (Ii P [] i m) c1 Gt Io:=by
 rcases h.live hc with⟨q,_⟩|⟨L,A,h1,h2,h3,h4⟩
 ·rw[q]at hi;simp at hi
 obtain⟨i',e1,eg,e2⟩:=Aj4 (bets:=bets) (c:=c) (Lt:=Lt) hw h3 hi;have e3:Ii P bets i' (m.sw c st Lt)=Ap P bets i (m.nx.sw c st Lt):=e2;suffices hh:∃c1 Gt Io,Ap P bets i (m.nx.sw c st Lt)=(Ii P [] i m).sw c1 Gt Io/\Rl P (Ii P [] i m) c1 Gt Io by
  obtain⟨c1,Gt,Io,k1,k2⟩:=hh;exact⟨i',c1,Gt,Io,e1,eg,e3.trans k1,k2⟩
 have h3':=h3;obtain⟨ps,us,n,hF,⟨hb,S,B,x,hv,hS,hx,hB,hK⟩,hg,hlo⟩:=h3;have hl:=hlo _ _ hi;by_cases h41:i.op<=41
 ·obtain⟨k1,k2⟩:=Aqd (bets:=bets) h h1 h2 h3' h4 hi h41;exact⟨c,st,Lt,k1,k2⟩
 by_cases h42:i.op=42
 ·exact Aqc hP h h1 h2 h3' h4 hi h42
 have cutA:∀D:List PV,(if m.now.base<0 then A++D else(A++D).take m.now.base.toNat)=A:=fun D=>by
  rw[hb,Ai,O8,Tj]
 obtain⟨x',hx',hfo,hT0,hT1⟩:=hF.ab.sq _ i hi;rw[hx]at hx';cases hx';obtain⟨op,arg,ln,w⟩:=i;dsimp only at h41 h42;have ho:op=43\/op=44:=by have:op<=44:=hl.2.1;omega
 rcases ho with rfl|rfl
 ·have ev:(m.nx.cut m.now.base).push Bb=m.nx.wv (A++[Bb]):=by
   unfold MS.cut MS.push MS.wv;have:=cutA (S++B);rw[←Gv,←hv]at this;show({ m.nx with vals:=(if m.now.base<0 then m.vals else m.vals.take m.now.base.toNat)++[Bb] }:MS)=_;rw[this]
  obtain⟨c1,Gt,k1,k2⟩:=A8n (w:=Bb) h h1 h2 h4 (Ii P [] ⟨43,arg,ln,w⟩ m) (by
   show({ (m.nx.cut m.now.base).push Bb with now:=m.calls.getLastD ⟨[],0,0⟩,calls:=m.calls.dropLast }:MS)=_;rw[ev];rfl)
  refine⟨c1,Gt,Lt,?_,k2⟩;rw[←k1];show({ ((m.nx.cut m.now.base).push Bb).sw c st Lt with now:=c.getLastD ⟨[],0,0⟩,calls:=c.dropLast }:MS)=_;rw[ev];rfl
 ·obtain⟨y,z,B1,B2,d1,d2,d3,d4,d5⟩:=hB.cut 1 (by have:(1:Int)<=(x.length:Nat):=hT1;omega);obtain⟨k1,v,rfl,rfl,_⟩:=d5.one d2;have hmv:m.nx.vals=A++(S++B1)++[v]:=by show m.vals=_;rw[hv,d3];simp
  obtain⟨p1,p2⟩:=T7 hmv;have ev:(m.nx.pop.cut m.now.base).push m.nx.top=m.nx.wv (A++[v]):=by
   rw[p1,p2];unfold MS.cut MS.push MS.wv;show({ m.nx with vals:=(if m.now.base<0 then A++(S++B1) else(A++(S++B1)).take m.now.base.toNat)++[v] }:MS)=_;rw[cutA]
  obtain⟨c1,Gt,k1,k2⟩:=A8n (w:=v) h h1 h2 h4 (Ii P [] ⟨44,arg,ln,w⟩ m) (by
   show({ (m.nx.pop.cut m.now.base).push m.nx.top with now:=m.calls.getLastD ⟨[],0,0⟩,calls:=m.calls.dropLast }:MS)=_;rw[ev];rfl)
  refine⟨c1,Gt,Lt,?_,k2⟩;rw[←k1];show({ ((m.nx.pop.cut m.now.base).push m.nx.top).sw c st Lt with now:=c.getLastD ⟨[],0,0⟩,calls:=c.dropLast }:MS)=_;rw[ev];rfl
def Apq(P:C5)(ps:List Kn):∀(st:List Aa) (x:List Kn),(Ix P ps x st).length=st.length:=by
 intro st;induction st with
 | nil=>intro x;rfl
 | cons i r ih=>intro x;rw[Ix,Il,ih,Il]
def A8m(h:Rl P m c st Lt)(hc:m.code=0)(hi:m.now.steps[m.now.pc]?=none):st[m.now.pc]?=none:=by
 have hl:st.length=m.now.steps.length:=by
  rcases h.live hc with⟨q1,q2⟩|⟨L,A,_,_,⟨ps,us,n,_,_,hg,_⟩,_⟩
  ·rw[q1,q2]
  ·rcases hg with rfl|rfl
   ·rfl
   ·rw[Apq]
 rw[List.getElem?_eq_none_iff]at hi ⊢;omega
def Aqe(hP:PF P)(Wm:MS->Prop)(hW:∀m,Wm m->∀v∈m.vals,v.k=2->v.t=[])(hs:∀m i,Wm m->m.code=0->m.now.steps[m.now.pc]?=some i->Wm (Ii P [] i m)):∀(k:Nat) (m r:MS) (c:List Fr) (st:List Aa) (Lt:List En),Rl P m c st Lt->Wm m->Hi P [] k m=some r->∃c1 Gt Io,Hi P bets k (m.sw c st Lt)=some (r.sw c1 Gt Io)/\Io.length=P.fns.length/\∀l∈r.lots,l.fast=0/\l.drops=0:=by
 intro k;induction k with
 | zero=>intro m r c st Lt _ _ h;cases h
 | succ k ih=>
  intro m r c st Lt h hw hr;rw[Hi]at hr ⊢;by_cases hc:m.code=0
  ·rw[A1 (by simp[hc])]at hr;rw[A1 (show ¬(m.sw c st Lt).code≠0 by show ¬m.code≠0;simp[hc])];cases hi:m.now.steps[m.now.pc]? with
   | none=>
    rw[hi]at hr;have e0:=A8m h hc hi;have e:(m.sw c st Lt).now.steps[(m.sw c st Lt).now.pc]?=none:=e0;rw[e];cases hr;exact⟨c,st,Lt,rfl,h.l2.1,fun l hl=>(h.l1.2 l hl).2⟩
   | some i=>
    rw[hi]at hr;obtain⟨i',c1,Gt,Io,k1,_,k2,k3⟩:=A8o (bets:=bets) hP h hc (hW m hw) hi;have e:(m.sw c st Lt).now.steps[(m.sw c st Lt).now.pc]?=some i':=k1;rw[e];dsimp only at hr ⊢;rw[k2];exact ih _ _ _ _ _ k3 (hs m i hw hc hi) hr
  ·rw[A7 hc]at hr;rw[A7 (show(m.sw c st Lt).code≠0 from hc)];cases hr;exact⟨c,st,Lt,rfl,h.l2.1,fun l hl=>(h.l1.2 l hl).2⟩
def Aqf(hm:∃us,Nq P [] us P.slots P.main)(hlo:∀(p:Nat) (i:Aa),P.main[p]?=some i->Xd P i):Rl P (mstart P) [] P.main (mstart P).lots:=by
 obtain⟨us,hu⟩:=hm;have hlot:∀l∈(mstart P).lots,l.form=none/\l.fast=0/\l.drops=0:=fun l hl=>by
  have hl:l∈List.replicate P.fns.length (⟨0,none,0,0⟩:En):=hl;rw[(Qv.1 hl).2];exact z4aa
 have hlen:(mstart P).lots.length=P.fns.length:=by show(List.replicate P.fns.length (⟨0,none,0,0⟩:En)).length=_;simp
 refine⟨fun _=>.inr ⟨[],[],rfl,rfl,⟨[],us,P.slots,⟨hu,fun p j _ _ k q=>by simp at q⟩,⟨rfl,Jc P.slots,[],[],?_,by simp[Jc],hu.zero,trivial,fun j k q=>by simp at q⟩,.inl rfl,hlo⟩,trivial⟩,⟨hlen,hlot⟩,hlen,fun n l fo hl hfo=>?_⟩
 ·show []++Jc (P.slots-0)=_;simp
 ·rw[(hlot l (Gl hl)).1]at hfo;cases hfo
end
section
open Go.Deep (BT)
def K8(E:Nat)(s:PS):Prop:=Lz E/\((s.bad=0/\Sh E s.ts)\/(s.bad≠0/\s.ts=[Kx]/\s.bad<=5000))
variable {E:Nat} {s s1:PS}
def K8.hd(h:K8 E s)(hb:s.bad=0):Lz (B6 s).line/\(kT s≠0->Sj (B6 s))/\1<=E3 s:=by
 obtain⟨hE,⟨_,h4⟩|⟨h1,_⟩⟩:=h
 ·unfold kT B6 E3;rw[A7 hb];cases hq:s.ts with
  | nil=>rw[hq]at h4;exact h4.elim
  | cons t r=>
   rw[hq]at h4;rcases h4 with⟨k1,_,k3⟩|⟨k1,k2,k4,_⟩
   ·exact⟨by show Lz t.line;rw[k3];exact hE,fun q=>absurd k1 q,by simp⟩
   ·exact⟨k2,fun _=>k4,by simp⟩
 ·exact absurd hb h1
def K8.good(h:K8 E s)(hk:kT s≠0):s.bad=0:=by
 obtain⟨_,⟨h1,_⟩|⟨_,h2,_⟩⟩:=h
 ·exact h1
 ·exact absurd (Vi h2) hk
structure Rz (E : Nat) (s s1 : PS) : Prop where
 w:K8 E s1
 m:E3 s1<=E3 s
 b:s1.bad=0->s.bad=0
def Rz.refl(h:K8 E s):Rz E s s:=⟨h,Af _,id⟩
def Rz.trans{s2:PS}(h:Rz E s s1)(k:Rz E s1 s2):Rz E s s2:=⟨k.w,Fu k.m h.m,fun q=>h.b (k.b q)⟩
def K8.take(h:K8 E s):Rz E s (At s)/\(kT s≠0->E3 (At s)<E3 s):=by
 by_cases hk:kT s=0
 ·have e:At s=s:=by unfold At;rw[A7 hk]
  rw[e];exact⟨Rz.refl h,fun q=>absurd hk q⟩
 ·have hb:=h.good hk;have hm:=(h.hd hb).2.2;obtain⟨hE,⟨_,h4⟩|⟨h1,_⟩⟩:=h
  ·have ht:=A9t s;have hl:E3 (At s)<E3 s:=by
    unfold E3 at hm ⊢;rw[ht];rw[A7 hb]at hm ⊢;rw[A7 hb];unfold At;rw[A1 hk];show s.ts.tail.length<_;rw[List.length_tail];omega
   refine⟨⟨⟨hE,.inl ⟨by rw[ht];exact hb,?_⟩⟩,Nat.le_of_lt hl,fun _=>hb⟩,fun _=>hl⟩;unfold At;rw[A1 hk];unfold kT B6 at hk;cases hq:s.ts with
   | nil=>rw[hq]at h4;exact h4.elim
   | cons t r=>
    rw[hq]at h4 hk;rcases h4 with⟨k1,_⟩|⟨_,_,_,k3⟩
    ·exact absurd k1 hk
    ·exact k3
  ·exact absurd hb h1
def K8.fail(h:K8 E s):Rz E s (Et s)/\(Et s).bad≠0:=by
 by_cases hb:s.bad=0
 ·have h1:=(h.hd hb).1;unfold Et;rw[A7 hb];unfold Lz at h1;have:(B6 s).line≠0:=by omega
  exact⟨⟨⟨h.1,.inr ⟨this,rfl,h1.2⟩⟩,by unfold E3;rw[A1 this];exact De _,fun _=>hb⟩,this⟩
 ·rw[o8 hb];exact⟨Rz.refl h,hb⟩
def K8.want(h:K8 E s)(k:Nat):Rz E s (Be k s)/\((Be k s).bad=0->kT s=k/\s.bad=0/\(k≠0->E3 (Be k s)<E3 s)):=by
 unfold Be;by_cases hk:kT s=k
 ·rw[A7 hk];exact⟨h.take.1,fun q=>⟨hk,by rw[A9t]at q;exact q,fun q=>h.take.2 z4ma⟩⟩
 ·rw[A1 hk];exact⟨h.fail.1,fun q=>absurd q h.fail.2⟩
def Ami(h:s.bad≠0):E3 s=0:=by unfold E3;rw[A1 h]
def K8.lt(h:K8 E s)(hb:s.bad=0)(r:Rz E s s1){k:Nat}(hk:k≠0):E3 (Be k s1)<E3 s:=by
 by_cases q:(Be k s1).bad=0
 ·have:=((r.w.want k).2 q).2.2 hk;have:=r.m;omega
 ·rw[Ami q];have:=(h.hd hb).2.2;omega
def Rk(t:Nat):Nat:=if t<=6 then 0 else if t<=9 then 1 else 4
structure PA (E t : Nat) (acc : BT A5) (s : PS) (r : BT A5 × PS) : Prop where
 z:Rz E s r.2
 g:r.2.bad=0->Tr (Rk t) r.1/\bsize r.1+2*E3 r.2<=bsize acc+2*E3 s/\(t<=4->Aj r.1=1)
 p:s.bad=0->t=7\/t=9\/t=11->E3 r.2<E3 s
def Qa(E t:Nat)(acc:BT A5)(s:PS)(o:Option (BT A5×PS)):Prop:=∃r,o=some r/\PA E t acc s r
variable {t t1:Nat} {acc acc1:BT A5}
def Qa.bind{o:Option (BT A5×PS)}{f:BT A5×PS->Option (BT A5×PS)}(h:Qa E t1 acc1 s1 o)(k:∀x,PA E t1 acc1 s1 x->Qa E t acc s (f x)):Qa E t acc s (o.bind f):=by
 obtain⟨x,rfl,hx⟩:=h;exact k x hx
def Qa.up{o:Option (BT A5×PS)}(h:Qa E t1 acc1 s1 o)(r:Rz E s s1)(ht:Rk t1=Rk t)(h4:t<=4->t1<=4)(hm:s1.bad=0->bsize acc1+2*E3 s1<=bsize acc+2*E3 s)(hp:s.bad=0->t=7\/t=9\/t=11->E3 s1<E3 s):Qa E t acc s o:=by
 obtain⟨x,rfl,hx⟩:=h;refine⟨x,rfl,r.trans hx.z,fun q=>?_,fun q q2=>by have:=hp q q2;have:=hx.z.m;omega⟩;obtain⟨k1,k2,k3⟩:=hx.g q;rw[ht]at k1;exact⟨k1,by have:=hm (hx.z.b q);omega,fun q=>k3 (h4 q)⟩
def Qa.T3{l:A5}{c:BT A5}(r:Rz E s s1)(hk:Rf (Rk t) l.kd)(h:s1.bad=0->Vb l/\Nr l.kd c/\Vg l.kd c/\Tr (Kh l.kd) c/\1+l.ps.length+bsize c+2*E3 s1<=bsize acc+2*E3 s)(hp:s.bad=0->t=7\/t=9\/t=11->E3 s1<E3 s):Qa E t acc s (some (nd l c,s1)):=by
 refine⟨_,rfl,r,fun q=>?_,hp⟩;obtain⟨k1,k2,k3,k4,k5⟩:=h q;exact⟨Tr.nd k1 k2 k3 hk k4,by show bsize (nd l c)+2*E3 s1<=_;rw[Cf];omega,fun _=>rfl⟩
def U9{kd line:Nat}(h:Lz line):Vb (B4 kd line):=⟨.inr (.inr ⟨h,fun p q=>by cases q⟩),Nj,by simp[B4]⟩
def ar0{kd:Nat}(h:kd<=6):Nr kd .nil:=⟨fun q=>by omega,fun q=>by omega,fun q=>by omega,fun q=>by omega,fun q=>by omega,fun _=>rfl⟩
def Tv{kd:Nat}{c:BT A5}(h:kd=8\/kd=10\/kd=13\/kd=14\/kd=21\/kd=27\/kd=28\/kd=30\/kd=24)(hc:Aj c=1):Nr kd c:=⟨fun _=>hc,fun q=>by omega,fun q=>by omega,fun _=>by omega,fun q=>by omega,fun q=>by omega⟩
def l9{kd:Nat}{c:BT A5}(h:kd=11\/kd=12\/127<=kd)(hc:Aj c=2):Nr kd c:=⟨fun _=>by omega,fun q=>hc,fun q=>by omega,fun q=>by omega,fun q=>by omega,fun q=>by omega⟩
def Tw{kd:Nat}{c:BT A5}(h:kd=7\/kd=9\/kd=20\/kd=23\/kd=25\/kd=26\/kd=31\/kd=32):Nr kd c:=⟨fun _=>by omega,fun q=>by omega,fun q=>by omega,fun q=>by omega,fun q=>by omega,fun q=>by omega⟩
def Om{kd:Nat}{c:BT A5}(h:kd≠23):Vg kd c:=fun q=>absurd q h
def Xq:∀f g:BT A5,Aj (Dw f g)=Aj f+Aj g:=by
 intro f;induction f with
 | nil=>intro g;simp[Dw,Aj]
 | node x y l c r _ ih=>intro g;simp only[Dw,Aj,ih];omega
def Qa.l0{kd:Nat}{c:BT A5}(h:K8 E s)(r:Rz E s s1)(hk:Rf (Rk t) kd)(n23:kd≠23)(hg:s1.bad=0->Nr kd c/\Tr (Kh kd) c/\1+bsize c+2*E3 s1<=bsize acc+2*E3 s)(hp:s.bad=0->t=7\/t=9\/t=11->E3 s1<E3 s):Qa E t acc s (some (nd (B4 kd (B6 s).line) c,s1)):=
 Qa.T3 r hk (fun q=>by
  obtain⟨k1,k2,k3⟩:=hg q;exact⟨U9 (h.hd (r.b q)).1,k1,Om n23,k2,by simp only[B4,Jo];omega⟩) hp
def Z1{x:BT A5}(h:Tr 0 x)(h1:Aj x=1):Ej (I8 x).kd=true/\Lz (I8 x).line/\Tm (I8 x)/\Nr (I8 x).kd (Sw x)/\Tr (Kh (I8 x).kd) (Sw x)/\bsize (Sw x)+1<=bsize x:=by
 cases x with
 | nil=>simp[Aj]at h1
 | node u v l c r=>
  obtain⟨_,k1,k2,_,k4,k5⟩:=h;have hk:Ej l.kd=true:=by
   rcases k4 with⟨_,q⟩|⟨q,_⟩|⟨q,_⟩|⟨q,_⟩|⟨q,_⟩
   ·exact q
   all_goals omega
  refine⟨hk,?_,k1.2,k2,k5,by simp only[bsize,Sw];omega⟩;rcases k1.1 with q|q|q
  ·rw[q]at hk;exact absurd hk z4oa
  ·rw[q]at hk;exact absurd hk z4oa
  ·exact q.1
end
section
open Go.Deep (BT)
variable {E:Nat} {s s1:PS} {t:Nat} {acc:BT A5}
def PA.e{a1:BT A5}{x:BT A5×PS}(h:PA E t a1 s x)(ht:t<=4)(q:x.2.bad=0):Tr 0 x.1/\bsize x.1+2*E3 x.2<=bsize a1+2*E3 s/\Aj x.1=1:=by
 obtain⟨k1,k2,k3⟩:=h.g q;unfold Rk at k1;rw[Mn]at k1;exact⟨k1,k2,k3 ht⟩
def arn{kd:Nat}(h:kd=24\/kd=25\/kd=26):Nr kd .nil:=⟨fun _=>by omega,fun q=>by omega,fun q=>by omega,fun q=>by simp[Aj],fun q=>by omega,fun q=>by omega⟩
def A4i{x g:BT A5}(hx:Tr 0 x)(h1:Aj x=1)(hg:Zr g)(h2:1<=Aj g/\Aj g<=2):Nr 22 (Dw x g):=by
 have hk:=(Z1 hx h1).1;refine⟨fun _=>by omega,fun q=>by omega,fun q=>by omega,fun q=>by omega,fun _=>?_,fun q=>by omega⟩;cases x with
 | nil=>simp[Aj]at h1
 | node u v l c r=>
  cases r with
  | nil=>exact⟨u,v,l,c,g,rfl,fun q=>by rw[show(I8 (.node u v l c .nil)).kd=l.kd from rfl,q]at hk;exact absurd hk z4oa,hg,h2⟩
  | node u v l c r=>simp[Aj]at h1
def A74{kd:Nat}(h:kd=31\/kd=32):Vb (B4 kd 0):=⟨h.elim .inl (fun q=>.inr (.inl q)),Nj,by simp[B4]⟩
def A2q{c:BT A5}(h:Tr 1 c):Tr 2 (nd (B4 31 0) c):=Tr.nd (A74 (.inl rfl)) (Tw (by simp[B4])) (Om (by show 31≠23;omega)) (.inr (.inl ⟨rfl,rfl⟩)) h
def Avj{c:BT A5}(h:Tr 1 c):Tr 3 (nd (B4 32 0) c):=Tr.nd (A74 (.inr rfl)) (Tw (by simp[B4])) (Om (by show 32≠23;omega)) (.inr (.inr (.inl ⟨rfl,rfl⟩))) h
def A2r{m:Nat}(hm:m=2\/m=3){x:BT A5}(h:Tr 0 x):Tr m x:=Tr.up (fun d q=>by
 rcases q with⟨_,q⟩|⟨q,_⟩|⟨q,_⟩|⟨q,_⟩|⟨q,_⟩
 ·exact .inl ⟨.inr hm,q⟩
 all_goals omega) _ h
def Are{x v:BT A5}(hc:Qe x=true)(hx:Tr 0 x)(h1:Aj x=1)(hv:Tr 0 v)(Hg:Aj v=1):Tr 1 (setNode x v)/\bsize (setNode x v)<=bsize x+bsize v:=by
 obtain⟨k1,k2,k3,k4,k5,k6⟩:=Z1 hx h1;unfold Qe at hc;unfold setNode;split
 ·refine⟨Tr.nd ⟨.inr (.inr ⟨k2,fun p q=>by cases q⟩),Nj,k3.2⟩ (Tv z4ra Hg) (Om (by show 28≠23;omega)) (.inr (.inr (.inr (.inl ⟨.inl rfl,.inr (.inr rfl)⟩)))) hv,?_⟩;rw[Cf];simp only[Jo];omega
 ·rename_i n6;have h12:(I8 x).kd=12:=by simp only[Gz,Fh]at hc;omega
  rw[h12]at k4 k5;refine⟨Tr.nd (U9 k2) ⟨fun q=>by simp only[B4]at q;omega,fun q=>by simp only[B4]at q;omega,fun _=>by rw[Xq,Hg,k4.2.1 z4ma],fun q=>by simp only[B4]at q;omega,fun q=>by simp only[B4]at q;omega,fun q=>by simp only[B4]at q;omega⟩ (Om (by show 29≠23;omega)) (.inr (.inr (.inr (.inl ⟨.inl rfl,.inr (.inr rfl)⟩)))) (Tr.app _ _ k5 hv),?_⟩;rw[Cf,Oe];simp only[B4,Jo];omega
def Ap1:∀(n:Nat) (acc:List (Nat×List UInt8)) (s:PS),K8 E s->E3 s<n->(s.bad=0->∀p∈acc,Lz p.1)->∃r,Mj n acc s=some r/\Rz E s r.2/\(r.2.bad=0->(∀p∈r.1,Lz p.1)/\r.1.length+2*E3 r.2<=acc.length+2*E3 s):=by
 intro n;induction n with
 | zero=>intro acc s _ hm;omega
 | succ n ih=>
  intro acc s h hm ha;have h1:=h.want 1;rw[Mj];have hac:(Be 1 s).bad=0->∀p∈acc++[((B6 s).line,(B6 s).s)],Lz p.1:=fun q p hp=>by
   have k1:=(h1.2 q).2.1;rcases Jp.1 hp with r|r
   ·exact ha k1 p r
   ·rw[Lb.1 r];exact(h.hd k1).1
  split
  ·rename_i hk;have h2:=h1.1.w.take;have hb:=h1.1.w.good z4ma;have:=(h1.2 hb).2.2 z4ma;have:=h2.1.m;obtain⟨r,k1,k2,k3⟩:=ih (acc++[((B6 s).line,(B6 s).s)]) _ h2.1.w z4ma (fun _=>hac hb);refine⟨r,k1,(h1.1.trans h2.1).trans k2,fun q=>⟨(k3 q).1,?_⟩⟩;have:=(k3 q).2;simp only[Ds,Lw]at this;omega
  ·have h2:=h1.1.w.want 19;refine⟨_,rfl,h1.1.trans h2.1,fun q=>⟨hac (h2.2 q).2.1,?_⟩⟩;have:=(h1.2 (h2.2 q).2.1).2.2 z4ma;have:=h2.1.m;simp only[Ds,Lw];omega
def An7{n:Nat}(h:K8 E s)(hm:E3 s<n):∃r,params n s=some r/\Rz E s r.2/\(r.2.bad=0->(∀p∈r.1,Lz p.1)/\r.1.length+2*E3 r.2<=2*E3 s):=by
 unfold params;split
 ·exact⟨_,rfl,h.take.1,fun _=>⟨fun p q=>(by cases q),by have:=h.take.1.m;simp only[Jo];omega⟩⟩
 ·obtain⟨r,k1,k2,k3⟩:=Ap1 n [] s h hm (fun _ p q=>by cases q);exact⟨r,k1,k2,fun q=>⟨(k3 q).1,by have:=(k3 q).2;simp only[Jo]at this;omega⟩⟩
def z44a {P:Prop} (h:P:=by
  exact lf _ (by simp[B4]) rfl z4ma rfl f0):P:=h
def z5da {P:Prop} (h:P:=by show _+1<=n;omega):P:=h
def Ana:∀(n t a:Nat) (acc:BT A5) (s:PS),K8 E s->(t=0->a<=6)->(t=11->kT s≠0)->t<=11->20*E3 s+cost t a<=n->(s.bad=0->Tr (Rk t) acc/\(t=1\/t=3->Aj acc=1))->Qa E t acc s (Ak n t a acc s):=by
 intro n;induction n with
 | zero=>
  intro t a acc s _ ha _ _ hm;exfalso;have:1<=cost t a:=by
   unfold cost;split
   ·rename_i e;have:=ha e;omega
   ·exact z40a
  omega
 | succ n ih=>
  intro t a acc s h ha hfn h11 hm hac;have hT:=h.take;have h0:=Rz.refl h;have b0:bsize (.nil:BT A5)=0:=rfl;have sub:∀{t1 a1:Nat} {s1:PS},t1≠1/\t1≠3/\t1<11->K8 E s1->(t1=0->a1<=6)->20*E3 s1+cost t1 a1<=n->Qa E t1 .nil s1 (Ak n t1 a1 .nil s1):=fun h1 w h2 h3=>ih _ _ _ _ w h2 (fun q=>by omega) z4ma h3 (fun _=>⟨trivial,fun q=>by omega⟩);have e0:∀{s1:PS},K8 E s1->20*E3 s1+9<=n->Qa E 0 .nil s1 (Ak n 0 0 .nil s1):=fun w hm=>sub z4ma w (fun _=>by omega) hm;have e7:∀{s1:PS},K8 E s1->20*E3 s1+12<=n->Qa E 7 .nil s1 (Ak n 7 0 .nil s1):=fun w hm=>sub z4ma w (fun q=>by omega) hm;have np:∀{s1:PS},¬(t=7\/t=9\/t=11)->s.bad=0->t=7\/t=9\/t=11->E3 s1<E3 s:=fun h _ q=>absurd q h;rw[Ak];by_cases t0:t=0
  ·subst t0;rw[A7 rfl];have hc:cost 0 a=9-a:=rfl;have:=ha rfl;by_cases a6:a=6
   ·rw[A7 a6];exact(sub (t1:=2) z4ma h (fun q=>by omega) (by show _+2<=n;omega)).up h0 rfl (fun _=>by omega) (fun _=>by omega) (np z4ma)
   ·rw[A1 a6];refine(sub (t1:=0) z4ma h (fun _=>by omega) (by show _+(9-(a+1))<=n;omega)).bind (fun x hx=>?_);have:=hx.z.m;exact(ih 1 a x.1 x.2 hx.z.w (fun q=>by omega) (fun q=>by omega) z4ma z5da (fun q=>⟨(hx.e z4ma q).1,fun _=>(hx.e z4ma q).2.2⟩)).up hx.z rfl (fun _=>by omega) (fun q=>by have:=(hx.e z4ma q).2.1;omega) (np z4ma)
  rw[A1 t0];by_cases t1:t=1
  ·subst t1;rw[A7 rfl];have hc:cost 1 a=1:=rfl;by_cases hk:rowOf (kT s)=a+1
   ·rw[A7 hk];have Er:=Aqi hk;have h27:27<=kT s/\a+1<=6:=by
     unfold rowOf at hk;repeat' split at hk
     all_goals omega
    have hlt:=hT.2 z4ma;refine(sub (t1:=0) z4ma hT.1.w (fun _=>h27.2) (by show _+(9-(a+1))<=n;omega)).bind (fun y hy=>?_);have:=hy.z.m;have hz:=hT.1.trans hy.z;refine(ih 1 a _ y.2 hy.z.w (fun q=>by omega) (fun q=>by omega) z4ma z5da (fun q=>?_)).up hz rfl (fun _=>by omega) (fun q=>?_) (np z4ma)
    ·obtain⟨k1,k2,k3⟩:=hy.e z4ma q;obtain⟨j1,j2⟩:=hac (hz.b q);refine⟨Tr.nd (U9 (h.hd (hz.b q)).1) (l9 (.inr (.inr (by show 127<=100+kT s;omega))) (by rw[Xq,k3,j2 (.inl rfl)])) (Om (by show 100+kT s≠23;omega)) (.inl ⟨.inl rfl,Er⟩) ?_,fun _=>rfl⟩;have:Kh (100+kT s)=0:=by unfold Kh;rw[Ai,Ai,Ai]
     show Tr (Kh (100+kT s)) _;rw[this];exact Tr.app _ _ j1 k1
    ·have:=(hy.e z4ma q).2.1;rw[Cf,Oe];simp only[B4,Jo];omega
   ·rw[A1 hk];exact⟨_,rfl,h0,fun q=>⟨(hac q).1,Af _,fun _=>(hac q).2 (.inl rfl)⟩,np z4ma⟩
  rw[A1 t1];by_cases t2:t=2
  ·subst t2;rw[A7 rfl];have hc:cost 2 a=2:=rfl;have un:∀kd:Nat,kd=13\/kd=14->kT s≠0->Qa E 2 acc s ((Ak n 2 0 .nil (At s)).bind fun x=>some (nd (B4 kd (B6 s).line) x.1,x.2)):=fun kd hk k0=>by
    have hlt:=hT.2 k0;refine(sub (t1:=2) z4ma hT.1.w (fun q=>by omega) (by show _+2<=n;omega)).bind (fun x hx=>?_);exact Qa.l0 h (hT.1.trans hx.z) (.inl ⟨.inl rfl,by rcases hk with q|q <;> rw[q] <;> rfl⟩) z4ma (fun q=>⟨Tv z4ma (hx.e z4ma q).2.2,by rw[show Kh kd=0 by rcases hk with q|q <;> rw[q] <;> rfl];exact(hx.e z4ma q).1,by have:=(hx.e z4ma q).2.1;omega⟩) (np z4ma)
   by_cases d1:kT s=28
   ·rw[A7 d1];exact un 13 z4ma z4ma
   rw[A1 d1];by_cases d2:kT s=35
   ·rw[A7 d2];exact un 14 z4ma z4ma
   rw[A1 d2];refine(sub (t1:=4) z4ma h (fun q=>by omega) z5da).bind (fun x hx=>?_);have:=hx.z.m;exact(ih 3 0 x.1 x.2 hx.z.w (fun q=>by omega) (fun q=>by omega) z4ma z5da (fun q=>⟨(hx.e z4ma q).1,fun _=>(hx.e z4ma q).2.2⟩)).up hx.z rfl (fun _=>by omega) (fun q=>by have:=(hx.e z4ma q).2.1;omega) (np z4ma)
  rw[A1 t2];by_cases t3:t=3
  ·subst t3;rw[A7 rfl];have hc:cost 3 a=1:=rfl;by_cases d1:kT s=22
   ·rw[A7 d1];have hlt:=hT.2 z4ma;refine(e0 hT.1.w z4ma).bind (fun y hy=>?_);have:=hy.z.m;have hw:=hy.z.w.want 23;have:=hw.1.m;have hz:=(hT.1.trans hy.z).trans hw.1;refine(ih 3 0 _ _ hw.1.w (fun q=>by omega) (fun q=>by omega) z4ma z5da (fun q=>?_)).up hz rfl (fun _=>by omega) (fun q=>?_) (np z4ma)
    ·obtain⟨k1,k2,k3⟩:=hy.e z4ma (hw.2 q).2.1;obtain⟨j1,j2⟩:=hac (hz.b q);exact⟨Tr.nd (U9 (h.hd (hz.b q)).1) (l9 (.inr (.inl rfl)) (by rw[Xq,k3,j2 (.inr rfl)])) (Om (by show 12≠23;omega)) (.inl ⟨.inl rfl,rfl⟩) (Tr.app _ _ j1 k1),fun _=>rfl⟩
    ·have:=(hy.e z4ma (hw.2 q).2.1).2.1;rw[Cf,Oe];simp only[B4,Jo];omega
   ·rw[A1 d1];exact⟨_,rfl,h0,fun q=>⟨(hac q).1,Af _,fun _=>(hac q).2 (.inr rfl)⟩,np z4ma⟩
  rw[A1 t3];by_cases t4:t=4
  ·subst t4;rw[A7 rfl];have hc:cost 4 a=1:=rfl;have lf:∀(l:A5),l.kd=1\/l.kd=2\/l.kd=3\/l.kd=4\/l.kd=5\/l.kd=6->l.ps=[]->kT s≠0->l.line=(B6 s).line->(Sj (B6 s)->Tm l)->Qa E 4 acc s (some (nd l .nil,At s)):=fun l hk hp k0 hl hf=>by
    have hlt:=hT.2 k0;refine Qa.T3 hT.1 (.inl ⟨.inl rfl,by rcases hk with q|q|q|q|q|q <;> rw[q] <;> rfl⟩) (fun q=>⟨⟨.inr (.inr ⟨by rw[hl];exact(h.hd (hT.1.b q)).1,fun p hq=>by rw[hp]at hq;cases hq⟩),hf ((h.hd (hT.1.b q)).2.1 k0)⟩,ar0 z4ma,Om z4ma,trivial,by rw[hp,b0,Jo];omega⟩) (np z4ma)
   have ex:∀(kd:Nat),kd=8\/kd=10->∀s1,Rz E (At s) s1->kT s≠0->Qa E 4 acc s ((Ak n 0 0 .nil s1).bind fun x=>some (nd (B4 kd (B6 s).line) x.1,Be 19 x.2)):=fun kd hk s1 r k0=>by
    have hlt:=hT.2 k0;have:=r.m;refine(e0 r.w z4ma).bind (fun x hx=>?_);have hw:=hx.z.w.want 19;have:=hw.1.m;exact Qa.l0 h (((hT.1.trans r).trans hx.z).trans hw.1) (.inl ⟨.inl rfl,by rcases hk with q|q <;> rw[q] <;> rfl⟩) z4ma (fun q=>⟨Tv z4ma (hx.e z4ma (hw.2 q).2.1).2.2,by rw[show Kh kd=0 by rcases hk with q|q <;> rw[q] <;> rfl];exact(hx.e z4ma (hw.2 q).2.1).1,by have:=(hx.e z4ma (hw.2 q).2.1).2.1;omega⟩) (np z4ma)
   have f0:∀{kd:Nat},Sj (B6 s)->Tm (B4 kd (B6 s).line):=fun _=>⟨Nj,by simp[B4]⟩;by_cases d1:kT s=2
   ·rw[A7 d1];exact lf _ z4ra rfl z4ma rfl (fun q=>⟨q.1,by simp⟩)
   rw[A1 d1];by_cases d2:kT s=3
   ·rw[A7 d2];exact lf _ z4ra rfl z4ma rfl (fun q=>⟨Nj,q.2⟩)
   rw[A1 d2];by_cases d3:kT s=13
   ·rw[A7 d3];exact z44a
   rw[A1 d3];by_cases d4:kT s=14
   ·rw[A7 d4];exact z44a
   rw[A1 d4];by_cases d5:kT s=15
   ·rw[A7 d5];exact z44a
   rw[A1 d5];have wT:=hT.1.w;by_cases d6:kT s=1
   ·rw[A7 d6];by_cases d7:kT (At s)=18
    ·rw[A7 d7];have hlt:=hT.2 z4ma;have:=wT.take.1.m;refine(sub (t1:=5) z4ma wT.take.1.w (fun q=>by omega) (by show _+10<=n;omega)).bind (fun x hx=>?_);have hz:=(hT.1.trans wT.take.1).trans hx.z;exact Qa.T3 hz (.inl ⟨.inl rfl,rfl⟩) (fun q=>⟨⟨.inr (.inr ⟨(h.hd (hz.b q)).1,fun p q=>by cases q⟩),Nj,((h.hd (hz.b q)).2.1 z4ma).2⟩,Tw (.inl rfl),Om (by show 7≠23;omega),(hx.g q).1,by have:=(hx.g q).2.1;simp only[Jo];omega⟩) (np z4ma)
    ·rw[A1 d7];exact lf _ z4ra rfl z4ma rfl (fun q=>⟨Nj,q.2⟩)
   rw[A1 d6];by_cases d7:kT s=18
   ·rw[A7 d7];exact ex 8 (.inl rfl) _ (Rz.refl wT) z4ma
   rw[A1 d7];by_cases d8:kT s=22
   ·rw[A7 d8];have hlt:=hT.2 z4ma;refine(sub (t1:=5) z4ma wT (fun q=>by omega) (by show _+10<=n;omega)).bind (fun x hx=>?_);exact Qa.l0 h (hT.1.trans hx.z) (.inl ⟨.inl rfl,rfl⟩) z4ma (fun q=>⟨Tw (.inr (.inl rfl)),(hx.g q).1,by have:=(hx.g q).2.1;omega⟩) (np z4ma)
   rw[A1 d8];have w18:=wT.want 18;by_cases d9:kT s=16
   ·rw[A7 d9];exact ex 10 (.inr rfl) _ w18.1 z4ma
   rw[A1 d9];by_cases d10:kT s=17
   ·rw[A7 d10];have hlt:=hT.2 z4ma;have:=w18.1.m;refine(e0 w18.1.w z4ma).bind (fun x hx=>?_);have w24:=hx.z.w.want 24;have:=w24.1.m;have:=hx.z.m;refine(e0 w24.1.w z4ma).bind (fun y hy=>?_);have hw:=hy.z.w.want 19;have:=hw.1.m;refine Qa.l0 h (((((hT.1.trans w18.1).trans hx.z).trans w24.1).trans hy.z).trans hw.1) (.inl ⟨.inl rfl,rfl⟩) z4ma (fun q=>?_) (np z4ma);obtain⟨k1,k2,k3⟩:=hy.e z4ma (hw.2 q).2.1;obtain⟨j1,j2,j3⟩:=hx.e z4ma (w24.2 (hy.z.b (hw.2 q).2.1)).2.1;exact⟨l9 (.inl rfl) (by rw[Xq,k3,j3]),Tr.app _ _ j1 k1,by rw[Oe];omega⟩
   rw[A1 d10];exact⟨_,rfl,h.fail.1,fun q=>absurd q h.fail.2,np z4ma⟩
  rw[A1 t4];by_cases t5:t=5
  ·subst t5;rw[A7 rfl];have hc:cost 5 a=10:=rfl;by_cases d1:kT s=a
   ·rw[A7 d1];exact⟨_,rfl,hT.1,fun q=>⟨trivial,by have:=hT.1.m;show bsize (.nil:BT A5)+2*E3 (At s)<=_;omega,fun q=>by omega⟩,np z4ma⟩
   ·rw[A1 d1];refine(e0 h z4ma).bind (fun x hx=>?_);have:=hx.z.m;exact(ih 6 a x.1 x.2 hx.z.w (fun q=>by omega) (fun q=>by omega) z4ma z5da (fun q=>⟨(hx.e z4ma q).1,fun q=>by omega⟩)).up hx.z rfl (fun _=>by omega) (fun q=>by have:=(hx.e z4ma q).2.1;omega) (np z4ma)
  rw[A1 t5];by_cases t6:t=6
  ·subst t6;rw[A7 rfl];have hc:cost 6 a=1:=rfl;by_cases d1:kT s=24
   ·rw[A7 d1];have hlt:=hT.2 z4ma;refine(e0 hT.1.w z4ma).bind (fun y hy=>?_);have:=hy.z.m;have hz:=hT.1.trans hy.z;exact(ih 6 a _ y.2 hy.z.w (fun q=>by omega) (fun q=>by omega) z4ma z5da (fun q=>⟨Tr.app _ _ (hac (hz.b q)).1 (hy.e z4ma q).1,fun q=>by omega⟩)).up hz rfl (fun _=>by omega) (fun q=>by have:=(hy.e z4ma q).2.1;rw[Oe];omega) (np z4ma)
   ·rw[A1 d1];have hw:=h.want a;exact⟨_,rfl,hw.1,fun q=>⟨(hac (hw.1.b q)).1,by have:=hw.1.m;show bsize acc+2*E3 (Be a s)<=_;omega,fun q=>by omega⟩,np z4ma⟩
  rw[A1 t6];by_cases t7:t=7
  ·subst t7;rw[A7 rfl];have hc:cost 7 a=12:=rfl;have hw:=h.want 20;have:=hw.1.m;exact(sub (t1:=8) z4ma hw.1.w (fun q=>by omega) (by show _+11<=n;omega)).up hw.1 rfl (fun q=>by omega) (fun _=>by omega) (fun q _=>h.lt q h0 z4ma)
  rw[A1 t7];by_cases t8:t=8
  ·subst t8;rw[A7 rfl];have hc:cost 8 a=11:=rfl;by_cases d1:kT s=21
   ·rw[A7 d1];exact⟨_,rfl,hT.1,fun q=>⟨(hac (hT.1.b q)).1,by have:=hT.1.m;show bsize acc+2*E3 (At s)<=_;omega,fun q=>by omega⟩,np z4ma⟩
   rw[A1 d1];by_cases d2:s.bad≠0
   ·rw[A7 d2];exact⟨_,rfl,h0,fun q=>absurd q d2,np z4ma⟩
   rw[A1 d2];refine(sub (t1:=9) z4ma h (fun q=>by omega) (by show _+10<=n;omega)).bind (fun x hx=>?_);have:=hx.p z4ma z4ma;exact(ih 8 0 _ x.2 hx.z.w (fun q=>by omega) (fun q=>by omega) z4ma (by show _+11<=n;omega) (fun q=>⟨Tr.app _ _ (hac (hx.z.b q)).1 (hx.g q).1,fun q=>by omega⟩)).up hx.z rfl (fun q=>by omega) (fun q=>by have:=(hx.g q).2.1;rw[Oe];omega) (np z4ma)
  rw[A1 t8];by_cases t9:t=9
  ·subst t9;rw[A7 rfl];have hc:cost 9 a=10:=rfl;have sk:∀{kd:Nat},No kd=true->Rf (Rk 9) kd:=fun q=>.inr (.inr (.inr (.inl ⟨.inl rfl,.inr (.inr q)⟩)));have st:∀(kd:Nat),kd=24\/kd=27->kT s≠0->Qa E 9 acc s ((Ak n 0 0 .nil (At s)).bind fun x=>some (nd (B4 kd (B6 s).line) x.1,Be 25 x.2)):=fun kd hk k0=>by
    have hlt:=hT.2 k0;refine(e0 hT.1.w z4ma).bind (fun x hx=>?_);have hw:=hx.z.w.want 25;have:=hw.1.m;exact Qa.l0 h ((hT.1.trans hx.z).trans hw.1) (sk (by rcases hk with q|q <;> rw[q] <;> rfl)) z4ma (fun q=>⟨Tv z4ma (hx.e z4ma (hw.2 q).2.1).2.2,by rw[show Kh kd=0 by rcases hk with q|q <;> rw[q] <;> rfl];exact(hx.e z4ma (hw.2 q).2.1).1,by have:=(hx.e z4ma (hw.2 q).2.1).2.1;omega⟩) (fun q _=>h.lt q (hT.1.trans hx.z) z4ma)
   have sl:∀(kd:Nat),kd=24\/kd=25\/kd=26->kT s≠0->Qa E 9 acc s (some (nd (B4 kd (B6 s).line) .nil,Be 25 (At s))):=fun kd hk k0=>by
    have hlt:=hT.2 k0;have hw:=hT.1.w.want 25;have:=hw.1.m;exact Qa.l0 h (hT.1.trans hw.1) (sk (by rcases hk with q|q|q <;> rw[q] <;> rfl)) z4ma (fun q=>⟨arn hk,trivial,by omega⟩) (fun q _=>h.lt q hT.1 z4ma)
   by_cases d1:kT s=5
   ·rw[A7 d1];have hlt:=hT.2 z4ma;have w1:=hT.1.w.want 1;have w2:=w1.1.w.want 26;have:=w1.1.m;have:=w2.1.m;refine(e0 w2.1.w z4ma).bind (fun x hx=>?_);have hw:=hx.z.w.want 25;have:=hw.1.m;have hz:=((hT.1.trans w1.1).trans w2.1).trans hx.z;refine Qa.T3 (hz.trans hw.1) (sk rfl) (fun q=>?_) (fun q _=>h.lt q hz z4ma);have q1:=(hw.2 q).2.1;have q2:=w1.2 (w2.1.b (hx.z.b q1));have hh:=hT.1.w.hd q2.2.1;obtain⟨k1,k2,k3⟩:=hx.e z4ma q1;exact⟨⟨.inr (.inr ⟨hh.1,fun p q=>by cases q⟩),Nj,(hh.2.1 z4ma).2⟩,Tv z4ra k3,Om (by show 21≠23;omega),k1,by simp only[Jo];omega⟩
   rw[A1 d1];by_cases d2:kT s=6
   ·rw[A7 d2];have hlt:=hT.2 z4ma;refine(e0 hT.1.w z4ma).bind (fun x hx=>?_);have:=hx.z.m;refine(e7 hx.z.w z4ma).bind (fun b hb=>?_);have:=hb.z.m;have hz:=(hT.1.trans hx.z).trans hb.z;by_cases d3:kT b.2=7
    ·rw[A7 d3];have hB:=hb.z.w.take;have:=hB.2 z4ma;refine(e7 hB.1.w z4ma).bind (fun c hc=>?_);have:=hc.z.m;refine Qa.l0 h ((hz.trans hB.1).trans hc.z) (.inr (.inr (.inr (.inl ⟨.inl rfl,.inl rfl⟩)))) z4ma (fun q=>?_) (fun _ _=>by omega);have qb:=hB.1.b (hc.z.b q);obtain⟨k1,k2,k3⟩:=hx.e z4ma (hb.z.b qb);have j1:=hb.g qb;have i1:=hc.g q;exact⟨A4i k1 k3 ⟨rfl,rfl,trivial⟩ ⟨by simp[Aj,Dw,nd],by simp[Aj,Dw,nd]⟩,Tr.app _ _ (A2r (.inl rfl) k1) (Tr.app _ _ (A2q j1.1) (A2q i1.1)),by rw[Oe,Oe,Cf,Cf];simp only[B4,Jo];omega⟩
    ·rw[A1 d3];refine Qa.l0 h hz (.inr (.inr (.inr (.inl ⟨.inl rfl,.inl rfl⟩)))) z4ma (fun q=>?_) (fun _ _=>by omega);obtain⟨k1,k2,k3⟩:=hx.e z4ma (hb.z.b q);have j1:=hb.g q;exact⟨A4i k1 k3 ⟨rfl,trivial⟩ ⟨by simp[Aj,nd],by simp[Aj,nd]⟩,Tr.app _ _ (A2r (.inl rfl) k1) (A2q j1.1),by rw[Oe,Cf];simp only[B4,Jo];omega⟩
   rw[A1 d2];by_cases d3:kT s=8
   ·rw[A7 d3];have hlt:=hT.2 z4ma;refine(e0 hT.1.w z4ma).bind (fun x hx=>?_);have:=hx.z.m;refine(e7 hx.z.w z4ma).bind (fun b hb=>?_);have:=hb.z.m;have hz:=(hT.1.trans hx.z).trans hb.z;refine Qa.T3 hz (.inr (.inr (.inr (.inl ⟨.inl rfl,.inr (.inl rfl)⟩)))) (fun q=>?_) (fun _ _=>by omega);obtain⟨k1,k2,k3⟩:=hx.e z4ma (hb.z.b q);have j1:=hb.g q;refine⟨U9 (h.hd (hz.b q)).1,Tw (by simp[B4]),fun _=>⟨x.1,b.1,rfl,k3,fun e=>?_⟩,Tr.app _ _ (A2r (.inr rfl) k1) (Avj j1.1),by rw[Oe,Cf];simp only[B4,Jo];omega⟩;have:=(Z1 k1 k3).1;rw[e]at this;exact absurd this z4oa
   rw[A1 d3];by_cases d4:kT s=9
   ·rw[A7 d4];by_cases d5:kT (At s)=25
    ·rw[A7 d5];exact sl 24 z4ma z4ma
    ·rw[A1 d5];exact st 24 z4ma z4ma
   rw[A1 d4];by_cases d5:kT s=10
   ·rw[A7 d5];exact sl 25 z4ma z4ma
   rw[A1 d5];by_cases d6:kT s=11
   ·rw[A7 d6];exact sl 26 z4ma z4ma
   rw[A1 d6];by_cases d7:kT s=12
   ·rw[A7 d7];exact st 27 z4ma z4ma
   rw[A1 d7];refine(e0 h z4ma).bind (fun x hx=>?_);have:=hx.z.m;have ex:∀{s1:PS},Rz E x.2 s1->Qa E 9 acc s (some (nd (B4 30 (I8 x.1).line) x.1,Be 25 s1)):=fun r=>by
    have hw:=r.w.want 25;have:=r.m;refine Qa.T3 ((hx.z.trans r).trans hw.1) (sk rfl) (fun q=>?_) (fun q _=>h.lt q (hx.z.trans r) z4ma);obtain⟨k1,k2,k3⟩:=hx.e z4ma (r.b (hw.2 q).2.1);exact⟨U9 (Z1 k1 k3).2.1,Tv (by simp[B4]) k3,Om (by show 30≠23;omega),k1,by have:=(hw.2 q).2.2 z4ma;simp only[B4,Jo];omega⟩
   by_cases d8:Qe x.1=true/\kT x.2=26
   ·rw[A7 d8];have hX:=hx.z.w.take;have:=hX.2 z4ma;refine(e0 hX.1.w z4ma).bind (fun v hv=>?_);have hw:=hv.z.w.want 25;have:=hv.z.m;have:=hw.1.m;have hz:=(hx.z.trans hX.1).trans hv.z;refine⟨_,rfl,hz.trans hw.1,fun q=>?_,fun q _=>h.lt q hz z4ma⟩;obtain⟨j1,j2,j3⟩:=hv.e z4ma (hw.2 q).2.1;obtain⟨k1,k2,k3⟩:=hx.e z4ma (hX.1.b (hv.z.b (hw.2 q).2.1));obtain⟨i1,i2⟩:=Are d8.1 k1 k3 j1 j3;exact⟨i1,by show bsize (setNode x.1 v.1)+2*E3 (Be 25 v.2)<=_;omega,fun q=>by omega⟩
   rw[A1 d8];by_cases d9:kT x.2=26
   ·rw[A7 d9];have hF:=hx.z.w.fail;have:=hF.1.m;refine(e0 hF.1.w z4ma).bind (fun v hv=>?_);exact ex (hF.1.trans hv.z)
   ·rw[A1 d9];exact ex (Rz.refl hx.z.w)
  rw[A1 t9];by_cases t10:t=10
  ·subst t10;rw[A7 rfl];have hc:cost 10 a=14:=rfl;by_cases d1:kT s=0
   ·rw[A7 d1];exact⟨_,rfl,h0,fun q=>⟨(hac q).1,Af _,fun q=>by omega⟩,np z4ma⟩
   rw[A1 d1];have hb:=h.good d1;by_cases d2:kT s=4
   ·rw[A7 d2];refine(ih 11 0 .nil s h (fun q=>by omega) (fun _=>d1) z4ma (by show _+13<=n;omega) (fun _=>⟨trivial,fun q=>by omega⟩)).bind (fun x hx=>?_);have:=hx.p hb z4ma;exact(ih 10 0 _ x.2 hx.z.w (fun q=>by omega) (fun q=>by omega) z4ma (by show _+14<=n;omega) (fun q=>⟨Tr.app _ _ (hac (hx.z.b q)).1 (hx.g q).1,fun q=>by omega⟩)).up hx.z rfl (fun q=>by omega) (fun q=>by have:=(hx.g q).2.1;rw[Oe];omega) (np z4ma)
   ·rw[A1 d2];refine(sub (t1:=9) z4ma h (fun q=>by omega) (by show _+10<=n;omega)).bind (fun x hx=>?_);have:=hx.p hb z4ma;exact(ih 10 0 _ x.2 hx.z.w (fun q=>by omega) (fun q=>by omega) z4ma (by show _+14<=n;omega) (fun q=>⟨Tr.app _ _ (hac (hx.z.b q)).1 (Tr.up (fun d q=>by rcases q with⟨q,_⟩|⟨q,_⟩|⟨q,_⟩|⟨_,q⟩|⟨q,_⟩ <;> first|exact absurd q z4oa|exact .inr (.inr (.inr (.inl ⟨.inr rfl,q⟩)))) _ (hx.g q).1),fun q=>by omega⟩)).up hx.z rfl (fun q=>by omega) (fun q=>by have:=(hx.g q).2.1;rw[Oe];omega) (np z4ma)
  rw[A1 t10];have t11:t=11:=by omega
  subst t11;have hc:cost 11 a=13:=rfl;have hk:=hfn rfl;have hlt:=hT.2 hk;have w1:=hT.1.w.want 1;have w2:=w1.1.w.want 18;have:=w1.1.m;have:=w2.1.m;obtain⟨p,hp,hp2,hp3⟩:=An7 (n:=n) w2.1.w z4ma;rw[hp];show Qa E 11 acc s (Option.bind _ _);have:=hp2.m;refine(e7 hp2.w z4ma).bind (fun b hb=>?_);have hz:=((w1.1.trans w2.1).trans hp2).trans hb.z;refine Qa.T3 (hT.1.trans hz) (.inr (.inr (.inr (.inr ⟨rfl,rfl⟩)))) (fun q=>?_) (fun q _=>by have:=hb.z.m;omega);have q2:=hp2.b (hb.z.b q);have q1:=w1.2 (w2.2 q2).2.1;have hh:=hT.1.w.hd q1.2.1;exact⟨⟨.inr (.inr ⟨hh.1,(hp3 (hb.z.b q)).1⟩),Nj,(hh.2.1 z4ma).2⟩,Tw (.inr (.inr (.inl rfl))),Om (by show 20≠23;omega),(hb.g q).1,by have:=(hb.g q).2.1;have:=(hp3 (hb.z.b q)).2;show 1+p.1.length+bsize b.1+2*E3 b.2<=_;omega⟩
def A8h{ts:List Tk}(hE:Lz E)(h:Sh E ts)(hl:ts.length<=2001):∃r,Ak 100000 10 0 .nil ⟨ts,0⟩=some r/\K8 E r.2/\(r.2.bad=0->Tr 4 r.1/\bsize r.1<=4002):=by
 have hm:E3 ⟨ts,0⟩=ts.length:=by unfold E3;rw[A7 rfl]
 obtain⟨r,h1,h2⟩:=Ana 100000 10 0 .nil ⟨ts,0⟩ ⟨hE,.inl ⟨rfl,h⟩⟩ z4ma z4ma z4ma (by rw[hm];show _+14<=_;omega) (fun _=>⟨trivial,fun q=>by omega⟩);refine⟨r,h1,h2.z.w,fun q=>⟨(h2.g q).1,?_⟩⟩;have:=(h2.g q).2.1;have b0:bsize (.nil:BT A5)=0:=rfl;rw[hm]at this;omega
def A9z{l:List UInt8}{c:BT A5}(hl:l.length<=2000)(h:Gu l=((0,0),some c)):Tr 4 c/\bsize c<=4002/\(G2 (Cr c) c [] [] (0,0)).1=0:=by
 unfold Gu at h;rw[Ai]at h;rcases A2n l hl with⟨k,h1,_,_⟩|⟨ts,h1,h2,h3⟩
 ·rw[h1]at h;simp at h
 ·rw[h1]at h;dsimp only at h;obtain⟨E,hE,hts⟩:=Sh.of (Af 1) z4ma ts h3 (A76 _ _ _ _ _ h1 hl);obtain⟨r,hr,_,hq⟩:=A8h hE hts h2;rw[hr]at h;dsimp only at h;by_cases hbad:r.2.bad=0
  ·rw[A1 (show ¬r.2.bad≠0 by simp[hbad])]at h;split at h
   ·simp at h
   ·split at h
    ·simp at h
    ·rename_i hs;simp only[Px,Cg,true_and]at h;subst h;exact⟨(hq hbad).1,(hq hbad).2,by simpa using hs⟩
  ·rw[A7 hbad]at h;simp at h
end
section
open Go.Deep (BT)
def A89(l:List UInt8)(h:l.length<=2000):Xf l:=by
 intro ts ht;rcases A2n l h with⟨n,h1,_⟩|⟨ts',h1,h2,h3⟩
 ·rw[ht]at h1;cases h1
 ·rw[ht]at h1;cases h1;obtain⟨E,hE,hts⟩:=Sh.of (Af 1) z4ma ts h3 (A76 _ _ _ _ _ ht h);obtain⟨r,hr,_,hs⟩:=A8h hE hts h2;exact⟨r,hr,fun hb=>⟨(hs hb).2,Tr.wf _ 4 (hs hb).1⟩⟩
def Aie(fns:List (Nm×Nat))(c:BT A5):∀(gl:List Nm) (fs:List Fn) (e:Em),(Ht fns c gl fs e).fns.map Fn.name=fs.map Fn.name++(Cr c).map Prod.fst:=by
 induction c with
 | nil=>intro gl fs e;simp[Ht,Cr]
 | node x y l c r _ ih=>
  intro gl fs e;rw[Ht,Cr];by_cases h:l.kd=20
  ·rw[A7 h,A7 h,ih];simp[Mf]
  ·rw[A1 h,A1 h];split
   ·exact ih _ _ _
   ·exact ih _ _ _
def Aia(c:BT A5):(Fo c).fns.map Fn.name=(Cr c).map Prod.fst:=by
 unfold Fo;rw[Aie];rfl
def Ajk(c:BT A5):(Cr c).length<=bsize c:=by
 induction c with
 | nil=>simp[Cr]
 | node x y l c r _ ih=>
  rw[Cr,bsize];split
  ·simp;omega
  ·omega
end
section
open Go.Deep (BT)
variable {N G A:Nat} {fns:List (Nm×Nat)}
def A0u:∀(c:BT A5) (gl:List Nm) (fs:List Fn) (e:Em),gl.length<=(Ht fns c gl fs e).globals/\(Ht fns c gl fs e).globals<=gl.length+bsize c:=by
 intro c;induction c with
 | nil=>intro gl fs e;exact⟨Af _,by show gl.length<=_;omega⟩
 | node x y l c r _ ih=>
  intro gl fs e;rw[Ht,bsize];split
  ·have:=ih gl (fs++[Mf fns gl l c]) e;omega
  ·split
   ·have:=ih (gl++[l.s]) fs ((em fns gl c 0 e).step 4 (gl.length:Nat) 0);simp only[Ds,Lw]at this;omega
   ·have:=ih gl fs (em fns gl (nd l c) 0 e);omega
def FnK(N G A L:Nat)(f:Fn):Prop:=(∀i∈f.steps,I1 N G A i)/\f.slots<=A/\f.params<=f.slots/\f.steps.length<=L
def Aig{L:Nat}(hN:fns.length=N)(hNA:N<=A)(hGA:G<=A):∀(c:BT A5),Vd c->CK fns c->∀(gl:List Nm) (fs:List Fn) (e:Em),(Ht fns c gl fs e).globals=G->KI N G A e->vs e+bsize c<=A->e.st.length+2*bsize c<=L->(∀f∈fs,FnK N G A L f)->
  (∀i∈(Ht fns c gl fs e).main,I1 N G A i)/\(Ht fns c gl fs e).slots<=A/\(Ht fns c gl fs e).main.length<=L/\∀f∈(Ht fns c gl fs e).fns,FnK N G A L f:=by
 intro c;induction c with
 | nil=>
  intro _ _ gl fs e _ hk hv hl hf;rw[bsize]at hl;have hva:vs e<=A:=by omega
  exact⟨hk.ok,Fu (A3r e.slots e.loc.length) hva,by show e.st.length<=L;omega,hf⟩
 | node x y l c r _ ih=>
  rintro⟨l1,l2,l3⟩ ⟨c1,c2,c3⟩ gl fs e hG hk hv hl hf;rw[bsize]at hv hl;have hg:gl.length<=G:=by rw[←hG];exact(A0u _ _ _ _).1
  rw[Ht]at hG ⊢;split at hG
  ·rename_i h20;rw[A7 h20];refine ih l3 c3 gl _ e hG hk z4ma z4ma (fun f hff=>?_);rcases Jp.1 hff with q|q
   ·exact hf f q
   ·rw[Lb.1 q];obtain⟨a1,_⟩:=A0x (gl:=gl) hg hGA hN hNA c l2 c2 z4ma;have hk0:KI N G A ⟨l.ps.map Prod.snd,l.ps.length,[],[]⟩:=⟨(fun i q=>by cases q),(fun x q=>by cases q)⟩;have hv0:vs ⟨l.ps.map Prod.snd,l.ps.length,[],[]⟩=l.ps.length:=by unfold vs;simp
    obtain⟨k1,_,k3,k4⟩:=(a1.zero 43 0 (De _) ⟨⟨by omega,rfl⟩,by omega,by omega,by omega⟩) _ hk0 z4ma;have hln:=(Ox fns gl c).1 ⟨l.ps.map Prod.snd,l.ps.length,[],[]⟩;refine⟨k1.ok,?_,k4,?_⟩
    ·have:=A3r ((em fns gl c 0 ⟨l.ps.map Prod.snd,l.ps.length,[],[]⟩).step 43 0 0).slots ((em fns gl c 0 ⟨l.ps.map Prod.snd,l.ps.length,[],[]⟩).step 43 0 0).loc.length;show((em fns gl c 0 ⟨l.ps.map Prod.snd,l.ps.length,[],[]⟩).step 43 0 0).slots<=A;dsimp only at k3;unfold vs at k3 hv0;omega
    ·show((em fns gl c 0 ⟨l.ps.map Prod.snd,l.ps.length,[],[]⟩).step 43 0 0).st.length<=L;rw[Ea];simp only[Jo]at hln;omega
  ·rename_i h20;rw[A1 h20];split at hG
   ·rename_i h21;rw[A7 h21];have Kj:gl.length<G:=by
     have:=(A0u (fns:=fns) r (gl++[l.s]) fs ((em fns gl c 0 e).step 4 (gl.length:Nat) 0)).1;rw[hG]at this;simp at this;omega
    obtain⟨a1,_⟩:=A0x (gl:=gl) hg hGA hN hNA c l2 c2 z4ma;obtain⟨k1,_,k3,_⟩:=(a1.step 4 (fun _=>(gl.length:Nat)) 0 (De _) ⟨by omega,rfl⟩ (.inr (fun _ _=>⟨by omega,by omega,fun q=>by omega,fun _=>by omega⟩))) e hk z4ma;have hln:=(Ox fns gl c).1 e;exact ih l3 c3 _ _ _ hG k1 (by dsimp only at k3;omega) z6fa hf
   ·rename_i h21;rw[A1 h21];obtain⟨a1,_⟩:=A0x (gl:=gl) hg hGA hN hNA (nd l c) ⟨l1,l2,trivial⟩ ⟨c1,c2,trivial⟩ (by rw[Cf];omega);rw[Cf]at a1;obtain⟨k1,_,k3,_⟩:=a1 e hk z4ma;have hln:=(Ox fns gl (nd l c)).1 e;rw[Cf]at hln;exact ih l3 c3 _ _ _ hG k1 z4ma z4ma hf
def A6o{L:Nat}{st:List Aa}(hA:A<=20000)(hL:L<=20000)(hl:st.length<=L)(hi:∀i∈st,I1 N G A i)(hg:Ob st):∀i∈st,Mo N i:=by
 intro i hm;obtain⟨⟨v1,v2,v3⟩,⟨o1,_,_⟩,h⟩:=hi i hm;obtain⟨p,hp⟩:=Zl.1 hm;obtain⟨ls,g1,_,g3⟩:=hg;rcases h with h|⟨h1,h2,h3,_⟩
 ·obtain⟨q1,x,d,_,q2,_⟩:=(g3 p i hp).2 h;obtain⟨q3,_⟩:=K4.1 q2;exact⟨q1,by omega,v1,v2,v3,fun q=>by unfold F2 at h;omega,o1⟩
 ·exact⟨h1,by omega,v1,v2,v3,h3,o1⟩
structure Xg (P : C5) : Prop where
 fit:Tn 4100 P
 fns:P.fns.length<=4002
 globals:P.globals<=4002
 slots:P.slots<=4100
 codes:∃lab:List Aa->List Nat,(Le lab 8100 P.globals []/\∀f∈P.fns,Le lab 8100 P.globals f.steps)/\Le lab 8100 P.globals P.main
def Aox{l:List UInt8}{c:BT A5}(hl:l.length<=2000)(h:Gu l=((0,0),some c)):Xg (Fo c):=by
 obtain⟨hT,hb,hs⟩:=A9z hl h;have hsane:=Tr.Aqt c 4 hT;have hwf:=Tr.wf c 4 hT;have hln:=(Tr.ln c 4 hT).1;have hck:=Q8.ck c [] (A8w c [] [] (0,0) hwf hs).2;have hfew:=Ajk c;have hfl:(Fo c).fns.length=(Cr c).length:=by
  have:=N3 List.length (Aia c);simpa using this
 have hgl:=(A0u (fns:=Cr c) c [] [] ⟨[],0,[],[]⟩).2;obtain⟨m1,m2,m3,m4⟩:=Aig (N:=(Cr c).length) (G:=(Fo c).globals) (A:=4100) (L:=8100) (fns:=Cr c) rfl z4ma (by have:(Fo c).globals<=[].length+bsize c:=hgl;simp at this;omega) c hln hck [] [] ⟨[],0,[],[]⟩ rfl ⟨(fun i q=>by cases q),(fun x q=>by cases q)⟩ (by unfold vs;simp;omega) z4qa (fun f q=>by cases q);obtain⟨g1,g2⟩:=Aib c hsane hwf;have hG:(Fo c).globals<=4002:=by have:(Fo c).globals<=[].length+bsize c:=hgl;simp at this;omega
 refine⟨⟨m2,?_,fun f hf=>?_⟩,by omega,hG,m2,?_⟩
 ·rw[hfl];exact A6o z4ma z4ma m3 m1 g1
 ·rw[hfl];obtain⟨q1,q2,q3,q4⟩:=m4 f hf;exact⟨q2,q3,A6o z4ma z4ma q4 q1 (g2 f hf)⟩
 ·classical
  have hall:∀st:List Aa,Ob st->Zq (if h:Ob st then h.choose else []) st:=fun st h=>by rw[dif_pos h];exact h.choose_spec
  have hnil:Ob []:=⟨[0],rfl,rfl,fun p i q=>by simp at q⟩;have hi:∀st:List Aa,(∀i∈st,I1 (Cr c).length (Fo c).globals 4100 i)->∀j∈st,(j.op=2\/j.op=4->j.arg.toNat<(Fo c).globals)/\P0 j.op=true/\j.line<=5000:=fun st h j hj=>by
   obtain⟨_,⟨_,o2⟩,q⟩:=h j hj;refine⟨fun e=>?_,o2⟩;rcases q with q|q
   ·unfold F2 at q;omega
   ·exact q.2.2.2 e
  refine⟨fun st=>if h:Ob st then h.choose else [],⟨⟨hall _ hnil,by simp,fun j q=>by cases q⟩,fun f hf=>?_⟩,⟨hall _ g1,m3,hi _ m1⟩⟩;obtain⟨q1,_,_,q4⟩:=m4 f hf;exact⟨hall _ (g2 f hf),q4,hi _ q1⟩
def steps:Nat:=2000*8102+8102
def z2ca {P:Prop} (h:P:=by
  refine⟨h2,(fun f q=>by cases q),by simp[mstart,MS.begin,Jc],by simp[mstart,MS.begin],fun l hl=>?_⟩;simp only[mstart,MS.begin,Qv]at hl;rw[hl.2]):P:=h
def Aoy{P:C5}(h:Xg P):∃m',Hi P [] steps (mstart P)=some m'/\T4 P [] steps (mstart P)/\m'.lots.length=P.fns.length/\m'.out.length<=100/\m'.line<=5000:=by
 obtain⟨lab,h1,h2⟩:=h.codes;have hm:Mq lab 8100 P (mstart P):=by
  exact z2ca
 have hp:Iw lab 8100 (mstart P)<steps:=by
  have k:=Yk (L:=8100) (lab:=lab) (mstart P).now (d:=0) h2.1.2.1;have e:Iw lab 8100 (mstart P)=2000*8102+0+G9 lab 8100 (mstart P).now:=rfl;rw[e];have k':G9 lab 8100 (mstart P).now<=0*(8100+1)+(8100-0)+1:=k;unfold steps;omega
 obtain⟨m',r1,r2⟩:=Aqo h1 steps (mstart P) hm (fun _=>hp) (by unfold steps;omega);exact⟨m',r1,A7y h.fit (fun x q=>by cases q) z4ma steps 4100 _ (Vw h.fit) (A7v h1 steps _ hm) (by unfold steps;omega),r2.lotn,(Akv h.fit (fun x q=>by cases q) steps 4100 _ _ (Vw h.fit) r1).elim (fun _ q=>q.out),Aqp h1 steps _ _ hm (by show 0<=5000;omega) r1⟩
end
section
open Go.Deep (BT)
variable {P:C5} {bets:List Cl} {m:MS} {c:List Fr} {st:List Aa} {Lt:List En}
def Amn(hP:PF P)(hb:bets≠[])(Wm:MS->Prop)(hW:∀m,Wm m->∀v∈m.vals,v.k=2->v.t=[])(hs:∀m i,Wm m->m.code=0->m.now.steps[m.now.pc]?=some i->Wm (Ii P [] i m)):∀(k:Nat) (m:MS) (c:List Fr) (st:List Aa) (Lt:List En),Rl P m c st Lt->Wm m->nice P [] k m->nice P bets k (m.sw c st Lt):=by
 intro k;induction k with
 | zero=>intro m c st Lt _ _ _;trivial
 | succ k ih=>
  intro m c st Lt h hw hn hc i' hi';have hc:m.code=0:=hc;have hi':st[m.now.pc]?=some i':=hi';cases hi:m.now.steps[m.now.pc]? with
  | none=>rw[A8m h hc hi]at hi';cases hi'
  | some i=>
   obtain⟨i2,c1,Gt,Io,k1,kg,k2,k3⟩:=A8o (bets:=bets) hP h hc (hW m hw) hi;rw[k1]at hi';cases hi';obtain⟨⟨n1,_⟩,n2⟩:=hn hc i hi;refine⟨⟨fun q=>?_,fun q=>absurd q hb⟩,?_⟩
   ·obtain⟨q1,q2⟩:=kg q;rw[q2];exact n1 (by rw[←q1];exact q)
   ·rw[k2];exact ih _ _ _ _ k3 (hs m i hw hc hi) n2
def Amw{lab:List Aa->List Nat}(h2:Le lab 8100 P.globals P.main):Mq lab 8100 P (mstart P):=by
 exact z2ca
def A8d(hk:Xg P)(hm:∃us,Nq P [] us P.slots P.main)(hab:∀f∈P.fns,∀ps,∃us,Nq P ps us f.slots f.steps)(hbt:∀x∈bets,Ly x):∃r c1 Gt Io,Hi P [] steps (mstart P)=some r/\Hi P bets steps (mstart P)=some (r.sw c1 Gt Io)/\Io.length=P.fns.length/\T4 P bets steps (mstart P)/\r.out.length<=100/\r.line<=5000/\r.lots.length=P.fns.length/\∀l∈r.lots,l.fast=0/\l.drops=0:=by
 obtain⟨r,r1,r2,r3,r4,r5⟩:=Aoy hk;obtain⟨lab,⟨_,h1⟩,h2⟩:=hk.codes;have lo:∀st:List Aa,(∀i∈st,Mo P.fns.length i)->Le lab 8100 P.globals st->∀(p:Nat) (i:Aa),st[p]?=some i->Xd P i:=fun st k1 k2 p i hp=>by
  have hi:=Gl hp;exact⟨(k2.2.2 i hi).2.1,(k1 i hi).2.2.2.2.2.2,(k1 i hi).2.2.2.2.2.1⟩
 have hP:PF P:=⟨fun f hf=>⟨(hk.fit.fns f hf).2.1,lo _ (hk.fit.fns f hf).2.2 (h1 f hf),hab f hf⟩⟩;have hst:=Aqf hm (lo _ hk.fit.main h2);have hW:∀m,(∃k,Inv P.fns.length 4100 k m)->∀v∈m.vals,v.k=2->v.t=[]:=fun m ⟨k,h⟩ v hv=>(h.str v hv).2.2;have hs:∀m i,(∃k,Inv P.fns.length 4100 k m)->m.code=0->m.now.steps[m.now.pc]?=some i->∃k,Inv P.fns.length 4100 k (Ii P [] i m):=fun m i ⟨k,h⟩ _ hi=>⟨_,h.step rfl hk.fit (fun x q=>by cases q) i (Gl hi)⟩;obtain⟨c1,Gt,Io,e1,e2,e3⟩:=Aqe (bets:=bets) hP _ hW hs steps (mstart P) r [] P.main (mstart P).lots hst ⟨_,Vw hk.fit⟩ r1;refine⟨r,c1,Gt,Io,r1,e1,e2,?_,r4,r5,r3,e3⟩;by_cases hb:bets=[]
 ·rw[hb];exact r2
 ·have hn:nice P bets steps (mstart P):=Amn hP hb _ hW hs steps (mstart P) [] P.main (mstart P).lots hst ⟨_,Vw hk.fit⟩ (by
   obtain⟨lab,h1,h2⟩:=hk.codes;exact A7v h1 steps _ (Amw h2))
  exact A7y hk.fit hbt z4ma steps 4100 _ (Vw hk.fit) hn (by unfold steps;omega)
