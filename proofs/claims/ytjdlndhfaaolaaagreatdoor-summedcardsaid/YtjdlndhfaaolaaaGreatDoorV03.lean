import Derived.Test.YtjdlndhfaaolaaaGreatDoorV02
set_option maxHeartbeats 20000000
namespace Go.Proofs.YtjdlndhfaaolaaaGreatDoor
section
open Go.Deep (BT)
def Iv(kd:Nat):Bool:=(decide (1<=kd)&&decide (kd<=14))||(decide (127<=kd)&&decide (kd<=140))
def Q4(kd:Nat):Bool:=kd==21||(decide (24<=kd)&&decide (kd<=30))
def Wf:Nat->BT A6->Prop
 | _,.nil=>True
 | m,.node _ _ l c r=>Wf m r/\(((m=0\/m=2\/m=3)/\Iv l.kd=true/\Wf 0 c)\/(m=2/\l.kd=31/\Wf 1 c)\/(m=3/\l.kd=32/\Wf 1 c)\/
   ((m=1\/m=4)/\l.kd=22/\Wf 2 c)\/((m=1\/m=4)/\l.kd=23/\Wf 3 c)\/((m=1\/m=4)/\Q4 l.kd=true/\Wf 0 c)\/(m=4/\l.kd=20/\Wf 1 c))
theorem Wf.app:∀(m:Nat) (f g:BT A6),Wf m f->Wf m g->Wf m (Bu f g):=by
 intro m f;induction f with
 | nil=>intro g _ h;exact h
 | node x y l c r Dr D8=>intro g h1 h2;exact⟨D8 g h1.1 h2,h1.2⟩
theorem Wf.ex{l:A6}{c:BT A6}(h:Iv l.kd=true)(hc:Wf 0 c):Wf 0 (nd l c):=⟨trivial,.inl ⟨.inl rfl,h,hc⟩⟩
theorem Wf.st{l:A6}{c:BT A6}(h:Q4 l.kd=true)(hc:Wf 0 c):Wf 1 (nd l c):=⟨trivial,.inr (.inr (.inr (.inr (.inr (.inl ⟨.inl rfl,h,hc⟩)))))⟩
theorem Wf.up2:∀(f:BT A6),Wf 0 f->Wf 2 f:=by
 intro f;induction f with
 | nil=>intro _;trivial
 | node x y l c r Dr D8=>
  intro h;refine⟨D8 h.1,?_⟩;rcases h.2 with⟨_,h1,h2⟩|⟨h1,_⟩|⟨h1,_⟩|⟨h1,_⟩|⟨h1,_⟩|⟨h1,_⟩|⟨h1,_⟩
  ·exact .inl ⟨.inr (.inl rfl),h1,h2⟩
  all_goals omega
theorem Wf.up3:∀(f:BT A6),Wf 0 f->Wf 3 f:=by
 intro f;induction f with
 | nil=>intro _;trivial
 | node x y l c r Dr D8=>
  intro h;refine⟨D8 h.1,?_⟩;rcases h.2 with⟨_,h1,h2⟩|⟨h1,_⟩|⟨h1,_⟩|⟨h1,_⟩|⟨h1,_⟩|⟨h1,_⟩|⟨h1,_⟩
  ·exact .inl ⟨.inr (.inr rfl),h1,h2⟩
  all_goals omega
theorem Wf.up4:∀(f:BT A6),Wf 1 f->Wf 4 f:=by
 intro f;induction f with
 | nil=>intro _;trivial
 | node x y l c r Dr D8=>
  intro h;refine⟨D8 h.1,?_⟩;rcases h.2 with⟨h0,_⟩|⟨h0,_⟩|⟨h0,_⟩|⟨_,h1,h2⟩|⟨_,h1,h2⟩|⟨_,h1,h2⟩|⟨h0,_⟩
  ·omega
  ·omega
  ·omega
  ·exact .inr (.inr (.inr (.inl ⟨.inr rfl,h1,h2⟩)))
  ·exact .inr (.inr (.inr (.inr (.inl ⟨.inr rfl,h1,h2⟩))))
  ·exact .inr (.inr (.inr (.inr (.inr (.inl ⟨.inr rfl,h1,h2⟩)))))
  ·omega
theorem Wf.Aey{f:BT A6}(h:Wf 0 f):Wf 0 (Ug f):=by
 cases f with
 | nil=>trivial
 | node x y l c r=>
  rcases h.2 with⟨_,h1,h2⟩|⟨h1,_⟩|⟨h1,_⟩|⟨h1,_⟩|⟨h1,_⟩|⟨h1,_⟩|⟨h1,_⟩
  ·exact h2
  all_goals omega
structure Vm (n : Nat) : Prop where
 expr:∀a s r,Ah n 0 a .nil s=some r->Wf 0 r.1
 loop:∀a acc s r,Wf 0 acc->Ah n 1 a acc s=some r->Wf 0 r.1
 unary:∀s r,Ah n 2 0 .nil s=some r->Wf 0 r.1
 index:∀acc s r,Wf 0 acc->Ah n 3 0 acc s=some r->Wf 0 r.1
 atom:∀s r,Ah n 4 0 .nil s=some r->Wf 0 r.1
 list:∀a s r,Ah n 5 a .nil s=some r->Wf 0 r.1
 more:∀a acc s r,Wf 0 acc->Ah n 6 a acc s=some r->Wf 0 r.1
 block:∀s r,Ah n 7 0 .nil s=some r->Wf 1 r.1
 stmts:∀acc s r,Wf 1 acc->Ah n 8 0 acc s=some r->Wf 1 r.1
 stmt:∀s r,Ah n 9 0 .nil s=some r->Wf 1 r.1
theorem Ajl{k a:Nat}(h:rowOf k=a+1):Iv (100+k)=true:=by
 have:27<=k/\k<=40:=by
  unfold rowOf at h;repeat' split at h
  all_goals omega
 unfold Iv;simp only[Bool.or_eq_true,Bool.and_eq_true,decide_eq_true_eq];omega
theorem Aq3{n:Nat}(ih:Vm n){s:PS}{r:BT A6×PS}(h:Ah (n+1) 4 0 .nil s=some r):Wf 0 r.1:=by
 by_cases c2:kT s=2
 ·rw[A2l c2 h];exact Wf.ex rfl trivial
 by_cases c3:kT s=3
 ·rw[A35 c3 h];exact Wf.ex rfl trivial
 by_cases c13:kT s=13
 ·rw[A36 c13 h];exact Wf.ex rfl trivial
 by_cases c14:kT s=14
 ·rw[A2g c14 h];exact Wf.ex rfl trivial
 by_cases c15:kT s=15
 ·rw[A2v c15 h];exact Wf.ex rfl trivial
 by_cases c1:kT s=1
 ·by_cases c18:kT (As s)=18
  ·obtain⟨x,hx,hr⟩:=A2f c1 c18 h;rw[hr];exact Wf.ex rfl (ih.list _ _ _ hx)
  ·rw[A2s c1 c18 h];exact Wf.ex rfl trivial
 by_cases c18:kT s=18
 ·obtain⟨x,hx,hr⟩:=A2i c18 h;rw[hr];exact Wf.ex rfl (ih.expr _ _ _ hx)
 by_cases c22:kT s=22
 ·obtain⟨x,hx,hr⟩:=A2c c22 h;rw[hr];exact Wf.ex rfl (ih.list _ _ _ hx)
 by_cases c16:kT s=16
 ·obtain⟨x,hx,hr⟩:=A2n c16 h;rw[hr];exact Wf.ex rfl (ih.expr _ _ _ hx)
 by_cases c17:kT s=17
 ·obtain⟨x,y,hx,hy,hr⟩:=A2w c17 h;rw[hr];exact Wf.ex rfl (Wf.app _ _ _ (ih.expr _ _ _ hx) (ih.expr _ _ _ hy))
 rw[Xy c2 c3 c13 c14 c15 c1 c18 c22 c16 c17 h];trivial
theorem z3ra {P:Prop} (h:P:=by
  exact Wf.st rfl (ih.expr _ _ _ hx)):P:=h
theorem Aq5{n:Nat}(ih:Vm n){s:PS}{r:BT A6×PS}(h:Ah (n+1) 9 0 .nil s=some r):Wf 1 r.1:=by
 by_cases c5:kT s=5
 ·obtain⟨x,hx,hr⟩:=A30 c5 h;rw[hr];exact z3ra
 by_cases c6:kT s=6
 ·obtain⟨x,bl,h1,h2,⟨h3,c,h4,e⟩|⟨h3,e⟩⟩:=A2z c6 h
  ·rw[e];refine⟨trivial,.inr (.inr (.inr (.inl ⟨.inl rfl,rfl,Wf.app _ _ _ (Wf.up2 _ (ih.expr _ _ _ h1)) (Wf.app _ _ _ ?_ ?_)⟩)))⟩
   ·exact⟨trivial,.inr (.inl ⟨rfl,rfl,ih.block _ _ h2⟩)⟩
   ·exact⟨trivial,.inr (.inl ⟨rfl,rfl,ih.block _ _ h4⟩)⟩
  ·rw[e];refine⟨trivial,.inr (.inr (.inr (.inl ⟨.inl rfl,rfl,Wf.app _ _ _ (Wf.up2 _ (ih.expr _ _ _ h1)) ?_⟩)))⟩;exact⟨trivial,.inr (.inl ⟨rfl,rfl,ih.block _ _ h2⟩)⟩
 by_cases c8:kT s=8
 ·obtain⟨x,bl,h1,h2,e⟩:=A34 c8 h;rw[e];refine⟨trivial,.inr (.inr (.inr (.inr (.inl ⟨.inl rfl,rfl,Wf.app _ _ _ (Wf.up3 _ (ih.expr _ _ _ h1)) ?_⟩))))⟩;exact⟨trivial,.inr (.inr (.inl ⟨rfl,rfl,ih.block _ _ h2⟩))⟩
 by_cases c9:kT s=9
 ·by_cases c25:kT (As s)=25
  ·rw[A33 c9 c25 h];exact Wf.st rfl trivial
  ·obtain⟨x,hx,hr⟩:=A32 c9 c25 h;rw[hr];exact z3ra
 by_cases c10:kT s=10
 ·rw[A2x c10 h];exact Wf.st rfl trivial
 by_cases c11:kT s=11
 ·rw[A2y c11 h];exact Wf.st rfl trivial
 by_cases c12:kT s=12
 ·obtain⟨x,hx,hr⟩:=A31 c12 h;rw[hr];exact z3ra
 obtain⟨x,hx,⟨_,_,v,hv,e⟩|⟨_,_,v,hv,e⟩|⟨_,e⟩⟩:=Y0 z4va h
 ·rw[e];show Wf 1 (setNode x.1 v.1);unfold setNode;split
  ·exact Wf.st rfl (ih.expr _ _ _ hv)
  ·exact Wf.st rfl (Wf.app _ _ _ (ih.expr _ _ _ hx).Aey (ih.expr _ _ _ hv))
 ·rw[e];exact z3ra
 ·rw[e];exact z3ra
theorem A4x:∀n,Vm n:=by
 intro n;induction n with
 | zero=>exact⟨fun _ _ _ h=>absurd h (Gf _ _ _ _ _),fun _ _ _ _ _ h=>absurd h (Gf _ _ _ _ _),fun _ _ h=>absurd h (Gf _ _ _ _ _),fun _ _ _ _ h=>absurd h (Gf _ _ _ _ _),fun _ _ h=>absurd h (Gf _ _ _ _ _),fun _ _ _ h=>absurd h (Gf _ _ _ _ _),fun _ _ _ _ _ h=>absurd h (Gf _ _ _ _ _),fun _ _ h=>absurd h (Gf _ _ _ _ _),fun _ _ _ _ h=>absurd h (Gf _ _ _ _ _),fun _ _ h=>absurd h (Gf _ _ _ _ _)⟩
 | succ n ih=>
  refine⟨?_,?_,?_,?_,fun s r h=>Aq3 ih h,?_,?_,fun s r h=>ih.stmts .nil _ _ trivial (A2e h),?_,fun s r h=>Aq5 ih h⟩
  ·intro a s r h;by_cases h6:a=6
   ·subst h6;exact ih.unary _ _ (Xw h)
   ·obtain⟨x,h1,h2⟩:=Xv h6 h;exact ih.loop _ _ _ _ (ih.expr _ _ _ h1) h2
  ·intro a acc s r hacc h;by_cases hk:rowOf (kT s)=a+1
   ·obtain⟨z,h1,h2⟩:=A2q hk h;exact ih.loop _ _ _ _ (Wf.ex (Ajl hk) (Wf.app _ _ _ hacc (ih.expr _ _ _ h1))) h2
   ·rw[A2p hk h];exact hacc
  ·intro s r h;by_cases c28:kT s=28
   ·obtain⟨x,h1,e⟩:=A2u c28 h;rw[e];exact Wf.ex rfl (ih.unary _ _ h1)
   by_cases c35:kT s=35
   ·obtain⟨x,h1,e⟩:=A2t c35 h;rw[e];exact Wf.ex rfl (ih.unary _ _ h1)
   obtain⟨x,h1,h2⟩:=Xz c28 c35 h;exact ih.index _ _ _ (ih.atom _ _ h1) h2
  ·intro acc s r hacc h;by_cases c22:kT s=22
   ·obtain⟨z,h1,h2⟩:=A2j c22 h;exact ih.index _ _ _ (Wf.ex rfl (Wf.app _ _ _ hacc (ih.expr _ _ _ h1))) h2
   ·rw[A2k c22 h];exact hacc
  ·intro a s r h;by_cases hk:kT s=a
   ·rw[A2o hk h];trivial
   ·obtain⟨y,h1,h2⟩:=bind_some (Xx hk h);exact ih.more _ _ _ _ (ih.expr _ _ _ h1) h2
  ·intro a acc s r hacc h;by_cases hk:kT s=24
   ·obtain⟨y,h1,h2⟩:=bind_some (A2r hk h);exact ih.more _ _ _ _ (Wf.app _ _ _ hacc (ih.expr _ _ _ h1)) h2
   ·rw[A2m hk h];exact hacc
  ·intro acc s r hacc h;by_cases c21:kT s=21
   ·rw[A2d c21 h];exact hacc
   by_cases hb:s.bad=0
   ·obtain⟨x,h1,h2⟩:=Xu c21 hb h;exact ih.stmts _ _ _ (Wf.app _ _ _ hacc (ih.stmt _ _ h1)) h2
   ·rw[Ah]at h;rw[if_neg z4wa,if_neg z4wa,if_neg z4wa,if_neg z4wa,if_neg z4wa,if_neg z4wa,if_neg z4wa,if_neg z4wa,if_pos rfl,if_neg c21,if_pos hb]at h;rw[←Option.some.inj h];exact hacc
theorem Aq4:∀n acc s r,Wf 4 acc->Ah n 10 0 acc s=some r->Wf 4 r.1:=by
 intro n;induction n with
 | zero=>intro acc s r _ h;exact absurd h (Gf _ _ _ _ _)
 | succ n ih=>
  intro acc s r hacc h;rw[Ah]at h;rw[if_neg z4wa,if_neg z4wa,if_neg z4wa,if_neg z4wa,if_neg z4wa,if_neg z4wa,if_neg z4wa,if_neg z4wa,if_neg z4wa,if_neg z4wa,if_pos rfl]at h;by_cases c0:kT s=0
  ·rw[if_pos c0]at h;rw[←Option.some.inj h];exact hacc
  rw[if_neg c0]at h;by_cases c4:kT s=4
  ·rw[if_pos c4]at h;obtain⟨x,h1,h2⟩:=bind_some h;cases n with
   | zero=>exact absurd h1 (Gf _ _ _ _ _)
   | succ n=>
    obtain⟨p,b,_,h3,e⟩:=A2h h1;refine ih _ _ _ (Wf.app _ _ _ hacc ?_) h2;rw[e];exact⟨trivial,.inr (.inr (.inr (.inr (.inr (.inr ⟨rfl,rfl,(A4x _).block _ _ h3⟩)))))⟩
  ·rw[if_neg c4]at h;obtain⟨x,h1,h2⟩:=bind_some h;exact ih _ _ _ (Wf.app _ _ _ hacc (Wf.up4 _ ((A4x _).stmt _ _ h1))) h2
theorem Ku(fns:List (Nm×Nat)):∀(f:BT A6),Wf 0 f->∀(outer cur:List Nm) (wh:Nat) (inn:Bool) (v:Ct),(Bt fns f outer cur wh inn v).1=cur:=by
 intro f;induction f with
 | nil=>intro _ outer cur wh inn v;rfl
 | node x y l c r Dr D8=>
  intro h outer cur wh inn v;have h1:Iv l.kd=true/\Wf 0 c:=by
   rcases h.2 with⟨_,h1,h2⟩|⟨h1,_⟩|⟨h1,_⟩|⟨h1,_⟩|⟨h1,_⟩|⟨h1,_⟩|⟨h1,_⟩
   ·exact⟨h1,h2⟩
   all_goals omega
  have hk:l.kd≠31/\l.kd≠32/\l.kd≠21:=by
   have:=h1.1;unfold Iv at this;simp only[Bool.or_eq_true,Bool.and_eq_true,decide_eq_true_eq]at this;omega
  rw[Bt,if_neg hk.1,if_neg hk.2.1,if_neg hk.2.2,D8 h.1,Dr h1.2]
theorem Aou(l:List UInt8)(h:l.length<=2000):(∃n,lex (l.length+1) l 1 false=.inl n/\1<=n/\n<=2001)\/∃ts,lex (l.length+1) l 1 false=.inr ts/\ts.length<=2001/\Jl 1 2000 ts:=by
 have hf:=Ag1 (l.length+1) l 1 false;cases hx:lex (l.length+1) l 1 false with
 | inl n=>rw[hx]at hf;obtain⟨k1,k2⟩:=hf;exact .inl ⟨n,rfl,k1,by omega⟩
 | inr ts=>rw[hx]at hf;obtain⟨k1,k2⟩:=hf;exact .inr ⟨ts,rfl,by omega,Jl.weak (Nat.le_refl _) z4va _ k2⟩
structure PV where
 k:Nat
 y:Bool
 n:Int
 t:List UInt8
 r:Option Nat
def Ag:PV:=⟨0,false,0,[],none⟩
structure Ac where
 op:Nat
 arg:Int
 line:Nat
 v:PV
structure Em where
 loc:List Nm
 slots:Nat
 st:List Ac
 lps:List (Nat×List Nat)
def Em.step(o:Nat)(a:Int)(ln:Nat)(e:Em):Em:=⟨e.loc,e.slots,e.st++[⟨o,a,ln,Ag⟩],e.lps⟩
def Em.Jb(v:PV)(e:Em):Em:=⟨e.loc,e.slots,e.st++[⟨0,0,0,v⟩],e.lps⟩
def K4:Nat->Int->List Ac->List Ac
 | _,_,[]=>[]
 | 0,a,i::r=>⟨i.op,a,i.line,i.v⟩::r
 | j+1,a,i::r=>i::K4 j a r
def Em.land(j:Nat)(e:Em):Em:=⟨e.loc,e.slots,K4 j (e.st.length:Nat) e.st,e.lps⟩
def Em.Hx:List Nat->Em->Em
 | [],e=>e
 | j::r,e=>Em.Hx r (e.land j)
def O3(s:Nm):List Nm->Option Nat
 | []=>none
 | x::r=>match O3 s r with
  | some i=>some (i+1)
  | none=>if x=s then some 0 else none
def Nz(s:Nm):List Nm->Option Nat
 | []=>none
 | x::r=>if x=s then some 0 else match Nz s r with
  | some i=>some (i+1)
  | none=>none
def Em.var(gl:List Nm)(s:Nm)(lo gb:Nat)(e:Em):Em:=match O3 s e.loc with
 | some i=>e.step lo (i:Nat) 0
 | none=>match Nz s gl with
  | some i=>e.step gb (i:Nat) 0
  | none=>e
def O0(fns:List (Nm×Nat))(s:Nm):Int:=match Nz s (fns.map Prod.fst) with
 | some i=>(i:Nat)
 | none=>-1
def binOp(s:Nat):Nat:=
 if s=40 then 10 else if s=39 then 9 else if s=27 then 25 else if s=29 then 26 else if s=30 then 29 else if s=31 then 31 else if s=32 then 28
 else if s=33 then 30 else if s=34 then 12 else if s=35 then 15 else if s=36 then 17 else if s=37 then 19 else 21
def Em.L6(e:Em):Em:=match e.lps with
 | []=>e
 | (s,bs)::r=>⟨e.loc,e.slots,e.st++[⟨6,0,0,Ag⟩],(s,bs++[e.st.length])::r⟩
def Em.cnt(e:Em):Em:=match e.lps with
 | []=>e
 | (s,_)::_=>e.step 6 (s:Nat) 0
def Em.local'(s:Nm)(e:Em):Em:=⟨e.loc++[s],max e.slots (e.loc.length+1),e.st,e.lps⟩
def Em.cut(n:Nat)(e:Em):Em:=⟨e.loc.take n,e.slots,e.st,e.lps⟩
def Em.open'(e:Em):Em:=⟨e.loc,e.slots,e.st,(e.st.length,[])::e.lps⟩
def Em.close(e:Em):Em:=⟨e.loc,e.slots,e.st,e.lps.tail⟩
def Em.Tv(e:Em):List Nat:=match e.lps with
 | []=>[]
 | (_,bs)::_=>bs
def Lm(line n:Nat)(k:Nat->Em->Em)(e:Em):Em:=
 let a:=k 1 e
 let b:=k 2 (a.step 8 0 line)
 let d:=(b.step 6 0 0).land a.st.length
 (if n=3 then k 3 d else d).land b.st.length
def Ln(line:Nat)(k:Nat->Em->Em)(e:Em):Em:=
 let a:=k 1 e.open'
 let b:=k 2 (a.step 7 0 line)
 let d:=(b.step 6 (e.st.length:Nat) 0).land a.st.length
 (d.Hx d.Tv).close
def N2(o line:Nat)(k:Nat->Em->Em)(e:Em):Em:=
 let a:=k 1 e
 let b:=k 2 (a.step o 0 line)
 (b.step 11 0 line).land a.st.length
def Ar(fns:List (Nm×Nat))(gl:List Nm)(l:A6)(n:Nat)(k:Nat->Em->Em)(e:Em):Em:=
 match l.kd with
 | 1=>e.Jb ⟨2,false,l.n,[],none⟩
 | 2=>e.Jb ⟨3,false,0,l.s,none⟩
 | 3=>e.Jb ⟨1,true,0,[],none⟩
 | 4=>e.Jb ⟨1,false,0,[],none⟩
 | 5=>e.Jb Ag
 | 6=>e.var gl l.s 1 2
 | 7=>(k 0 e).step 42 (O0 fns l.s) l.line
 | 8=>k 0 e
 | 9=>(k 0 e).step 36 (n:Nat) l.line
 | 10=>(k 0 e).step 37 0 l.line
 | 11=>(k 0 e).step 38 0 l.line
 | 12=>(k 0 e).step 39 0 l.line
 | 13=>(k 0 e).step 27 0 l.line
 | 14=>(k 0 e).step 23 0 l.line
 | 21=>((k 0 e).local' l.s).step 3 ((k 0 e).loc.length:Nat) 0
 | 22=>Lm l.line n k e
 | 23=>Ln l.line k e
 | 24=>if n=0 then e.step 43 0 0 else(k 0 e).step 44 0 0
 | 25=>e.L6
 | 26=>e.cnt
 | 27=>(k 0 e).step 41 0 l.line
 | 28=>(k 0 e).var gl l.s 3 4
 | 29=>(k 0 e).step 40 0 l.line
 | 30=>(k 0 e).step 5 0 0
 | 31=>(k 0 e).cut e.loc.length
 | 32=>(k 0 e).cut e.loc.length
 | kd=>if kd=139\/kd=140 then N2 (binOp (kd-100)) l.line k e else(k 0 e).step (binOp (kd-100)) 0 l.line
def em(fns:List (Nm×Nat))(gl:List Nm):BT A6->Nat->Em->Em
 | .nil,_,e=>e
 | .node _ _ l c r,m,e=>
  if 2<=m then em fns gl r (m-1) e
  else if m=1 then Ar fns gl l (Ax c) (fun m' e'=>em fns gl c m' e') e
  else em fns gl r 0 (Ar fns gl l (Ax c) (fun m' e'=>em fns gl c m' e') e)
structure Fn where
 name:Nm
 params:Nat
 slots:Nat
 steps:List Ac
structure D7 where
 globals:Nat
 slots:Nat
 main:List Ac
 fns:List Fn
def N3(fns:List (Nm×Nat))(gl:List Nm)(l:A6)(c:BT A6):Fn:=
 let e:=(em fns gl c 0 ⟨l.ps.map Prod.snd,l.ps.length,[],[]⟩).step 43 0 0
 ⟨l.s,l.ps.length,e.slots,e.st⟩
def Jv(fns:List (Nm×Nat)):BT A6->List Nm->List Fn->Em->D7
 | .nil,gl,fs,e=>⟨gl.length,e.slots,e.st,fs⟩
 | .node _ _ l c r,gl,fs,e=>
  if l.kd=20 then Jv fns r gl (fs++[N3 fns gl l c]) e
  else if l.kd=21 then Jv fns r (gl++[l.s]) fs ((em fns gl c 0 e).step 4 (gl.length:Nat) 0)
  else Jv fns r gl fs (em fns gl (nd l c) 0 e)
def Ny(c:BT A6):D7:=Jv (Cr c) c [] [] ⟨[],0,[],[]⟩
theorem Qn(fns:List (Nm×Nat))(gl:List Nm)(x y:Nat)(l:A6)(c r:BT A6)(e:Em):em fns gl (.node x y l c r) 1 e=Ar fns gl l (Ax c) (em fns gl c) e:=rfl
theorem Ii(fns:List (Nm×Nat))(gl:List Nm)(x y:Nat)(l:A6)(c r:BT A6)(e:Em):em fns gl (.node x y l c r) 0 e=em fns gl r 0 (Ar fns gl l (Ax c) (em fns gl c) e):=rfl
theorem A0d(fns:List (Nm×Nat))(gl:List Nm)(l:A6)(c:BT A6)(e:Em):em fns gl (nd l c) 0 e=Ar fns gl l (Ax c) (em fns gl c) e:=rfl
theorem U9(fns:List (Nm×Nat))(gl:List Nm)(x y:Nat)(l:A6)(c r:BT A6)(e:Em):em fns gl (.node x y l c r) 2 e=em fns gl r 1 e:=rfl
theorem Acj(fns:List (Nm×Nat))(gl:List Nm)(x y:Nat)(l:A6)(c r:BT A6)(e:Em):em fns gl (.node x y l c r) 3 e=em fns gl r 2 e:=rfl
end
end Go.Proofs.YtjdlndhfaaolaaaGreatDoor
