import Derived.Test.YtjdlndhfaaolaaaGreatDoorT02
set_option maxHeartbeats 20000000
namespace Go.Proofs.YtjdlndhfaaolaaaGreatDoor
section
open Go.Deep (BT)
theorem X4{p:Prop}[Decidable p]{a b m:Nat}(ha:a<=m)(hb:b<=m):(if p then a else b)<=m:=by
 split
 ·exact ha
 ·exact hb
theorem z48a {P:Prop} (h:P:=by
  repeat refine X4 z52a ?_
  exact Nat.zero_le _):P:=h
theorem Apz(l:List UInt8):Ln l<=17:=by
 unfold Ln;exact z48a
theorem Alq(c d:UInt8):Ka c d<=40:=by
 unfold Ka;exact z48a
theorem A3r(c:UInt8):Ip c<=40:=by
 unfold Ip;exact z48a
theorem z2la {P:Prop} (h:P:=by
  split
  ·rename_i h1;rw[if_pos h1]at h;exact absurd rfl h
  ·rename_i h1;have:=A3r c;have h2:Ip c≠0:=fun e=>h1 (by rw[e];rfl);exact⟨by show 1<=Ip c;omega,this⟩):P:=h
theorem A3t(l:List UInt8)(h:(Gn l).2≠0):1<=(Gn l).1/\(Gn l).1<=40:=by
 unfold Gn at h ⊢;split
 ·exact absurd rfl h
 ·rename_i c;simp only at h;exact z2la
 ·rename_i c d r;simp only at h;split
  ·rename_i h1;have:=Alq c d;have h2:Ka c d≠0:=by simpa using h1
   exact⟨by show 1<=Ka c d;omega,this⟩
  ·rename_i h0;rw[if_neg h0]at h;exact z2la
theorem V1(c:UInt8)(r:List UInt8)(t:Tk)(n:Nat)(h:F7 (c::r)=some (t,n)):1<=t.k/\t.k<=40/\1<=n:=by
 rw[F7]at h;split at h
 ·rename_i hd;split at h
  ·injection h with h;injection h with h1 h2;subst h1 h2;refine⟨by simp,by simp,?_⟩;rw[List.takeWhile_cons,if_pos hd];simp
  ·cases h
 ·split at h
  ·rename_i hl;have hn:Ec c=true:=by unfold Ec;rw[hl];rfl
   split at h
   ·rename_i hw;injection h with h;injection h with h1 h2;subst h1 h2;have:=Apz ((c::r).takeWhile Ec);have Fo:Ln ((c::r).takeWhile Ec)≠0:=by simpa using hw
    refine⟨by show 1<=Ln _;omega,by show Ln _<=40;omega,?_⟩;rw[List.takeWhile_cons,if_pos hn];simp
   ·split at h
    ·injection h with h;injection h with h1 h2;subst h1 h2;refine⟨by simp,by simp,?_⟩;rw[List.takeWhile_cons,if_pos hn];simp
    ·cases h
  ·split at h
   ·split at h
    ·injection h with h;injection h with h1 h2;subst h1 h2;exact⟨by simp,by simp,by omega⟩
    ·cases h
   ·split at h
    ·cases h
    ·rename_i h0;injection h with h;injection h with h1 h2;subst h1 h2;have hz:(Gn (c::r)).2≠0:=fun e=>h0 (by rw[e];rfl);exact⟨(A3t _ hz).1,(A3t _ hz).2,by omega⟩
def Jj(line:Nat)(m:Nat):List Tk->Prop
 | []=>False
 | x::r=>line<=x.line/\x.line<=line+m/\x.k<=40/\((x.k=0/\r=[])\/(x.k≠0/\Jj line m r))
theorem Jj.weak{a b m k:Nat}(h1:b<=a)(h2:a+m<=b+k):∀ts,Jj a m ts->Jj b k ts:=by
 intro ts;induction ts with
 | nil=>intro h;exact h
 | cons x r ih=>
  rintro⟨k1,k2,k3,k4⟩;refine⟨by omega,by omega,k3,?_⟩;rcases k4 with h|⟨h,h'⟩
  ·exact .inl h
  ·exact .inr ⟨h,ih h'⟩
def R4(line m:Nat):Nat ⊕ List Tk->Prop
 | .inl n=>line<=n/\n<=line+m
 | .inr ts=>ts.length<=m+1/\Jj line m ts
theorem R4.weak{a b m k:Nat}{x:Nat ⊕ List Tk}(h:R4 a m x)(h1:b<=a)(h2:a+m<=b+k)(h3:m<=k):R4 b k x:=by
 cases x with
 | inl n=>obtain⟨k1,k2⟩:=h;exact⟨by omega,by omega⟩
 | inr ts=>obtain⟨k1,k2⟩:=h;exact⟨by omega,Jj.weak h1 h2 _ k2⟩
theorem Afp:∀(f:Nat) (l:List UInt8) (line:Nat) (said:Bool),R4 line l.length (lex f l line said):=by
 intro f;induction f with
 | zero=>intro l line said;rw[lex];exact⟨Nat.le_refl _,by omega⟩
 | succ f ih=>
  intro l line said;cases l with
  | nil=>rw[lex];exact⟨by simp,Nat.le_refl _,by simp,by simp,.inl ⟨rfl,rfl⟩⟩
  | cons c r=>
   rw[lex,List.length_cons];split
   ·exact(ih r (line+1) false).weak z51a z51a z51a
   ·split
    ·exact⟨Nat.le_refl _,by omega⟩
    ·split
     ·exact(ih r line _).weak z51a z51a z51a
     ·cases ht:F7 (c::r) with
      | none=>exact⟨Nat.le_refl _,by omega⟩
      | some p=>
       obtain⟨t,n⟩:=p;obtain⟨k1,k2,k3⟩:=V1 c r t n ht;have:=ih ((c::r).drop n) line false;have hl:((c::r).drop n).length<=r.length:=by rw[List.length_drop,List.length_cons];omega
       show R4 line (r.length+1) (match lex f ((c::r).drop n) line false with
        | .inl l=>.inl l
        | .inr ts=>.inr ({ t with line:=line }::ts))
       cases hx:lex f ((c::r).drop n) line false with
       | inl m=>rw[hx]at this;obtain⟨j1,j2⟩:=this;exact⟨by omega,by omega⟩
       | inr ts=>
        rw[hx]at this;obtain⟨j1,j2⟩:=this;exact⟨by rw[List.length_cons];omega,Nat.le_refl _,by show line<=_;omega,k2,.inr ⟨by show t.k≠0;omega,Jj.weak z51a z51a _ j2⟩⟩
theorem Jj.last{line m:Nat}:∀ts,Jj line m ts->∀i (h:i<ts.length),ts[i].k=0↔i+1=ts.length:=by
 intro ts;induction ts with
 | nil=>intro h;exact absurd h id
 | cons x r ih=>
  rintro⟨_,_,_,k4⟩ i hi;rcases k4 with⟨h,rfl⟩|⟨h,h2⟩
  ·simp only[List.length_cons,List.length_nil]at hi ⊢;obtain rfl:i=0:=by omega
   simp[h]
  ·cases i with
   | zero=>
    have:r≠[]:=by rintro rfl;exact h2
    have:0<r.length:=List.length_pos_iff.mpr this;simp only[List.getElem_cons_zero,List.length_cons];omega
   | succ i=>
    simp only[List.getElem_cons_succ,List.length_cons]at hi ⊢;have:=ih h2 i z51a;omega
theorem Jj.mem{line m:Nat}:∀ts,Jj line m ts->∀t∈ts,line<=t.line/\t.line<=line+m/\t.k<=40:=by
 intro ts;induction ts with
 | nil=>intro _ t ht;cases ht
 | cons x r ih=>
  rintro⟨k1,k2,k3,k4⟩ t ht;rcases List.mem_cons.mp ht with rfl|ht
  ·exact⟨k1,k2,k3⟩
  ·rcases k4 with⟨_,rfl⟩|⟨_,h2⟩
   ·cases ht
   ·exact ih h2 t ht
def It(kd:Nat):Bool:=(decide (1<=kd)&&decide (kd<=14))||(decide (127<=kd)&&decide (kd<=140))
def Po(kd:Nat):Bool:=kd==21||(decide (24<=kd)&&decide (kd<=30))
def Wf:Nat->BT A6->Prop
 | _,.nil=>True
 | m,.node _ _ l c r=>Wf m r/\(((m=0\/m=2\/m=3)/\It l.kd=true/\Wf 0 c)\/(m=2/\l.kd=31/\Wf 1 c)\/(m=3/\l.kd=32/\Wf 1 c)\/
   ((m=1\/m=4)/\l.kd=22/\Wf 2 c)\/((m=1\/m=4)/\l.kd=23/\Wf 3 c)\/((m=1\/m=4)/\Po l.kd=true/\Wf 0 c)\/(m=4/\l.kd=20/\Wf 1 c))
theorem Wf.app:∀(m:Nat) (f g:BT A6),Wf m f->Wf m g->Wf m (C4 f g):=by
 intro m f;induction f with
 | nil=>intro g _ h;exact h
 | node x y l c r Ds D9=>intro g h1 h2;exact⟨D9 g h1.1 h2,h1.2⟩
theorem Wf.ex{l:A6}{c:BT A6}(h:It l.kd=true)(hc:Wf 0 c):Wf 0 (nd l c):=⟨trivial,.inl ⟨.inl rfl,h,hc⟩⟩
theorem Wf.st{l:A6}{c:BT A6}(h:Po l.kd=true)(hc:Wf 0 c):Wf 1 (nd l c):=⟨trivial,.inr (.inr (.inr (.inr (.inr (.inl ⟨.inl rfl,h,hc⟩)))))⟩
theorem Wf.up2:∀(f:BT A6),Wf 0 f->Wf 2 f:=by
 intro f;induction f with
 | nil=>intro _;trivial
 | node x y l c r Ds D9=>
  intro h;refine⟨D9 h.1,?_⟩;rcases h.2 with⟨_,h1,h2⟩|⟨h1,_⟩|⟨h1,_⟩|⟨h1,_⟩|⟨h1,_⟩|⟨h1,_⟩|⟨h1,_⟩
  ·exact .inl ⟨.inr (.inl rfl),h1,h2⟩
  all_goals omega
theorem Wf.up3:∀(f:BT A6),Wf 0 f->Wf 3 f:=by
 intro f;induction f with
 | nil=>intro _;trivial
 | node x y l c r Ds D9=>
  intro h;refine⟨D9 h.1,?_⟩;rcases h.2 with⟨_,h1,h2⟩|⟨h1,_⟩|⟨h1,_⟩|⟨h1,_⟩|⟨h1,_⟩|⟨h1,_⟩|⟨h1,_⟩
  ·exact .inl ⟨.inr (.inr rfl),h1,h2⟩
  all_goals omega
theorem Wf.up4:∀(f:BT A6),Wf 1 f->Wf 4 f:=by
 intro f;induction f with
 | nil=>intro _;trivial
 | node x y l c r Ds D9=>
  intro h;refine⟨D9 h.1,?_⟩;rcases h.2 with⟨h0,_⟩|⟨h0,_⟩|⟨h0,_⟩|⟨_,h1,h2⟩|⟨_,h1,h2⟩|⟨_,h1,h2⟩|⟨h0,_⟩
  ·omega
  ·omega
  ·omega
  ·exact .inr (.inr (.inr (.inl ⟨.inr rfl,h1,h2⟩)))
  ·exact .inr (.inr (.inr (.inr (.inl ⟨.inr rfl,h1,h2⟩))))
  ·exact .inr (.inr (.inr (.inr (.inr (.inl ⟨.inr rfl,h1,h2⟩)))))
  ·omega
theorem Wf.Aek{f:BT A6}(h:Wf 0 f):Wf 0 (X6 f):=by
 cases f with
 | nil=>trivial
 | node x y l c r=>
  rcases h.2 with⟨_,h1,h2⟩|⟨h1,_⟩|⟨h1,_⟩|⟨h1,_⟩|⟨h1,_⟩|⟨h1,_⟩|⟨h1,_⟩
  ·exact h2
  all_goals omega
structure Vd (n : Nat) : Prop where
 expr:∀a s r,Ai n 0 a .nil s=some r->Wf 0 r.1
 loop:∀a acc s r,Wf 0 acc->Ai n 1 a acc s=some r->Wf 0 r.1
 unary:∀s r,Ai n 2 0 .nil s=some r->Wf 0 r.1
 index:∀acc s r,Wf 0 acc->Ai n 3 0 acc s=some r->Wf 0 r.1
 atom:∀s r,Ai n 4 0 .nil s=some r->Wf 0 r.1
 list:∀a s r,Ai n 5 a .nil s=some r->Wf 0 r.1
 more:∀a acc s r,Wf 0 acc->Ai n 6 a acc s=some r->Wf 0 r.1
 block:∀s r,Ai n 7 0 .nil s=some r->Wf 1 r.1
 stmts:∀acc s r,Wf 1 acc->Ai n 8 0 acc s=some r->Wf 1 r.1
 stmt:∀s r,Ai n 9 0 .nil s=some r->Wf 1 r.1
theorem Aj7{k a:Nat}(h:rowOf k=a+1):It (100+k)=true:=by
 have:27<=k/\k<=40:=by
  unfold rowOf at h;repeat' split at h
  all_goals omega
 unfold It;simp only[Bool.or_eq_true,Bool.and_eq_true,decide_eq_true_eq];omega
theorem Apn{n:Nat}(ih:Vd n){s:PS}{r:BT A6×PS}(h:Ai (n+1) 4 0 .nil s=some r):Wf 0 r.1:=by
 by_cases c2:kT s=2
 ·rw[A2b c2 h];exact Wf.ex rfl trivial
 by_cases c3:kT s=3
 ·rw[A2v c3 h];exact Wf.ex rfl trivial
 by_cases c13:kT s=13
 ·rw[A2w c13 h];exact Wf.ex rfl trivial
 by_cases c14:kT s=14
 ·rw[A26 c14 h];exact Wf.ex rfl trivial
 by_cases c15:kT s=15
 ·rw[A2l c15 h];exact Wf.ex rfl trivial
 by_cases c1:kT s=1
 ·by_cases c18:kT (At s)=18
  ·obtain⟨x,hx,hr⟩:=A25 c1 c18 h;rw[hr];exact Wf.ex rfl (ih.list _ _ _ hx)
  ·rw[A2i c1 c18 h];exact Wf.ex rfl trivial
 by_cases c18:kT s=18
 ·obtain⟨x,hx,hr⟩:=A28 c18 h;rw[hr];exact Wf.ex rfl (ih.expr _ _ _ hx)
 by_cases c22:kT s=22
 ·obtain⟨x,hx,hr⟩:=A22 c22 h;rw[hr];exact Wf.ex rfl (ih.list _ _ _ hx)
 by_cases c16:kT s=16
 ·obtain⟨x,hx,hr⟩:=A2d c16 h;rw[hr];exact Wf.ex rfl (ih.expr _ _ _ hx)
 by_cases c17:kT s=17
 ·obtain⟨x,y,hx,hy,hr⟩:=A2m c17 h;rw[hr];exact Wf.ex rfl (Wf.app _ _ _ (ih.expr _ _ _ hx) (ih.expr _ _ _ hy))
 rw[Xm c2 c3 c13 c14 c15 c1 c18 c22 c16 c17 h];trivial
theorem z3ta {P:Prop} (h:P:=by
  exact Wf.st rfl (ih.expr _ _ _ hx)):P:=h
theorem Apq{n:Nat}(ih:Vd n){s:PS}{r:BT A6×PS}(h:Ai (n+1) 9 0 .nil s=some r):Wf 1 r.1:=by
 by_cases c5:kT s=5
 ·obtain⟨x,hx,hr⟩:=A2q c5 h;rw[hr];exact z3ta
 by_cases c6:kT s=6
 ·obtain⟨x,bl,h1,h2,⟨h3,c,h4,e⟩|⟨h3,e⟩⟩:=A2p c6 h
  ·rw[e];refine⟨trivial,.inr (.inr (.inr (.inl ⟨.inl rfl,rfl,Wf.app _ _ _ (Wf.up2 _ (ih.expr _ _ _ h1)) (Wf.app _ _ _ ?_ ?_)⟩)))⟩
   ·exact⟨trivial,.inr (.inl ⟨rfl,rfl,ih.block _ _ h2⟩)⟩
   ·exact⟨trivial,.inr (.inl ⟨rfl,rfl,ih.block _ _ h4⟩)⟩
  ·rw[e];refine⟨trivial,.inr (.inr (.inr (.inl ⟨.inl rfl,rfl,Wf.app _ _ _ (Wf.up2 _ (ih.expr _ _ _ h1)) ?_⟩)))⟩;exact⟨trivial,.inr (.inl ⟨rfl,rfl,ih.block _ _ h2⟩)⟩
 by_cases c8:kT s=8
 ·obtain⟨x,bl,h1,h2,e⟩:=A2u c8 h;rw[e];refine⟨trivial,.inr (.inr (.inr (.inr (.inl ⟨.inl rfl,rfl,Wf.app _ _ _ (Wf.up3 _ (ih.expr _ _ _ h1)) ?_⟩))))⟩;exact⟨trivial,.inr (.inr (.inl ⟨rfl,rfl,ih.block _ _ h2⟩))⟩
 by_cases c9:kT s=9
 ·by_cases c25:kT (At s)=25
  ·rw[A2t c9 c25 h];exact Wf.st rfl trivial
  ·obtain⟨x,hx,hr⟩:=A2s c9 c25 h;rw[hr];exact z3ta
 by_cases c10:kT s=10
 ·rw[A2n c10 h];exact Wf.st rfl trivial
 by_cases c11:kT s=11
 ·rw[A2o c11 h];exact Wf.st rfl trivial
 by_cases c12:kT s=12
 ·obtain⟨x,hx,hr⟩:=A2r c12 h;rw[hr];exact z3ta
 obtain⟨x,hx,⟨_,_,v,hv,e⟩|⟨_,_,v,hv,e⟩|⟨_,e⟩⟩:=Xo z51a h
 ·rw[e];show Wf 1 (setNode x.1 v.1);unfold setNode;split
  ·exact Wf.st rfl (ih.expr _ _ _ hv)
  ·exact Wf.st rfl (Wf.app _ _ _ (ih.expr _ _ _ hx).Aek (ih.expr _ _ _ hv))
 ·rw[e];exact z3ta
 ·rw[e];exact z3ta
theorem A4s:∀n,Vd n:=by
 intro n;induction n with
 | zero=>exact⟨fun _ _ _ h=>absurd h (Gg _ _ _ _ _),fun _ _ _ _ _ h=>absurd h (Gg _ _ _ _ _),fun _ _ h=>absurd h (Gg _ _ _ _ _),fun _ _ _ _ h=>absurd h (Gg _ _ _ _ _),fun _ _ h=>absurd h (Gg _ _ _ _ _),fun _ _ _ h=>absurd h (Gg _ _ _ _ _),fun _ _ _ _ _ h=>absurd h (Gg _ _ _ _ _),fun _ _ h=>absurd h (Gg _ _ _ _ _),fun _ _ _ _ h=>absurd h (Gg _ _ _ _ _),fun _ _ h=>absurd h (Gg _ _ _ _ _)⟩
 | succ n ih=>
  refine⟨?_,?_,?_,?_,fun s r h=>Apn ih h,?_,?_,fun s r h=>ih.stmts .nil _ _ trivial (A24 h),?_,fun s r h=>Apq ih h⟩
  ·intro a s r h;by_cases h6:a=6
   ·subst h6;exact ih.unary _ _ (Xk h)
   ·obtain⟨x,h1,h2⟩:=Xj h6 h;exact ih.loop _ _ _ _ (ih.expr _ _ _ h1) h2
  ·intro a acc s r hacc h;by_cases hk:rowOf (kT s)=a+1
   ·obtain⟨z,h1,h2⟩:=A2g hk h;exact ih.loop _ _ _ _ (Wf.ex (Aj7 hk) (Wf.app _ _ _ hacc (ih.expr _ _ _ h1))) h2
   ·rw[A2f hk h];exact hacc
  ·intro s r h;by_cases c28:kT s=28
   ·obtain⟨x,h1,e⟩:=A2k c28 h;rw[e];exact Wf.ex rfl (ih.unary _ _ h1)
   by_cases c35:kT s=35
   ·obtain⟨x,h1,e⟩:=A2j c35 h;rw[e];exact Wf.ex rfl (ih.unary _ _ h1)
   obtain⟨x,h1,h2⟩:=Xn c28 c35 h;exact ih.index _ _ _ (ih.atom _ _ h1) h2
  ·intro acc s r hacc h;by_cases c22:kT s=22
   ·obtain⟨z,h1,h2⟩:=A29 c22 h;exact ih.index _ _ _ (Wf.ex rfl (Wf.app _ _ _ hacc (ih.expr _ _ _ h1))) h2
   ·rw[A2a c22 h];exact hacc
  ·intro a s r h;by_cases hk:kT s=a
   ·rw[A2e hk h];trivial
   ·obtain⟨y,h1,h2⟩:=bind_some (Xl hk h);exact ih.more _ _ _ _ (ih.expr _ _ _ h1) h2
  ·intro a acc s r hacc h;by_cases hk:kT s=24
   ·obtain⟨y,h1,h2⟩:=bind_some (A2h hk h);exact ih.more _ _ _ _ (Wf.app _ _ _ hacc (ih.expr _ _ _ h1)) h2
   ·rw[A2c hk h];exact hacc
  ·intro acc s r hacc h;by_cases c21:kT s=21
   ·rw[A23 c21 h];exact hacc
   by_cases hb:s.bad=0
   ·obtain⟨x,h1,h2⟩:=Xi c21 hb h;exact ih.stmts _ _ _ (Wf.app _ _ _ hacc (ih.stmt _ _ h1)) h2
   ·rw[Ai]at h;rw[if_neg z52a,if_neg z52a,if_neg z52a,if_neg z52a,if_neg z52a,if_neg z52a,if_neg z52a,if_neg z52a,if_pos rfl,if_neg c21,if_pos hb]at h;rw[←Option.some.inj h];exact hacc
theorem Apo:∀n acc s r,Wf 4 acc->Ai n 10 0 acc s=some r->Wf 4 r.1:=by
 intro n;induction n with
 | zero=>intro acc s r _ h;exact absurd h (Gg _ _ _ _ _)
 | succ n ih=>
  intro acc s r hacc h;rw[Ai]at h;rw[if_neg z52a,if_neg z52a,if_neg z52a,if_neg z52a,if_neg z52a,if_neg z52a,if_neg z52a,if_neg z52a,if_neg z52a,if_neg z52a,if_pos rfl]at h;by_cases c0:kT s=0
  ·rw[if_pos c0]at h;rw[←Option.some.inj h];exact hacc
  rw[if_neg c0]at h;by_cases c4:kT s=4
  ·rw[if_pos c4]at h;obtain⟨x,h1,h2⟩:=bind_some h;cases n with
   | zero=>exact absurd h1 (Gg _ _ _ _ _)
   | succ n=>
    obtain⟨p,b,_,h3,e⟩:=A27 h1;refine ih _ _ _ (Wf.app _ _ _ hacc ?_) h2;rw[e];exact⟨trivial,.inr (.inr (.inr (.inr (.inr (.inr ⟨rfl,rfl,(A4s _).block _ _ h3⟩)))))⟩
  ·rw[if_neg c4]at h;obtain⟨x,h1,h2⟩:=bind_some h;exact ih _ _ _ (Wf.app _ _ _ hacc (Wf.up4 _ ((A4s _).stmt _ _ h1))) h2
theorem Kj(fns:List (Nm×Nat)):∀(f:BT A6),Wf 0 f->∀(outer cur:List Nm) (wh:Nat) (inn:Bool) (v:Cw),(By fns f outer cur wh inn v).1=cur:=by
 intro f;induction f with
 | nil=>intro _ outer cur wh inn v;rfl
 | node x y l c r Ds D9=>
  intro h outer cur wh inn v;have h1:It l.kd=true/\Wf 0 c:=by
   rcases h.2 with⟨_,h1,h2⟩|⟨h1,_⟩|⟨h1,_⟩|⟨h1,_⟩|⟨h1,_⟩|⟨h1,_⟩|⟨h1,_⟩
   ·exact⟨h1,h2⟩
   all_goals omega
  have hk:l.kd≠31/\l.kd≠32/\l.kd≠21:=by
   have:=h1.1;unfold It at this;simp only[Bool.or_eq_true,Bool.and_eq_true,decide_eq_true_eq]at this;omega
  rw[By,if_neg hk.1,if_neg hk.2.1,if_neg hk.2.2,D9 h.1,Ds h1.2]
theorem Aor(l:List UInt8)(h:l.length<=2000):(∃n,lex (l.length+1) l 1 false=.inl n/\1<=n/\n<=2001)\/∃ts,lex (l.length+1) l 1 false=.inr ts/\ts.length<=2001/\Jj 1 2000 ts:=by
 have hf:=Afp (l.length+1) l 1 false;cases hx:lex (l.length+1) l 1 false with
 | inl n=>rw[hx]at hf;obtain⟨k1,k2⟩:=hf;exact .inl ⟨n,rfl,k1,by omega⟩
 | inr ts=>rw[hx]at hf;obtain⟨k1,k2⟩:=hf;exact .inr ⟨ts,rfl,by omega,Jj.weak (Nat.le_refl _) z51a _ k2⟩
structure PV where
 k:Nat
 y:Bool
 n:Int
 t:List UInt8
 r:Option Nat
def Ab:PV:=⟨0,false,0,[],none⟩
structure Af where
 op:Nat
 arg:Int
 line:Nat
 v:PV
structure Em where
 loc:List Nm
 slots:Nat
 st:List Af
 lps:List (Nat×List Nat)
def Em.step(o:Nat)(a:Int)(ln:Nat)(e:Em):Em:=⟨e.loc,e.slots,e.st++[⟨o,a,ln,Ab⟩],e.lps⟩
def Em.Ja(v:PV)(e:Em):Em:=⟨e.loc,e.slots,e.st++[⟨0,0,0,v⟩],e.lps⟩
def M8:Nat->Int->List Af->List Af
 | _,_,[]=>[]
 | 0,a,i::r=>⟨i.op,a,i.line,i.v⟩::r
 | j+1,a,i::r=>i::M8 j a r
def Em.land(j:Nat)(e:Em):Em:=⟨e.loc,e.slots,M8 j (e.st.length:Nat) e.st,e.lps⟩
def Em.Hv:List Nat->Em->Em
 | [],e=>e
 | j::r,e=>Em.Hv r (e.land j)
def Nt(s:Nm):List Nm->Option Nat
 | []=>none
 | x::r=>match Nt s r with
  | some i=>some (i+1)
  | none=>if x=s then some 0 else none
def Nq(s:Nm):List Nm->Option Nat
 | []=>none
 | x::r=>if x=s then some 0 else match Nq s r with
  | some i=>some (i+1)
  | none=>none
def Em.var(gl:List Nm)(s:Nm)(lo gb:Nat)(e:Em):Em:=match Nt s e.loc with
 | some i=>e.step lo (i:Nat) 0
 | none=>match Nq s gl with
  | some i=>e.step gb (i:Nat) 0
  | none=>e
def Nr(fns:List (Nm×Nat))(s:Nm):Int:=match Nq s (fns.map Prod.fst) with
 | some i=>(i:Nat)
 | none=>-1
def binOp(s:Nat):Nat:=
 if s=40 then 10 else if s=39 then 9 else if s=27 then 25 else if s=29 then 26 else if s=30 then 29 else if s=31 then 31 else if s=32 then 28
 else if s=33 then 30 else if s=34 then 12 else if s=35 then 15 else if s=36 then 17 else if s=37 then 19 else 21
def Em.Kt(e:Em):Em:=match e.lps with
 | []=>e
 | (s,bs)::r=>⟨e.loc,e.slots,e.st++[⟨6,0,0,Ab⟩],(s,bs++[e.st.length])::r⟩
def Em.cnt(e:Em):Em:=match e.lps with
 | []=>e
 | (s,_)::_=>e.step 6 (s:Nat) 0
def Em.local'(s:Nm)(e:Em):Em:=⟨e.loc++[s],max e.slots (e.loc.length+1),e.st,e.lps⟩
def Em.cut(n:Nat)(e:Em):Em:=⟨e.loc.take n,e.slots,e.st,e.lps⟩
def Em.open'(e:Em):Em:=⟨e.loc,e.slots,e.st,(e.st.length,[])::e.lps⟩
def Em.close(e:Em):Em:=⟨e.loc,e.slots,e.st,e.lps.tail⟩
def Em.Te(e:Em):List Nat:=match e.lps with
 | []=>[]
 | (_,bs)::_=>bs
def Ld(line n:Nat)(k:Nat->Em->Em)(e:Em):Em:=
 let a:=k 1 e
 let b:=k 2 (a.step 8 0 line)
 let d:=(b.step 6 0 0).land a.st.length
 (if n=3 then k 3 d else d).land b.st.length
def M6(line:Nat)(k:Nat->Em->Em)(e:Em):Em:=
 let a:=k 1 e.open'
 let b:=k 2 (a.step 7 0 line)
 let d:=(b.step 6 (e.st.length:Nat) 0).land a.st.length
 (d.Hv d.Te).close
def Mx(o line:Nat)(k:Nat->Em->Em)(e:Em):Em:=
 let a:=k 1 e
 let b:=k 2 (a.step o 0 line)
 (b.step 11 0 line).land a.st.length
def As(fns:List (Nm×Nat))(gl:List Nm)(l:A6)(n:Nat)(k:Nat->Em->Em)(e:Em):Em:=
 match l.kd with
 | 1=>e.Ja ⟨2,false,l.n,[],none⟩
 | 2=>e.Ja ⟨3,false,0,l.s,none⟩
 | 3=>e.Ja ⟨1,true,0,[],none⟩
 | 4=>e.Ja ⟨1,false,0,[],none⟩
 | 5=>e.Ja Ab
 | 6=>e.var gl l.s 1 2
 | 7=>(k 0 e).step 42 (Nr fns l.s) l.line
 | 8=>k 0 e
 | 9=>(k 0 e).step 36 (n:Nat) l.line
 | 10=>(k 0 e).step 37 0 l.line
 | 11=>(k 0 e).step 38 0 l.line
 | 12=>(k 0 e).step 39 0 l.line
 | 13=>(k 0 e).step 27 0 l.line
 | 14=>(k 0 e).step 23 0 l.line
 | 21=>((k 0 e).local' l.s).step 3 ((k 0 e).loc.length:Nat) 0
 | 22=>Ld l.line n k e
 | 23=>M6 l.line k e
 | 24=>if n=0 then e.step 43 0 0 else(k 0 e).step 44 0 0
 | 25=>e.Kt
 | 26=>e.cnt
 | 27=>(k 0 e).step 41 0 l.line
 | 28=>(k 0 e).var gl l.s 3 4
 | 29=>(k 0 e).step 40 0 l.line
 | 30=>(k 0 e).step 5 0 0
 | 31=>(k 0 e).cut e.loc.length
 | 32=>(k 0 e).cut e.loc.length
 | kd=>if kd=139\/kd=140 then Mx (binOp (kd-100)) l.line k e else(k 0 e).step (binOp (kd-100)) 0 l.line
def em(fns:List (Nm×Nat))(gl:List Nm):BT A6->Nat->Em->Em
 | .nil,_,e=>e
 | .node _ _ l c r,m,e=>
  if 2<=m then em fns gl r (m-1) e
  else if m=1 then As fns gl l (Az c) (fun m' e'=>em fns gl c m' e') e
  else em fns gl r 0 (As fns gl l (Az c) (fun m' e'=>em fns gl c m' e') e)
structure Fn where
 name:Nm
 params:Nat
 slots:Nat
 steps:List Af
structure Dl where
 globals:Nat
 slots:Nat
 main:List Af
 fns:List Fn
def My(fns:List (Nm×Nat))(gl:List Nm)(l:A6)(c:BT A6):Fn:=
 let e:=(em fns gl c 0 ⟨l.ps.map Prod.snd,l.ps.length,[],[]⟩).step 43 0 0
 ⟨l.s,l.ps.length,e.slots,e.st⟩
def Kw(fns:List (Nm×Nat)):BT A6->List Nm->List Fn->Em->Dl
 | .nil,gl,fs,e=>⟨gl.length,e.slots,e.st,fs⟩
 | .node _ _ l c r,gl,fs,e=>
  if l.kd=20 then Kw fns r gl (fs++[My fns gl l c]) e
  else if l.kd=21 then Kw fns r (gl++[l.s]) fs ((em fns gl c 0 e).step 4 (gl.length:Nat) 0)
  else Kw fns r gl fs (em fns gl (nd l c) 0 e)
def Np(c:BT A6):Dl:=Kw (Cu c) c [] [] ⟨[],0,[],[]⟩
theorem Q5(fns:List (Nm×Nat))(gl:List Nm)(x y:Nat)(l:A6)(c r:BT A6)(e:Em):em fns gl (.node x y l c r) 1 e=As fns gl l (Az c) (em fns gl c) e:=rfl
theorem Ie(fns:List (Nm×Nat))(gl:List Nm)(x y:Nat)(l:A6)(c r:BT A6)(e:Em):em fns gl (.node x y l c r) 0 e=em fns gl r 0 (As fns gl l (Az c) (em fns gl c) e):=rfl
theorem A01(fns:List (Nm×Nat))(gl:List Nm)(l:A6)(c:BT A6)(e:Em):em fns gl (nd l c) 0 e=As fns gl l (Az c) (em fns gl c) e:=rfl
theorem Ts(fns:List (Nm×Nat))(gl:List Nm)(x y:Nat)(l:A6)(c r:BT A6)(e:Em):em fns gl (.node x y l c r) 2 e=em fns gl r 1 e:=rfl
theorem Ac4(fns:List (Nm×Nat))(gl:List Nm)(x y:Nat)(l:A6)(c r:BT A6)(e:Em):em fns gl (.node x y l c r) 3 e=em fns gl r 2 e:=rfl
end
end Go.Proofs.YtjdlndhfaaolaaaGreatDoor
