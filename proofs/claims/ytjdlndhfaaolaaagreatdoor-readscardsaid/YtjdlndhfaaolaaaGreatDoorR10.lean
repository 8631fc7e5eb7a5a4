import Derived.Test.YtjdlndhfaaolaaaGreatDoorR02
import Derived.Test.YtjdlndhfaaolaaaGreatDoorR05
set_option maxHeartbeats 20000000
namespace Go.Proofs.YtjdlndhfaaolaaaGreatDoor
section
def Pp(k:Nat):List UInt8->Option (Tk×Nat)
 | []=>some (⟨0,0,[],0⟩,k)
 | c::r=>(Dp (c::r)).map fun x=>(x.1,k+x.2)
def Ga(l:List UInt8):Nat×Option (Tk×Nat):=((Aw false l).2.1,if(Aw false l).2.2 then Pp (Aw false l).1 (l.drop (Aw false l).1) else none)
def Nt(acc:List Tk):Nat ⊕ List Tk->Nat ⊕ List Tk
 | .inl n=>.inl n
 | .inr ts=>.inr (acc++ts)
theorem A8s(x:Nat ⊕ List Tk):Nt [] x=x:=by cases x <;> rfl
theorem A8r(a b:List Tk)(x:Nat ⊕ List Tk):Nt a (Nt b x)=Nt (a++b) x:=by cases x <;> simp[Nt]
theorem Acw{c:UInt8}(r:List UInt8)(h:Ez c=false):Dp (c::r)=none:=by
 have hn:¬(32<=c.toNat/\c.toNat<=126):=by
  intro e;rw[Ez,decide_eq_true e.1,decide_eq_true e.2]at h;cases h
 have hd:Cd c=false:=by
  rw[Cd];by_cases h1:48<=c.toNat
  ·rw[decide_eq_false (show ¬c.toNat<=57 by omega)];simp
  ·rw[decide_eq_false h1];rfl
 have hl:isLet c=false:=by
  rw[isLet];rw[Bool.or_eq_false_iff];constructor
  ·by_cases h1:97<=c.toNat
   ·rw[decide_eq_false (show ¬c.toNat<=122 by omega)];simp
   ·rw[decide_eq_false h1];rfl
  ·by_cases h1:65<=c.toNat
   ·rw[decide_eq_false (show ¬c.toNat<=90 by omega)];simp
   ·rw[decide_eq_false h1];rfl
 have hc:∀d:UInt8,32<=d.toNat->d.toNat<=126->(c==d)=false:=by
  intro d h1 h2;rw[beq_eq_false_iff_ne];intro e;subst e;exact hn ⟨h1,h2⟩
 have Ad:Hz c=0:=by
  unfold Hz;simp only[hc 40 (by decide) (by decide),hc 41 (by decide) (by decide),hc 123 (by decide) (by decide),hc 125 (by decide) (by decide),hc 91 (by decide) (by decide),hc 93 (by decide) (by decide),hc 44 (by decide) (by decide),hc 59 (by decide) (by decide),hc 61 (by decide) (by decide),hc 33 (by decide) (by decide),hc 60 (by decide) (by decide),hc 62 (by decide) (by decide),hc 43 (by decide) (by decide),hc 45 (by decide) (by decide),hc 42 (by decide) (by decide),hc 47 (by decide) (by decide),hc 37 (by decide) (by decide),Bool.false_eq_true,if_false]
 have Av:∀d,L1 c d=0:=by
  intro d;unfold L1;simp only[hc 61 (by decide) (by decide),hc 33 (by decide) (by decide),hc 60 (by decide) (by decide),hc 62 (by decide) (by decide),hc 38 (by decide) (by decide),hc 124 (by decide) (by decide),Bool.false_and,Bool.false_eq_true,if_false]
 have hsg:(Ep (c::r))=(0,0):=by
  cases r with
  | nil=>rw[Ep,Ad];rfl
  | cons d r=>rw[Ep,Av,Ad];rfl
 rw[Dp];simp only[hd,hl,hc 34 (by decide) (by decide),hsg,Bool.false_eq_true,if_false];rfl
theorem Ze:∀(l:List UInt8) (f ln:Nat) (sd:Bool),l.length<f->
  lex f l ln sd=if(Aw sd l).2.2 then lex (f-(Aw sd l).1) (l.drop (Aw sd l).1) (ln+(Aw sd l).2.1) false else .inl (ln+(Aw sd l).2.1):=by
 intro l;induction l with
 | nil=>
  intro f ln sd hf;obtain⟨f,rfl⟩:∃g,f=g+1:=⟨f-1,by simp at hf;omega⟩;cases sd <;> simp[Aw,lex]
 | cons c r ih=>
  intro f ln sd hf;obtain⟨f,rfl⟩:∃g,f=g+1:=⟨f-1,by simp at hf;omega⟩;have hf':r.length<f:=by simp at hf;omega
  rw[lex];by_cases h10:(c==10)=true
  ·rw[if_pos h10];have hk:Aw sd (c::r)=((Aw false r).1+1,(Aw false r).2.1+1,(Aw false r).2.2):=by
    cases sd <;> rw[Aw,if_pos h10]
   rw[hk,ih f (ln+1) false hf'];simp only[List.drop_succ_cons,Nat.add_sub_add_right,show ∀a,ln+1+a=ln+(a+1) from fun a=>by omega]
  ·rw[if_neg h10];by_cases hb:(c !=9&&!(Ez c))=true
   ·rw[if_pos hb];have h9:c≠9:=by intro e;subst e;exact absurd hb (by decide)
    have hp:Ez c=false:=by
     cases hq:Ez c
     ·rfl
     ·rw[hq]at hb;simp at hb
    cases sd with
    | true=>rw[Aw,if_neg h10,if_pos hb];rfl
    | false=>
     have h32:c≠32:=by intro e;subst e;exact absurd hp (by decide)
     have h47:c≠47:=by intro e;subst e;exact absurd hp (by decide)
     have hk:Aw false (c::r)=(0,0,true):=r7 (by simpa using h10) h32 h9 (fun e=>h47 e.1);rw[hk];simp only[if_true,List.drop_zero,Nat.sub_zero,Nat.add_zero];rw[lex,if_neg h10,if_pos hb]
   ·rw[if_neg hb];cases sd with
    | true=>
     rw[if_pos (by simp),Aw,if_neg h10,if_neg hb];simp only[Bool.true_or,List.drop_succ_cons,Nat.add_sub_add_right];exact ih f ln true hf'
    | false=>
     by_cases hs:(c==32||c==9)=true
     ·have h47:(c==47)=false:=by
       rw[beq_eq_false_iff_ne];intro e;subst e;exact absurd hs (by decide)
      rw[if_pos (by simp only[Bool.false_or,Bool.or_eq_true];simp only[Bool.or_eq_true]at hs;rcases hs with h|h;exact .inr h;exact .inl (.inr h))];rw[Aw,if_neg h10,if_pos hs];simp only[h47,Bool.false_and,Bool.or_false,List.drop_succ_cons,Nat.add_sub_add_right];exact ih f ln false hf'
     ·by_cases hr:(c==47&&r.head?==some 47)=true
      ·rw[if_pos (by rw[hr];simp),Aw,if_neg h10,if_neg hs,if_pos hr];simp only[hr,Bool.false_or,List.drop_succ_cons,Nat.add_sub_add_right];exact ih f ln true hf'
      ·have hk:Aw false (c::r)=(0,0,true):=by rw[Aw,if_neg h10,if_neg hs,if_neg hr]
       rw[hk];simp only[if_true,List.drop_zero,Nat.sub_zero,Nat.add_zero];rw[lex,if_neg h10,if_neg hb]
theorem A6w:∀(f:Nat) (l:List UInt8) (g ln:Nat) (sd:Bool),l.length<f->l.length<g->lex f l ln sd=lex g l ln sd:=by
 intro f;induction f with
 | zero=>intro l g ln sd h;omega
 | succ f ih=>
  intro l g ln sd hf hg;obtain⟨g,rfl⟩:∃h,g=h+1:=⟨g-1,by omega⟩;cases l with
  | nil=>rw[lex,lex]
  | cons c r=>
   have h1:r.length<f:=by simp at hf;omega
   have h2:r.length<g:=by simp at hg;omega
   rw[lex,lex];split
   ·exact ih _ _ _ _ h1 h2
   split
   ·rfl
   split
   ·exact ih _ _ _ _ h1 h2
   cases ht:Dp (c::r) with
   | none=>rfl
   | some x=>
    obtain⟨t,n⟩:=x;have hn:=(Wi c r t n ht).2.2;have hd:((c::r).drop n).length<=r.length:=by simp;omega
    simp only;rw[ih ((c::r).drop n) g ln false (by omega) (by omega)]
theorem r6:∀(l:List UInt8) (sd:Bool),(Aw sd l).2.2=true->∀c r,l.drop (Aw sd l).1=c::r->c≠10/\c≠32/\c≠9/\¬(c=47/\r.head?=some 47):=by
 intro l;induction l with
 | nil=>intro sd _ c r h;simp at h
 | cons d q ih=>
  intro sd h c r hd;cases sd with
  | true=>
   rw[Aw]at h hd;split at h
   ·rename_i h1;rw[if_pos h1]at hd;exact ih false h c r (by simpa using hd)
   ·rename_i h1;rw[if_neg h1]at hd;split at h
    ·cases h
    ·rename_i h2;rw[if_neg h2]at hd;exact ih true h c r (by simpa using hd)
  | false=>
   rw[Aw]at h hd;split at h
   ·rename_i h1;rw[if_pos h1]at hd;exact ih false h c r (by simpa using hd)
   ·rename_i h1;rw[if_neg h1]at hd;split at h
    ·rename_i h2;rw[if_pos h2]at hd;exact ih false h c r (by simpa using hd)
    ·rename_i h2;rw[if_neg h2]at hd;split at h
     ·rename_i h3;rw[if_pos h3]at hd;exact ih true h c r (by simpa using hd)
     ·rename_i h3;rw[if_neg h3]at hd;simp only[List.drop_zero,List.cons.injEq]at hd;obtain⟨rfl,rfl⟩:=hd;simp only[Bool.or_eq_true,beq_iff_eq,not_or]at h2;simp only[Bool.and_eq_true,beq_iff_eq]at h3;exact⟨by simpa using h1,h2.1,h2.2,h3⟩
theorem A7o(l:List UInt8)(ln:Nat)(h:(Ga l).2=none):lex (l.length+1) l ln false=.inl (ln+(Ga l).1):=by
 rw[Ze l _ ln false (by omega)];have hle:=(Wa l false).1;unfold Ga at h ⊢;cases hs:(Aw false l).2.2 with
 | false=>simp
 | true=>
  simp only[hs,if_true]at h ⊢;cases hd:l.drop (Aw false l).1 with
  | nil=>rw[hd,Pp]at h;cases h
  | cons c r=>
   rw[hd,Pp]at h;have ht:Dp (c::r)=none:=by
    cases ht:Dp (c::r) with
    | none=>rfl
    | some x=>rw[ht]at h;cases h
   obtain⟨f,hf⟩:∃f,l.length+1-(Aw false l).1=f+1:=⟨l.length-(Aw false l).1,by omega⟩;obtain⟨h10,h32,h9,h47⟩:=r6 l false hs c r hd;rw[hf,lex,if_neg (by simpa using h10)];by_cases hp:Ez c=true
   ·rw[if_neg (by simp[hp]),if_neg (by simp only[Bool.false_or,Bool.or_eq_true,Bool.and_eq_true,beq_iff_eq];rintro((h|h)|h);exact h47 h;exact h9 h;exact h32 h),ht]
   ·have hp':Ez c=false:=by simpa using hp
    rw[if_pos (by simp[hp',h9])]
theorem A7p(l:List UInt8)(ln:Nat)(x:Tk×Nat)(h:(Ga l).2=some x):lex (l.length+1) l ln false=(if x.1.k=0 then .inr [⟨0,ln+(Ga l).1,[],0⟩] else Nt [⟨x.1.k,ln+(Ga l).1,x.1.s,x.1.n⟩] (lex ((l.drop x.2).length+1) (l.drop x.2) (ln+(Ga l).1) false))/\x.2<=l.length/\(x.1.k=0->x.1=⟨0,0,[],0⟩)/\(x.1.k≠0->1<=x.2)/\(Ga l).1<=x.2:=by
 rw[Ze l _ ln false (by omega)];have hle:=Wa l false;unfold Ga at h ⊢;cases hs:(Aw false l).2.2 with
 | false=>rw[hs]at h;cases h
 | true=>
  simp only[hs,if_true]at h ⊢;cases hd:l.drop (Aw false l).1 with
  | nil=>
   rw[hd,Pp]at h;obtain rfl:=Option.some.inj h;have hl:l.length+1-(Aw false l).1=1:=by
    have:=congrArg List.length hd;simp at this;omega
   rw[if_pos rfl,hl,lex];exact⟨rfl,hle.1,fun _=>rfl,fun e=>absurd rfl e,hle.2⟩
  | cons c r=>
   have hlen:(c::r).length=l.length-(Aw false l).1:=by rw[←hd];simp
   rw[hd,Pp]at h;cases ht:Dp (c::r) with
   | none=>rw[ht]at h;cases h
   | some y=>
    rw[ht]at h;obtain⟨t,n⟩:=y;obtain rfl:(t,(Aw false l).1+n)=x:=Option.some.inj h;obtain⟨k1,_,k3⟩:=Wi c r t n ht;have hn:=U7 (c::r) t n ht;obtain⟨f,hf⟩:∃f,l.length+1-(Aw false l).1=f+1:=⟨l.length-(Aw false l).1,by omega⟩;obtain⟨h10,h32,h9,h47⟩:=r6 l false hs c r hd;refine⟨?_,by simp only;omega,fun e=>absurd e (by simp only;omega),fun _=>by simp only;omega,by simp only;omega⟩;have hp:Ez c=true:=by
     cases hp:Ez c with
     | true=>rfl
     | false=>rw[Acw r hp]at ht;cases ht
    rw[hf,lex,if_neg (by simpa using h10),if_neg (by simp[hp]),if_neg (by simp only[Bool.false_or,Bool.or_eq_true,Bool.and_eq_true,beq_iff_eq];rintro((h|h)|h);exact h47 h;exact h9 h;exact h32 h),ht];have hdn:(c::r).drop n=l.drop ((Aw false l).1+n):=by rw[←hd,List.drop_drop]
    have hll:(l.drop ((Aw false l).1+n)).length<f:=by
     simp only[List.length_drop];simp only[List.length_cons]at hlen;omega
    simp only;rw[if_neg (by omega),hdn,A6w f _ ((l.drop ((Aw false l).1+n)).length+1) _ _ hll (by omega)];cases lex ((l.drop ((Aw false l).1+n)).length+1) (l.drop ((Aw false l).1+n)) (ln+(Aw false l).2.1) false <;> rfl
end
section
open Go.Deep (BT)
theorem Zc(s:Nm):∀(l:List Nm),(∀j (h:j<l.length),l[j]≠s)->Ob s l=none:=by
 intro l;induction l with
 | nil=>intro _;rfl
 | cons x r ih=>
  intro h;have h1:=ih (fun j hj=>by have:=h (j+1) (by simpa using hj);simpa using this);have h0:=h 0 (by simp);simp only[List.getElem_cons_zero]at h0;rw[Ob,h1];simp[h0]
theorem A6n(s:Nm):∀(l:List Nm) (i:Nat) (hi:i<l.length),l[i]=s->(∀j (h:j<l.length),i<j->l[j]≠s)->Ob s l=some i:=by
 intro l;induction l with
 | nil=>intro i hi;simp at hi
 | cons x r ih=>
  intro i hi he hn;cases i with
  | zero=>
   have h1:=Zc s r (fun j hj=>by have:=hn (j+1) (by simpa using hj) (by omega);simpa using this);simp only[List.getElem_cons_zero]at he;rw[Ob,h1];simp[he]
  | succ i=>
   have h1:=ih i (by simpa using hi) (by simpa using he) (fun j hj hij=>by have:=hn (j+1) (by simpa using hj) (by omega);simpa using this);rw[Ob,h1]
theorem Yo(s:Nm):∀(l:List Nm),(∀j (h:j<l.length),l[j]≠s)->O8 s l=none:=by
 intro l;induction l with
 | nil=>intro _;rfl
 | cons x r ih=>
  intro h;have h1:=ih (fun j hj=>by have:=h (j+1) (by simpa using hj);simpa using this);have h0:=h 0 (by simp);simp only[List.getElem_cons_zero]at h0;rw[O8,if_neg h0,h1]
theorem Yp(s:Nm):∀(l:List Nm) (i:Nat) (hi:i<l.length),l[i]=s->(∀j (h:j<l.length),j<i->l[j]≠s)->O8 s l=some i:=by
 intro l;induction l with
 | nil=>intro i hi;simp at hi
 | cons x r ih=>
  intro i hi he hn;cases i with
  | zero=>
   simp only[List.getElem_cons_zero]at he;rw[O8,if_pos he]
  | succ i=>
   have h0:=hn 0 (by simp) (by omega);simp only[List.getElem_cons_zero]at h0;have h1:=ih i (by simpa using hi) (by simpa using he) (fun j hj hij=>by have:=hn (j+1) (by simpa using hj) (by omega);simpa using this);rw[O8,if_neg h0,h1]
def Oa(i:G4):List Value:=[.int .i64 (i.op:Nat),.int .i64 i.arg,.int .i64 (i.line:Nat),.int .i64 (i.v.k:Nat),.bool i.v.y,.int .i64 i.v.n,.string ⟨i.v.t.toArray⟩,.pointer none]
def G1(st:List G4):List Value:=st.flatMap Oa
theorem A68(a b:List G4):G1 (a++b)=G1 a++G1 b:=by simp[G1]
theorem A6b(i:G4):G1 [i]=Oa i:=by simp[G1]
theorem A6a(st:List G4):(G1 st).length=st.length*8:=by
 induction st with
 | nil=>rfl
 | cons x r ih=>
  have e:G1 (x::r)=Oa x++G1 r:=by simp[G1]
  rw[e,List.length_append,ih];have hl:(Oa x).length=8:=rfl;rw[hl,List.length_cons];omega
theorem Rs(a:Int):∀(st:List G4) (j:Nat),(N8 j a st).length=st.length:=by
 intro st;induction st with
 | nil=>intro j;cases j <;> rfl
 | cons x r ih=>
  intro j;cases j with
  | zero=>rfl
  | succ j=>rw[N8,List.length_cons,ih,List.length_cons]
theorem A69(a:Int):∀(st:List G4) (j:Nat),j<st.length->G1 (N8 j a st)=(G1 st).set (j*8+1) (.int .i64 a):=by
 intro st;induction st with
 | nil=>intro j h;simp at h
 | cons x r ih=>
  intro j h;have e:G1 (x::r)=Oa x++G1 r:=by simp[G1]
  have hl:(Oa x).length=8:=rfl;cases j with
  | zero=>
   rw[N8,e,List.set_append_left _ _ (by omega)];simp[G1,Oa]
  | succ j=>
   rw[N8,e];have e2:G1 (x::N8 j a r)=Oa x++G1 (N8 j a r):=by simp[G1]
   rw[e2,ih j (by simpa using h),List.set_append_right _ _ (by omega),hl,show(j+1)*8+1-8=j*8+1 by omega]
def Gr:BT A2->Nat->Nat
 | .nil,_=>0
 | .node _ _ l c r,m=>if 2<=m then Gr r (m-1) else bsize (nd l c)
theorem Vu(m:Nat):Gr .nil m=0:=by cases m <;> rfl
theorem b6(c:BT A2):Gr c 1+Gr c 2+Gr c 3<=bsize c:=by
 cases c with
 | nil=>simp[Vu]
 | node x y l c r=>
  have h1:Gr (.node x y l c r) 1=bsize (nd l c):=rfl;have h2:Gr (.node x y l c r) 2=Gr r 1:=rfl;have h3:Gr (.node x y l c r) 3=Gr r 2:=rfl;rw[h1,h2,h3,B8];simp only[bsize];cases r with
  | nil=>simp[Vu]
  | node x y l c r=>
   have h1:Gr (.node x y l c r) 1=bsize (nd l c):=rfl;have h2:Gr (.node x y l c r) 2=Gr r 1:=rfl;rw[h1,h2,B8];simp only[bsize];cases r with
   | nil=>simp[Vu]
   | node x y l c r=>
    have h1:Gr (.node x y l c r) 1=bsize (nd l c):=rfl;rw[h1,B8];simp only[bsize];omega
theorem Ds(o:Nat)(a:Int)(ln:Nat)(e:Em):(e.step o a ln).st.length=e.st.length+1:=by simp[Em.step]
theorem Uw(v:PV)(e:Em):(e.Kn v).st.length=e.st.length+1:=by simp[Em.Kn]
theorem Lb(j:Nat)(e:Em):(e.land j).st.length=e.st.length:=Rs _ _ _
theorem T6:∀(l:List Nat) (e:Em),(e.Iw l).st.length=e.st.length:=by
 intro l;induction l with
 | nil=>intro e;rfl
 | cons j r ih=>intro e;rw[Em.Iw,ih,Lb]
theorem A08(gl:List Nm)(s:Nm)(a b:Nat)(e:Em):(e.var gl s a b).st.length<=e.st.length+1:=by
 unfold Em.var;split
 ·rw[Ds];exact Nat.le_refl _
 ·split
  ·rw[Ds];exact Nat.le_refl _
  ·omega
theorem A2v(e:Em):e.M0.st.length<=e.st.length+1:=by
 unfold Em.M0;split
 ·omega
 ·simp
theorem A3j(e:Em):e.cnt.st.length<=e.st.length+1:=by
 unfold Em.cnt;split
 ·omega
 ·rw[Ds];exact Nat.le_refl _
theorem A4z(fns:List (Nm×Nat))(gl:List Nm)(l:A2)(n s s1 s2 s3:Nat)(k:Nat->Em->Em)(h0:∀e,(k 0 e).st.length<=e.st.length+2*s)(h1:∀e,(k 1 e).st.length<=e.st.length+2*s1)(h2:∀e,(k 2 e).st.length<=e.st.length+2*s2)(h3:∀e,(k 3 e).st.length<=e.st.length+2*s3)(hs:s1+s2+s3<=s)(e:Em) :
  (Am fns gl l n k e).st.length<=e.st.length+2*(1+s):=by
 have g0:=h0 e;unfold Am;split;all_goals try (first|(rw[Uw];omega)|(rw[Ds];omega)|omega)
 ·have:=A08 gl l.s 1 2 e;omega
 ·rw[Ds];show(k 0 e).st.length+1<=_;omega
 ·unfold Mf;simp only[Lb];have a1:=h1 e;have a2:=h2 ((k 1 e).step 8 0 l.line);rw[Ds]at a2;split
  ·have a3:=h3 (((k 2 ((k 1 e).step 8 0 l.line)).step 6 0 0).land (k 1 e).st.length);rw[Lb,Ds]at a3;omega
  ·rw[Lb,Ds];omega
 ·unfold N4;simp only[Em.close,T6,Lb,Ds];have a1:=h1 e.open';have a2:=h2 ((k 1 e.open').step 7 0 l.line);rw[Ds]at a2;have:e.open'.st.length=e.st.length:=rfl;omega
 ·split
  ·rw[Ds];omega
  ·rw[Ds];omega
 ·have:=A2v e;omega
 ·have:=A3j e;omega
 ·have:=A08 gl l.s 3 4 (k 0 e);omega
 ·show(k 0 e).st.length<=_;omega
 ·show(k 0 e).st.length<=_;omega
 ·split
  ·unfold No;simp only[Lb,Ds];have a1:=h1 e;have a2:=h2 ((k 1 e).step (binOp (l.kd-100)) 0 l.line);rw[Ds]at a2;omega
  ·rw[Ds];omega
theorem On(fns:List (Nm×Nat))(gl:List Nm):∀(c:BT A2),(∀e,(em fns gl c 0 e).st.length<=e.st.length+2*bsize c)/\(∀m,1<=m->∀e,(em fns gl c m e).st.length<=e.st.length+2*Gr c m):=by
 intro c;induction c with
 | nil=>exact⟨fun e=>by rw[em];omega,fun m _ e=>by rw[em];omega⟩
 | node x y l c r C2 Bl=>
  have hN:∀e,(Am fns gl l (A8 c) (em fns gl c) e).st.length<=e.st.length+2*(1+bsize c):=
   fun e=>A4z fns gl l (A8 c) (bsize c) (Gr c 1) (Gr c 2) (Gr c 3) (em fns gl c) C2.1 (C2.2 1 (by omega)) (C2.2 2 (by omega)) (C2.2 3 (by omega)) (b6 c) e
  refine⟨fun e=>?_,fun m hm e=>?_⟩
  ·rw[Jk];have a1:=hN e;have a2:=Bl.1 (Am fns gl l (A8 c) (em fns gl c) e);simp only[bsize];omega
  ·by_cases h2:2<=m
   ·have e1:em fns gl (.node x y l c r) m e=em fns gl r (m-1) e:=by rw[em,if_pos h2]
    have e2:Gr (.node x y l c r) m=Gr r (m-1):=by rw[Gr,if_pos h2]
    rw[e1,e2];exact Bl.2 (m-1) (by omega) e
   ·have h1:m=1:=by omega
    subst h1;rw[Qq];have e2:Gr (.node x y l c r) 1=bsize (nd l c):=rfl;rw[e2,B8];have:=hN e;omega
theorem Hj(fns:List (Nm×Nat))(gl:List Nm)(l:A2)(c:BT A2)(e:Em):(Am fns gl l (A8 c) (em fns gl c) e).st.length<=e.st.length+2*bsize (nd l c):=by
 have:=(On fns gl (nd l c)).1 e;rw[Yg]at this;exact this
end
section
open Go.Deep (BT)
variable {fns:List (Nm×Nat)} {gl:List Nm} {l:A2} {n:Nat} {k:Nat->Em->Em} {e:Em}
theorem Xl(hk:l.kd=1):Am fns gl l n k e=e.Kn ⟨2,false,l.n,[],none⟩:=by simp only[Am,hk]
theorem Xr(hk:l.kd=2):Am fns gl l n k e=e.Kn ⟨3,false,0,l.s,none⟩:=by simp only[Am,hk]
theorem Y0(hk:l.kd=3):Am fns gl l n k e=e.Kn ⟨1,true,0,[],none⟩:=by simp only[Am,hk]
theorem Y3(hk:l.kd=4):Am fns gl l n k e=e.Kn ⟨1,false,0,[],none⟩:=by simp only[Am,hk]
theorem Y4(hk:l.kd=5):Am fns gl l n k e=e.Kn Nb:=by simp only[Am,hk]
theorem Y5(hk:l.kd=6):Am fns gl l n k e=e.var gl l.s 1 2:=by simp only[Am,hk]
theorem Y6(hk:l.kd=7):Am fns gl l n k e=(k 0 e).step 42 (O9 fns l.s) l.line:=by simp only[Am,hk]
theorem Y7(hk:l.kd=8):Am fns gl l n k e=k 0 e:=by simp only[Am,hk]
theorem Y8(hk:l.kd=9):Am fns gl l n k e=(k 0 e).step 36 (n:Nat) l.line:=by simp only[Am,hk]
theorem Xm(hk:l.kd=10):Am fns gl l n k e=(k 0 e).step 37 0 l.line:=by simp only[Am,hk]
theorem Xn(hk:l.kd=11):Am fns gl l n k e=(k 0 e).step 38 0 l.line:=by simp only[Am,hk]
theorem Xo(hk:l.kd=12):Am fns gl l n k e=(k 0 e).step 39 0 l.line:=by simp only[Am,hk]
theorem Xp(hk:l.kd=13):Am fns gl l n k e=(k 0 e).step 27 0 l.line:=by simp only[Am,hk]
theorem Xq(hk:l.kd=14):Am fns gl l n k e=(k 0 e).step 23 0 l.line:=by simp only[Am,hk]
theorem A4y(hk:l.kd=21):Am fns gl l n k e=((k 0 e).local' l.s).step 3 ((k 0 e).loc.length:Nat) 0:=by simp only[Am,hk]
theorem Xs(hk:l.kd=22):Am fns gl l n k e=Mf l.line n k e:=by simp only[Am,hk]
theorem Xt(hk:l.kd=23):Am fns gl l n k e=N4 l.line k e:=by simp only[Am,hk]
theorem Xu(hk:l.kd=24):Am fns gl l n k e=if n=0 then e.step 43 0 0 else(k 0 e).step 44 0 0:=by simp only[Am,hk]
theorem Xv(hk:l.kd=25):Am fns gl l n k e=e.M0:=by simp only[Am,hk]
theorem Xw(hk:l.kd=26):Am fns gl l n k e=e.cnt:=by simp only[Am,hk]
theorem Xx(hk:l.kd=27):Am fns gl l n k e=(k 0 e).step 41 0 l.line:=by simp only[Am,hk]
theorem Xy(hk:l.kd=28):Am fns gl l n k e=(k 0 e).var gl l.s 3 4:=by simp only[Am,hk]
theorem Xz(hk:l.kd=29):Am fns gl l n k e=(k 0 e).step 40 0 l.line:=by simp only[Am,hk]
theorem Y1(hk:l.kd=30):Am fns gl l n k e=(k 0 e).step 5 0 0:=by simp only[Am,hk]
theorem Sy(hk:l.kd=31):Am fns gl l n k e=(k 0 e).cut e.loc.length:=by simp only[Am,hk]
theorem Y2(hk:l.kd=32):Am fns gl l n k e=(k 0 e).cut e.loc.length:=by simp only[Am,hk]
theorem Yb(hk:l.kd=139\/l.kd=140):Am fns gl l n k e=No (binOp (l.kd-100)) l.line k e:=by
 rcases hk with h|h <;> simp[Am,h]
theorem Y9(h1:127<=l.kd)(h2:l.kd<=138):Am fns gl l n k e=(k 0 e).step (binOp (l.kd-100)) 0 l.line:=by
 have hk:l.kd=127\/l.kd=128\/l.kd=129\/l.kd=130\/l.kd=131\/l.kd=132\/l.kd=133\/l.kd=134\/l.kd=135\/l.kd=136\/l.kd=137\/l.kd=138:=by omega
 rcases hk with h|h|h|h|h|h|h|h|h|h|h|h <;> simp[Am,h]
end
section
open Go.Deep (BT)
def H8(e:Em):List Nat:=e.lps.map Prod.fst
theorem Pa(o:Nat)(a:Int)(ln:Nat)(e:Em):H8 (e.step o a ln)=H8 e:=rfl
theorem Sf(j:Nat)(e:Em):H8 (e.land j)=H8 e:=rfl
theorem Vb:∀(l:List Nat) (e:Em),(e.Iw l).lps=e.lps:=by
 intro l;induction l with
 | nil=>intro e;rfl
 | cons j r ih=>intro e;rw[Em.Iw,ih];rfl
theorem Va:∀(l:List Nat) (e:Em),(e.Iw l).loc=e.loc:=by
 intro l;induction l with
 | nil=>intro e;rfl
 | cons j r ih=>intro e;rw[Em.Iw,ih];rfl
theorem z8(gl:List Nm)(s:Nm)(a b:Nat)(e:Em):H8 (e.var gl s a b)=H8 e:=by
 unfold Em.var;split
 ·rfl
 ·split <;> rfl
theorem Qc(gl:List Nm)(s:Nm)(a b:Nat)(e:Em):(e.var gl s a b).lps=e.lps/\(e.var gl s a b).loc=e.loc/\(e.var gl s a b).slots=e.slots:=by
 unfold Em.var;split
 ·exact⟨rfl,rfl,rfl⟩
 ·split <;> exact⟨rfl,rfl,rfl⟩
theorem U2(e:Em):H8 e.M0=H8 e/\e.M0.loc=e.loc:=by
 unfold Em.M0;split
 ·exact⟨rfl,rfl⟩
 ·rename_i s bs r h;exact⟨by simp[H8,h],rfl⟩
theorem U3(e:Em):H8 e.cnt=H8 e/\e.cnt.loc=e.loc:=by
 unfold Em.cnt;split
 ·exact⟨rfl,rfl⟩
 ·exact⟨rfl,rfl⟩
theorem Ye(fns:List (Nm×Nat))(gl:List Nm)(l:A2)(n:Nat)(k:Nat->Em->Em)(h:∀m e,H8 (k m e)=H8 e)(e:Em):H8 (Am fns gl l n k e)=H8 e:=by
 have h0:=h 0 e;unfold Am;split;all_goals try (first|rfl|exact h0)
 ·exact z8 _ _ _ _ _
 ·unfold Mf;simp only[];rw[Sf];split
  ·rw[h,Sf,Pa,h,Pa,h]
  ·rw[Sf,Pa,h,Pa,h]
 ·unfold N4;simp only[];have h1:H8 (((k 2 ((k 1 e.open').step 7 0 l.line)).step 6 (e.st.length:Nat) 0).land (k 1 e.open').st.length)=e.st.length::H8 e:=by
   rw[Sf,Pa,h,Pa,h];rfl
  show((Em.Iw _ _).lps.tail).map Prod.fst=_;rw[Vb];have h2:∀x:List (Nat×List Nat),x.tail.map Prod.fst=(x.map Prod.fst).tail:=fun x=>by cases x <;> rfl
  rw[h2];show List.tail (H8 _)=_;rw[h1];rfl
 ·split
  ·rfl
  ·exact h0
 ·exact(U2 e).1
 ·exact(U3 e).1
 ·rw[z8];exact h0
 ·split
  ·unfold No;simp only[];rw[Sf,Pa,h,Pa,h]
  ·exact h0
theorem Yj(fns:List (Nm×Nat))(gl:List Nm):∀(c:BT A2) (m:Nat) (e:Em),H8 (em fns gl c m e)=H8 e:=by
 intro c;induction c with
 | nil=>intro m e;rfl
 | node x y l c r C2 Bl=>
  intro m e;rw[em];split
  ·exact Bl _ _
  ·split
   ·exact Ye _ _ _ _ _ C2 e
   ·rw[Bl];exact Ye _ _ _ _ _ C2 e
theorem Uz(fns:List (Nm×Nat))(gl:List Nm)(c:BT A2)(m:Nat)(e:Em):(em fns gl c m e).lps.length=e.lps.length:=by
 have:=congrArg List.length (Yj fns gl c m e);simpa [H8]using this
theorem Yd(fns:List (Nm×Nat))(gl:List Nm)(l:A2)(c:BT A2)(e:Em):(Am fns gl l (A8 c) (em fns gl c) e).lps.length=e.lps.length:=Uz fns gl (nd l c) 0 e
theorem A50(fns:List (Nm×Nat))(gl:List Nm)(l:A2)(n s s1 s2 s3:Nat)(k:Nat->Em->Em)(h0:∀e,(k 0 e).loc.length<=e.loc.length+s)(h1:∀e,(k 1 e).loc.length<=e.loc.length+s1)(h2:∀e,(k 2 e).loc.length<=e.loc.length+s2)(h3:∀e,(k 3 e).loc.length<=e.loc.length+s3)(hs:s1+s2+s3<=s)(e:Em) :
  (Am fns gl l n k e).loc.length<=e.loc.length+(1+s):=by
 have g0:=h0 e;unfold Am;split;all_goals try (first|(show e.loc.length<=_;omega)|(show(k 0 e).loc.length<=_;omega))
 ·rw[(Qc _ _ _ _ _).2.1];omega
 ·show((k 0 e).loc++[l.s]).length<=_;simp;omega
 ·unfold Mf;have a1:=h1 e;have a2:=h2 ((k 1 e).step 8 0 l.line);have b2:((k 1 e).step 8 0 l.line).loc=(k 1 e).loc:=rfl;rw[b2]at a2;show(if n=3 then _ else _:Em).loc.length<=_;split
  ·have a3:=h3 (((k 2 ((k 1 e).step 8 0 l.line)).step 6 0 0).land (k 1 e).st.length);have b3:(((k 2 ((k 1 e).step 8 0 l.line)).step 6 0 0).land (k 1 e).st.length).loc=(k 2 ((k 1 e).step 8 0 l.line)).loc:=rfl;rw[b3]at a3;omega
  ·show(k 2 ((k 1 e).step 8 0 l.line)).loc.length<=_;omega
 ·unfold N4;show(Em.Iw _ _).loc.length<=_;rw[Va];have a1:=h1 e.open';have a2:=h2 ((k 1 e.open').step 7 0 l.line);have b2:((k 1 e.open').step 7 0 l.line).loc=(k 1 e.open').loc:=rfl;have b1:e.open'.loc=e.loc:=rfl;rw[b2]at a2;rw[b1]at a1;show(k 2 ((k 1 e.open').step 7 0 l.line)).loc.length<=_;omega
 ·split
  ·show e.loc.length<=_;omega
  ·show(k 0 e).loc.length<=_;omega
 ·rw[(U2 e).2];omega
 ·rw[(U3 e).2];omega
 ·rw[(Qc _ _ _ _ _).2.1];omega
 ·show((k 0 e).loc.take e.loc.length).length<=_;simp;omega
 ·show((k 0 e).loc.take e.loc.length).length<=_;simp;omega
 ·split
  ·unfold No;have a1:=h1 e;have a2:=h2 ((k 1 e).step (binOp (l.kd-100)) 0 l.line);have b2:((k 1 e).step (binOp (l.kd-100)) 0 l.line).loc=(k 1 e).loc:=rfl;rw[b2]at a2;show(k 2 ((k 1 e).step (binOp (l.kd-100)) 0 l.line)).loc.length<=_;omega
  ·show(k 0 e).loc.length<=_;omega
theorem A58(fns:List (Nm×Nat))(gl:List Nm):∀(c:BT A2),(∀e,(em fns gl c 0 e).loc.length<=e.loc.length+bsize c)/\(∀m,1<=m->∀e,(em fns gl c m e).loc.length<=e.loc.length+Gr c m):=by
 intro c;induction c with
 | nil=>exact⟨fun e=>by rw[em];omega,fun m _ e=>by rw[em];omega⟩
 | node x y l c r C2 Bl=>
  have hN:∀e,(Am fns gl l (A8 c) (em fns gl c) e).loc.length<=e.loc.length+(1+bsize c):=
   fun e=>A50 fns gl l (A8 c) (bsize c) (Gr c 1) (Gr c 2) (Gr c 3) (em fns gl c) C2.1 (C2.2 1 (by omega)) (C2.2 2 (by omega)) (C2.2 3 (by omega)) (b6 c) e
  refine⟨fun e=>?_,fun m hm e=>?_⟩
  ·rw[Jk];have a1:=hN e;have a2:=Bl.1 (Am fns gl l (A8 c) (em fns gl c) e);simp only[bsize];omega
  ·by_cases h2:2<=m
   ·have e1:em fns gl (.node x y l c r) m e=em fns gl r (m-1) e:=by rw[em,if_pos h2]
    have e2:Gr (.node x y l c r) m=Gr r (m-1):=by rw[Gr,if_pos h2]
    rw[e1,e2];exact Bl.2 (m-1) (by omega) e
   ·have h1:m=1:=by omega
    subst h1;rw[Qq];have e2:Gr (.node x y l c r) 1=bsize (nd l c):=rfl;rw[e2,B8];have:=hN e;omega
theorem A51(fns:List (Nm×Nat))(gl:List Nm)(l:A2)(c:BT A2)(e:Em):(Am fns gl l (A8 c) (em fns gl c) e).loc.length<=e.loc.length+bsize (nd l c):=(A58 fns gl (nd l c)).1 e
theorem Yf(fns:List (Nm×Nat))(gl:List Nm)(l:A2)(n:Nat)(k:Nat->Em->Em)(h:∀m e,e.st.length<=(k m e).st.length)(e:Em):e.st.length<=(Am fns gl l n k e).st.length:=by
 have h0:=h 0 e;have hv:∀(s:Nm) (a b:Nat) (e:Em),e.st.length<=(e.var gl s a b).st.length:=by
  intro s a b e;unfold Em.var;split
  ·rw[Ds];omega
  ·split
   ·rw[Ds];omega
   ·exact Nat.le_refl _
 unfold Am;split;all_goals try (first|(rw[Uw];omega)|(rw[Ds];omega)|omega)
 ·exact hv _ _ _ _
 ·rw[Ds];show _<=(k 0 e).st.length+1;omega
 ·unfold Mf;simp only[Lb];have a1:=h 1 e;have a2:=h 2 ((k 1 e).step 8 0 l.line);rw[Ds]at a2;split
  ·have a3:=h 3 (((k 2 ((k 1 e).step 8 0 l.line)).step 6 0 0).land (k 1 e).st.length);rw[Lb,Ds]at a3;omega
  ·rw[Lb,Ds];omega
 ·unfold N4;simp only[Em.close,T6,Lb,Ds];have a1:=h 1 e.open';have a2:=h 2 ((k 1 e.open').step 7 0 l.line);rw[Ds]at a2;have:e.open'.st.length=e.st.length:=rfl;omega
 ·split
  ·rw[Ds];omega
  ·rw[Ds];omega
 ·unfold Em.M0;split
  ·exact Nat.le_refl _
  ·simp
 ·unfold Em.cnt;split
  ·exact Nat.le_refl _
  ·rw[Ds];omega
 ·have:=hv l.s 3 4 (k 0 e);omega
 ·exact h0
 ·exact h0
 ·split
  ·unfold No;simp only[Lb,Ds];have a1:=h 1 e;have a2:=h 2 ((k 1 e).step (binOp (l.kd-100)) 0 l.line);rw[Ds]at a2;omega
  ·rw[Ds];omega
theorem Ro(fns:List (Nm×Nat))(gl:List Nm):∀(c:BT A2) (m:Nat) (e:Em),e.st.length<=(em fns gl c m e).st.length:=by
 intro c;induction c with
 | nil=>intro m e;exact Nat.le_refl _
 | node x y l c r C2 Bl=>
  intro m e;rw[em];split
  ·exact Bl _ _
  ·split
   ·exact Yf _ _ _ _ _ C2 e
   ·exact Nat.le_trans (Yf fns gl l (A8 c) _ C2 e) (Bl _ _)
theorem Uy(fns:List (Nm×Nat))(gl:List Nm)(l:A2)(c:BT A2)(e:Em):e.st.length<=(Am fns gl l (A8 c) (em fns gl c) e).st.length:=Ro fns gl (nd l c) 0 e
def Lp:BT A2->Nat->Prop
 | .nil,_=>True
 | .node _ _ l c r,n=>(l.kd=25\/l.kd=26->n≠0)/\Lp c (if l.kd=32 then n+1 else n)/\Lp r n
theorem Qe{is:Bool}{code line:Nat}{f:B3}(hc:code≠0)(h:(Bu is code line f).1=0):f.1=0/\is=false:=by
 unfold Bu at h;split at h
 ·exact absurd h hc
 ·rename_i hn;refine⟨h,?_⟩;cases is
  ·rfl
  ·exfalso;apply hn;rw[h];rfl
theorem o7(fns:List (Nm×Nat)):∀(c:BT A2) (outer cur:List Nm) (wh:Nat) (inn:Bool) (f:B3),(Ag fns c outer cur wh inn f).2.1=0->f.1=0/\Lp c wh:=by
 intro c;induction c with
 | nil=>intro outer cur wh inn f h;exact⟨h,trivial⟩
 | node x y l c r C2 Bl=>
  intro outer cur wh inn f h;rw[Ag]at h;by_cases h31:l.kd=31
  ·rw[if_pos h31]at h;obtain⟨a1,a2⟩:=Bl _ _ _ _ _ h;obtain⟨b1,b2⟩:=C2 _ _ _ _ _ a1;exact⟨b1,fun e=>by omega,by rw[if_neg (by omega)];exact b2,a2⟩
  ·rw[if_neg h31]at h;by_cases h32:l.kd=32
   ·rw[if_pos h32]at h;obtain⟨a1,a2⟩:=Bl _ _ _ _ _ h;obtain⟨b1,b2⟩:=C2 _ _ _ _ _ a1;exact⟨b1,fun e=>by omega,by rw[if_pos h32];exact b2,a2⟩
   ·rw[if_neg h32]at h;by_cases h21:l.kd=21
    ·rw[if_pos h21]at h;obtain⟨a1,a2⟩:=Bl _ _ _ _ _ h;obtain⟨b1,b2⟩:=C2 _ _ _ _ _ a1;exact⟨(Qe (by omega) b1).1,fun e=>by omega,by rw[if_neg (by omega)];exact b2,a2⟩
    ·rw[if_neg h21]at h;obtain⟨a1,a2⟩:=Bl _ _ _ _ _ h;obtain⟨b1,b2⟩:=C2 _ _ _ _ _ a1;have hz:f.1=0/\(l.kd=25\/l.kd=26->wh≠0):=by
      split at b1
      ·exact⟨(Qe (by omega) b1).1,fun e=>by omega⟩
      ·split at b1
       ·exact⟨(Qe (by omega) b1).1,fun e=>by omega⟩
       ·split at b1
        ·have:=Qe (by omega) b1;exact⟨this.1,fun _ e=>by have:=this.2;simp at this;exact this e⟩
        ·split at b1
         ·exact⟨(Qe (by omega) b1).1,fun e=>by omega⟩
         ·exact⟨b1,fun e=>by omega⟩
     exact⟨hz.1,hz.2,by rw[if_neg (by omega)];exact b2,a2⟩
def Ri(a b:Em):Prop:=a.lps=b.lps/\a.loc=b.loc/\a.slots=b.slots
theorem A52(fns:List (Nm×Nat))(gl:List Nm)(l:A2)(n:Nat)(k:Nat->Em->Em)(hk:Jz l.kd=true)(h:∀m e,Ri (k m e) e)(e:Em):Ri (Am fns gl l n k e) e:=by
 unfold Jz at hk;simp only[Bool.or_eq_true,Bool.and_eq_true,decide_eq_true_eq]at hk;have h0:=h 0 e;have hb:∀o ln,Ri (No o ln k e) e:=by
  intro o ln;have a1:=h 1 e;have a2:=h 2 ((k 1 e).step o 0 ln);exact⟨a2.1.trans a1.1,a2.2.1.trans a1.2.1,a2.2.2.trans a1.2.2⟩
 by_cases A3:127<=l.kd
 ·by_cases A9:l.kd<=138
  ·rw[Y9 A3 A9];exact h0
  ·rw[Yb (by omega)];exact hb _ _
 ·have Bk:l.kd=1\/l.kd=2\/l.kd=3\/l.kd=4\/l.kd=5\/l.kd=6\/l.kd=7\/l.kd=8\/l.kd=9\/l.kd=10\/l.kd=11\/l.kd=12\/l.kd=13\/l.kd=14:=by omega
  rcases Bk with h|h|h|h|h|h|h|h|h|h|h|h|h|h
  ·rw[Xl h];exact⟨rfl,rfl,rfl⟩
  ·rw[Xr h];exact⟨rfl,rfl,rfl⟩
  ·rw[Y0 h];exact⟨rfl,rfl,rfl⟩
  ·rw[Y3 h];exact⟨rfl,rfl,rfl⟩
  ·rw[Y4 h];exact⟨rfl,rfl,rfl⟩
  ·rw[Y5 h];exact Qc _ _ _ _ _
  ·rw[Y6 h];exact h0
  ·rw[Y7 h];exact h0
  ·rw[Y8 h];exact h0
  ·rw[Xm h];exact h0
  ·rw[Xn h];exact h0
  ·rw[Xo h];exact h0
  ·rw[Xp h];exact h0
  ·rw[Xq h];exact h0
theorem Yi(fns:List (Nm×Nat))(gl:List Nm):∀(c:BT A2),Wf 0 c->∀(m:Nat) (e:Em),Ri (em fns gl c m e) e:=by
 intro c;induction c with
 | nil=>intro _ m e;exact⟨rfl,rfl,rfl⟩
 | node x y l c r C2 Bl=>
  intro hw m e;obtain⟨w1,w2⟩:=hw;have hx:Jz l.kd=true/\Wf 0 c:=by
   rcases w2 with⟨_,h1,h2⟩|⟨h1,_⟩|⟨h1,_⟩|⟨h1,_⟩|⟨h1,_⟩|⟨h1,_⟩|⟨h1,_⟩
   ·exact⟨h1,h2⟩
   all_goals omega
  have hN:=A52 fns gl l (A8 c) (em fns gl c) hx.1 (fun m e=>C2 hx.2 m e) e;rw[em];split
  ·exact Bl w1 _ _
  ·split
   ·exact hN
   ·have:=Bl w1 0 (Am fns gl l (A8 c) (em fns gl c) e);exact⟨this.1.trans hN.1,this.2.1.trans hN.2.1,this.2.2.trans hN.2.2⟩
theorem O6(fns:List (Nm×Nat))(gl:List Nm)(l:A2)(c:BT A2)(hk:Jz l.kd=true)(hw:Wf 0 c)(e:Em):Ri (Am fns gl l (A8 c) (em fns gl c) e) e:=Yi fns gl (nd l c) ⟨trivial,.inl ⟨.inl rfl,hk,hw⟩⟩ 0 e
theorem Yc(fns:List (Nm×Nat))(gl:List Nm)(l:A2)(n:Nat)(k:Nat->Em->Em)(h:∀m e,e.loc.length<=(k m e).loc.length)(e:Em):e.loc.length<=(Am fns gl l n k e).loc.length:=by
 have h0:=h 0 e;unfold Am;split;all_goals try (first|exact Nat.le_refl _|exact h0)
 ·rw[(Qc _ _ _ _ _).2.1];exact Nat.le_refl _
 ·show _<=((k 0 e).loc++[l.s]).length;simp;omega
 ·unfold Mf;have a1:=h 1 e;have a2:(k 1 e).loc.length<=(k 2 ((k 1 e).step 8 0 l.line)).loc.length:=h 2 ((k 1 e).step 8 0 l.line);show _<=(if n=3 then _ else _:Em).loc.length;split
  ·have a3:(k 2 ((k 1 e).step 8 0 l.line)).loc.length<=_:=h 3 (((k 2 ((k 1 e).step 8 0 l.line)).step 6 0 0).land (k 1 e).st.length);omega
  ·show _<=(k 2 ((k 1 e).step 8 0 l.line)).loc.length;omega
 ·unfold N4;show _<=(Em.Iw _ _).loc.length;rw[Va];have a1:e.loc.length<=(k 1 e.open').loc.length:=h 1 e.open';have a2:(k 1 e.open').loc.length<=(k 2 ((k 1 e.open').step 7 0 l.line)).loc.length:=h 2 ((k 1 e.open').step 7 0 l.line);show _<=(k 2 ((k 1 e.open').step 7 0 l.line)).loc.length;omega
 ·split
  ·exact Nat.le_refl _
  ·exact h0
 ·rw[(U2 e).2];exact Nat.le_refl _
 ·rw[(U3 e).2];exact Nat.le_refl _
 ·rw[(Qc _ _ _ _ _).2.1];exact h0
 ·show _<=((k 0 e).loc.take e.loc.length).length;simp;omega
 ·show _<=((k 0 e).loc.take e.loc.length).length;simp;omega
 ·split
  ·unfold No;have a1:=h 1 e;have a2:(k 1 e).loc.length<=(k 2 ((k 1 e).step (binOp (l.kd-100)) 0 l.line)).loc.length:=h 2 ((k 1 e).step (binOp (l.kd-100)) 0 l.line);show _<=(k 2 ((k 1 e).step (binOp (l.kd-100)) 0 l.line)).loc.length;omega
  ·exact h0
theorem A57(fns:List (Nm×Nat))(gl:List Nm):∀(c:BT A2) (m:Nat) (e:Em),e.loc.length<=(em fns gl c m e).loc.length:=by
 intro c;induction c with
 | nil=>intro m e;exact Nat.le_refl _
 | node x y l c r C2 Bl=>
  intro m e;rw[em];split
  ·exact Bl _ _
  ·split
   ·exact Yc _ _ _ _ _ C2 e
   ·exact Nat.le_trans (Yc fns gl l (A8 c) _ C2 e) (Bl _ _)
def Da(e:Em):Prop:=∀x∈e.lps,x.2.length<=e.st.length/\∀j∈x.2,j<e.st.length
theorem Da.up{e e':Em}(h:Da e)(hl:e'.lps=e.lps)(hs:e.st.length<=e'.st.length):Da e':=by
 intro x hx;rw[hl]at hx;exact⟨Nat.le_trans (h x hx).1 hs,fun j hj=>Nat.lt_of_lt_of_le ((h x hx).2 j hj) hs⟩
theorem Da.step{e:Em}(h:Da e)(o:Nat)(a:Int)(ln:Nat):Da (e.step o a ln):=h.up rfl (by rw[Ds];omega)
theorem Da.Kn{e:Em}(h:Da e)(v:PV):Da (e.Kn v):=h.up rfl (by rw[Uw];omega)
theorem Da.land{e:Em}(h:Da e)(j:Nat):Da (e.land j):=h.up rfl (by rw[Lb];exact Nat.le_refl _)
theorem Da.Iw{e:Em}(h:Da e)(l:List Nat):Da (e.Iw l):=h.up (Vb l e) (by rw[T6];exact Nat.le_refl _)
theorem Da.var{e:Em}(h:Da e)(gl:List Nm)(s:Nm)(a b:Nat):Da (e.var gl s a b):=by
 unfold Em.var;split
 ·exact h.step _ _ _
 ·split
  ·exact h.step _ _ _
  ·exact h
theorem Da.M0{e:Em}(h:Da e):Da e.M0:=by
 unfold Em.M0;split
 ·exact h
 ·rename_i s bs r hq;intro x hx;simp only[List.mem_cons]at hx;rcases hx with rfl|hx
  ·have:=h (s,bs) (by rw[hq];simp);simp only at this;refine⟨by simp;omega,fun j hj=>?_⟩;simp only[List.mem_append,List.mem_singleton]at hj;simp only[List.length_append,List.length_singleton];rcases hj with hj|hj
   ·have:=this.2 j hj;omega
   ·omega
  ·have:=h x (by rw[hq];simp[hx]);refine⟨by simp;omega,fun j hj=>?_⟩;have:=this.2 j hj;simp;omega
theorem Da.cnt{e:Em}(h:Da e):Da e.cnt:=by
 unfold Em.cnt;split
 ·exact h
 ·exact h.step _ _ _
theorem Da.open'{e:Em}(h:Da e):Da e.open':=by
 intro x hx;simp only[Em.open',List.mem_cons]at hx;rcases hx with rfl|hx
 ·exact⟨Nat.zero_le _,fun j hj=>by cases hj⟩
 ·exact h x hx
theorem Da.close{e:Em}(h:Da e):Da e.close:=fun x hx=>h x (List.mem_of_mem_tail hx)
theorem Da.cut{e:Em}(h:Da e)(n:Nat):Da (e.cut n):=h
theorem Ya(fns:List (Nm×Nat))(gl:List Nm)(l:A2)(n:Nat)(k:Nat->Em->Em)(h:∀m e,Da e->Da (k m e))(e:Em)(he:Da e):Da (Am fns gl l n k e):=by
 have h0:=h 0 e he;unfold Am;split;all_goals try (first|exact he.Kn _|exact h0|exact h0.step _ _ _|exact h0.cut _)
 ·exact he.var _ _ _ _
 ·unfold Mf;refine Da.land ?_ _;split
  ·exact h _ _ ((((h _ _ ((h _ _ he).step _ _ _)).step _ _ _).land _))
  ·exact((h _ _ ((h _ _ he).step _ _ _)).step _ _ _).land _
 ·unfold N4;exact(((((h _ _ ((h _ _ he.open').step _ _ _)).step _ _ _).land _).Iw _).close)
 ·split
  ·exact he.step _ _ _
  ·exact h0.step _ _ _
 ·exact he.M0
 ·exact he.cnt
 ·exact h0.var _ _ _ _
 ·split
  ·unfold No;exact((h _ _ ((h _ _ he).step _ _ _)).step _ _ _).land _
  ·exact h0.step _ _ _
theorem T0(fns:List (Nm×Nat))(gl:List Nm):∀(c:BT A2) (m:Nat) (e:Em),Da e->Da (em fns gl c m e):=by
 intro c;induction c with
 | nil=>intro m e h;exact h
 | node x y l c r C2 Bl=>
  intro m e h;rw[em];split
  ·exact Bl _ _ h
  ·split
   ·exact Ya _ _ _ _ _ C2 e h
   ·exact Bl _ _ (Ya fns gl l (A8 c) _ C2 e h)
theorem Sz(fns:List (Nm×Nat))(gl:List Nm)(l:A2)(c:BT A2)(e:Em)(h:Da e):Da (Am fns gl l (A8 c) (em fns gl c) e):=T0 fns gl (nd l c) 0 e h
theorem A6l:∀(a b:List Nat) (e:Em),e.Iw (a++b)=(e.Iw a).Iw b:=by
 intro a;induction a with
 | nil=>intro b e;rfl
 | cons x r ih=>intro b e;exact ih b (e.land x)
theorem A6m(bs:List Nat)(i:Nat)(h:i<bs.length)(e:Em):e.Iw (bs.take (i+1))=(e.Iw (bs.take i)).land bs[i]:=by
 rw[List.take_succ_eq_append_getElem h,A6l];rfl
def O3:BT A2->Prop
 | .nil=>True
 | .node _ _ l c r=>(if l.kd=20 then Lp c 0 else Lp (nd l c) 0)/\O3 r
theorem A8v:∀(ps:List (Nat×Nm)) (cur:List Nm) (f:B3),(Ge ps cur f).2.1=0->f.1=0:=by
 intro ps;induction ps with
 | nil=>intro cur f h;exact h
 | cons p r ih=>
  intro cur f h;rw[Ge]at h;exact(Qe (by omega) (ih _ _ h)).1
theorem Aas(fns:List (Nm×Nat)):∀(c:BT A2) (seen cur:List Nm) (f:B3),(Dj fns c seen cur f).1=0->f.1=0/\O3 c:=by
 intro c;induction c with
 | nil=>intro seen cur f h;exact⟨h,trivial⟩
 | node x y l c r C2 Bl=>
  intro seen cur f h;rw[Dj]at h;by_cases h20:l.kd=20
  ·rw[if_pos h20]at h;obtain⟨a1,a2⟩:=Bl _ _ _ h;obtain⟨b1,b2⟩:=o7 fns c _ _ _ _ _ a1;have b3:=A8v _ _ _ b1;exact⟨(Qe (by omega) b3).1,by rw[if_pos h20];exact b2,a2⟩
  ·rw[if_neg h20]at h;obtain⟨a1,a2⟩:=Bl _ _ _ h;obtain⟨b1,b2⟩:=o7 fns (.node x y l c .nil) _ _ _ _ _ a1;exact⟨b1,by rw[if_neg h20];exact⟨b2.1,b2.2.1,trivial⟩,a2⟩
def Js(l:List UInt8):B3×Option (BT A2):=
 if 2000<l.length then((1,0),none)
 else match lex (l.length+1) l 1 false with
  | .inl n=>((2,n),none)
  | .inr ts=>
   match A7 100000 10 0 .nil ⟨ts,0⟩ with
   | none=>((0,0),none)
   | some r=>
    if r.2.bad≠0 then((2,r.2.bad),none)
    else if nest ts 0≠0 then((1,nest ts 0),none)
    else if(Dj (Bf r.1) r.1 [] [] (0,0)).1≠0 then(Dj (Bf r.1) r.1 [] [] (0,0),none)
    else((0,0),some r.1)
def Ul(l:List UInt8):Prop:=∀ts,lex (l.length+1) l 1 false=.inr ts->∃r,A7 100000 10 0 .nil ⟨ts,0⟩=some r/\(r.2.bad=0->bsize r.1<=4002)
theorem Yh(fns:List (Nm×Nat))(gl:List Nm):∀(c:BT A2),Wf 2 c\/Wf 3 c->∀(m:Nat) (e:Em),e.loc=[]->(em fns gl c m e).loc=[]:=by
 intro c;induction c with
 | nil=>intro _ m e h;exact h
 | node x y l c r C2 Bl=>
  intro hw m e he;have hr:Wf 2 r\/Wf 3 r:=hw.imp (fun h=>h.1) (fun h=>h.1);have hx:(Jz l.kd=true/\Wf 0 c)\/l.kd=31\/l.kd=32:=by
   rcases hw with h|h
   ·rcases h.2 with⟨_,h1,h2⟩|⟨_,h1,_⟩|⟨h1,_⟩|⟨h1,_⟩|⟨h1,_⟩|⟨h1,_⟩|⟨h1,_⟩
    ·exact .inl ⟨h1,h2⟩
    ·exact .inr (.inl h1)
    all_goals omega
   ·rcases h.2 with⟨_,h1,h2⟩|⟨h1,_⟩|⟨_,h1,_⟩|⟨h1,_⟩|⟨h1,_⟩|⟨h1,_⟩|⟨h1,_⟩
    ·exact .inl ⟨h1,h2⟩
    ·omega
    ·exact .inr (.inr h1)
    all_goals omega
  have hN:∀e:Em,e.loc=[]->(Am fns gl l (A8 c) (em fns gl c) e).loc=[]:=by
   intro e he;rcases hx with⟨h1,h2⟩|h1|h1
   ·rw[(O6 fns gl l c h1 h2 e).2.1];exact he
   ·rw[Sy h1,he];rfl
   ·rw[Y2 h1,he];rfl
  rw[em];split
  ·exact Bl hr _ _ he
  ·split
   ·exact hN e he
   ·exact Bl hr _ _ (hN e he)
theorem A53(fns:List (Nm×Nat))(gl:List Nm)(l:A2)(c:BT A2)(hw:Wf 1 (nd l c))(h21:l.kd≠21)(e:Em)(he:e.loc=[])(hl:e.lps=[]):∃slots st,Am fns gl l (A8 c) (em fns gl c) e=⟨[],slots,st,[]⟩:=by
 have h1:(Am fns gl l (A8 c) (em fns gl c) e).lps=[]:=by
  have:=Yd fns gl l c e;rw[hl]at this;exact List.length_eq_zero_iff.1 this
 have h2:(Am fns gl l (A8 c) (em fns gl c) e).loc=[]:=by
  rcases hw.2 with⟨h0,_⟩|⟨h0,_⟩|⟨h0,_⟩|⟨_,hk,hw⟩|⟨_,hk,hw⟩|⟨_,hk,hw⟩|⟨h0,_⟩
  ·omega
  ·omega
  ·omega
  ·rw[Xs hk];unfold Mf;have k:=Yh fns gl c (.inl hw);show(if A8 c=3 then _ else _:Em).loc=[];split
   ·exact k 3 _ (k 2 _ (k 1 e he))
   ·exact k 2 _ (k 1 e he)
  ·rw[Xt hk];unfold N4;have k:=Yh fns gl c (.inr hw);show(Em.Iw _ _).loc=[];rw[Va];exact k 2 _ (k 1 _ he)
  ·have k:(em fns gl c 0 e).loc=[]:=by rw[(Yi fns gl c hw 0 e).2.1];exact he
   unfold Qa at hk;simp only[Bool.or_eq_true,Bool.and_eq_true,decide_eq_true_eq,beq_iff_eq]at hk;have hc:l.kd=24\/l.kd=25\/l.kd=26\/l.kd=27\/l.kd=28\/l.kd=29\/l.kd=30:=by omega
   rcases hc with h|h|h|h|h|h|h
   ·rw[Xu h];split
    ·exact he
    ·exact k
   ·rw[Xv h,(U2 e).2];exact he
   ·rw[Xw h,(U3 e).2];exact he
   ·rw[Xx h];exact k
   ·rw[Xy h,(Qc _ _ _ _ _).2.1];exact k
   ·rw[Xz h];exact k
   ·rw[Y1 h];exact k
  ·omega
 generalize Am fns gl l (A8 c) (em fns gl c) e=q at *;obtain⟨a,b,c,d⟩:=q;simp only at h1 h2;subst h1 h2;exact⟨b,c,rfl⟩
end
end Go.Proofs.YtjdlndhfaaolaaaGreatDoor
