import Derived.Test.YtjdlndhfaaolaaaGreatDoorT03
import Derived.Test.YtjdlndhfaaolaaaGreatDoorT06
set_option maxHeartbeats 20000000
namespace Go.Proofs.YtjdlndhfaaolaaaGreatDoor
section
open Go.RowKit
open Go.Deep (BT)
structure A9 (b : Nat) (w w' : World) : Prop where
 os:w'.os=w.os
 tape:w'.tape=w.tape
 output:w'.output=w.output
 size:w.heap.size<=w'.heap.size
 block:∀k,k<w.heap.size->k≠b->w'.heap[k]?=w.heap[k]?
theorem A9.refl(b:Nat)(w:World):A9 b w w:=⟨rfl,rfl,rfl,Nat.le_refl _,fun _ _ _=>rfl⟩
theorem A9.trans{b:Nat}{x y z:World}(h:A9 b x y)(k:A9 b y z):A9 b x z:=
 ⟨k.os.trans h.os,k.tape.trans h.tape,k.output.trans h.output,Nat.le_trans h.size k.size,fun i hi hb=>(k.block i (Nat.lt_of_lt_of_le hi h.size) hb).trans (h.block i hi hb)⟩
theorem Below.only{b:Nat}{w w':World}(h:Below w.heap.size w w'):A9 b w w':=⟨h.os,h.tape,h.output,h.size,fun k hk _=>h.block k hk⟩
theorem A9.drew{b:Nat}{x w:World}(h:A9 b x w):A9 b x w.drew:=⟨h.os,h.tape,h.output,h.size,h.block⟩
theorem A9.alloc{b:Nat}{x w:World}(h:A9 b x w)(o:Obj):A9 b x (w.alloc o):=
 h.trans ⟨rfl,rfl,rfl,by simp,fun k hk _=>Below.heap_alloc _ _ _ hk⟩
theorem A9.set{b:Nat}{x w:World}(h:A9 b x w){p:Addr}(hp:p.block=b\/x.heap.size<=p.block)(u:Value):A9 b x (w.setCell p u):=
 ⟨h.os,h.tape,h.output,by simp[World.setCell];exact h.size,fun k hk hb=>(Below.heap_setCell _ _ _ _ (by rcases hp with e|e <;> omega)).trans (h.block k hk hb)⟩
theorem A9.grown{b:Nat}{x w w':World}{row:Option Nat}(h:A9 b x w)(hg:w.grownBy w' row)(hr:∀k,row=some k->k=b\/x.heap.size<=k):A9 b x w':=
 ⟨hg.os.trans h.os,hg.tape.trans h.tape,hg.output.trans h.output,Nat.le_trans h.size hg.size,fun k hk hb=>(hg.block k (Nat.lt_of_lt_of_le hk h.size) (fun e=>by rcases hr k e.symm with e|e <;> omega)).trans (h.block k hk hb)⟩
def Cz(D:Nat->Prop)(w:World)(e:TypeId)(size:Nat)(v:Value)(n:Nat)(cs:List Value):Prop:=w.ownsRow 0 e size v n cs/\∀g,v.ownBlock=some g->D g
theorem Cz.keep{D D':Nat->Prop}{w w':World}{e:TypeId}{size:Nat}{v:Value}{n:Nat}{cs:List Value}(h:Cz D w e size v n cs)
  (hk:∀g,D g->g<w.heap.size->w'.heap[g]?=w.heap[g]?/\D' g):Cz D' w' e size v n cs:=
 ⟨B8 h.1 fun g hg hl=>(hk g (h.2 g hg) hl).1,fun g hg=>(hk g (h.2 g hg) (Bs h.1 g hg)).2⟩
end
section
open Go.RowKit
theorem Bh{w:World}{g:Nat}{cs:Array Value}{t:TypeId}(h:w.heap[g]?=some (.cells cs t (0,0)))(o:Nat):w.frozen? ⟨g,o,none⟩=false:=by
 simp[World.frozen?,h]
theorem A2{w:World}{g:Nat}{cs:Array Value}{t:TypeId}{fr:Nat×Nat}(h:w.heap[g]?=some (.cells cs t fr))(o:Nat)(u:Value)(hu:cs[o]?=some u):w.cell? ⟨g,o,none⟩=some u:=by
 rw[cell_of_row w g o cs t fr h];exact hu
theorem heap_set{w:World}{b j:Nat}{cs:Array Value}{t:TypeId}{fr:Nat×Nat}(h:w.heap[b]?=some (.cells cs t fr))(u:Value):(w.setCell ⟨b,j,none⟩ u).heap[b]?=some (.cells (cs.setIfInBounds j u) t fr):=by
 simp[World.setCell,Array.getElem?_modify,h]
theorem E4{w:World}{g:Nat}{a0 a1 a2 a3:Value}{t:TypeId}(h:w.heap[g]?=some (.cells #[a0,a1,a2,a3] t (0,0))) :
  w.cell? ⟨g,0,none⟩=some a0/\w.cell? ⟨g,1,none⟩=some a1/\w.cell? ⟨g,2,none⟩=some a2/\w.cell? ⟨g,3,none⟩=some a3/\(∀o,w.frozen? ⟨g,o,none⟩=false)/\g<w.heap.size:=
 ⟨A2 h 0 _ rfl,A2 h 1 _ rfl,A2 h 2 _ rfl,A2 h 3 _ rfl,Bh h,A5 h⟩
theorem Td{w:World}{g:Nat}{a0 a1 a2 a3 a4 a5:Value}{t:TypeId}(h:w.heap[g]?=some (.cells #[a0,a1,a2,a3,a4,a5] t (0,0))) :
  w.cell? ⟨g,0,none⟩=some a0/\w.cell? ⟨g,1,none⟩=some a1/\w.cell? ⟨g,2,none⟩=some a2/\w.cell? ⟨g,3,none⟩=some a3/\w.cell? ⟨g,4,none⟩=some a4/\w.cell? ⟨g,5,none⟩=some a5/\(∀o,w.frozen? ⟨g,o,none⟩=false)/\g<w.heap.size:=
 ⟨A2 h 0 _ rfl,A2 h 1 _ rfl,A2 h 2 _ rfl,A2 h 3 _ rfl,A2 h 4 _ rfl,A2 h 5 _ rfl,Bh h,A5 h⟩
theorem A9.blk{b:Nat}{w w':World}(h:A9 b w w'){g:Nat}{o:Obj}(hg:w.heap[g]?=some o)(hb:g≠b):w'.heap[g]?=some o:=(h.block g (A5 hg) hb).trans hg
theorem Fu{w w':World}(h:Below w.heap.size w w'){g:Nat}{o:Obj}(hg:w.heap[g]?=some o):w'.heap[g]?=some o:=(h.block g (A5 hg)).trans hg
theorem alloc_old{w:World}{g:Nat}{o o':Obj}(hg:w.heap[g]?=some o):(w.alloc o').heap[g]?=some o:=(Below.heap_alloc w o' g (A5 hg)).trans hg
theorem A3o{w:World}{g:Nat}{o:Obj}{p:Addr}{u:Value}(hg:w.heap[g]?=some o)(hp:g≠p.block):(w.setCell p u).heap[g]?=some o:=(Below.heap_setCell w p u g hp).trans hg
theorem A9.I5{b:Nat}{x w:World}(h:A9 b x w){g:Nat}(hg:x.heap.size<=g)(u0 u1 u2 u3:Value):A9 b x ((((w.setCell ⟨g,0,none⟩ u0).setCell ⟨g,1,none⟩ u1).setCell ⟨g,2,none⟩ u2).setCell ⟨g,3,none⟩ u3):=(A9.set (p:=⟨g,3,none⟩) (A9.set (p:=⟨g,2,none⟩) (A9.set (p:=⟨g,1,none⟩) (A9.set (p:=⟨g,0,none⟩) h (.inr hg) u0) (.inr hg) u1) (.inr hg) u2) (.inr hg) u3)
theorem He{w:World}{k g:Nat}(hp:k≠g)(u0 u1 u2 u3:Value):((((w.setCell ⟨g,0,none⟩ u0).setCell ⟨g,1,none⟩ u1).setCell ⟨g,2,none⟩ u2).setCell ⟨g,3,none⟩ u3).heap[k]?=w.heap[k]?:=by
 rw[Below.heap_setCell _ _ _ _ (by exact hp)];rw[Below.heap_setCell _ _ _ _ (by exact hp)];rw[Below.heap_setCell _ _ _ _ (by exact hp)];rw[Below.heap_setCell _ _ _ _ (by exact hp)]
end
section
def Pf(k:Nat):List UInt8->Option (Tk×Nat)
 | []=>some (⟨0,0,[],0⟩,k)
 | c::r=>(F7 (c::r)).map fun x=>(x.1,k+x.2)
def Fy(l:List UInt8):Nat×Option (Tk×Nat):=((Bd false l).2.1,if(Bd false l).2.2 then Pf (Bd false l).1 (l.drop (Bd false l).1) else none)
def N3(acc:List Tk):Nat ⊕ List Tk->Nat ⊕ List Tk
 | .inl n=>.inl n
 | .inr ts=>.inr (acc++ts)
theorem Ahq(x:Nat ⊕ List Tk):N3 [] x=x:=by cases x <;> rfl
theorem Ahp(a b:List Tk)(x:Nat ⊕ List Tk):N3 a (N3 b x)=N3 (a++b) x:=by cases x <;> simp[N3]
theorem Aox{c:UInt8}(r:List UInt8)(h:Gu c=false):F7 (c::r)=none:=by
 have hn:¬(32<=c.toNat/\c.toNat<=126):=by
  intro e;rw[Gu,decide_eq_true e.1,decide_eq_true e.2]at h;cases h
 have hd:Df c=false:=by
  rw[Df];by_cases h1:48<=c.toNat
  ·rw[decide_eq_false (show ¬c.toNat<=57 by omega)];simp
  ·rw[decide_eq_false h1];rfl
 have hl:isLet c=false:=by
  rw[isLet];rw[Bool.or_eq_false_iff];constructor
  ·by_cases h1:97<=c.toNat
   ·rw[decide_eq_false (show ¬c.toNat<=122 by omega)];simp
   ·rw[decide_eq_false h1];rfl
  ·by_cases h1:65<=c.toNat
   ·rw[decide_eq_false (show ¬c.toNat<=90 by omega)];simp
   ·rw[decide_eq_false h1];rfl
 have hc:∀d:UInt8,32<=d.toNat->d.toNat<=126->(c==d)=false:=by
  intro d h1 h2;rw[beq_eq_false_iff_ne];intro e;subst e;exact hn ⟨h1,h2⟩
 have Al:Ip c=0:=by
  unfold Ip;simp only[hc 40 z52a z52a,hc 41 z52a z52a,hc 123 z52a z52a,hc 125 z52a z52a,hc 91 z52a z52a,hc 93 z52a z52a,hc 44 z52a z52a,hc 59 z52a z52a,hc 61 z52a z52a,hc 33 z52a z52a,hc 60 z52a z52a,hc 62 z52a z52a,hc 43 z52a z52a,hc 45 z52a z52a,hc 42 z52a z52a,hc 47 z52a z52a,hc 37 z52a z52a,Bool.false_eq_true,if_false]
 have B5:∀d,Ka c d=0:=by
  intro d;unfold Ka;simp only[hc 61 z52a z52a,hc 33 z52a z52a,hc 60 z52a z52a,hc 62 z52a z52a,hc 38 z52a z52a,hc 124 z52a z52a,Bool.false_and,Bool.false_eq_true,if_false]
 have hsg:(Gn (c::r))=(0,0):=by
  cases r with
  | nil=>rw[Gn,Al];rfl
  | cons d r=>rw[Gn,B5,Al];rfl
 rw[F7];simp only[hd,hl,hc 34 z52a z52a,hsg,Bool.false_eq_true,if_false];rfl
theorem A1b:∀(l:List UInt8) (f ln:Nat) (sd:Bool),l.length<f->
  lex f l ln sd=if(Bd sd l).2.2 then lex (f-(Bd sd l).1) (l.drop (Bd sd l).1) (ln+(Bd sd l).2.1) false else .inl (ln+(Bd sd l).2.1):=by
 intro l;induction l with
 | nil=>
  intro f ln sd hf;obtain⟨f,rfl⟩:∃g,f=g+1:=⟨f-1,by simp at hf;omega⟩;cases sd <;> simp[Bd,lex]
 | cons c r ih=>
  intro f ln sd hf;obtain⟨f,rfl⟩:∃g,f=g+1:=⟨f-1,by simp at hf;omega⟩;have hf':r.length<f:=by simp at hf;omega
  rw[lex];by_cases h10:(c==10)=true
  ·rw[if_pos h10];have hk:Bd sd (c::r)=((Bd false r).1+1,(Bd false r).2.1+1,(Bd false r).2.2):=by
    cases sd <;> rw[Bd,if_pos h10]
   rw[hk,ih f (ln+1) false hf'];simp only[List.drop_succ_cons,Nat.add_sub_add_right,show ∀a,ln+1+a=ln+(a+1) from fun a=>by omega]
  ·rw[if_neg h10];by_cases hb:(c !=9&&!(Gu c))=true
   ·rw[if_pos hb];have h9:c≠9:=by intro e;subst e;exact absurd hb z52a
    have hp:Gu c=false:=by
     cases hq:Gu c
     ·rfl
     ·rw[hq]at hb;simp at hb
    cases sd with
    | true=>rw[Bd,if_neg h10,if_pos hb];rfl
    | false=>
     have h32:c≠32:=by intro e;subst e;exact absurd hp z52a
     have h47:c≠47:=by intro e;subst e;exact absurd hp z52a
     have hk:Bd false (c::r)=(0,0,true):=A3w (by simpa using h10) h32 h9 (fun e=>h47 e.1);rw[hk];simp only[if_true,List.drop_zero,Nat.sub_zero,Nat.add_zero];rw[lex,if_neg h10,if_pos hb]
   ·rw[if_neg hb];cases sd with
    | true=>
     rw[if_pos z56a,Bd,if_neg h10,if_neg hb];simp only[Bool.true_or,List.drop_succ_cons,Nat.add_sub_add_right];exact ih f ln true hf'
    | false=>
     by_cases hs:(c==32||c==9)=true
     ·have h47:(c==47)=false:=by
       rw[beq_eq_false_iff_ne];intro e;subst e;exact absurd hs z52a
      rw[if_pos (by simp only[Bool.false_or,Bool.or_eq_true];simp only[Bool.or_eq_true]at hs;rcases hs with h|h;exact .inr h;exact .inl (.inr h))];rw[Bd,if_neg h10,if_pos hs];simp only[h47,Bool.false_and,Bool.or_false,List.drop_succ_cons,Nat.add_sub_add_right];exact ih f ln false hf'
     ·by_cases hr:(c==47&&r.head?==some 47)=true
      ·rw[if_pos (by rw[hr];simp),Bd,if_neg h10,if_neg hs,if_pos hr];simp only[hr,Bool.false_or,List.drop_succ_cons,Nat.add_sub_add_right];exact ih f ln true hf'
      ·have hk:Bd false (c::r)=(0,0,true):=by rw[Bd,if_neg h10,if_neg hs,if_neg hr]
       rw[hk];simp only[if_true,List.drop_zero,Nat.sub_zero,Nat.add_zero];rw[lex,if_neg h10,if_neg hb]
theorem Afq:∀(f:Nat) (l:List UInt8) (g ln:Nat) (sd:Bool),l.length<f->l.length<g->lex f l ln sd=lex g l ln sd:=by
 intro f;induction f with
 | zero=>intro l g ln sd h;omega
 | succ f ih=>
  intro l g ln sd hf hg;obtain⟨g,rfl⟩:∃h,g=h+1:=⟨g-1,by omega⟩;cases l with
  | nil=>rw[lex,lex]
  | cons c r=>
   have h1:r.length<f:=by simp at hf;omega
   have h2:r.length<g:=by simp at hg;omega
   rw[lex,lex];split
   ·exact ih _ _ _ _ h1 h2
   split
   ·rfl
   split
   ·exact ih _ _ _ _ h1 h2
   cases ht:F7 (c::r) with
   | none=>rfl
   | some x=>
    obtain⟨t,n⟩:=x;have hn:=(V1 c r t n ht).2.2;have hd:((c::r).drop n).length<=r.length:=by simp;omega
    simp only;rw[ih ((c::r).drop n) g ln false z51a z51a]
theorem z6xa {P:Prop} (h:P:=by simpa using hd):P:=h
theorem A3v:∀(l:List UInt8) (sd:Bool),(Bd sd l).2.2=true->∀c r,l.drop (Bd sd l).1=c::r->c≠10/\c≠32/\c≠9/\¬(c=47/\r.head?=some 47):=by
 intro l;induction l with
 | nil=>intro sd _ c r h;simp at h
 | cons d q ih=>
  intro sd h c r hd;cases sd with
  | true=>
   rw[Bd]at h hd;split at h
   ·rename_i h1;rw[if_pos h1]at hd;exact ih false h c r z6xa
   ·rename_i h1;rw[if_neg h1]at hd;split at h
    ·cases h
    ·rename_i h2;rw[if_neg h2]at hd;exact ih true h c r z6xa
  | false=>
   rw[Bd]at h hd;split at h
   ·rename_i h1;rw[if_pos h1]at hd;exact ih false h c r z6xa
   ·rename_i h1;rw[if_neg h1]at hd;split at h
    ·rename_i h2;rw[if_pos h2]at hd;exact ih false h c r z6xa
    ·rename_i h2;rw[if_neg h2]at hd;split at h
     ·rename_i h3;rw[if_pos h3]at hd;exact ih true h c r z6xa
     ·rename_i h3;rw[if_neg h3]at hd;simp only[List.drop_zero,List.cons.injEq]at hd;obtain⟨rfl,rfl⟩:=hd;simp only[Bool.or_eq_true,beq_iff_eq,not_or]at h2;simp only[Bool.and_eq_true,beq_iff_eq]at h3;exact⟨by simpa using h1,h2.1,h2.2,h3⟩
theorem z5qa {P:Prop} (h:P:=by simp only[Bool.false_or,Bool.or_eq_true,Bool.and_eq_true,beq_iff_eq];rintro((h|h)|h);exact h47 h;exact h9 h;exact h32 h):P:=h
theorem Aga(l:List UInt8)(ln:Nat)(h:(Fy l).2=none):lex (l.length+1) l ln false=.inl (ln+(Fy l).1):=by
 rw[A1b l _ ln false z51a];have hle:=(Y6 l false).1;unfold Fy at h ⊢;cases hs:(Bd false l).2.2 with
 | false=>simp
 | true=>
  simp only[hs,if_true]at h ⊢;cases hd:l.drop (Bd false l).1 with
  | nil=>rw[hd,Pf]at h;cases h
  | cons c r=>
   rw[hd,Pf]at h;have ht:F7 (c::r)=none:=by
    cases ht:F7 (c::r) with
    | none=>rfl
    | some x=>rw[ht]at h;cases h
   obtain⟨f,hf⟩:∃f,l.length+1-(Bd false l).1=f+1:=⟨l.length-(Bd false l).1,by omega⟩;obtain⟨h10,h32,h9,h47⟩:=A3v l false hs c r hd;rw[hf,lex,if_neg (by simpa using h10)];by_cases hp:Gu c=true
   ·rw[if_neg (by simp[hp]),if_neg z5qa,ht]
   ·have hp':Gu c=false:=by simpa using hp
    rw[if_pos (by simp[hp',h9])]
theorem Agb(l:List UInt8)(ln:Nat)(x:Tk×Nat)(h:(Fy l).2=some x):lex (l.length+1) l ln false=(if x.1.k=0 then .inr [⟨0,ln+(Fy l).1,[],0⟩] else N3 [⟨x.1.k,ln+(Fy l).1,x.1.s,x.1.n⟩] (lex ((l.drop x.2).length+1) (l.drop x.2) (ln+(Fy l).1) false))/\x.2<=l.length/\(x.1.k=0->x.1=⟨0,0,[],0⟩)/\(x.1.k≠0->1<=x.2)/\(Fy l).1<=x.2:=by
 rw[A1b l _ ln false z51a];have hle:=Y6 l false;unfold Fy at h ⊢;cases hs:(Bd false l).2.2 with
 | false=>rw[hs]at h;cases h
 | true=>
  simp only[hs,if_true]at h ⊢;cases hd:l.drop (Bd false l).1 with
  | nil=>
   rw[hd,Pf]at h;obtain rfl:=Option.some.inj h;have hl:l.length+1-(Bd false l).1=1:=by
    have:=congrArg List.length hd;simp at this;omega
   rw[if_pos rfl,hl,lex];exact⟨rfl,hle.1,fun _=>rfl,fun e=>absurd rfl e,hle.2⟩
  | cons c r=>
   have hlen:(c::r).length=l.length-(Bd false l).1:=by rw[←hd];simp
   rw[hd,Pf]at h;cases ht:F7 (c::r) with
   | none=>rw[ht]at h;cases h
   | some y=>
    rw[ht]at h;obtain⟨t,n⟩:=y;obtain rfl:(t,(Bd false l).1+n)=x:=Option.some.inj h;obtain⟨k1,_,k3⟩:=V1 c r t n ht;have hn:=Aoy (c::r) t n ht;obtain⟨f,hf⟩:∃f,l.length+1-(Bd false l).1=f+1:=⟨l.length-(Bd false l).1,by omega⟩;obtain⟨h10,h32,h9,h47⟩:=A3v l false hs c r hd;refine⟨?_,by simp only;omega,fun e=>absurd e (by simp only;omega),fun _=>by simp only;omega,by simp only;omega⟩;have hp:Gu c=true:=by
     cases hp:Gu c with
     | true=>rfl
     | false=>rw[Aox r hp]at ht;cases ht
    rw[hf,lex,if_neg (by simpa using h10),if_neg (by simp[hp]),if_neg z5qa,ht];have hdn:(c::r).drop n=l.drop ((Bd false l).1+n):=by rw[←hd,List.drop_drop]
    have hll:(l.drop ((Bd false l).1+n)).length<f:=by
     simp only[List.length_drop];simp only[List.length_cons]at hlen;omega
    simp only;rw[if_neg z51a,hdn,Afq f _ ((l.drop ((Bd false l).1+n)).length+1) _ _ hll z51a];cases lex ((l.drop ((Bd false l).1+n)).length+1) (l.drop ((Bd false l).1+n)) (ln+(Bd false l).2.1) false <;> rfl
end
section
open Go.Deep (BT)
theorem z64a {P:Prop} (h:P:=by simpa using hj):P:=h
theorem A16(s:Nm):∀(l:List Nm),(∀j (h:j<l.length),l[j]≠s)->Nt s l=none:=by
 intro l;induction l with
 | nil=>intro _;rfl
 | cons x r ih=>
  intro h;have h1:=ih (fun j hj=>by have:=h (j+1) z64a;simpa using this);have h0:=h 0 z56a;simp only[List.getElem_cons_zero]at h0;rw[Nt,h1];simp[h0]
theorem Afb(s:Nm):∀(l:List Nm) (i:Nat) (hi:i<l.length),l[i]=s->(∀j (h:j<l.length),i<j->l[j]≠s)->Nt s l=some i:=by
 intro l;induction l with
 | nil=>intro i hi;simp at hi
 | cons x r ih=>
  intro i hi he hn;cases i with
  | zero=>
   have h1:=A16 s r (fun j hj=>by have:=hn (j+1) z64a z51a;simpa using this);simp only[List.getElem_cons_zero]at he;rw[Nt,h1];simp[he]
  | succ i=>
   have h1:=ih i (by simpa using hi) (by simpa using he) (fun j hj hij=>by have:=hn (j+1) z64a z51a;simpa using this);rw[Nt,h1]
theorem A0e(s:Nm):∀(l:List Nm),(∀j (h:j<l.length),l[j]≠s)->Nq s l=none:=by
 intro l;induction l with
 | nil=>intro _;rfl
 | cons x r ih=>
  intro h;have h1:=ih (fun j hj=>by have:=h (j+1) z64a;simpa using this);have h0:=h 0 z56a;simp only[List.getElem_cons_zero]at h0;rw[Nq,if_neg h0,h1]
theorem A0f(s:Nm):∀(l:List Nm) (i:Nat) (hi:i<l.length),l[i]=s->(∀j (h:j<l.length),j<i->l[j]≠s)->Nq s l=some i:=by
 intro l;induction l with
 | nil=>intro i hi;simp at hi
 | cons x r ih=>
  intro i hi he hn;cases i with
  | zero=>
   simp only[List.getElem_cons_zero]at he;rw[Nq,if_pos he]
  | succ i=>
   have h0:=hn 0 z56a z51a;simp only[List.getElem_cons_zero]at h0;have h1:=ih i (by simpa using hi) (by simpa using he) (fun j hj hij=>by have:=hn (j+1) z64a z51a;simpa using this);rw[Nq,if_neg h0,h1]
def Es(i:Af):List Value:=[.int .i64 (i.op:Nat),.int .i64 i.arg,.int .i64 (i.line:Nat),.int .i64 (i.v.k:Nat),.bool i.v.y,.int .i64 i.v.n,.string ⟨i.v.t.toArray⟩,.pointer none]
def El(st:List Af):List Value:=st.flatMap Es
theorem Ae3(a b:List Af):El (a++b)=El a++El b:=by simp[El]
theorem Ae6(i:Af):El [i]=Es i:=by simp[El]
theorem Ae5(st:List Af):(El st).length=st.length*8:=by
 induction st with
 | nil=>rfl
 | cons x r ih=>
  have e:El (x::r)=Es x++El r:=by simp[El]
  rw[e,List.length_append,ih];have hl:(Es x).length=8:=rfl;rw[hl,List.length_cons];omega
theorem Ru(a:Int):∀(st:List Af) (j:Nat),(M8 j a st).length=st.length:=by
 intro st;induction st with
 | nil=>intro j;cases j <;> rfl
 | cons x r ih=>
  intro j;cases j with
  | zero=>rfl
  | succ j=>rw[M8,List.length_cons,ih,List.length_cons]
theorem z68a {P:Prop} (h:P:=by simpa using h):P:=h
theorem Ae4(a:Int):∀(st:List Af) (j:Nat),j<st.length->El (M8 j a st)=(El st).set (j*8+1) (.int .i64 a):=by
 intro st;induction st with
 | nil=>intro j h;simp at h
 | cons x r ih=>
  intro j h;have e:El (x::r)=Es x++El r:=by simp[El]
  have hl:(Es x).length=8:=rfl;cases j with
  | zero=>
   rw[M8,e,List.set_append_left _ _ z51a];simp[El,Es]
  | succ j=>
   rw[M8,e];have e2:El (x::M8 j a r)=Es x++El (M8 j a r):=by simp[El]
   rw[e2,ih j z68a,List.set_append_right _ _ z51a,hl,show(j+1)*8+1-8=j*8+1 by omega]
def G8:BT A6->Nat->Nat
 | .nil,_=>0
 | .node _ _ l c r,m=>if 2<=m then G8 r (m-1) else bsize (nd l c)
theorem Xp(m:Nat):G8 .nil m=0:=by cases m <;> rfl
theorem A32(c:BT A6):G8 c 1+G8 c 2+G8 c 3<=bsize c:=by
 cases c with
 | nil=>simp[Xp]
 | node x y l c r=>
  have h1:G8 (.node x y l c r) 1=bsize (nd l c):=rfl;have h2:G8 (.node x y l c r) 2=G8 r 1:=rfl;have h3:G8 (.node x y l c r) 3=G8 r 2:=rfl;rw[h1,h2,h3,Co];simp only[bsize];cases r with
  | nil=>simp[Xp]
  | node x y l c r=>
   have h1:G8 (.node x y l c r) 1=bsize (nd l c):=rfl;have h2:G8 (.node x y l c r) 2=G8 r 1:=rfl;rw[h1,h2,Co];simp only[bsize];cases r with
   | nil=>simp[Xp]
   | node x y l c r=>
    have h1:G8 (.node x y l c r) 1=bsize (nd l c):=rfl;rw[h1,Co];simp only[bsize];omega
theorem Dy(o:Nat)(a:Int)(ln:Nat)(e:Em):(e.step o a ln).st.length=e.st.length+1:=by simp[Em.step]
theorem Vy(v:PV)(e:Em):(e.Ja v).st.length=e.st.length+1:=by simp[Em.Ja]
theorem Jy(j:Nat)(e:Em):(e.land j).st.length=e.st.length:=Ru _ _ _
theorem U0:∀(l:List Nat) (e:Em),(e.Hv l).st.length=e.st.length:=by
 intro l;induction l with
 | nil=>intro e;rfl
 | cons j r ih=>intro e;rw[Em.Hv,ih,Jy]
theorem z4ia {P:Prop} (h:P:=by
  exact Nat.le_refl _):P:=h
theorem A4k(gl:List Nm)(s:Nm)(a b:Nat)(e:Em):(e.var gl s a b).st.length<=e.st.length+1:=by
 unfold Em.var;split
 ·rw[Dy];exact z4ia
 ·split
  ·rw[Dy];exact z4ia
  ·omega
theorem A9h(e:Em):e.Kt.st.length<=e.st.length+1:=by
 unfold Em.Kt;split
 ·omega
 ·simp
theorem Aae(e:Em):e.cnt.st.length<=e.st.length+1:=by
 unfold Em.cnt;split
 ·omega
 ·rw[Dy];exact z4ia
theorem Abt(fns:List (Nm×Nat))(gl:List Nm)(l:A6)(n s s1 s2 s3:Nat)(k:Nat->Em->Em)(h0:∀e,(k 0 e).st.length<=e.st.length+2*s)(h1:∀e,(k 1 e).st.length<=e.st.length+2*s1)(h2:∀e,(k 2 e).st.length<=e.st.length+2*s2)(h3:∀e,(k 3 e).st.length<=e.st.length+2*s3)(hs:s1+s2+s3<=s)(e:Em) :
  (As fns gl l n k e).st.length<=e.st.length+2*(1+s):=by
 have g0:=h0 e;unfold As;split;all_goals try (first|(rw[Vy];omega)|(rw[Dy];omega)|omega)
 ·have:=A4k gl l.s 1 2 e;omega
 ·rw[Dy];show(k 0 e).st.length+1<=_;omega
 ·unfold Ld;simp only[Jy];have a1:=h1 e;have a2:=h2 ((k 1 e).step 8 0 l.line);rw[Dy]at a2;split
  ·have a3:=h3 (((k 2 ((k 1 e).step 8 0 l.line)).step 6 0 0).land (k 1 e).st.length);rw[Jy,Dy]at a3;omega
  ·rw[Jy,Dy];omega
 ·unfold M6;simp only[Em.close,U0,Jy,Dy];have a1:=h1 e.open';have a2:=h2 ((k 1 e.open').step 7 0 l.line);rw[Dy]at a2;have:e.open'.st.length=e.st.length:=rfl;omega
 ·split
  ·rw[Dy];omega
  ·rw[Dy];omega
 ·have:=A9h e;omega
 ·have:=Aae e;omega
 ·have:=A4k gl l.s 3 4 (k 0 e);omega
 ·show(k 0 e).st.length<=_;omega
 ·show(k 0 e).st.length<=_;omega
 ·split
  ·unfold Mx;simp only[Jy,Dy];have a1:=h1 e;have a2:=h2 ((k 1 e).step (binOp (l.kd-100)) 0 l.line);rw[Dy]at a2;omega
  ·rw[Dy];omega
theorem z1fa {P:Prop} (h:P:=by
  refine⟨fun e=>?_,fun m hm e=>?_⟩
  ·rw[Ie];have a1:=hN e;have a2:=D9.1 (As fns gl l (Az c) (em fns gl c) e);simp only[bsize];omega
  ·by_cases h2:2<=m
   ·have e1:em fns gl (.node x y l c r) m e=em fns gl r (m-1) e:=by rw[em,if_pos h2]
    have e2:G8 (.node x y l c r) m=G8 r (m-1):=by rw[G8,if_pos h2]
    rw[e1,e2];exact D9.2 (m-1) z51a e
   ·have h1:m=1:=by omega
    subst h1;rw[Q5];have e2:G8 (.node x y l c r) 1=bsize (nd l c):=rfl;rw[e2,Co];have:=hN e;omega):P:=h
theorem Od(fns:List (Nm×Nat))(gl:List Nm):∀(c:BT A6),(∀e,(em fns gl c 0 e).st.length<=e.st.length+2*bsize c)/\(∀m,1<=m->∀e,(em fns gl c m e).st.length<=e.st.length+2*G8 c m):=by
 intro c;induction c with
 | nil=>exact⟨fun e=>by rw[em];omega,fun m _ e=>by rw[em];omega⟩
 | node x y l c r Ds D9=>
  have hN:∀e,(As fns gl l (Az c) (em fns gl c) e).st.length<=e.st.length+2*(1+bsize c):=
   fun e=>Abt fns gl l (Az c) (bsize c) (G8 c 1) (G8 c 2) (G8 c 3) (em fns gl c) Ds.1 (Ds.2 1 z51a) (Ds.2 2 z51a) (Ds.2 3 z51a) (A32 c) e
  exact z1fa
theorem Gk(fns:List (Nm×Nat))(gl:List Nm)(l:A6)(c:BT A6)(e:Em):(As fns gl l (Az c) (em fns gl c) e).st.length<=e.st.length+2*bsize (nd l c):=by
 have:=(Od fns gl (nd l c)).1 e;rw[A01]at this;exact this
end
section
open Go.Deep (BT)
variable {fns:List (Nm×Nat)} {gl:List Nm} {l:A6} {n:Nat} {k:Nat->Em->Em} {e:Em}
theorem b9(hk:l.kd=1):As fns gl l n k e=e.Ja ⟨2,false,l.n,[],none⟩:=by simp only[As,hk]
theorem j8(hk:l.kd=2):As fns gl l n k e=e.Ja ⟨3,false,0,l.s,none⟩:=by simp only[As,hk]
theorem o8(hk:l.kd=3):As fns gl l n k e=e.Ja ⟨1,true,0,[],none⟩:=by simp only[As,hk]
theorem p8(hk:l.kd=4):As fns gl l n k e=e.Ja ⟨1,false,0,[],none⟩:=by simp only[As,hk]
theorem p9(hk:l.kd=5):As fns gl l n k e=e.Ja Ab:=by simp only[As,hk]
theorem r8(hk:l.kd=6):As fns gl l n k e=e.var gl l.s 1 2:=by simp only[As,hk]
theorem s6(hk:l.kd=7):As fns gl l n k e=(k 0 e).step 42 (Nr fns l.s) l.line:=by simp only[As,hk]
theorem s7(hk:l.kd=8):As fns gl l n k e=k 0 e:=by simp only[As,hk]
theorem s8(hk:l.kd=9):As fns gl l n k e=(k 0 e).step 36 (n:Nat) l.line:=by simp only[As,hk]
theorem j0(hk:l.kd=10):As fns gl l n k e=(k 0 e).step 37 0 l.line:=by simp only[As,hk]
theorem j4(hk:l.kd=11):As fns gl l n k e=(k 0 e).step 38 0 l.line:=by simp only[As,hk]
theorem j5(hk:l.kd=12):As fns gl l n k e=(k 0 e).step 39 0 l.line:=by simp only[As,hk]
theorem j6(hk:l.kd=13):As fns gl l n k e=(k 0 e).step 27 0 l.line:=by simp only[As,hk]
theorem j7(hk:l.kd=14):As fns gl l n k e=(k 0 e).step 23 0 l.line:=by simp only[As,hk]
theorem Abs(hk:l.kd=21):As fns gl l n k e=((k 0 e).local' l.s).step 3 ((k 0 e).loc.length:Nat) 0:=by simp only[As,hk]
theorem j9(hk:l.kd=22):As fns gl l n k e=Ld l.line n k e:=by simp only[As,hk]
theorem k7(hk:l.kd=23):As fns gl l n k e=M6 l.line k e:=by simp only[As,hk]
theorem l8(hk:l.kd=24):As fns gl l n k e=if n=0 then e.step 43 0 0 else(k 0 e).step 44 0 0:=by simp only[As,hk]
theorem l9(hk:l.kd=25):As fns gl l n k e=e.Kt:=by simp only[As,hk]
theorem n8(hk:l.kd=26):As fns gl l n k e=e.cnt:=by simp only[As,hk]
theorem n9(hk:l.kd=27):As fns gl l n k e=(k 0 e).step 41 0 l.line:=by simp only[As,hk]
theorem o6(hk:l.kd=28):As fns gl l n k e=(k 0 e).var gl l.s 3 4:=by simp only[As,hk]
theorem o7(hk:l.kd=29):As fns gl l n k e=(k 0 e).step 40 0 l.line:=by simp only[As,hk]
theorem o9(hk:l.kd=30):As fns gl l n k e=(k 0 e).step 5 0 0:=by simp only[As,hk]
theorem Tp(hk:l.kd=31):As fns gl l n k e=(k 0 e).cut e.loc.length:=by simp only[As,hk]
theorem p7(hk:l.kd=32):As fns gl l n k e=(k 0 e).cut e.loc.length:=by simp only[As,hk]
theorem x8(hk:l.kd=139\/l.kd=140):As fns gl l n k e=Mx (binOp (l.kd-100)) l.line k e:=by
 rcases hk with h|h <;> simp[As,h]
theorem s9(h1:127<=l.kd)(h2:l.kd<=138):As fns gl l n k e=(k 0 e).step (binOp (l.kd-100)) 0 l.line:=by
 have hk:l.kd=127\/l.kd=128\/l.kd=129\/l.kd=130\/l.kd=131\/l.kd=132\/l.kd=133\/l.kd=134\/l.kd=135\/l.kd=136\/l.kd=137\/l.kd=138:=by omega
 rcases hk with h|h|h|h|h|h|h|h|h|h|h|h <;> simp[As,h]
end
end Go.Proofs.YtjdlndhfaaolaaaGreatDoor
