import Derived.Test.YtjdlndhfaaolaaaGreatDoorV03
import Derived.Test.YtjdlndhfaaolaaaGreatDoorV07
set_option maxHeartbeats 20000000
namespace Go.Proofs.YtjdlndhfaaolaaaGreatDoor
section
open Go.RowKit
open Go.Deep (BT)
structure A9 (b : Nat) (w w' : World) : Prop where
 os:w'.os=w.os
 tape:w'.tape=w.tape
 output:w'.output=w.output
 size:w.heap.size<=w'.heap.size
 block:∀k,k<w.heap.size->k≠b->w'.heap[k]?=w.heap[k]?
theorem A9.refl(b:Nat)(w:World):A9 b w w:=⟨rfl,rfl,rfl,Nat.le_refl _,fun _ _ _=>rfl⟩
theorem A9.trans{b:Nat}{x y z:World}(h:A9 b x y)(k:A9 b y z):A9 b x z:=
 ⟨k.os.trans h.os,k.tape.trans h.tape,k.output.trans h.output,Nat.le_trans h.size k.size,fun i hi hb=>(k.block i (Nat.lt_of_lt_of_le hi h.size) hb).trans (h.block i hi hb)⟩
theorem Below.only{b:Nat}{w w':World}(h:Below w.heap.size w w'):A9 b w w':=⟨h.os,h.tape,h.output,h.size,fun k hk _=>h.block k hk⟩
theorem A9.drew{b:Nat}{x w:World}(h:A9 b x w):A9 b x w.drew:=⟨h.os,h.tape,h.output,h.size,h.block⟩
theorem A9.alloc{b:Nat}{x w:World}(h:A9 b x w)(o:Obj):A9 b x (w.alloc o):=
 h.trans ⟨rfl,rfl,rfl,by simp,fun k hk _=>Below.heap_alloc _ _ _ hk⟩
theorem A9.set{b:Nat}{x w:World}(h:A9 b x w){p:Addr}(hp:p.block=b\/x.heap.size<=p.block)(u:Value):A9 b x (w.setCell p u):=
 ⟨h.os,h.tape,h.output,by simp[World.setCell];exact h.size,fun k hk hb=>(Below.heap_setCell _ _ _ _ (by rcases hp with e|e <;> omega)).trans (h.block k hk hb)⟩
theorem A9.grown{b:Nat}{x w w':World}{row:Option Nat}(h:A9 b x w)(hg:w.grownBy w' row)(hr:∀k,row=some k->k=b\/x.heap.size<=k):A9 b x w':=
 ⟨hg.os.trans h.os,hg.tape.trans h.tape,hg.output.trans h.output,Nat.le_trans h.size hg.size,fun k hk hb=>(hg.block k (Nat.lt_of_lt_of_le hk h.size) (fun e=>by rcases hr k e.symm with e|e <;> omega)).trans (h.block k hk hb)⟩
def Cw(D:Nat->Prop)(w:World)(e:TypeId)(size:Nat)(v:Value)(n:Nat)(cs:List Value):Prop:=w.ownsRow 0 e size v n cs/\∀g,v.ownBlock=some g->D g
theorem Cw.keep{D D':Nat->Prop}{w w':World}{e:TypeId}{size:Nat}{v:Value}{n:Nat}{cs:List Value}(h:Cw D w e size v n cs)
  (hk:∀g,D g->g<w.heap.size->w'.heap[g]?=w.heap[g]?/\D' g):Cw D' w' e size v n cs:=
 ⟨B4 h.1 fun g hg hl=>(hk g (h.2 g hg) hl).1,fun g hg=>(hk g (h.2 g hg) (Bn h.1 g hg)).2⟩
end
section
open Go.RowKit
theorem Bd{w:World}{g:Nat}{cs:Array Value}{t:TypeId}(h:w.heap[g]?=some (.cells cs t (0,0)))(o:Nat):w.frozen? ⟨g,o,none⟩=false:=by
 simp[World.frozen?,h]
theorem A2{w:World}{g:Nat}{cs:Array Value}{t:TypeId}{fr:Nat×Nat}(h:w.heap[g]?=some (.cells cs t fr))(o:Nat)(u:Value)(hu:cs[o]?=some u):w.cell? ⟨g,o,none⟩=some u:=by
 rw[cell_of_row w g o cs t fr h];exact hu
theorem heap_set{w:World}{b j:Nat}{cs:Array Value}{t:TypeId}{fr:Nat×Nat}(h:w.heap[b]?=some (.cells cs t fr))(u:Value):(w.setCell ⟨b,j,none⟩ u).heap[b]?=some (.cells (cs.setIfInBounds j u) t fr):=by
 simp[World.setCell,Array.getElem?_modify,h]
theorem E5{w:World}{g:Nat}{a0 a1 a2 a3:Value}{t:TypeId}(h:w.heap[g]?=some (.cells #[a0,a1,a2,a3] t (0,0))) :
  w.cell? ⟨g,0,none⟩=some a0/\w.cell? ⟨g,1,none⟩=some a1/\w.cell? ⟨g,2,none⟩=some a2/\w.cell? ⟨g,3,none⟩=some a3/\(∀o,w.frozen? ⟨g,o,none⟩=false)/\g<w.heap.size:=
 ⟨A2 h 0 _ rfl,A2 h 1 _ rfl,A2 h 2 _ rfl,A2 h 3 _ rfl,Bd h,A5 h⟩
theorem Tu{w:World}{g:Nat}{a0 a1 a2 a3 a4 a5:Value}{t:TypeId}(h:w.heap[g]?=some (.cells #[a0,a1,a2,a3,a4,a5] t (0,0))) :
  w.cell? ⟨g,0,none⟩=some a0/\w.cell? ⟨g,1,none⟩=some a1/\w.cell? ⟨g,2,none⟩=some a2/\w.cell? ⟨g,3,none⟩=some a3/\w.cell? ⟨g,4,none⟩=some a4/\w.cell? ⟨g,5,none⟩=some a5/\(∀o,w.frozen? ⟨g,o,none⟩=false)/\g<w.heap.size:=
 ⟨A2 h 0 _ rfl,A2 h 1 _ rfl,A2 h 2 _ rfl,A2 h 3 _ rfl,A2 h 4 _ rfl,A2 h 5 _ rfl,Bd h,A5 h⟩
theorem A9.blk{b:Nat}{w w':World}(h:A9 b w w'){g:Nat}{o:Obj}(hg:w.heap[g]?=some o)(hb:g≠b):w'.heap[g]?=some o:=(h.block g (A5 hg) hb).trans hg
theorem Fq{w w':World}(h:Below w.heap.size w w'){g:Nat}{o:Obj}(hg:w.heap[g]?=some o):w'.heap[g]?=some o:=(h.block g (A5 hg)).trans hg
theorem alloc_old{w:World}{g:Nat}{o o':Obj}(hg:w.heap[g]?=some o):(w.alloc o').heap[g]?=some o:=(Below.heap_alloc w o' g (A5 hg)).trans hg
theorem A3t{w:World}{g:Nat}{o:Obj}{p:Addr}{u:Value}(hg:w.heap[g]?=some o)(hp:g≠p.block):(w.setCell p u).heap[g]?=some o:=(Below.heap_setCell w p u g hp).trans hg
theorem A9.I9{b:Nat}{x w:World}(h:A9 b x w){g:Nat}(hg:x.heap.size<=g)(u0 u1 u2 u3:Value):A9 b x ((((w.setCell ⟨g,0,none⟩ u0).setCell ⟨g,1,none⟩ u1).setCell ⟨g,2,none⟩ u2).setCell ⟨g,3,none⟩ u3):=(A9.set (p:=⟨g,3,none⟩) (A9.set (p:=⟨g,2,none⟩) (A9.set (p:=⟨g,1,none⟩) (A9.set (p:=⟨g,0,none⟩) h (.inr hg) u0) (.inr hg) u1) (.inr hg) u2) (.inr hg) u3)
theorem Hf{w:World}{k g:Nat}(hp:k≠g)(u0 u1 u2 u3:Value):((((w.setCell ⟨g,0,none⟩ u0).setCell ⟨g,1,none⟩ u1).setCell ⟨g,2,none⟩ u2).setCell ⟨g,3,none⟩ u3).heap[k]?=w.heap[k]?:=by
 rw[Below.heap_setCell _ _ _ _ (by exact hp)];rw[Below.heap_setCell _ _ _ _ (by exact hp)];rw[Below.heap_setCell _ _ _ _ (by exact hp)];rw[Below.heap_setCell _ _ _ _ (by exact hp)]
end
section
def Px(k:Nat):List UInt8->Option (Tk×Nat)
 | []=>some (⟨0,0,[],0⟩,k)
 | c::r=>(F5 (c::r)).map fun x=>(x.1,k+x.2)
def Fv(l:List UInt8):Nat×Option (Tk×Nat):=((Ba false l).2.1,if(Ba false l).2.2 then Px (Ba false l).1 (l.drop (Ba false l).1) else none)
def N8(acc:List Tk):Nat ⊕ List Tk->Nat ⊕ List Tk
 | .inl n=>.inl n
 | .inr ts=>.inr (acc++ts)
theorem Ahw(x:Nat ⊕ List Tk):N8 [] x=x:=by cases x <;> rfl
theorem Ahv(a b:List Tk)(x:Nat ⊕ List Tk):N8 a (N8 b x)=N8 (a++b) x:=by cases x <;> simp[N8]
theorem Ap0{c:UInt8}(r:List UInt8)(h:Gu c=false):F5 (c::r)=none:=by
 have hn:¬(32<=c.toNat/\c.toNat<=126):=by
  intro e;rw[Gu,decide_eq_true e.1,decide_eq_true e.2]at h;cases h
 have hd:De c=false:=by
  rw[De];by_cases h1:48<=c.toNat
  ·rw[decide_eq_false (show ¬c.toNat<=57 by omega)];simp
  ·rw[decide_eq_false h1];rfl
 have hl:isLet c=false:=by
  rw[isLet];rw[Bool.or_eq_false_iff];constructor
  ·by_cases h1:97<=c.toNat
   ·rw[decide_eq_false (show ¬c.toNat<=122 by omega)];simp
   ·rw[decide_eq_false h1];rfl
  ·by_cases h1:65<=c.toNat
   ·rw[decide_eq_false (show ¬c.toNat<=90 by omega)];simp
   ·rw[decide_eq_false h1];rfl
 have hc:∀d:UInt8,32<=d.toNat->d.toNat<=126->(c==d)=false:=by
  intro d h1 h2;rw[beq_eq_false_iff_ne];intro e;subst e;exact hn ⟨h1,h2⟩
 have Ak:Ir c=0:=by
  unfold Ir;simp only[hc 40 z4wa z4wa,hc 41 z4wa z4wa,hc 123 z4wa z4wa,hc 125 z4wa z4wa,hc 91 z4wa z4wa,hc 93 z4wa z4wa,hc 44 z4wa z4wa,hc 59 z4wa z4wa,hc 61 z4wa z4wa,hc 33 z4wa z4wa,hc 60 z4wa z4wa,hc 62 z4wa z4wa,hc 43 z4wa z4wa,hc 45 z4wa z4wa,hc 42 z4wa z4wa,hc 47 z4wa z4wa,hc 37 z4wa z4wa,Bool.false_eq_true,if_false]
 have B0:∀d,Kg c d=0:=by
  intro d;unfold Kg;simp only[hc 61 z4wa z4wa,hc 33 z4wa z4wa,hc 60 z4wa z4wa,hc 62 z4wa z4wa,hc 38 z4wa z4wa,hc 124 z4wa z4wa,Bool.false_and,Bool.false_eq_true,if_false]
 have hsg:(Gn (c::r))=(0,0):=by
  cases r with
  | nil=>rw[Gn,Ak];rfl
  | cons d r=>rw[Gn,B0,Ak];rfl
 rw[F5];simp only[hd,hl,hc 34 z4wa z4wa,hsg,Bool.false_eq_true,if_false];rfl
theorem A1l:∀(l:List UInt8) (f ln:Nat) (sd:Bool),l.length<f->
  lex f l ln sd=if(Ba sd l).2.2 then lex (f-(Ba sd l).1) (l.drop (Ba sd l).1) (ln+(Ba sd l).2.1) false else .inl (ln+(Ba sd l).2.1):=by
 intro l;induction l with
 | nil=>
  intro f ln sd hf;obtain⟨f,rfl⟩:∃g,f=g+1:=⟨f-1,by simp at hf;omega⟩;cases sd <;> simp[Ba,lex]
 | cons c r ih=>
  intro f ln sd hf;obtain⟨f,rfl⟩:∃g,f=g+1:=⟨f-1,by simp at hf;omega⟩;have hf':r.length<f:=by simp at hf;omega
  rw[lex];by_cases h10:(c==10)=true
  ·rw[if_pos h10];have hk:Ba sd (c::r)=((Ba false r).1+1,(Ba false r).2.1+1,(Ba false r).2.2):=by
    cases sd <;> rw[Ba,if_pos h10]
   rw[hk,ih f (ln+1) false hf'];simp only[List.drop_succ_cons,Nat.add_sub_add_right,show ∀a,ln+1+a=ln+(a+1) from fun a=>by omega]
  ·rw[if_neg h10];by_cases hb:(c !=9&&!(Gu c))=true
   ·rw[if_pos hb];have h9:c≠9:=by intro e;subst e;exact absurd hb z4wa
    have hp:Gu c=false:=by
     cases hq:Gu c
     ·rfl
     ·rw[hq]at hb;simp at hb
    cases sd with
    | true=>rw[Ba,if_neg h10,if_pos hb];rfl
    | false=>
     have h32:c≠32:=by intro e;subst e;exact absurd hp z4wa
     have h47:c≠47:=by intro e;subst e;exact absurd hp z4wa
     have hk:Ba false (c::r)=(0,0,true):=A41 (by simpa using h10) h32 h9 (fun e=>h47 e.1);rw[hk];simp only[if_true,List.drop_zero,Nat.sub_zero,Nat.add_zero];rw[lex,if_neg h10,if_pos hb]
   ·rw[if_neg hb];cases sd with
    | true=>
     rw[if_pos z50a,Ba,if_neg h10,if_neg hb];simp only[Bool.true_or,List.drop_succ_cons,Nat.add_sub_add_right];exact ih f ln true hf'
    | false=>
     by_cases hs:(c==32||c==9)=true
     ·have h47:(c==47)=false:=by
       rw[beq_eq_false_iff_ne];intro e;subst e;exact absurd hs z4wa
      rw[if_pos (by simp only[Bool.false_or,Bool.or_eq_true];simp only[Bool.or_eq_true]at hs;rcases hs with h|h;exact .inr h;exact .inl (.inr h))];rw[Ba,if_neg h10,if_pos hs];simp only[h47,Bool.false_and,Bool.or_false,List.drop_succ_cons,Nat.add_sub_add_right];exact ih f ln false hf'
     ·by_cases hr:(c==47&&r.head?==some 47)=true
      ·rw[if_pos (by rw[hr];simp),Ba,if_neg h10,if_neg hs,if_pos hr];simp only[hr,Bool.false_or,List.drop_succ_cons,Nat.add_sub_add_right];exact ih f ln true hf'
      ·have hk:Ba false (c::r)=(0,0,true):=by rw[Ba,if_neg h10,if_neg hs,if_neg hr]
       rw[hk];simp only[if_true,List.drop_zero,Nat.sub_zero,Nat.add_zero];rw[lex,if_neg h10,if_neg hb]
theorem Ag2:∀(f:Nat) (l:List UInt8) (g ln:Nat) (sd:Bool),l.length<f->l.length<g->lex f l ln sd=lex g l ln sd:=by
 intro f;induction f with
 | zero=>intro l g ln sd h;omega
 | succ f ih=>
  intro l g ln sd hf hg;obtain⟨g,rfl⟩:∃h,g=h+1:=⟨g-1,by omega⟩;cases l with
  | nil=>rw[lex,lex]
  | cons c r=>
   have h1:r.length<f:=by simp at hf;omega
   have h2:r.length<g:=by simp at hg;omega
   rw[lex,lex];split
   ·exact ih _ _ _ _ h1 h2
   split
   ·rfl
   split
   ·exact ih _ _ _ _ h1 h2
   cases ht:F5 (c::r) with
   | none=>rfl
   | some x=>
    obtain⟨t,n⟩:=x;have hn:=(V6 c r t n ht).2.2;have hd:((c::r).drop n).length<=r.length:=by simp;omega
    simp only;rw[ih ((c::r).drop n) g ln false z4va z4va]
theorem z6ra {P:Prop} (h:P:=by simpa using hd):P:=h
theorem A40:∀(l:List UInt8) (sd:Bool),(Ba sd l).2.2=true->∀c r,l.drop (Ba sd l).1=c::r->c≠10/\c≠32/\c≠9/\¬(c=47/\r.head?=some 47):=by
 intro l;induction l with
 | nil=>intro sd _ c r h;simp at h
 | cons d q ih=>
  intro sd h c r hd;cases sd with
  | true=>
   rw[Ba]at h hd;split at h
   ·rename_i h1;rw[if_pos h1]at hd;exact ih false h c r z6ra
   ·rename_i h1;rw[if_neg h1]at hd;split at h
    ·cases h
    ·rename_i h2;rw[if_neg h2]at hd;exact ih true h c r z6ra
  | false=>
   rw[Ba]at h hd;split at h
   ·rename_i h1;rw[if_pos h1]at hd;exact ih false h c r z6ra
   ·rename_i h1;rw[if_neg h1]at hd;split at h
    ·rename_i h2;rw[if_pos h2]at hd;exact ih false h c r z6ra
    ·rename_i h2;rw[if_neg h2]at hd;split at h
     ·rename_i h3;rw[if_pos h3]at hd;exact ih true h c r z6ra
     ·rename_i h3;rw[if_neg h3]at hd;simp only[List.drop_zero,List.cons.injEq]at hd;obtain⟨rfl,rfl⟩:=hd;simp only[Bool.or_eq_true,beq_iff_eq,not_or]at h2;simp only[Bool.and_eq_true,beq_iff_eq]at h3;exact⟨by simpa using h1,h2.1,h2.2,h3⟩
theorem z5ka {P:Prop} (h:P:=by simp only[Bool.false_or,Bool.or_eq_true,Bool.and_eq_true,beq_iff_eq];rintro((h|h)|h);exact h47 h;exact h9 h;exact h32 h):P:=h
theorem Ago(l:List UInt8)(ln:Nat)(h:(Fv l).2=none):lex (l.length+1) l ln false=.inl (ln+(Fv l).1):=by
 rw[A1l l _ ln false z4va];have hle:=(Ye l false).1;unfold Fv at h ⊢;cases hs:(Ba false l).2.2 with
 | false=>simp
 | true=>
  simp only[hs,if_true]at h ⊢;cases hd:l.drop (Ba false l).1 with
  | nil=>rw[hd,Px]at h;cases h
  | cons c r=>
   rw[hd,Px]at h;have ht:F5 (c::r)=none:=by
    cases ht:F5 (c::r) with
    | none=>rfl
    | some x=>rw[ht]at h;cases h
   obtain⟨f,hf⟩:∃f,l.length+1-(Ba false l).1=f+1:=⟨l.length-(Ba false l).1,by omega⟩;obtain⟨h10,h32,h9,h47⟩:=A40 l false hs c r hd;rw[hf,lex,if_neg (by simpa using h10)];by_cases hp:Gu c=true
   ·rw[if_neg (by simp[hp]),if_neg z5ka,ht]
   ·have hp':Gu c=false:=by simpa using hp
    rw[if_pos (by simp[hp',h9])]
theorem Agp(l:List UInt8)(ln:Nat)(x:Tk×Nat)(h:(Fv l).2=some x):lex (l.length+1) l ln false=(if x.1.k=0 then .inr [⟨0,ln+(Fv l).1,[],0⟩] else N8 [⟨x.1.k,ln+(Fv l).1,x.1.s,x.1.n⟩] (lex ((l.drop x.2).length+1) (l.drop x.2) (ln+(Fv l).1) false))/\x.2<=l.length/\(x.1.k=0->x.1=⟨0,0,[],0⟩)/\(x.1.k≠0->1<=x.2)/\(Fv l).1<=x.2:=by
 rw[A1l l _ ln false z4va];have hle:=Ye l false;unfold Fv at h ⊢;cases hs:(Ba false l).2.2 with
 | false=>rw[hs]at h;cases h
 | true=>
  simp only[hs,if_true]at h ⊢;cases hd:l.drop (Ba false l).1 with
  | nil=>
   rw[hd,Px]at h;obtain rfl:=Option.some.inj h;have hl:l.length+1-(Ba false l).1=1:=by
    have:=congrArg List.length hd;simp at this;omega
   rw[if_pos rfl,hl,lex];exact⟨rfl,hle.1,fun _=>rfl,fun e=>absurd rfl e,hle.2⟩
  | cons c r=>
   have hlen:(c::r).length=l.length-(Ba false l).1:=by rw[←hd];simp
   rw[hd,Px]at h;cases ht:F5 (c::r) with
   | none=>rw[ht]at h;cases h
   | some y=>
    rw[ht]at h;obtain⟨t,n⟩:=y;obtain rfl:(t,(Ba false l).1+n)=x:=Option.some.inj h;obtain⟨k1,_,k3⟩:=V6 c r t n ht;have hn:=Ap1 (c::r) t n ht;obtain⟨f,hf⟩:∃f,l.length+1-(Ba false l).1=f+1:=⟨l.length-(Ba false l).1,by omega⟩;obtain⟨h10,h32,h9,h47⟩:=A40 l false hs c r hd;refine⟨?_,by simp only;omega,fun e=>absurd e (by simp only;omega),fun _=>by simp only;omega,by simp only;omega⟩;have hp:Gu c=true:=by
     cases hp:Gu c with
     | true=>rfl
     | false=>rw[Ap0 r hp]at ht;cases ht
    rw[hf,lex,if_neg (by simpa using h10),if_neg (by simp[hp]),if_neg z5ka,ht];have hdn:(c::r).drop n=l.drop ((Ba false l).1+n):=by rw[←hd,List.drop_drop]
    have hll:(l.drop ((Ba false l).1+n)).length<f:=by
     simp only[List.length_drop];simp only[List.length_cons]at hlen;omega
    simp only;rw[if_neg z4va,hdn,Ag2 f _ ((l.drop ((Ba false l).1+n)).length+1) _ _ hll z4va];cases lex ((l.drop ((Ba false l).1+n)).length+1) (l.drop ((Ba false l).1+n)) (ln+(Ba false l).2.1) false <;> rfl
end
section
open Go.Deep (BT)
theorem z5wa {P:Prop} (h:P:=by simpa using hj):P:=h
theorem A1g(s:Nm):∀(l:List Nm),(∀j (h:j<l.length),l[j]≠s)->O3 s l=none:=by
 intro l;induction l with
 | nil=>intro _;rfl
 | cons x r ih=>
  intro h;have h1:=ih (fun j hj=>by have:=h (j+1) z5wa;simpa using this);have h0:=h 0 z50a;simp only[List.getElem_cons_zero]at h0;rw[O3,h1];simp[h0]
theorem Afq(s:Nm):∀(l:List Nm) (i:Nat) (hi:i<l.length),l[i]=s->(∀j (h:j<l.length),i<j->l[j]≠s)->O3 s l=some i:=by
 intro l;induction l with
 | nil=>intro i hi;simp at hi
 | cons x r ih=>
  intro i hi he hn;cases i with
  | zero=>
   have h1:=A1g s r (fun j hj=>by have:=hn (j+1) z5wa z4va;simpa using this);simp only[List.getElem_cons_zero]at he;rw[O3,h1];simp[he]
  | succ i=>
   have h1:=ih i (by simpa using hi) (by simpa using he) (fun j hj hij=>by have:=hn (j+1) z5wa z4va;simpa using this);rw[O3,h1]
theorem A0q(s:Nm):∀(l:List Nm),(∀j (h:j<l.length),l[j]≠s)->Nz s l=none:=by
 intro l;induction l with
 | nil=>intro _;rfl
 | cons x r ih=>
  intro h;have h1:=ih (fun j hj=>by have:=h (j+1) z5wa;simpa using this);have h0:=h 0 z50a;simp only[List.getElem_cons_zero]at h0;rw[Nz,if_neg h0,h1]
theorem A0r(s:Nm):∀(l:List Nm) (i:Nat) (hi:i<l.length),l[i]=s->(∀j (h:j<l.length),j<i->l[j]≠s)->Nz s l=some i:=by
 intro l;induction l with
 | nil=>intro i hi;simp at hi
 | cons x r ih=>
  intro i hi he hn;cases i with
  | zero=>
   simp only[List.getElem_cons_zero]at he;rw[Nz,if_pos he]
  | succ i=>
   have h0:=hn 0 z50a z4va;simp only[List.getElem_cons_zero]at h0;have h1:=ih i (by simpa using hi) (by simpa using he) (fun j hj hij=>by have:=hn (j+1) z5wa z4va;simpa using this);rw[Nz,if_neg h0,h1]
def Es(i:Ac):List Value:=[.int .i64 (i.op:Nat),.int .i64 i.arg,.int .i64 (i.line:Nat),.int .i64 (i.v.k:Nat),.bool i.v.y,.int .i64 i.v.n,.string ⟨i.v.t.toArray⟩,.pointer none]
def Ek(st:List Ac):List Value:=st.flatMap Es
theorem Aeh(a b:List Ac):Ek (a++b)=Ek a++Ek b:=by simp[Ek]
theorem Aek(i:Ac):Ek [i]=Es i:=by simp[Ek]
theorem Aej(st:List Ac):(Ek st).length=st.length*8:=by
 induction st with
 | nil=>rfl
 | cons x r ih=>
  have e:Ek (x::r)=Es x++Ek r:=by simp[Ek]
  rw[e,List.length_append,ih];have hl:(Es x).length=8:=rfl;rw[hl,List.length_cons];omega
theorem Sl(a:Int):∀(st:List Ac) (j:Nat),(K4 j a st).length=st.length:=by
 intro st;induction st with
 | nil=>intro j;cases j <;> rfl
 | cons x r ih=>
  intro j;cases j with
  | zero=>rfl
  | succ j=>rw[K4,List.length_cons,ih,List.length_cons]
theorem z60a {P:Prop} (h:P:=by simpa using h):P:=h
theorem Aei(a:Int):∀(st:List Ac) (j:Nat),j<st.length->Ek (K4 j a st)=(Ek st).set (j*8+1) (.int .i64 a):=by
 intro st;induction st with
 | nil=>intro j h;simp at h
 | cons x r ih=>
  intro j h;have e:Ek (x::r)=Es x++Ek r:=by simp[Ek]
  have hl:(Es x).length=8:=rfl;cases j with
  | zero=>
   rw[K4,e,List.set_append_left _ _ z4va];simp[Ek,Es]
  | succ j=>
   rw[K4,e];have e2:Ek (x::K4 j a r)=Es x++Ek (K4 j a r):=by simp[Ek]
   rw[e2,ih j z60a,List.set_append_right _ _ z4va,hl,show(j+1)*8+1-8=j*8+1 by omega]
def G7:BT A6->Nat->Nat
 | .nil,_=>0
 | .node _ _ l c r,m=>if 2<=m then G7 r (m-1) else bsize (nd l c)
theorem Y1(m:Nat):G7 .nil m=0:=by cases m <;> rfl
theorem A3d(c:BT A6):G7 c 1+G7 c 2+G7 c 3<=bsize c:=by
 cases c with
 | nil=>simp[Y1]
 | node x y l c r=>
  have h1:G7 (.node x y l c r) 1=bsize (nd l c):=rfl;have h2:G7 (.node x y l c r) 2=G7 r 1:=rfl;have h3:G7 (.node x y l c r) 3=G7 r 2:=rfl;rw[h1,h2,h3,Cj];simp only[bsize];cases r with
  | nil=>simp[Y1]
  | node x y l c r=>
   have h1:G7 (.node x y l c r) 1=bsize (nd l c):=rfl;have h2:G7 (.node x y l c r) 2=G7 r 1:=rfl;rw[h1,h2,Cj];simp only[bsize];cases r with
   | nil=>simp[Y1]
   | node x y l c r=>
    have h1:G7 (.node x y l c r) 1=bsize (nd l c):=rfl;rw[h1,Cj];simp only[bsize];omega
theorem Dy(o:Nat)(a:Int)(ln:Nat)(e:Em):(e.step o a ln).st.length=e.st.length+1:=by simp[Em.step]
theorem Wb(v:PV)(e:Em):(e.Jb v).st.length=e.st.length+1:=by simp[Em.Jb]
theorem K5(j:Nat)(e:Em):(e.land j).st.length=e.st.length:=Sl _ _ _
theorem Uh:∀(l:List Nat) (e:Em),(e.Hx l).st.length=e.st.length:=by
 intro l;induction l with
 | nil=>intro e;rfl
 | cons j r ih=>intro e;rw[Em.Hx,ih,K5]
theorem z4ca {P:Prop} (h:P:=by
  exact Nat.le_refl _):P:=h
theorem A4p(gl:List Nm)(s:Nm)(a b:Nat)(e:Em):(e.var gl s a b).st.length<=e.st.length+1:=by
 unfold Em.var;split
 ·rw[Dy];exact z4ca
 ·split
  ·rw[Dy];exact z4ca
  ·omega
theorem A9r(e:Em):e.L6.st.length<=e.st.length+1:=by
 unfold Em.L6;split
 ·omega
 ·simp
theorem Aam(e:Em):e.cnt.st.length<=e.st.length+1:=by
 unfold Em.cnt;split
 ·omega
 ·rw[Dy];exact z4ca
theorem Ac2(fns:List (Nm×Nat))(gl:List Nm)(l:A6)(n s s1 s2 s3:Nat)(k:Nat->Em->Em)(h0:∀e,(k 0 e).st.length<=e.st.length+2*s)(h1:∀e,(k 1 e).st.length<=e.st.length+2*s1)(h2:∀e,(k 2 e).st.length<=e.st.length+2*s2)(h3:∀e,(k 3 e).st.length<=e.st.length+2*s3)(hs:s1+s2+s3<=s)(e:Em) :
  (Ar fns gl l n k e).st.length<=e.st.length+2*(1+s):=by
 have g0:=h0 e;unfold Ar;split;all_goals try (first|(rw[Wb];omega)|(rw[Dy];omega)|omega)
 ·have:=A4p gl l.s 1 2 e;omega
 ·rw[Dy];show(k 0 e).st.length+1<=_;omega
 ·unfold Lm;simp only[K5];have a1:=h1 e;have a2:=h2 ((k 1 e).step 8 0 l.line);rw[Dy]at a2;split
  ·have a3:=h3 (((k 2 ((k 1 e).step 8 0 l.line)).step 6 0 0).land (k 1 e).st.length);rw[K5,Dy]at a3;omega
  ·rw[K5,Dy];omega
 ·unfold Ln;simp only[Em.close,Uh,K5,Dy];have a1:=h1 e.open';have a2:=h2 ((k 1 e.open').step 7 0 l.line);rw[Dy]at a2;have:e.open'.st.length=e.st.length:=rfl;omega
 ·split
  ·rw[Dy];omega
  ·rw[Dy];omega
 ·have:=A9r e;omega
 ·have:=Aam e;omega
 ·have:=A4p gl l.s 3 4 (k 0 e);omega
 ·show(k 0 e).st.length<=_;omega
 ·show(k 0 e).st.length<=_;omega
 ·split
  ·unfold N2;simp only[K5,Dy];have a1:=h1 e;have a2:=h2 ((k 1 e).step (binOp (l.kd-100)) 0 l.line);rw[Dy]at a2;omega
  ·rw[Dy];omega
theorem z1ea {P:Prop} (h:P:=by
  refine⟨fun e=>?_,fun m hm e=>?_⟩
  ·rw[Ii];have a1:=hN e;have a2:=D8.1 (Ar fns gl l (Ax c) (em fns gl c) e);simp only[bsize];omega
  ·by_cases h2:2<=m
   ·have e1:em fns gl (.node x y l c r) m e=em fns gl r (m-1) e:=by rw[em,if_pos h2]
    have e2:G7 (.node x y l c r) m=G7 r (m-1):=by rw[G7,if_pos h2]
    rw[e1,e2];exact D8.2 (m-1) z4va e
   ·have h1:m=1:=by omega
    subst h1;rw[Qn];have e2:G7 (.node x y l c r) 1=bsize (nd l c):=rfl;rw[e2,Cj];have:=hN e;omega):P:=h
theorem On(fns:List (Nm×Nat))(gl:List Nm):∀(c:BT A6),(∀e,(em fns gl c 0 e).st.length<=e.st.length+2*bsize c)/\(∀m,1<=m->∀e,(em fns gl c m e).st.length<=e.st.length+2*G7 c m):=by
 intro c;induction c with
 | nil=>exact⟨fun e=>by rw[em];omega,fun m _ e=>by rw[em];omega⟩
 | node x y l c r Dr D8=>
  have hN:∀e,(Ar fns gl l (Ax c) (em fns gl c) e).st.length<=e.st.length+2*(1+bsize c):=
   fun e=>Ac2 fns gl l (Ax c) (bsize c) (G7 c 1) (G7 c 2) (G7 c 3) (em fns gl c) Dr.1 (Dr.2 1 z4va) (Dr.2 2 z4va) (Dr.2 3 z4va) (A3d c) e
  exact z1ea
theorem Gj(fns:List (Nm×Nat))(gl:List Nm)(l:A6)(c:BT A6)(e:Em):(Ar fns gl l (Ax c) (em fns gl c) e).st.length<=e.st.length+2*bsize (nd l c):=by
 have:=(On fns gl (nd l c)).1 e;rw[A0d]at this;exact this
end
section
open Go.Deep (BT)
variable {fns:List (Nm×Nat)} {gl:List Nm} {l:A6} {n:Nat} {k:Nat->Em->Em} {e:Em}
theorem n9(hk:l.kd=1):Ar fns gl l n k e=e.Jb ⟨2,false,l.n,[],none⟩:=by simp only[Ar,hk]
theorem p8(hk:l.kd=2):Ar fns gl l n k e=e.Jb ⟨3,false,0,l.s,none⟩:=by simp only[Ar,hk]
theorem y8(hk:l.kd=3):Ar fns gl l n k e=e.Jb ⟨1,true,0,[],none⟩:=by simp only[Ar,hk]
theorem A00(hk:l.kd=4):Ar fns gl l n k e=e.Jb ⟨1,false,0,[],none⟩:=by simp only[Ar,hk]
theorem A01(hk:l.kd=5):Ar fns gl l n k e=e.Jb Ag:=by simp only[Ar,hk]
theorem A02(hk:l.kd=6):Ar fns gl l n k e=e.var gl l.s 1 2:=by simp only[Ar,hk]
theorem A03(hk:l.kd=7):Ar fns gl l n k e=(k 0 e).step 42 (O0 fns l.s) l.line:=by simp only[Ar,hk]
theorem A04(hk:l.kd=8):Ar fns gl l n k e=k 0 e:=by simp only[Ar,hk]
theorem A05(hk:l.kd=9):Ar fns gl l n k e=(k 0 e).step 36 (n:Nat) l.line:=by simp only[Ar,hk]
theorem o6(hk:l.kd=10):Ar fns gl l n k e=(k 0 e).step 37 0 l.line:=by simp only[Ar,hk]
theorem o7(hk:l.kd=11):Ar fns gl l n k e=(k 0 e).step 38 0 l.line:=by simp only[Ar,hk]
theorem o8(hk:l.kd=12):Ar fns gl l n k e=(k 0 e).step 39 0 l.line:=by simp only[Ar,hk]
theorem o9(hk:l.kd=13):Ar fns gl l n k e=(k 0 e).step 27 0 l.line:=by simp only[Ar,hk]
theorem p7(hk:l.kd=14):Ar fns gl l n k e=(k 0 e).step 23 0 l.line:=by simp only[Ar,hk]
theorem Ac1(hk:l.kd=21):Ar fns gl l n k e=((k 0 e).local' l.s).step 3 ((k 0 e).loc.length:Nat) 0:=by simp only[Ar,hk]
theorem p9(hk:l.kd=22):Ar fns gl l n k e=Lm l.line n k e:=by simp only[Ar,hk]
theorem r8(hk:l.kd=23):Ar fns gl l n k e=Ln l.line k e:=by simp only[Ar,hk]
theorem s6(hk:l.kd=24):Ar fns gl l n k e=if n=0 then e.step 43 0 0 else(k 0 e).step 44 0 0:=by simp only[Ar,hk]
theorem s7(hk:l.kd=25):Ar fns gl l n k e=e.L6:=by simp only[Ar,hk]
theorem s8(hk:l.kd=26):Ar fns gl l n k e=e.cnt:=by simp only[Ar,hk]
theorem s9(hk:l.kd=27):Ar fns gl l n k e=(k 0 e).step 41 0 l.line:=by simp only[Ar,hk]
theorem x7(hk:l.kd=28):Ar fns gl l n k e=(k 0 e).var gl l.s 3 4:=by simp only[Ar,hk]
theorem x8(hk:l.kd=29):Ar fns gl l n k e=(k 0 e).step 40 0 l.line:=by simp only[Ar,hk]
theorem y9(hk:l.kd=30):Ar fns gl l n k e=(k 0 e).step 5 0 0:=by simp only[Ar,hk]
theorem U6(hk:l.kd=31):Ar fns gl l n k e=(k 0 e).cut e.loc.length:=by simp only[Ar,hk]
theorem z8(hk:l.kd=32):Ar fns gl l n k e=(k 0 e).cut e.loc.length:=by simp only[Ar,hk]
theorem A08(hk:l.kd=139\/l.kd=140):Ar fns gl l n k e=N2 (binOp (l.kd-100)) l.line k e:=by
 rcases hk with h|h <;> simp[Ar,h]
theorem A06(h1:127<=l.kd)(h2:l.kd<=138):Ar fns gl l n k e=(k 0 e).step (binOp (l.kd-100)) 0 l.line:=by
 have hk:l.kd=127\/l.kd=128\/l.kd=129\/l.kd=130\/l.kd=131\/l.kd=132\/l.kd=133\/l.kd=134\/l.kd=135\/l.kd=136\/l.kd=137\/l.kd=138:=by omega
 rcases hk with h|h|h|h|h|h|h|h|h|h|h|h <;> simp[Ar,h]
end
section
open Go.Deep (BT)
def Gg(e:Em):List Nat:=e.lps.map Prod.fst
theorem Pb(o:Nat)(a:Int)(ln:Nat)(e:Em):Gg (e.step o a ln)=Gg e:=rfl
theorem T7(j:Nat)(e:Em):Gg (e.land j)=Gg e:=rfl
theorem z4ha {P:Prop} (h:P:=by
  intro l;induction l with
  | nil=>intro e;rfl
  | cons j r ih=>intro e;rw[Em.Hx,ih];rfl):P:=h
theorem Xl:∀(l:List Nat) (e:Em),(e.Hx l).lps=e.lps:=by
 exact z4ha
theorem Xk:∀(l:List Nat) (e:Em),(e.Hx l).loc=e.loc:=by
 exact z4ha
theorem A4a(gl:List Nm)(s:Nm)(a b:Nat)(e:Em):Gg (e.var gl s a b)=Gg e:=by
 unfold Em.var;split
 ·rfl
 ·split <;> rfl
theorem Q8(gl:List Nm)(s:Nm)(a b:Nat)(e:Em):(e.var gl s a b).lps=e.lps/\(e.var gl s a b).loc=e.loc/\(e.var gl s a b).slots=e.slots:=by
 unfold Em.var;split
 ·exact⟨rfl,rfl,rfl⟩
 ·split <;> exact⟨rfl,rfl,rfl⟩
theorem V4(e:Em):Gg e.L6=Gg e/\e.L6.loc=e.loc:=by
 unfold Em.L6;split
 ·exact⟨rfl,rfl⟩
 ·rename_i s bs r h;exact⟨by simp[Gg,h],rfl⟩
theorem V5(e:Em):Gg e.cnt=Gg e/\e.cnt.loc=e.loc:=by
 unfold Em.cnt;split
 ·exact⟨rfl,rfl⟩
 ·exact⟨rfl,rfl⟩
theorem A0b(fns:List (Nm×Nat))(gl:List Nm)(l:A6)(n:Nat)(k:Nat->Em->Em)(h:∀m e,Gg (k m e)=Gg e)(e:Em):Gg (Ar fns gl l n k e)=Gg e:=by
 have h0:=h 0 e;unfold Ar;split;all_goals try (first|rfl|exact h0)
 ·exact A4a _ _ _ _ _
 ·unfold Lm;simp only[];rw[T7];split
  ·rw[h,T7,Pb,h,Pb,h]
  ·rw[T7,Pb,h,Pb,h]
 ·unfold Ln;simp only[];have h1:Gg (((k 2 ((k 1 e.open').step 7 0 l.line)).step 6 (e.st.length:Nat) 0).land (k 1 e.open').st.length)=e.st.length::Gg e:=by
   rw[T7,Pb,h,Pb,h];rfl
  show((Em.Hx _ _).lps.tail).map Prod.fst=_;rw[Xl];have h2:∀x:List (Nat×List Nat),x.tail.map Prod.fst=(x.map Prod.fst).tail:=fun x=>by cases x <;> rfl
  rw[h2];show List.tail (Gg _)=_;rw[h1];rfl
 ·split
  ·rfl
  ·exact h0
 ·exact(V4 e).1
 ·exact(V5 e).1
 ·rw[A4a];exact h0
 ·split
  ·unfold N2;simp only[];rw[T7,Pb,h,Pb,h]
  ·exact h0
theorem A0g(fns:List (Nm×Nat))(gl:List Nm):∀(c:BT A6) (m:Nat) (e:Em),Gg (em fns gl c m e)=Gg e:=by
 intro c;induction c with
 | nil=>intro m e;rfl
 | node x y l c r Dr D8=>
  intro m e;rw[em];split
  ·exact D8 _ _
  ·split
   ·exact A0b _ _ _ _ _ Dr e
   ·rw[D8];exact A0b _ _ _ _ _ Dr e
theorem Wl(fns:List (Nm×Nat))(gl:List Nm)(c:BT A6)(m:Nat)(e:Em):(em fns gl c m e).lps.length=e.lps.length:=by
 have:=congrArg List.length (A0g fns gl c m e);simpa [Gg]using this
theorem A0a(fns:List (Nm×Nat))(gl:List Nm)(l:A6)(c:BT A6)(e:Em):(Ar fns gl l (Ax c) (em fns gl c) e).lps.length=e.lps.length:=Wl fns gl (nd l c) 0 e
theorem Ac3(fns:List (Nm×Nat))(gl:List Nm)(l:A6)(n s s1 s2 s3:Nat)(k:Nat->Em->Em)(h0:∀e,(k 0 e).loc.length<=e.loc.length+s)(h1:∀e,(k 1 e).loc.length<=e.loc.length+s1)(h2:∀e,(k 2 e).loc.length<=e.loc.length+s2)(h3:∀e,(k 3 e).loc.length<=e.loc.length+s3)(hs:s1+s2+s3<=s)(e:Em) :
  (Ar fns gl l n k e).loc.length<=e.loc.length+(1+s):=by
 have g0:=h0 e;unfold Ar;split;all_goals try (first|(show e.loc.length<=_;omega)|(show(k 0 e).loc.length<=_;omega))
 ·rw[(Q8 _ _ _ _ _).2.1];omega
 ·show((k 0 e).loc++[l.s]).length<=_;simp;omega
 ·unfold Lm;have a1:=h1 e;have a2:=h2 ((k 1 e).step 8 0 l.line);have b2:((k 1 e).step 8 0 l.line).loc=(k 1 e).loc:=rfl;rw[b2]at a2;show(if n=3 then _ else _:Em).loc.length<=_;split
  ·have a3:=h3 (((k 2 ((k 1 e).step 8 0 l.line)).step 6 0 0).land (k 1 e).st.length);have b3:(((k 2 ((k 1 e).step 8 0 l.line)).step 6 0 0).land (k 1 e).st.length).loc=(k 2 ((k 1 e).step 8 0 l.line)).loc:=rfl;rw[b3]at a3;omega
  ·show(k 2 ((k 1 e).step 8 0 l.line)).loc.length<=_;omega
 ·unfold Ln;show(Em.Hx _ _).loc.length<=_;rw[Xk];have a1:=h1 e.open';have a2:=h2 ((k 1 e.open').step 7 0 l.line);have b2:((k 1 e.open').step 7 0 l.line).loc=(k 1 e.open').loc:=rfl;have b1:e.open'.loc=e.loc:=rfl;rw[b2]at a2;rw[b1]at a1;show(k 2 ((k 1 e.open').step 7 0 l.line)).loc.length<=_;omega
 ·split
  ·show e.loc.length<=_;omega
  ·show(k 0 e).loc.length<=_;omega
 ·rw[(V4 e).2];omega
 ·rw[(V5 e).2];omega
 ·rw[(Q8 _ _ _ _ _).2.1];omega
 ·show((k 0 e).loc.take e.loc.length).length<=_;simp;omega
 ·show((k 0 e).loc.take e.loc.length).length<=_;simp;omega
 ·split
  ·unfold N2;have a1:=h1 e;have a2:=h2 ((k 1 e).step (binOp (l.kd-100)) 0 l.line);have b2:((k 1 e).step (binOp (l.kd-100)) 0 l.line).loc=(k 1 e).loc:=rfl;rw[b2]at a2;show(k 2 ((k 1 e).step (binOp (l.kd-100)) 0 l.line)).loc.length<=_;omega
  ·show(k 0 e).loc.length<=_;omega
theorem Aci(fns:List (Nm×Nat))(gl:List Nm):∀(c:BT A6),(∀e,(em fns gl c 0 e).loc.length<=e.loc.length+bsize c)/\(∀m,1<=m->∀e,(em fns gl c m e).loc.length<=e.loc.length+G7 c m):=by
 intro c;induction c with
 | nil=>exact⟨fun e=>by rw[em];omega,fun m _ e=>by rw[em];omega⟩
 | node x y l c r Dr D8=>
  have hN:∀e,(Ar fns gl l (Ax c) (em fns gl c) e).loc.length<=e.loc.length+(1+bsize c):=
   fun e=>Ac3 fns gl l (Ax c) (bsize c) (G7 c 1) (G7 c 2) (G7 c 3) (em fns gl c) Dr.1 (Dr.2 1 z4va) (Dr.2 2 z4va) (Dr.2 3 z4va) (A3d c) e
  exact z1ea
theorem Ac4(fns:List (Nm×Nat))(gl:List Nm)(l:A6)(c:BT A6)(e:Em):(Ar fns gl l (Ax c) (em fns gl c) e).loc.length<=e.loc.length+bsize (nd l c):=(Aci fns gl (nd l c)).1 e
theorem A0c(fns:List (Nm×Nat))(gl:List Nm)(l:A6)(n:Nat)(k:Nat->Em->Em)(h:∀m e,e.st.length<=(k m e).st.length)(e:Em):e.st.length<=(Ar fns gl l n k e).st.length:=by
 have h0:=h 0 e;have hv:∀(s:Nm) (a b:Nat) (e:Em),e.st.length<=(e.var gl s a b).st.length:=by
  intro s a b e;unfold Em.var;split
  ·rw[Dy];omega
  ·split
   ·rw[Dy];omega
   ·exact z4ca
 unfold Ar;split;all_goals try (first|(rw[Wb];omega)|(rw[Dy];omega)|omega)
 ·exact hv _ _ _ _
 ·rw[Dy];show _<=(k 0 e).st.length+1;omega
 ·unfold Lm;simp only[K5];have a1:=h 1 e;have a2:=h 2 ((k 1 e).step 8 0 l.line);rw[Dy]at a2;split
  ·have a3:=h 3 (((k 2 ((k 1 e).step 8 0 l.line)).step 6 0 0).land (k 1 e).st.length);rw[K5,Dy]at a3;omega
  ·rw[K5,Dy];omega
 ·unfold Ln;simp only[Em.close,Uh,K5,Dy];have a1:=h 1 e.open';have a2:=h 2 ((k 1 e.open').step 7 0 l.line);rw[Dy]at a2;have:e.open'.st.length=e.st.length:=rfl;omega
 ·split
  ·rw[Dy];omega
  ·rw[Dy];omega
 ·unfold Em.L6;split
  ·exact z4ca
  ·simp
 ·unfold Em.cnt;split
  ·exact z4ca
  ·rw[Dy];omega
 ·have:=hv l.s 3 4 (k 0 e);omega
 ·exact h0
 ·exact h0
 ·split
  ·unfold N2;simp only[K5,Dy];have a1:=h 1 e;have a2:=h 2 ((k 1 e).step (binOp (l.kd-100)) 0 l.line);rw[Dy]at a2;omega
  ·rw[Dy];omega
theorem S0(fns:List (Nm×Nat))(gl:List Nm):∀(c:BT A6) (m:Nat) (e:Em),e.st.length<=(em fns gl c m e).st.length:=by
 intro c;induction c with
 | nil=>intro m e;exact Nat.le_refl _
 | node x y l c r Dr D8=>
  intro m e;rw[em];split
  ·exact D8 _ _
  ·split
   ·exact A0c _ _ _ _ _ Dr e
   ·exact Nat.le_trans (A0c fns gl l (Ax c) _ Dr e) (D8 _ _)
theorem Wk(fns:List (Nm×Nat))(gl:List Nm)(l:A6)(c:BT A6)(e:Em):e.st.length<=(Ar fns gl l (Ax c) (em fns gl c) e).st.length:=S0 fns gl (nd l c) 0 e
def Lp:BT A6->Nat->Prop
 | .nil,_=>True
 | .node _ _ l c r,n=>(l.kd=25\/l.kd=26->n≠0)/\Lp c (if l.kd=32 then n+1 else n)/\Lp r n
theorem Qb{is:Bool}{code line:Nat}{f:Ct}(hc:code≠0)(h:(Ed is code line f).1=0):f.1=0/\is=false:=by
 unfold Ed at h;split at h
 ·exact absurd h hc
 ·rename_i hn;refine⟨h,?_⟩;cases is
  ·rfl
  ·exfalso;apply hn;rw[h];rfl
theorem z4da {P:Prop} (h:P:=by
  exact⟨(Qb z4va b1).1,fun e=>by omega⟩):P:=h
theorem A3q(fns:List (Nm×Nat)):∀(c:BT A6) (outer cur:List Nm) (wh:Nat) (inn:Bool) (f:Ct),(Bt fns c outer cur wh inn f).2.1=0->f.1=0/\Lp c wh:=by
 intro c;induction c with
 | nil=>intro outer cur wh inn f h;exact⟨h,trivial⟩
 | node x y l c r Dr D8=>
  intro outer cur wh inn f h;rw[Bt]at h;by_cases h31:l.kd=31
  ·rw[if_pos h31]at h;obtain⟨a1,a2⟩:=D8 _ _ _ _ _ h;obtain⟨b1,b2⟩:=Dr _ _ _ _ _ a1;exact⟨b1,fun e=>by omega,by rw[if_neg z4va];exact b2,a2⟩
  ·rw[if_neg h31]at h;by_cases h32:l.kd=32
   ·rw[if_pos h32]at h;obtain⟨a1,a2⟩:=D8 _ _ _ _ _ h;obtain⟨b1,b2⟩:=Dr _ _ _ _ _ a1;exact⟨b1,fun e=>by omega,by rw[if_pos h32];exact b2,a2⟩
   ·rw[if_neg h32]at h;by_cases h21:l.kd=21
    ·rw[if_pos h21]at h;obtain⟨a1,a2⟩:=D8 _ _ _ _ _ h;obtain⟨b1,b2⟩:=Dr _ _ _ _ _ a1;exact⟨(Qb z4va b1).1,fun e=>by omega,by rw[if_neg z4va];exact b2,a2⟩
    ·rw[if_neg h21]at h;obtain⟨a1,a2⟩:=D8 _ _ _ _ _ h;obtain⟨b1,b2⟩:=Dr _ _ _ _ _ a1;have hz:f.1=0/\(l.kd=25\/l.kd=26->wh≠0):=by
      split at b1
      ·exact z4da
      ·split at b1
       ·exact z4da
       ·split at b1
        ·have:=Qb z4va b1;exact⟨this.1,fun _ e=>by have:=this.2;simp at this;exact this e⟩
        ·split at b1
         ·exact z4da
         ·exact⟨b1,fun e=>by omega⟩
     exact⟨hz.1,hz.2,by rw[if_neg z4va];exact b2,a2⟩
end
end Go.Proofs.YtjdlndhfaaolaaaGreatDoor
