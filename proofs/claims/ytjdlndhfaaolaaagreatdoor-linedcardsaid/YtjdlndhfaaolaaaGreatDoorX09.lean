import Derived.Test.YtjdlndhfaaolaaaGreatDoorX02
import Derived.Test.YtjdlndhfaaolaaaGreatDoorX07
set_option maxHeartbeats 20000000
namespace Go.Proofs.YtjdlndhfaaolaaaGreatDoor
section
open Go.RowKit
open Go.Deep (BT)
structure A5 (b : Nat) (w w' : World) : Prop where
 os:w'.os=w.os
 tape:w'.tape=w.tape
 output:w'.output=w.output
 size:w.heap.size<=w'.heap.size
 block:∀k,k<w.heap.size->k≠b->w'.heap[k]?=w.heap[k]?
theorem A5.refl(b:Nat)(w:World):A5 b w w:=⟨rfl,rfl,rfl,Nat.le_refl _,fun _ _ _=>rfl⟩
theorem A5.trans{b:Nat}{x y z:World}(h:A5 b x y)(k:A5 b y z):A5 b x z:=
 ⟨k.os.trans h.os,k.tape.trans h.tape,k.output.trans h.output,Nat.le_trans h.size k.size,fun i hi hb=>(k.block i (Nat.lt_of_lt_of_le hi h.size) hb).trans (h.block i hi hb)⟩
theorem Below.only{b:Nat}{w w':World}(h:Below w.heap.size w w'):A5 b w w':=⟨h.os,h.tape,h.output,h.size,fun k hk _=>h.block k hk⟩
theorem A5.drew{b:Nat}{x w:World}(h:A5 b x w):A5 b x w.drew:=⟨h.os,h.tape,h.output,h.size,h.block⟩
theorem A5.alloc{b:Nat}{x w:World}(h:A5 b x w)(o:Obj):A5 b x (w.alloc o):=
 h.trans ⟨rfl,rfl,rfl,by simp,fun k hk _=>Below.heap_alloc _ _ _ hk⟩
theorem A5.set{b:Nat}{x w:World}(h:A5 b x w){p:Addr}(hp:p.block=b\/x.heap.size<=p.block)(u:Value):A5 b x (w.setCell p u):=
 ⟨h.os,h.tape,h.output,by simp[World.setCell];exact h.size,fun k hk hb=>(Below.heap_setCell _ _ _ _ (by rcases hp with e|e <;> omega)).trans (h.block k hk hb)⟩
theorem A5.grown{b:Nat}{x w w':World}{row:Option Nat}(h:A5 b x w)(hg:w.grownBy w' row)(hr:∀k,row=some k->k=b\/x.heap.size<=k):A5 b x w':=
 ⟨hg.os.trans h.os,hg.tape.trans h.tape,hg.output.trans h.output,Nat.le_trans h.size hg.size,fun k hk hb=>(hg.block k (Nat.lt_of_lt_of_le hk h.size) (fun e=>by rcases hr k e.symm with e|e <;> omega)).trans (h.block k hk hb)⟩
def Cr(D:Nat->Prop)(w:World)(e:TypeId)(size:Nat)(v:Value)(n:Nat)(cs:List Value):Prop:=w.ownsRow 0 e size v n cs/\∀g,v.ownBlock=some g->D g
theorem Cr.keep{D D':Nat->Prop}{w w':World}{e:TypeId}{size:Nat}{v:Value}{n:Nat}{cs:List Value}(h:Cr D w e size v n cs)
  (hk:∀g,D g->g<w.heap.size->w'.heap[g]?=w.heap[g]?/\D' g):Cr D' w' e size v n cs:=
 ⟨B2 h.1 fun g hg hl=>(hk g (h.2 g hg) hl).1,fun g hg=>(hk g (h.2 g hg) (Bg h.1 g hg)).2⟩
end
section
open Go.RowKit
theorem Ci{w:World}{g:Nat}{cs:Array Value}{t:TypeId}(h:w.heap[g]?=some (.cells cs t (0,0)))(o:Nat):w.frozen? ⟨g,o,none⟩=false:=by
 simp[World.frozen?,h]
theorem A7{w:World}{g:Nat}{cs:Array Value}{t:TypeId}{fr:Nat×Nat}(h:w.heap[g]?=some (.cells cs t fr))(o:Nat)(u:Value)(hu:cs[o]?=some u):w.cell? ⟨g,o,none⟩=some u:=by
 rw[cell_of_row w g o cs t fr h];exact hu
theorem heap_set{w:World}{b j:Nat}{cs:Array Value}{t:TypeId}{fr:Nat×Nat}(h:w.heap[b]?=some (.cells cs t fr))(u:Value):(w.setCell ⟨b,j,none⟩ u).heap[b]?=some (.cells (cs.setIfInBounds j u) t fr):=by
 simp[World.setCell,Array.getElem?_modify,h]
theorem Dt{w:World}{g:Nat}{a0 a1 a2 a3:Value}{t:TypeId}(h:w.heap[g]?=some (.cells #[a0,a1,a2,a3] t (0,0))) :
  w.cell? ⟨g,0,none⟩=some a0/\w.cell? ⟨g,1,none⟩=some a1/\w.cell? ⟨g,2,none⟩=some a2/\w.cell? ⟨g,3,none⟩=some a3/\(∀o,w.frozen? ⟨g,o,none⟩=false)/\g<w.heap.size:=
 ⟨A7 h 0 _ rfl,A7 h 1 _ rfl,A7 h 2 _ rfl,A7 h 3 _ rfl,Ci h,A6 h⟩
theorem T7{w:World}{g:Nat}{a0 a1 a2 a3 a4 a5:Value}{t:TypeId}(h:w.heap[g]?=some (.cells #[a0,a1,a2,a3,a4,a5] t (0,0))) :
  w.cell? ⟨g,0,none⟩=some a0/\w.cell? ⟨g,1,none⟩=some a1/\w.cell? ⟨g,2,none⟩=some a2/\w.cell? ⟨g,3,none⟩=some a3/\w.cell? ⟨g,4,none⟩=some a4/\w.cell? ⟨g,5,none⟩=some a5/\(∀o,w.frozen? ⟨g,o,none⟩=false)/\g<w.heap.size:=
 ⟨A7 h 0 _ rfl,A7 h 1 _ rfl,A7 h 2 _ rfl,A7 h 3 _ rfl,A7 h 4 _ rfl,A7 h 5 _ rfl,Ci h,A6 h⟩
theorem A5.blk{b:Nat}{w w':World}(h:A5 b w w'){g:Nat}{o:Obj}(hg:w.heap[g]?=some o)(hb:g≠b):w'.heap[g]?=some o:=(h.block g (A6 hg) hb).trans hg
theorem Fu{w w':World}(h:Below w.heap.size w w'){g:Nat}{o:Obj}(hg:w.heap[g]?=some o):w'.heap[g]?=some o:=(h.block g (A6 hg)).trans hg
theorem alloc_old{w:World}{g:Nat}{o o':Obj}(hg:w.heap[g]?=some o):(w.alloc o').heap[g]?=some o:=(Below.heap_alloc w o' g (A6 hg)).trans hg
theorem A3l{w:World}{g:Nat}{o:Obj}{p:Addr}{u:Value}(hg:w.heap[g]?=some o)(hp:g≠p.block):(w.setCell p u).heap[g]?=some o:=(Below.heap_setCell w p u g hp).trans hg
theorem A5.Ih{b:Nat}{x w:World}(h:A5 b x w){g:Nat}(hg:x.heap.size<=g)(u0 u1 u2 u3:Value):A5 b x ((((w.setCell ⟨g,0,none⟩ u0).setCell ⟨g,1,none⟩ u1).setCell ⟨g,2,none⟩ u2).setCell ⟨g,3,none⟩ u3):=(A5.set (p:=⟨g,3,none⟩) (A5.set (p:=⟨g,2,none⟩) (A5.set (p:=⟨g,1,none⟩) (A5.set (p:=⟨g,0,none⟩) h (.inr hg) u0) (.inr hg) u1) (.inr hg) u2) (.inr hg) u3)
theorem Hj{w:World}{k g:Nat}(hp:k≠g)(u0 u1 u2 u3:Value):((((w.setCell ⟨g,0,none⟩ u0).setCell ⟨g,1,none⟩ u1).setCell ⟨g,2,none⟩ u2).setCell ⟨g,3,none⟩ u3).heap[k]?=w.heap[k]?:=by
 rw[Below.heap_setCell _ _ _ _ (by exact hp)];rw[Below.heap_setCell _ _ _ _ (by exact hp)];rw[Below.heap_setCell _ _ _ _ (by exact hp)];rw[Below.heap_setCell _ _ _ _ (by exact hp)]
end
section
def Pf(k:Nat):List UInt8->Option (Tk×Nat)
 | []=>some (⟨0,0,[],0⟩,k)
 | c::r=>(E7 (c::r)).map fun x=>(x.1,k+x.2)
def Fo(l:List UInt8):Nat×Option (Tk×Nat):=((B0 false l).2.1,if(B0 false l).2.2 then Pf (B0 false l).1 (l.drop (B0 false l).1) else none)
def N5(acc:List Tk):Nat ⊕ List Tk->Nat ⊕ List Tk
 | .inl n=>.inl n
 | .inr ts=>.inr (acc++ts)
theorem Agp(x:Nat ⊕ List Tk):N5 [] x=x:=by cases x <;> rfl
theorem Ago(a b:List Tk)(x:Nat ⊕ List Tk):N5 a (N5 b x)=N5 (a++b) x:=by cases x <;> simp[N5]
theorem Amo{c:UInt8}(r:List UInt8)(h:I4 c=false):E7 (c::r)=none:=by
 have hn:¬(32<=c.toNat/\c.toNat<=126):=by
  intro e;rw[I4,decide_eq_true e.1,decide_eq_true e.2]at h;cases h
 have hd:Cw c=false:=by
  rw[Cw];by_cases h1:48<=c.toNat
  ·rw[decide_eq_false (show ¬c.toNat<=57 by omega)];simp
  ·rw[decide_eq_false h1];rfl
 have hl:isLet c=false:=by
  rw[isLet];rw[Bool.or_eq_false_iff];constructor
  ·by_cases h1:97<=c.toNat
   ·rw[decide_eq_false (show ¬c.toNat<=122 by omega)];simp
   ·rw[decide_eq_false h1];rfl
  ·by_cases h1:65<=c.toNat
   ·rw[decide_eq_false (show ¬c.toNat<=90 by omega)];simp
   ·rw[decide_eq_false h1];rfl
 have hc:∀d:UInt8,32<=d.toNat->d.toNat<=126->(c==d)=false:=by
  intro d h1 h2;rw[beq_eq_false_iff_ne];intro e;subst e;exact hn ⟨h1,h2⟩
 have Ai:Iv c=0:=by
  unfold Iv;simp only[hc 40 z4ta z4ta,hc 41 z4ta z4ta,hc 123 z4ta z4ta,hc 125 z4ta z4ta,hc 91 z4ta z4ta,hc 93 z4ta z4ta,hc 44 z4ta z4ta,hc 59 z4ta z4ta,hc 61 z4ta z4ta,hc 33 z4ta z4ta,hc 60 z4ta z4ta,hc 62 z4ta z4ta,hc 43 z4ta z4ta,hc 45 z4ta z4ta,hc 42 z4ta z4ta,hc 47 z4ta z4ta,hc 37 z4ta z4ta,Bool.false_eq_true,if_false]
 have Az:∀d,Jy c d=0:=by
  intro d;unfold Jy;simp only[hc 61 z4ta z4ta,hc 33 z4ta z4ta,hc 60 z4ta z4ta,hc 62 z4ta z4ta,hc 38 z4ta z4ta,hc 124 z4ta z4ta,Bool.false_and,Bool.false_eq_true,if_false]
 have hsg:(Fa (c::r))=(0,0):=by
  cases r with
  | nil=>rw[Fa,Ai];rfl
  | cons d r=>rw[Fa,Az,Ai];rfl
 rw[E7];simp only[hd,hl,hc 34 z4ta z4ta,hsg,Bool.false_eq_true,if_false];rfl
theorem A1l:∀(l:List UInt8) (f ln:Nat) (sd:Bool),l.length<f->
  lex f l ln sd=if(B0 sd l).2.2 then lex (f-(B0 sd l).1) (l.drop (B0 sd l).1) (ln+(B0 sd l).2.1) false else .inl (ln+(B0 sd l).2.1):=by
 intro l;induction l with
 | nil=>
  intro f ln sd hf;obtain⟨f,rfl⟩:∃g,f=g+1:=⟨f-1,by simp at hf;omega⟩;cases sd <;> simp[B0,lex]
 | cons c r ih=>
  intro f ln sd hf;obtain⟨f,rfl⟩:∃g,f=g+1:=⟨f-1,by simp at hf;omega⟩;have hf':r.length<f:=by simp at hf;omega
  rw[lex];by_cases h10:(c==10)=true
  ·rw[if_pos h10];have hk:B0 sd (c::r)=((B0 false r).1+1,(B0 false r).2.1+1,(B0 false r).2.2):=by
    cases sd <;> rw[B0,if_pos h10]
   rw[hk,ih f (ln+1) false hf'];simp only[List.drop_succ_cons,Nat.add_sub_add_right,show ∀a,ln+1+a=ln+(a+1) from fun a=>by omega]
  ·rw[if_neg h10];by_cases hb:(c !=9&&!(I4 c))=true
   ·rw[if_pos hb];have h9:c≠9:=by intro e;subst e;exact absurd hb z4ta
    have hp:I4 c=false:=by
     cases hq:I4 c
     ·rfl
     ·rw[hq]at hb;simp at hb
    cases sd with
    | true=>rw[B0,if_neg h10,if_pos hb];rfl
    | false=>
     have h32:c≠32:=by intro e;subst e;exact absurd hp z4ta
     have h47:c≠47:=by intro e;subst e;exact absurd hp z4ta
     have hk:B0 false (c::r)=(0,0,true):=A40 (by simpa using h10) h32 h9 (fun e=>h47 e.1);rw[hk];simp only[if_true,List.drop_zero,Nat.sub_zero,Nat.add_zero];rw[lex,if_neg h10,if_pos hb]
   ·rw[if_neg hb];cases sd with
    | true=>
     rw[if_pos z4wa,B0,if_neg h10,if_neg hb];simp only[Bool.true_or,List.drop_succ_cons,Nat.add_sub_add_right];exact ih f ln true hf'
    | false=>
     by_cases hs:(c==32||c==9)=true
     ·have h47:(c==47)=false:=by
       rw[beq_eq_false_iff_ne];intro e;subst e;exact absurd hs z4ta
      rw[if_pos (by simp only[Bool.false_or,Bool.or_eq_true];simp only[Bool.or_eq_true]at hs;rcases hs with h|h;exact .inr h;exact .inl (.inr h))];rw[B0,if_neg h10,if_pos hs];simp only[h47,Bool.false_and,Bool.or_false,List.drop_succ_cons,Nat.add_sub_add_right];exact ih f ln false hf'
     ·by_cases hr:(c==47&&r.head?==some 47)=true
      ·rw[if_pos (by rw[hr];simp),B0,if_neg h10,if_neg hs,if_pos hr];simp only[hr,Bool.false_or,List.drop_succ_cons,Nat.add_sub_add_right];exact ih f ln true hf'
      ·have hk:B0 false (c::r)=(0,0,true):=by rw[B0,if_neg h10,if_neg hs,if_neg hr]
       rw[hk];simp only[if_true,List.drop_zero,Nat.sub_zero,Nat.add_zero];rw[lex,if_neg h10,if_neg hb]
theorem Aeg:∀(f:Nat) (l:List UInt8) (g ln:Nat) (sd:Bool),l.length<f->l.length<g->lex f l ln sd=lex g l ln sd:=by
 intro f;induction f with
 | zero=>intro l g ln sd h;omega
 | succ f ih=>
  intro l g ln sd hf hg;obtain⟨g,rfl⟩:∃h,g=h+1:=⟨g-1,by omega⟩;cases l with
  | nil=>rw[lex,lex]
  | cons c r=>
   have h1:r.length<f:=by simp at hf;omega
   have h2:r.length<g:=by simp at hg;omega
   rw[lex,lex];split
   ·exact ih _ _ _ _ h1 h2
   split
   ·rfl
   split
   ·exact ih _ _ _ _ h1 h2
   cases ht:E7 (c::r) with
   | none=>rfl
   | some x=>
    obtain⟨t,n⟩:=x;have hn:=(Sn c r t n ht).2.2;have hd:((c::r).drop n).length<=r.length:=by simp;omega
    simp only;rw[ih ((c::r).drop n) g ln false z4sa z4sa]
theorem z6ea {P:Prop} (h:P:=by simpa using hd):P:=h
theorem A3z:∀(l:List UInt8) (sd:Bool),(B0 sd l).2.2=true->∀c r,l.drop (B0 sd l).1=c::r->c≠10/\c≠32/\c≠9/\¬(c=47/\r.head?=some 47):=by
 intro l;induction l with
 | nil=>intro sd _ c r h;simp at h
 | cons d q ih=>
  intro sd h c r hd;cases sd with
  | true=>
   rw[B0]at h hd;split at h
   ·rename_i h1;rw[if_pos h1]at hd;exact ih false h c r z6ea
   ·rename_i h1;rw[if_neg h1]at hd;split at h
    ·cases h
    ·rename_i h2;rw[if_neg h2]at hd;exact ih true h c r z6ea
  | false=>
   rw[B0]at h hd;split at h
   ·rename_i h1;rw[if_pos h1]at hd;exact ih false h c r z6ea
   ·rename_i h1;rw[if_neg h1]at hd;split at h
    ·rename_i h2;rw[if_pos h2]at hd;exact ih false h c r z6ea
    ·rename_i h2;rw[if_neg h2]at hd;split at h
     ·rename_i h3;rw[if_pos h3]at hd;exact ih true h c r z6ea
     ·rename_i h3;rw[if_neg h3]at hd;simp only[List.drop_zero,List.cons.injEq]at hd;obtain⟨rfl,rfl⟩:=hd;simp only[Bool.or_eq_true,beq_iff_eq,not_or]at h2;simp only[Bool.and_eq_true,beq_iff_eq]at h3;exact⟨by simpa using h1,h2.1,h2.2,h3⟩
theorem z5ga {P:Prop} (h:P:=by simp only[Bool.false_or,Bool.or_eq_true,Bool.and_eq_true,beq_iff_eq];rintro((h|h)|h);exact h47 h;exact h9 h;exact h32 h):P:=h
theorem Afd(l:List UInt8)(ln:Nat)(h:(Fo l).2=none):lex (l.length+1) l ln false=.inl (ln+(Fo l).1):=by
 rw[A1l l _ ln false z4sa];have hle:=(Z5 l false).1;unfold Fo at h ⊢;cases hs:(B0 false l).2.2 with
 | false=>simp
 | true=>
  simp only[hs,if_true]at h ⊢;cases hd:l.drop (B0 false l).1 with
  | nil=>rw[hd,Pf]at h;cases h
  | cons c r=>
   rw[hd,Pf]at h;have ht:E7 (c::r)=none:=by
    cases ht:E7 (c::r) with
    | none=>rfl
    | some x=>rw[ht]at h;cases h
   obtain⟨f,hf⟩:∃f,l.length+1-(B0 false l).1=f+1:=⟨l.length-(B0 false l).1,by omega⟩;obtain⟨h10,h32,h9,h47⟩:=A3z l false hs c r hd;rw[hf,lex,if_neg (by simpa using h10)];by_cases hp:I4 c=true
   ·rw[if_neg (by simp[hp]),if_neg z5ga,ht]
   ·have hp':I4 c=false:=by simpa using hp
    rw[if_pos (by simp[hp',h9])]
theorem Afe(l:List UInt8)(ln:Nat)(x:Tk×Nat)(h:(Fo l).2=some x):lex (l.length+1) l ln false=(if x.1.k=0 then .inr [⟨0,ln+(Fo l).1,[],0⟩] else N5 [⟨x.1.k,ln+(Fo l).1,x.1.s,x.1.n⟩] (lex ((l.drop x.2).length+1) (l.drop x.2) (ln+(Fo l).1) false))/\x.2<=l.length/\(x.1.k=0->x.1=⟨0,0,[],0⟩)/\(x.1.k≠0->1<=x.2)/\(Fo l).1<=x.2:=by
 rw[A1l l _ ln false z4sa];have hle:=Z5 l false;unfold Fo at h ⊢;cases hs:(B0 false l).2.2 with
 | false=>rw[hs]at h;cases h
 | true=>
  simp only[hs,if_true]at h ⊢;cases hd:l.drop (B0 false l).1 with
  | nil=>
   rw[hd,Pf]at h;obtain rfl:=Option.some.inj h;have hl:l.length+1-(B0 false l).1=1:=by
    have:=congrArg List.length hd;simp at this;omega
   rw[if_pos rfl,hl,lex];exact⟨rfl,hle.1,fun _=>rfl,fun e=>absurd rfl e,hle.2⟩
  | cons c r=>
   have hlen:(c::r).length=l.length-(B0 false l).1:=by rw[←hd];simp
   rw[hd,Pf]at h;cases ht:E7 (c::r) with
   | none=>rw[ht]at h;cases h
   | some y=>
    rw[ht]at h;obtain⟨t,n⟩:=y;obtain rfl:(t,(B0 false l).1+n)=x:=Option.some.inj h;obtain⟨k1,_,k3⟩:=Sn c r t n ht;have hn:=Amr (c::r) t n ht;obtain⟨f,hf⟩:∃f,l.length+1-(B0 false l).1=f+1:=⟨l.length-(B0 false l).1,by omega⟩;obtain⟨h10,h32,h9,h47⟩:=A3z l false hs c r hd;refine⟨?_,by simp only;omega,fun e=>absurd e (by simp only;omega),fun _=>by simp only;omega,by simp only;omega⟩;have hp:I4 c=true:=by
     cases hp:I4 c with
     | true=>rfl
     | false=>rw[Amo r hp]at ht;cases ht
    rw[hf,lex,if_neg (by simpa using h10),if_neg (by simp[hp]),if_neg z5ga,ht];have hdn:(c::r).drop n=l.drop ((B0 false l).1+n):=by rw[←hd,List.drop_drop]
    have hll:(l.drop ((B0 false l).1+n)).length<f:=by
     simp only[List.length_drop];simp only[List.length_cons]at hlen;omega
    simp only;rw[if_neg z4sa,hdn,Aeg f _ ((l.drop ((B0 false l).1+n)).length+1) _ _ hll z4sa];cases lex ((l.drop ((B0 false l).1+n)).length+1) (l.drop ((B0 false l).1+n)) (ln+(B0 false l).2.1) false <;> rfl
end
section
open Go.Deep (BT)
theorem z5oa {P:Prop} (h:P:=by simpa using hj):P:=h
theorem A1i(s:Nm):∀(l:List Nm),(∀j (h:j<l.length),l[j]≠s)->L4 s l=none:=by
 intro l;induction l with
 | nil=>intro _;rfl
 | cons x r ih=>
  intro h;have h1:=ih (fun j hj=>by have:=h (j+1) z5oa;simpa using this);have h0:=h 0 z4wa;simp only[List.getElem_cons_zero]at h0;rw[L4,h1];simp[h0]
theorem Aeb(s:Nm):∀(l:List Nm) (i:Nat) (hi:i<l.length),l[i]=s->(∀j (h:j<l.length),i<j->l[j]≠s)->L4 s l=some i:=by
 intro l;induction l with
 | nil=>intro i hi;simp at hi
 | cons x r ih=>
  intro i hi he hn;cases i with
  | zero=>
   have h1:=A1i s r (fun j hj=>by have:=hn (j+1) z5oa z4sa;simpa using this);simp only[List.getElem_cons_zero]at he;rw[L4,h1];simp[he]
  | succ i=>
   have h1:=ih i (by simpa using hi) (by simpa using he) (fun j hj hij=>by have:=hn (j+1) z5oa z4sa;simpa using this);rw[L4,h1]
theorem A0q(s:Nm):∀(l:List Nm),(∀j (h:j<l.length),l[j]≠s)->Kj s l=none:=by
 intro l;induction l with
 | nil=>intro _;rfl
 | cons x r ih=>
  intro h;have h1:=ih (fun j hj=>by have:=h (j+1) z5oa;simpa using this);have h0:=h 0 z4wa;simp only[List.getElem_cons_zero]at h0;rw[Kj,if_neg h0,h1]
theorem A0r(s:Nm):∀(l:List Nm) (i:Nat) (hi:i<l.length),l[i]=s->(∀j (h:j<l.length),j<i->l[j]≠s)->Kj s l=some i:=by
 intro l;induction l with
 | nil=>intro i hi;simp at hi
 | cons x r ih=>
  intro i hi he hn;cases i with
  | zero=>
   simp only[List.getElem_cons_zero]at he;rw[Kj,if_pos he]
  | succ i=>
   have h0:=hn 0 z4wa z4sa;simp only[List.getElem_cons_zero]at h0;have h1:=ih i (by simpa using hi) (by simpa using he) (fun j hj hij=>by have:=hn (j+1) z5oa z4sa;simpa using this);rw[Kj,if_neg h0,h1]
def K5(i:Af):List Value:=[.int .i64 (i.op:Nat),.int .i64 i.arg,.int .i64 (i.line:Nat),.int .i64 (i.v.k:Nat),.bool i.v.y,.int .i64 i.v.n,.string ⟨i.v.t.toArray⟩,.pointer none]
def Ez(st:List Af):List Value:=st.flatMap K5
theorem Adn(a b:List Af):Ez (a++b)=Ez a++Ez b:=by simp[Ez]
theorem Adq(i:Af):Ez [i]=K5 i:=by simp[Ez]
theorem Adp(st:List Af):(Ez st).length=st.length*8:=by
 induction st with
 | nil=>rfl
 | cons x r ih=>
  have e:Ez (x::r)=K5 x++Ez r:=by simp[Ez]
  rw[e,List.length_append,ih];have hl:(K5 x).length=8:=rfl;rw[hl,List.length_cons];omega
theorem Qe(a:Int):∀(st:List Af) (j:Nat),(Gm j a st).length=st.length:=by
 intro st;induction st with
 | nil=>intro j;cases j <;> rfl
 | cons x r ih=>
  intro j;cases j with
  | zero=>rfl
  | succ j=>rw[Gm,List.length_cons,ih,List.length_cons]
theorem z5ta {P:Prop} (h:P:=by simpa using h):P:=h
theorem Ado(a:Int):∀(st:List Af) (j:Nat),j<st.length->Ez (Gm j a st)=(Ez st).set (j*8+1) (.int .i64 a):=by
 intro st;induction st with
 | nil=>intro j h;simp at h
 | cons x r ih=>
  intro j h;have e:Ez (x::r)=K5 x++Ez r:=by simp[Ez]
  have hl:(K5 x).length=8:=rfl;cases j with
  | zero=>
   rw[Gm,e,List.set_append_left _ _ z4sa];simp[Ez,K5]
  | succ j=>
   rw[Gm,e];have e2:Ez (x::Gm j a r)=K5 x++Ez (Gm j a r):=by simp[Ez]
   rw[e2,ih j z5ta,List.set_append_right _ _ z4sa,hl,show(j+1)*8+1-8=j*8+1 by omega]
def Ff:BT A3->Nat->Nat
 | .nil,_=>0
 | .node _ _ l c r,m=>if 2<=m then Ff r (m-1) else bsize (nd l c)
theorem Yr(m:Nat):Ff .nil m=0:=by cases m <;> rfl
theorem Ys(c:BT A3):Ff c 1+Ff c 2+Ff c 3<=bsize c:=by
 cases c with
 | nil=>simp[Yr]
 | node x y l c r=>
  have h1:Ff (.node x y l c r) 1=bsize (nd l c):=rfl;have h2:Ff (.node x y l c r) 2=Ff r 1:=rfl;have h3:Ff (.node x y l c r) 3=Ff r 2:=rfl;rw[h1,h2,h3,Br];simp only[bsize];cases r with
  | nil=>simp[Yr]
  | node x y l c r=>
   have h1:Ff (.node x y l c r) 1=bsize (nd l c):=rfl;have h2:Ff (.node x y l c r) 2=Ff r 1:=rfl;rw[h1,h2,Br];simp only[bsize];cases r with
   | nil=>simp[Yr]
   | node x y l c r=>
    have h1:Ff (.node x y l c r) 1=bsize (nd l c):=rfl;rw[h1,Br];simp only[bsize];omega
theorem Dg(o:Nat)(a:Int)(ln:Nat)(e:Em):(e.step o a ln).st.length=e.st.length+1:=by simp[Em.step]
theorem Vz(v:PV)(e:Em):(e.F0 v).st.length=e.st.length+1:=by simp[Em.F0]
theorem K6(j:Nat)(e:Em):(e.land j).st.length=e.st.length:=Qe _ _ _
theorem Tr:∀(l:List Nat) (e:Em),(e.Dn l).st.length=e.st.length:=by
 intro l;induction l with
 | nil=>intro e;rfl
 | cons j r ih=>intro e;rw[Em.Dn,ih,K6]
theorem z3ta {P:Prop} (h:P:=by
  exact Nat.le_refl _):P:=h
theorem A4u(gl:List Nm)(s:Nm)(a b:Nat)(e:Em):(e.var gl s a b).st.length<=e.st.length+1:=by
 unfold Em.var;split
 ·rw[Dg];exact z3ta
 ·split
  ·rw[Dg];exact z3ta
  ·omega
theorem A98(e:Em):e.Hw.st.length<=e.st.length+1:=by
 unfold Em.Hw;split
 ·omega
 ·simp
theorem Aa3(e:Em):e.cnt.st.length<=e.st.length+1:=by
 unfold Em.cnt;split
 ·omega
 ·rw[Dg];exact z3ta
theorem Abd(fns:List (Nm×Nat))(gl:List Nm)(l:A3)(n s s1 s2 s3:Nat)(k:Nat->Em->Em)(h0:∀e,(k 0 e).st.length<=e.st.length+2*s)(h1:∀e,(k 1 e).st.length<=e.st.length+2*s1)(h2:∀e,(k 2 e).st.length<=e.st.length+2*s2)(h3:∀e,(k 3 e).st.length<=e.st.length+2*s3)(hs:s1+s2+s3<=s)(e:Em) :
  (Am fns gl l n k e).st.length<=e.st.length+2*(1+s):=by
 have g0:=h0 e;unfold Am;split;all_goals try (first|(rw[Vz];omega)|(rw[Dg];omega)|omega)
 ·have:=A4u gl l.s 1 2 e;omega
 ·rw[Dg];show(k 0 e).st.length+1<=_;omega
 ·unfold Js;simp only[K6];have a1:=h1 e;have a2:=h2 ((k 1 e).step 8 0 l.line);rw[Dg]at a2;split
  ·have a3:=h3 (((k 2 ((k 1 e).step 8 0 l.line)).step 6 0 0).land (k 1 e).st.length);rw[K6,Dg]at a3;omega
  ·rw[K6,Dg];omega
 ·unfold L2;simp only[Em.close,Tr,K6,Dg];have a1:=h1 e.open';have a2:=h2 ((k 1 e.open').step 7 0 l.line);rw[Dg]at a2;have:e.open'.st.length=e.st.length:=rfl;omega
 ·split
  ·rw[Dg];omega
  ·rw[Dg];omega
 ·have:=A98 e;omega
 ·have:=Aa3 e;omega
 ·have:=A4u gl l.s 3 4 (k 0 e);omega
 ·show(k 0 e).st.length<=_;omega
 ·show(k 0 e).st.length<=_;omega
 ·split
  ·unfold Lf;simp only[K6,Dg];have a1:=h1 e;have a2:=h2 ((k 1 e).step (binOp (l.kd-100)) 0 l.line);rw[Dg]at a2;omega
  ·rw[Dg];omega
theorem z1aa {P:Prop} (h:P:=by
  refine⟨fun e=>?_,fun m hm e=>?_⟩
  ·rw[Ib];have a1:=hN e;have a2:=Bn.1 (Am fns gl l (Ak c) (em fns gl c) e);simp only[bsize];omega
  ·by_cases h2:2<=m
   ·have e1:em fns gl (.node x y l c r) m e=em fns gl r (m-1) e:=by rw[em,if_pos h2]
    have e2:Ff (.node x y l c r) m=Ff r (m-1):=by rw[Ff,if_pos h2]
    rw[e1,e2];exact Bn.2 (m-1) z4sa e
   ·have h1:m=1:=by omega
    subst h1;rw[P9];have e2:Ff (.node x y l c r) 1=bsize (nd l c):=rfl;rw[e2,Br];have:=hN e;omega):P:=h
theorem Mb(fns:List (Nm×Nat))(gl:List Nm):∀(c:BT A3),(∀e,(em fns gl c 0 e).st.length<=e.st.length+2*bsize c)/\(∀m,1<=m->∀e,(em fns gl c m e).st.length<=e.st.length+2*Ff c m):=by
 intro c;induction c with
 | nil=>exact⟨fun e=>by rw[em];omega,fun m _ e=>by rw[em];omega⟩
 | node x y l c r Cb Bn=>
  have hN:∀e,(Am fns gl l (Ak c) (em fns gl c) e).st.length<=e.st.length+2*(1+bsize c):=
   fun e=>Abd fns gl l (Ak c) (bsize c) (Ff c 1) (Ff c 2) (Ff c 3) (em fns gl c) Cb.1 (Cb.2 1 z4sa) (Cb.2 2 z4sa) (Cb.2 3 z4sa) (Ys c) e
  exact z1aa
theorem Gh(fns:List (Nm×Nat))(gl:List Nm)(l:A3)(c:BT A3)(e:Em):(Am fns gl l (Ak c) (em fns gl c) e).st.length<=e.st.length+2*bsize (nd l c):=by
 have:=(Mb fns gl (nd l c)).1 e;rw[A0d]at this;exact this
end
section
open Go.Deep (BT)
variable {fns:List (Nm×Nat)} {gl:List Nm} {l:A3} {n:Nat} {k:Nat->Em->Em} {e:Em}
theorem Wc(hk:l.kd=1):Am fns gl l n k e=e.F0 ⟨2,false,l.n,[],none⟩:=by simp only[Am,hk]
theorem Wj(hk:l.kd=2):Am fns gl l n k e=e.F0 ⟨3,false,0,l.s,none⟩:=by simp only[Am,hk]
theorem Wq(hk:l.kd=3):Am fns gl l n k e=e.F0 ⟨1,true,0,[],none⟩:=by simp only[Am,hk]
theorem Wt(hk:l.kd=4):Am fns gl l n k e=e.F0 ⟨1,false,0,[],none⟩:=by simp only[Am,hk]
theorem Wu(hk:l.kd=5):Am fns gl l n k e=e.F0 Bp:=by simp only[Am,hk]
theorem Wv(hk:l.kd=6):Am fns gl l n k e=e.var gl l.s 1 2:=by simp only[Am,hk]
theorem Ww(hk:l.kd=7):Am fns gl l n k e=(k 0 e).step 42 (L3 fns l.s) l.line:=by simp only[Am,hk]
theorem Wx(hk:l.kd=8):Am fns gl l n k e=k 0 e:=by simp only[Am,hk]
theorem Wy(hk:l.kd=9):Am fns gl l n k e=(k 0 e).step 36 (n:Nat) l.line:=by simp only[Am,hk]
theorem Wd(hk:l.kd=10):Am fns gl l n k e=(k 0 e).step 37 0 l.line:=by simp only[Am,hk]
theorem We(hk:l.kd=11):Am fns gl l n k e=(k 0 e).step 38 0 l.line:=by simp only[Am,hk]
theorem Wg(hk:l.kd=12):Am fns gl l n k e=(k 0 e).step 39 0 l.line:=by simp only[Am,hk]
theorem Wh(hk:l.kd=13):Am fns gl l n k e=(k 0 e).step 27 0 l.line:=by simp only[Am,hk]
theorem Wi(hk:l.kd=14):Am fns gl l n k e=(k 0 e).step 23 0 l.line:=by simp only[Am,hk]
theorem A05(hk:l.kd=21):Am fns gl l n k e=((k 0 e).local' l.s).step 3 ((k 0 e).loc.length:Nat) 0:=by simp only[Am,hk]
theorem Te(hk:l.kd=22):Am fns gl l n k e=Js l.line n k e:=by simp only[Am,hk]
theorem Wk(hk:l.kd=23):Am fns gl l n k e=L2 l.line k e:=by simp only[Am,hk]
theorem Tf(hk:l.kd=24):Am fns gl l n k e=if n=0 then e.step 43 0 0 else(k 0 e).step 44 0 0:=by simp only[Am,hk]
theorem Wl(hk:l.kd=25):Am fns gl l n k e=e.Hw:=by simp only[Am,hk]
theorem Wm(hk:l.kd=26):Am fns gl l n k e=e.cnt:=by simp only[Am,hk]
theorem Wn(hk:l.kd=27):Am fns gl l n k e=(k 0 e).step 41 0 l.line:=by simp only[Am,hk]
theorem Wo(hk:l.kd=28):Am fns gl l n k e=(k 0 e).var gl l.s 3 4:=by simp only[Am,hk]
theorem Wp(hk:l.kd=29):Am fns gl l n k e=(k 0 e).step 40 0 l.line:=by simp only[Am,hk]
theorem Wr(hk:l.kd=30):Am fns gl l n k e=(k 0 e).step 5 0 0:=by simp only[Am,hk]
theorem Rf(hk:l.kd=31):Am fns gl l n k e=(k 0 e).cut e.loc.length:=by simp only[Am,hk]
theorem Ws(hk:l.kd=32):Am fns gl l n k e=(k 0 e).cut e.loc.length:=by simp only[Am,hk]
theorem X0(hk:l.kd=139\/l.kd=140):Am fns gl l n k e=Lf (binOp (l.kd-100)) l.line k e:=by
 rcases hk with h|h <;> simp[Am,h]
theorem Wz(h1:127<=l.kd)(h2:l.kd<=138):Am fns gl l n k e=(k 0 e).step (binOp (l.kd-100)) 0 l.line:=by
 have hk:l.kd=127\/l.kd=128\/l.kd=129\/l.kd=130\/l.kd=131\/l.kd=132\/l.kd=133\/l.kd=134\/l.kd=135\/l.kd=136\/l.kd=137\/l.kd=138:=by omega
 rcases hk with h|h|h|h|h|h|h|h|h|h|h|h <;> simp[Am,h]
end
section
open Go.Deep (BT)
def Dx(e:Em):List Nat:=e.lps.map Prod.fst
theorem Ot(o:Nat)(a:Int)(ln:Nat)(e:Em):Dx (e.step o a ln)=Dx e:=rfl
theorem Sk(j:Nat)(e:Em):Dx (e.land j)=Dx e:=rfl
theorem z4fa {P:Prop} (h:P:=by
  intro l;induction l with
  | nil=>intro e;rfl
  | cons j r ih=>intro e;rw[Em.Dn,ih];rfl):P:=h
theorem Tt:∀(l:List Nat) (e:Em),(e.Dn l).lps=e.lps:=by
 exact z4fa
theorem Ts:∀(l:List Nat) (e:Em),(e.Dn l).loc=e.loc:=by
 exact z4fa
theorem A4a(gl:List Nm)(s:Nm)(a b:Nat)(e:Em):Dx (e.var gl s a b)=Dx e:=by
 unfold Em.var;split
 ·rfl
 ·split <;> rfl
theorem Pu(gl:List Nm)(s:Nm)(a b:Nat)(e:Em):(e.var gl s a b).lps=e.lps/\(e.var gl s a b).loc=e.loc/\(e.var gl s a b).slots=e.slots:=by
 unfold Em.var;split
 ·exact⟨rfl,rfl,rfl⟩
 ·split <;> exact⟨rfl,rfl,rfl⟩
theorem Ut(e:Em):Dx e.Hw=Dx e/\e.Hw.loc=e.loc:=by
 unfold Em.Hw;split
 ·exact⟨rfl,rfl⟩
 ·rename_i s bs r h;exact⟨by simp[Dx,h],rfl⟩
theorem Uu(e:Em):Dx e.cnt=Dx e/\e.cnt.loc=e.loc:=by
 unfold Em.cnt;split
 ·exact⟨rfl,rfl⟩
 ·exact⟨rfl,rfl⟩
theorem A0a(fns:List (Nm×Nat))(gl:List Nm)(l:A3)(n:Nat)(k:Nat->Em->Em)(h:∀m e,Dx (k m e)=Dx e)(e:Em):Dx (Am fns gl l n k e)=Dx e:=by
 have h0:=h 0 e;unfold Am;split;all_goals try (first|rfl|exact h0)
 ·exact A4a _ _ _ _ _
 ·unfold Js;simp only[];rw[Sk];split
  ·rw[h,Sk,Ot,h,Ot,h]
  ·rw[Sk,Ot,h,Ot,h]
 ·unfold L2;simp only[];have h1:Dx (((k 2 ((k 1 e.open').step 7 0 l.line)).step 6 (e.st.length:Nat) 0).land (k 1 e.open').st.length)=e.st.length::Dx e:=by
   rw[Sk,Ot,h,Ot,h];rfl
  show((Em.Dn _ _).lps.tail).map Prod.fst=_;rw[Tt];have h2:∀x:List (Nat×List Nat),x.tail.map Prod.fst=(x.map Prod.fst).tail:=fun x=>by cases x <;> rfl
  rw[h2];show List.tail (Dx _)=_;rw[h1];rfl
 ·split
  ·rfl
  ·exact h0
 ·exact(Ut e).1
 ·exact(Uu e).1
 ·rw[A4a];exact h0
 ·split
  ·unfold Lf;simp only[];rw[Sk,Ot,h,Ot,h]
  ·exact h0
theorem A0h(fns:List (Nm×Nat))(gl:List Nm):∀(c:BT A3) (m:Nat) (e:Em),Dx (em fns gl c m e)=Dx e:=by
 intro c;induction c with
 | nil=>intro m e;rfl
 | node x y l c r Cb Bn=>
  intro m e;rw[em];split
  ·exact Bn _ _
  ·split
   ·exact A0a _ _ _ _ _ Cb e
   ·rw[Bn];exact A0a _ _ _ _ _ Cb e
theorem X5(fns:List (Nm×Nat))(gl:List Nm)(c:BT A3)(m:Nat)(e:Em):(em fns gl c m e).lps.length=e.lps.length:=by
 have:=congrArg List.length (A0h fns gl c m e);simpa [Dx]using this
theorem A08(fns:List (Nm×Nat))(gl:List Nm)(l:A3)(c:BT A3)(e:Em):(Am fns gl l (Ak c) (em fns gl c) e).lps.length=e.lps.length:=X5 fns gl (nd l c) 0 e
theorem Abe(fns:List (Nm×Nat))(gl:List Nm)(l:A3)(n s s1 s2 s3:Nat)(k:Nat->Em->Em)(h0:∀e,(k 0 e).loc.length<=e.loc.length+s)(h1:∀e,(k 1 e).loc.length<=e.loc.length+s1)(h2:∀e,(k 2 e).loc.length<=e.loc.length+s2)(h3:∀e,(k 3 e).loc.length<=e.loc.length+s3)(hs:s1+s2+s3<=s)(e:Em) :
  (Am fns gl l n k e).loc.length<=e.loc.length+(1+s):=by
 have g0:=h0 e;unfold Am;split;all_goals try (first|(show e.loc.length<=_;omega)|(show(k 0 e).loc.length<=_;omega))
 ·rw[(Pu _ _ _ _ _).2.1];omega
 ·show((k 0 e).loc++[l.s]).length<=_;simp;omega
 ·unfold Js;have a1:=h1 e;have a2:=h2 ((k 1 e).step 8 0 l.line);have b2:((k 1 e).step 8 0 l.line).loc=(k 1 e).loc:=rfl;rw[b2]at a2;show(if n=3 then _ else _:Em).loc.length<=_;split
  ·have a3:=h3 (((k 2 ((k 1 e).step 8 0 l.line)).step 6 0 0).land (k 1 e).st.length);have b3:(((k 2 ((k 1 e).step 8 0 l.line)).step 6 0 0).land (k 1 e).st.length).loc=(k 2 ((k 1 e).step 8 0 l.line)).loc:=rfl;rw[b3]at a3;omega
  ·show(k 2 ((k 1 e).step 8 0 l.line)).loc.length<=_;omega
 ·unfold L2;show(Em.Dn _ _).loc.length<=_;rw[Ts];have a1:=h1 e.open';have a2:=h2 ((k 1 e.open').step 7 0 l.line);have b2:((k 1 e.open').step 7 0 l.line).loc=(k 1 e.open').loc:=rfl;have b1:e.open'.loc=e.loc:=rfl;rw[b2]at a2;rw[b1]at a1;show(k 2 ((k 1 e.open').step 7 0 l.line)).loc.length<=_;omega
 ·split
  ·show e.loc.length<=_;omega
  ·show(k 0 e).loc.length<=_;omega
 ·rw[(Ut e).2];omega
 ·rw[(Uu e).2];omega
 ·rw[(Pu _ _ _ _ _).2.1];omega
 ·show((k 0 e).loc.take e.loc.length).length<=_;simp;omega
 ·show((k 0 e).loc.take e.loc.length).length<=_;simp;omega
 ·split
  ·unfold Lf;have a1:=h1 e;have a2:=h2 ((k 1 e).step (binOp (l.kd-100)) 0 l.line);have b2:((k 1 e).step (binOp (l.kd-100)) 0 l.line).loc=(k 1 e).loc:=rfl;rw[b2]at a2;show(k 2 ((k 1 e).step (binOp (l.kd-100)) 0 l.line)).loc.length<=_;omega
  ·show(k 0 e).loc.length<=_;omega
theorem Abs(fns:List (Nm×Nat))(gl:List Nm):∀(c:BT A3),(∀e,(em fns gl c 0 e).loc.length<=e.loc.length+bsize c)/\(∀m,1<=m->∀e,(em fns gl c m e).loc.length<=e.loc.length+Ff c m):=by
 intro c;induction c with
 | nil=>exact⟨fun e=>by rw[em];omega,fun m _ e=>by rw[em];omega⟩
 | node x y l c r Cb Bn=>
  have hN:∀e,(Am fns gl l (Ak c) (em fns gl c) e).loc.length<=e.loc.length+(1+bsize c):=
   fun e=>Abe fns gl l (Ak c) (bsize c) (Ff c 1) (Ff c 2) (Ff c 3) (em fns gl c) Cb.1 (Cb.2 1 z4sa) (Cb.2 2 z4sa) (Cb.2 3 z4sa) (Ys c) e
  exact z1aa
theorem Abf(fns:List (Nm×Nat))(gl:List Nm)(l:A3)(c:BT A3)(e:Em):(Am fns gl l (Ak c) (em fns gl c) e).loc.length<=e.loc.length+bsize (nd l c):=(Abs fns gl (nd l c)).1 e
theorem A0b(fns:List (Nm×Nat))(gl:List Nm)(l:A3)(n:Nat)(k:Nat->Em->Em)(h:∀m e,e.st.length<=(k m e).st.length)(e:Em):e.st.length<=(Am fns gl l n k e).st.length:=by
 have h0:=h 0 e;have hv:∀(s:Nm) (a b:Nat) (e:Em),e.st.length<=(e.var gl s a b).st.length:=by
  intro s a b e;unfold Em.var;split
  ·rw[Dg];omega
  ·split
   ·rw[Dg];omega
   ·exact z3ta
 unfold Am;split;all_goals try (first|(rw[Vz];omega)|(rw[Dg];omega)|omega)
 ·exact hv _ _ _ _
 ·rw[Dg];show _<=(k 0 e).st.length+1;omega
 ·unfold Js;simp only[K6];have a1:=h 1 e;have a2:=h 2 ((k 1 e).step 8 0 l.line);rw[Dg]at a2;split
  ·have a3:=h 3 (((k 2 ((k 1 e).step 8 0 l.line)).step 6 0 0).land (k 1 e).st.length);rw[K6,Dg]at a3;omega
  ·rw[K6,Dg];omega
 ·unfold L2;simp only[Em.close,Tr,K6,Dg];have a1:=h 1 e.open';have a2:=h 2 ((k 1 e.open').step 7 0 l.line);rw[Dg]at a2;have:e.open'.st.length=e.st.length:=rfl;omega
 ·split
  ·rw[Dg];omega
  ·rw[Dg];omega
 ·unfold Em.Hw;split
  ·exact z3ta
  ·simp
 ·unfold Em.cnt;split
  ·exact z3ta
  ·rw[Dg];omega
 ·have:=hv l.s 3 4 (k 0 e);omega
 ·exact h0
 ·exact h0
 ·split
  ·unfold Lf;simp only[K6,Dg];have a1:=h 1 e;have a2:=h 2 ((k 1 e).step (binOp (l.kd-100)) 0 l.line);rw[Dg]at a2;omega
  ·rw[Dg];omega
theorem Rg(fns:List (Nm×Nat))(gl:List Nm):∀(c:BT A3) (m:Nat) (e:Em),e.st.length<=(em fns gl c m e).st.length:=by
 intro c;induction c with
 | nil=>intro m e;exact Nat.le_refl _
 | node x y l c r Cb Bn=>
  intro m e;rw[em];split
  ·exact Bn _ _
  ·split
   ·exact A0b _ _ _ _ _ Cb e
   ·exact Nat.le_trans (A0b fns gl l (Ak c) _ Cb e) (Bn _ _)
theorem X3(fns:List (Nm×Nat))(gl:List Nm)(l:A3)(c:BT A3)(e:Em):e.st.length<=(Am fns gl l (Ak c) (em fns gl c) e).st.length:=Rg fns gl (nd l c) 0 e
def Lp:BT A3->Nat->Prop
 | .nil,_=>True
 | .node _ _ l c r,n=>(l.kd=25\/l.kd=26->n≠0)/\Lp c (if l.kd=32 then n+1 else n)/\Lp r n
theorem Lo{is:Bool}{code line:Nat}{f:C4}(hc:code≠0)(h:(Cy is code line f).1=0):f.1=0/\is=false:=by
 unfold Cy at h;split at h
 ·exact absurd h hc
 ·rename_i hn;refine⟨h,?_⟩;cases is
  ·rfl
  ·exfalso;apply hn;rw[h];rfl
theorem z24a {P:Prop} (h:P:=by
  exact⟨(Lo z4sa b1).1,fun e=>by omega⟩):P:=h
theorem A3h(fns:List (Nm×Nat)):∀(c:BT A3) (outer cur:List Nm) (wh:Nat) (inn:Bool) (f:C4),(Ba fns c outer cur wh inn f).2.1=0->f.1=0/\Lp c wh:=by
 intro c;induction c with
 | nil=>intro outer cur wh inn f h;exact⟨h,trivial⟩
 | node x y l c r Cb Bn=>
  intro outer cur wh inn f h;rw[Ba]at h;by_cases h31:l.kd=31
  ·rw[if_pos h31]at h;obtain⟨a1,a2⟩:=Bn _ _ _ _ _ h;obtain⟨b1,b2⟩:=Cb _ _ _ _ _ a1;exact⟨b1,fun e=>by omega,by rw[if_neg z4sa];exact b2,a2⟩
  ·rw[if_neg h31]at h;by_cases h32:l.kd=32
   ·rw[if_pos h32]at h;obtain⟨a1,a2⟩:=Bn _ _ _ _ _ h;obtain⟨b1,b2⟩:=Cb _ _ _ _ _ a1;exact⟨b1,fun e=>by omega,by rw[if_pos h32];exact b2,a2⟩
   ·rw[if_neg h32]at h;by_cases h21:l.kd=21
    ·rw[if_pos h21]at h;obtain⟨a1,a2⟩:=Bn _ _ _ _ _ h;obtain⟨b1,b2⟩:=Cb _ _ _ _ _ a1;exact⟨(Lo z4sa b1).1,fun e=>by omega,by rw[if_neg z4sa];exact b2,a2⟩
    ·rw[if_neg h21]at h;obtain⟨a1,a2⟩:=Bn _ _ _ _ _ h;obtain⟨b1,b2⟩:=Cb _ _ _ _ _ a1;have hz:f.1=0/\(l.kd=25\/l.kd=26->wh≠0):=by
      split at b1
      ·exact z24a
      ·split at b1
       ·exact z24a
       ·split at b1
        ·have:=Lo z4sa b1;exact⟨this.1,fun _ e=>by have:=this.2;simp at this;exact this e⟩
        ·split at b1
         ·exact z24a
         ·exact⟨b1,fun e=>by omega⟩
     exact⟨hz.1,hz.2,by rw[if_neg z4sa];exact b2,a2⟩
def R6(a b:Em):Prop:=a.lps=b.lps/\a.loc=b.loc/\a.slots=b.slots
theorem Abh(fns:List (Nm×Nat))(gl:List Nm)(l:A3)(n:Nat)(k:Nat->Em->Em)(hk:Gi l.kd=true)(h:∀m e,R6 (k m e) e)(e:Em):R6 (Am fns gl l n k e) e:=by
 unfold Gi at hk;simp only[Bool.or_eq_true,Bool.and_eq_true,decide_eq_true_eq]at hk;have h0:=h 0 e;have hb:∀o ln,R6 (Lf o ln k e) e:=by
  intro o ln;have a1:=h 1 e;have a2:=h 2 ((k 1 e).step o 0 ln);exact⟨a2.1.trans a1.1,a2.2.1.trans a1.2.1,a2.2.2.trans a1.2.2⟩
 by_cases A1:127<=l.kd
 ·by_cases A9:l.kd<=138
  ·rw[Wz A1 A9];exact h0
  ·rw[X0 z4sa];exact hb _ _
 ·have C7:l.kd=1\/l.kd=2\/l.kd=3\/l.kd=4\/l.kd=5\/l.kd=6\/l.kd=7\/l.kd=8\/l.kd=9\/l.kd=10\/l.kd=11\/l.kd=12\/l.kd=13\/l.kd=14:=by omega
  rcases C7 with h|h|h|h|h|h|h|h|h|h|h|h|h|h
  ·rw[Wc h];exact⟨rfl,rfl,rfl⟩
  ·rw[Wj h];exact⟨rfl,rfl,rfl⟩
  ·rw[Wq h];exact⟨rfl,rfl,rfl⟩
  ·rw[Wt h];exact⟨rfl,rfl,rfl⟩
  ·rw[Wu h];exact⟨rfl,rfl,rfl⟩
  ·rw[Wv h];exact Pu _ _ _ _ _
  ·rw[Ww h];exact h0
  ·rw[Wx h];exact h0
  ·rw[Wy h];exact h0
  ·rw[Wd h];exact h0
  ·rw[We h];exact h0
  ·rw[Wg h];exact h0
  ·rw[Wh h];exact h0
  ·rw[Wi h];exact h0
theorem z31a {P:Prop} (h:P:=by
  rcases w2 with⟨_,h1,h2⟩|⟨h1,_⟩|⟨h1,_⟩|⟨h1,_⟩|⟨h1,_⟩|⟨h1,_⟩|⟨h1,_⟩
  ·exact⟨h1,h2⟩
  all_goals omega):P:=h
theorem A0g(fns:List (Nm×Nat))(gl:List Nm):∀(c:BT A3),Wf 0 c->∀(m:Nat) (e:Em),R6 (em fns gl c m e) e:=by
 intro c;induction c with
 | nil=>intro _ m e;exact⟨rfl,rfl,rfl⟩
 | node x y l c r Cb Bn=>
  intro hw m e;obtain⟨w1,w2⟩:=hw;have hx:Gi l.kd=true/\Wf 0 c:=by
   exact z31a
  have hN:=Abh fns gl l (Ak c) (em fns gl c) hx.1 (fun m e=>Cb hx.2 m e) e;rw[em];split
  ·exact Bn w1 _ _
  ·split
   ·exact hN
   ·have:=Bn w1 0 (Am fns gl l (Ak c) (em fns gl c) e);exact⟨this.1.trans hN.1,this.2.1.trans hN.2.1,this.2.2.trans hN.2.2⟩
theorem Nn(fns:List (Nm×Nat))(gl:List Nm)(l:A3)(c:BT A3)(hk:Gi l.kd=true)(hw:Wf 0 c)(e:Em):R6 (Am fns gl l (Ak c) (em fns gl c) e) e:=A0g fns gl (nd l c) ⟨trivial,.inl ⟨.inl rfl,hk,hw⟩⟩ 0 e
theorem A07(fns:List (Nm×Nat))(gl:List Nm)(l:A3)(n:Nat)(k:Nat->Em->Em)(h:∀m e,e.loc.length<=(k m e).loc.length)(e:Em):e.loc.length<=(Am fns gl l n k e).loc.length:=by
 have h0:=h 0 e;unfold Am;split;all_goals try (first|exact Nat.le_refl _|exact h0)
 ·rw[(Pu _ _ _ _ _).2.1];exact z3ta
 ·show _<=((k 0 e).loc++[l.s]).length;simp;omega
 ·unfold Js;have a1:=h 1 e;have a2:(k 1 e).loc.length<=(k 2 ((k 1 e).step 8 0 l.line)).loc.length:=h 2 ((k 1 e).step 8 0 l.line);show _<=(if n=3 then _ else _:Em).loc.length;split
  ·have a3:(k 2 ((k 1 e).step 8 0 l.line)).loc.length<=_:=h 3 (((k 2 ((k 1 e).step 8 0 l.line)).step 6 0 0).land (k 1 e).st.length);omega
  ·show _<=(k 2 ((k 1 e).step 8 0 l.line)).loc.length;omega
 ·unfold L2;show _<=(Em.Dn _ _).loc.length;rw[Ts];have a1:e.loc.length<=(k 1 e.open').loc.length:=h 1 e.open';have a2:(k 1 e.open').loc.length<=(k 2 ((k 1 e.open').step 7 0 l.line)).loc.length:=h 2 ((k 1 e.open').step 7 0 l.line);show _<=(k 2 ((k 1 e.open').step 7 0 l.line)).loc.length;omega
 ·split
  ·exact z3ta
  ·exact h0
 ·rw[(Ut e).2];exact z3ta
 ·rw[(Uu e).2];exact z3ta
 ·rw[(Pu _ _ _ _ _).2.1];exact h0
 ·show _<=((k 0 e).loc.take e.loc.length).length;simp;omega
 ·show _<=((k 0 e).loc.take e.loc.length).length;simp;omega
 ·split
  ·unfold Lf;have a1:=h 1 e;have a2:(k 1 e).loc.length<=(k 2 ((k 1 e).step (binOp (l.kd-100)) 0 l.line)).loc.length:=h 2 ((k 1 e).step (binOp (l.kd-100)) 0 l.line);show _<=(k 2 ((k 1 e).step (binOp (l.kd-100)) 0 l.line)).loc.length;omega
  ·exact h0
theorem Abr(fns:List (Nm×Nat))(gl:List Nm):∀(c:BT A3) (m:Nat) (e:Em),e.loc.length<=(em fns gl c m e).loc.length:=by
 intro c;induction c with
 | nil=>intro m e;exact Nat.le_refl _
 | node x y l c r Cb Bn=>
  intro m e;rw[em];split
  ·exact Bn _ _
  ·split
   ·exact A07 _ _ _ _ _ Cb e
   ·exact Nat.le_trans (A07 fns gl l (Ak c) _ Cb e) (Bn _ _)
def D6(e:Em):Prop:=∀x∈e.lps,x.2.length<=e.st.length/\∀j∈x.2,j<e.st.length
theorem D6.up{e e':Em}(h:D6 e)(hl:e'.lps=e.lps)(hs:e.st.length<=e'.st.length):D6 e':=by
 intro x hx;rw[hl]at hx;exact⟨Nat.le_trans (h x hx).1 hs,fun j hj=>Nat.lt_of_lt_of_le ((h x hx).2 j hj) hs⟩
theorem z6ba {P:Prop} (h:P:=by rw[Dg];omega):P:=h
theorem D6.step{e:Em}(h:D6 e)(o:Nat)(a:Int)(ln:Nat):D6 (e.step o a ln):=h.up rfl z6ba
theorem D6.F0{e:Em}(h:D6 e)(v:PV):D6 (e.F0 v):=h.up rfl (by rw[Vz];omega)
theorem D6.land{e:Em}(h:D6 e)(j:Nat):D6 (e.land j):=h.up rfl (by rw[K6];exact Nat.le_refl _)
theorem D6.Dn{e:Em}(h:D6 e)(l:List Nat):D6 (e.Dn l):=h.up (Tt l e) (by rw[Tr];exact Nat.le_refl _)
theorem D6.var{e:Em}(h:D6 e)(gl:List Nm)(s:Nm)(a b:Nat):D6 (e.var gl s a b):=by
 unfold Em.var;split
 ·exact h.step _ _ _
 ·split
  ·exact h.step _ _ _
  ·exact h
theorem D6.Hw{e:Em}(h:D6 e):D6 e.Hw:=by
 unfold Em.Hw;split
 ·exact h
 ·rename_i s bs r hq;intro x hx;simp only[List.mem_cons]at hx;rcases hx with rfl|hx
  ·have:=h (s,bs) (by rw[hq];simp);simp only at this;refine⟨by simp;omega,fun j hj=>?_⟩;simp only[List.mem_append,List.mem_singleton]at hj;simp only[List.length_append,List.length_singleton];rcases hj with hj|hj
   ·have:=this.2 j hj;omega
   ·omega
  ·have:=h x (by rw[hq];simp[hx]);refine⟨by simp;omega,fun j hj=>?_⟩;have:=this.2 j hj;simp;omega
theorem D6.cnt{e:Em}(h:D6 e):D6 e.cnt:=by
 unfold Em.cnt;split
 ·exact h
 ·exact h.step _ _ _
theorem D6.open'{e:Em}(h:D6 e):D6 e.open':=by
 intro x hx;simp only[Em.open',List.mem_cons]at hx;rcases hx with rfl|hx
 ·exact⟨Nat.zero_le _,fun j hj=>by cases hj⟩
 ·exact h x hx
theorem D6.close{e:Em}(h:D6 e):D6 e.close:=fun x hx=>h x (List.mem_of_mem_tail hx)
theorem D6.cut{e:Em}(h:D6 e)(n:Nat):D6 (e.cut n):=h
theorem A06(fns:List (Nm×Nat))(gl:List Nm)(l:A3)(n:Nat)(k:Nat->Em->Em)(h:∀m e,D6 e->D6 (k m e))(e:Em)(he:D6 e):D6 (Am fns gl l n k e):=by
 have h0:=h 0 e he;unfold Am;split;all_goals try (first|exact he.F0 _|exact h0|exact h0.step _ _ _|exact h0.cut _)
 ·exact he.var _ _ _ _
 ·unfold Js;refine D6.land ?_ _;split
  ·exact h _ _ ((((h _ _ ((h _ _ he).step _ _ _)).step _ _ _).land _))
  ·exact((h _ _ ((h _ _ he).step _ _ _)).step _ _ _).land _
 ·unfold L2;exact(((((h _ _ ((h _ _ he.open').step _ _ _)).step _ _ _).land _).Dn _).close)
 ·split
  ·exact he.step _ _ _
  ·exact h0.step _ _ _
 ·exact he.Hw
 ·exact he.cnt
 ·exact h0.var _ _ _ _
 ·split
  ·unfold Lf;exact((h _ _ ((h _ _ he).step _ _ _)).step _ _ _).land _
  ·exact h0.step _ _ _
theorem Th(fns:List (Nm×Nat))(gl:List Nm):∀(c:BT A3) (m:Nat) (e:Em),D6 e->D6 (em fns gl c m e):=by
 intro c;induction c with
 | nil=>intro m e h;exact h
 | node x y l c r Cb Bn=>
  intro m e h;rw[em];split
  ·exact Bn _ _ h
  ·split
   ·exact A06 _ _ _ _ _ Cb e h
   ·exact Bn _ _ (A06 fns gl l (Ak c) _ Cb e h)
theorem Tg(fns:List (Nm×Nat))(gl:List Nm)(l:A3)(c:BT A3)(e:Em)(h:D6 e):D6 (Am fns gl l (Ak c) (em fns gl c) e):=Th fns gl (nd l c) 0 e h
theorem Ae6:∀(a b:List Nat) (e:Em),e.Dn (a++b)=(e.Dn a).Dn b:=by
 intro a;induction a with
 | nil=>intro b e;rfl
 | cons x r ih=>intro b e;exact ih b (e.land x)
theorem Ae9(bs:List Nat)(i:Nat)(h:i<bs.length)(e:Em):e.Dn (bs.take (i+1))=(e.Dn (bs.take i)).land bs[i]:=by
 rw[List.take_succ_eq_append_getElem h,Ae6];rfl
def Nf:BT A3->Prop
 | .nil=>True
 | .node _ _ l c r=>(if l.kd=20 then Lp c 0 else Lp (nd l c) 0)/\Nf r
theorem A31:∀(ps:List (Nat×Nm)) (cur:List Nm) (f:C4),(Gw ps cur f).2.1=0->f.1=0:=by
 intro ps;induction ps with
 | nil=>intro cur f h;exact h
 | cons p r ih=>
  intro cur f h;rw[Gw]at h;exact(Lo z4sa (ih _ _ h)).1
theorem Aiv(fns:List (Nm×Nat)):∀(c:BT A3) (seen cur:List Nm) (f:C4),(Dq fns c seen cur f).1=0->f.1=0/\Nf c:=by
 intro c;induction c with
 | nil=>intro seen cur f h;exact⟨h,trivial⟩
 | node x y l c r Cb Bn=>
  intro seen cur f h;rw[Dq]at h;by_cases h20:l.kd=20
  ·rw[if_pos h20]at h;obtain⟨a1,a2⟩:=Bn _ _ _ h;obtain⟨b1,b2⟩:=A3h fns c _ _ _ _ _ a1;have b3:=A31 _ _ _ b1;exact⟨(Lo z4sa b3).1,by rw[if_pos h20];exact b2,a2⟩
  ·rw[if_neg h20]at h;obtain⟨a1,a2⟩:=Bn _ _ _ h;obtain⟨b1,b2⟩:=A3h fns (.node x y l c .nil) _ _ _ _ _ a1;exact⟨b1,by rw[if_neg h20];exact⟨b2.1,b2.2.1,trivial⟩,a2⟩
def E8(l:List UInt8):C4×Option (BT A3):=
 if 2000<l.length then((1,0),none)
 else match lex (l.length+1) l 1 false with
  | .inl n=>((2,n),none)
  | .inr ts=>
   match Ab 100000 10 0 .nil ⟨ts,0⟩ with
   | none=>((0,0),none)
   | some r=>
    if r.2.bad≠0 then((2,r.2.bad),none)
    else if nest ts 0≠0 then((1,nest ts 0),none)
    else if(Dq (Bx r.1) r.1 [] [] (0,0)).1≠0 then(Dq (Bx r.1) r.1 [] [] (0,0),none)
    else((0,0),some r.1)
def Sy(l:List UInt8):Prop:=∀ts,lex (l.length+1) l 1 false=.inr ts->∃r,Ab 100000 10 0 .nil ⟨ts,0⟩=some r/\(r.2.bad=0->bsize r.1<=4002)
theorem A0f(fns:List (Nm×Nat))(gl:List Nm):∀(c:BT A3),Wf 2 c\/Wf 3 c->∀(m:Nat) (e:Em),e.loc=[]->(em fns gl c m e).loc=[]:=by
 intro c;induction c with
 | nil=>intro _ m e h;exact h
 | node x y l c r Cb Bn=>
  intro hw m e he;have hr:Wf 2 r\/Wf 3 r:=hw.imp (fun h=>h.1) (fun h=>h.1);have hx:(Gi l.kd=true/\Wf 0 c)\/l.kd=31\/l.kd=32:=by
   rcases hw with h|h
   ·rcases h.2 with⟨_,h1,h2⟩|⟨_,h1,_⟩|⟨h1,_⟩|⟨h1,_⟩|⟨h1,_⟩|⟨h1,_⟩|⟨h1,_⟩
    ·exact .inl ⟨h1,h2⟩
    ·exact .inr (.inl h1)
    all_goals omega
   ·rcases h.2 with⟨_,h1,h2⟩|⟨h1,_⟩|⟨_,h1,_⟩|⟨h1,_⟩|⟨h1,_⟩|⟨h1,_⟩|⟨h1,_⟩
    ·exact .inl ⟨h1,h2⟩
    ·omega
    ·exact .inr (.inr h1)
    all_goals omega
  have hN:∀e:Em,e.loc=[]->(Am fns gl l (Ak c) (em fns gl c) e).loc=[]:=by
   intro e he;rcases hx with⟨h1,h2⟩|h1|h1
   ·rw[(Nn fns gl l c h1 h2 e).2.1];exact he
   ·rw[Rf h1,he];rfl
   ·rw[Ws h1,he];rfl
  rw[em];split
  ·exact Bn hr _ _ he
  ·split
   ·exact hN e he
   ·exact Bn hr _ _ (hN e he)
theorem Abj(fns:List (Nm×Nat))(gl:List Nm)(l:A3)(c:BT A3)(hw:Wf 1 (nd l c))(h21:l.kd≠21)(e:Em)(he:e.loc=[])(hl:e.lps=[]):∃slots st,Am fns gl l (Ak c) (em fns gl c) e=⟨[],slots,st,[]⟩:=by
 have h1:(Am fns gl l (Ak c) (em fns gl c) e).lps=[]:=by
  have:=A08 fns gl l c e;rw[hl]at this;exact List.length_eq_zero_iff.1 this
 have h2:(Am fns gl l (Ak c) (em fns gl c) e).loc=[]:=by
  rcases hw.2 with⟨h0,_⟩|⟨h0,_⟩|⟨h0,_⟩|⟨_,hk,hw⟩|⟨_,hk,hw⟩|⟨_,hk,hw⟩|⟨h0,_⟩
  ·omega
  ·omega
  ·omega
  ·rw[Te hk];unfold Js;have k:=A0f fns gl c (.inl hw);show(if Ak c=3 then _ else _:Em).loc=[];split
   ·exact k 3 _ (k 2 _ (k 1 e he))
   ·exact k 2 _ (k 1 e he)
  ·rw[Wk hk];unfold L2;have k:=A0f fns gl c (.inr hw);show(Em.Dn _ _).loc=[];rw[Ts];exact k 2 _ (k 1 _ he)
  ·have k:(em fns gl c 0 e).loc=[]:=by rw[(A0g fns gl c hw 0 e).2.1];exact he
   unfold N9 at hk;simp only[Bool.or_eq_true,Bool.and_eq_true,decide_eq_true_eq,beq_iff_eq]at hk;have hc:l.kd=24\/l.kd=25\/l.kd=26\/l.kd=27\/l.kd=28\/l.kd=29\/l.kd=30:=by omega
   rcases hc with h|h|h|h|h|h|h
   ·rw[Tf h];split
    ·exact he
    ·exact k
   ·rw[Wl h,(Ut e).2];exact he
   ·rw[Wm h,(Uu e).2];exact he
   ·rw[Wn h];exact k
   ·rw[Wo h,(Pu _ _ _ _ _).2.1];exact k
   ·rw[Wp h];exact k
   ·rw[Wr h];exact k
  ·omega
 generalize Am fns gl l (Ak c) (em fns gl c) e=q at *;obtain⟨a,b,c,d⟩:=q;simp only at h1 h2;subst h1 h2;exact⟨b,c,rfl⟩
def Je(o:Nat):Prop:=6<=o/\o<=10
def LJ(ls:List Nat)(p:Nat)(i:Af):Prop:=Je i.op->0<=i.arg/\∃x d,ls[p]?=some x/\ls[i.arg.toNat]?=some d/\(p<i.arg.toNat/\d<=x\/i.op=6/\d<x)
def SQ(ls:List Nat)(p:Nat)(i:Af):Prop:=i.op=6\/∃x y,ls[p]?=some x/\ls[p+1]?=some y/\y<=x+(if i.op=7 then 1 else 0)
def Mo(ls:List Nat):Nat->Bool->List (Nat×List Nat)->Prop
 | _,_,[]=>True
 | k,b,x::r=>∃d,ls[x.1]?=some d/\(if b then d<k else d<=k)/\(∀j∈x.2,j+1<ls.length/\∃y,ls[j]?=some y/\d<=y)/\Mo ls d true r
structure GI (ls : List Nat) (k : Nat) (b : Bool) (Q : Nat -> Prop) (e : Em) : Prop where
 len:ls.length=e.st.length+1
 top:ls[e.st.length]?=some k
 sq:∀p i,e.st[p]?=some i->SQ ls p i
 jm:∀p i,e.st[p]?=some i->LJ ls p i\/Q p\/∃x∈e.lps,p∈x.2
 lp:Mo ls k b e.lps
variable {ls ms:List Nat} {k:Nat} {b:Bool} {Q:Nat->Prop} {e:Em}
theorem Gj{p x:Nat}(h:ls[p]?=some x):(ls++ms)[p]?=some x:=by
 obtain⟨h1,_⟩:=List.getElem?_eq_some_iff.1 h;rw[List.getElem?_append_left h1];exact h
theorem LJ.ext{p:Nat}{i:Af}(h:LJ ls p i):LJ (ls++ms) p i:=by
 intro hj;obtain⟨h0,x,d,h1,h2,h3⟩:=h hj;exact⟨h0,x,d,Gj h1,Gj h2,h3⟩
theorem SQ.ext{p:Nat}{i:Af}(h:SQ ls p i):SQ (ls++ms) p i:=by
 rcases h with h|⟨x,y,h1,h2,h3⟩
 ·exact .inl h
 ·exact .inr ⟨x,y,Gj h1,Gj h2,h3⟩
theorem Mo.ext:∀{l:List (Nat×List Nat)} {k:Nat} {b:Bool},Mo ls k b l->Mo (ls++ms) k b l:=by
 intro l;induction l with
 | nil=>intro k b _;trivial
 | cons x r ih=>
  rintro k b ⟨d,h1,h2,h3,h4⟩;refine⟨d,Gj h1,h2,fun j hj=>?_,ih h4⟩;obtain⟨q1,y,q2,q3⟩:=h3 j hj;exact⟨by simp;omega,y,Gj q2,q3⟩
theorem Mo.up{l:List (Nat×List Nat)}{k':Nat}{b':Bool}(h:Mo ls k b l)(hk:∀d,(if b then d<k else d<=k)->(if b' then d<k' else d<=k')):Mo ls k' b' l:=by
 cases l with
 | nil=>trivial
 | cons x r=>obtain⟨d,h1,h2,h3,h4⟩:=h;exact⟨d,h1,hk d h2,h3,h4⟩
theorem GI.same{e':Em}(h:GI ls k b Q e)(h1:e'.st=e.st)(h2:e'.lps=e.lps):GI ls k b Q e':=by
 refine⟨by rw[h1];exact h.len,by rw[h1];exact h.top,by rw[h1];exact h.sq,by rw[h1,h2];exact h.jm,by rw[h2];exact h.lp⟩
theorem GI.add(h:GI ls k b Q e)(i0:Af)(k':Nat)(b':Bool)(Q':Nat->Prop)(loc:List Nm)(slots:Nat)(lps':List (Nat×List Nat))(hsq:i0.op=6\/k'<=k+(if i0.op=7 then 1 else 0))(hQ:∀p,Q p->Q' p)
  (hL:∀p,(∃x∈e.lps,p∈x.2)->∃x∈lps',p∈x.2) (hj:LJ (ls++[k']) e.st.length i0\/Q' e.st.length\/∃x∈lps',e.st.length∈x.2) (hlp:Mo (ls++[k']) k' b' lps'):GI (ls++[k']) k' b' Q' ⟨loc,slots,e.st++[i0],lps'⟩:=by
 have hn:=h.len;have htop:(ls++[k'])[e.st.length+1]?=some k':=by rw[←hn];simp
 have split:∀{p i},(e.st++[i0])[p]?=some i->e.st[p]?=some i\/(p=e.st.length/\i=i0):=by
  intro p i hp;rcases Nat.lt_or_ge p e.st.length with q|q
  ·rw[List.getElem?_append_left q]at hp;exact .inl hp
  ·rw[List.getElem?_append_right q]at hp;rcases Nat.eq_or_lt_of_le q with q'|q'
   ·rw[←q']at hp;simp at hp;exact .inr ⟨q'.symm,hp.symm⟩
   ·rw[List.getElem?_eq_none z4za]at hp;cases hp
 refine⟨by simp;omega,by simpa using htop,fun p i hp=>?_,fun p i hp=>?_,hlp⟩
 ·rcases split hp with q|⟨rfl,rfl⟩
  ·exact(h.sq p i q).ext
  ·rcases hsq with q|q
   ·exact .inl q
   ·exact .inr ⟨k,k',Gj h.top,htop,q⟩
 ·rcases split hp with q|⟨rfl,rfl⟩
  ·rcases h.jm p i q with r|r|r
   ·exact .inl r.ext
   ·exact .inr (.inl (hQ p r))
   ·exact .inr (.inr (hL p r))
  ·exact hj
theorem GI.step(h:GI ls k b Q e)(o:Nat)(ho:¬Je o)(a:Int)(ln:Nat):GI (ls++[k]) k b Q (e.step o a ln):=
 h.add ⟨o,a,ln,Bp⟩ k b Q e.loc e.slots e.lps (.inr z4sa) (fun _ q=>q) (fun _ q=>q) (.inl fun q=>absurd q ho) h.lp.ext
theorem GI.F0(h:GI ls k b Q e)(v:PV):GI (ls++[k]) k b Q (e.F0 v):=
 h.add ⟨0,0,0,v⟩ k b Q e.loc e.slots e.lps (.inr z4sa) (fun _ q=>q) (fun _ q=>q) (.inl fun q=>by unfold Je at q;dsimp only at q;omega) h.lp.ext
theorem GI.Yo(h:GI ls k b Q e)(o:Nat)(ln:Nat):GI (ls++[k]) k b (fun p=>Q p\/p=e.st.length) (e.step o 0 ln):=
 h.add ⟨o,0,ln,Bp⟩ k b _ e.loc e.slots e.lps (.inr z4sa) (fun _ q=>.inl q) (fun _ q=>q) (.inr (.inl (.inr rfl))) h.lp.ext
theorem Tq(a:Int):∀(j:Nat) (l:List Af) (p:Nat),(Gm j a l)[p]?=if p=j then(l[j]?).map (fun i=>⟨i.op,a,i.line,i.v⟩) else l[p]?:=by
 intro j;induction j with
 | zero=>
  intro l p;cases l with
  | nil=>simp[Gm]
  | cons i r=>cases p <;> simp[Gm]
 | succ j ih=>
  intro l p;cases l with
  | nil=>simp[Gm]
  | cons i r=>
   cases p with
   | zero=>simp[Gm]
   | succ p=>simp only[Gm,List.getElem?_cons_succ,ih,Nat.add_right_cancel_iff]
theorem GI.land{Q':Nat->Prop}(h:GI ls k b Q' e){j x:Nat}(hj:ls[j]?=some x)(hx:k<=x)(hlt:j<e.st.length)(hQ:∀p,Q' p->Q p\/p=j):GI ls k b Q (e.land j):=by
 have hlen:(Gm j (e.st.length:Nat) e.st).length=e.st.length:=Qe _ _ _;refine⟨by show ls.length=(Gm j (e.st.length:Nat) e.st).length+1;rw[hlen];exact h.len,by show ls[(Gm j (e.st.length:Nat) e.st).length]?=_;rw[hlen];exact h.top,fun p i hp=>?_,fun p i hp=>?_,h.lp⟩
 ·have hp:(Gm j (e.st.length:Nat) e.st)[p]?=some i:=hp;rw[Tq]at hp;split at hp
  ·rename_i hpj;subst hpj;rw[List.getElem?_eq_getElem hlt]at hp;cases hp;have q:=h.sq p e.st[p] (List.getElem?_eq_getElem hlt);exact q
  ·exact h.sq p i hp
 ·have hp:(Gm j (e.st.length:Nat) e.st)[p]?=some i:=hp;rw[Tq]at hp;split at hp
  ·rename_i hpj;subst hpj;rw[List.getElem?_eq_getElem hlt]at hp;cases hp;refine .inl fun _=>⟨by dsimp only;omega,x,k,hj,?_,.inl ⟨?_,hx⟩⟩
   ·show ls[((e.st.length:Nat):Int).toNat]?=_;rw[Int.toNat_natCast];exact h.top
   ·show p<((e.st.length:Nat):Int).toNat;rw[Int.toNat_natCast];exact hlt
  ·rename_i hpj;rcases h.jm p i hp with q|q|q
   ·exact .inl q
   ·rcases hQ p q with q|q
    ·exact .inr (.inl q)
    ·exact absurd q hpj
   ·exact .inr (.inr q)
theorem GI.Dn:∀(bs:List Nat) (e:Em),(∀j∈bs,j+1<ls.length/\∃y,ls[j]?=some y/\k<=y)->GI ls k b (fun p=>Q p\/p∈bs) e->GI ls k b Q (e.Dn bs):=by
 intro bs;induction bs with
 | nil=>intro e _ h;exact⟨h.len,h.top,h.sq,fun p i hp=>(h.jm p i hp).imp id (fun q=>q.imp (fun q=>q.elim id (fun q=>by cases q)) id),h.lp⟩
 | cons j r ih=>
  intro e hb h;obtain⟨q1,y,q2,q3⟩:=hb j z4wa;have hl:=h.len;rw[Em.Dn];exact ih _ (fun i hi=>hb i (by simp[hi])) (h.land q2 q3 z4sa (fun p hp=>by
   rcases hp with hp|hp
   ·exact .inl (.inl hp)
   ·rcases List.mem_cons.1 hp with hp|hp
    ·exact .inr hp
    ·exact .inl (.inr hp)))
theorem Ae7:∀(l:List Nat) (e:Em),(e.Dn l).close=e.close.Dn l:=by
 intro l;induction l with
 | nil=>intro e;rfl
 | cons j r ih=>intro e;rw[Em.Dn,Em.Dn,ih];rfl
def Cg(b:Bool)(f:Em->Em):Prop:=∀ls k Q e,GI ls k b Q e->∃ls',GI (ls++ls') k b Q (f e)/\Dx (f e)=Dx e
theorem Cg.M1(b:Bool):Cg b (fun e=>e):=fun ls k Q e h=>⟨[],by rw[List.append_nil];exact h,rfl⟩
theorem Cg.comp{f g:Em->Em}(hf:Cg b f)(hg:Cg b g):Cg b (fun e=>g (f e)):=by
 intro ls k Q e h;obtain⟨l1,h1,s1⟩:=hf ls k Q e h;obtain⟨l2,h2,s2⟩:=hg _ _ _ _ h1;exact⟨l1++l2,by rw[←List.append_assoc];exact h2,s2.trans s1⟩
theorem Cg.step{f:Em->Em}(hf:Cg b f)(o:Nat)(ho:¬Je o)(a:Em->Int)(ln:Nat):Cg b (fun e=>(f e).step o (a e) ln):=by
 intro ls k Q e h;obtain⟨l1,h1,s1⟩:=hf ls k Q e h;exact⟨l1++[k],by rw[←List.append_assoc];exact h1.step o ho _ _,s1⟩
theorem Cg.F0(v:PV):Cg b (fun e=>e.F0 v):=fun _ k _ _ h=>⟨[k],h.F0 v,rfl⟩
theorem nj{o:Nat}(h:o<6\/10<o):¬Je o:=by unfold Je;omega
theorem Cg.var{f:Em->Em}(hf:Cg b f)(gl:List Nm)(s:Nm){x y:Nat}(hx:x<6)(hy:y<6):Cg b (fun e=>(f e).var gl s x y):=by
 intro ls k Q e h;obtain⟨l1,h1,s1⟩:=hf ls k Q e h;show ∃ls',GI (ls++ls') k b Q ((f e).var gl s x y)/\Dx ((f e).var gl s x y)=Dx e;unfold Em.var;split
 ·exact⟨l1++[k],by rw[←List.append_assoc];exact h1.step x (nj (.inl hx)) _ _,s1⟩
 ·split
  ·exact⟨l1++[k],by rw[←List.append_assoc];exact h1.step y (nj (.inl hy)) _ _,s1⟩
  ·exact⟨l1,h1,s1⟩
theorem Cg.Hw:Cg true Em.Hw:=by
 intro ls k Q e h;unfold Em.Hw;have hlp:=h.lp;have hlen:=h.len;have hjm:=h.jm;cases hq:e.lps with
 | nil=>exact⟨[],by rw[List.append_nil];exact h,rfl⟩
 | cons x r=>
  obtain⟨s,bs⟩:=x;rw[hq]at hlp;obtain⟨d,h1,h2,h3,h4⟩:=hlp;refine⟨[k],h.add ⟨6,0,0,Bp⟩ k true Q e.loc e.slots ((s,bs++[e.st.length])::r) (.inl rfl) (fun _ q=>q) (fun p hp=>?_) (.inr (.inr ⟨_,List.mem_cons_self,by simp⟩)) ⟨d,Gj h1,h2,fun j hj=>?_,h4.ext⟩,by simp[Dx,hq]⟩
  ·obtain⟨x,hx,hp⟩:=hp;rw[hq]at hx;rcases List.mem_cons.1 hx with rfl|hx
   ·exact⟨_,List.mem_cons_self,by simp at hp ⊢;exact .inl hp⟩
   ·exact⟨x,List.mem_cons_of_mem _ hx,hp⟩
  ·rcases List.mem_append.1 hj with hj|hj
   ·obtain⟨q1,y,q2,q3⟩:=h3 j hj;exact⟨by simp;omega,y,Gj q2,q3⟩
   ·rw[List.mem_singleton.1 hj];have h2':d<k:=h2;exact⟨by simp;omega,k,Gj h.top,by omega⟩
theorem Cg.cnt:Cg true Em.cnt:=by
 intro ls k Q e h;unfold Em.cnt;have hlp:=h.lp;cases hq:e.lps with
 | nil=>exact⟨[],by rw[List.append_nil];exact h,rfl⟩
 | cons x r=>
  obtain⟨s,bs⟩:=x;rw[hq]at hlp;obtain⟨d,h1,h2,h3,h4⟩:=hlp;have h2':d<k:=h2;refine⟨[k],h.add ⟨6,(s:Nat),0,Bp⟩ k true Q e.loc e.slots e.lps (.inl rfl) (fun _ q=>q) (fun p hp=>hp) (.inl fun _=>⟨by dsimp only;omega,k,d,Gj h.top,?_,.inr ⟨rfl,h2'⟩⟩) h.lp.ext,rfl⟩;show(ls++[k])[((s:Nat):Int).toNat]?=_;rw[Int.toNat_natCast];exact Gj h1
theorem Cg.bool{f1 f2:Em->Em}(h1:Cg b f1)(h2:Cg b f2)(o line:Nat):Cg b (fun e=>((f2 ((f1 e).step o 0 line)).step 11 0 line).land (f1 e).st.length):=by
 intro ls k Q e h;obtain⟨l1,a1,s1⟩:=h1 ls k Q e h;obtain⟨l2,a2,s2⟩:=h2 _ _ _ _ (a1.Yo o line);have a3:=a2.step 11 (nj (.inr z4sa)) 0 line;refine⟨l1++[k]++l2++[k],?_,s2.trans s1⟩;have e1:ls++(l1++[k]++l2++[k])=ls++l1++[k]++l2++[k]:=by simp
 rw[e1];refine a3.land (x:=k) (Gj (Gj (Gj a1.top))) (Nat.le_refl _) ?_ (fun p hp=>hp);have q1:=a1.len;have q3:=a3.len;simp only[List.length_append,List.length_singleton]at q1 q3;omega
theorem Cg.if{f1 f2 f3:Em->Em}(h1:Cg b f1)(h2:Cg b f2)(h3:Cg b f3)(line:Nat):Cg b (fun e=>(f3 (((f2 ((f1 e).step 8 0 line)).step 6 0 0).land (f1 e).st.length)).land (f2 ((f1 e).step 8 0 line)).st.length):=by
 intro ls k Q e h;obtain⟨l1,a1,s1⟩:=h1 ls k Q e h;obtain⟨l2,a2,s2⟩:=h2 _ _ _ _ (a1.Yo 8 line);have a3:=a2.Yo 6 0;have q1:=a1.len;have q2:=a2.len;have q3:=a3.len;have a4:=a3.land (Q:=fun p=>Q p\/p=(f2 ((f1 e).step 8 0 line)).st.length) (j:=(f1 e).st.length) (x:=k) (Gj (Gj (Gj a1.top))) (Nat.le_refl _) (by simp only[List.length_append,List.length_singleton]at q1 q3;omega) (fun p hp=>by
  rcases hp with(hp|hp)|hp
  ·exact .inl (.inl hp)
  ·exact .inr hp
  ·exact .inl (.inr hp))
 obtain⟨l3,a5,s3⟩:=h3 _ _ _ _ a4;have q5:=a5.len;refine⟨l1++[k]++l2++[k]++l3,?_,s3.trans (s2.trans s1)⟩;have e1:ls++(l1++[k]++l2++[k]++l3)=ls++l1++[k]++l2++[k]++l3:=by simp
 rw[e1];refine a5.land (x:=k) (Gj (Gj a2.top)) (Nat.le_refl _) ?_ (fun p hp=>hp);simp only[List.length_append,List.length_singleton]at q2 q5;omega
theorem Cg.while{f1 f2:Em->Em}(h1:Cg false f1)(h2:Cg true f2)(line:Nat):Cg true (fun e=>(Em.Dn (((f2 ((f1 e.open').step 7 0 line)).step 6 (e.st.length:Nat) 0).land (f1 e.open').st.length).Kc (((f2 ((f1 e.open').step 7 0 line)).step 6 (e.st.length:Nat) 0).land (f1 e.open').st.length)).close):=by
 intro ls k Q e h;dsimp only[];have a0:GI ls k false Q e.open':=⟨h.len,h.top,h.sq,fun p i hp=>(h.jm p i hp).imp id (fun q=>q.imp id (fun⟨x,hx,q⟩=>⟨x,List.mem_cons_of_mem _ hx,q⟩)),⟨k,h.top,Nat.le_refl _,(fun j hj=>by cases hj),h.lp⟩⟩;obtain⟨l1,a1,s1⟩:=h1 _ _ _ _ a0;have a2:GI (ls++l1++[k+1]) (k+1) true (fun p=>Q p\/p=(f1 e.open').st.length) ((f1 e.open').step 7 0 line):=
  a1.add ⟨7,0,line,Bp⟩ (k+1) true _ _ _ (f1 e.open').lps (.inr z4wa) (fun _ q=>.inl q) (fun _ q=>q) (.inr (.inl (.inr rfl))) (a1.lp.ext.up (fun d hd=>by have hd':d<=k:=hd;show d<k+1;omega))
 obtain⟨l2,a3,s2⟩:=h2 _ _ _ _ a2;generalize hb:f2 ((f1 e.open').step 7 0 line)=eb at *;have hs:Dx eb=e.st.length::Dx e:=s2.trans s1;have htop:(ls++l1++[k+1]++l2++[k])[e.st.length]?=some k:=Gj (Gj (Gj (Gj h.top)));have a4:GI (ls++l1++[k+1]++l2++[k]) k false (fun p=>Q p\/p=(f1 e.open').st.length) (eb.step 6 (e.st.length:Nat) 0):=by
  refine a3.add ⟨6,(e.st.length:Nat),0,Bp⟩ k false _ _ _ eb.lps (.inl rfl) (fun _ q=>q) (fun _ q=>q) (.inl fun _=>⟨by dsimp only;omega,k+1,k,Gj a3.top,?_,.inr ⟨rfl,by omega⟩⟩) (a3.lp.ext.up (fun d hd=>by have hd':d<k+1:=hd;show d<=k;omega));show(ls++l1++[k+1]++l2++[k])[((e.st.length:Nat):Int).toNat]?=_;rw[Int.toNat_natCast];exact htop
 have q1:=a1.len;have q4:=a4.len;have a5:=a4.land (Q:=Q) (j:=(f1 e.open').st.length) (x:=k) (Gj (Gj (Gj a1.top))) (Nat.le_refl _) (by simp only[List.length_append,List.length_singleton]at q1 q4;omega) (fun p hp=>hp);generalize hd:(eb.step 6 (e.st.length:Nat) 0).land (f1 e.open').st.length=ed at *;have hsd:Dx ed=e.st.length::Dx e:=by rw[←hd];exact hs
 have hlp:=a5.lp;refine⟨l1++[k+1]++l2++[k],?_,?_⟩
 ·have e1:ls++(l1++[k+1]++l2++[k])=ls++l1++[k+1]++l2++[k]:=by simp
  rw[e1,Ae7];cases hq:ed.lps with
  | nil=>unfold Dx at hsd;rw[hq]at hsd;cases hsd
  | cons x r=>
   unfold Dx at hsd;rw[hq]at hsd hlp;have Dm:x.1=e.st.length:=by simp at hsd;exact hsd.1
   obtain⟨d,g1,g2,g3,g4⟩:=hlp;rw[Dm,htop]at g1;cases g1;have hbr:ed.Kc=x.2:=by unfold Em.Kc;rw[hq]
   rw[hbr];refine GI.Dn x.2 _ g3 ⟨a5.len,a5.top,a5.sq,fun p i hp=>?_,?_⟩
   ·rcases a5.jm p i hp with q|q|⟨y,hy,q⟩
    ·exact .inl q
    ·exact .inr (.inl (.inl q))
    ·rw[hq]at hy;rcases List.mem_cons.1 hy with rfl|hy
     ·exact .inr (.inl (.inr q))
     ·exact .inr (.inr ⟨y,by show y∈ed.lps.tail;rw[hq];exact hy,q⟩)
   ·show Mo _ k true ed.lps.tail;rw[hq];exact g4
 ·show(Em.Dn _ _).lps.tail.map Prod.fst=_;rw[Tt];have h2:∀x:List (Nat×List Nat),x.tail.map Prod.fst=(x.map Prod.fst).tail:=fun x=>by cases x <;> rfl
  rw[h2];show List.tail (Dx ed)=_;rw[hsd];rfl
end
section
open Go.Deep (BT)
variable {b:Bool} {fns:List (Nm×Nat)} {gl:List Nm}
theorem Cg.eq{f g:Em->Em}(h:Cg b f)(e:∀x,g x=f x):Cg b g:=by
 have:g=f:=funext e;rw[this];exact h
theorem Cg.same{f:Em->Em}(h:Cg b f)(g:Em->Em)(h1:∀e,(g e).st=(f e).st)(h2:∀e,(g e).lps=(f e).lps):Cg b g:=by
 intro ls k Q e hG;obtain⟨l1,a1,s1⟩:=h ls k Q e hG;exact⟨l1,a1.same (h1 e) (h2 e),by unfold Dx at *;rw[h2];exact s1⟩
theorem A8n{s:Nat}(h:s≠39/\s≠40):¬Je (binOp s):=by
 unfold binOp Je;rw[if_neg z4sa,if_neg z4sa];repeat' split
 all_goals omega
theorem X2{l:A3}{c:BT A3}(hk:Gi l.kd=true)(h:∀m,Cg b (em fns gl c m)):Cg b (Am fns gl l (Ak c) (em fns gl c)):=by
 unfold Gi at hk;simp only[Bool.or_eq_true,Bool.and_eq_true,decide_eq_true_eq]at hk;by_cases A1:127<=l.kd
 ·by_cases A9:l.kd<=138
  ·exact((h 0).step (binOp (l.kd-100)) (A8n z4sa) (fun _=>0) l.line).eq (fun e=>Wz A1 A9)
  ·exact(Cg.bool (h 1) (h 2) (binOp (l.kd-100)) l.line).eq (fun e=>X0 z4sa)
 ·have C7:l.kd=1\/l.kd=2\/l.kd=3\/l.kd=4\/l.kd=5\/l.kd=6\/l.kd=7\/l.kd=8\/l.kd=9\/l.kd=10\/l.kd=11\/l.kd=12\/l.kd=13\/l.kd=14:=by omega
  rcases C7 with q|q|q|q|q|q|q|q|q|q|q|q|q|q
  ·exact(Cg.F0 _).eq (fun e=>Wc q)
  ·exact(Cg.F0 _).eq (fun e=>Wj q)
  ·exact(Cg.F0 _).eq (fun e=>Wq q)
  ·exact(Cg.F0 _).eq (fun e=>Wt q)
  ·exact(Cg.F0 _).eq (fun e=>Wu q)
  ·exact((Cg.M1 b).var gl l.s (x:=1) (y:=2) z4sa z4sa).eq (fun e=>Wv q)
  ·exact((h 0).step 42 (nj z4sa) (fun _=>L3 fns l.s) l.line).eq (fun e=>Ww q)
  ·exact(h 0).eq (fun e=>Wx q)
  ·exact((h 0).step 36 (nj z4sa) (fun _=>(Ak c:Nat)) l.line).eq (fun e=>Wy q)
  ·exact((h 0).step 37 (nj z4sa) (fun _=>0) l.line).eq (fun e=>Wd q)
  ·exact((h 0).step 38 (nj z4sa) (fun _=>0) l.line).eq (fun e=>We q)
  ·exact((h 0).step 39 (nj z4sa) (fun _=>0) l.line).eq (fun e=>Wg q)
  ·exact((h 0).step 27 (nj z4sa) (fun _=>0) l.line).eq (fun e=>Wh q)
  ·exact((h 0).step 23 (nj z4sa) (fun _=>0) l.line).eq (fun e=>Wi q)
theorem Abi{l:A3}{c:BT A3}(hk:N9 l.kd=true)(h:∀m,Cg true (em fns gl c m)):Cg true (Am fns gl l (Ak c) (em fns gl c)):=by
 unfold N9 at hk;simp only[Bool.or_eq_true,Bool.and_eq_true,decide_eq_true_eq,beq_iff_eq]at hk;have hc:l.kd=21\/l.kd=24\/l.kd=25\/l.kd=26\/l.kd=27\/l.kd=28\/l.kd=29\/l.kd=30:=by omega
 rcases hc with q|q|q|q|q|q|q|q
 ·have:=(((h 0).same (fun e=>(em fns gl c 0 e).local' l.s) (fun _=>rfl) (fun _=>rfl)).step 3 (nj z4sa) (fun e=>((em fns gl c 0 e).loc.length:Nat)) 0);exact this.eq (fun e=>A05 q)
 ·by_cases hn:Ak c=0
  ·exact((Cg.M1 true).step 43 (nj z4sa) (fun _=>0) 0).eq (fun e=>by rw[Tf q,if_pos hn])
  ·exact((h 0).step 44 (nj z4sa) (fun _=>0) 0).eq (fun e=>by rw[Tf q,if_neg hn])
 ·exact Cg.Hw.eq (fun e=>Wl q)
 ·exact Cg.cnt.eq (fun e=>Wm q)
 ·exact((h 0).step 41 (nj z4sa) (fun _=>0) l.line).eq (fun e=>Wn q)
 ·exact((h 0).var gl l.s (x:=3) (y:=4) z4sa z4sa).eq (fun e=>Wo q)
 ·exact((h 0).step 40 (nj z4sa) (fun _=>0) l.line).eq (fun e=>Wp q)
 ·exact((h 0).step 5 (nj z4sa) (fun _=>0) 0).eq (fun e=>Wr q)
theorem Abc{l:A3}{c:BT A3}(hk:l.kd=22)(h:∀m,Cg true (em fns gl c m)):Cg true (Am fns gl l (Ak c) (em fns gl c)):=by
 by_cases hn:Ak c=3
 ·refine(Cg.if (h 1) (h 2) (h 3) l.line).eq (fun e=>?_);rw[Te hk];unfold Js;dsimp only;rw[if_pos hn]
 ·refine(Cg.if (h 1) (h 2) (Cg.M1 true) l.line).eq (fun e=>?_);rw[Te hk];unfold Js;dsimp only;rw[if_neg hn]
theorem A0e{l:A3}{c r:BT A3}{x y:Nat}(hN:Cg b (Am fns gl l (Ak c) (em fns gl c)))(hr:∀m,Cg b (em fns gl r m))(m:Nat):Cg b (em fns gl (.node x y l c r) m):=by
 by_cases h2:2<=m
 ·exact(hr (m-1)).eq (fun e=>by rw[em,if_pos h2])
 ·by_cases h1:m=1
  ·exact hN.eq (fun e=>by rw[em,if_neg h2,if_pos h1])
  ·exact(hN.comp (hr 0)).eq (fun e=>by rw[em,if_neg h2,if_neg h1])
theorem X6:∀c:BT A3,Ev c->(Wf 0 c->∀b m,Cg b (em fns gl c m))/\(Wf 1 c\/Wf 2 c\/Wf 3 c->∀m,Cg true (em fns gl c m))/\(∀x y l1 c1 r1,c=.node x y l1 c1 r1->Gi l1.kd=true->Wf 0 c1->∀b,Cg b (em fns gl c 1)):=by
 intro c;induction c with
 | nil=>intro _;exact⟨fun _ b m=>(Cg.M1 b).eq (fun e=>rfl),fun _ m=>(Cg.M1 true).eq (fun e=>rfl),fun x y l1 c1 r1 q=>by cases q⟩
 | node x y l c r Cb Bn=>
  rintro⟨_,h23,_,hsc,hsr⟩;obtain⟨c0,c1,c3⟩:=Cb hsc;obtain⟨r0,r1,_⟩:=Bn hsr;refine⟨fun hw b m=>?_,fun hw m=>?_,fun x' y' l1 cc rr q hk hw b=>?_⟩
  ·obtain⟨w1,w2⟩:=hw;have hx:Gi l.kd=true/\Wf 0 c:=by
    exact z31a
   exact A0e (X2 hx.1 (c0 hx.2 b)) (r0 w1 b) m
  ·have hr:∀m,Cg true (em fns gl r m):=by
    rcases hw with h|h|h
    ·exact r1 (.inl h.1)
    ·exact r1 (.inr (.inl h.1))
    ·exact r1 (.inr (.inr h.1))
   refine A0e ?_ hr m;have hc:(Gi l.kd=true/\Wf 0 c)\/((l.kd=31\/l.kd=32)/\Wf 1 c)\/(l.kd=22/\Wf 2 c)\/(l.kd=23/\Wf 3 c)\/(N9 l.kd=true/\Wf 0 c):=by
    rcases hw with h|h|h
    ·rcases h.2 with⟨q,h1,h2⟩|⟨q,h1,h2⟩|⟨q,h1,h2⟩|⟨q,h1,h2⟩|⟨q,h1,h2⟩|⟨q,h1,h2⟩|⟨q,h1,h2⟩
     ·omega
     ·omega
     ·omega
     ·exact .inr (.inr (.inl ⟨h1,h2⟩))
     ·exact .inr (.inr (.inr (.inl ⟨h1,h2⟩)))
     ·exact .inr (.inr (.inr (.inr ⟨h1,h2⟩)))
     ·omega
    ·rcases h.2 with⟨q,h1,h2⟩|⟨q,h1,h2⟩|⟨q,h1,h2⟩|⟨q,h1,h2⟩|⟨q,h1,h2⟩|⟨q,h1,h2⟩|⟨q,h1,h2⟩
     ·exact .inl ⟨h1,h2⟩
     ·exact .inr (.inl ⟨.inl h1,h2⟩)
     all_goals omega
    ·rcases h.2 with⟨q,h1,h2⟩|⟨q,h1,h2⟩|⟨q,h1,h2⟩|⟨q,h1,h2⟩|⟨q,h1,h2⟩|⟨q,h1,h2⟩|⟨q,h1,h2⟩
     ·exact .inl ⟨h1,h2⟩
     ·omega
     ·exact .inr (.inl ⟨.inr h1,h2⟩)
     all_goals omega
   rcases hc with⟨h1,h2⟩|⟨h1,h2⟩|⟨h1,h2⟩|⟨h1,h2⟩|⟨h1,h2⟩
   ·exact X2 h1 (c0 h2 true)
   ·refine((c1 (.inl h2) 0).same (fun e=>(em fns gl c 0 e).cut e.loc.length) (fun _=>rfl) (fun _=>rfl)).eq (fun e=>?_);rcases h1 with h1|h1
    ·exact Rf h1
    ·exact Ws h1
   ·exact Abc h1 (c1 (.inr (.inl h2)))
   ·obtain⟨e1,b1,hce,Jm,ht1⟩:=h23 h1;cases e1 with
    | nil=>simp[Ak]at Jm
    | node xa ya la ca ra=>
     have hwa:Gi la.kd=true/\Wf 0 ca:=by
      rw[hce]at h2;rcases h2.2 with⟨_,g1,g2⟩|⟨g1,_⟩|⟨_,g1,_⟩|⟨g1,_⟩|⟨g1,_⟩|⟨g1,_⟩|⟨g1,_⟩
      ·exact⟨g1,g2⟩
      ·omega
      ·exact absurd g1 ht1.1
      all_goals omega
     have hf:=c3 xa ya la ca (Co ra (nd (Au 32 0) b1)) hce hwa.1 hwa.2 false;exact(Cg.while hf (c1 (.inr (.inr h2)) 2) l.line).eq (fun e=>by rw[Wk h1];rfl)
   ·exact Abi h1 (c0 h2 true)
  ·cases q;exact(X2 hk (c0 hw b)).eq (fun e=>rfl)
def V7(ls:List Nat)(st:List Af):Prop:=ls.length=st.length+1/\ls[0]?=some 0/\∀p i,st[p]?=some i->SQ ls p i/\LJ ls p i
def Lw(st:List Af):Prop:=∃ls,V7 ls st
def U0:Nat->Prop:=fun _=>False
theorem A17(loc:List Nm)(slots:Nat):GI [0] 0 true U0 ⟨loc,slots,[],[]⟩:=⟨rfl,rfl,fun p i q=>by simp at q,fun p i q=>by simp at q,trivial⟩
theorem GI.good{ls:List Nat}{e:Em}(h:GI ([0]++ls) 0 true U0 e)(hl:e.lps=[]):Lw e.st:=by
 refine⟨[0]++ls,h.len,rfl,fun p i q=>⟨h.sq p i q,?_⟩⟩;rcases h.jm p i q with r|r|⟨x,hx,_⟩
 ·exact r
 ·exact r.elim
 ·rw[hl]at hx;cases hx
theorem A49{e:Em}(h:Dx e=[]):e.lps=[]:=by unfold Dx at h;simpa using h
theorem Ab8(l:A3)(c:BT A3)(hs:Ev c)(hw:Wf 1 c):Lw (K4 fns gl l c).steps:=by
 have h:=(((X6 (fns:=fns) (gl:=gl) c hs).2.1 (.inl hw) 0).step 43 (nj z4sa) (fun _=>0) 0);obtain⟨ls,h1,h2⟩:=h _ _ _ _ (A17 (l.ps.map Prod.snd) l.ps.length);exact h1.good (A49 h2)
theorem Abn:∀(c:BT A3),Ev c->Wf 4 c->∀(gl:List Nm) (fs:List Fn) (e:Em) (ls:List Nat),(∀f∈fs,Lw f.steps)->GI ([0]++ls) 0 true U0 e->e.lps=[]->Lw (H9 fns c gl fs e).main/\∀f∈(H9 fns c gl fs e).fns,Lw f.steps:=by
 intro c;induction c with
 | nil=>intro _ _ gl fs e ls hf h hl;exact⟨h.good hl,hf⟩
 | node x y l c r _ Bn=>
  rintro⟨g1,g2,g3,hsc,hsr⟩ ⟨hwr,hwn⟩ gl fs e ls hf h hl;have next:∀{f:Em->Em},Cg true f->∃ls',GI ([0]++ls') 0 true U0 (f e)/\(f e).lps=[]:=fun hO=>by
   obtain⟨l1,h1,h2⟩:=hO _ _ _ _ h;exact⟨ls++l1,by rw[←List.append_assoc];exact h1,A49 (h2.trans (by unfold Dx;rw[hl];rfl))⟩
  rw[H9];by_cases h20:l.kd=20
  ·rw[if_pos h20];have Jd:Wf 1 c:=by
    rcases hwn with⟨q,_⟩|⟨q,_⟩|⟨q,_⟩|⟨_,q,_⟩|⟨_,q,_⟩|⟨_,q,_⟩|⟨_,_,q⟩
    ·omega
    ·omega
    ·omega
    ·omega
    ·omega
    ·rw[h20]at q;exact absurd q z4ta
    ·exact q
   refine Bn hsr hwr gl _ e ls (fun f hff=>?_) h hl;rcases List.mem_append.1 hff with q|q
   ·exact hf f q
   ·rw[List.mem_singleton.1 q];exact Ab8 l c hsc Jd
  rw[if_neg h20];have Jd:Wf 1 (nd l c):=by
   refine⟨trivial,?_⟩;rcases hwn with⟨q,_⟩|⟨q,_⟩|⟨q,_⟩|⟨_,q⟩|⟨_,q⟩|⟨_,q⟩|⟨_,q,_⟩
   ·omega
   ·omega
   ·omega
   ·exact .inr (.inr (.inr (.inl ⟨.inl rfl,q⟩)))
   ·exact .inr (.inr (.inr (.inr (.inl ⟨.inl rfl,q⟩))))
   ·exact .inr (.inr (.inr (.inr (.inr (.inl ⟨.inl rfl,q⟩)))))
   ·exact absurd q h20
  have Ai:Ev (nd l c):=⟨g1,g2,g3,hsc,trivial⟩;by_cases h21:l.kd=21
  ·rw[if_pos h21];have Dz:Wf 0 c:=by
    rcases hwn with⟨q,_⟩|⟨q,_⟩|⟨q,_⟩|⟨_,q,_⟩|⟨_,q,_⟩|⟨_,_,q⟩|⟨_,q,_⟩
    ·omega
    ·omega
    ·omega
    ·omega
    ·omega
    ·exact q
    ·omega
   obtain⟨ls',k1,k2⟩:=next (((X6 (fns:=fns) (gl:=gl) c hsc).1 Dz true 0).step 4 (nj z4sa) (fun _=>(gl.length:Nat)) 0);exact Bn hsr hwr _ _ _ ls' hf k1 k2
  ·rw[if_neg h21];obtain⟨ls',k1,k2⟩:=next ((X6 (fns:=fns) (gl:=gl) (nd l c) Ai).2.1 (.inl Jd) 0);exact Bn hsr hwr _ _ _ ls' hf k1 k2
theorem Abl(c:BT A3)(hs:Ev c)(hw:Wf 4 c):Lw (Ga c).main/\∀f∈(Ga c).fns,Lw f.steps:=
 Abn c hs hw [] [] ⟨[],0,[],[]⟩ [] (fun f q=>by cases q) (A17 [] 0) rfl
end
section
open Go.Deep (BT)
theorem A2v(l:List UInt8)(h:l.length<=2000):Sy l:=by
 intro ts ht;rcases Pt l h with⟨n,h1,_⟩|⟨ts',h1,h2,h3⟩
 ·rw[ht]at h1;cases h1
 ·rw[ht]at h1;cases h1;obtain⟨r,hr,_,hs⟩:=S0 h3 h2;exact⟨r,hr,fun hb=>(hs hb).2.2⟩
theorem Abm(fns:List (Nm×Nat))(c:BT A3):∀(gl:List Nm) (fs:List Fn) (e:Em),(H9 fns c gl fs e).fns.map Fn.name=fs.map Fn.name++(Bx c).map Prod.fst:=by
 induction c with
 | nil=>intro gl fs e;simp[H9,Bx]
 | node x y l c r _ ih=>
  intro gl fs e;rw[H9,Bx];by_cases h:l.kd=20
  ·rw[if_pos h,if_pos h,ih];simp[K4]
  ·rw[if_neg h,if_neg h];split
   ·exact ih _ _ _
   ·exact ih _ _ _
theorem Abk(c:BT A3):(Ga c).fns.map Fn.name=(Bx c).map Prod.fst:=by
 unfold Ga;rw[Abm];rfl
theorem Acs(c:BT A3):(Bx c).length<=bsize c:=by
 induction c with
 | nil=>simp[Bx]
 | node x y l c r _ ih=>
  rw[Bx,bsize];split
  ·simp;omega
  ·omega
end
end Go.Proofs.YtjdlndhfaaolaaaGreatDoor
