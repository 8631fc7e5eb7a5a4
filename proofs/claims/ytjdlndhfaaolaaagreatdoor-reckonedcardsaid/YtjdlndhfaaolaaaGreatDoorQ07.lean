import Derived.Test.YtjdlndhfaaolaaaGreatDoorQ02
import Derived.Test.YtjdlndhfaaolaaaGreatDoorQ05
set_option maxHeartbeats 20000000
namespace Go.Proofs.YtjdlndhfaaolaaaGreatDoor
section
open Go.RowKit
open Go.Deep (BT)
structure A7 (b : Nat) (w w' : World) : Prop where
 os:w'.os=w.os
 tape:w'.tape=w.tape
 output:w'.output=w.output
 size:w.heap.size<=w'.heap.size
 block:∀k,k<w.heap.size->k≠b->w'.heap[k]?=w.heap[k]?
theorem A7.refl(b:Nat)(w:World):A7 b w w:=⟨rfl,rfl,rfl,Nat.le_refl _,fun _ _ _=>rfl⟩
theorem A7.trans{b:Nat}{x y z:World}(h:A7 b x y)(k:A7 b y z):A7 b x z:=
 ⟨k.os.trans h.os,k.tape.trans h.tape,k.output.trans h.output,Nat.le_trans h.size k.size,fun i hi hb=>(k.block i (Nat.lt_of_lt_of_le hi h.size) hb).trans (h.block i hi hb)⟩
theorem Below.only{b:Nat}{w w':World}(h:Below w.heap.size w w'):A7 b w w':=⟨h.os,h.tape,h.output,h.size,fun k hk _=>h.block k hk⟩
theorem A7.drew{b:Nat}{x w:World}(h:A7 b x w):A7 b x w.drew:=⟨h.os,h.tape,h.output,h.size,h.block⟩
theorem A7.alloc{b:Nat}{x w:World}(h:A7 b x w)(o:Obj):A7 b x (w.alloc o):=
 h.trans ⟨rfl,rfl,rfl,by simp,fun k hk _=>Below.heap_alloc _ _ _ hk⟩
theorem A7.set{b:Nat}{x w:World}(h:A7 b x w){p:Addr}(hp:p.block=b\/x.heap.size<=p.block)(u:Value):A7 b x (w.setCell p u):=
 ⟨h.os,h.tape,h.output,by simp[World.setCell];exact h.size,fun k hk hb=>(Below.heap_setCell _ _ _ _ (by rcases hp with e|e <;> omega)).trans (h.block k hk hb)⟩
theorem A7.grown{b:Nat}{x w w':World}{row:Option Nat}(h:A7 b x w)(hg:w.grownBy w' row)(hr:∀k,row=some k->k=b\/x.heap.size<=k):A7 b x w':=
 ⟨hg.os.trans h.os,hg.tape.trans h.tape,hg.output.trans h.output,Nat.le_trans h.size hg.size,fun k hk hb=>(hg.block k (Nat.lt_of_lt_of_le hk h.size) (fun e=>by rcases hr k e.symm with e|e <;> omega)).trans (h.block k hk hb)⟩
def Co(D:Nat->Prop)(w:World)(e:TypeId)(size:Nat)(v:Value)(n:Nat)(cs:List Value):Prop:=w.ownsRow 0 e size v n cs/\∀g,v.ownBlock=some g->D g
theorem Co.keep{D D':Nat->Prop}{w w':World}{e:TypeId}{size:Nat}{v:Value}{n:Nat}{cs:List Value}(h:Co D w e size v n cs)
  (hk:∀g,D g->g<w.heap.size->w'.heap[g]?=w.heap[g]?/\D' g):Co D' w' e size v n cs:=
 ⟨B3 h.1 fun g hg hl=>(hk g (h.2 g hg) hl).1,fun g hg=>(hk g (h.2 g hg) (Bs h.1 g hg)).2⟩
end
section
open Go.RowKit
theorem Bd{w:World}{g:Nat}{cs:Array Value}{t:TypeId}(h:w.heap[g]?=some (.cells cs t (0,0)))(o:Nat):w.frozen? ⟨g,o,none⟩=false:=by
 simp[World.frozen?,h]
theorem A2{w:World}{g:Nat}{cs:Array Value}{t:TypeId}{fr:Nat×Nat}(h:w.heap[g]?=some (.cells cs t fr))(o:Nat)(u:Value)(hu:cs[o]?=some u):w.cell? ⟨g,o,none⟩=some u:=by
 rw[cell_of_row w g o cs t fr h];exact hu
theorem heap_set{w:World}{b j:Nat}{cs:Array Value}{t:TypeId}{fr:Nat×Nat}(h:w.heap[b]?=some (.cells cs t fr))(u:Value):(w.setCell ⟨b,j,none⟩ u).heap[b]?=some (.cells (cs.setIfInBounds j u) t fr):=by
 simp[World.setCell,Array.getElem?_modify,h]
theorem Dw{w:World}{g:Nat}{a0 a1 a2 a3:Value}{t:TypeId}(h:w.heap[g]?=some (.cells #[a0,a1,a2,a3] t (0,0))) :
  w.cell? ⟨g,0,none⟩=some a0/\w.cell? ⟨g,1,none⟩=some a1/\w.cell? ⟨g,2,none⟩=some a2/\w.cell? ⟨g,3,none⟩=some a3/\(∀o,w.frozen? ⟨g,o,none⟩=false)/\g<w.heap.size:=
 ⟨A2 h 0 _ rfl,A2 h 1 _ rfl,A2 h 2 _ rfl,A2 h 3 _ rfl,Bd h,A4 h⟩
theorem Sj{w:World}{g:Nat}{a0 a1 a2 a3 a4 a5:Value}{t:TypeId}(h:w.heap[g]?=some (.cells #[a0,a1,a2,a3,a4,a5] t (0,0))) :
  w.cell? ⟨g,0,none⟩=some a0/\w.cell? ⟨g,1,none⟩=some a1/\w.cell? ⟨g,2,none⟩=some a2/\w.cell? ⟨g,3,none⟩=some a3/\w.cell? ⟨g,4,none⟩=some a4/\w.cell? ⟨g,5,none⟩=some a5/\(∀o,w.frozen? ⟨g,o,none⟩=false)/\g<w.heap.size:=
 ⟨A2 h 0 _ rfl,A2 h 1 _ rfl,A2 h 2 _ rfl,A2 h 3 _ rfl,A2 h 4 _ rfl,A2 h 5 _ rfl,Bd h,A4 h⟩
theorem A7.blk{b:Nat}{w w':World}(h:A7 b w w'){g:Nat}{o:Obj}(hg:w.heap[g]?=some o)(hb:g≠b):w'.heap[g]?=some o:=(h.block g (A4 hg) hb).trans hg
theorem Fq{w w':World}(h:Below w.heap.size w w'){g:Nat}{o:Obj}(hg:w.heap[g]?=some o):w'.heap[g]?=some o:=(h.block g (A4 hg)).trans hg
theorem alloc_old{w:World}{g:Nat}{o o':Obj}(hg:w.heap[g]?=some o):(w.alloc o').heap[g]?=some o:=(Below.heap_alloc w o' g (A4 hg)).trans hg
theorem A0n{w:World}{g:Nat}{o:Obj}{p:Addr}{u:Value}(hg:w.heap[g]?=some o)(hp:g≠p.block):(w.setCell p u).heap[g]?=some o:=(Below.heap_setCell w p u g hp).trans hg
theorem A7.Hu{b:Nat}{x w:World}(h:A7 b x w){g:Nat}(hg:x.heap.size<=g)(u0 u1 u2 u3:Value):A7 b x ((((w.setCell ⟨g,0,none⟩ u0).setCell ⟨g,1,none⟩ u1).setCell ⟨g,2,none⟩ u2).setCell ⟨g,3,none⟩ u3):=(A7.set (p:=⟨g,3,none⟩) (A7.set (p:=⟨g,2,none⟩) (A7.set (p:=⟨g,1,none⟩) (A7.set (p:=⟨g,0,none⟩) h (.inr hg) u0) (.inr hg) u1) (.inr hg) u2) (.inr hg) u3)
theorem Gw{w:World}{k g:Nat}(hp:k≠g)(u0 u1 u2 u3:Value):((((w.setCell ⟨g,0,none⟩ u0).setCell ⟨g,1,none⟩ u1).setCell ⟨g,2,none⟩ u2).setCell ⟨g,3,none⟩ u3).heap[k]?=w.heap[k]?:=by
 rw[Below.heap_setCell _ _ _ _ (by exact hp)];rw[Below.heap_setCell _ _ _ _ (by exact hp)];rw[Below.heap_setCell _ _ _ _ (by exact hp)];rw[Below.heap_setCell _ _ _ _ (by exact hp)]
end
section
def Od(k:Nat):List UInt8->Option (Tk×Nat)
 | []=>some (⟨0,0,[],0⟩,k)
 | c::r=>(Er (c::r)).map fun x=>(x.1,k+x.2)
def Fo(l:List UInt8):Nat×Option (Tk×Nat):=((B6 false l).2.1,if(B6 false l).2.2 then Od (B6 false l).1 (l.drop (B6 false l).1) else none)
def Me(acc:List Tk):Nat ⊕ List Tk->Nat ⊕ List Tk
 | .inl n=>.inl n
 | .inr ts=>.inr (acc++ts)
theorem Akg(x:Nat ⊕ List Tk):Me [] x=x:=by cases x <;> rfl
theorem Acu(a b:List Tk)(x:Nat ⊕ List Tk):Me a (Me b x)=Me (a++b) x:=by cases x <;> simp[Me]
theorem Am3{c:UInt8}(r:List UInt8)(h:Gr c=false):Er (c::r)=none:=by
 have hn:¬(32<=c.toNat/\c.toNat<=126):=by
  intro e;rw[Gr,decide_eq_true e.1,decide_eq_true e.2]at h;cases h
 have hd:D9 c=false:=by
  rw[D9];by_cases h1:48<=c.toNat
  ·rw[decide_eq_false (show ¬c.toNat<=57 by omega)];simp
  ·rw[decide_eq_false h1];rfl
 have hl:isLet c=false:=by
  rw[isLet];rw[Bool.or_eq_false_iff];constructor
  ·by_cases h1:97<=c.toNat
   ·rw[decide_eq_false (show ¬c.toNat<=122 by omega)];simp
   ·rw[decide_eq_false h1];rfl
  ·by_cases h1:65<=c.toNat
   ·rw[decide_eq_false (show ¬c.toNat<=90 by omega)];simp
   ·rw[decide_eq_false h1];rfl
 have hc:∀d:UInt8,32<=d.toNat->d.toNat<=126->(c==d)=false:=by
  intro d h1 h2;rw[beq_eq_false_iff_ne];intro e;subst e;exact hn ⟨h1,h2⟩
 have Ah:Ia c=0:=by
  unfold Ia;simp only[hc 40 (by decide) (by decide),hc 41 (by decide) (by decide),hc 123 (by decide) (by decide),hc 125 (by decide) (by decide),hc 91 (by decide) (by decide),hc 93 (by decide) (by decide),hc 44 (by decide) (by decide),hc 59 (by decide) (by decide),hc 61 (by decide) (by decide),hc 33 (by decide) (by decide),hc 60 (by decide) (by decide),hc 62 (by decide) (by decide),hc 43 (by decide) (by decide),hc 45 (by decide) (by decide),hc 42 (by decide) (by decide),hc 47 (by decide) (by decide),hc 37 (by decide) (by decide),Bool.false_eq_true,if_false]
 have Au:∀d,K2 c d=0:=by
  intro d;unfold K2;simp only[hc 61 (by decide) (by decide),hc 33 (by decide) (by decide),hc 60 (by decide) (by decide),hc 62 (by decide) (by decide),hc 38 (by decide) (by decide),hc 124 (by decide) (by decide),Bool.false_and,Bool.false_eq_true,if_false]
 have hsg:(Gm (c::r))=(0,0):=by
  cases r with
  | nil=>rw[Gm,Ah];rfl
  | cons d r=>rw[Gm,Au,Ah];rfl
 rw[Er];simp only[hd,hl,hc 34 (by decide) (by decide),hsg,Bool.false_eq_true,if_false];rfl
theorem A2j:∀(l:List UInt8) (f ln:Nat) (sd:Bool),l.length<f->
  lex f l ln sd=if(B6 sd l).2.2 then lex (f-(B6 sd l).1) (l.drop (B6 sd l).1) (ln+(B6 sd l).2.1) false else .inl (ln+(B6 sd l).2.1):=by
 intro l;induction l with
 | nil=>
  intro f ln sd hf;obtain⟨f,rfl⟩:∃g,f=g+1:=⟨f-1,by simp at hf;omega⟩;cases sd <;> simp[B6,lex]
 | cons c r ih=>
  intro f ln sd hf;obtain⟨f,rfl⟩:∃g,f=g+1:=⟨f-1,by simp at hf;omega⟩;have hf':r.length<f:=by simp at hf;omega
  rw[lex];by_cases h10:(c==10)=true
  ·rw[if_pos h10];have hk:B6 sd (c::r)=((B6 false r).1+1,(B6 false r).2.1+1,(B6 false r).2.2):=by
    cases sd <;> rw[B6,if_pos h10]
   rw[hk,ih f (ln+1) false hf'];simp only[List.drop_succ_cons,Nat.add_sub_add_right,show ∀a,ln+1+a=ln+(a+1) from fun a=>by omega]
  ·rw[if_neg h10];by_cases hb:(c !=9&&!(Gr c))=true
   ·rw[if_pos hb];have h9:c≠9:=by intro e;subst e;exact absurd hb (by decide)
    have hp:Gr c=false:=by
     cases hq:Gr c
     ·rfl
     ·rw[hq]at hb;simp at hb
    cases sd with
    | true=>rw[B6,if_neg h10,if_pos hb];rfl
    | false=>
     have h32:c≠32:=by intro e;subst e;exact absurd hp (by decide)
     have h47:c≠47:=by intro e;subst e;exact absurd hp (by decide)
     have hk:B6 false (c::r)=(0,0,true):=A2h (by simpa using h10) h32 h9 (fun e=>h47 e.1);rw[hk];simp only[if_true,List.drop_zero,Nat.sub_zero,Nat.add_zero];rw[lex,if_neg h10,if_pos hb]
   ·rw[if_neg hb];cases sd with
    | true=>
     rw[if_pos (by simp),B6,if_neg h10,if_neg hb];simp only[Bool.true_or,List.drop_succ_cons,Nat.add_sub_add_right];exact ih f ln true hf'
    | false=>
     by_cases hs:(c==32||c==9)=true
     ·have h47:(c==47)=false:=by
       rw[beq_eq_false_iff_ne];intro e;subst e;exact absurd hs (by decide)
      rw[if_pos (by simp only[Bool.false_or,Bool.or_eq_true];simp only[Bool.or_eq_true]at hs;rcases hs with h|h;exact .inr h;exact .inl (.inr h))];rw[B6,if_neg h10,if_pos hs];simp only[h47,Bool.false_and,Bool.or_false,List.drop_succ_cons,Nat.add_sub_add_right];exact ih f ln false hf'
     ·by_cases hr:(c==47&&r.head?==some 47)=true
      ·rw[if_pos (by rw[hr];simp),B6,if_neg h10,if_neg hs,if_pos hr];simp only[hr,Bool.false_or,List.drop_succ_cons,Nat.add_sub_add_right];exact ih f ln true hf'
      ·have hk:B6 false (c::r)=(0,0,true):=by rw[B6,if_neg h10,if_neg hs,if_neg hr]
       rw[hk];simp only[if_true,List.drop_zero,Nat.sub_zero,Nat.add_zero];rw[lex,if_neg h10,if_neg hb]
theorem Ajf:∀(f:Nat) (l:List UInt8) (g ln:Nat) (sd:Bool),l.length<f->l.length<g->lex f l ln sd=lex g l ln sd:=by
 intro f;induction f with
 | zero=>intro l g ln sd h;omega
 | succ f ih=>
  intro l g ln sd hf hg;obtain⟨g,rfl⟩:∃h,g=h+1:=⟨g-1,by omega⟩;cases l with
  | nil=>rw[lex,lex]
  | cons c r=>
   have h1:r.length<f:=by simp at hf;omega
   have h2:r.length<g:=by simp at hg;omega
   rw[lex,lex];split
   ·exact ih _ _ _ _ h1 h2
   split
   ·rfl
   split
   ·exact ih _ _ _ _ h1 h2
   cases ht:Er (c::r) with
   | none=>rfl
   | some x=>
    obtain⟨t,n⟩:=x;have hn:=(Ru c r t n ht).2.2;have hd:((c::r).drop n).length<=r.length:=by simp;omega
    simp only;rw[ih ((c::r).drop n) g ln false (by omega) (by omega)]
theorem A1k:∀(l:List UInt8) (sd:Bool),(B6 sd l).2.2=true->∀c r,l.drop (B6 sd l).1=c::r->c≠10/\c≠32/\c≠9/\¬(c=47/\r.head?=some 47):=by
 intro l;induction l with
 | nil=>intro sd _ c r h;simp at h
 | cons d q ih=>
  intro sd h c r hd;cases sd with
  | true=>
   rw[B6]at h hd;split at h
   ·rename_i h1;rw[if_pos h1]at hd;exact ih false h c r (by simpa using hd)
   ·rename_i h1;rw[if_neg h1]at hd;split at h
    ·cases h
    ·rename_i h2;rw[if_neg h2]at hd;exact ih true h c r (by simpa using hd)
  | false=>
   rw[B6]at h hd;split at h
   ·rename_i h1;rw[if_pos h1]at hd;exact ih false h c r (by simpa using hd)
   ·rename_i h1;rw[if_neg h1]at hd;split at h
    ·rename_i h2;rw[if_pos h2]at hd;exact ih false h c r (by simpa using hd)
    ·rename_i h2;rw[if_neg h2]at hd;split at h
     ·rename_i h3;rw[if_pos h3]at hd;exact ih true h c r (by simpa using hd)
     ·rename_i h3;rw[if_neg h3]at hd;simp only[List.drop_zero,List.cons.injEq]at hd;obtain⟨rfl,rfl⟩:=hd;simp only[Bool.or_eq_true,beq_iff_eq,not_or]at h2;simp only[Bool.and_eq_true,beq_iff_eq]at h3;exact⟨by simpa using h1,h2.1,h2.2,h3⟩
theorem Agv(l:List UInt8)(ln:Nat)(h:(Fo l).2=none):lex (l.length+1) l ln false=.inl (ln+(Fo l).1):=by
 rw[A2j l _ ln false (by omega)];have hle:=(Vp l false).1;unfold Fo at h ⊢;cases hs:(B6 false l).2.2 with
 | false=>simp
 | true=>
  simp only[hs,if_true]at h ⊢;cases hd:l.drop (B6 false l).1 with
  | nil=>rw[hd,Od]at h;cases h
  | cons c r=>
   rw[hd,Od]at h;have ht:Er (c::r)=none:=by
    cases ht:Er (c::r) with
    | none=>rfl
    | some x=>rw[ht]at h;cases h
   obtain⟨f,hf⟩:∃f,l.length+1-(B6 false l).1=f+1:=⟨l.length-(B6 false l).1,by omega⟩;obtain⟨h10,h32,h9,h47⟩:=A1k l false hs c r hd;rw[hf,lex,if_neg (by simpa using h10)];by_cases hp:Gr c=true
   ·rw[if_neg (by simp[hp]),if_neg (by simp only[Bool.false_or,Bool.or_eq_true,Bool.and_eq_true,beq_iff_eq];rintro((h|h)|h);exact h47 h;exact h9 h;exact h32 h),ht]
   ·have hp':Gr c=false:=by simpa using hp
    rw[if_pos (by simp[hp',h9])]
theorem Aje(l:List UInt8)(ln:Nat)(x:Tk×Nat)(h:(Fo l).2=some x):lex (l.length+1) l ln false=(if x.1.k=0 then .inr [⟨0,ln+(Fo l).1,[],0⟩] else Me [⟨x.1.k,ln+(Fo l).1,x.1.s,x.1.n⟩] (lex ((l.drop x.2).length+1) (l.drop x.2) (ln+(Fo l).1) false))/\x.2<=l.length/\(x.1.k=0->x.1=⟨0,0,[],0⟩)/\(x.1.k≠0->1<=x.2)/\(Fo l).1<=x.2:=by
 rw[A2j l _ ln false (by omega)];have hle:=Vp l false;unfold Fo at h ⊢;cases hs:(B6 false l).2.2 with
 | false=>rw[hs]at h;cases h
 | true=>
  simp only[hs,if_true]at h ⊢;cases hd:l.drop (B6 false l).1 with
  | nil=>
   rw[hd,Od]at h;obtain rfl:=Option.some.inj h;have hl:l.length+1-(B6 false l).1=1:=by
    have:=congrArg List.length hd;simp at this;omega
   rw[if_pos rfl,hl,lex];exact⟨rfl,hle.1,fun _=>rfl,fun e=>absurd rfl e,hle.2⟩
  | cons c r=>
   have hlen:(c::r).length=l.length-(B6 false l).1:=by rw[←hd];simp
   rw[hd,Od]at h;cases ht:Er (c::r) with
   | none=>rw[ht]at h;cases h
   | some y=>
    rw[ht]at h;obtain⟨t,n⟩:=y;obtain rfl:(t,(B6 false l).1+n)=x:=Option.some.inj h;obtain⟨k1,_,k3⟩:=Ru c r t n ht;have hn:=Ah2 (c::r) t n ht;obtain⟨f,hf⟩:∃f,l.length+1-(B6 false l).1=f+1:=⟨l.length-(B6 false l).1,by omega⟩;obtain⟨h10,h32,h9,h47⟩:=A1k l false hs c r hd;refine⟨?_,by simp only;omega,fun e=>absurd e (by simp only;omega),fun _=>by simp only;omega,by simp only;omega⟩;have hp:Gr c=true:=by
     cases hp:Gr c with
     | true=>rfl
     | false=>rw[Am3 r hp]at ht;cases ht
    rw[hf,lex,if_neg (by simpa using h10),if_neg (by simp[hp]),if_neg (by simp only[Bool.false_or,Bool.or_eq_true,Bool.and_eq_true,beq_iff_eq];rintro((h|h)|h);exact h47 h;exact h9 h;exact h32 h),ht];have hdn:(c::r).drop n=l.drop ((B6 false l).1+n):=by rw[←hd,List.drop_drop]
    have hll:(l.drop ((B6 false l).1+n)).length<f:=by
     simp only[List.length_drop];simp only[List.length_cons]at hlen;omega
    simp only;rw[if_neg (by omega),hdn,Ajf f _ ((l.drop ((B6 false l).1+n)).length+1) _ _ hll (by omega)];cases lex ((l.drop ((B6 false l).1+n)).length+1) (l.drop ((B6 false l).1+n)) (ln+(B6 false l).2.1) false <;> rfl
end
section
open Go.Deep (BT)
theorem X2(s:Nm):∀(l:List Nm),(∀j (h:j<l.length),l[j]≠s)->N8 s l=none:=by
 intro l;induction l with
 | nil=>intro _;rfl
 | cons x r ih=>
  intro h;have h1:=ih (fun j hj=>by have:=h (j+1) (by simpa using hj);simpa using this);have h0:=h 0 (by simp);simp only[List.getElem_cons_zero]at h0;rw[N8,h1];simp[h0]
theorem Aj8(s:Nm):∀(l:List Nm) (i:Nat) (hi:i<l.length),l[i]=s->(∀j (h:j<l.length),i<j->l[j]≠s)->N8 s l=some i:=by
 intro l;induction l with
 | nil=>intro i hi;simp at hi
 | cons x r ih=>
  intro i hi he hn;cases i with
  | zero=>
   have h1:=X2 s r (fun j hj=>by have:=hn (j+1) (by simpa using hj) (by omega);simpa using this);simp only[List.getElem_cons_zero]at he;rw[N8,h1];simp[he]
  | succ i=>
   have h1:=ih i (by simpa using hi) (by simpa using he) (fun j hj hij=>by have:=hn (j+1) (by simpa using hj) (by omega);simpa using this);rw[N8,h1]
theorem A03(s:Nm):∀(l:List Nm),(∀j (h:j<l.length),l[j]≠s)->My s l=none:=by
 intro l;induction l with
 | nil=>intro _;rfl
 | cons x r ih=>
  intro h;have h1:=ih (fun j hj=>by have:=h (j+1) (by simpa using hj);simpa using this);have h0:=h 0 (by simp);simp only[List.getElem_cons_zero]at h0;rw[My,if_neg h0,h1]
theorem Zc(s:Nm):∀(l:List Nm) (i:Nat) (hi:i<l.length),l[i]=s->(∀j (h:j<l.length),j<i->l[j]≠s)->My s l=some i:=by
 intro l;induction l with
 | nil=>intro i hi;simp at hi
 | cons x r ih=>
  intro i hi he hn;cases i with
  | zero=>
   simp only[List.getElem_cons_zero]at he;rw[My,if_pos he]
  | succ i=>
   have h0:=hn 0 (by simp) (by omega);simp only[List.getElem_cons_zero]at h0;have h1:=ih i (by simpa using hi) (by simpa using he) (fun j hj hij=>by have:=hn (j+1) (by simpa using hj) (by omega);simpa using this);rw[My,if_neg h0,h1]
def Ej(i:Ad):List Value:=[.int .i64 (i.op:Nat),.int .i64 i.arg,.int .i64 (i.line:Nat),.int .i64 (i.v.k:Nat),.bool i.v.y,.int .i64 i.v.n,.string ⟨i.v.t.toArray⟩,.pointer none]
def Eh(st:List Ad):List Value:=st.flatMap Ej
theorem Aea(a b:List Ad):Eh (a++b)=Eh a++Eh b:=by simp[Eh]
theorem A3c(i:Ad):Eh [i]=Ej i:=by simp[Eh]
theorem Akp(st:List Ad):(Eh st).length=st.length*8:=by
 induction st with
 | nil=>rfl
 | cons x r ih=>
  have e:Eh (x::r)=Ej x++Eh r:=by simp[Eh]
  rw[e,List.length_append,ih];have hl:(Ej x).length=8:=rfl;rw[hl,List.length_cons];omega
theorem Qx(a:Int):∀(st:List Ad) (j:Nat),(Lv j a st).length=st.length:=by
 intro st;induction st with
 | nil=>intro j;cases j <;> rfl
 | cons x r ih=>
  intro j;cases j with
  | zero=>rfl
  | succ j=>rw[Lv,List.length_cons,ih,List.length_cons]
theorem Amb(a:Int):∀(st:List Ad) (j:Nat),j<st.length->Eh (Lv j a st)=(Eh st).set (j*8+1) (.int .i64 a):=by
 intro st;induction st with
 | nil=>intro j h;simp at h
 | cons x r ih=>
  intro j h;have e:Eh (x::r)=Ej x++Eh r:=by simp[Eh]
  have hl:(Ej x).length=8:=rfl;cases j with
  | zero=>
   rw[Lv,e,List.set_append_left _ _ (by omega)];simp[Eh,Ej]
  | succ j=>
   rw[Lv,e];have e2:Eh (x::Lv j a r)=Ej x++Eh (Lv j a r):=by simp[Eh]
   rw[e2,ih j (by simpa using h),List.set_append_right _ _ (by omega),hl,show(j+1)*8+1-8=j*8+1 by omega]
def Fz:BT A6->Nat->Nat
 | .nil,_=>0
 | .node _ _ l c r,m=>if 2<=m then Fz r (m-1) else bsize (nd l c)
theorem V8(m:Nat):Fz .nil m=0:=by cases m <;> rfl
theorem X1(c:BT A6):Fz c 1+Fz c 2+Fz c 3<=bsize c:=by
 cases c with
 | nil=>simp[V8]
 | node x y l c r=>
  have h1:Fz (.node x y l c r) 1=bsize (nd l c):=rfl;have h2:Fz (.node x y l c r) 2=Fz r 1:=rfl;have h3:Fz (.node x y l c r) 3=Fz r 2:=rfl;rw[h1,h2,h3,Cd];simp only[bsize];cases r with
  | nil=>simp[V8]
  | node x y l c r=>
   have h1:Fz (.node x y l c r) 1=bsize (nd l c):=rfl;have h2:Fz (.node x y l c r) 2=Fz r 1:=rfl;rw[h1,h2,Cd];simp only[bsize];cases r with
   | nil=>simp[V8]
   | node x y l c r=>
    have h1:Fz (.node x y l c r) 1=bsize (nd l c):=rfl;rw[h1,Cd];simp only[bsize];omega
theorem Dq(o:Nat)(a:Int)(ln:Nat)(e:Em):(e.step o a ln).st.length=e.st.length+1:=by simp[Em.step]
theorem Wd(v:PV)(e:Em):(e.J2 v).st.length=e.st.length+1:=by simp[Em.J2]
theorem Jt(j:Nat)(e:Em):(e.land j).st.length=e.st.length:=Qx _ _ _
theorem Rm:∀(l:List Nat) (e:Em),(e.Hj l).st.length=e.st.length:=by
 intro l;induction l with
 | nil=>intro e;rfl
 | cons j r ih=>intro e;rw[Em.Hj,ih,Jt]
theorem Yk(gl:List Nm)(s:Nm)(a b:Nat)(e:Em):(e.var gl s a b).st.length<=e.st.length+1:=by
 unfold Em.var;split
 ·rw[Dq];exact Nat.le_refl _
 ·split
  ·rw[Dq];exact Nat.le_refl _
  ·omega
theorem Alx(e:Em):e.Kz.st.length<=e.st.length+1:=by
 unfold Em.Kz;split
 ·omega
 ·simp
theorem A6i(e:Em):e.cnt.st.length<=e.st.length+1:=by
 unfold Em.cnt;split
 ·omega
 ·rw[Dq];exact Nat.le_refl _
theorem A4f(fns:List (Nm×Nat))(gl:List Nm)(l:A6)(n s s1 s2 s3:Nat)(k:Nat->Em->Em)(h0:∀e,(k 0 e).st.length<=e.st.length+2*s)(h1:∀e,(k 1 e).st.length<=e.st.length+2*s1)(h2:∀e,(k 2 e).st.length<=e.st.length+2*s2)(h3:∀e,(k 3 e).st.length<=e.st.length+2*s3)(hs:s1+s2+s3<=s)(e:Em) :
  (An fns gl l n k e).st.length<=e.st.length+2*(1+s):=by
 have g0:=h0 e;unfold An;split;all_goals try (first|(rw[Wd];omega)|(rw[Dq];omega)|omega)
 ·have:=Yk gl l.s 1 2 e;omega
 ·rw[Dq];show(k 0 e).st.length+1<=_;omega
 ·unfold Ld;simp only[Jt];have a1:=h1 e;have a2:=h2 ((k 1 e).step 8 0 l.line);rw[Dq]at a2;split
  ·have a3:=h3 (((k 2 ((k 1 e).step 8 0 l.line)).step 6 0 0).land (k 1 e).st.length);rw[Jt,Dq]at a3;omega
  ·rw[Jt,Dq];omega
 ·unfold Lr;simp only[Em.close,Rm,Jt,Dq];have a1:=h1 e.open';have a2:=h2 ((k 1 e.open').step 7 0 l.line);rw[Dq]at a2;have:e.open'.st.length=e.st.length:=rfl;omega
 ·split
  ·rw[Dq];omega
  ·rw[Dq];omega
 ·have:=Alx e;omega
 ·have:=A6i e;omega
 ·have:=Yk gl l.s 3 4 (k 0 e);omega
 ·show(k 0 e).st.length<=_;omega
 ·show(k 0 e).st.length<=_;omega
 ·split
  ·unfold Mk;simp only[Jt,Dq];have a1:=h1 e;have a2:=h2 ((k 1 e).step (binOp (l.kd-100)) 0 l.line);rw[Dq]at a2;omega
  ·rw[Dq];omega
theorem Nv(fns:List (Nm×Nat))(gl:List Nm):∀(c:BT A6),(∀e,(em fns gl c 0 e).st.length<=e.st.length+2*bsize c)/\(∀m,1<=m->∀e,(em fns gl c m e).st.length<=e.st.length+2*Fz c m):=by
 intro c;induction c with
 | nil=>exact⟨fun e=>by rw[em];omega,fun m _ e=>by rw[em];omega⟩
 | node x y l c r Dm Cw=>
  have hN:∀e,(An fns gl l (Ar c) (em fns gl c) e).st.length<=e.st.length+2*(1+bsize c):=
   fun e=>A4f fns gl l (Ar c) (bsize c) (Fz c 1) (Fz c 2) (Fz c 3) (em fns gl c) Dm.1 (Dm.2 1 (by omega)) (Dm.2 2 (by omega)) (Dm.2 3 (by omega)) (X1 c) e
  refine⟨fun e=>?_,fun m hm e=>?_⟩
  ·rw[Ib];have a1:=hN e;have a2:=Cw.1 (An fns gl l (Ar c) (em fns gl c) e);simp only[bsize];omega
  ·by_cases h2:2<=m
   ·have e1:em fns gl (.node x y l c r) m e=em fns gl r (m-1) e:=by rw[em,if_pos h2]
    have e2:Fz (.node x y l c r) m=Fz r (m-1):=by rw[Fz,if_pos h2]
    rw[e1,e2];exact Cw.2 (m-1) (by omega) e
   ·have h1:m=1:=by omega
    subst h1;rw[Pg];have e2:Fz (.node x y l c r) 1=bsize (nd l c):=rfl;rw[e2,Cd];have:=hN e;omega
theorem Gd(fns:List (Nm×Nat))(gl:List Nm)(l:A6)(c:BT A6)(e:Em):(An fns gl l (Ar c) (em fns gl c) e).st.length<=e.st.length+2*bsize (nd l c):=by
 have:=(Nv fns gl (nd l c)).1 e;rw[Yw]at this;exact this
end
section
open Go.Deep (BT)
variable {fns:List (Nm×Nat)} {gl:List Nm} {l:A6} {n:Nat} {k:Nat->Em->Em} {e:Em}
theorem Yt(hk:l.kd=1):An fns gl l n k e=e.J2 ⟨2,false,l.n,[],none⟩:=by simp only[An,hk]
theorem A2d(hk:l.kd=2):An fns gl l n k e=e.J2 ⟨3,false,0,l.s,none⟩:=by simp only[An,hk]
theorem Za(hk:l.kd=3):An fns gl l n k e=e.J2 ⟨1,true,0,[],none⟩:=by simp only[An,hk]
theorem A2s(hk:l.kd=4):An fns gl l n k e=e.J2 ⟨1,false,0,[],none⟩:=by simp only[An,hk]
theorem Z8(hk:l.kd=5):An fns gl l n k e=e.J2 Ai:=by simp only[An,hk]
theorem Ym(hk:l.kd=6):An fns gl l n k e=e.var gl l.s 1 2:=by simp only[An,hk]
theorem Yc(hk:l.kd=7):An fns gl l n k e=(k 0 e).step 42 (N5 fns l.s) l.line:=by simp only[An,hk]
theorem Yh(hk:l.kd=8):An fns gl l n k e=k 0 e:=by simp only[An,hk]
theorem Z1(hk:l.kd=9):An fns gl l n k e=(k 0 e).step 36 (n:Nat) l.line:=by simp only[An,hk]
theorem j4(hk:l.kd=10):An fns gl l n k e=(k 0 e).step 37 0 l.line:=by simp only[An,hk]
theorem Yn(hk:l.kd=11):An fns gl l n k e=(k 0 e).step 38 0 l.line:=by simp only[An,hk]
theorem Yp(hk:l.kd=12):An fns gl l n k e=(k 0 e).step 39 0 l.line:=by simp only[An,hk]
theorem A1e(hk:l.kd=13):An fns gl l n k e=(k 0 e).step 27 0 l.line:=by simp only[An,hk]
theorem Z5(hk:l.kd=14):An fns gl l n k e=(k 0 e).step 23 0 l.line:=by simp only[An,hk]
theorem A4l(hk:l.kd=21):An fns gl l n k e=((k 0 e).local' l.s).step 3 ((k 0 e).loc.length:Nat) 0:=by simp only[An,hk]
theorem Yo(hk:l.kd=22):An fns gl l n k e=Ld l.line n k e:=by simp only[An,hk]
theorem A1x(hk:l.kd=23):An fns gl l n k e=Lr l.line k e:=by simp only[An,hk]
theorem Yr(hk:l.kd=24):An fns gl l n k e=if n=0 then e.step 43 0 0 else(k 0 e).step 44 0 0:=by simp only[An,hk]
theorem Xu(hk:l.kd=25):An fns gl l n k e=e.Kz:=by simp only[An,hk]
theorem X5(hk:l.kd=26):An fns gl l n k e=e.cnt:=by simp only[An,hk]
theorem A1f(hk:l.kd=27):An fns gl l n k e=(k 0 e).step 41 0 l.line:=by simp only[An,hk]
theorem A0t(hk:l.kd=28):An fns gl l n k e=(k 0 e).var gl l.s 3 4:=by simp only[An,hk]
theorem Zi(hk:l.kd=29):An fns gl l n k e=(k 0 e).step 40 0 l.line:=by simp only[An,hk]
theorem l8(hk:l.kd=30):An fns gl l n k e=(k 0 e).step 5 0 0:=by simp only[An,hk]
theorem Ta(hk:l.kd=31):An fns gl l n k e=(k 0 e).cut e.loc.length:=by simp only[An,hk]
theorem A1z(hk:l.kd=32):An fns gl l n k e=(k 0 e).cut e.loc.length:=by simp only[An,hk]
theorem A0w(hk:l.kd=139\/l.kd=140):An fns gl l n k e=Mk (binOp (l.kd-100)) l.line k e:=by
 rcases hk with h|h <;> simp[An,h]
theorem X3(h1:127<=l.kd)(h2:l.kd<=138):An fns gl l n k e=(k 0 e).step (binOp (l.kd-100)) 0 l.line:=by
 have hk:l.kd=127\/l.kd=128\/l.kd=129\/l.kd=130\/l.kd=131\/l.kd=132\/l.kd=133\/l.kd=134\/l.kd=135\/l.kd=136\/l.kd=137\/l.kd=138:=by omega
 rcases hk with h|h|h|h|h|h|h|h|h|h|h|h <;> simp[An,h]
end
section
open Go.Deep (BT)
def Ga(e:Em):List Nat:=e.lps.map Prod.fst
theorem O9(o:Nat)(a:Int)(ln:Nat)(e:Em):Ga (e.step o a ln)=Ga e:=rfl
theorem R2(j:Nat)(e:Em):Ga (e.land j)=Ga e:=rfl
theorem Un:∀(l:List Nat) (e:Em),(e.Hj l).lps=e.lps:=by
 intro l;induction l with
 | nil=>intro e;rfl
 | cons j r ih=>intro e;rw[Em.Hj,ih];rfl
theorem Wq:∀(l:List Nat) (e:Em),(e.Hj l).loc=e.loc:=by
 intro l;induction l with
 | nil=>intro e;rfl
 | cons j r ih=>intro e;rw[Em.Hj,ih];rfl
theorem Xt(gl:List Nm)(s:Nm)(a b:Nat)(e:Em):Ga (e.var gl s a b)=Ga e:=by
 unfold Em.var;split
 ·rfl
 ·split <;> rfl
theorem Ov(gl:List Nm)(s:Nm)(a b:Nat)(e:Em):(e.var gl s a b).lps=e.lps/\(e.var gl s a b).loc=e.loc/\(e.var gl s a b).slots=e.slots:=by
 unfold Em.var;split
 ·exact⟨rfl,rfl,rfl⟩
 ·split <;> exact⟨rfl,rfl,rfl⟩
theorem Tg(e:Em):Ga e.Kz=Ga e/\e.Kz.loc=e.loc:=by
 unfold Em.Kz;split
 ·exact⟨rfl,rfl⟩
 ·rename_i s bs r h;exact⟨by simp[Ga,h],rfl⟩
theorem Te(e:Em):Ga e.cnt=Ga e/\e.cnt.loc=e.loc:=by
 unfold Em.cnt;split
 ·exact⟨rfl,rfl⟩
 ·exact⟨rfl,rfl⟩
theorem Xw(fns:List (Nm×Nat))(gl:List Nm)(l:A6)(n:Nat)(k:Nat->Em->Em)(h:∀m e,Ga (k m e)=Ga e)(e:Em):Ga (An fns gl l n k e)=Ga e:=by
 have h0:=h 0 e;unfold An;split;all_goals try (first|rfl|exact h0)
 ·exact Xt _ _ _ _ _
 ·unfold Ld;simp only[];rw[R2];split
  ·rw[h,R2,O9,h,O9,h]
  ·rw[R2,O9,h,O9,h]
 ·unfold Lr;simp only[];have h1:Ga (((k 2 ((k 1 e.open').step 7 0 l.line)).step 6 (e.st.length:Nat) 0).land (k 1 e.open').st.length)=e.st.length::Ga e:=by
   rw[R2,O9,h,O9,h];rfl
  show((Em.Hj _ _).lps.tail).map Prod.fst=_;rw[Un];have h2:∀x:List (Nat×List Nat),x.tail.map Prod.fst=(x.map Prod.fst).tail:=fun x=>by cases x <;> rfl
  rw[h2];show List.tail (Ga _)=_;rw[h1];rfl
 ·split
  ·rfl
  ·exact h0
 ·exact(Tg e).1
 ·exact(Te e).1
 ·rw[Xt];exact h0
 ·split
  ·unfold Mk;simp only[];rw[R2,O9,h,O9,h]
  ·exact h0
theorem Zy(fns:List (Nm×Nat))(gl:List Nm):∀(c:BT A6) (m:Nat) (e:Em),Ga (em fns gl c m e)=Ga e:=by
 intro c;induction c with
 | nil=>intro m e;rfl
 | node x y l c r Dm Cw=>
  intro m e;rw[em];split
  ·exact Cw _ _
  ·split
   ·exact Xw _ _ _ _ _ Dm e
   ·rw[Cw];exact Xw _ _ _ _ _ Dm e
theorem Tv(fns:List (Nm×Nat))(gl:List Nm)(c:BT A6)(m:Nat)(e:Em):(em fns gl c m e).lps.length=e.lps.length:=by
 have:=congrArg List.length (Zy fns gl c m e);simpa [Ga]using this
theorem A2n(fns:List (Nm×Nat))(gl:List Nm)(l:A6)(c:BT A6)(e:Em):(An fns gl l (Ar c) (em fns gl c) e).lps.length=e.lps.length:=Tv fns gl (nd l c) 0 e
theorem Aht(fns:List (Nm×Nat))(gl:List Nm)(l:A6)(n s s1 s2 s3:Nat)(k:Nat->Em->Em)(h0:∀e,(k 0 e).loc.length<=e.loc.length+s)(h1:∀e,(k 1 e).loc.length<=e.loc.length+s1)(h2:∀e,(k 2 e).loc.length<=e.loc.length+s2)(h3:∀e,(k 3 e).loc.length<=e.loc.length+s3)(hs:s1+s2+s3<=s)(e:Em) :
  (An fns gl l n k e).loc.length<=e.loc.length+(1+s):=by
 have g0:=h0 e;unfold An;split;all_goals try (first|(show e.loc.length<=_;omega)|(show(k 0 e).loc.length<=_;omega))
 ·rw[(Ov _ _ _ _ _).2.1];omega
 ·show((k 0 e).loc++[l.s]).length<=_;simp;omega
 ·unfold Ld;have a1:=h1 e;have a2:=h2 ((k 1 e).step 8 0 l.line);have b2:((k 1 e).step 8 0 l.line).loc=(k 1 e).loc:=rfl;rw[b2]at a2;show(if n=3 then _ else _:Em).loc.length<=_;split
  ·have a3:=h3 (((k 2 ((k 1 e).step 8 0 l.line)).step 6 0 0).land (k 1 e).st.length);have b3:(((k 2 ((k 1 e).step 8 0 l.line)).step 6 0 0).land (k 1 e).st.length).loc=(k 2 ((k 1 e).step 8 0 l.line)).loc:=rfl;rw[b3]at a3;omega
  ·show(k 2 ((k 1 e).step 8 0 l.line)).loc.length<=_;omega
 ·unfold Lr;show(Em.Hj _ _).loc.length<=_;rw[Wq];have a1:=h1 e.open';have a2:=h2 ((k 1 e.open').step 7 0 l.line);have b2:((k 1 e.open').step 7 0 l.line).loc=(k 1 e.open').loc:=rfl;have b1:e.open'.loc=e.loc:=rfl;rw[b2]at a2;rw[b1]at a1;show(k 2 ((k 1 e.open').step 7 0 l.line)).loc.length<=_;omega
 ·split
  ·show e.loc.length<=_;omega
  ·show(k 0 e).loc.length<=_;omega
 ·rw[(Tg e).2];omega
 ·rw[(Te e).2];omega
 ·rw[(Ov _ _ _ _ _).2.1];omega
 ·show((k 0 e).loc.take e.loc.length).length<=_;simp;omega
 ·show((k 0 e).loc.take e.loc.length).length<=_;simp;omega
 ·split
  ·unfold Mk;have a1:=h1 e;have a2:=h2 ((k 1 e).step (binOp (l.kd-100)) 0 l.line);have b2:((k 1 e).step (binOp (l.kd-100)) 0 l.line).loc=(k 1 e).loc:=rfl;rw[b2]at a2;show(k 2 ((k 1 e).step (binOp (l.kd-100)) 0 l.line)).loc.length<=_;omega
  ·show(k 0 e).loc.length<=_;omega
theorem Abo(fns:List (Nm×Nat))(gl:List Nm):∀(c:BT A6),(∀e,(em fns gl c 0 e).loc.length<=e.loc.length+bsize c)/\(∀m,1<=m->∀e,(em fns gl c m e).loc.length<=e.loc.length+Fz c m):=by
 intro c;induction c with
 | nil=>exact⟨fun e=>by rw[em];omega,fun m _ e=>by rw[em];omega⟩
 | node x y l c r Dm Cw=>
  have hN:∀e,(An fns gl l (Ar c) (em fns gl c) e).loc.length<=e.loc.length+(1+bsize c):=
   fun e=>Aht fns gl l (Ar c) (bsize c) (Fz c 1) (Fz c 2) (Fz c 3) (em fns gl c) Dm.1 (Dm.2 1 (by omega)) (Dm.2 2 (by omega)) (Dm.2 3 (by omega)) (X1 c) e
  refine⟨fun e=>?_,fun m hm e=>?_⟩
  ·rw[Ib];have a1:=hN e;have a2:=Cw.1 (An fns gl l (Ar c) (em fns gl c) e);simp only[bsize];omega
  ·by_cases h2:2<=m
   ·have e1:em fns gl (.node x y l c r) m e=em fns gl r (m-1) e:=by rw[em,if_pos h2]
    have e2:Fz (.node x y l c r) m=Fz r (m-1):=by rw[Fz,if_pos h2]
    rw[e1,e2];exact Cw.2 (m-1) (by omega) e
   ·have h1:m=1:=by omega
    subst h1;rw[Pg];have e2:Fz (.node x y l c r) 1=bsize (nd l c):=rfl;rw[e2,Cd];have:=hN e;omega
theorem A3q(fns:List (Nm×Nat))(gl:List Nm)(l:A6)(c:BT A6)(e:Em):(An fns gl l (Ar c) (em fns gl c) e).loc.length<=e.loc.length+bsize (nd l c):=(Abo fns gl (nd l c)).1 e
theorem A22(fns:List (Nm×Nat))(gl:List Nm)(l:A6)(n:Nat)(k:Nat->Em->Em)(h:∀m e,e.st.length<=(k m e).st.length)(e:Em):e.st.length<=(An fns gl l n k e).st.length:=by
 have h0:=h 0 e;have hv:∀(s:Nm) (a b:Nat) (e:Em),e.st.length<=(e.var gl s a b).st.length:=by
  intro s a b e;unfold Em.var;split
  ·rw[Dq];omega
  ·split
   ·rw[Dq];omega
   ·exact Nat.le_refl _
 unfold An;split;all_goals try (first|(rw[Wd];omega)|(rw[Dq];omega)|omega)
 ·exact hv _ _ _ _
 ·rw[Dq];show _<=(k 0 e).st.length+1;omega
 ·unfold Ld;simp only[Jt];have a1:=h 1 e;have a2:=h 2 ((k 1 e).step 8 0 l.line);rw[Dq]at a2;split
  ·have a3:=h 3 (((k 2 ((k 1 e).step 8 0 l.line)).step 6 0 0).land (k 1 e).st.length);rw[Jt,Dq]at a3;omega
  ·rw[Jt,Dq];omega
 ·unfold Lr;simp only[Em.close,Rm,Jt,Dq];have a1:=h 1 e.open';have a2:=h 2 ((k 1 e.open').step 7 0 l.line);rw[Dq]at a2;have:e.open'.st.length=e.st.length:=rfl;omega
 ·split
  ·rw[Dq];omega
  ·rw[Dq];omega
 ·unfold Em.Kz;split
  ·exact Nat.le_refl _
  ·simp
 ·unfold Em.cnt;split
  ·exact Nat.le_refl _
  ·rw[Dq];omega
 ·have:=hv l.s 3 4 (k 0 e);omega
 ·exact h0
 ·exact h0
 ·split
  ·unfold Mk;simp only[Jt,Dq];have a1:=h 1 e;have a2:=h 2 ((k 1 e).step (binOp (l.kd-100)) 0 l.line);rw[Dq]at a2;omega
  ·rw[Dq];omega
theorem R7(fns:List (Nm×Nat))(gl:List Nm):∀(c:BT A6) (m:Nat) (e:Em),e.st.length<=(em fns gl c m e).st.length:=by
 intro c;induction c with
 | nil=>intro m e;exact Nat.le_refl _
 | node x y l c r Dm Cw=>
  intro m e;rw[em];split
  ·exact Cw _ _
  ·split
   ·exact A22 _ _ _ _ _ Dm e
   ·exact Nat.le_trans (A22 fns gl l (Ar c) _ Dm e) (Cw _ _)
theorem Wc(fns:List (Nm×Nat))(gl:List Nm)(l:A6)(c:BT A6)(e:Em):e.st.length<=(An fns gl l (Ar c) (em fns gl c) e).st.length:=R7 fns gl (nd l c) 0 e
def Lp:BT A6->Nat->Prop
 | .nil,_=>True
 | .node _ _ l c r,n=>(l.kd=25\/l.kd=26->n≠0)/\Lp c (if l.kd=32 then n+1 else n)/\Lp r n
theorem Og{is:Bool}{code line:Nat}{f:Cn}(hc:code≠0)(h:(E2 is code line f).1=0):f.1=0/\is=false:=by
 unfold E2 at h;split at h
 ·exact absurd h hc
 ·rename_i hn;refine⟨h,?_⟩;cases is
  ·rfl
  ·exfalso;apply hn;rw[h];rfl
theorem Xy(fns:List (Nm×Nat)):∀(c:BT A6) (outer cur:List Nm) (wh:Nat) (inn:Bool) (f:Cn),(Bp fns c outer cur wh inn f).2.1=0->f.1=0/\Lp c wh:=by
 intro c;induction c with
 | nil=>intro outer cur wh inn f h;exact⟨h,trivial⟩
 | node x y l c r Dm Cw=>
  intro outer cur wh inn f h;rw[Bp]at h;by_cases h31:l.kd=31
  ·rw[if_pos h31]at h;obtain⟨a1,a2⟩:=Cw _ _ _ _ _ h;obtain⟨b1,b2⟩:=Dm _ _ _ _ _ a1;exact⟨b1,fun e=>by omega,by rw[if_neg (by omega)];exact b2,a2⟩
  ·rw[if_neg h31]at h;by_cases h32:l.kd=32
   ·rw[if_pos h32]at h;obtain⟨a1,a2⟩:=Cw _ _ _ _ _ h;obtain⟨b1,b2⟩:=Dm _ _ _ _ _ a1;exact⟨b1,fun e=>by omega,by rw[if_pos h32];exact b2,a2⟩
   ·rw[if_neg h32]at h;by_cases h21:l.kd=21
    ·rw[if_pos h21]at h;obtain⟨a1,a2⟩:=Cw _ _ _ _ _ h;obtain⟨b1,b2⟩:=Dm _ _ _ _ _ a1;exact⟨(Og (by omega) b1).1,fun e=>by omega,by rw[if_neg (by omega)];exact b2,a2⟩
    ·rw[if_neg h21]at h;obtain⟨a1,a2⟩:=Cw _ _ _ _ _ h;obtain⟨b1,b2⟩:=Dm _ _ _ _ _ a1;have hz:f.1=0/\(l.kd=25\/l.kd=26->wh≠0):=by
      split at b1
      ·exact⟨(Og (by omega) b1).1,fun e=>by omega⟩
      ·split at b1
       ·exact⟨(Og (by omega) b1).1,fun e=>by omega⟩
       ·split at b1
        ·have:=Og (by omega) b1;exact⟨this.1,fun _ e=>by have:=this.2;simp at this;exact this e⟩
        ·split at b1
         ·exact⟨(Og (by omega) b1).1,fun e=>by omega⟩
         ·exact⟨b1,fun e=>by omega⟩
     exact⟨hz.1,hz.2,by rw[if_neg (by omega)];exact b2,a2⟩
def Rb(a b:Em):Prop:=a.lps=b.lps/\a.loc=b.loc/\a.slots=b.slots
theorem A4g(fns:List (Nm×Nat))(gl:List Nm)(l:A6)(n:Nat)(k:Nat->Em->Em)(hk:Il l.kd=true)(h:∀m e,Rb (k m e) e)(e:Em):Rb (An fns gl l n k e) e:=by
 unfold Il at hk;simp only[Bool.or_eq_true,Bool.and_eq_true,decide_eq_true_eq]at hk;have h0:=h 0 e;have hb:∀o ln,Rb (Mk o ln k e) e:=by
  intro o ln;have a1:=h 1 e;have a2:=h 2 ((k 1 e).step o 0 ln);exact⟨a2.1.trans a1.1,a2.2.1.trans a1.2.1,a2.2.2.trans a1.2.2⟩
 by_cases A1:127<=l.kd
 ·by_cases A8:l.kd<=138
  ·rw[X3 A1 A8];exact h0
  ·rw[A0w (by omega)];exact hb _ _
 ·have Cj:l.kd=1\/l.kd=2\/l.kd=3\/l.kd=4\/l.kd=5\/l.kd=6\/l.kd=7\/l.kd=8\/l.kd=9\/l.kd=10\/l.kd=11\/l.kd=12\/l.kd=13\/l.kd=14:=by omega
  rcases Cj with h|h|h|h|h|h|h|h|h|h|h|h|h|h
  ·rw[Yt h];exact⟨rfl,rfl,rfl⟩
  ·rw[A2d h];exact⟨rfl,rfl,rfl⟩
  ·rw[Za h];exact⟨rfl,rfl,rfl⟩
  ·rw[A2s h];exact⟨rfl,rfl,rfl⟩
  ·rw[Z8 h];exact⟨rfl,rfl,rfl⟩
  ·rw[Ym h];exact Ov _ _ _ _ _
  ·rw[Yc h];exact h0
  ·rw[Yh h];exact h0
  ·rw[Z1 h];exact h0
  ·rw[j4 h];exact h0
  ·rw[Yn h];exact h0
  ·rw[Yp h];exact h0
  ·rw[A1e h];exact h0
  ·rw[Z5 h];exact h0
theorem n9(fns:List (Nm×Nat))(gl:List Nm):∀(c:BT A6),Wf 0 c->∀(m:Nat) (e:Em),Rb (em fns gl c m e) e:=by
 intro c;induction c with
 | nil=>intro _ m e;exact⟨rfl,rfl,rfl⟩
 | node x y l c r Dm Cw=>
  intro hw m e;obtain⟨w1,w2⟩:=hw;have hx:Il l.kd=true/\Wf 0 c:=by
   rcases w2 with⟨_,h1,h2⟩|⟨h1,_⟩|⟨h1,_⟩|⟨h1,_⟩|⟨h1,_⟩|⟨h1,_⟩|⟨h1,_⟩
   ·exact⟨h1,h2⟩
   all_goals omega
  have hN:=A4g fns gl l (Ar c) (em fns gl c) hx.1 (fun m e=>Dm hx.2 m e) e;rw[em];split
  ·exact Cw w1 _ _
  ·split
   ·exact hN
   ·have:=Cw w1 0 (An fns gl l (Ar c) (em fns gl c) e);exact⟨this.1.trans hN.1,this.2.1.trans hN.2.1,this.2.2.trans hN.2.2⟩
theorem Na(fns:List (Nm×Nat))(gl:List Nm)(l:A6)(c:BT A6)(hk:Il l.kd=true)(hw:Wf 0 c)(e:Em):Rb (An fns gl l (Ar c) (em fns gl c) e) e:=n9 fns gl (nd l c) ⟨trivial,.inl ⟨.inl rfl,hk,hw⟩⟩ 0 e
theorem A07(fns:List (Nm×Nat))(gl:List Nm)(l:A6)(n:Nat)(k:Nat->Em->Em)(h:∀m e,e.loc.length<=(k m e).loc.length)(e:Em):e.loc.length<=(An fns gl l n k e).loc.length:=by
 have h0:=h 0 e;unfold An;split;all_goals try (first|exact Nat.le_refl _|exact h0)
 ·rw[(Ov _ _ _ _ _).2.1];exact Nat.le_refl _
 ·show _<=((k 0 e).loc++[l.s]).length;simp;omega
 ·unfold Ld;have a1:=h 1 e;have a2:(k 1 e).loc.length<=(k 2 ((k 1 e).step 8 0 l.line)).loc.length:=h 2 ((k 1 e).step 8 0 l.line);show _<=(if n=3 then _ else _:Em).loc.length;split
  ·have a3:(k 2 ((k 1 e).step 8 0 l.line)).loc.length<=_:=h 3 (((k 2 ((k 1 e).step 8 0 l.line)).step 6 0 0).land (k 1 e).st.length);omega
  ·show _<=(k 2 ((k 1 e).step 8 0 l.line)).loc.length;omega
 ·unfold Lr;show _<=(Em.Hj _ _).loc.length;rw[Wq];have a1:e.loc.length<=(k 1 e.open').loc.length:=h 1 e.open';have a2:(k 1 e.open').loc.length<=(k 2 ((k 1 e.open').step 7 0 l.line)).loc.length:=h 2 ((k 1 e.open').step 7 0 l.line);show _<=(k 2 ((k 1 e.open').step 7 0 l.line)).loc.length;omega
 ·split
  ·exact Nat.le_refl _
  ·exact h0
 ·rw[(Tg e).2];exact Nat.le_refl _
 ·rw[(Te e).2];exact Nat.le_refl _
 ·rw[(Ov _ _ _ _ _).2.1];exact h0
 ·show _<=((k 0 e).loc.take e.loc.length).length;simp;omega
 ·show _<=((k 0 e).loc.take e.loc.length).length;simp;omega
 ·split
  ·unfold Mk;have a1:=h 1 e;have a2:(k 1 e).loc.length<=(k 2 ((k 1 e).step (binOp (l.kd-100)) 0 l.line)).loc.length:=h 2 ((k 1 e).step (binOp (l.kd-100)) 0 l.line);show _<=(k 2 ((k 1 e).step (binOp (l.kd-100)) 0 l.line)).loc.length;omega
  ·exact h0
theorem Ana(fns:List (Nm×Nat))(gl:List Nm):∀(c:BT A6) (m:Nat) (e:Em),e.loc.length<=(em fns gl c m e).loc.length:=by
 intro c;induction c with
 | nil=>intro m e;exact Nat.le_refl _
 | node x y l c r Dm Cw=>
  intro m e;rw[em];split
  ·exact Cw _ _
  ·split
   ·exact A07 _ _ _ _ _ Dm e
   ·exact Nat.le_trans (A07 fns gl l (Ar c) _ Dm e) (Cw _ _)
def Dd(e:Em):Prop:=∀x∈e.lps,x.2.length<=e.st.length/\∀j∈x.2,j<e.st.length
theorem Dd.up{e e':Em}(h:Dd e)(hl:e'.lps=e.lps)(hs:e.st.length<=e'.st.length):Dd e':=by
 intro x hx;rw[hl]at hx;exact⟨Nat.le_trans (h x hx).1 hs,fun j hj=>Nat.lt_of_lt_of_le ((h x hx).2 j hj) hs⟩
theorem Dd.step{e:Em}(h:Dd e)(o:Nat)(a:Int)(ln:Nat):Dd (e.step o a ln):=h.up rfl (by rw[Dq];omega)
theorem Dd.J2{e:Em}(h:Dd e)(v:PV):Dd (e.J2 v):=h.up rfl (by rw[Wd];omega)
theorem Dd.land{e:Em}(h:Dd e)(j:Nat):Dd (e.land j):=h.up rfl (by rw[Jt];exact Nat.le_refl _)
theorem Dd.Hj{e:Em}(h:Dd e)(l:List Nat):Dd (e.Hj l):=h.up (Un l e) (by rw[Rm];exact Nat.le_refl _)
theorem Dd.var{e:Em}(h:Dd e)(gl:List Nm)(s:Nm)(a b:Nat):Dd (e.var gl s a b):=by
 unfold Em.var;split
 ·exact h.step _ _ _
 ·split
  ·exact h.step _ _ _
  ·exact h
theorem Dd.Kz{e:Em}(h:Dd e):Dd e.Kz:=by
 unfold Em.Kz;split
 ·exact h
 ·rename_i s bs r hq;intro x hx;simp only[List.mem_cons]at hx;rcases hx with rfl|hx
  ·have:=h (s,bs) (by rw[hq];simp);simp only at this;refine⟨by simp;omega,fun j hj=>?_⟩;simp only[List.mem_append,List.mem_singleton]at hj;simp only[List.length_append,List.length_singleton];rcases hj with hj|hj
   ·have:=this.2 j hj;omega
   ·omega
  ·have:=h x (by rw[hq];simp[hx]);refine⟨by simp;omega,fun j hj=>?_⟩;have:=this.2 j hj;simp;omega
theorem Dd.cnt{e:Em}(h:Dd e):Dd e.cnt:=by
 unfold Em.cnt;split
 ·exact h
 ·exact h.step _ _ _
theorem Dd.open'{e:Em}(h:Dd e):Dd e.open':=by
 intro x hx;simp only[Em.open',List.mem_cons]at hx;rcases hx with rfl|hx
 ·exact⟨Nat.zero_le _,fun j hj=>by cases hj⟩
 ·exact h x hx
theorem Dd.close{e:Em}(h:Dd e):Dd e.close:=fun x hx=>h x (List.mem_of_mem_tail hx)
theorem Dd.cut{e:Em}(h:Dd e)(n:Nat):Dd (e.cut n):=h
theorem l6(fns:List (Nm×Nat))(gl:List Nm)(l:A6)(n:Nat)(k:Nat->Em->Em)(h:∀m e,Dd e->Dd (k m e))(e:Em)(he:Dd e):Dd (An fns gl l n k e):=by
 have h0:=h 0 e he;unfold An;split;all_goals try (first|exact he.J2 _|exact h0|exact h0.step _ _ _|exact h0.cut _)
 ·exact he.var _ _ _ _
 ·unfold Ld;refine Dd.land ?_ _;split
  ·exact h _ _ ((((h _ _ ((h _ _ he).step _ _ _)).step _ _ _).land _))
  ·exact((h _ _ ((h _ _ he).step _ _ _)).step _ _ _).land _
 ·unfold Lr;exact(((((h _ _ ((h _ _ he.open').step _ _ _)).step _ _ _).land _).Hj _).close)
 ·split
  ·exact he.step _ _ _
  ·exact h0.step _ _ _
 ·exact he.Kz
 ·exact he.cnt
 ·exact h0.var _ _ _ _
 ·split
  ·unfold Mk;exact((h _ _ ((h _ _ he).step _ _ _)).step _ _ _).land _
  ·exact h0.step _ _ _
theorem Tn(fns:List (Nm×Nat))(gl:List Nm):∀(c:BT A6) (m:Nat) (e:Em),Dd e->Dd (em fns gl c m e):=by
 intro c;induction c with
 | nil=>intro m e h;exact h
 | node x y l c r Dm Cw=>
  intro m e h;rw[em];split
  ·exact Cw _ _ h
  ·split
   ·exact l6 _ _ _ _ _ Dm e h
   ·exact Cw _ _ (l6 fns gl l (Ar c) _ Dm e h)
theorem Rl(fns:List (Nm×Nat))(gl:List Nm)(l:A6)(c:BT A6)(e:Em)(h:Dd e):Dd (An fns gl l (Ar c) (em fns gl c) e):=Tn fns gl (nd l c) 0 e h
theorem A8e:∀(a b:List Nat) (e:Em),e.Hj (a++b)=(e.Hj a).Hj b:=by
 intro a;induction a with
 | nil=>intro b e;rfl
 | cons x r ih=>intro b e;exact ih b (e.land x)
theorem Ab4(bs:List Nat)(i:Nat)(h:i<bs.length)(e:Em):e.Hj (bs.take (i+1))=(e.Hj (bs.take i)).land bs[i]:=by
 rw[List.take_succ_eq_append_getElem h,A8e];rfl
def Nb:BT A6->Prop
 | .nil=>True
 | .node _ _ l c r=>(if l.kd=20 then Lp c 0 else Lp (nd l c) 0)/\Nb r
theorem Af3:∀(ps:List (Nat×Nm)) (cur:List Nm) (f:Cn),(Iv ps cur f).2.1=0->f.1=0:=by
 intro ps;induction ps with
 | nil=>intro cur f h;exact h
 | cons p r ih=>
  intro cur f h;rw[Iv]at h;exact(Og (by omega) (ih _ _ h)).1
theorem A3y(fns:List (Nm×Nat)):∀(c:BT A6) (seen cur:List Nm) (f:Cn),(Ez fns c seen cur f).1=0->f.1=0/\Nb c:=by
 intro c;induction c with
 | nil=>intro seen cur f h;exact⟨h,trivial⟩
 | node x y l c r Dm Cw=>
  intro seen cur f h;rw[Ez]at h;by_cases h20:l.kd=20
  ·rw[if_pos h20]at h;obtain⟨a1,a2⟩:=Cw _ _ _ h;obtain⟨b1,b2⟩:=Xy fns c _ _ _ _ _ a1;have b3:=Af3 _ _ _ b1;exact⟨(Og (by omega) b3).1,by rw[if_pos h20];exact b2,a2⟩
  ·rw[if_neg h20]at h;obtain⟨a1,a2⟩:=Cw _ _ _ h;obtain⟨b1,b2⟩:=Xy fns (.node x y l c .nil) _ _ _ _ _ a1;exact⟨b1,by rw[if_neg h20];exact⟨b2.1,b2.2.1,trivial⟩,a2⟩
def Ho(l:List UInt8):Cn×Option (BT A6):=
 if 2000<l.length then((1,0),none)
 else match lex (l.length+1) l 1 false with
  | .inl n=>((2,n),none)
  | .inr ts=>
   match Af 100000 10 0 .nil ⟨ts,0⟩ with
   | none=>((0,0),none)
   | some r=>
    if r.2.bad≠0 then((2,r.2.bad),none)
    else if nest ts 0≠0 then((1,nest ts 0),none)
    else if(Ez (Cs r.1) r.1 [] [] (0,0)).1≠0 then(Ez (Cs r.1) r.1 [] [] (0,0),none)
    else((0,0),some r.1)
def P9(l:List UInt8):Prop:=∀ts,lex (l.length+1) l 1 false=.inr ts->∃r,Af 100000 10 0 .nil ⟨ts,0⟩=some r/\(r.2.bad=0->bsize r.1<=4002)
theorem A1o(fns:List (Nm×Nat))(gl:List Nm):∀(c:BT A6),Wf 2 c\/Wf 3 c->∀(m:Nat) (e:Em),e.loc=[]->(em fns gl c m e).loc=[]:=by
 intro c;induction c with
 | nil=>intro _ m e h;exact h
 | node x y l c r Dm Cw=>
  intro hw m e he;have hr:Wf 2 r\/Wf 3 r:=hw.imp (fun h=>h.1) (fun h=>h.1);have hx:(Il l.kd=true/\Wf 0 c)\/l.kd=31\/l.kd=32:=by
   rcases hw with h|h
   ·rcases h.2 with⟨_,h1,h2⟩|⟨_,h1,_⟩|⟨h1,_⟩|⟨h1,_⟩|⟨h1,_⟩|⟨h1,_⟩|⟨h1,_⟩
    ·exact .inl ⟨h1,h2⟩
    ·exact .inr (.inl h1)
    all_goals omega
   ·rcases h.2 with⟨_,h1,h2⟩|⟨h1,_⟩|⟨_,h1,_⟩|⟨h1,_⟩|⟨h1,_⟩|⟨h1,_⟩|⟨h1,_⟩
    ·exact .inl ⟨h1,h2⟩
    ·omega
    ·exact .inr (.inr h1)
    all_goals omega
  have hN:∀e:Em,e.loc=[]->(An fns gl l (Ar c) (em fns gl c) e).loc=[]:=by
   intro e he;rcases hx with⟨h1,h2⟩|h1|h1
   ·rw[(Na fns gl l c h1 h2 e).2.1];exact he
   ·rw[Ta h1,he];rfl
   ·rw[A1z h1,he];rfl
  rw[em];split
  ·exact Cw hr _ _ he
  ·split
   ·exact hN e he
   ·exact Cw hr _ _ (hN e he)
theorem Agr(fns:List (Nm×Nat))(gl:List Nm)(l:A6)(c:BT A6)(hw:Wf 1 (nd l c))(h21:l.kd≠21)(e:Em)(he:e.loc=[])(hl:e.lps=[]):∃slots st,An fns gl l (Ar c) (em fns gl c) e=⟨[],slots,st,[]⟩:=by
 have h1:(An fns gl l (Ar c) (em fns gl c) e).lps=[]:=by
  have:=A2n fns gl l c e;rw[hl]at this;exact List.length_eq_zero_iff.1 this
 have h2:(An fns gl l (Ar c) (em fns gl c) e).loc=[]:=by
  rcases hw.2 with⟨h0,_⟩|⟨h0,_⟩|⟨h0,_⟩|⟨_,hk,hw⟩|⟨_,hk,hw⟩|⟨_,hk,hw⟩|⟨h0,_⟩
  ·omega
  ·omega
  ·omega
  ·rw[Yo hk];unfold Ld;have k:=A1o fns gl c (.inl hw);show(if Ar c=3 then _ else _:Em).loc=[];split
   ·exact k 3 _ (k 2 _ (k 1 e he))
   ·exact k 2 _ (k 1 e he)
  ·rw[A1x hk];unfold Lr;have k:=A1o fns gl c (.inr hw);show(Em.Hj _ _).loc=[];rw[Wq];exact k 2 _ (k 1 _ he)
  ·have k:(em fns gl c 0 e).loc=[]:=by rw[(n9 fns gl c hw 0 e).2.1];exact he
   unfold Oo at hk;simp only[Bool.or_eq_true,Bool.and_eq_true,decide_eq_true_eq,beq_iff_eq]at hk;have hc:l.kd=24\/l.kd=25\/l.kd=26\/l.kd=27\/l.kd=28\/l.kd=29\/l.kd=30:=by omega
   rcases hc with h|h|h|h|h|h|h
   ·rw[Yr h];split
    ·exact he
    ·exact k
   ·rw[Xu h,(Tg e).2];exact he
   ·rw[X5 h,(Te e).2];exact he
   ·rw[A1f h];exact k
   ·rw[A0t h,(Ov _ _ _ _ _).2.1];exact k
   ·rw[Zi h];exact k
   ·rw[l8 h];exact k
  ·omega
 generalize An fns gl l (Ar c) (em fns gl c) e=q at *;obtain⟨a,b,c,d⟩:=q;simp only at h1 h2;subst h1 h2;exact⟨b,c,rfl⟩
end
end Go.Proofs.YtjdlndhfaaolaaaGreatDoor
