import Derived.Test.YtjdlndhfaaolaaaGreatDoorR11
set_option maxHeartbeats 20000000
namespace Go.Proofs.YtjdlndhfaaolaaaGreatDoor
section
open Go.RowKit
open Go.Deep (BT)
variable {b tb cap te:Nat}{xs:List (Tk×List UInt8)}
theorem RS.heap{w w':World}{s:PS}(h:RS b tb cap te xs w s)(e:w'.heap=w.heap):RS b tb cap te xs w' s:=by
 obtain⟨pl,h⟩:=h;exact⟨pl,h.of_heap (by rw[e]) (by rw[e])⟩
theorem Dc.drewN{w:World}{s:PS}{pl:Nat}(h:Dc b tb cap te xs w s pl)(n:Nat):Dc b tb cap te xs (w.drewN n) s pl:=h.of_heap rfl rfl
theorem A1.drewN{b:Nat}{x w:World}(h:A1 b x w)(n:Nat):A1 b x (w.drewN n):=⟨h.os,h.tape,h.output,h.size,h.block⟩
theorem RS.drewN{w:World}{s:PS}(h:RS b tb cap te xs w s)(n:Nat):RS b tb cap te xs (w.drewN n) s:=h.heap rfl
theorem Nw(w:World)(g:Nat)(u0 u1 u2 u3 u4 u5:Value):((((((w.setCell ⟨g,0,none⟩ u0).setCell ⟨g,1,none⟩ u1).setCell ⟨g,2,none⟩ u2).setCell ⟨g,3,none⟩ u3).setCell ⟨g,4,none⟩ u4).setCell ⟨g,5,none⟩ u5).heap.size=w.heap.size:=by
 simp[World.setCell]
theorem Gc{w W:World}{r:BT A2×PS}{I S:List UInt8}{ln nn:Int}{va:Option Addr}{vn vc:Nat}{pa:Option Addr}{pn pc:Nat}
  (lb:b<w.heap.size) (lt:tb<w.heap.size) (hrs:RS b tb cap te xs W r.2) (hO:A1 b w W)
  (hrep:r.2.bad=0->A8 r.1=1/\Ak (fun g=>w.heap.size<g) W r.1 (Ax I S ln nn va vn vc pa pn pc).toList) :
  Dn b tb cap te xs w r (.returned (.agg #[.string ⟨I.toArray⟩,.int .i64 ln,.string ⟨S.toArray⟩,.int .i64 nn,.slice va vn vc,.slice pa pn pc]))
   ((((((W.setCell ⟨w.heap.size,0,none⟩ (.string ⟨I.toArray⟩)).setCell ⟨w.heap.size,1,none⟩ (.int .i64 ln)).setCell ⟨w.heap.size,2,none⟩ (.string ⟨S.toArray⟩)).setCell ⟨w.heap.size,3,none⟩ (.int .i64 nn)).setCell ⟨w.heap.size,4,none⟩ (.slice va vn vc)).setCell ⟨w.heap.size,5,none⟩ (.slice pa pn pc)):=by
 unfold Dn;refine⟨I,S,ln,nn,va,vn,vc,pa,pn,pc,rfl,hrs.Od (by omega) (by omega) _ _ _ _ _ _,A1.Of hO (Nat.le_refl _) _ _ _ _ _ _,fun hb=>⟨(hrep hb).1,?_⟩⟩;exact Ak.keep (fun g hg _=>⟨Nv (by omega) _ _ _ _ _ _,by omega⟩) _ _ (hrep hb).2
theorem Ak.one{D:Nat->Prop}{w:World}(lab:A2)(ch:BT A2)(I S:List UInt8)(ln nn:Int)(va:Option Addr)(vn vc:Nat)(pa:Option Addr)(pn pc:Nat)(c1:List Value)(h8:lab.kd≠8)(h20:lab.kd≠20)
  (hI:I=Dy lab.kd) (h1:Pn lab.kd=true->ln=lab.line) (h2:Hv lab.kd=true->S=lab.s) (h3:lab.kd=1->nn=lab.n) (h4:C1 D w 77 6 (.slice va vn vc) (A8 ch) c1) (h5:Ak D w ch c1) (h12:lab.kd=12->vc=vn:=by first|exact fun _=>rfl|(intro h;cases h)) :
  Ak D w (nd lab ch) (Ax I S ln nn va vn vc pa pn pc).toList:=by
 unfold nd;rw[Ak,if_neg h8];subst hI;exact⟨ln,nn,S,_,_,c1,[],⟨_,_,_,_,_,_,rfl,rfl⟩,rfl,h1,h2,h3,fun e=>⟨va,vn,by rw[h12 e]⟩,h4,h5,fun e=>absurd e h20,rfl⟩
theorem M7(D:Nat->Prop)(w:World)(e:TypeId)(size:Nat):C1 D w e size (.slice none 0 0) 0 []:=⟨World.ownsRow_nil _ _ _ _,fun g hg=>by simp[Value.ownBlock]at hg⟩
theorem Pq{D:Nat->Prop}{w:World}{g:Nat}{cs:Array Value}{e:TypeId}{n size:Nat}(h:w.heap[g]?=some (.cells cs e (0,0)))(hs:cs.size=n*size)(hn:n<=100000)(hD:D g):C1 D w e size (.slice (some ⟨g,0,none⟩) n n) n cs.toList:=by
 refine⟨⟨by simpa using hs,.inr ⟨g,n,cs,rfl,Nat.zero_le _,h,Nat.le_refl _,by simp only[maxLen];omega,hs,?_⟩⟩,fun k hk=>?_⟩
 ·rw[←hs];exact List.take_of_length_le (by simp)
 ·simp only[Value.ownBlock,Option.some.injEq]at hk;rw[←hk];exact hD
theorem A07{w w4:World}{x:BT A2×PS}{kd line:Nat}{I I4 S4:List UInt8}{J9 Jq:Int}{D5:Option Addr}{D7 D6:Nat}{K9:Option Addr}{Ke Kb:Nat}
  (lb:b<w.heap.size) (lt:tb<w.heap.size) (lz:w.heap.size<w4.heap.size) (hkd:kd=13\/kd=14) (hI:I=Dy kd) (Ch:RS b tb cap te xs w4 x.2) (hO4:A1 b w w4)
  (hB:x.2.bad=0->A8 x.1=1/\Ak (fun g=>w.heap.size<g) w4 x.1 (Ax I4 S4 J9 Jq D5 D7 D6 K9 Ke Kb).toList) :
  Dn b tb cap te xs w (nd (Ao kd line) x.1,x.2) (.returned (.agg #[.string ⟨I.toArray⟩,.int .i64 line,.string ⟨#[]⟩,.int .i64 0,.slice (some ⟨w4.heap.size,0,none⟩) 1 1,.slice none 0 0]))
   (((((((w4.setCell ⟨w.heap.size,0,none⟩ (.string ⟨I.toArray⟩)).setCell ⟨w.heap.size,1,none⟩ (.int .i64 line)).setCell ⟨w.heap.size,2,none⟩ (.string ⟨#[]⟩)).setCell ⟨w.heap.size,3,none⟩ (.int .i64 0)).setCell ⟨w.heap.size,4,none⟩ (.slice (some ⟨w4.heap.size,0,none⟩) 1 1)).setCell ⟨w.heap.size,5,none⟩ (.slice none 0 0)).alloc
    (.cells #[.string ⟨I4.toArray⟩,.int .i64 J9,.string ⟨S4.toArray⟩,.int .i64 Jq,.slice D5 D7 D6,.slice K9 Ke Kb] 77)):=by
 unfold Dn;refine⟨I,[],line,0,some ⟨w4.heap.size,0,none⟩,1,1,none,0,0,rfl,(Ch.Od (by omega) (by omega) _ _ _ _ _ _).alloc _,(A1.Of hO4 (Nat.le_refl _) _ _ _ _ _ _).alloc _,fun hb=>⟨rfl,?_⟩⟩;have hk8:kd≠8/\kd≠20/\kd≠1/\Hv kd=false:=by rcases hkd with e|e <;> subst e <;> decide
 refine Ak.one (Ao kd line) x.1 I [] line 0 (some ⟨w4.heap.size,0,none⟩) 1 1 none 0 0 (Ax I4 S4 J9 Jq D5 D7 D6 K9 Ke Kb).toList hk8.1 hk8.2.1 hI (fun _=>rfl) (fun h=>absurd h (by simp only[Ao];rw[hk8.2.2.2];decide)) (fun h=>absurd h hk8.2.2.1) ?_ ?_
 ·rw[(hB hb).1];refine Pq ?_ rfl (by omega) (by omega);have:=heap_alloc_new ((((((w4.setCell ⟨w.heap.size,0,none⟩ (.string ⟨I.toArray⟩)).setCell ⟨w.heap.size,1,none⟩ (.int .i64 line)).setCell ⟨w.heap.size,2,none⟩ (.string ⟨#[]⟩)).setCell ⟨w.heap.size,3,none⟩ (.int .i64 0)).setCell ⟨w.heap.size,4,none⟩ (.slice (some ⟨w4.heap.size,0,none⟩) 1 1)).setCell ⟨w.heap.size,5,none⟩ (.slice none 0 0))
   (.cells #[.string ⟨I4.toArray⟩,.int .i64 J9,.string ⟨S4.toArray⟩,.int .i64 Jq,.slice D5 D7 D6,.slice K9 Ke Kb] 77)
  rw[Nw]at this;exact this
 ·refine Ak.keep (fun g hg hl=>⟨?_,by omega⟩) _ _ (hB hb).2;rw[Below.heap_alloc _ _ _ (by rw[Nw];exact hl)];exact Nv (by omega) _ _ _ _ _ _
theorem Ad3{D:Nat->Prop}{w6:World}{X kd line:Nat}{acc y:BT A2}{I I1 S1 I4 S4:List UInt8}{ln nn J9 Jq:Int}{va D5:Option Addr}{vn vc D7 D6:Nat}{pa K9:Option Addr}{pn pc Ke Kb:Nat}{u0 u1 u2 u3 u4 u5:Value}
  (h8:kd≠8/\kd≠20/\kd≠1/\Hv kd=false) (hI:I=Dy kd) (hD:∀g,D g->g≠X) (hN:D w6.heap.size)
  (hA:A8 acc=1/\Ak D w6 acc (Ax I1 S1 ln nn va vn vc pa pn pc).toList) (hB:A8 y=1/\Ak D w6 y (Ax I4 S4 J9 Jq D5 D7 D6 K9 Ke Kb).toList) :
  Ak D (((((((w6.setCell ⟨X,0,none⟩ u0).setCell ⟨X,1,none⟩ u1).setCell ⟨X,2,none⟩ u2).setCell ⟨X,3,none⟩ u3).setCell ⟨X,4,none⟩ u4).setCell ⟨X,5,none⟩ u5).alloc
    (.cells #[.string ⟨I1.toArray⟩,.int .i64 ln,.string ⟨S1.toArray⟩,.int .i64 nn,.slice va vn vc,.slice pa pn pc,.string ⟨I4.toArray⟩,.int .i64 J9,.string ⟨S4.toArray⟩,.int .i64 Jq,.slice D5 D7 D6,.slice K9 Ke Kb] 77))
   (nd (Ao kd line) (B6 acc y)) (Ax I [] line 0 (some ⟨w6.heap.size,0,none⟩) 2 2 none 0 0).toList:=by
 refine Ak.one (Ao kd line) (B6 acc y) I [] line 0 (some ⟨w6.heap.size,0,none⟩) 2 2 none 0 0 ((Ax I1 S1 ln nn va vn vc pa pn pc).toList++(Ax I4 S4 J9 Jq D5 D7 D6 K9 Ke Kb).toList) h8.1 h8.2.1 hI (fun _=>rfl) (fun h=>absurd h (by simp only[Ao];rw[h8.2.2.2];decide)) (fun h=>absurd h h8.2.2.1) ?_ ?_
 ·rw[Mr,hA.1,hB.1];refine Pq ?_ rfl (by omega) hN;have:=heap_alloc_new ((((((w6.setCell ⟨X,0,none⟩ u0).setCell ⟨X,1,none⟩ u1).setCell ⟨X,2,none⟩ u2).setCell ⟨X,3,none⟩ u3).setCell ⟨X,4,none⟩ u4).setCell ⟨X,5,none⟩ u5)
   (.cells #[.string ⟨I1.toArray⟩,.int .i64 ln,.string ⟨S1.toArray⟩,.int .i64 nn,.slice va vn vc,.slice pa pn pc,.string ⟨I4.toArray⟩,.int .i64 J9,.string ⟨S4.toArray⟩,.int .i64 Jq,.slice D5 D7 D6,.slice K9 Ke Kb] 77)
  rw[Nw]at this;exact this
 ·have hk:∀g,D g->g<w6.heap.size->(((((((w6.setCell ⟨X,0,none⟩ u0).setCell ⟨X,1,none⟩ u1).setCell ⟨X,2,none⟩ u2).setCell ⟨X,3,none⟩ u3).setCell ⟨X,4,none⟩ u4).setCell ⟨X,5,none⟩ u5).alloc
    (.cells #[.string ⟨I1.toArray⟩,.int .i64 ln,.string ⟨S1.toArray⟩,.int .i64 nn,.slice va vn vc,.slice pa pn pc,.string ⟨I4.toArray⟩,.int .i64 J9,.string ⟨S4.toArray⟩,.int .i64 Jq,.slice D5 D7 D6,.slice K9 Ke Kb] 77)).heap[g]?=w6.heap[g]?/\D g:=fun g hg hl=>
   ⟨by rw[Below.heap_alloc _ _ _ (by rw[Nw];exact hl)];exact Nv (hD g hg) _ _ _ _ _ _,hg⟩
  exact Ak.app _ _ _ _ (Ak.keep hk _ _ hA.2) (Ak.keep hk _ _ hB.2)
theorem Rt{w W:World}{st:PS}{lab:A2}{I S:List UInt8}{ln nn:Int}{o1 o2:Obj}
  (lb:b<w.heap.size) (lt:tb<w.heap.size) (h8:lab.kd≠8) (h20:lab.kd≠20) (hI:I=Dy lab.kd) (hl:ln=lab.line) (hS:Hv lab.kd=true->S=lab.s) (hn:lab.kd=1->nn=lab.n) (hrs:RS b tb cap te xs W st) (hO:A1 b w W) :
  Dn b tb cap te xs w (nd lab .nil,st) (.returned (.agg #[.string ⟨I.toArray⟩,.int .i64 ln,.string ⟨S.toArray⟩,.int .i64 nn,.slice none 0 0,.slice none 0 0]))
   ((((((((W.setCell ⟨w.heap.size,0,none⟩ (.string ⟨I.toArray⟩)).setCell ⟨w.heap.size,1,none⟩ (.int .i64 ln)).setCell ⟨w.heap.size,2,none⟩ (.string ⟨S.toArray⟩)).setCell ⟨w.heap.size,3,none⟩ (.int .i64 nn)).setCell ⟨w.heap.size,4,none⟩ (.slice none 0 0)).setCell ⟨w.heap.size,5,none⟩ (.slice none 0 0)).alloc o1).alloc o2):=by
 unfold Dn;refine⟨I,S,ln,nn,none,0,0,none,0,0,rfl,((hrs.Od (by omega) (by omega) _ _ _ _ _ _).alloc _).alloc _,((A1.Of hO (Nat.le_refl _) _ _ _ _ _ _).alloc _).alloc _,fun _=>⟨rfl,?_⟩⟩;exact Ak.one lab .nil I S ln nn none 0 0 none 0 0 [] h8 h20 hI (fun _=>hl) hS hn (M7 _ _ _ _) rfl
end
end Go.Proofs.YtjdlndhfaaolaaaGreatDoor
