import Derived.Deep.LoopGhost
import Derived.Test.YtjdlndhfaaolaaaGreatDoorR12
set_option maxHeartbeats 20000000
namespace Go.Proofs.YtjdlndhfaaolaaaGreatDoor
section
set_option maxRecDepth 100000
open Go.RowKit
open Go.Deep (BT)
def Ts(a:Nat):List UInt8:=
 if a=0 then [32,124,124,32] else if a=1 then [32,38,38,32] else if a=2 then [32,61,61,32,33,61,32] else if a=3 then [32,60,32,60,61,32,62,32,62,61,32]
 else if a=4 then [32,43,32,45,32] else [32,42,32,47,32,37,32]
theorem Aa7:∀k,k<=40->18<=k->∀a,a<6->Ic (spell k) (Ts a)=(rowOf k==a+1):=by decide +kernel
theorem Aaa:∀k,k<18->rowOf k=0:=by decide +kernel
theorem Vy(k:Nat)(h:k<=40):(Bz k !=115)=decide (k<18):=by
 revert h;revert k;decide +kernel
theorem n7:∀a,a<6->Tt[a]?=some (.string ⟨(Ts a).toArray⟩):=by
 intro a ha;match a,ha with
 | 0,_=>rfl
 | 1,_=>rfl
 | 2,_=>rfl
 | 3,_=>rfl
 | 4,_=>rfl
 | 5,_=>rfl
theorem A5k{b tb cap te:Nat}{xs:List (Tk×List UInt8)}{n:Nat}(ih:G5 b tb cap te xs n)(w:World)(s:PS)(q:Int)(r:BT A2×PS)(hq:q=6)(hs:RS b tb cap te xs w s)(hp:A7 (n+1) 0 6 .nil s=some r) :
  Calls Tryz.prog 112 #[.pointer (some ⟨b,0,none⟩),.int .i64 q] w (Dn b tb cap te xs w r):=by
 subst hq;have hp':=P4 hp;obtain⟨lb,lt,lne⟩:=hs.lt;have hu:=A0 (fun(w':World) h=>ih.unary w' s r h hp');have HS:=A0 hs;have HIH:=A0 ih;clear hp hp' hs ih;go_enter Tryz.func112,Tryz.ntmps112;go_wp2_with fail
 refine(n9 _).mono ?_;rintro e w' ⟨rfl,rfl⟩;go_wp2_with fail
 refine(hu.out _ ?_).mono ?_
 ·exact(HS.o.alloc _).alloc _
 rintro e w2 ⟨I,S,ln,nn,va,vn,vc,pa,pn,pc,rfl,hr,ho,hrep⟩;have hz:=ho.blk (alloc_old (heap_alloc_new w _)) (by omega);obtain⟨c0,c1,c2,c3,c4,c5,f0,l0⟩:=As hz;have HR:=A0 hr;have HRep:=A0 hrep;have HZ:=A0 hz;clear hr hrep hz;go_wp2;refine bodyPost_ret (v:=.agg #[.string ⟨I.toArray⟩,.int .i64 ln,.string ⟨S.toArray⟩,.int .i64 nn,.slice va vn vc,.slice pa pn pc]) ?_ rfl ?_
 ·simp[results,Tryz.results112,go_sem,c0,c1,c2,c3,c4,c5]
 unfold Dn;refine⟨I,S,ln,nn,va,vn,vc,pa,pn,pc,rfl,?_,?_,?_⟩
 ·exact HR.o.Od (by omega) (by omega) _ _ _ _ _ _
 ·exact A1.Of ((((A1.refl b w).alloc _).alloc _).trans ho) (Nat.le_refl _) _ _ _ _ _ _
 ·intro hbad;refine⟨(HRep.o hbad).1,Ak.keep (fun g hg hl=>⟨?_,?_⟩) _ _ (HRep.o hbad).2⟩
  ·have hne:g≠w.heap.size:=by simp at hg;omega
   exact Nv hne _ _ _ _ _ _
  ·simp at hg;omega
def Sm(b tb cap te:Nat)(xs:List (Tk×List UInt8))(a:Nat)(r:BT A2×PS)(w:World)(xb:Nat)(k:Nat)(wr:World):Prop:=
 ∃(acc:BT A2) (st:PS) (I S:List UInt8) (ln nn:Int) (va:Option Addr) (vn vc:Nat) (pa:Option Addr) (pn pc:Nat),A7 k 1 a acc st=some r/\RS b tb cap te xs wr st/\A1 b w wr/\
  wr.heap[xb]?=some (.cells #[.string ⟨I.toArray⟩,.int .i64 ln,.string ⟨S.toArray⟩,.int .i64 nn,.slice va vn vc,.slice pa pn pc] 77 (0,0))/\
  wr.heap[w.heap.size]?=some (.cells #[.string ⟨#[]⟩,.int .i64 0,.string ⟨#[]⟩,.int .i64 0,.slice none 0 0,.slice none 0 0] 77 (0,0))/\
  wr.heap[w.heap.size+1]?=some (.cells Tt 9 (0,0))/\
  (st.bad=0->A8 acc=1/\Ak (fun g=>w.heap.size<g/\g≠xb) wr acc (Ax I S ln nn va vn vc pa pn pc).toList)
theorem A6f(k:Nat)(h:18<=k)(h':k<=40):spell k=Dy (100+k):=by
 have:∀k,k<=40->18<=k->spell k=Dy (100+k):=by decide +kernel
 exact this k h' h
theorem Sm.bin{b tb cap te:Nat}{xs:List (Tk×List UInt8)}{a:Nat}{r:BT A2×PS}{w w4:World}{xb m k line:Nat}{acc:BT A2}{y:BT A2×PS}{I S I4 S4:List UInt8}{ln nn J9 Jq:Int}{va D5:Option Addr}{vn vc D7 D6:Nat}{pa K9:Option Addr}{pn pc Ke Kb:Nat}{z0 z1 z2 z3 z4 z5:Value}
  (lb:b<w.heap.size) (lt:tb<w.heap.size) (hxb:w.heap.size+1<xb) (h18:18<=k) (h40:k<=40) (hY:A7 m 1 a (nd (Ao (100+k) line) (B6 acc y.1)) y.2=some r) (Ch:RS b tb cap te xs w4 y.2) (hO4:A1 b w w4)
  (It:w4.heap[xb]?=some (.cells #[z0,z1,z2,z3,z4,z5] 77 (0,0)))
  (hZ4:w4.heap[w.heap.size]?=some (.cells #[.string ⟨#[]⟩,.int .i64 0,.string ⟨#[]⟩,.int .i64 0,.slice none 0 0,.slice none 0 0] 77 (0,0)))
  (hRow4:w4.heap[w.heap.size+1]?=some (.cells Tt 9 (0,0)))
  (hA:y.2.bad=0->A8 acc=1/\Ak (fun g=>w.heap.size<g/\g≠xb) w4 acc (Ax I S ln nn va vn vc pa pn pc).toList)
  (hB:y.2.bad=0->A8 y.1=1/\Ak (fun g=>w.heap.size<g/\g≠xb) w4 y.1 (Ax I4 S4 J9 Jq D5 D7 D6 K9 Ke Kb).toList) :
  Sm b tb cap te xs a r w xb m ((((((((w4.setCell ⟨xb,0,none⟩ (.string ⟨(spell k).toArray⟩)).setCell ⟨xb,1,none⟩ (.int .i64 line)).setCell ⟨xb,2,none⟩ (.string ⟨#[]⟩)).setCell ⟨xb,3,none⟩ (.int .i64 0)).setCell ⟨xb,4,none⟩ (.slice (some ⟨w4.heap.size+1,0,none⟩) 2 2)).setCell ⟨xb,5,none⟩ (.slice none 0 0)).alloc
    (.cells #[.string ⟨I4.toArray⟩,.int .i64 J9,.string ⟨S4.toArray⟩,.int .i64 Jq,.slice D5 D7 D6,.slice K9 Ke Kb] 77)).alloc
    (.cells #[.string ⟨I.toArray⟩,.int .i64 ln,.string ⟨S.toArray⟩,.int .i64 nn,.slice va vn vc,.slice pa pn pc,.string ⟨I4.toArray⟩,.int .i64 J9,.string ⟨S4.toArray⟩,.int .i64 Jq,.slice D5 D7 D6,.slice K9 Ke Kb] 77)):=by
 have lX:=A5 It;refine⟨_,y.2,spell k,[],line,0,some ⟨w4.heap.size+1,0,none⟩,2,2,none,0,0,hY,?_,?_,?_,?_,?_,?_⟩
 ·exact((Ch.Od (by omega) (by omega) _ _ _ _ _ _).alloc _).alloc _
 ·exact((A1.Of hO4 (by omega) _ _ _ _ _ _).alloc _).alloc _
 ·exact alloc_old (alloc_old (W6 It _ _ _ _ _ _))
 ·exact alloc_old (alloc_old (Sd hZ4 (by omega) _ _ _ _ _ _))
 ·exact alloc_old (alloc_old (Sd hRow4 (by omega) _ _ _ _ _ _))
 ·intro hb;refine⟨rfl,?_⟩;have hkeep:∀{W:World} {o1 o2:Obj} (g:Nat),(w.heap.size<g/\g≠xb)->g<w4.heap.size->W.heap.size=w4.heap.size->W.heap[g]?=w4.heap[g]?->((W.alloc o1).alloc o2).heap[g]?=w4.heap[g]?/\(w.heap.size<g/\g≠xb):=by
   intro W o1 o2 g hg hl hs he;refine⟨?_,hg⟩;rw[Below.heap_alloc _ _ _ (by simp;omega),Below.heap_alloc _ _ _ (by omega),he]
  refine Ak.one (Ao (100+k) line) (B6 acc y.1) _ _ _ _ _ _ _ _ _ _ ((Ax I S ln nn va vn vc pa pn pc).toList++(Ax I4 S4 J9 Jq D5 D7 D6 K9 Ke Kb).toList) (by simp only[Ao];omega) (by simp only[Ao];omega) (A6f k h18 h40) (fun _=>rfl) (fun h=>?_) (fun h=>?_) ?_ ?_
  ·exfalso;revert h;simp only[Ao,Hv];intro h;simp at h;omega
  ·exfalso;simp only[Ao]at h;omega
  ·rw[Mr,(hA hb).1,(hB hb).1];refine Pq ?_ rfl (by omega) ?_
   ·have:=heap_alloc_new ((((((((w4.setCell ⟨xb,0,none⟩ (.string ⟨(spell k).toArray⟩)).setCell ⟨xb,1,none⟩ (.int .i64 line)).setCell ⟨xb,2,none⟩ (.string ⟨#[]⟩)).setCell ⟨xb,3,none⟩ (.int .i64 0)).setCell ⟨xb,4,none⟩ (.slice (some ⟨w4.heap.size+1,0,none⟩) 2 2)).setCell ⟨xb,5,none⟩ (.slice none 0 0)).alloc
     (.cells #[.string ⟨I4.toArray⟩,.int .i64 J9,.string ⟨S4.toArray⟩,.int .i64 Jq,.slice D5 D7 D6,.slice K9 Ke Kb] 77))) (.cells #[.string ⟨I.toArray⟩,.int .i64 ln,.string ⟨S.toArray⟩,.int .i64 nn,.slice va vn vc,.slice pa pn pc,.string ⟨I4.toArray⟩,.int .i64 J9,.string ⟨S4.toArray⟩,.int .i64 Jq,.slice D5 D7 D6,.slice K9 Ke Kb] 77)
    rw[World.size_alloc,Nw]at this;exact this
   ·omega
  ·refine Ak.app _ _ _ _ (Ak.keep (fun g hg hl=>?_) _ _ (hA hb).2) (Ak.keep (fun g hg hl=>?_) _ _ (hB hb).2)
   ·exact hkeep g hg hl (Nw _ _ _ _ _ _ _ _) (Nv hg.2 _ _ _ _ _ _)
   ·exact hkeep g hg hl (Nw _ _ _ _ _ _ _ _) (Nv hg.2 _ _ _ _ _ _)
theorem A5j{b tb cap te:Nat}{xs:List (Tk×List UInt8)}{n:Nat}(ih:∀m,m<=n->G5 b tb cap te xs m)(w:World)(s:PS)(a:Nat)(q:Int)(r:BT A2×PS)(ha:a<6)(hq:q=a)(hs:RS b tb cap te xs w s)(hp:A7 (n+1) 0 a .nil s=some r) :
  Calls Tryz.prog 112 #[.pointer (some ⟨b,0,none⟩),.int .i64 q] w (Dn b tb cap te xs w r):=by
 subst hq;obtain⟨x,By,Dw⟩:=P3 (by omega) hp;obtain⟨lb,lt,lne⟩:=hs.lt;have hu:=A0 (fun(w':World) h=>(ih n (Nat.le_refl _)).expr w' s (a+1) ((a:Int)+1) x (by omega) (by omega) h By);have HS:=A0 hs;have HIH:=A0 ih;have HP:=A0 Dw;have h6:((a:Int)==6)=false:=by rw[beq_eq_false_iff_ne];omega
 clear hp By Dw hs ih;go_enter Tryz.func112,Tryz.ntmps112;go_wp2_with fail
 refine(n9 _).mono ?_;rintro e w' ⟨rfl,rfl⟩;go_wp2_with fail
 refine(hu.out _ ?_).mono ?_
 ·exact(HS.o.alloc _).alloc _
 rintro e w2 ⟨I,S,ln,nn,va,vn,vc,pa,pn,pc,rfl,hr,ho,hrep⟩;have hO:A1 b w w2:=(((A1.refl b w).alloc _).alloc _).trans ho;have hz:=ho.blk (alloc_old (heap_alloc_new w _)) (by omega);have hrow:=ho.blk (heap_alloc_new (w.alloc _) _) (by simp;omega);have l2:w.heap.size+1<w2.heap.size:=by have:=A5 hrow;simpa using this
 simp only[World.size_alloc]at hrow;have HR:=A0 hr;have HRep:=A0 hrep;have HZ:=A0 hz;have HRow:=A0 hrow;have HO:=A0 hO;clear hr hrep hz hrow hO ho hu;go_wp2;go_loopg [] n (fun k wr=>k<=n/\Sm b tb cap te xs a r w w2.heap.size k wr)
 case atStart=>
  refine⟨Nat.le_refl _,x.1,x.2,I,S,ln,nn,va,vn,vc,pa,pn,pc,HP.o,HR.o.alloc _,HO.o.alloc _,heap_alloc_new w2 _,alloc_old HZ.o,alloc_old HRow.o,fun hb=>⟨(HRep.o hb).1,?_⟩⟩;refine Ak.keep (fun g hg hl=>⟨Below.heap_alloc _ _ _ hl,?_⟩) _ _ (HRep.o hb).2;simp only[World.size_alloc]at hg;omega
 case round=>
  clear HR HRep HZ HRow HO HP;obtain⟨hkn,acc,st,I,S,ln,nn,va,vn,vc,pa,pn,pc,hp,hrs,hO,hX,hZ,hRow,hrep⟩:=hrel;cases gk with
  | zero=>exact absurd hp (Cc _ _ _ _ _)
  | succ m=>
  have Fb:kT st<=40:=by obtain⟨pl,h⟩:=hrs;exact h.N7
  have lX:=A5 hX;have lRow:=A5 hRow;have HRS:=A0 hrs;have HX:=A0 hX;have HZ:=A0 hZ;have HRow:=A0 hRow;have HRep:=A0 hrep;have HO:=A0 hO;by_cases h18:kT st<18
  ·have hrr:=P5 (by rw[Aaa _ h18];omega) hp;have t1:(Bz (kT st) !=115)=true:=by rw[Vy _ Fb];simpa using h18
   have HRR:=A0 hrr;clear hp hrs hX hZ hRow hrep hO hrr Fb;go_wp2_with fail
   refine(Fl HRS.o).mono ?_;rintro e w3 ⟨S3,rfl,hS3,Bq,Ar⟩;obtain⟨c0,c1,c2,c3,c4,c5,f0,l0⟩:=As (Bg Ar HZ.o);obtain⟨d0,d1,d2,d3,d4,d5,f1,l1⟩:=As (Bg Ar HX.o);have Cl:=A0 Bq;have B4:=A0 Ar;clear hS3 Bq Ar;go_wp2;go_quiet (fail)
   go_wp2;refine bodyPost_ret (v:=.agg #[.string ⟨I.toArray⟩,.int .i64 ln,.string ⟨S.toArray⟩,.int .i64 nn,.slice va vn vc,.slice pa pn pc]) ?_ rfl ?_
   ·simp[results,Tryz.results112,go_sem,c0,c1,c2,c3,c4,c5,l0]
   rw[HRR.o];refine Gc lb lt ?_ ?_ (fun hb=>⟨(HRep.o hb).1,?_⟩)
   ·exact(Cl.o.alloc _).drewN _
   ·exact((HO.o.trans (Below.only B4.o)).alloc _).drewN _
   ·refine Ak.keep (fun g hg hl=>⟨?_,hg.1⟩) _ _ (HRep.o hb).2;exact(Below.heap_alloc _ _ _ (Nat.lt_of_lt_of_le hl B4.o.size)).trans (B4.o.block g hl)
  ·have h18':18<=kT st:=by omega
   have t1:(Bz (kT st) !=115)=false:=by rw[Vy _ Fb];simpa using h18
   have hra:=Aa7 (kT st) Fb h18' a ha;have HSp:Hid (spell (kT st)=Eu (A6 st)):=by
    show _=_;unfold Eu;rw[if_neg (by unfold kT at h18';omega)];rfl
   have Im:Hid ((A6 st).k≠2):=by show _≠_;unfold kT at h18';omega
   have hlen:(spell (kT st)).length<=100000:=by
    have:∀k,k<=40->(spell k).length<=100000:=by decide +kernel
    exact this _ Fb
   have hlen2:(Ts a).length<=100000:=by
    have:∀k,k<6->(Ts k).length<=100000:=by decide +kernel
    exact this _ ha
   have D8:Hid (kT st≠0):=by show _≠_;omega
   have HK40:=A0 Fb;have Br:Hid (st.bad=0):=by obtain⟨pl,h⟩:=hrs;exact(h.E7 D8.o).1
   cases hrow:rowOf (kT st)==a+1
   ·have hrr:=P5 (by simpa using hrow) hp;have HRR:=A0 hrr;have hra':=hra.trans hrow;clear hp hrs hX hZ hRow hrep hO hrr Fb hra hrow h18';go_wp2_with fail
    refine(Fl HRS.o).mono ?_;rintro e w3 ⟨S3,rfl,hS3,Bq,Ar⟩;have hS4:=(hS3 Im.o).trans HSp.o.symm;subst hS4;obtain⟨c0,c1,c2,c3,c4,c5,f0,l0⟩:=As (Bg Ar HZ.o);obtain⟨d0,d1,d2,d3,d4,d5,f1,l1⟩:=As (Bg Ar HX.o);have rc:=Ac (Bg Ar HRow.o) a _ (n7 a ha);have lrow3:=A5 (Bg Ar HRow.o);have Cl:=A0 Bq;have B4:=A0 Ar;clear hS3 Bq Ar;go_wp2;go_quiet ((go_at_call 104;exact Calls.quiet_of_same (La _ _ _ hlen hlen2)))
    go_wp2;refine bodyPost_ret (v:=.agg #[.string ⟨I.toArray⟩,.int .i64 ln,.string ⟨S.toArray⟩,.int .i64 nn,.slice va vn vc,.slice pa pn pc]) ?_ rfl ?_
    ·simp[results,Tryz.results112,go_sem,c0,c1,c2,c3,c4,c5,l0]
    rw[HRR.o];refine Gc lb lt ?_ ?_ (fun hb=>⟨(HRep.o hb).1,?_⟩)
    ·exact(Cl.o.alloc _).drewN _
    ·exact((HO.o.trans (Below.only B4.o)).alloc _).drewN _
    ·refine Ak.keep (fun g hg hl=>⟨?_,hg.1⟩) _ _ (HRep.o hb).2;exact(Below.heap_alloc _ _ _ (Nat.lt_of_lt_of_le hl B4.o.size)).trans (B4.o.block g hl)
   ·obtain⟨y,J8,Hu⟩:=Pz (by simpa using hrow) hp;have hra':=hra.trans hrow;have hu:=A0 (fun(w':World) h=>(HIH.o m (by omega)).expr w' (Aa st) (a+1) ((a:Int)+1) y (by omega) (by omega) h J8);have HY:=A0 Hu;clear hp hrs hX hZ hRow hrep hO Fb hra hrow h18' J8 Hu;go_wp2_with fail
    refine(Fl HRS.o).mono ?_;rintro e w3 ⟨S3,rfl,hS3,Bq,Ar⟩;have hS4:=(hS3 Im.o).trans HSp.o.symm;subst hS4;have E4:=A0 (Bg Ar HZ.o);have Ej:=A0 (Bg Ar HX.o);have HRow3:=A0 (Bg Ar HRow.o);have rc:=Ac (Bg Ar HRow.o) a _ (n7 a ha);have lrow3:=A5 (Bg Ar HRow.o);obtain⟨pl,hpl⟩:=Bq;obtain⟨e0,e1,e2⟩:=hpl.cells;have fb:=Ce hpl.rd;have lb3:=A5 hpl.rd;have hfew:=hpl.toks.few;have hpll:=hpl.lt;have HPL:=A0 hpl;have B4:=A0 Ar;clear hS3 hpl Ar e0 e2;go_wp2;go_quiet ((go_at_call 104;exact Calls.quiet_of_same (La _ _ _ hlen hlen2)))
    go_wp2_with fail
    refine(hu.out _ ?_).mono ?_
    ·exact⟨pl+1,((HPL.o.alloc _).drewN _).move D8.o _ rfl⟩
    rintro e w4 ⟨I4,S4,J9,Jq,D5,D7,D6,K9,Ke,Kb,rfl,Ch,An,Gy⟩;have hZ4:=An.blk (Cn (w:=(w3.alloc _).drewN _) (alloc_old E4.o) (by simp;omega)) (by omega);have It:=An.blk (Cn (w:=(w3.alloc _).drewN _) (alloc_old Ej.o) (by simp;omega)) (by omega);have hRow4:=An.blk (Cn (w:=(w3.alloc _).drewN _) (alloc_old HRow3.o) (by simp;omega)) (by omega);have Gw:=An.blk (Cn (w:=(w3.alloc _).drewN _) (heap_alloc_new w3 _) (by simp;omega)) (by omega);obtain⟨d0,d1,d2,d3,d4,d5,f1,l1⟩:=As It;obtain⟨g0,g1,g2,g3,f2,l2'⟩:=Ci Gw;have Ib:=A0 hZ4;have Gu:=A0 It;have HRow4:=A0 hRow4;have I8:=A0 Ch;have B2:=A0 An;have Io:=A0 Gy;clear hZ4 It hRow4 Gw Ch An Gy e1 fb rc;go_wp2;go_roundg m
    case measure=>omega
    case rel=>
     refine⟨by omega,?_⟩;have hO3:A1 b w (((w3.alloc (.cells #[.int .u8 (Bz (kT st)),.string ⟨(spell (kT st)).toArray⟩,.int .i64 (A6 st).n,.int .i64 ((A6 st).line:Nat)] 174)).drewN nq).setCell ⟨b,1,none⟩ (.int .i64 ((pl:Int)+1))):=
      A1.set (p:=⟨b,1,none⟩) (((HO.o.trans (Below.only B4.o)).alloc _).drewN nq) (.inl rfl) _
     refine Sm.bin lb lt (by omega) (by omega) HK40.o HY.o I8.o (hO3.trans B2.o) Gu.o Ib.o HRow4.o (fun hb=>⟨(HRep.o Br.o).1,?_⟩) (fun hb=>⟨(Io.o hb).1,?_⟩)
     ·refine Ak.keep (fun g hg hl=>⟨?_,hg⟩) _ _ (HRep.o Br.o).2;have Ar:=B4.o;have e4:=B2.o.block g (by simp[World.setCell,World.drewN];have:=Ar.size;omega) (by omega);have e3:(((w3.alloc (.cells #[.int .u8 (Bz (kT st)),.string ⟨(spell (kT st)).toArray⟩,.int .i64 (A6 st).n,.int .i64 ((A6 st).line:Nat)] 174)).drewN nq).setCell ⟨b,1,none⟩ (.int .i64 ((pl:Int)+1))).heap[g]?=w3.heap[g]?:=by
       rw[Below.heap_setCell _ _ _ _ (by simp;omega)];exact Below.heap_alloc _ _ _ (by have:=Ar.size;omega)
      exact e4.trans (e3.trans (Ar.block g hl))
     ·refine Ak.keep (fun g hg hl=>⟨rfl,?_⟩) _ _ (Io.o hb).2;have hs:(((w3.alloc (.cells #[.int .u8 (Bz (kT st)),.string ⟨(spell (kT st)).toArray⟩,.int .i64 (A6 st).n,.int .i64 ((A6 st).line:Nat)] 174)).drewN nq).setCell ⟨b,1,none⟩ (.int .i64 ((pl:Int)+1))).heap.size=w3.heap.size+1:=by simp[World.setCell,World.drewN]
      rw[hs]at hg;have:=B4.o.size;omega
end
end Go.Proofs.YtjdlndhfaaolaaaGreatDoor
