import Derived.Deep.DrawnRows
import Derived.Deep.LoopGhost
import Derived.Deep.RegionHeld3
import Derived.Test.YtjdlndhfaaolaaaGreatDoorR12
set_option maxHeartbeats 20000000
namespace Go.Proofs.YtjdlndhfaaolaaaGreatDoor
section
set_option maxRecDepth 100000
open Go.RowKit
open Go.Deep (BT)
attribute [local go_sem ↓] Go.wp_at_zero Go.wp_at_succ
theorem Nq{k:Nat}{s:PS}(h:kT s=k):F0 k s=Aa s:=by unfold F0;rw[if_pos h]
theorem N9{k:Nat}{s:PS}(h:kT s≠k):F0 k s=s:=by unfold F0;rw[if_neg h]
theorem unary_not{b tb cap te:Nat}{xs:List (Tk×List UInt8)}{n:Nat}(ih:G5 b tb cap te xs n)(w:World)(s:PS)(r:BT A2×PS)(hk:kT s=28)(hs:RS b tb cap te xs w s)(hp:A7 (n+1) 2 0 .nil s=some r) :
  Calls Tryz.prog 169 #[.pointer (some ⟨b,0,none⟩)] w (Dn b tb cap te xs w r):=by
 obtain⟨x,By,Dw⟩:=Q2 hk hp;obtain⟨lb,lt,lne⟩:=hs.lt;have hu:=A0 (fun(w':World) h=>ih.unary w' (Aa s) x h By);have HS:=A0 hs;have HRR:=A0 Dw;have HM:=A0 (Nq hk);have hk':(kT s==28)=true:=by rw[hk];rfl
 clear hp By Dw hs ih hk;go_enter Tryz.func169,Tryz.ntmps169;go_wp2_with fail
 refine(Fl (HS.o.alloc _)).mono ?_;rintro e w1 ⟨S1,rfl,-,Bo,A3⟩;have Bj:=A0 (Bg A3 (heap_alloc_new w _));have Ae:Hid (A1 b w w1):=((A1.refl b w).alloc _).trans (Below.only A3);have Ey:=A0 Bo;have l1:=A5 Bj.o;clear Bo A3;go_wp2_with fail
 refine(L0 (Ey.o.alloc _) 28 (by omega) (by omega) [33] rfl).mono ?_;rintro e w2 ⟨rfl,Ec,Ap⟩;rw[hk'];rw[HM.o]at Ec;have Cb:=A0 (Ap.blk (alloc_old Bj.o) (by omega));have K5:=A0 (Ap.blk (heap_alloc_new w1 _) (by omega));have Al:Hid (A1 b w w2):=(Ae.o.alloc _).trans Ap;have Fa:=A0 Ec;obtain⟨c0,c1,c2,c3,c4,c5,f0,l0⟩:=As Cb.o;obtain⟨g0,g1,g2,g3,f1,l2⟩:=Ci K5.o;clear Ec Ap;go_wp2;go_region_with ((go_at_call 169;refine(hu.out _ ?_).mono ?_;exact Fa.o.drew;rintro e w4 ⟨I4,S4,J9,Jq,D5,D7,D6,K9,Ke,Kb,rfl,Ch,An,Gy⟩;obtain⟨q0,q1,q2,q3,fq,lq⟩:=Ci (An.blk (g:=w1.heap.size) K5.o (by omega));obtain⟨k0,k1,k2,k3,k4,k5,fk,lk⟩:=As (An.blk (g:=w.heap.size) Cb.o (by omega));have I8:=A0 Ch;have B2:=A0 An;have Io:=A0 Gy;clear Ch An Gy))
 all_goals go_wp2
 all_goals
  refine bodyPost_ret (v:=.agg #[.string ⟨#[33]⟩,.int .i64 ((A6 s).line:Nat),.string ⟨#[]⟩,.int .i64 0,.slice (some ⟨w4.heap.size,0,none⟩) 1 1,.slice none 0 0]) ?_ rfl ?_
  ·simp[results,Tryz.results169,go_sem,k0,k1,k2,k3,k4,k5,lk]
  rw[HRR.o];refine A07 (I:=[33]) lb lt lk (.inl rfl) rfl I8.o (Al.o.drew.trans B2.o) (fun hb=>⟨(Io.o hb).1,?_⟩);exact Ak.keep (fun g hg hl=>⟨rfl,by have h2:w2.heap.size<=g:=hg;omega⟩) _ _ (Io.o hb).2
theorem unary_neg{b tb cap te:Nat}{xs:List (Tk×List UInt8)}{n:Nat}(ih:G5 b tb cap te xs n)(w:World)(s:PS)(r:BT A2×PS)(hk:kT s=35)(hs:RS b tb cap te xs w s)(hp:A7 (n+1) 2 0 .nil s=some r) :
  Calls Tryz.prog 169 #[.pointer (some ⟨b,0,none⟩)] w (Dn b tb cap te xs w r):=by
 obtain⟨x,By,Dw⟩:=Q1 hk hp;obtain⟨lb,lt,lne⟩:=hs.lt;have hu:=A0 (fun(w':World) h=>ih.unary w' (Aa s) x h By);have HS:=A0 hs;have HRR:=A0 Dw;have HM:=A0 (Nq hk);have HM0:=A0 (N9 (k:=28) (s:=s) (by omega));have Kr:(kT s==28)=false:=by rw[hk];rfl
 have hk':(kT s==35)=true:=by rw[hk];rfl
 clear hp By Dw hs ih hk;go_enter Tryz.func169,Tryz.ntmps169;go_wp2_with fail
 refine(Fl (HS.o.alloc _)).mono ?_;rintro e w1 ⟨S1,rfl,-,Bo,A3⟩;have Bj:=A0 (Bg A3 (heap_alloc_new w _));have Ae:Hid (A1 b w w1):=((A1.refl b w).alloc _).trans (Below.only A3);have Ey:=A0 Bo;have l1:=A5 Bj.o;clear Bo A3;go_wp2_with fail
 refine(L0 (Ey.o.alloc _) 28 (by omega) (by omega) [33] rfl).mono ?_;rintro e w5 ⟨rfl,Fq,Bd⟩;rw[Kr];rw[HM0.o]at Fq;have Fx:=A0 (Bd.blk (alloc_old Bj.o) (by omega));have HT5:=A0 (Bd.blk (heap_alloc_new w1 _) (by omega));have B9:Hid (A1 b w w5):=(Ae.o.alloc _).trans Bd;have Gj:=A0 Fq;clear Fq Bd;go_wp2_with fail
 refine(L0 Gj.o 35 (by omega) (by omega) [45] rfl).mono ?_;rintro e w2 ⟨rfl,Ec,Ap⟩;rw[hk'];rw[HM.o]at Ec;have Cb:=A0 (Ap.blk Fx.o (by omega));have K5:=A0 (Ap.blk HT5.o (by omega));have Al:Hid (A1 b w w2):=B9.o.trans Ap;have Fa:=A0 Ec;obtain⟨c0,c1,c2,c3,c4,c5,f0,l0⟩:=As Cb.o;obtain⟨g0,g1,g2,g3,f1,l2⟩:=Ci K5.o;clear Ec Ap;go_wp2;go_region_with ((go_at_call 169;refine(hu.out _ ?_).mono ?_;exact Fa.o.drew;rintro e w4 ⟨I4,S4,J9,Jq,D5,D7,D6,K9,Ke,Kb,rfl,Ch,An,Gy⟩;obtain⟨q0,q1,q2,q3,fq,lq⟩:=Ci (An.blk (g:=w1.heap.size) K5.o (by omega));obtain⟨k0,k1,k2,k3,k4,k5,fk,lk⟩:=As (An.blk (g:=w.heap.size) Cb.o (by omega));have I8:=A0 Ch;have B2:=A0 An;have Io:=A0 Gy;clear Ch An Gy))
 all_goals go_wp2
 all_goals
  refine bodyPost_ret (v:=.agg #[.string ⟨#[110,101,103]⟩,.int .i64 ((A6 s).line:Nat),.string ⟨#[]⟩,.int .i64 0,.slice (some ⟨w4.heap.size,0,none⟩) 1 1,.slice none 0 0]) ?_ rfl ?_
  ·simp[results,Tryz.results169,go_sem,k0,k1,k2,k3,k4,k5,lk]
  rw[HRR.o];refine A07 (I:=[110,101,103]) lb lt lk (.inr rfl) rfl I8.o (Al.o.drew.trans B2.o) (fun hb=>⟨(Io.o hb).1,?_⟩);exact Ak.keep (fun g hg hl=>⟨rfl,by have h2:w2.heap.size<=g:=hg;omega⟩) _ _ (Io.o hb).2
def A1h(b tb cap te:Nat)(xs:List (Tk×List UInt8))(r:BT A2×PS)(w:World)(X T:Nat)(k:Nat)(wr:World):Prop:=
 ∃(acc:BT A2) (st:PS) (I S:List UInt8) (ln nn:Int) (va:Option Addr) (vn vc:Nat) (pa:Option Addr) (pn pc:Nat) (t0 t2 t3:Int) (t1:ByteArray),A7 k 3 0 acc st=some r/\RS b tb cap te xs wr st/\A1 b w wr/\
  wr.heap[X]?=some (.cells #[.string ⟨I.toArray⟩,.int .i64 ln,.string ⟨S.toArray⟩,.int .i64 nn,.slice va vn vc,.slice pa pn pc] 77 (0,0))/\
  wr.heap[w.heap.size]?=some (.cells #[.string ⟨#[]⟩,.int .i64 0,.string ⟨#[]⟩,.int .i64 0,.slice none 0 0,.slice none 0 0] 77 (0,0))/\
  wr.heap[T]?=some (.cells #[.int .u8 t0,.string t1,.int .i64 t2,.int .i64 t3] 174 (0,0))/\
  (st.bad=0->A8 acc=1/\Ak (fun g=>w.heap.size<g/\g≠X/\g≠T) wr acc (Ax I S ln nn va vn vc pa pn pc).toList)
theorem A5l{s:PS}(h:(Cm s).bad=0):s.bad=0:=by
 unfold Cm at h;split at h
 ·assumption
 ·exact h
theorem Wg{s:PS}:(Aa s).bad=s.bad:=by unfold Aa;split <;> rfl
theorem L7{k:Nat}{s:PS}(h:(Ah k s).bad=0):s.bad=0:=by
 unfold Ah at h;split at h
 ·rw[Wg]at h;exact h
 ·exact A5l h
theorem Ada{b tb cap te:Nat}{xs:List (Tk×List UInt8)}{n:Nat}(ih:∀m,m<=n->G5 b tb cap te xs m)(w:World)(s:PS)(r:BT A2×PS)(h28:kT s≠28)(h35:kT s≠35)(hs:RS b tb cap te xs w s)(hp:A7 (n+1) 2 0 .nil s=some r) :
  Calls Tryz.prog 169 #[.pointer (some ⟨b,0,none⟩)] w (Dn b tb cap te xs w r):=by
 obtain⟨x,By,Dw⟩:=P6 h28 h35 hp;obtain⟨lb,lt,lne⟩:=hs.lt;have hu:=A0 (fun(w':World) h=>(ih n (Nat.le_refl _)).atom w' s x h By);have HS:=A0 hs;have HP:=A0 Dw;have HIH:=A0 ih;have HM1:=A0 (N9 h28);have HM2:=A0 (N9 h35);have Ks:(kT s==28)=false:=by simpa using h28
 have Bk:(kT s==35)=false:=by simpa using h35
 clear hp By Dw hs ih h28 h35;go_enter Tryz.func169,Tryz.ntmps169;go_wp2_with fail
 refine(Fl (HS.o.alloc _)).mono ?_;rintro e w1 ⟨S1,rfl,-,Bo,A3⟩;have Bj:=A0 (Bg A3 (heap_alloc_new w _));have Ae:Hid (A1 b w w1):=((A1.refl b w).alloc _).trans (Below.only A3);have Ey:=A0 Bo;have l1:=A5 Bj.o;clear Bo A3;go_wp2_with fail
 refine(L0 (Ey.o.alloc _) 28 (by omega) (by omega) [33] rfl).mono ?_;rintro e w5 ⟨rfl,Fq,Bd⟩;rw[Ks];rw[HM1.o]at Fq;have Fx:=A0 (Bd.blk (alloc_old Bj.o) (by omega));have HT5:=A0 (Bd.blk (heap_alloc_new w1 _) (by omega));have B9:Hid (A1 b w w5):=(Ae.o.alloc _).trans Bd;have Gj:=A0 Fq;clear Fq Bd;go_wp2_with fail
 refine(L0 Gj.o 35 (by omega) (by omega) [45] rfl).mono ?_;rintro e w2 ⟨rfl,Ec,Ap⟩;rw[Bk];rw[HM2.o]at Ec;have Cb:=A0 (Ap.blk Fx.o (by omega));have K5:=A0 (Ap.blk HT5.o (by omega));have Al:Hid (A1 b w w2):=B9.o.trans Ap;have Fa:=A0 Ec;clear Ec Ap;go_wp2_with fail
 refine(hu.out _ Fa.o).mono ?_;rintro e w3 ⟨I,S,ln,nn,va,vn,vc,pa,pn,pc,rfl,Cs,Af,Fc⟩;have E4:=A0 (Af.blk Cb.o (by omega));have Hg:=A0 (Af.blk K5.o (by omega));have Ay:Hid (A1 b w w3):=Al.o.trans Af;have He:=A0 Cs;have Gt:=A0 Fc;have l3:=A5 Hg.o;have C8:=A0 (A5 K5.o);clear Cs Fc Af hu;go_wp2;go_loopg [] n (fun k wr=>k<=n/\A1h b tb cap te xs r w w3.heap.size w1.heap.size k wr)
 case atStart=>
  refine⟨Nat.le_refl _,x.1,x.2,I,S,ln,nn,va,vn,vc,pa,pn,pc,_,_,_,_,HP.o,He.o.alloc _,Ay.o.alloc _,heap_alloc_new w3 _,alloc_old E4.o,alloc_old Hg.o,fun hb=>⟨(Gt.o hb).1,?_⟩⟩;refine Ak.keep (fun g hg hl=>⟨Below.heap_alloc _ _ _ hl,?_⟩) _ _ (Gt.o hb).2;have h2:w2.heap.size<=g:=hg;have:=C8.o;omega
 case round=>
  clear He Gt E4 Hg Ay HP HS Bj Ae Ey Fx HT5 B9 Gj Cb K5 Al Fa C8;obtain⟨hkn,acc,st,I,S,ln,nn,va,vn,vc,pa,pn,pc,t0,t2,t3,t1,hp,hrs,hO,hX,hZ,hT,hrep⟩:=hrel;cases gk with
  | zero=>exact absurd hp (Cc _ _ _ _ _)
  | succ m=>
  have lX:=A5 hX;have HRS:=A0 hrs;have HX:=A0 hX;have HZ:=A0 hZ;have HT:=A0 hT;have HRep:=A0 hrep;have HO:=A0 hO;by_cases h22:kT st=22
  ·obtain⟨y,J8,Hu⟩:=Qz h22 hp;have hu:=A0 (fun(w':World) h=>(HIH.o m (by omega)).expr w' (Aa st) 0 0 y (by omega) (by omega) h J8);have HY:=A0 Hu;have HM:=A0 (Nq h22);have hk:(kT st==22)=true:=by rw[h22];rfl
   have Br:Hid (st.bad=0):=by obtain⟨pl,h⟩:=hrs;exact(h.E7 (by omega)).1
   clear hp hrs hX hZ hT hrep hO h22 J8 Hu;go_wp2_with fail
   refine(Fl HRS.o).mono ?_;rintro e w4 ⟨S4,rfl,-,Dr,Bc⟩;have Ib:=A0 (Bg Bc HZ.o);have Gu:=A0 (Bg Bc HX.o);have HT4:=A0 (Bg Bc HT.o);have G3:=A0 Dr;have Dm:=A0 Bc;obtain⟨g0,g1,g2,g3,f1,l2⟩:=Ci HT4.o;clear Dr Bc;go_wp2_with fail
   refine(L0 (G3.o.Tb (g:=w1.heap.size) (by omega) (by omega) _ _ _ _) 22 (by omega) (by omega) [91] rfl).mono ?_;rintro e w6 ⟨rfl,Fe,Bs⟩;rw[hk];rw[HM.o]at Fe;have HZ6:=A0 (Bs.blk (Tv Ib.o (by omega) _ _ _ _) (by omega));have K6:=A0 (Bs.blk (Tv Gu.o (by omega) _ _ _ _) (by omega));have HT6:=A0 (Bs.blk (Ab2 HT4.o _ _ _ _) (by omega));have Jw:=A0 Fe;have Bn:=A0 Bs;clear Fe Bs g0 g1 g2 g3 f1;go_wp2_with fail
   refine(hu.out _ Jw.o).mono ?_;rintro e w7 ⟨I7,S7,ln7,nn7,va7,vn7,vc7,pa7,pn7,pc7,rfl,hr7,ho7,hrep7⟩;have Jy:=A0 (ho7.blk HZ6.o (by omega));have J0:=A0 (ho7.blk K6.o (by omega));have HT7:=A0 (ho7.blk HT6.o (by omega));have HR7:=A0 hr7;have Es:=A0 ho7;have HRep7:=A0 hrep7;have l7:=A5 J0.o;clear hr7 ho7 hrep7 hu;go_wp2_with fail
   refine(Gq (HR7.o.alloc _) 23 (by omega) (by omega) [93] rfl).mono ?_;rintro e w8 ⟨rfl,F6,Cg⟩;have HZ8:=A0 (Cg.blk (alloc_old Jy.o) (by omega));have HX8:=A0 (Cg.blk (alloc_old J0.o) (by omega));have HT8:=A0 (Cg.blk (alloc_old HT7.o) (by omega));have HY8:=A0 (Cg.blk (heap_alloc_new w7 _) (by omega));obtain⟨d0,d1,d2,d3,d4,d5,f2,l8⟩:=As HX8.o;obtain⟨g0,g1,g2,g3,f3,l9⟩:=Ci HT8.o;obtain⟨k0,k1,k2,k3,k4,k5,f4,l10⟩:=As HY8.o;have Jf:=A0 F6;have F4:=A0 Cg;clear F6 Cg;go_wp2;go_roundg m
   case measure=>omega
   case rel=>
    have Bc:=Dm.o;have s4:=Bc.size;have hO6:A1 b w w6:=(A1.Hp (HO.o.trans (Below.only Bc)) (by omega) _ _ _ _).trans Bn.o;have hO8:A1 b w w8:=((hO6.trans Es.o).alloc _).trans F4.o;have s6:w4.heap.size<=w6.heap.size:=by have:=Bn.o.size;simpa [World.setCell]using this
    have s7:=Es.o.size;have s8:w7.heap.size+1<=w8.heap.size:=by have:=F4.o.size;simpa using this
    refine⟨by omega,nd (Ao 12 (A6 st).line) (B6 acc y.1),Ah 23 y.2,[105,110,100,101,120],[],((A6 st).line:Nat),0,some ⟨w8.heap.size,0,none⟩,2,2,none,0,0,Bz (kT st),(A6 st).n,((A6 st).line:Nat),⟨S4.toArray⟩,HY.o,?_,?_,?_,?_,?_,?_⟩
    ·exact(Jf.o.Od (by omega) (by omega) _ _ _ _ _ _).alloc _
    ·exact(A1.Of hO8 (by omega) _ _ _ _ _ _).alloc _
    ·exact alloc_old (W6 HX8.o _ _ _ _ _ _)
    ·exact alloc_old (Sd HZ8.o (by omega) _ _ _ _ _ _)
    ·exact alloc_old (Sd HT8.o (by omega) _ _ _ _ _ _)
    ·intro hb;have Jl:=L7 hb;refine⟨rfl,Ad3 ⟨by decide,by decide,by decide,by decide⟩ rfl (fun g hg=>hg.2.1) (by omega) ⟨(HRep.o Br.o).1,?_⟩ ⟨(HRep7.o Jl).1,?_⟩⟩
     ·refine Ak.keep (fun g hg hl=>⟨?_,hg⟩) _ _ (HRep.o Br.o).2;refine(F4.o.block g (by simp;omega) (by omega)).trans ?_;refine(Below.heap_alloc _ _ _ (by omega)).trans ?_;refine(Es.o.block g (by omega) (by omega)).trans ?_;refine(Bn.o.block g (by simp[World.setCell];omega) (by omega)).trans ?_;exact(Hq hg.2.2 _ _ _ _).trans (Bc.block g hl)
     ·refine Ak.keep (fun g hg hl=>⟨?_,?_⟩) _ _ (HRep7.o Jl).2
      ·refine(F4.o.block g (by simp;omega) (by have h6:w6.heap.size<=g:=hg;omega)).trans ?_;exact Below.heap_alloc _ _ _ hl
      ·have h6:w6.heap.size<=g:=hg;omega
  ·have hrr:=R1 h22 hp;have HRR:=A0 hrr;have HM:=A0 (N9 h22);have hk:(kT st==22)=false:=by simpa using h22
   clear hp hrs hX hZ hT hrep hO hrr h22;go_wp2_with fail
   refine(Fl HRS.o).mono ?_;rintro e w4 ⟨S4,rfl,-,Dr,Bc⟩;have Ib:=A0 (Bg Bc HZ.o);have Gu:=A0 (Bg Bc HX.o);have HT4:=A0 (Bg Bc HT.o);have G3:=A0 Dr;have Dm:=A0 Bc;obtain⟨g0,g1,g2,g3,f1,l2⟩:=Ci HT4.o;clear Dr Bc;go_wp2_with fail
   refine(L0 (G3.o.Tb (g:=w1.heap.size) (by omega) (by omega) _ _ _ _) 22 (by omega) (by omega) [91] rfl).mono ?_;rintro e w6 ⟨rfl,Fe,Bs⟩;rw[hk];rw[HM.o]at Fe;have HZ6:=A0 (Bs.blk (Tv Ib.o (by omega) _ _ _ _) (by omega));have K6:=A0 (Bs.blk (Tv Gu.o (by omega) _ _ _ _) (by omega));obtain⟨c0,c1,c2,c3,c4,c5,f0,l0⟩:=As HZ6.o;obtain⟨d0,d1,d2,d3,d4,d5,f2,l6⟩:=As K6.o;have Jw:=A0 Fe;have Bn:=A0 Bs;clear Fe Bs g0 g1 g2 g3 f1;go_wp2;refine bodyPost_ret (v:=.agg #[.string ⟨I.toArray⟩,.int .i64 ln,.string ⟨S.toArray⟩,.int .i64 nn,.slice va vn vc,.slice pa pn pc]) ?_ rfl ?_
   ·simp[results,Tryz.results169,go_sem,c0,c1,c2,c3,c4,c5]
   rw[HRR.o];refine Gc lb lt Jw.o ((A1.Hp (HO.o.trans (Below.only Dm.o)) (by omega) _ _ _ _).trans Bn.o) (fun hb=>⟨(HRep.o hb).1,?_⟩);refine Ak.keep (fun g hg hl=>⟨?_,hg.1⟩) _ _ (HRep.o hb).2;have Bc:=Dm.o;refine(Bn.o.block g (by simp[World.setCell];have:=Bc.size;omega) (by omega)).trans ?_;exact(Hq hg.2.2 _ _ _ _).trans (Bc.block g hl)
end
section
set_option maxRecDepth 100000
open Go.RowKit
open Go.Deep (BT)
variable {b tb cap te:Nat}{xs:List (Tk×List UInt8)}
theorem Kz:(Tryz.prog.info? 77).map (fun i=>(i.zero,i.size,i.bytes))=some (some (.agg #[.string ⟨#[]⟩,.int .i64 0,.string ⟨#[]⟩,.int .i64 0,.slice none 0 0,.slice none 0 0]),6,96):=by kernel_rfl
theorem Ll{I S:List UInt8}{ln nn:Int}{va:Option Addr}{vn vc:Nat}{pa:Option Addr}{pn pc:Nat}:∀u∈(Ax I S ln nn va vn vc pa pn pc).toList,u.oneCell'=true:=by
 intro u hu;simp only[Ax,List.mem_cons,List.not_mem_nil,or_false]at hu;rcases hu with rfl|rfl|rfl|rfl|rfl|rfl <;> rfl
theorem RS.Jb{w:World}{s:PS}(h:RS b tb cap te xs w s)(hb:s.bad≠0):s.ts=[Iq]:=by
 obtain⟨pl,h⟩:=h;exact(h.bad hb).1
theorem RS.Nj{w:World}{s:PS}(h:RS b tb cap te xs w s):w.cell? ⟨b,2,none⟩=some (.int .i64 (s.bad:Nat))/\s.bad<=100000:=by
 obtain⟨pl,h⟩:=h;exact⟨h.cells.2.2,Wy h⟩
theorem Mg{b:Nat}{w w':World}{base:Nat}{e:TypeId}{size:Nat}{v:Value}{n:Nat}{cs:List Value}(h:w.ownsRow base e size v n cs)(hO:A1 b w w')(hb:v.ownBlock≠some b):w'.ownsRow base e size v n cs:=
 Bb h fun g hg hl=>hO.block g hl (fun e=>hb (by rw[hg,e]))
theorem RS.grown{w w':World}{s:PS}{row:Option Nat}(h:RS b tb cap te xs w s)(hg:w.grownBy w' row)(h1:row≠some b)(h2:row≠some tb):RS b tb cap te xs w' s:=by
 obtain⟨pl,h⟩:=h;exact⟨pl,h.of_heap (hg.block b (A5 h.rd) (fun e=>h1 e.symm)) (hg.block tb h.Mx (fun e=>h2 e.symm))⟩
theorem Rl{lo:Nat}{wr w4 W w1:World}{acc y:BT A2}{v:Value}{cn g cap b:Nat}{cs c2:List Value}
  (hlob:b<lo) (hlor:lo<=wr.heap.size) (hO4:A1 b wr w4) (hW:∀k,k<w4.heap.size->W.heap[k]?=w4.heap[k]?) (hWs:w4.heap.size<=W.heap.size) (hown:wr.ownsRow 0 77 6 v cn cs) (hgrow:W.grownBy w1 v.ownBlock) (hat:v.ownBlock=some g\/g=W.heap.size+1)
  (hA:Ak (fun k=>lo<=k/\v.ownBlock≠some k) wr acc cs) (hB:Ak (fun k=>wr.heap.size<=k) w4 y c2) :
  Ak (fun k=>lo<=k/\(Value.slice (some ⟨g,0,none⟩) (cn+1) cap).ownBlock≠some k) w1 (B6 acc y) (cs++c2):=by
 have Dx:=hO4.size;have hne:∀k,k<w4.heap.size->(v.ownBlock≠some k)->k≠g:=by
  intro k hk hv e;rcases hat with h|h
  ·exact hv (by rw[h,e])
  ·omega
 refine Ak.app _ _ _ _ (Ak.keep (fun k hk hl=>?_) _ _ hA) (Ak.keep (fun k hk hl=>?_) _ _ hB)
 ·have hk':lo<=k/\v.ownBlock≠some k:=hk;have h1:=hO4.block k hl (by have:=hk'.1;omega);have h2:=hW k (by omega);have h3:=hgrow.block k (by omega) (fun e=>hk'.2 e.symm);refine⟨h3.trans (h2.trans h1),hk'.1,?_⟩;have:=hne k (by omega) hk'.2;simp only[Value.ownBlock,ne_eq,Option.some.injEq];omega
 ·have hwk:wr.heap.size<=k:=hk;have h2:=hW k hl;have h3:=hgrow.block k (by omega) (fun e=>by have:=Ca hown k e.symm;omega);refine⟨h3.trans h2,by omega,?_⟩;have:=hne k hl (fun e=>by have:=Ca hown k e;omega);simp only[Value.ownBlock,ne_eq,Option.some.injEq];omega
def A0z(b tb cap te:Nat)(xs:List (Tk×List UInt8))(a n:Nat)(r:BT A2×PS)(w:World)(k:Nat)(v d:Value)(wr:World):Prop:=
 ∃(acc:BT A2) (st:PS) (va:Option Addr) (vn vc cn:Nat) (cs:List Value) (dn:Bool),v=.slice va vn vc/\d=.bool dn/\k<=n/\
  (dn=true->r=(acc,st))/\(dn=false->(A7 k 0 0 .nil st).bind (fun y=>A7 k 6 a (B6 acc y.1) y.2)=some r)/\
  RS b tb cap te xs wr st/\A1 b w wr/\cn+k<=n+1/\wr.ownsRow 0 77 6 (.slice va vn vc) cn cs/\(∀g,(Value.slice va vn vc).ownBlock=some g->w.heap.size<=g)/\
  (st.bad=0->cn=A8 acc/\Ak (fun g=>w.heap.size<=g/\(Value.slice va vn vc).ownBlock≠some g) wr acc cs)
theorem A6y{n:Nat}(ih:∀m,m<=n->G5 b tb cap te xs m)(hn:n<=500000)(w:World)(s:PS)(a:Nat)(q:List UInt8)(r:BT A2×PS)(ha:a=19\/a=23)(hq:q=spell a)(hs:RS b tb cap te xs w s)(hp:A7 (n+1) 5 a .nil s=some r) :
  Calls Tryz.prog 255 #[.pointer (some ⟨b,0,none⟩),.string ⟨q.toArray⟩] w (Rh b tb cap te xs w r):=by
 obtain⟨lb,lt,lne⟩:=hs.lt;have hmay:=A0 (L0 hs a (by omega) (by omega) q hq);have hmust:=A0 (fun(w':World) (s':PS) (h:RS b tb cap te xs w' s')=>Gq h a (by omega) (by omega) q hq);have HIH:=A0 ih;have HM1:=A0 (fun h=>Nq (k:=a) (s:=s) h);have HM0:=A0 (fun h=>N9 (k:=a) (s:=s) h);have Bh:=A0 (fun h=>Tg (a:=a) h hp);have HP0:=A0 (fun h=>Vp (a:=a) h hp);clear hq hp hs ih;go_enter Tryz.func255,Tryz.ntmps255;go_wp2_with fail
 refine hmay.out.mono ?_;rintro e w1 ⟨rfl,Bo,B5⟩;have Ey:=A0 Bo;have Ae:=A0 B5;clear Bo B5;go_wp2;go_loopg [5,6] n (fun k v d wr=>A0z b tb cap te xs a n r w k v d wr)
 case atStart=>
  by_cases hk:kT s=a
  ·refine⟨.nil,Aa s,none,0,0,0,[],true,rfl,by rw[hk];simp,Nat.le_refl _,(fun _=>HP0.o hk),(fun h=>by cases h),by rw[←HM1.o hk];exact Ey.o,Ae.o,by omega,World.ownsRow_nil _ _ _ _,(fun g hg=>by simp[Value.ownBlock]at hg),(fun _=>⟨rfl,rfl⟩)⟩
  ·refine⟨.nil,s,none,0,0,0,[],false,rfl,by simpa using hk,Nat.le_refl _,(fun h=>by cases h),(fun _=>Bh.o hk),by rw[←HM0.o hk];exact Ey.o,Ae.o,by omega,World.ownsRow_nil _ _ _ _,(fun g hg=>by simp[Value.ownBlock]at hg),(fun _=>⟨rfl,rfl⟩)⟩
 case round=>
  clear Bh HP0 HM1 HM0 Ey Ae hmay;obtain⟨acc,st,va,vn,vc,cn,cs,dn,rfl,rfl,hkn,hd1,hd0,hrs,hO,hcn,hown,hlo,hrep⟩:=hrel;cases dn
  ·by_cases hbad:st.bad=0
   ·obtain⟨y,J8,Hu⟩:=bind_some (hd0 rfl);obtain⟨cb,lbad⟩:=hrs.Nj;rw[hbad]at cb;have hu:=A0 ((HIH.o gk hkn).expr wr st 0 0 y (by omega) (by omega) hrs J8);have HY:=A0 Hu;have HRS:=A0 hrs;have HO:=A0 hO;have HB:=A0 hbad;have HOwn:=A0 hown;have HLo:=A0 hlo;have HRep:=A0 hrep;have hsz:=hO.size;clear J8 Hu hd0 hd1 hrs hO hbad hrep hown hlo;cases gk with
    | zero=>exact absurd HY.o (Cc _ _ _ _ _)
    | succ m=>
    go_wp2_with fail
    refine hu.out.mono ?_;rintro e w4 ⟨I,S,ln,nn,D5,D7,D6,pa,pn,pc,rfl,Ch,An,Gy⟩;have hne:(Value.slice va vn vc).ownBlock≠some b:=fun e=>by have:=HLo.o b e;omega
    have K0:=(Mg HOwn.o An hne).alloc (.cells (Ax I S ln nn D5 D7 D6 pa pn pc) 77);have I8:=A0 Ch;have B2:=A0 An;have Io:=A0 Gy;clear Ch An Gy hne;go_wp2_with (at_builtin;refine F1 (w4.alloc (.cells (Ax I S ln nn D5 D7 D6 pa pn pc) 77)) (Ax I S ln nn D5 D7 D6 pa pn pc) 77 rfl (.tmp 23) (.tmp 25) 72 rfl 0 6 96 (.agg #[.string ⟨#[]⟩,.int .i64 0,.string ⟨#[]⟩,.int .i64 0,.slice none 0 0,.slice none 0 0]) Tryz.underlying72 Kz rfl (by omega) _ _ _ rfl (by simp;rfl) K0 rfl Ll (by omega) (by omega) (Nat.zero_le _) ?_;intro g Bw w5 Fj hgrow hat hg)
    replace hgrow:(w4.alloc (.cells (Ax I S ln nn D5 D7 D6 pa pn pc) 77)).grownBy w5 (Value.slice va vn vc).ownBlock:=hgrow;replace hat:(Value.slice va vn vc).ownBlock=some g\/g=(w4.alloc (.cells (Ax I S ln nn D5 D7 D6 pa pn pc) 77)).heap.size+1:=hat;have hrow:∀k,(Value.slice va vn vc).ownBlock=some k->k≠b/\k≠tb/\w.heap.size<=k:=fun k e=>by have:=HLo.o k e;omega
    have Fq:=(I8.o.alloc (.cells (Ax I S ln nn D5 D7 D6 pa pn pc) 77)).grown hgrow (fun e=>(hrow b e).1 rfl) (fun e=>(hrow tb e).2.1 rfl);have B9:Hid (A1 b w w5):=((HO.o.trans B2.o).alloc _).grown hgrow (fun k e=>.inr (hrow k e).2.2);have HG:Hid (w.heap.size<=g):=by
     rcases hat with h|h
     ·exact(hrow g h).2.2
     ·show _<=_;have:=B2.o.size;rw[h];simp;omega
    have HRep5:Hid (y.2.bad=0->Ak (fun k=>w.heap.size<=k/\(Value.slice (some ⟨g,0,none⟩) (cn+1) Bw).ownBlock≠some k) w5 (B6 acc y.1) (cs++(Ax I S ln nn D5 D7 D6 pa pn pc).toList)/\cn+1=A8 (B6 acc y.1)):=by
     intro hb;have hr:=HRep.o HB.o;have Ch:=Io.o hb;refine⟨Rl lb hsz B2.o (fun k hk=>Below.heap_alloc _ _ _ hk) (by simp) HOwn.o hgrow hat hr.2 Ch.2,?_⟩;rw[Mr,Ch.1,hr.1]
    have HOwn5:=A0 Fj;have Gj:=A0 Fq;have HH:=A0 (And.intro hgrow hat);clear Fj hgrow hat Fq hrow K0 hg cb;by_cases h24:kT y.2=24
    ·have HM:=A0 (Nq h24);have hk:(kT y.2==24)=true:=by rw[h24];rfl
     have HY2:=A0 (Vq h24 HY.o);clear h24;go_wp2_with fail
     refine(L0 Gj.o 24 (by omega) (by omega) [44] rfl).mono ?_;rintro e w6 ⟨rfl,Fe,Bs⟩;rw[hk];rw[HM.o]at Fe;have Jw:=A0 Fe;have Bn:=A0 Bs;clear Fe Bs;go_wp2;go_roundg m
     case measure=>omega
     case rel=>
      refine⟨B6 acc y.1,Aa y.2,some ⟨g,0,none⟩,cn+1,Bw,cn+1,cs++(Ax I S ln nn D5 D7 D6 pa pn pc).toList,false,rfl,rfl,by omega,(fun h=>by cases h),(fun _=>HY2.o),Jw.o,B9.o.trans Bn.o,by omega,Mg HOwn5.o Bn.o (by have:=HG.o;simp only[Value.ownBlock,ne_eq,Option.some.injEq];omega),(fun k hk=>by simp only[Value.ownBlock,Option.some.injEq]at hk;rw[←hk];exact HG.o),fun hb=>?_⟩;rw[Wg]at hb;refine⟨(HRep5.o hb).2,Ak.keep (fun k hk hl=>⟨Bn.o.block k hl (by have hk':w.heap.size<=k/\_:=hk;omega),hk⟩) _ _ (HRep5.o hb).1⟩
    ·have HM:=A0 (N9 h24);have hk:(kT y.2==24)=false:=by simpa using h24
     have HY2:=A0 (Vo h24 HY.o);clear h24;go_wp2_with fail
     refine(L0 Gj.o 24 (by omega) (by omega) [44] rfl).mono ?_;rintro e w6 ⟨rfl,Fe,Bs⟩;rw[hk];rw[HM.o]at Fe;have Jw:=A0 Fe;have Bn:=A0 Bs;clear Fe Bs;go_wp2_with fail
     refine(hmust.out _ _ Jw.o).mono ?_;rintro e w7 ⟨rfl,hrs7,ho7⟩;have Jx:=A0 hrs7;have Es:Hid (A1 b w5 w7):=Bn.o.trans ho7;clear hrs7 ho7;go_wp2;go_roundg m
     case measure=>omega
     case rel=>
      refine⟨B6 acc y.1,Ah a y.2,some ⟨g,0,none⟩,cn+1,Bw,cn+1,cs++(Ax I S ln nn D5 D7 D6 pa pn pc).toList,true,rfl,rfl,by omega,(fun _=>HY2.o),(fun h=>by cases h),Jx.o,B9.o.trans Es.o,by omega,Mg HOwn5.o Es.o (by have:=HG.o;simp only[Value.ownBlock,ne_eq,Option.some.injEq];omega),(fun k hk=>by simp only[Value.ownBlock,Option.some.injEq]at hk;rw[←hk];exact HG.o),fun hb=>?_⟩;have hb:=L7 hb;refine⟨(HRep5.o hb).2,Ak.keep (fun k hk hl=>⟨Es.o.block k hl (by have hk':w.heap.size<=k/\_:=hk;omega),hk⟩) _ _ (HRep5.o hb).1⟩
   ·have hst:=Lm (hrs.Jb hbad) hbad;obtain⟨y,J8,Hu⟩:=bind_some (hd0 rfl);have e1:=hst _ _ _ _ _ J8;rw[e1]at Hu;have e2:=hst _ _ _ _ _ Hu;obtain⟨cb,lbad⟩:=hrs.Nj;have Cf:((st.bad:Int)==0)=false:=by rw[beq_eq_false_iff_ne];omega
    have HE:=A0 e2;have HRS:=A0 hrs;have HO:=A0 hO;have HB:=A0 hbad;have HOwn:=A0 hown;have HLo:=A0 hlo;clear hst J8 Hu e1 e2 hd0 hd1 hrs hO hbad hrep hown hlo;go_wp2;go_ret;refine⟨va,vn,vc,cn,cs,rfl,⟨HOwn.o,HLo.o⟩,by omega,by rw[HE.o];exact HRS.o,HO.o,fun h=>absurd (by rw[←HE.o];exact h) HB.o⟩
  ·have HE:=A0 (hd1 rfl);have HRS:=A0 hrs;have HO:=A0 hO;have HOwn:=A0 hown;have HLo:=A0 hlo;have HRep:=A0 hrep;clear hd0 hd1 hrs hO hrep hown hlo;go_wp2;go_ret;rw[HE.o];refine⟨va,vn,vc,cn,cs,rfl,⟨HOwn.o,HLo.o⟩,by omega,HRS.o,HO.o,fun h=>⟨(HRep.o h).1,?_⟩⟩;exact Ak.keep (fun g hg _=>⟨rfl,hg.1⟩) _ _ (HRep.o h).2
end
end Go.Proofs.YtjdlndhfaaolaaaGreatDoor
