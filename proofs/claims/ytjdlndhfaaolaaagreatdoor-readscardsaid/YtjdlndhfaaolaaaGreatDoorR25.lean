import Derived.Test.YtjdlndhfaaolaaaGreatDoorR17
import Derived.Test.YtjdlndhfaaolaaaGreatDoorR24
set_option maxHeartbeats 20000000
namespace Go.Proofs.YtjdlndhfaaolaaaGreatDoor
section
set_option maxRecDepth 100000
open Go.RowKit
open Go.Deep (BT)
theorem Up{D:Nat->Prop}{w6 W w7:World}{x y:BT A2}{g cap:Nat}{c1 c2:List Value}(hgrow:W.grownBy w7 none)(hown:w7.ownsRow 0 77 6 (.slice (some ⟨g,0,none⟩) (0+2) cap) (0+2) ([]++(c1++c2)))(hW:∀k,k<w6.heap.size->W.heap[k]?=w6.heap[k]?)(hWs:w6.heap.size<=W.heap.size)
  (hA:A8 x=1/\Ak D w6 x c1) (hB:A8 y=1/\Ak D w6 y c2) (hg:D g):C1 D w7 77 6 (.slice (some ⟨g,0,none⟩) (0+2) cap) (A8 (B6 x y)) (c1++c2)/\Ak D w7 (B6 x y) (c1++c2):=by
 have hk:∀k,D k->k<w6.heap.size->w7.heap[k]?=w6.heap[k]?/\D k:=fun k hk hl=>⟨(hgrow.block k (by omega) (by simp)).trans (hW k hl),hk⟩;exact⟨⟨by rw[Mr,hA.1,hB.1];simpa using hown,fun k hk=>by simp only[Value.ownBlock,Option.some.injEq]at hk;rw[←hk];exact hg⟩,Ak.app _ _ _ _ (Ak.keep hk _ _ hA.2) (Ak.keep hk _ _ hB.2)⟩
theorem T9{I S I' S':List UInt8}{ln nn ln' nn':Int}{va va':Option Addr}{vn vc vn' vc':Nat}{pa pa':Option Addr}{pn pc pn' pc':Nat}:∀u∈(Ax I S ln nn va vn vc pa pn pc++Ax I' S' ln' nn' va' vn' vc' pa' pn' pc').toList,u.oneCell'=true:=by
 intro u hu;rw[Array.toList_append,List.mem_append]at hu;rcases hu with h|h
 ·exact Ll u h
 ·exact Ll u h
theorem A23{b tb cap te:Nat}{xs:List (Tk×List UInt8)}{n:Nat}(ih:G5 b tb cap te xs n)(w:World)(s:PS)(r:BT A2×PS)(hk:kT s=17)(hs:RS b tb cap te xs w s)(hp:A7 (n+1) 4 0 .nil s=some r) :
  Calls Tryz.prog 223 #[.pointer (some ⟨b,0,none⟩)] w (Dn b tb cap te xs w r):=by
 obtain⟨x,y,By,Dw,hrr⟩:=Q4 hk hp;have HRR:=A0 hrr;have hu:=A0 (fun(w':World) h=>ih.expr w' (Ah 18 (Aa s)) 0 0 x (by omega) (by omega) h By);have hu2:=A0 (fun(w':World) h=>ih.expr w' (Ah 24 x.2) 0 0 y (by omega) (by omega) h Dw);have HST:=A0 (fun h1 h2=>Lm (s:=Ah 24 x.2) h1 h2 _ _ _ _ _ Dw);clear hrr By Dw ih;obtain⟨lb,lt,lne⟩:=hs.lt;have HS:=A0 hs;have D8:Hid (kT s≠0):=by show _≠_;omega
 clear hp hs;go_enter Tryz.func223,Tryz.ntmps223;go_wp2_with fail
 refine(Fl (HS.o.alloc _)).mono ?_;rintro e w1 ⟨S1,rfl,C6,Bo,A3⟩;have Du:S1=[112,117,115,104]:=(C6 (by show kT s≠2;omega)).trans (by unfold Eu;rw[if_neg (by show ¬(kT s=1\/kT s=3);omega)];show spell (kT s)=_;rw[hk];rfl);subst Du;clear C6;have Bj:=A0 (Bg A3 (heap_alloc_new w _));have Ae:Hid (A1 b w w1):=((A1.refl b w).alloc _).trans (Below.only A3);obtain⟨pl,hpl⟩:=Bo;obtain⟨e0,e1,e2⟩:=hpl.cells;have Cf:=(hpl.E7 D8.o).1;rw[Cf]at e2;have fb:=Ce hpl.rd;have F7:=A5 hpl.rd;have hfew:=hpl.toks.few;have hpll:=hpl.lt;obtain⟨c0,c1,c2,c3,c4,c5,f0,l0⟩:=As Bj.o;have HM:Hid (RS b tb cap te xs (w1.setCell ⟨b,1,none⟩ (.int .i64 ((pl:Int)+1))) (Aa s)):=⟨pl+1,hpl.move D8.o _ rfl⟩;have Al:Hid (A1 b w (w1.setCell ⟨b,1,none⟩ (.int .i64 ((pl:Int)+1)))):=A1.set (p:=⟨b,1,none⟩) Ae.o (.inl rfl) _;have Cb:=A0 (Cn (p:=⟨b,1,none⟩) (u:=.int .i64 ((pl:Int)+1)) Bj.o (by show w.heap.size≠b;omega));have C8:Hid ((w1.setCell ⟨b,1,none⟩ (.int .i64 ((pl:Int)+1))).heap.size=w1.heap.size):=by
  show _=_;simp[World.setCell]
 clear hpl A3 e0 Cf;have hkr:Bz (kT s)=119:=by rw[hk];rfl
 rw[hkr];have HK:=A0 hk;clear hk hkr;go_wp2_with fail
 refine(Gq ((HM.o.alloc _).alloc _) 18 (by omega) (by omega) [40] rfl).mono ?_;rintro e w3 ⟨rfl,Bq,Af⟩;have Dh:=Af.blk (alloc_old (alloc_old Cb.o)) (by omega);have Cv:=Af.blk (g:=w1.heap.size+1) (by have:=heap_alloc_new ((w1.setCell ⟨b,1,none⟩ (.int .i64 ((pl:Int)+1))).alloc (.cells #[.int .u8 119,.string ⟨#[112,117,115,104]⟩,.int .i64 (A6 s).n,.int .i64 ((A6 s).line:Nat)] 174)) (.cells #[.string ⟨#[112,117,115,104]⟩,.int .i64 ((A6 s).line:Nat),.string ⟨#[112,117,115,104]⟩,.int .i64 (A6 s).n,.slice none 0 0,.slice none 0 0] 77);rw[World.size_alloc,C8.o]at this;exact this) (by omega);have E4:=A0 Dh;have Ej:=A0 Cv;have J7:w1.heap.size+2<=w3.heap.size:=by have:=Af.size;rw[World.size_alloc,World.size_alloc,C8.o]at this;exact this
 have Ay:Hid (A1 b w w3):=((Al.o.alloc _).alloc _).trans Af;have Cl:=A0 Bq;clear Bq Af Dh Cv c0 c1 c2 c3 c4 c5 f0 e1 e2 fb;go_wp2_with fail
 refine(hu.out _ Cl.o).mono ?_;rintro e w4 ⟨I,S,ln,nn,va,vn,vc,pa,pn,pc,rfl,Dr,An,Gy⟩;have Ib:=A0 (An.blk E4.o (by omega));have Gu:=A0 (An.blk Ej.o (by omega));have B2:Hid (A1 b w w4):=Ay.o.trans An;have hsz4:=An.size;have G3:=A0 Dr;have Io:=A0 Gy;clear Dr An Gy hu;go_wp2_with fail
 refine(Gq (G3.o.alloc _) 24 (by omega) (by omega) [44] rfl).mono ?_;rintro e w5 ⟨rfl,Fq,Bd⟩;have Fx:=A0 (Bd.blk (alloc_old Ib.o) (by omega));have Fp:=A0 (Bd.blk (alloc_old Gu.o) (by omega));have HE5:=A0 (Bd.blk (heap_alloc_new w4 _) (by omega));have B9:=A0 Bd;have hsz5:w4.heap.size+1<=w5.heap.size:=by have:=Bd.size;rw[World.size_alloc]at this;exact this
 have Gj:=A0 Fq;clear Fq Bd;go_wp2_with fail
 refine(hu2.out _ Gj.o).mono ?_;rintro e w6 ⟨I6,S6,Ih,Jr,Kv,Kx,Kw,Ka,Kf,Kc,rfl,Fe,Bs,hrep6⟩;have HZ6:=A0 (Bs.blk Fx.o (by omega));have K6:=A0 (Bs.blk Fp.o (by omega));have HE6:=A0 (Bs.blk HE5.o (by omega));have hsz6:=Bs.size;have Bn:=A0 Bs;obtain⟨d0,d1,d2,d3,d4,d5,f2,l2⟩:=As K6.o;obtain⟨j0,j1,j2,j3,j4,j5,f4,l4⟩:=As HE6.o;have Jw:=A0 Fe;have HRep6:=A0 hrep6;have hnil:=World.ownsRow_nil (w6.alloc (.cells (Ax I6 S6 Ih Jr Kv Kx Kw Ka Kf Kc) 77)) 0 77 6;clear Fe Bs hrep6 hu2;go_wp2_with (at_builtin;refine Uf (w6.alloc (.cells (Ax I6 S6 Ih Jr Kv Kx Kw Ka Kf Kc) 77)) ((Ax I S ln nn va vn vc pa pn pc)++(Ax I6 S6 Ih Jr Kv Kx Kw Ka Kf Kc)) 77 rfl (.tmp 132) (.tmp 135) 72 2 rfl 0 6 96 (.agg #[.string ⟨#[]⟩,.int .i64 0,.string ⟨#[]⟩,.int .i64 0,.slice none 0 0,.slice none 0 0]) Tryz.underlying72 Kz rfl (by omega) (by omega) (by omega) (.slice none 0 0) 0 [] rfl (by simp;rfl) hnil rfl T9 (by omega) (by omega) (Nat.zero_le _) ?_;intro g Bw w7 Fy hgrow hat hg;have HG:Hid (g=w6.heap.size+1+1):=(by show g=_;rcases hat with h|h;exact absurd h (by simp[Value.ownBlock]);simpa using h);replace hgrow:(w6.alloc (.cells (Ax I6 S6 Ih Jr Kv Kx Kw Ka Kf Kc) 77)).grownBy w7 none:=hgrow;have Eb:=(hgrow.block _ (A5 (alloc_old K6.o)) (by simp)).trans (alloc_old K6.o);obtain⟨p0,p1,p2,p3,p4,p5,f5,l5⟩:=As Eb;have J0:=A0 Eb;clear hat Eb)
 have HGrow:=A0 hgrow;have HOwn7:=A0 Fy;have Jy:=A0 ((HGrow.o.block _ (A5 (alloc_old HZ6.o)) (by simp)).trans (alloc_old HZ6.o));have Jx:Hid (RS b tb cap te xs w7 y.2):=(Jw.o.alloc _).grown HGrow.o (by simp) (by simp);have Es:Hid (A1 b w w7):=(((((B2.o.alloc _).trans B9.o).trans Bn.o).alloc _).grown HGrow.o (fun k e=>by cases e));clear hgrow Fy p0 p1 p2 p3 p4 p5 f5 d0 d1 d2 d3 d4 d5 f2 hnil j0 j1 j2 j3 j4 j5 f4;refine(Gq (Jx.o.other (p:=⟨w1.heap.size+1,4,none⟩) (by show b≠w1.heap.size+1;omega) (by show tb≠w1.heap.size+1;omega) _) 19 (by omega) (by omega) [41] rfl).mono ?_;rintro e w8 ⟨rfl,F6,Cg⟩;have G7:=Cg.blk (Cn (p:=⟨w1.heap.size+1,4,none⟩) Jy.o (by show w.heap.size≠w1.heap.size+1;omega)) (by omega);have El:=Cg.blk (heap_set (j:=4) J0.o _) (by omega);simp only[List.setIfInBounds_toArray,List.set_cons_zero,List.set_cons_succ]at El;obtain⟨k0,k1,k2,k3,k4,k5,f1,l1⟩:=As G7;obtain⟨q0,q1,q2,q3,q4,q5,f3,l3⟩:=As El;have Jf:=A0 F6;have F4:=A0 Cg;clear F6 Cg G7 El;go_wp2;refine bodyPost_ret (v:=.agg #[.string ⟨#[112,117,115,104]⟩,.int .i64 ((A6 s).line:Nat),.string ⟨#[112,117,115,104]⟩,.int .i64 (A6 s).n,.slice (some ⟨g,0,none⟩) (0+2) Bw,.slice none 0 0]) ?_ rfl ?_
 ·simp[results,Tryz.results223,go_sem,k0,k1,k2,k3,k4,k5]
 rw[HRR.o];refine Gc (I:=[112,117,115,104]) (S:=[112,117,115,104]) lb lt Jf.o ((A1.set (p:=⟨w1.heap.size+1,4,none⟩) Es.o (.inr (by show w.heap.size<=w1.heap.size+1;omega)) _).trans F4.o) (fun hb=>⟨rfl,?_⟩);have Kq:=L7 hb;have Bc:x.2.bad=0:=by
  rcases Nat.eq_zero_or_pos (Ah 24 x.2).bad with h|h
  ·exact L7 h
  ·exfalso;have hne:(Ah 24 x.2).bad≠0:=by omega
   have:=HST.o (Gj.o.Jb hne) hne;rw[this]at Kq;omega
 have Ch:=Io.o Bc;have Kt:=HRep6.o Kq;have hap:=Up (D:=fun k=>w1.heap.size+1<k) HGrow.o (by simpa using HOwn7.o) (fun k hk=>Below.heap_alloc w6 _ k hk) (by simp)
  ⟨Ch.1,Ak.keep (fun k hk hl=>⟨(Bn.o.block k (by omega) (by have h:w3.heap.size<=k:=hk;omega)).trans ((B9.o.block k (by rw[World.size_alloc];omega) (by have h:w3.heap.size<=k:=hk;omega)).trans (Below.heap_alloc w4 _ k hl)),by have h:w3.heap.size<=k:=hk;omega⟩) _ _ Ch.2⟩
  ⟨Kt.1,Ak.keep (fun k hk hl=>⟨rfl,by have h:w5.heap.size<=k:=hk;omega⟩) _ _ Kt.2⟩ (by show w1.heap.size+1<g;have:=HG.o;omega)
 have hkeep:∀k,w1.heap.size+1<k->k<w7.heap.size->w8.heap[k]?=w7.heap[k]?/\w.heap.size<k:=fun k hk hl=>
  ⟨(F4.o.block k (by simp[World.setCell];exact hl) (by omega)).trans (Below.heap_setCell _ _ _ _ (by show k≠w1.heap.size+1;omega)),by omega⟩
 exact Ak.one _ (B6 x.1 y.1) _ _ _ _ _ _ _ none 0 0 _ (by show(11:Nat)≠8;decide) (by show(11:Nat)≠20;decide) rfl (fun _=>rfl) (fun h=>absurd h (by show ¬(Hv 11=true);decide)) (fun h=>absurd h (by show ¬((11:Nat)=1);decide)) (hap.1.keep hkeep) (Ak.keep hkeep _ _ hap.2)
end
section
set_option maxRecDepth 100000
open Go.RowKit
open Go.Deep (BT)
variable {b tb cap te:Nat}{xs:List (Tk×List UInt8)}{n:Nat}
theorem Aby:∀k,k<=40->4<=k->(spell k==[116,114,117,101])=(k==13)/\(spell k==[102,97,108,115,101])=(k==14)/\(spell k==[110,117,108,108])=(k==15)/\(spell k==[40])=(k==18)/\(spell k==[91])=(k==22)/\(spell k==[108,101,110])=(k==16)/\(spell k==[112,117,115,104])=(k==17):=by decide +kernel
theorem A6j:∀k,k<=40->4<=k->(Bz k==101)=false/\(Bz k==105)=false/\(Bz k==116)=false/\(Bz k==110)=false:=by decide +kernel
theorem A21(w:World)(s:PS)(r:BT A2×PS)(h0:kT s≠0)(h1:kT s≠2)(h2:kT s≠3)(h3:kT s≠13)(h4:kT s≠14)(h5:kT s≠15)(h6:kT s≠1)(h7:kT s≠18)(h8:kT s≠22)(h9:kT s≠16)(h10:kT s≠17)
  (hs:RS b tb cap te xs w s) (hp:A7 (n+1) 4 0 .nil s=some r) :
  Calls Tryz.prog 223 #[.pointer (some ⟨b,0,none⟩)] w (Dn b tb cap te xs w r):=by
 have hrr:=Ns h1 h2 h3 h4 h5 h6 h7 h8 h9 h10 hp;obtain⟨lb,lt,lne⟩:=hs.lt;have Fb:kT s<=40:=by obtain⟨pl,h⟩:=hs;exact h.N7
 have Iu:4<=kT s:=by omega
 obtain⟨a1,a2,a3,a4,a5,a6,a7⟩:=Aby (kT s) Fb Iu;obtain⟨b0,b1,b2,b3⟩:=A6j (kT s) Fb Iu;have u1:(spell (kT s)==[116,114,117,101])=false:=a1.trans (by simpa using h3);have u2:(spell (kT s)==[102,97,108,115,101])=false:=a2.trans (by simpa using h4);have u3:(spell (kT s)==[110,117,108,108])=false:=a3.trans (by simpa using h5);have u4:(spell (kT s)==[40])=false:=a4.trans (by simpa using h7);have u5:(spell (kT s)==[91])=false:=a5.trans (by simpa using h8);have u6:(spell (kT s)==[108,101,110])=false:=a6.trans (by simpa using h9);have u7:(spell (kT s)==[112,117,115,104])=false:=a7.trans (by simpa using h10);have HF:=A0 hs.V3;have HS:=A0 hs;have HRR:=A0 hrr;have D8:=A0 h0;have HSp:Hid (Eu (A6 s)=spell (kT s)):=by
  show _=_;unfold Eu;rw[if_neg (by show ¬(kT s=1\/kT s=3);omega)];rfl
 have Im:Hid ((A6 s).k≠2):=h1;clear hp hs hrr h0 h1 h2 h3 h4 h5 h6 h7 h8 h9 h10 a1 a2 a3 a4 a5 a6 a7 Fb Iu;go_enter Tryz.func223,Tryz.ntmps223;go_wp2_with fail
 refine(Fl (HS.o.alloc _)).mono ?_;rintro e w1 ⟨S1,rfl,C6,Bo,A3⟩;have Du:=(C6 Im.o).trans HSp.o;subst Du;have Bj:=A0 (Bg A3 (heap_alloc_new w _));have Ae:Hid (A1 b w w1):=((A1.refl b w).alloc _).trans (Below.only A3);obtain⟨pl,hpl⟩:=Bo;obtain⟨e0,e1,e2⟩:=hpl.cells;have Cf:=(hpl.E7 D8.o).1;rw[Cf]at e2;have fb:=Ce hpl.rd;have F7:=A5 hpl.rd;have hfew:=hpl.toks.few;have hpll:=hpl.lt;have HPL:=A0 hpl;have l1:=A5 Bj.o;clear hpl A3 e0 Cf C6;go_wp2_with fail
 refine(Qu (RS.alloc (RS.alloc (show RS b tb cap te xs ((w1.setCell ⟨b,1,none⟩ (.int .i64 ((pl:Int)+1))).setCell ⟨b,1,none⟩ (.int .i64 (pl:Int))) s from⟨pl,HPL.o.back (.int .i64 ((pl:Int)+1)) (pl:Int) rfl⟩) _) _)).mono ?_;rintro e w3 ⟨rfl,Bq,Af⟩;have Av:((w1.setCell ⟨b,1,none⟩ (.int .i64 ((pl:Int)+1))).setCell ⟨b,1,none⟩ (.int .i64 (pl:Int))).heap.size=w1.heap.size:=by simp[World.setCell]
 have Dh:=Af.blk (alloc_old (alloc_old (Cn (p:=⟨b,1,none⟩) (Cn (p:=⟨b,1,none⟩) Bj.o (by show w.heap.size≠b;omega)) (by show w.heap.size≠b;omega)))) (by omega);have Cv:=Af.blk (g:=w1.heap.size+1) (by have:=heap_alloc_new (((w1.setCell ⟨b,1,none⟩ (.int .i64 ((pl:Int)+1))).setCell ⟨b,1,none⟩ (.int .i64 (pl:Int))).alloc (.cells #[.int .u8 (Bz (kT s)),.string ⟨(spell (kT s)).toArray⟩,.int .i64 (A6 s).n,.int .i64 ((A6 s).line:Nat)] 174)) (.cells #[.string ⟨(spell (kT s)).toArray⟩,.int .i64 ((A6 s).line:Nat),.string ⟨(spell (kT s)).toArray⟩,.int .i64 (A6 s).n,.slice none 0 0,.slice none 0 0] 77);rw[World.size_alloc,Av]at this;exact this) (by omega);obtain⟨k0,k1,k2,k3,k4,k5,f1,l3⟩:=As Dh;obtain⟨q0,q1,q2,q3,q4,q5,f3,l4⟩:=As Cv;have Cl:=A0 Bq;have Ay:Hid (A1 b w w3):=((A1.set (p:=⟨b,1,none⟩) (A1.set (p:=⟨b,1,none⟩) Ae.o (.inl rfl) _) (.inl rfl) _).alloc _ |>.alloc _).trans Af;clear Bq Af e1 e2 fb Dh Cv Av;go_wp2;refine bodyPost_ret (v:=.agg #[.string ⟨(spell (kT s)).toArray⟩,.int .i64 ((A6 s).line:Nat),.string ⟨(spell (kT s)).toArray⟩,.int .i64 (A6 s).n,.slice none 0 0,.slice none 0 0]) ?_ rfl ?_
 ·simp[results,Tryz.results223,go_sem,k0,k1,k2,k3,k4,k5]
 rw[HRR.o];exact Gc lb lt Cl.o Ay.o (fun hb=>absurd hb HF.o)
theorem A1q(ih:G5 b tb cap te xs n)(w:World)(s:PS)(r:BT A2×PS)(hs:RS b tb cap te xs w s)(hp:A7 (n+1) 4 0 .nil s=some r) :
  Calls Tryz.prog 223 #[.pointer (some ⟨b,0,none⟩)] w (Dn b tb cap te xs w r):=by
 by_cases h0:kT s=0
 ·exact A1t w s r h0 hs hp
 by_cases h1:kT s=2
 ·exact A1w w s r h1 hs hp
 by_cases h2:kT s=3
 ·exact A24 w s r h2 hs hp
 by_cases h3:kT s=13
 ·exact A25 w s r h3 hs hp
 by_cases h4:kT s=14
 ·exact A1u w s r h4 hs hp
 by_cases h5:kT s=15
 ·exact A22 w s r h5 hs hp
 by_cases h6:kT s=1
 ·by_cases h6':kT (Aa s)=18
  ·exact A1s ih w s r h6 h6' hs hp
  ·exact A20 w s r h6 h6' hs hp
 by_cases h7:kT s=18
 ·exact A1v ih w s r h7 hs hp
 by_cases h8:kT s=22
 ·exact A1r ih w s r h8 hs hp
 by_cases h9:kT s=16
 ·exact A1y ih w s r h9 hs hp
 by_cases h10:kT s=17
 ·exact A23 ih w s r h10 hs hp
 exact A21 w s r h0 h1 h2 h3 h4 h5 h6 h7 h8 h9 h10 hs hp
theorem Ad7(ih:∀m,m<=n->G5 b tb cap te xs m)(w:World)(s:PS)(r:BT A2×PS)(hs:RS b tb cap te xs w s)(hp:A7 (n+1) 2 0 .nil s=some r) :
  Calls Tryz.prog 169 #[.pointer (some ⟨b,0,none⟩)] w (Dn b tb cap te xs w r):=by
 by_cases h28:kT s=28
 ·exact unary_not (ih n (Nat.le_refl _)) w s r h28 hs hp
 by_cases h35:kT s=35
 ·exact unary_neg (ih n (Nat.le_refl _)) w s r h35 hs hp
 exact Ada ih w s r h28 h35 hs hp
theorem A5i(ih:∀m,m<=n->G5 b tb cap te xs m)(w:World)(s:PS)(a:Nat)(q:Int)(r:BT A2×PS)(ha:a<=6)(hq:q=a)(hs:RS b tb cap te xs w s)(hp:A7 (n+1) 0 a .nil s=some r) :
  Calls Tryz.prog 112 #[.pointer (some ⟨b,0,none⟩),.int .i64 q] w (Dn b tb cap te xs w r):=by
 by_cases h6:a=6
 ·subst h6;exact A5k (ih n (Nat.le_refl _)) w s q r hq hs hp
 ·exact A5j ih w s a q r (by omega) hq hs hp
end
section
set_option maxRecDepth 100000
open Go.RowKit
open Go.Deep (BT)
def A0o(b tb cap te:Nat)(xs:List (Tk×List UInt8))(n:Nat)(r:BT A2×PS)(w:World)(k:Nat)(v:Value)(wr:World):Prop:=
 ∃(acc:BT A2) (st:PS) (va:Option Addr) (vn vc cn:Nat) (cs:List Value),v=.slice va vn vc/\k<=n/\A7 k 8 0 acc st=some r/\
  RS b tb cap te xs wr st/\A1 b w wr/\cn+k<=n+1/\wr.ownsRow 0 77 6 (.slice va vn vc) cn cs/\(∀g,(Value.slice va vn vc).ownBlock=some g->w.heap.size<=g)/\
  (st.bad=0->cn=A8 acc/\Ak (fun g=>w.heap.size<=g/\(Value.slice va vn vc).ownBlock≠some g) wr acc cs)
theorem A2s{b tb cap te:Nat}{xs:List (Tk×List UInt8)}{n:Nat}(ih:∀m,m<=n->G5 b tb cap te xs m)(hn:n<=500000)(w:World)(s:PS)(r:BT A2×PS)(hs:RS b tb cap te xs w s)(hp:A7 (n+1) 7 0 .nil s=some r) :
  Calls Tryz.prog 110 #[.pointer (some ⟨b,0,none⟩)] w (Rh b tb cap te xs w r):=by
 obtain⟨lb,lt,lne⟩:=hs.lt;have HS:=A0 hs;have HIH:=A0 ih;have HP:=A0 (Te hp);clear hp hs ih;go_enter Tryz.func110,Tryz.ntmps110;go_wp2_with fail
 refine(Gq HS.o 20 (by omega) (by omega) [123] rfl).mono ?_;rintro e w1 ⟨rfl,Bo,B5⟩;have Ey:=A0 Bo;have Ae:=A0 B5;clear Bo B5;go_wp2;go_loopg [3] n (fun k v wr=>A0o b tb cap te xs n r w k v wr)
 case atStart=>
  exact⟨.nil,Ah 20 s,none,0,0,0,[],rfl,Nat.le_refl _,HP.o,Ey.o,Ae.o,by omega,World.ownsRow_nil _ _ _ _,(fun g hg=>by simp[Value.ownBlock]at hg),(fun _=>⟨rfl,rfl⟩)⟩
 case round=>
  clear HP Ey Ae;obtain⟨acc,st,va,vn,vc,cn,cs,rfl,hkn,hp,hrs,hO,hcn,hown,hlo,hrep⟩:=hrel;cases gk with
  | zero=>exact absurd hp (Cc _ _ _ _ _)
  | succ m=>
  obtain⟨cb,lbad⟩:=hrs.Nj;have lbr:b<wr.heap.size:=hrs.lt.1;have hsz:=hO.size;have HRS:=A0 hrs;have HO:=A0 hO;have HOwn:=A0 hown;have HLo:=A0 hlo;have HRep:=A0 hrep;by_cases hbad:st.bad=0
  ·by_cases h21:kT st=21
   ·have HE:=A0 (Vm h21 hp);have HM:=A0 (Nq h21);have hk:(kT st==21)=true:=by rw[h21];rfl
    rw[hbad]at cb;have HB:=A0 hbad;clear hp hrs hO hown hlo hrep h21 hbad;go_wp2_with fail
    refine(L0 HRS.o 21 (by omega) (by omega) [125] rfl).mono ?_;rintro e w2 ⟨rfl,Ec,Ap⟩;rw[hk];rw[HM.o]at Ec;have Fa:=A0 Ec;have Al:=A0 Ap;clear Ec Ap cb;go_wp2;go_ret;rw[HE.o];have hne:(Value.slice va vn vc).ownBlock≠some b:=fun e=>by have:=HLo.o b e;omega
    refine⟨va,vn,vc,cn,cs,rfl,⟨Mg HOwn.o Al.o hne,HLo.o⟩,by omega,Fa.o,HO.o.trans Al.o,fun h=>⟨(HRep.o HB.o).1,?_⟩⟩;refine Ak.keep (fun g hg hl=>⟨Al.o.block g hl ?_,hg.1⟩) _ _ (HRep.o HB.o).2;have:=hg.1;omega
   ·obtain⟨y,J8,Hu⟩:=Tf h21 hbad hp;have hu:=A0 (fun(w':World) h=>(HIH.o m (by omega)).stmt w' st y h J8);have HY:=A0 Hu;have HM:=A0 (N9 h21);have hk:(kT st==21)=false:=by simpa using h21
    rw[hbad]at cb;have HB:=A0 hbad;clear hp hrs hO hown hlo hrep h21 hbad J8 Hu;go_wp2_with fail
    refine(L0 HRS.o 21 (by omega) (by omega) [125] rfl).mono ?_;rintro e w2 ⟨rfl,Ec,Ap⟩;rw[hk];rw[HM.o]at Ec;have Fa:=A0 Ec;have Al:=A0 Ap;have hsz2:=Ap.size;clear Ec Ap cb;go_wp2_with fail
    refine(hu.out _ Fa.o).mono ?_;rintro e w4 ⟨I,S,ln,nn,D5,D7,D6,pa,pn,pc,rfl,Ch,An,Gy⟩;have hne:(Value.slice va vn vc).ownBlock≠some b:=fun e=>by have:=HLo.o b e;omega
    have HO24:Hid (A1 b wr w4):=Al.o.trans An;have K0:=(Mg HOwn.o HO24.o hne).alloc (.cells (Ax I S ln nn D5 D7 D6 pa pn pc) 77);have I8:=A0 Ch;have Io:=A0 Gy;clear Ch An Gy hne;go_wp2_with (at_builtin;refine F1 (w4.alloc (.cells (Ax I S ln nn D5 D7 D6 pa pn pc) 77)) (Ax I S ln nn D5 D7 D6 pa pn pc) 77 rfl (.tmp 18) (.tmp 20) 72 rfl 0 6 96 (.agg #[.string ⟨#[]⟩,.int .i64 0,.string ⟨#[]⟩,.int .i64 0,.slice none 0 0,.slice none 0 0]) Tryz.underlying72 Kz rfl (by omega) _ _ _ rfl (by simp;rfl) K0 rfl Ll (by omega) (by omega) (Nat.zero_le _) ?_;intro g Bw w5 Fj hgrow hat hg)
    replace hgrow:(w4.alloc (.cells (Ax I S ln nn D5 D7 D6 pa pn pc) 77)).grownBy w5 (Value.slice va vn vc).ownBlock:=hgrow;replace hat:(Value.slice va vn vc).ownBlock=some g\/g=(w4.alloc (.cells (Ax I S ln nn D5 D7 D6 pa pn pc) 77)).heap.size+1:=hat;have hrow:∀k,(Value.slice va vn vc).ownBlock=some k->k≠b/\k≠tb/\w.heap.size<=k:=fun k e=>by have:=HLo.o k e;omega
    go_roundg m
    case measure=>omega
    case rel=>
     have Dx:=HO24.o.size;refine⟨B6 acc y.1,y.2,some ⟨g,0,none⟩,cn+1,Bw,cn+1,cs++(Ax I S ln nn D5 D7 D6 pa pn pc).toList,rfl,by omega,HY.o,(I8.o.alloc _).grown hgrow (fun e=>(hrow b e).1 rfl) (fun e=>(hrow tb e).2.1 rfl),((HO.o.trans HO24.o).alloc _).grown hgrow (fun k e=>.inr (hrow k e).2.2),by omega,Fj,?_,fun hb=>⟨?_,?_⟩⟩
     ·intro k hk;simp only[Value.ownBlock,Option.some.injEq]at hk;rw[←hk];rcases hat with h|h
      ·exact(hrow g h).2.2
      ·rw[h];simp;omega
     ·have hr:=HRep.o HB.o;rw[Mr,(Io.o hb).1,hr.1]
     ·refine Rl lb hsz HO24.o (fun k hk=>Below.heap_alloc _ _ _ hk) (by simp) HOwn.o hgrow hat (HRep.o HB.o).2 ?_;exact Ak.keep (fun k hk hl=>⟨rfl,by have h:w2.heap.size<=k:=hk;omega⟩) _ _ (Io.o hb).2
  ·have e2:=Lm (hrs.Jb hbad) hbad _ _ _ _ _ hp;have Cf:((st.bad:Int)==0)=false:=by rw[beq_eq_false_iff_ne];omega
   have HE:=A0 e2;have HB:=A0 hbad;clear e2 hp hrs hO hbad hrep hown hlo;go_wp2;go_ret;refine⟨va,vn,vc,cn,cs,rfl,⟨HOwn.o,HLo.o⟩,by omega,by rw[HE.o];exact HRS.o,HO.o,fun h=>absurd (by rw[←HE.o];exact h) HB.o⟩
theorem T5{b tb cap te:Nat}{xs:List (Tk×List UInt8)}{n:Nat}(ih:G5 b tb cap te xs n)(w:World)(s:PS)(kd:Nat)(hkd:kd=31\/kd=32)(r:BT A2×PS)(hs:RS b tb cap te xs w s)(hp:A7 n 7 0 .nil s=some r) :
  Calls Tryz.prog 113 #[.pointer (some ⟨b,0,none⟩)] w (Dn b tb cap te xs w (nd (Ao kd 0) r.1,r.2)):=by
 obtain⟨lb,lt,lne⟩:=hs.lt;have hu:=A0 (fun(w':World) h=>ih.block w' s r h hp);have HS:=A0 hs;have hk8:kd≠8/\kd≠20/\kd≠1/\Hv kd=false/\Pn kd=false/\Dy kd=[98,108,111,99,107]:=by rcases hkd with e|e <;> subst e <;> decide
 have HK:=A0 hk8;clear hp hs ih hkd hk8;go_enter Tryz.func113,Tryz.ntmps113;go_wp2_with fail
 refine(hu.out _ (HS.o.alloc _)).mono ?_;rintro e w3 ⟨va,vn,vc,cn,cs,rfl,J6,hcn,Bq,Af,Fc⟩;have Ay:Hid (A1 b w w3):=((A1.refl b w).alloc _).trans Af;obtain⟨k0,k1,k2,k3,k4,k5,f1,l1⟩:=As (Af.blk (heap_alloc_new w _) (by omega));have Cl:=A0 Bq;have HOwn3:=A0 J6;have Gt:=A0 Fc;clear Bq J6 Fc Af;go_wp2;refine bodyPost_ret (v:=.agg #[.string ⟨#[98,108,111,99,107]⟩,.int .i64 0,.string ⟨#[]⟩,.int .i64 0,.slice va vn vc,.slice none 0 0]) ?_ rfl ?_
 ·simp[results,Tryz.results113,go_sem,k0,k1,k2,k3,k4,k5]
 refine Gc (I:=[98,108,111,99,107]) (S:=[]) lb lt Cl.o Ay.o (fun hb=>⟨rfl,?_⟩);obtain⟨hcb,hr⟩:=Gt.o hb;have hkeep:∀g,(w.alloc (.cells #[.string ⟨#[]⟩,.int .i64 0,.string ⟨#[]⟩,.int .i64 0,.slice none 0 0,.slice none 0 0] 77)).heap.size<=g->g<w3.heap.size->w3.heap[g]?=w3.heap[g]?/\w.heap.size<g:=fun g hg hl=>by
  rw[World.size_alloc]at hg;exact⟨rfl,by omega⟩
 obtain⟨q1,q2,q3,q4,q5,q6⟩:=HK.o;refine Ak.one (Ao kd 0) r.1 _ _ _ _ va vn vc none 0 0 cs q1 q2 q6.symm (fun h=>absurd h (by show ¬(Pn kd=true);rw[q5];decide)) (fun h=>absurd h (by show ¬(Hv kd=true);rw[q4];decide)) (fun h=>absurd h q3) ?_ (Ak.keep hkeep _ _ hr) (fun h=>absurd q5 (by rw[show kd=12 from h];decide));rw[←hcb];exact HOwn3.o.keep hkeep
end
section
open Go.RowKit
open Go.Deep (BT)
theorem Ad1{xs:List (Tk×List UInt8)}(h:Sp xs):∀m pl,pl+m=xs.length->0<m->Qf ((xs.drop pl).map (·.1)):=by
 intro m;induction m with
 | zero=>intro pl _ h0;omega
 | succ m ih=>
  intro pl he _;have hlt:pl<xs.length:=by omega
  rw[List.drop_eq_getElem_cons hlt,List.map_cons];refine⟨(h.line _ (List.getElem_mem hlt)).1,?_⟩;by_cases hk:xs[pl].1.k=0
  ·exact .inl hk
  ·right;refine ih (pl+1) (by omega) ?_;rcases Nat.eq_zero_or_pos m with e|e
   ·exact absurd ((h.last pl hlt).2 (by omega)) hk
   ·exact e
theorem RS.wf{b tb cap te:Nat}{xs:List (Tk×List UInt8)}{w:World}{s:PS}(h:RS b tb cap te xs w s):WF s:=by
 obtain⟨pl,h⟩:=h;refine⟨fun hb=>?_,fun hb=>(h.bad hb).1⟩;rw[h.good hb];exact Ad1 h.toks (xs.length-pl) pl (by have:=h.lt;omega) (by have:=h.lt;omega)
theorem Vc{b tb cap te:Nat}{xs:List (Tk×List UInt8)}{w w2:World}{s s2:PS}{pl2:Nat}(h1:RS b tb cap te xs w s)(h2:Dc b tb cap te xs w2 s2 pl2)(hb:s2.bad=0)(hl:Le s s2):1<=pl2:=by
 obtain⟨pl,h1⟩:=h1;obtain⟨h0,l⟩:=hl hb;rw[h1.good h0,h2.good hb]at l;simp only[List.length_map,List.length_drop]at l;omega
theorem Wl{b tb cap te k:Nat}{xs:List (Tk×List UInt8)}{w w2:World}{s s2:PS}{pl2:Nat}(h1:RS b tb cap te xs w s)(h2:Dc b tb cap te xs w2 s2 pl2)(hb:s2.bad=0)(ht:N0 k s s2)(hj:pl2-1<xs.length):(xs[pl2-1]).1.k=k:=by
 obtain⟨pl,h1⟩:=h1;obtain⟨h0,pre,x,e,hx⟩:=ht hb;rw[h1.good h0,h2.good hb]at e;have hlen:=congrArg List.length e;simp only[List.length_map,List.length_drop,List.length_append,List.length_cons]at hlen;have l1:=h1.lt;have l2:=h2.lt;have e2:=congrArg (fun l=>l[pre.length]?) e;simp only[List.getElem?_append_right (Nat.le_refl _),Nat.sub_self,List.getElem?_cons_zero,List.getElem?_map,List.getElem?_drop]at e2;rw[show pl+pre.length=pl2-1 by omega,List.getElem?_eq_getElem hj]at e2;simp only[Option.map_some,Option.some.injEq]at e2;rw[e2];exact hx
theorem Ms:∀f:BT A2,A8 f=0->f=.nil:=by
 intro f h;cases f with
 | nil=>rfl
 | node x y l c r=>simp[A8]at h
theorem W0{D:Nat->Prop}{w:World}{x:BT A2}{I S:List UInt8}{ln nn:Int}{va:Option Addr}{vn vc:Nat}{pa:Option Addr}{pn pc:Nat}(h1:A8 x=1)(h:Ak D w x (Ax I S ln nn va vn vc pa pn pc).toList)(h8:(Dd x).kd≠8) :
  I=Dy (Dd x).kd/\(Pn (Dd x).kd=true->ln=(Dd x).line)/\(Hv (Dd x).kd=true->S=(Dd x).s)/\((Dd x).kd=12->vc=vn)/\
  ∃c1,C1 D w 77 6 (.slice va vn vc) (A8 (M6 x)) c1/\Ak D w (M6 x) c1:=by
 cases x with
 | nil=>simp[A8]at h1
 | node i j l c r=>
  have hr:r=.nil:=Ms r (by simp only[A8]at h1;omega);subst hr;rw[Ak,if_neg (by exact h8)]at h;obtain⟨ln',nn',S',v,pv,c1,c2,_,e,k1,k2,k3,k12,k4,k5,_,_⟩:=h;simp only[Ax]at e;injection e with e1 e;injection e with e2 e;injection e with e3 e;injection e with e4 e;injection e with e5 e;injection e1 with e1;injection e2 with _ e2;injection e3 with e3;have hI:I=Dy l.kd:=by
   have:=congrArg (fun b=>b.data.toList) e1;simpa using this
  have hS:S=S':=by
   have:=congrArg (fun b=>b.data.toList) e3;simpa using this
  subst e2 hS e5;refine⟨hI,k1,k2,fun e=>?_,c1,k4,k5⟩;obtain⟨a,n,hh⟩:=k12 e;injection hh with h1 h2 h3;rw[h2,h3]
theorem A6e:∀kd,kd<=140->(kd<=14\/127<=kd)->kd≠8->(Dy kd==[110,97,109,101])=(kd==6)/\(Dy kd==[105,110,100,101,120])=(kd==12):=by decide +kernel
end
section
set_option maxRecDepth 100000
open Go.RowKit
open Go.Deep (BT)
theorem Abl{b tb cap te:Nat}{xs:List (Tk×List UInt8)}{n:Nat}(ih:G5 b tb cap te xs n)(w:World)(s:PS)(r x:BT A2×PS)(hs:RS b tb cap te xs w s)(By:A7 n 0 0 .nil s=some x)(hk:kT x.2≠26)(hrr:r=(nd (Ao 30 (Dd x.1).line) x.1,Ah 25 x.2)) :
  Calls Tryz.prog 111 #[.pointer (some ⟨b,0,none⟩)] w (Dn b tb cap te xs w r):=by
 have HRR:=A0 hrr;have hu:=A0 (fun(w':World) h=>ih.expr w' s 0 0 x (by omega) (by omega) h By);have hq:(kT x.2==26)=false:=by simpa using hk
 obtain⟨lb,lt,lne⟩:=hs.lt;have HS:=A0 hs;clear By hrr ih hs hk;go_enter Tryz.func111,Tryz.ntmps111;go_wp2_with fail
 refine(hu.out _ (HS.o.alloc _)).mono ?_;rintro e w1 ⟨I,S,ln,nn,va,vn,vc,pa,pn,pc,rfl,Bo,B5,hrep1⟩;have Bj:=A0 (B5.blk (heap_alloc_new w _) (by omega));have Ae:Hid (A1 b w w1):=((A1.refl b w).alloc _).trans B5;have Ey:=A0 Bo;have HRep1:=A0 hrep1;clear Bo B5 hrep1;go_wp2_with fail
 refine(Ov (((Ey.o.alloc _).alloc _).alloc _) 26 (by omega) (by omega) [61] rfl).mono ?_;rintro e w2 ⟨rfl,Ec,A9⟩;rw[hq];have Cz:b<w1.heap.size:=Ey.o.lt.1;have lz1:=A5 Bj.o;have hsz2:w1.heap.size+3<=w2.heap.size:=by have:=A9.size;simpa using this
 have Jg:=A0 (Bg A9 (heap_alloc_new ((w1.alloc (.cells (Ax I S ln nn va vn vc pa pn pc) 77)).alloc (.cells (Ax I S ln nn va vn vc pa pn pc) 77)) (.cells #[.string ⟨#[100,111]⟩,.int .i64 ln,.string ⟨#[]⟩,.int .i64 0,.slice (some ⟨w1.heap.size+1,0,none⟩) 1 1,.slice none 0 0] 77)));have C8:=A0 (Bg A9 (alloc_old (heap_alloc_new (w1.alloc (.cells (Ax I S ln nn va vn vc pa pn pc) 77)) (.cells (Ax I S ln nn va vn vc pa pn pc) 77))));have Cb:=A0 (Bg A9 (alloc_old (alloc_old (alloc_old Bj.o))));have Im:Hid (∀k,k<w1.heap.size->w2.heap[k]?=w1.heap[k]?):=fun k hk=>(A9.block k (by simp;omega)).trans ((Below.heap_alloc _ _ _ (by simp;omega)).trans ((Below.heap_alloc _ _ _ (by simp;omega)).trans (Below.heap_alloc _ _ _ hk)));have Al:Hid (A1 b w w2):=(((Ae.o.alloc _).alloc _).alloc _).trans (Below.only A9);have Fa:=A0 Ec;clear Ec A9;go_wp2_with fail
 refine(Gq Fa.o 25 (by omega) (by omega) [59] rfl).mono ?_;rintro e w4 ⟨rfl,Dr,An⟩;have It:=An.blk Jg.o (by simp;omega);simp only[World.size_alloc]at It;have hZ4:=An.blk Cb.o (by omega);obtain⟨k0,k1,k2,k3,k4,k5,f1,l1⟩:=As hZ4;obtain⟨d0,d1,d2,d3,d4,d5,f2,l2⟩:=As It;have G3:=A0 Dr;have B2:=A0 An;clear Dr An It hZ4;go_wp2;refine bodyPost_ret (v:=.agg #[.string ⟨#[100,111]⟩,.int .i64 ln,.string ⟨#[]⟩,.int .i64 0,.slice (some ⟨w1.heap.size+1,0,none⟩) 1 1,.slice none 0 0]) ?_ rfl ?_
 ·simp[results,Tryz.results111,go_sem,k0,k1,k2,k3,k4,k5]
 rw[HRR.o];refine Gc (I:=[100,111]) (S:=[]) lb lt G3.o (Al.o.trans B2.o) (fun hb=>⟨rfl,?_⟩);have B0:=HRep1.o (L7 hb);have hL:=B2.o.blk C8.o (by simp;omega);simp only[World.size_alloc]at hL;refine Ak.one (Ao 30 (Dd x.1).line) x.1 _ _ _ _ _ _ _ _ _ _ (Ax I S ln nn va vn vc pa pn pc).toList (by show(30:Nat)≠8;decide) (by show(30:Nat)≠20;decide) rfl (fun h=>absurd h (by show ¬(Pn 30=true);decide)) (fun h=>absurd h (by show ¬(Hv 30=true);decide)) (fun h=>absurd h (by show ¬((30:Nat)=1);decide)) ?_ (Ak.keep (fun k hk hl=>⟨?_,?_⟩) _ _ B0.2)
 ·rw[B0.1];exact Pq hL rfl (by omega) (by omega)
 ·exact(B2.o.block k (by omega) (by simp at hk;omega)).trans (Im.o k hl)
 ·simp at hk;omega
theorem p7{w:World}{g:Nat}{a0 a1 a2 a3 a4 a5:Value}{t:TypeId}{fr:Nat×Nat}(h:w.heap[g]?=some (.cells #[a0,a1,a2,a3,a4,a5] t fr))(u0 u1 u2 u3 u4 u5:Value) :
  ((((((w.setCell ⟨g,0,none⟩ u0).setCell ⟨g,1,none⟩ u1).setCell ⟨g,2,none⟩ u2).setCell ⟨g,3,none⟩ u3).setCell ⟨g,4,none⟩ u4).setCell ⟨g,5,none⟩ u5).heap[g]?=some (.cells #[u0,u1,u2,u3,u4,u5] t fr):=by
 have:=heap_set (j:=5) (heap_set (j:=4) (heap_set (j:=3) (heap_set (j:=2) (heap_set (j:=1) (heap_set (j:=0) h u0) u1) u2) u3) u4) u5;simpa using this
theorem Abm{b tb cap te:Nat}{xs:List (Tk×List UInt8)}{n:Nat}(ih:G5 b tb cap te xs n)(w:World)(s:PS)(r x v:BT A2×PS)(hs:RS b tb cap te xs w s)(By:A7 n 0 0 .nil s=some x)(hk:kT x.2=26)(Dw:A7 n 0 0 .nil (Aa x.2)=some v)(h6:(Dd x.1).kd=6)(hrr:r=(setNode x.1 v.1,Ah 25 v.2)) :
  Calls Tryz.prog 111 #[.pointer (some ⟨b,0,none⟩)] w (Dn b tb cap te xs w r):=by
 have HRR:=A0 hrr;have hu:=A0 (fun(w':World) h=>ih.expr w' s 0 0 x (by omega) (by omega) h By);have hu2:=A0 (fun(w':World) h=>ih.expr w' (Aa x.2) 0 0 v (by omega) (by omega) h Dw);have hq:(kT x.2==26)=true:=by rw[hk];rfl
 have hgood:x.2.bad=0:=Pk (hs.wf |> fun h=>(Cj _ _ _ _ _ _ h By).1) (by omega);have hless:=V2 _ _ _ _ hs.wf By;have hlast:=Vn _ _ _ _ hs.wf (by omega) By;have hkd:=V1 _ _ _ _ By;have HW26:Hid (Ah 26 x.2=Aa x.2):=by
  show _=_;unfold Ah;rw[if_pos hk]
 obtain⟨lb,lt,lne⟩:=hs.lt;have HS:=A0 hs;clear By Dw hrr ih;go_enter Tryz.func111,Tryz.ntmps111;go_wp2_with fail
 refine(hu.out _ (HS.o.alloc _)).mono ?_;rintro e w1 ⟨I,S,ln,nn,va,vn,vc,pa,pn,pc,rfl,Bo,B5,hrep1⟩;have Bj:=A0 (B5.blk (heap_alloc_new w _) (by omega));have Ae:Hid (A1 b w w1):=((A1.refl b w).alloc _).trans B5;have Ey:=A0 Bo;have HRep1:=A0 (hrep1 hgood);have lz1:=A5 Bj.o;clear B5 hrep1;go_wp2_with fail
 refine(Ov (((Ey.o.alloc _).alloc _).alloc _) 26 (by omega) (by omega) [61] rfl).mono ?_;rintro e w2 ⟨rfl,Ec,A9⟩;rw[hq];have Cz:b<w1.heap.size:=Ey.o.lt.1;have hsz2:w1.heap.size+3<=w2.heap.size:=by have:=A9.size;simpa using this
 have Jg:=A0 (Bg A9 (heap_alloc_new ((w1.alloc (.cells (Ax I S ln nn va vn vc pa pn pc) 77)).alloc (.cells (Ax I S ln nn va vn vc pa pn pc) 77)) (.cells #[.string ⟨#[100,111]⟩,.int .i64 ln,.string ⟨#[]⟩,.int .i64 0,.slice (some ⟨w1.heap.size+1,0,none⟩) 1 1,.slice none 0 0] 77)));have hX2':=Jg.o;simp only[World.size_alloc]at hX2';obtain⟨x0,x1,x2,x3,x4,x5,fX,lX⟩:=As hX2';replace Jg:=A0 hX2';clear hX2';have HE2:=A0 (Bg A9 (alloc_old (alloc_old (heap_alloc_new w1 (.cells (Ax I S ln nn va vn vc pa pn pc) 77)))));have Cb:=A0 (Bg A9 (alloc_old (alloc_old (alloc_old Bj.o))));have Im:Hid (∀k,k<w1.heap.size->w2.heap[k]?=w1.heap[k]?):=fun k hk=>(A9.block k (by simp;omega)).trans ((Below.heap_alloc _ _ _ (by simp;omega)).trans ((Below.heap_alloc _ _ _ (by simp;omega)).trans (Below.heap_alloc _ _ _ hk)));have Al:Hid (A1 b w w2):=(((Ae.o.alloc _).alloc _).alloc _).trans (Below.only A9);have Fa:=A0 Ec;obtain⟨pl,hpl⟩:=Ec;have hpos:=Vc HS.o hpl hgood hless;have hlt:=hpl.lt;have hfew:=hpl.toks.few;obtain⟨j,rfl⟩:∃j,pl=j+1:=⟨pl-1,by omega⟩;obtain⟨e0,e1,e2⟩:=hpl.cells;replace e1:w2.cell? ⟨b,1,none⟩=some (.int .i64 ((j:Int)+1)):=e1;have hj:j<xs.length:=by omega
 have d0:=hpl.L6 j 0 hj (by omega);have d1:=hpl.L6 j 1 hj (by omega);have lb2:=A5 hpl.rd;have ltb2:=hpl.Mx;rw[H9]at d0 d1;simp only[Nat.add_zero,List.getElem?_cons_zero,List.getElem?_cons_succ]at d0 d1;have hkk:=Wl HS.o hpl hgood (hlast.1 h6) hj;have hkind:(Bz (xs[j]).1.k==115)=false:=by
  have hkk':(xs[j]).1.k=1:=hkk;rw[hkk'];rfl
 obtain⟨hI,hln,hS,_,_⟩:=W0 HRep1.o.1 HRep1.o.2 (by rw[h6];decide);have hI':I=[110,97,109,101]:=hI.trans (by rw[h6];rfl);have HLn:=A0 (hln (by rw[h6];rfl));have HSS:=A0 (hS (by rw[h6];rfl));subst hI';clear hI hln hS hkk;obtain⟨p0,p1,p2,p3,p4,p5,fE,lE⟩:=As HE2.o;clear A9 hpl hs hless hlast;generalize xs[j]=tk at *;go_wp2_with fail
 cases hc:(tk.2==[41]);all_goals go_quiet (fail)
 all_goals go_wp2_with fail
 all_goals
  have Cl:=A0 (RS.Od (Fa.o.drewN nq) (g:=w1.heap.size+1+1) (by omega) (by omega) (.string ⟨#[115,101,116]⟩) (.int .i64 ln) (.string ⟨S.toArray⟩) (.int .i64 0) (.slice none 0 0) (.slice none 0 0));have Ay:=A0 (A1.Of (Al.o.drewN nq) (g:=w1.heap.size+1+1) (by omega) (.string ⟨#[115,101,116]⟩) (.int .i64 ln) (.string ⟨S.toArray⟩) (.int .i64 0) (.slice none 0 0) (.slice none 0 0));have Ej:=A0 (p7 (w:=w2.drewN nq) Jg.o (.string ⟨#[115,101,116]⟩) (.int .i64 ln) (.string ⟨S.toArray⟩) (.int .i64 0) (.slice none 0 0) (.slice none 0 0));have E4:=A0 ((Nv (w:=w2.drewN nq) (k:=w.heap.size) (g:=w1.heap.size+1+1) (by omega) (.string ⟨#[115,101,116]⟩) (.int .i64 ln) (.string ⟨S.toArray⟩) (.int .i64 0) (.slice none 0 0) (.slice none 0 0)).trans Cb.o);have J7:=Nw (w2.drewN nq) (w1.heap.size+1+1) (.string ⟨#[115,101,116]⟩) (.int .i64 ln) (.string ⟨S.toArray⟩) (.int .i64 0) (.slice none 0 0) (.slice none 0 0);replace J7:=J7.trans (show(w2.drewN nq).heap.size=w2.heap.size from rfl);clear e0 e1 e2 d0 d1 p0 p1 p2 p3 p4 p5 fE lE x0 x1 x2 x3 x4 x5 fX lX hkind hc Jg Cb HE2 Al Fa;generalize ((((((w2.drewN nq).setCell ⟨w1.heap.size+1+1,0,none⟩ (.string ⟨#[115,101,116]⟩)).setCell ⟨w1.heap.size+1+1,1,none⟩ (.int .i64 ln)).setCell ⟨w1.heap.size+1+1,2,none⟩ (.string ⟨S.toArray⟩)).setCell ⟨w1.heap.size+1+1,3,none⟩ (.int .i64 0)).setCell ⟨w1.heap.size+1+1,4,none⟩ (.slice none 0 0)).setCell ⟨w1.heap.size+1+1,5,none⟩ (.slice none 0 0)=W3 at *;refine(Gq Cl.o 26 (by omega) (by omega) [61] rfl).mono ?_;rintro e w4 ⟨rfl,Dr,An⟩;rw[HW26.o]at Dr;have Ib:=A0 (An.blk E4.o (by omega));have Gu:=A0 (An.blk Ej.o (by omega));have B2:Hid (A1 b w w4):=Ay.o.trans An;have hsz4:=An.size;have G3:=A0 Dr;clear Dr An;go_wp2_with fail
  refine(hu2.out _ G3.o).mono ?_;rintro e w5 ⟨I,S5,Ff,Gb,Ft,Fv,Fu,Hw,Hy,Hx,rfl,Fq,Bd,hrep5⟩;have Fx:=A0 (Bd.blk Ib.o (by omega));have Fp:=A0 (Bd.blk Gu.o (by omega));have B9:Hid (A1 b w w5):=B2.o.trans Bd;have hsz5:=Bd.size;obtain⟨d0,d1,d2,d3,d4,d5,f2,l2⟩:=As Fp.o;have Gj:=A0 Fq;have HRep5:=A0 hrep5;have hnil:=World.ownsRow_nil (w5.alloc (.cells (Ax I S5 Ff Gb Ft Fv Fu Hw Hy Hx) 77)) 0 77 6;clear Fq Bd hrep5;go_wp2_with (at_builtin;refine F1 (w5.alloc (.cells (Ax I S5 Ff Gb Ft Fv Fu Hw Hy Hx) 77)) (Ax I S5 Ff Gb Ft Fv Fu Hw Hy Hx) 77 rfl (.tmp 75) (.tmp 77) 72 rfl 0 6 96 (.agg #[.string ⟨#[]⟩,.int .i64 0,.string ⟨#[]⟩,.int .i64 0,.slice none 0 0,.slice none 0 0]) Tryz.underlying72 Kz rfl (by omega) (.slice none 0 0) 0 [] rfl (by simp;rfl) hnil rfl Ll (by omega) (by omega) (Nat.zero_le _) ?_;intro g Bw w7 Fy hgrow hat hg;have HG:Hid (g=w5.heap.size+1+1):=(by show g=_;rcases hat with h|h;exact absurd h (by simp[Value.ownBlock]);simpa using h);replace hgrow:(w5.alloc (.cells (Ax I S5 Ff Gb Ft Fv Fu Hw Hy Hx) 77)).grownBy w7 none:=hgrow;have Eb:=(hgrow.block _ (A5 (alloc_old Fp.o)) (by simp)).trans (alloc_old Fp.o);obtain⟨p0,p1,p2,p3,p4,p5,f5,l5⟩:=As Eb;have J0:=A0 Eb;clear hat Eb)
  have HGrow:=A0 hgrow;have HOwn7:=A0 Fy;have Jy:=A0 ((HGrow.o.block _ (A5 (alloc_old Fx.o)) (by simp)).trans (alloc_old Fx.o));have Jx:Hid (RS b tb cap te xs w7 v.2):=(Gj.o.alloc _).grown HGrow.o (by simp) (by simp);have Es:Hid (A1 b w w7):=(B9.o.alloc _).grown HGrow.o (fun k e=>by cases e);clear hgrow Fy p0 p1 p2 p3 p4 p5 f5 d0 d1 d2 d3 d4 d5 f2 hnil;refine(Gq (Jx.o.other (p:=⟨w1.heap.size+1+1,4,none⟩) (by show b≠w1.heap.size+1+1;omega) (by show tb≠w1.heap.size+1+1;omega) _) 25 (by omega) (by omega) [59] rfl).mono ?_;rintro e w8 ⟨rfl,F6,Cg⟩;have G7:=Cg.blk (Cn (p:=⟨w1.heap.size+1+1,4,none⟩) Jy.o (by show w.heap.size≠w1.heap.size+1+1;omega)) (by omega);have El:=Cg.blk (heap_set (j:=4) J0.o _) (by omega);simp only[List.setIfInBounds_toArray,List.set_cons_zero,List.set_cons_succ]at El;obtain⟨k0,k1,k2,k3,k4,k5,f1,l1⟩:=As G7;obtain⟨q0,q1,q2,q3,q4,q5,f3,l3⟩:=As El;have Jf:=A0 F6;have F4:=A0 Cg;clear F6 Cg G7 El;go_wp2;refine bodyPost_ret (v:=.agg #[.string ⟨#[115,101,116]⟩,.int .i64 ln,.string ⟨S.toArray⟩,.int .i64 0,.slice (some ⟨g,0,none⟩) (0+1) Bw,.slice none 0 0]) ?_ rfl ?_
  ·simp[results,Tryz.results111,go_sem,k0,k1,k2,k3,k4,k5]
  rw[HRR.o];have hset:setNode x.1 v.1=nd ⟨28,(Dd x.1).line,(Dd x.1).s,0,[]⟩ v.1:=by unfold setNode;rw[if_pos h6]
  rw[hset];refine Gc (I:=[115,101,116]) lb lt Jf.o ((A1.set (p:=⟨w1.heap.size+1+1,4,none⟩) Es.o (.inr (by show w.heap.size<=w1.heap.size+1+1;omega)) _).trans F4.o) (fun hb=>⟨rfl,?_⟩);have C7:v.2.bad=0:=L7 hb;have Ch:=HRep5.o C7;have hap:=Rk (D:=fun k=>w1.heap.size+1+1<k) HGrow.o HOwn7.o (fun k hk=>Below.heap_alloc w5 _ k hk) (by simp) ⟨Ch.1,Ak.keep (fun k hk hl=>⟨rfl,by have h:w4.heap.size<=k:=hk;omega⟩) _ _ Ch.2⟩ (by show w1.heap.size+1+1<g;have:=HG.o;omega);have hkeep:∀k,w1.heap.size+1+1<k->k<w7.heap.size->w8.heap[k]?=w7.heap[k]?/\w.heap.size<k:=fun k hk hl=>
   ⟨(F4.o.block k (by simp[World.setCell];exact hl) (by omega)).trans (Below.heap_setCell _ _ _ _ (by show k≠w1.heap.size+1+1;omega)),by omega⟩
  exact Ak.one _ v.1 _ _ _ _ _ _ _ none 0 0 _ (by show(28:Nat)≠8;decide) (by show(28:Nat)≠20;decide) rfl (fun _=>HLn.o) (fun _=>HSS.o) (fun h=>absurd h (by show ¬((28:Nat)=1);decide)) (hap.1.keep hkeep) (Ak.keep hkeep _ _ hap.2)
end
end Go.Proofs.YtjdlndhfaaolaaaGreatDoor
