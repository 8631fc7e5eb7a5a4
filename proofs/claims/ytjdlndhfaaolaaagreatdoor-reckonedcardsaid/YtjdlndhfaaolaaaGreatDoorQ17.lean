import Derived.Deep.RegionHeld3
import Derived.Test.YtjdlndhfaaolaaaGreatDoorQ13
set_option maxHeartbeats 20000000
namespace Go.Proofs.YtjdlndhfaaolaaaGreatDoor
section
set_option maxRecDepth 100000
open Go.RowKit
open Go.Deep (BT)
def Alr(b tb cap te:Nat)(ts:List Tk)(n:Nat)(r:BT A6×PS)(w:World)(k:Nat)(v:Value)(wr:World):Prop:=
 ∃(acc:BT A6) (st:PS) (ty:TypeId) (x:Value),v=.iface ty x/\k<=n/\Af k 3 0 acc st=some r/\PR b tb cap te ts wr st/\A7 b w wr/\(st.bad=0->Al (fun g=>w.heap.size<=g) wr acc [.iface ty x])
theorem A7l{b tb cap te:Nat}{ts:List Tk}{n:Nat}(ih:∀m,m<=n->Ii b tb cap te ts m)(w:World)(s:PS)(r:BT A6×PS)(x:BT A6×PS)(hs:PR b tb cap te ts w s)(hx:Af n 4 0 .nil s=some x)(hp:Af n 3 0 x.1 x.2=some r) :
  Calls Tryz.prog 285 #[.pointer (some ⟨b,0,none⟩)] w (H9 b tb cap te ts w r):=by
 have HS:=A0 hs;have lb:=hs.lt;have HP0:=A0 hp;have HX:=A0 (fun(W:World) (h:PR b tb cap te ts W s)=>(ih n (Nat.le_refl _)).atom W s x h hx);have I9:=L9;clear hp hs hx;go_enter Tryz.func285,Tryz.ntmps285;go_wp2_with fail
 refine(HX.o _ HS.o).mono ?_;rintro e w1 ⟨ty1,x1,rfl,h1,Bw,Ap⟩;have Bu:=A0 Bw;have Az:Hid (A7 b w w1):=(A7.refl b w).trans Bu.o;have Dk:=Az.o.size;have F5:=A0 Ap;have H1:=A0 h1;clear h1 Bw Ap;go_wp2;go_loopg [3] n (fun k v wr=>Alr b tb cap te ts n r w k v wr)
 case atStart=>exact⟨x.1,x.2,ty1,x1,rfl,Nat.le_refl _,HP0.o,H1.o,Az.o,F5.o⟩
 case round=>
  clear HP0 H1 Az F5 Bu HX HS Dk;obtain⟨acc,st,ty,x0,rfl,hkn,hpk,hrs,hO,hrep⟩:=hrel;cases gk with
  | zero=>exact absurd hpk (G9 _ _ _ _ _)
  | succ m=>
  have HRS:=A0 hrs;have HOr:=A0 hO;have HRep:=A0 hrep;have lwr:=hO.size;by_cases c22:kT st=22
  ·obtain⟨z,Bv,By⟩:=y8 c22 hpk;have HZ2:=A0 By;have HZ1:=A0 Bv;have HX:=A0 (fun(W:World) (h:PR b tb cap te ts W (Ao st))=>Kk (ih m (by omega)) W (Ao st) z h Bv);have tk:((kT st:Int)==22)=true:=ke (c:=22) rfl c22;have Ae:Hid (st.bad=0):=hrs.Gt (by omega);clear Bv By c22 hpk hrs hO hrep;go_wp2_with fail
   refine(Dl HRS.o).mono ?_;rintro e w4 ⟨rfl,h4,B4⟩;have Cy:=A0 (Below.only (b:=b) B4);have C2:Hid (A7 b wr w4):=(A7.refl b wr).trans Cy.o;have lw4:=C2.o.size;have H4:=A0 h4;clear h4 B4;go_wp2_with fail
   refine(Gv H4.o).mono ?_;rintro e w5 ⟨ln5,nn5,S5,rfl,htk5,h5,E5⟩;have Eo:=A0 E5;have C4:Hid (A7 b wr w5):=C2.o.trans Eo.o;have lw5:=C4.o.size;have HTk5:=A0 htk5;have H5:=A0 h5;clear h5 E5 htk5;go_wp2_with fail
   refine(HX.o _ H5.o).mono ?_;rintro e w6 ⟨ty6,x6,rfl,h6,J4,hr6⟩;have HP6:=A0 J4;have Df:Hid (A7 b wr w6):=C4.o.trans HP6.o;have lw6:=Df.o.size;have HR6:=A0 hr6;have H6:=A0 h6;clear h6 J4 hr6;have HCl:Hid (H9 b tb cap te ts w (nd (Ba 12 (B1 st).line) (E0 acc z.1),z.2) (.returned (.iface 310 (.pointer (some ⟨w6.heap.size,0,none⟩)))) (w6.alloc (.cells #[.int .i64 ln5,.iface ty x0,.iface ty6 x6] 312))):=by
    refine Hi (l:=Ba 12 (B1 st).line) (ch:=E0 acc z.1) (ks:=[.iface ty x0,.iface ty6 x6]) H6.o (HOr.o.trans Df.o) rfl (by simp[Ba]) rfl rfl (fun hb=>⟨⟨_,_,by rw[(HTk5.o Ae.o).1];rfl,rfl⟩,?_⟩);exact Al.app _ _ [_] [_] (Al.only (by omega) Df.o (HRep.o Ae.o)) (Al.weak (by omega) (HR6.o hb))
   have HClP:=A0 (PR.alloc H6.o (.cells #[.int .i64 ln5,.iface ty x0,.iface ty6 x6] 312));go_wp2_with fail
   refine(Is HClP.o 23).mono ?_;rintro e w7 ⟨kk7,ln7,nn7,S7,rfl,htk7,h7,ho7⟩;have HP7:=A0 ho7;have HO7:Hid (A7 b wr w7):=(Df.o.alloc _).trans HP7.o;have lw7:=HO7.o.size;have HTk7:=A0 htk7;have H7:=A0 h7;clear h7 ho7 htk7;go_wp2;go_roundg m
   case measure=>omega
   case rel=>
    refine⟨_,_,_,_,rfl,by omega,HZ2.o,H7.o,HOr.o.trans HO7.o,fun hb=>?_⟩;obtain⟨t',x',e',_,_,hrr⟩:=HCl.o;injection e' with e';rw[←e']at hrr;exact Al.only (by omega) HP7.o (hrr (Lb hb))
  ·have HE:=A0 (Xb c22 hpk);have tk:((kT st:Int)==22)=false:=kn (c:=22) rfl c22;clear c22 hpk hrs hO hrep;go_wp2_with fail
   refine(Dl HRS.o).mono ?_;rintro e w4 ⟨rfl,h4,B4⟩;have Cy:=A0 (Below.only (b:=b) B4);have C2:Hid (A7 b wr w4):=(A7.refl b wr).trans Cy.o;have lw4:=C2.o.size;have H4:=A0 h4;clear h4 B4;go_wp2;go_ret;rw[HE.o];exact⟨_,_,rfl,H4.o,HOr.o.trans C2.o,fun hb=>Al.only (by omega) C2.o (HRep.o hb)⟩
theorem Acg{b tb cap te:Nat}{ts:List Tk}{n:Nat}(ih:∀m,m<=n->Ii b tb cap te ts m)(w:World)(s:PS)(r:BT A6×PS)(hs:PR b tb cap te ts w s)(hp:Af (n+1) 2 0 .nil s=some r) :
  Calls Tryz.prog 261 #[.pointer (some ⟨b,0,none⟩)] w (H9 b tb cap te ts w r):=by
 have HS:=A0 hs;have lb:=hs.lt;by_cases c28:kT s=28
 ·obtain⟨x,hx,hr⟩:=Zt c28 hp;have HR:=A0 hr;have Ae:Hid (s.bad=0):=hs.Gt (by omega);have HX:=A0 (fun(W:World) (h:PR b tb cap te ts W (Ao s))=>(ih n (Nat.le_refl _)).unary W (Ao s) x h hx);have t28:((kT s:Int)==28)=true:=ke (c:=28) rfl c28;have HK:=A0 c28;clear hp hs hx hr c28;go_enter Tryz.func261,Tryz.ntmps261;go_wp2_with fail
  refine(Dl HS.o).mono ?_;rintro e w1 ⟨rfl,h1,A1⟩;have Bu:=A0 (Below.only (b:=b) A1);have Az:Hid (A7 b w w1):=(A7.refl b w).trans Bu.o;have Dk:=Az.o.size;have H1:=A0 h1;clear h1 A1;go_wp2_with fail
  refine(Gv H1.o).mono ?_;rintro e w2 ⟨Gq,nn2,S2,rfl,Es,h2,B8⟩;have Ay:=A0 B8;have Be:Hid (A7 b w w2):=Az.o.trans Ay.o;have Ey:=Be.o.size;have Eb:=A0 Es;have H2:=A0 h2;clear h2 B8 Es;have Fu:=A0 (heap_alloc_new w2 (.cells #[.int .i64 (kT s:Nat),.int .i64 Gq,.string ⟨S2.toArray⟩,.int .i64 nn2] 198));have HTP:=A0 (PR.drew (PR.alloc H2.o (.cells #[.int .i64 (kT s:Nat),.int .i64 Gq,.string ⟨S2.toArray⟩,.int .i64 nn2] 198)));have HTO:=A0 ((Be.o.alloc (.cells #[.int .i64 (kT s:Nat),.int .i64 Gq,.string ⟨S2.toArray⟩,.int .i64 nn2] 198)).drew);have hne:w2.heap.size≠b:=by omega
  go_wp2;generalize hW:w2.alloc (.cells #[.int .i64 (kT s:Nat),.int .i64 Gq,.string ⟨S2.toArray⟩,.int .i64 nn2] 198)=W2 at *;have HW:=A0 hW;clear hW;generalize hgw:w2.heap.size=tk1 at *;have HGw:=A0 hgw;clear hgw;obtain⟨y0,y1,y2,y3,fy,ly⟩:=Dw Fu.o;have lW2:w.heap.size<=W2.heap.size:=HTO.o.size;have HXd:=A0 (HX.o _ HTP.o);go_region_with (go_at_call 261;refine HXd.o.mono ?_;rintro e w9 ⟨ty9,x9,rfl,h9,ho9,hr9⟩;have Ik:=ho9.blk (show W2.drew.heap[tk1]?=_ from Fu.o) hne;obtain⟨z0,z1,z2,z3,fz,lz⟩:=Dw Ik;clear Ik)
  all_goals go_wp2
  all_goals go_ret
  all_goals rw[HR.o]
  all_goals refine Hi (l:=Ba 13 (B1 s).line) (ch:=x.1) (ks:=[.iface ty9 x9]) h9 (HTO.o.trans ho9) rfl (by simp[Ba]) rfl rfl (fun hb=>⟨⟨_,?_,rfl⟩,Al.weak (by show _<=W2.heap.size;omega) (hr9 hb)⟩)
  all_goals rw[(Eb.o Ae.o).1,HK.o];rfl
 by_cases c35:kT s=35
 ·obtain⟨x,hx,hr⟩:=A0p c35 hp;have HR:=A0 hr;have Ae:Hid (s.bad=0):=hs.Gt (by omega);have HX:=A0 (fun(W:World) (h:PR b tb cap te ts W (Ao s))=>(ih n (Nat.le_refl _)).unary W (Ao s) x h hx);have t28:((kT s:Int)==28)=false:=kn (c:=28) rfl c28;have t35:((kT s:Int)==35)=true:=ke (c:=35) rfl c35;have HK:=A0 c35;clear hp hs hx hr c35 c28;go_enter Tryz.func261,Tryz.ntmps261;go_wp2_with fail
  refine(Dl HS.o).mono ?_;rintro e w1 ⟨rfl,h1,A1⟩;have Bu:=A0 (Below.only (b:=b) A1);have Az:Hid (A7 b w w1):=(A7.refl b w).trans Bu.o;have Dk:=Az.o.size;have H1:=A0 h1;clear h1 A1;go_wp2_with fail
  refine(Dl H1.o).mono ?_;rintro e w2 ⟨rfl,h2,A8⟩;have Ay:=A0 (Below.only (b:=b) A8);have Be:Hid (A7 b w w2):=Az.o.trans Ay.o;have Ey:=Be.o.size;have H2:=A0 h2;clear h2 A8;go_wp2_with fail
  refine(Gv H2.o).mono ?_;rintro e w3 ⟨ln3,nn3,S3,rfl,htk3,h3,Cl⟩;have Bl:=A0 Cl;have Cg:Hid (A7 b w w3):=Be.o.trans Bl.o;have lw3:=Cg.o.size;have HTk3:=A0 htk3;have H3:=A0 h3;clear h3 Cl htk3;have Fu:=A0 (heap_alloc_new w3 (.cells #[.int .i64 (kT s:Nat),.int .i64 ln3,.string ⟨S3.toArray⟩,.int .i64 nn3] 198));have HTP:=A0 (PR.drew (PR.alloc H3.o (.cells #[.int .i64 (kT s:Nat),.int .i64 ln3,.string ⟨S3.toArray⟩,.int .i64 nn3] 198)));have HTO:=A0 ((Cg.o.alloc (.cells #[.int .i64 (kT s:Nat),.int .i64 ln3,.string ⟨S3.toArray⟩,.int .i64 nn3] 198)).drew);have hne:w3.heap.size≠b:=by omega
  go_wp2;generalize hW:w3.alloc (.cells #[.int .i64 (kT s:Nat),.int .i64 ln3,.string ⟨S3.toArray⟩,.int .i64 nn3] 198)=W2 at *;have HW:=A0 hW;clear hW;generalize hgw:w3.heap.size=tk1 at *;have HGw:=A0 hgw;clear hgw;obtain⟨y0,y1,y2,y3,fy,ly⟩:=Dw Fu.o;have lW2:w.heap.size<=W2.heap.size:=HTO.o.size;have HXd:=A0 (HX.o _ HTP.o);go_region_with (go_at_call 261;refine HXd.o.mono ?_;rintro e w9 ⟨ty9,x9,rfl,h9,ho9,hr9⟩;have Ik:=ho9.blk (show W2.drew.heap[tk1]?=_ from Fu.o) hne;obtain⟨z0,z1,z2,z3,fz,lz⟩:=Dw Ik;clear Ik)
  all_goals go_wp2
  all_goals go_ret
  all_goals rw[HR.o]
  all_goals refine Hi (l:=Ba 14 (B1 s).line) (ch:=x.1) (ks:=[.iface ty9 x9]) h9 (HTO.o.trans ho9) rfl (by simp[Ba]) rfl rfl (fun hb=>⟨⟨_,?_,rfl⟩,Al.weak (by show _<=W2.heap.size;omega) (hr9 hb)⟩)
  all_goals rw[(HTk3.o Ae.o).1,HK.o];rfl
 obtain⟨x,hx,hr⟩:=Vv c28 c35 hp;have HX:=A0 (fun(W:World) (h:PR b tb cap te ts W s)=>A7l ih W s r x h hx hr);have t28:((kT s:Int)==28)=false:=kn (c:=28) rfl c28;have t35:((kT s:Int)==35)=false:=kn (c:=35) rfl c35;clear hp hs hx hr c28 c35;go_enter Tryz.func261,Tryz.ntmps261;go_wp2_with fail
 refine(Dl HS.o).mono ?_;rintro e w1 ⟨rfl,h1,A1⟩;have Bu:=A0 (Below.only (b:=b) A1);have Az:Hid (A7 b w w1):=(A7.refl b w).trans Bu.o;have Dk:=Az.o.size;have H1:=A0 h1;clear h1 A1;go_wp2_with fail
 refine(Dl H1.o).mono ?_;rintro e w2 ⟨rfl,h2,A8⟩;have Ay:=A0 (Below.only (b:=b) A8);have Be:Hid (A7 b w w2):=Az.o.trans Ay.o;have Ey:=Be.o.size;have H2:=A0 h2;clear h2 A8;go_wp2_with fail
 refine(HX.o _ H2.o).mono ?_;rintro e w3 ⟨ty3,x3,rfl,h3,Cl,C7⟩;have Bl:=A0 Cl;have Cg:Hid (A7 b w w3):=Be.o.trans Bl.o;have lw3:=Cg.o.size;have C1:=A0 C7;have H3:=A0 h3;clear h3 Cl C7;go_wp2;go_ret;exact⟨_,_,rfl,H3.o,Cg.o,fun hb=>Al.weak (by omega) (C1.o hb)⟩
end
end Go.Proofs.YtjdlndhfaaolaaaGreatDoor
