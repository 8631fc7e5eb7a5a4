import Derived.Deep.RegionHeld3
import Derived.Test.YtjdlndhfaaolaaaGreatDoorR18
set_option maxHeartbeats 20000000
namespace Go.Proofs.YtjdlndhfaaolaaaGreatDoor
section
set_option maxRecDepth 100000
open Go.RowKit
open Go.Deep (BT)
def A15(b tb cap te:Nat)(ts:List Tk)(n:Nat)(r:BT A2×PS)(w:World)(k:Nat)(v:Value)(wr:World):Prop:=
 ∃(acc:BT A2) (st:PS) (ty:TypeId) (x:Value),v=.iface ty x/\k<=n/\A7 k 3 0 acc st=some r/\PR b tb cap te ts wr st/\A1 b w wr/\(st.bad=0->Aj (fun g=>w.heap.size<=g) wr acc [.iface ty x])
theorem A8b{b tb cap te:Nat}{ts:List Tk}{n:Nat}(ih:∀m,m<=n->Jt b tb cap te ts m)(w:World)(s:PS)(r:BT A2×PS)(x:BT A2×PS)(hs:PR b tb cap te ts w s)(hx:A7 n 4 0 .nil s=some x)(hp:A7 n 3 0 x.1 x.2=some r) :
  Calls Tryz.prog 285 #[.pointer (some ⟨b,0,none⟩)] w (Il b tb cap te ts w r):=by
 have HS:=A0 hs;have lb:=hs.lt;have HP0:=A0 hp;have HX:=A0 (fun(W:World) (h:PR b tb cap te ts W s)=>(ih n (Nat.le_refl _)).atom W s x h hx);have Jm:=Me;clear hp hs hx;go_enter Tryz.func285,Tryz.ntmps285;go_wp2_with fail
 refine(HX.o _ HS.o).mono ?_;rintro e w1 ⟨ty1,x1,rfl,h1,B5,B0⟩;have Bh:=A0 B5;have Ae:Hid (A1 b w w1):=(A1.refl b w).trans Bh.o;have Cz:=Ae.o.size;have HR1:=A0 B0;have H1:=A0 h1;clear h1 B5 B0;go_wp2;go_loopg [3] n (fun k v wr=>A15 b tb cap te ts n r w k v wr)
 case atStart=>exact⟨x.1,x.2,ty1,x1,rfl,Nat.le_refl _,HP0.o,H1.o,Ae.o,HR1.o⟩
 case round=>
  clear HP0 H1 Ae HR1 Bh HX HS Cz;obtain⟨acc,st,ty,x0,rfl,hkn,hpk,hrs,hO,hrep⟩:=hrel;cases gk with
  | zero=>exact absurd hpk (Cc _ _ _ _ _)
  | succ m=>
  have HRS:=A0 hrs;have HOr:=A0 hO;have HRep:=A0 hrep;have lwr:=hO.size;by_cases c22:kT st=22
  ·obtain⟨z,C4,Bv⟩:=Qz c22 hpk;have Cb:=A0 Bv;have Bj:=A0 C4;have HX:=A0 (fun(W:World) (h:PR b tb cap te ts W (Aa st))=>Ls (ih m (by omega)) W (Aa st) z h C4);have tk:((kT st:Int)==22)=true:=ke (c:=22) rfl c22;have Br:Hid (st.bad=0):=hrs.E7 (by omega);clear C4 Bv c22 hpk hrs hO hrep;go_wp2_with fail
   refine(Dl HRS.o).mono ?_;rintro e w4 ⟨rfl,h4,Bc⟩;have Dv:=A0 (Below.only (b:=b) Bc);have B2:Hid (A1 b wr w4):=(A1.refl b wr).trans Dv.o;have lw4:=B2.o.size;have H4:=A0 h4;clear h4 Bc;go_wp2_with fail
   refine(Ii H4.o).mono ?_;rintro e w5 ⟨Ff,Gb,S5,rfl,htk5,h5,Bd⟩;have Ei:=A0 Bd;have B9:Hid (A1 b wr w5):=B2.o.trans Ei.o;have lw5:=B9.o.size;have HTk5:=A0 htk5;have H5:=A0 h5;clear h5 Bd htk5;go_wp2_with fail
   refine(HX.o _ H5.o).mono ?_;rintro e w6 ⟨ty6,x6,rfl,h6,Bs,Kt⟩;have HP6:=A0 Bs;have Bn:Hid (A1 b wr w6):=B9.o.trans HP6.o;have lw6:=Bn.o.size;have HR6:=A0 Kt;have H6:=A0 h6;clear h6 Bs Kt;have HCl:Hid (Il b tb cap te ts w (nd (Ao 12 (A6 st).line) (B6 acc z.1),z.2) (.returned (.iface 310 (.pointer (some ⟨w6.heap.size,0,none⟩)))) (w6.alloc (.cells #[.int .i64 Ff,.iface ty x0,.iface ty6 x6] 312))):=by
    refine Ir (l:=Ao 12 (A6 st).line) (ch:=B6 acc z.1) (ks:=[.iface ty x0,.iface ty6 x6]) H6.o (HOr.o.trans Bn.o) rfl (by simp[Ao]) rfl rfl (fun hb=>⟨⟨_,_,by rw[(HTk5.o Br.o).1];rfl,rfl⟩,?_⟩);exact Aj.app _ _ [_] [_] (Aj.only (by omega) Bn.o (HRep.o Br.o)) (Aj.weak (by omega) (HR6.o hb))
   have HClP:=A0 (PR.alloc H6.o (.cells #[.int .i64 Ff,.iface ty x0,.iface ty6 x6] 312));go_wp2_with fail
   refine(K2 HClP.o 23).mono ?_;rintro e w7 ⟨kk7,ln7,nn7,S7,rfl,htk7,h7,ho7⟩;have HP7:=A0 ho7;have Es:Hid (A1 b wr w7):=(Bn.o.alloc _).trans HP7.o;have lw7:=Es.o.size;have HTk7:=A0 htk7;have H7:=A0 h7;clear h7 ho7 htk7;go_wp2;go_roundg m
   case measure=>omega
   case rel=>
    refine⟨_,_,_,_,rfl,by omega,Cb.o,H7.o,HOr.o.trans Es.o,fun hb=>?_⟩;obtain⟨t',x',e',_,_,hrr⟩:=HCl.o;injection e' with e';rw[←e']at hrr;exact Aj.only (by omega) HP7.o (hrr (Mk hb))
  ·have HE:=A0 (R1 c22 hpk);have tk:((kT st:Int)==22)=false:=kn (c:=22) rfl c22;clear c22 hpk hrs hO hrep;go_wp2_with fail
   refine(Dl HRS.o).mono ?_;rintro e w4 ⟨rfl,h4,Bc⟩;have Dv:=A0 (Below.only (b:=b) Bc);have B2:Hid (A1 b wr w4):=(A1.refl b wr).trans Dv.o;have lw4:=B2.o.size;have H4:=A0 h4;clear h4 Bc;go_wp2;go_ret;rw[HE.o];exact⟨_,_,rfl,H4.o,HOr.o.trans B2.o,fun hb=>Aj.only (by omega) B2.o (HRep.o hb)⟩
theorem A94{b tb cap te:Nat}{ts:List Tk}{n:Nat}(ih:∀m,m<=n->Jt b tb cap te ts m)(w:World)(s:PS)(r:BT A2×PS)(hs:PR b tb cap te ts w s)(hp:A7 (n+1) 2 0 .nil s=some r) :
  Calls Tryz.prog 261 #[.pointer (some ⟨b,0,none⟩)] w (Il b tb cap te ts w r):=by
 have HS:=A0 hs;have lb:=hs.lt;by_cases c28:kT s=28
 ·obtain⟨x,hx,hr⟩:=Q2 c28 hp;have HR:=A0 hr;have Br:Hid (s.bad=0):=hs.E7 (by omega);have HX:=A0 (fun(W:World) (h:PR b tb cap te ts W (Aa s))=>(ih n (Nat.le_refl _)).unary W (Aa s) x h hx);have t28:((kT s:Int)==28)=true:=ke (c:=28) rfl c28;have HK:=A0 c28;clear hp hs hx hr c28;go_enter Tryz.func261,Tryz.ntmps261;go_wp2_with fail
  refine(Dl HS.o).mono ?_;rintro e w1 ⟨rfl,h1,A3⟩;have Bh:=A0 (Below.only (b:=b) A3);have Ae:Hid (A1 b w w1):=(A1.refl b w).trans Bh.o;have Cz:=Ae.o.size;have H1:=A0 h1;clear h1 A3;go_wp2_with fail
  refine(Ii H1.o).mono ?_;rintro e w2 ⟨Gp,nn2,S2,rfl,F3,h2,Ap⟩;have Cp:=A0 Ap;have Al:Hid (A1 b w w2):=Ae.o.trans Cp.o;have Fg:=Al.o.size;have Ef:=A0 F3;have H2:=A0 h2;clear h2 Ap F3;have Ip:=A0 (heap_alloc_new w2 (.cells #[.int .i64 (kT s:Nat),.int .i64 Gp,.string ⟨S2.toArray⟩,.int .i64 nn2] 198));have HTP:=A0 (PR.drew (PR.alloc H2.o (.cells #[.int .i64 (kT s:Nat),.int .i64 Gp,.string ⟨S2.toArray⟩,.int .i64 nn2] 198)));have HTO:=A0 ((Al.o.alloc (.cells #[.int .i64 (kT s:Nat),.int .i64 Gp,.string ⟨S2.toArray⟩,.int .i64 nn2] 198)).drew);have hne:w2.heap.size≠b:=by omega
  go_wp2;generalize hW:w2.alloc (.cells #[.int .i64 (kT s:Nat),.int .i64 Gp,.string ⟨S2.toArray⟩,.int .i64 nn2] 198)=W2 at *;have HW:=A0 hW;clear hW;generalize hgw:w2.heap.size=tk1 at *;have HGw:=A0 hgw;clear hgw;obtain⟨y0,y1,y2,y3,fy,ly⟩:=Ci Ip.o;have lW2:w.heap.size<=W2.heap.size:=HTO.o.size;have HXd:=A0 (HX.o _ HTP.o);go_region_with (go_at_call 261;refine HXd.o.mono ?_;rintro e w9 ⟨ty9,x9,rfl,h9,Gx,hr9⟩;have hT3:=Gx.blk (show W2.drew.heap[tk1]?=_ from Ip.o) hne;obtain⟨z0,z1,z2,z3,fz,lz⟩:=Ci hT3;clear hT3)
  all_goals go_wp2
  all_goals go_ret
  all_goals rw[HR.o]
  all_goals refine Ir (l:=Ao 13 (A6 s).line) (ch:=x.1) (ks:=[.iface ty9 x9]) h9 (HTO.o.trans Gx) rfl (by simp[Ao]) rfl rfl (fun hb=>⟨⟨_,?_,rfl⟩,Aj.weak (by show _<=W2.heap.size;omega) (hr9 hb)⟩)
  all_goals rw[(Ef.o Br.o).1,HK.o];rfl
 by_cases c35:kT s=35
 ·obtain⟨x,hx,hr⟩:=Q1 c35 hp;have HR:=A0 hr;have Br:Hid (s.bad=0):=hs.E7 (by omega);have HX:=A0 (fun(W:World) (h:PR b tb cap te ts W (Aa s))=>(ih n (Nat.le_refl _)).unary W (Aa s) x h hx);have t28:((kT s:Int)==28)=false:=kn (c:=28) rfl c28;have t35:((kT s:Int)==35)=true:=ke (c:=35) rfl c35;have HK:=A0 c35;clear hp hs hx hr c35 c28;go_enter Tryz.func261,Tryz.ntmps261;go_wp2_with fail
  refine(Dl HS.o).mono ?_;rintro e w1 ⟨rfl,h1,A3⟩;have Bh:=A0 (Below.only (b:=b) A3);have Ae:Hid (A1 b w w1):=(A1.refl b w).trans Bh.o;have Cz:=Ae.o.size;have H1:=A0 h1;clear h1 A3;go_wp2_with fail
  refine(Dl H1.o).mono ?_;rintro e w2 ⟨rfl,h2,A9⟩;have Cp:=A0 (Below.only (b:=b) A9);have Al:Hid (A1 b w w2):=Ae.o.trans Cp.o;have Fg:=Al.o.size;have H2:=A0 h2;clear h2 A9;go_wp2_with fail
  refine(Ii H2.o).mono ?_;rintro e w3 ⟨ln3,nn3,S3,rfl,htk3,h3,Af⟩;have De:=A0 Af;have Ay:Hid (A1 b w w3):=Al.o.trans De.o;have lw3:=Ay.o.size;have HTk3:=A0 htk3;have H3:=A0 h3;clear h3 Af htk3;have Ip:=A0 (heap_alloc_new w3 (.cells #[.int .i64 (kT s:Nat),.int .i64 ln3,.string ⟨S3.toArray⟩,.int .i64 nn3] 198));have HTP:=A0 (PR.drew (PR.alloc H3.o (.cells #[.int .i64 (kT s:Nat),.int .i64 ln3,.string ⟨S3.toArray⟩,.int .i64 nn3] 198)));have HTO:=A0 ((Ay.o.alloc (.cells #[.int .i64 (kT s:Nat),.int .i64 ln3,.string ⟨S3.toArray⟩,.int .i64 nn3] 198)).drew);have hne:w3.heap.size≠b:=by omega
  go_wp2;generalize hW:w3.alloc (.cells #[.int .i64 (kT s:Nat),.int .i64 ln3,.string ⟨S3.toArray⟩,.int .i64 nn3] 198)=W2 at *;have HW:=A0 hW;clear hW;generalize hgw:w3.heap.size=tk1 at *;have HGw:=A0 hgw;clear hgw;obtain⟨y0,y1,y2,y3,fy,ly⟩:=Ci Ip.o;have lW2:w.heap.size<=W2.heap.size:=HTO.o.size;have HXd:=A0 (HX.o _ HTP.o);go_region_with (go_at_call 261;refine HXd.o.mono ?_;rintro e w9 ⟨ty9,x9,rfl,h9,Gx,hr9⟩;have hT3:=Gx.blk (show W2.drew.heap[tk1]?=_ from Ip.o) hne;obtain⟨z0,z1,z2,z3,fz,lz⟩:=Ci hT3;clear hT3)
  all_goals go_wp2
  all_goals go_ret
  all_goals rw[HR.o]
  all_goals refine Ir (l:=Ao 14 (A6 s).line) (ch:=x.1) (ks:=[.iface ty9 x9]) h9 (HTO.o.trans Gx) rfl (by simp[Ao]) rfl rfl (fun hb=>⟨⟨_,?_,rfl⟩,Aj.weak (by show _<=W2.heap.size;omega) (hr9 hb)⟩)
  all_goals rw[(HTk3.o Br.o).1,HK.o];rfl
 obtain⟨x,hx,hr⟩:=P6 c28 c35 hp;have HX:=A0 (fun(W:World) (h:PR b tb cap te ts W s)=>A8b ih W s r x h hx hr);have t28:((kT s:Int)==28)=false:=kn (c:=28) rfl c28;have t35:((kT s:Int)==35)=false:=kn (c:=35) rfl c35;clear hp hs hx hr c28 c35;go_enter Tryz.func261,Tryz.ntmps261;go_wp2_with fail
 refine(Dl HS.o).mono ?_;rintro e w1 ⟨rfl,h1,A3⟩;have Bh:=A0 (Below.only (b:=b) A3);have Ae:Hid (A1 b w w1):=(A1.refl b w).trans Bh.o;have Cz:=Ae.o.size;have H1:=A0 h1;clear h1 A3;go_wp2_with fail
 refine(Dl H1.o).mono ?_;rintro e w2 ⟨rfl,h2,A9⟩;have Cp:=A0 (Below.only (b:=b) A9);have Al:Hid (A1 b w w2):=Ae.o.trans Cp.o;have Fg:=Al.o.size;have H2:=A0 h2;clear h2 A9;go_wp2_with fail
 refine(HX.o _ H2.o).mono ?_;rintro e w3 ⟨ty3,x3,rfl,h3,Af,Cs⟩;have De:=A0 Af;have Ay:Hid (A1 b w w3):=Al.o.trans De.o;have lw3:=Ay.o.size;have He:=A0 Cs;have H3:=A0 h3;clear h3 Af Cs;go_wp2;go_ret;exact⟨_,_,rfl,H3.o,Ay.o,fun hb=>Aj.weak (by omega) (He.o hb)⟩
end
end Go.Proofs.YtjdlndhfaaolaaaGreatDoor
