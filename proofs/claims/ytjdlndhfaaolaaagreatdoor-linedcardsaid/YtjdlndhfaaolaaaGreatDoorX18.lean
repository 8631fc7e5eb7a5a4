import Derived.Deep.RegionHeld3
import Derived.Test.YtjdlndhfaaolaaaGreatDoorX14
set_option maxHeartbeats 20000000
namespace Go.Proofs.YtjdlndhfaaolaaaGreatDoor
section
set_option maxRecDepth 100000
open Go.RowKit
open Go.Deep (BT)
def A5r(b tb cap te:Nat)(ts:List Tk)(n:Nat)(r:BT A3×PS)(w:World)(k:Nat)(v:Value)(wr:World):Prop:=
 ∃(acc:BT A3) (st:PS) (ty:TypeId) (x:Value),v=.iface ty x/\k<=n/\Ab k 3 0 acc st=some r/\PR b tb cap te ts wr st/\A5 b w wr/\(st.bad=0->Al (fun g=>w.heap.size<=g) wr acc [.iface ty x])
theorem z3ea {P:Prop} (h:P:=by
  go_wp2;go_ret;rw[HE.o];exact⟨_,_,rfl,H4.o,HOr.o.trans C8.o,fun hb=>Al.only z4sa C8.o (HRep.o hb)⟩):P:=h
theorem Ag4{b tb cap te:Nat}{ts:List Tk}{n:Nat}(ih:∀m,m<=n->Iw b tb cap te ts m)(w:World)(s:PS)(r:BT A3×PS)(x:BT A3×PS)(hs:PR b tb cap te ts w s)(hx:Ab n 4 0 .nil s=some x)(hp:Ab n 3 0 x.1 x.2=some r) :
  Calls Tryz.prog 285 #[.pointer (some ⟨b,0,none⟩)] w (Hr b tb cap te ts w r):=by
 have HS:=A0 hs;have lb:=hs.lt;have HP0:=A0 hp;have HX:=A0 (fun(W:World) (h:PR b tb cap te ts W s)=>(ih n (Nat.le_refl _)).atom W s x h hx);have Im:=Le;clear hp hs hx;go_enter Tryz.func285,Tryz.ntmps285;go_wp2_with fail
 refine(HX.o _ HS.o).mono ?_;rintro e w1 ⟨ty1,x1,rfl,h1,Bt,B8⟩;have Bo:=A0 Bt;have Av:Hid (A5 b w w1):=(A5.refl b w).trans Bo.o;have Df:=Av.o.size;have Jj:=A0 B8;have H1:=A0 h1;clear h1 Bt B8;go_wp2;go_loopg [3] n (fun k v wr=>A5r b tb cap te ts n r w k v wr)
 case atStart=>exact⟨x.1,x.2,ty1,x1,rfl,Nat.le_refl _,HP0.o,H1.o,Av.o,Jj.o⟩
 case round=>
  clear HP0 H1 Av Jj Bo HX HS Df;obtain⟨acc,st,ty,x0,rfl,hkn,hpk,hrs,hO,hrep⟩:=hrel;cases gk with
  | zero=>exact absurd hpk (F3 _ _ _ _ _)
  | succ m=>
  have HRS:=A0 hrs;have HOr:=A0 hO;have HRep:=A0 hrep;have lwr:=hO.size;by_cases c22:kT st=22
  ·obtain⟨z,Bq,Bw⟩:=A2g c22 hpk;have HZ2:=A0 Bw;have HZ1:=A0 Bq;have HX:=A0 (fun(W:World) (h:PR b tb cap te ts W (Aj st))=>Km (ih m z4sa) W (Aj st) z h Bq);have tk:((kT st:Int)==22)=true:=ke (c:=22) rfl c22;have Ae:Hid (st.bad=0):=hrs.Gv z4sa;clear Bq Bw c22 hpk hrs hO hrep;go_wp2_with fail
   refine(De HRS.o).mono ?_;rintro e w4 ⟨rfl,h4,Bi⟩;have Cl:=A0 (Below.only (b:=b) Bi);have C8:Hid (A5 b wr w4):=(A5.refl b wr).trans Cl.o;have lw4:=C8.o.size;have H4:=A0 h4;clear h4 Bi;go_wp2_with fail
   refine(Hl H4.o).mono ?_;rintro e w5 ⟨ln5,nn5,S5,rfl,htk5,h5,En⟩;have Ep:=A0 En;have C6:Hid (A5 b wr w5):=C8.o.trans Ep.o;have lw5:=C6.o.size;have HTk5:=A0 htk5;have H5:=A0 h5;clear h5 En htk5;go_wp2_with fail
   refine(HX.o _ H5.o).mono ?_;rintro e w6 ⟨ty6,x6,rfl,h6,Jn,hr6⟩;have HP6:=A0 Jn;have D9:Hid (A5 b wr w6):=C6.o.trans HP6.o;have lw6:=D9.o.size;have HR6:=A0 hr6;have H6:=A0 h6;clear h6 Jn hr6;have HCl:Hid (Hr b tb cap te ts w (nd (Au 12 (An st).line) (Co acc z.1),z.2) (.returned (.iface 310 (.pointer (some ⟨w6.heap.size,0,none⟩)))) (w6.alloc (.cells #[.int .i64 ln5,.iface ty x0,.iface ty6 x6] 312))):=by
    refine Hz (l:=Au 12 (An st).line) (ch:=Co acc z.1) (ks:=[.iface ty x0,.iface ty6 x6]) H6.o (HOr.o.trans D9.o) rfl z59a rfl rfl (fun hb=>⟨⟨_,_,by rw[(HTk5.o Ae.o).1];rfl,rfl⟩,?_⟩);exact Al.app _ _ [_] [_] (Al.only z4sa D9.o (HRep.o Ae.o)) (Al.weak z4sa (HR6.o hb))
   have HClP:=A0 (PR.alloc H6.o (.cells #[.int .i64 ln5,.iface ty x0,.iface ty6 x6] 312));go_wp2_with fail
   refine(J8 HClP.o 23).mono ?_;rintro e w7 ⟨kk7,ln7,nn7,S7,rfl,htk7,h7,ho7⟩;have HP7:=A0 ho7;have HO7:Hid (A5 b wr w7):=(D9.o.alloc _).trans HP7.o;have lw7:=HO7.o.size;have HTk7:=A0 htk7;have H7:=A0 h7;clear h7 ho7 htk7;go_wp2;go_roundg m
   case measure=>omega
   case rel=>
    refine⟨_,_,_,_,rfl,by omega,HZ2.o,H7.o,HOr.o.trans HO7.o,fun hb=>?_⟩;obtain⟨t',x',e',_,_,hrr⟩:=HCl.o;injection e' with e';rw[←e']at hrr;exact Al.only z4sa HP7.o (hrr (Ll hb))
  ·have HE:=A0 (A2h c22 hpk);have tk:((kT st:Int)==22)=false:=kn (c:=22) rfl c22;clear c22 hpk hrs hO hrep;go_wp2_with fail
   refine(De HRS.o).mono ?_;rintro e w4 ⟨rfl,h4,Bi⟩;have Cl:=A0 (Below.only (b:=b) Bi);have C8:Hid (A5 b wr w4):=(A5.refl b wr).trans Cl.o;have lw4:=C8.o.size;have H4:=A0 h4;clear h4 Bi;exact z3ea
theorem Ah7{b tb cap te:Nat}{ts:List Tk}{n:Nat}(ih:∀m,m<=n->Iw b tb cap te ts m)(w:World)(s:PS)(r:BT A3×PS)(hs:PR b tb cap te ts w s)(hp:Ab (n+1) 2 0 .nil s=some r) :
  Calls Tryz.prog 261 #[.pointer (some ⟨b,0,none⟩)] w (Hr b tb cap te ts w r):=by
 have HS:=A0 hs;have lb:=hs.lt;by_cases c28:kT s=28
 ·obtain⟨x,hx,hr⟩:=A2q c28 hp;have HR:=A0 hr;have Ae:Hid (s.bad=0):=hs.Gv z4sa;have HX:=A0 (fun(W:World) (h:PR b tb cap te ts W (Aj s))=>(ih n (Nat.le_refl _)).unary W (Aj s) x h hx);have t28:((kT s:Int)==28)=true:=ke (c:=28) rfl c28;have HK:=A0 c28;clear hp hs hx hr c28;go_enter Tryz.func261,Tryz.ntmps261;go_wp2_with fail
  refine(De HS.o).mono ?_;rintro e w1 ⟨rfl,h1,A1⟩;have Bo:=A0 (Below.only (b:=b) A1);have Av:Hid (A5 b w w1):=(A5.refl b w).trans Bo.o;have Df:=Av.o.size;have H1:=A0 h1;clear h1 A1;go_wp2_with fail
  refine(Hl H1.o).mono ?_;rintro e w2 ⟨Gc,nn2,S2,rfl,Ey,h2,B1⟩;have B4:=A0 B1;have B7:Hid (A5 b w w2):=Av.o.trans B4.o;have F2:=B7.o.size;have Ee:=A0 Ey;have H2:=A0 h2;clear h2 B1 Ey;have Gq:=A0 (heap_alloc_new w2 (.cells #[.int .i64 (kT s:Nat),.int .i64 Gc,.string ⟨S2.toArray⟩,.int .i64 nn2] 198));have HTP:=A0 (PR.drew (PR.alloc H2.o (.cells #[.int .i64 (kT s:Nat),.int .i64 Gc,.string ⟨S2.toArray⟩,.int .i64 nn2] 198)));have HTO:=A0 ((B7.o.alloc (.cells #[.int .i64 (kT s:Nat),.int .i64 Gc,.string ⟨S2.toArray⟩,.int .i64 nn2] 198)).drew);have hne:w2.heap.size≠b:=by omega
  go_wp2;generalize hW:w2.alloc (.cells #[.int .i64 (kT s:Nat),.int .i64 Gc,.string ⟨S2.toArray⟩,.int .i64 nn2] 198)=W2 at *;have HW:=A0 hW;clear hW;generalize hgw:w2.heap.size=tk1 at *;have HGw:=A0 hgw;clear hgw;obtain⟨y0,y1,y2,y3,fy,ly⟩:=Dt Gq.o;have lW2:w.heap.size<=W2.heap.size:=HTO.o.size;have HXd:=A0 (HX.o _ HTP.o);go_region_with (go_at_call 261;refine HXd.o.mono ?_;rintro e w9 ⟨ty9,x9,rfl,h9,ho9,hr9⟩;have I2:=ho9.blk (show W2.drew.heap[tk1]?=_ from Gq.o) hne;obtain⟨z0,z1,z2,z3,fz,lz⟩:=Dt I2;clear I2)
  all_goals go_wp2
  all_goals go_ret
  all_goals rw[HR.o]
  all_goals refine Hz (l:=Au 13 (An s).line) (ch:=x.1) (ks:=[.iface ty9 x9]) h9 (HTO.o.trans ho9) rfl z59a rfl rfl (fun hb=>⟨⟨_,?_,rfl⟩,Al.weak (by show _<=W2.heap.size;omega) (hr9 hb)⟩)
  all_goals rw[(Ee.o Ae.o).1,HK.o];rfl
 by_cases c35:kT s=35
 ·obtain⟨x,hx,hr⟩:=A2p c35 hp;have HR:=A0 hr;have Ae:Hid (s.bad=0):=hs.Gv z4sa;have HX:=A0 (fun(W:World) (h:PR b tb cap te ts W (Aj s))=>(ih n (Nat.le_refl _)).unary W (Aj s) x h hx);have t28:((kT s:Int)==28)=false:=kn (c:=28) rfl c28;have t35:((kT s:Int)==35)=true:=ke (c:=35) rfl c35;have HK:=A0 c35;clear hp hs hx hr c35 c28;go_enter Tryz.func261,Tryz.ntmps261;go_wp2_with fail
  refine(De HS.o).mono ?_;rintro e w1 ⟨rfl,h1,A1⟩;have Bo:=A0 (Below.only (b:=b) A1);have Av:Hid (A5 b w w1):=(A5.refl b w).trans Bo.o;have Df:=Av.o.size;have H1:=A0 h1;clear h1 A1;go_wp2_with fail
  refine(De H1.o).mono ?_;rintro e w2 ⟨rfl,h2,A9⟩;have B4:=A0 (Below.only (b:=b) A9);have B7:Hid (A5 b w w2):=Av.o.trans B4.o;have F2:=B7.o.size;have H2:=A0 h2;clear h2 A9;go_wp2_with fail
  refine(Hl H2.o).mono ?_;rintro e w3 ⟨ln3,nn3,S3,rfl,htk3,h3,Cj⟩;have Bc:=A0 Cj;have Cd:Hid (A5 b w w3):=B7.o.trans Bc.o;have lw3:=Cd.o.size;have HTk3:=A0 htk3;have H3:=A0 h3;clear h3 Cj htk3;have Gq:=A0 (heap_alloc_new w3 (.cells #[.int .i64 (kT s:Nat),.int .i64 ln3,.string ⟨S3.toArray⟩,.int .i64 nn3] 198));have HTP:=A0 (PR.drew (PR.alloc H3.o (.cells #[.int .i64 (kT s:Nat),.int .i64 ln3,.string ⟨S3.toArray⟩,.int .i64 nn3] 198)));have HTO:=A0 ((Cd.o.alloc (.cells #[.int .i64 (kT s:Nat),.int .i64 ln3,.string ⟨S3.toArray⟩,.int .i64 nn3] 198)).drew);have hne:w3.heap.size≠b:=by omega
  go_wp2;generalize hW:w3.alloc (.cells #[.int .i64 (kT s:Nat),.int .i64 ln3,.string ⟨S3.toArray⟩,.int .i64 nn3] 198)=W2 at *;have HW:=A0 hW;clear hW;generalize hgw:w3.heap.size=tk1 at *;have HGw:=A0 hgw;clear hgw;obtain⟨y0,y1,y2,y3,fy,ly⟩:=Dt Gq.o;have lW2:w.heap.size<=W2.heap.size:=HTO.o.size;have HXd:=A0 (HX.o _ HTP.o);go_region_with (go_at_call 261;refine HXd.o.mono ?_;rintro e w9 ⟨ty9,x9,rfl,h9,ho9,hr9⟩;have I2:=ho9.blk (show W2.drew.heap[tk1]?=_ from Gq.o) hne;obtain⟨z0,z1,z2,z3,fz,lz⟩:=Dt I2;clear I2)
  all_goals go_wp2
  all_goals go_ret
  all_goals rw[HR.o]
  all_goals refine Hz (l:=Au 14 (An s).line) (ch:=x.1) (ks:=[.iface ty9 x9]) h9 (HTO.o.trans ho9) rfl z59a rfl rfl (fun hb=>⟨⟨_,?_,rfl⟩,Al.weak (by show _<=W2.heap.size;omega) (hr9 hb)⟩)
  all_goals rw[(HTk3.o Ae.o).1,HK.o];rfl
 obtain⟨x,hx,hr⟩:=Yf c28 c35 hp;have HX:=A0 (fun(W:World) (h:PR b tb cap te ts W s)=>Ag4 ih W s r x h hx hr);have t28:((kT s:Int)==28)=false:=kn (c:=28) rfl c28;have t35:((kT s:Int)==35)=false:=kn (c:=35) rfl c35;clear hp hs hx hr c28 c35;go_enter Tryz.func261,Tryz.ntmps261;go_wp2_with fail
 refine(De HS.o).mono ?_;rintro e w1 ⟨rfl,h1,A1⟩;have Bo:=A0 (Below.only (b:=b) A1);have Av:Hid (A5 b w w1):=(A5.refl b w).trans Bo.o;have Df:=Av.o.size;have H1:=A0 h1;clear h1 A1;go_wp2_with fail
 refine(De H1.o).mono ?_;rintro e w2 ⟨rfl,h2,A9⟩;have B4:=A0 (Below.only (b:=b) A9);have B7:Hid (A5 b w w2):=Av.o.trans B4.o;have F2:=B7.o.size;have H2:=A0 h2;clear h2 A9;go_wp2_with fail
 refine(HX.o _ H2.o).mono ?_;rintro e w3 ⟨ty3,x3,rfl,h3,Cj,Du⟩;have Bc:=A0 Cj;have Cd:Hid (A5 b w w3):=B7.o.trans Bc.o;have lw3:=Cd.o.size;have Eu:=A0 Du;have H3:=A0 h3;clear h3 Cj Du;go_wp2;go_ret;exact⟨_,_,rfl,H3.o,Cd.o,fun hb=>Al.weak z4sa (Eu.o hb)⟩
end
end Go.Proofs.YtjdlndhfaaolaaaGreatDoor
