import Derived.Deep.RegionHeld3
import Derived.Test.YtjdlndhfaaolaaaGreatDoorQ13
set_option maxHeartbeats 20000000
namespace Go.Proofs.YtjdlndhfaaolaaaGreatDoor
section
set_option maxRecDepth 100000
open Go.RowKit
open Go.Deep (BT)
variable {b tb cap te:Nat}{ts:List Tk}{n:Nat}
theorem Aa2(ih:Ii b tb cap te ts n)(w:World)(s:PS)(r:BT A6×PS)(hk:kT s=16)(hs:PR b tb cap te ts w s)(hp:Af (n+1) 4 0 .nil s=some r) :
  Calls Tryz.prog 311 #[.pointer (some ⟨b,0,none⟩)] w (H9 b tb cap te ts w r):=by
 obtain⟨x,hx,hr⟩:=A0u hk hp;have HS:=A0 hs;have lb:=hs.lt;have Ae:Hid (s.bad=0):=hs.Gt (by omega);have HR:=A0 hr;have HX:=A0 (fun(W:World) (h:PR b tb cap te ts W (Bb 18 (Ao s)))=>Kk ih W (Bb 18 (Ao s)) x h hx);have I9:=L9;clear hp hs hk hx hr;go_enter Tryz.func311,Tryz.ntmps311;go_wp2_with fail
 refine(Gv HS.o).mono ?_;rintro e w1 ⟨J5,nn1,S1,rfl,Fl,h1,Bw⟩;have Bu:=A0 Bw;have Az:Hid (A7 b w w1):=(A7.refl b w).trans Bu.o;have Dk:=Az.o.size;have J9:=A0 Fl;have H1:=A0 h1;clear h1 Bw Fl;go_wp2_with fail
 refine(Is H1.o 18).mono ?_;rintro e w2 ⟨kk2,Gq,nn2,S2,rfl,Es,h2,B8⟩;have Ay:=A0 B8;have Be:Hid (A7 b w w2):=Az.o.trans Ay.o;have Ey:=Be.o.size;have Eb:=A0 Es;have H2:=A0 h2;clear h2 B8 Es;go_wp2_with fail
 refine(HX.o _ H2.o).mono ?_;rintro e w3 ⟨ty3,x3,rfl,h3,Cl,C7⟩;have Bl:=A0 Cl;have Cg:Hid (A7 b w w3):=Be.o.trans Bl.o;have lw3:=Cg.o.size;have C1:=A0 C7;have H3:=A0 h3;clear h3 Cl C7;go_wp2_with fail
 refine(Is H3.o 19).mono ?_;rintro e w4 ⟨kk4,ln4,nn4,S4,rfl,htk4,h4,Cf⟩;have Cy:=A0 Cf;have C2:Hid (A7 b w w4):=Cg.o.trans Cy.o;have lw4:=C2.o.size;have HTk4:=A0 htk4;have H4:=A0 h4;clear h4 Cf htk4;go_wp2;go_ret;rw[HR.o];refine Hi (l:=Ba 10 (B1 s).line) (ch:=x.1) (ks:=[.iface ty3 x3]) H4.o C2.o rfl (by simp[Ba]) rfl rfl (fun hb=>⟨⟨_,?_,rfl⟩,Al.later (by omega) (by omega) Cy.o (C1.o (Lb hb))⟩);rw[(J9.o Ae.o).1];rfl
theorem A4u(ih:Ii b tb cap te ts n)(w:World)(s:PS)(r:BT A6×PS)(hk:kT s=17)(hs:PR b tb cap te ts w s)(hp:Af (n+1) 4 0 .nil s=some r) :
  Calls Tryz.prog 312 #[.pointer (some ⟨b,0,none⟩)] w (H9 b tb cap te ts w r):=by
 obtain⟨x,y,hx,hy,hr⟩:=A0b hk hp;have HS:=A0 hs;have lb:=hs.lt;have Ae:Hid (s.bad=0):=hs.Gt (by omega);have HR:=A0 hr;have HYp:=A0 hy;have HX:=A0 (fun(W:World) (h:PR b tb cap te ts W (Bb 18 (Ao s)))=>Kk ih W (Bb 18 (Ao s)) x h hx);have HY:=A0 (fun(W:World) (h:PR b tb cap te ts W (Bb 24 x.2))=>Kk ih W (Bb 24 x.2) y h hy);have I9:=L9;clear hp hs hk hx hy hr;go_enter Tryz.func312,Tryz.ntmps312;go_wp2_with fail
 refine(Gv HS.o).mono ?_;rintro e w1 ⟨J5,nn1,S1,rfl,Fl,h1,Bw⟩;have Bu:=A0 Bw;have Az:Hid (A7 b w w1):=(A7.refl b w).trans Bu.o;have Dk:=Az.o.size;have J9:=A0 Fl;have H1:=A0 h1;clear h1 Bw Fl;go_wp2_with fail
 refine(Is H1.o 18).mono ?_;rintro e w2 ⟨kk2,Gq,nn2,S2,rfl,Es,h2,B8⟩;have Ay:=A0 B8;have Be:Hid (A7 b w w2):=Az.o.trans Ay.o;have Ey:=Be.o.size;have Eb:=A0 Es;have H2:=A0 h2;clear h2 B8 Es;go_wp2_with fail
 refine(HX.o _ H2.o).mono ?_;rintro e w3 ⟨ty3,x3,rfl,h3,Cl,C7⟩;have Bl:=A0 Cl;have Cg:Hid (A7 b w w3):=Be.o.trans Bl.o;have lw3:=Cg.o.size;have C1:=A0 C7;have H3:=A0 h3;clear h3 Cl C7;go_wp2_with fail
 refine(Is H3.o 24).mono ?_;rintro e w4 ⟨kk4,ln4,nn4,S4,rfl,htk4,h4,Cf⟩;have Cy:=A0 Cf;have C2:Hid (A7 b w w4):=Cg.o.trans Cy.o;have lw4:=C2.o.size;have HTk4:=A0 htk4;have H4:=A0 h4;clear h4 Cf htk4;go_wp2_with fail
 refine(HY.o _ H4.o).mono ?_;rintro e w5 ⟨ty5,x5,rfl,h5,E5,hr5⟩;have Eo:=A0 E5;have C4:Hid (A7 b w w5):=C2.o.trans Eo.o;have lw5:=C4.o.size;have HR5:=A0 hr5;have H5:=A0 h5;clear h5 E5 hr5;go_wp2_with fail
 refine(Is H5.o 19).mono ?_;rintro e w6 ⟨kk6,ln6,nn6,S6,rfl,htk6,h6,J4⟩;have HP6:=A0 J4;have Df:Hid (A7 b w w6):=C4.o.trans HP6.o;have lw6:=Df.o.size;have HTk6:=A0 htk6;have H6:=A0 h6;clear h6 J4 htk6;go_wp2;go_ret;rw[HR.o];refine Hi (l:=Ba 11 (B1 s).line) (ch:=E0 x.1 y.1) (ks:=[.iface ty3 x3,.iface ty5 x5]) H6.o Df.o rfl (by simp[Ba]) rfl rfl (fun hb=>⟨⟨_,_,?_,rfl⟩,Al.app _ _ [_] [_] (Al.later (by omega) (by omega) ((Cy.o.trans Eo.o).trans HP6.o) (C1.o (Lb (Ou H4.o.M8 HYp.o (Lb hb))))) (Al.later (by omega) (by omega) HP6.o (HR5.o (Lb hb)))⟩);rw[(J9.o Ae.o).1];rfl
theorem Amg(w:World)(s:PS)(r:BT A6×PS)(hk:kT s=1)(Cj:kT (Ao s)≠18)(hs:PR b tb cap te ts w s)(hp:Af (n+1) 4 0 .nil s=some r) :
  Calls Tryz.prog 310 #[.pointer (some ⟨b,0,none⟩)] w (H9 b tb cap te ts w r):=by
 have HR:=A0 (b9 hk Cj hp);have HS:=A0 hs;have lb:=hs.lt;have Ae:Hid (s.bad=0):=hs.Gt (by omega);have tk:(kT (Ao s)==18)=false:=by simpa using Cj
 have HM:Hid (Hq 18 (Ao s)=Ao s):=by show _=_;unfold Hq;rw[if_neg Cj]
 clear hp hs hk Cj;go_enter Tryz.func310,Tryz.ntmps310;go_wp2_with fail
 refine(Gv HS.o).mono ?_;rintro e w1 ⟨J5,nn1,S1,rfl,Fl,h1,Bw⟩;have Bu:=A0 Bw;have Az:Hid (A7 b w w1):=(A7.refl b w).trans Bu.o;have Dk:=Az.o.size;have J9:=A0 Fl;have H1:=A0 h1;clear h1 Bw Fl;have Fu:=A0 (heap_alloc_new w1 (.cells #[.int .i64 (kT s:Nat),.int .i64 J5,.string ⟨S1.toArray⟩,.int .i64 nn1] 198));have lw1b:w1.heap.size<(w1.alloc (.cells #[.int .i64 (kT s:Nat),.int .i64 J5,.string ⟨S1.toArray⟩,.int .i64 nn1] 198)).heap.size:=by simp
 go_wp2_with fail
 refine(Mi (PR.alloc H1.o _) 18).mono ?_;rintro e w2 ⟨rfl,h2,B8⟩;have Ay:=A0 B8;have Be:Hid (A7 b w w2):=(Az.o.alloc _).trans Ay.o;have Ey:=Be.o.size;rw[tk];rw[HM.o]at h2;have H2:=A0 h2;clear h2 B8;have J8:=Ay.o.blk Fu.o (by omega);obtain⟨y0,y1,y2,y3,fy,ly⟩:=Dw J8;clear J8;go_wp2;go_ret;rw[HR.o];refine Hi (l:=⟨6,(B1 s).line,(B1 s).s,0,[]⟩) (ch:=.nil) (ks:=[]) H2.o Be.o rfl (by simp) rfl rfl (fun _=>⟨⟨?_,rfl⟩,rfl⟩);rw[(J9.o Ae.o).1,(J9.o Ae.o).2.1];rfl
theorem A4w(ih:Ii b tb cap te ts n)(w:World)(s:PS)(r:BT A6×PS)(hk:kT s=1)(Cj:kT (Ao s)=18)(hs:PR b tb cap te ts w s)(hp:Af (n+1) 4 0 .nil s=some r) :
  Calls Tryz.prog 310 #[.pointer (some ⟨b,0,none⟩)] w (H9 b tb cap te ts w r):=by
 obtain⟨x,hx,hr⟩:=Y8 hk Cj hp;have HR:=A0 hr;have HS:=A0 hs;have lb:=hs.lt;have Ae:Hid (s.bad=0):=hs.Gt (by omega);have tk:(kT (Ao s)==18)=true:=by simpa using Cj
 have HM:Hid (Hq 18 (Ao s)=Ao (Ao s)):=by show _=_;unfold Hq;rw[if_pos Cj]
 have HX:=A0 (fun(W:World) (h:PR b tb cap te ts W (Ao (Ao s)))=>ih.list W (Ao (Ao s)) 19 x h hx);clear hp hs hk Cj hx hr;go_enter Tryz.func310,Tryz.ntmps310;go_wp2_with fail
 refine(Gv HS.o).mono ?_;rintro e w1 ⟨J5,nn1,S1,rfl,Fl,h1,Bw⟩;have Bu:=A0 Bw;have Az:Hid (A7 b w w1):=(A7.refl b w).trans Bu.o;have Dk:=Az.o.size;have J9:=A0 Fl;have H1:=A0 h1;clear h1 Bw Fl;have Fu:=A0 (heap_alloc_new w1 (.cells #[.int .i64 (kT s:Nat),.int .i64 J5,.string ⟨S1.toArray⟩,.int .i64 nn1] 198));have lw1b:w1.heap.size<(w1.alloc (.cells #[.int .i64 (kT s:Nat),.int .i64 J5,.string ⟨S1.toArray⟩,.int .i64 nn1] 198)).heap.size:=by simp
 go_wp2_with fail
 refine(Mi (PR.alloc H1.o _) 18).mono ?_;rintro e w2 ⟨rfl,h2,B8⟩;have Ay:=A0 B8;have Be:Hid (A7 b w w2):=(Az.o.alloc _).trans Ay.o;have Ey:=Be.o.size;rw[tk];rw[HM.o]at h2;have H2:=A0 h2;clear h2 B8;have I6:=A0 (Ay.o.blk Fu.o (by omega));obtain⟨y0,y1,y2,y3,fy,ly⟩:=Dw I6.o;have HXd:=A0 (HX.o _ H2.o.drew);have hne:w1.heap.size≠b:=by omega
 generalize hgw:w1.heap.size=tk1 at *;have HGw:=A0 hgw;clear hgw;go_wp2;go_region_with (go_at_call 309;refine HXd.o.mono ?_;rintro e w3 ⟨va3,vn3,vc3,cs3,rfl,Im,h3,Cl,C7⟩;have Ik:=Cl.blk (show w2.drew.heap[tk1]?=_ from I6.o) hne;obtain⟨z0,z1,z2,z3,fz,lz⟩:=Dw Ik;clear Ik)
 all_goals go_wp2
 all_goals go_ret
 all_goals rw[HR.o]
 all_goals refine Hi (l:=⟨7,(B1 s).line,(B1 s).s,0,[]⟩) (ch:=x.1) (ks:=cs3) h3 (Be.o.drew.trans Cl) rfl (by simp) rfl rfl (fun hb=>⟨⟨_,?_,Im.keep (fun k hk _=>⟨rfl,by have h:w2.heap.size<=k:=hk;omega⟩)⟩,Al.weak (by show _<=w2.heap.size;omega) (C7 hb)⟩)
 all_goals rw[(J9.o Ae.o).1,(J9.o Ae.o).2.1];rfl
theorem A7y(ih:Ii b tb cap te ts n)(w:World)(s:PS)(r:BT A6×PS)(hs:PR b tb cap te ts w s)(hp:Af (n+1) 4 0 .nil s=some r) :
  Calls Tryz.prog 296 #[.pointer (some ⟨b,0,none⟩)] w (H9 b tb cap te ts w r):=by
 have HS:=A0 hs;have lb:=hs.lt;have I9:=L9;by_cases c18:kT s=18
 ·have t18:((kT s:Int)==18)=true:=ke (c:=18) rfl c18;obtain⟨x,hx,hr⟩:=o7 c18 hp;have HR:=A0 hr;have Ae:Hid (s.bad=0):=hs.Gt (by omega);have HX:=A0 (fun(W:World) (h:PR b tb cap te ts W (Ao s))=>Kk ih W (Ao s) x h hx);clear hp hs hx hr c18;go_enter Tryz.func296,Tryz.ntmps296;go_wp2_with fail
  refine(Dl HS.o).mono ?_;rintro e w1 ⟨rfl,h1,A1⟩;have Bu:=A0 (Below.only (b:=b) A1);have Az:Hid (A7 b w w1):=(A7.refl b w).trans Bu.o;have Dk:=Az.o.size;have H1:=A0 h1;clear h1 A1;go_wp2_with fail
  refine(Gv H1.o).mono ?_;rintro e w2 ⟨Gq,nn2,S2,rfl,Es,h2,B8⟩;have Ay:=A0 B8;have Be:Hid (A7 b w w2):=Az.o.trans Ay.o;have Ey:=Be.o.size;have Eb:=A0 Es;have H2:=A0 h2;clear h2 B8 Es;go_wp2_with fail
  refine(HX.o _ H2.o).mono ?_;rintro e w3 ⟨ty3,x3,rfl,h3,Cl,C7⟩;have Bl:=A0 Cl;have Cg:Hid (A7 b w w3):=Be.o.trans Bl.o;have lw3:=Cg.o.size;have C1:=A0 C7;have H3:=A0 h3;clear h3 Cl C7;go_wp2_with fail
  refine(Is H3.o 19).mono ?_;rintro e w4 ⟨kk4,ln4,nn4,S4,rfl,htk4,h4,Cf⟩;have Cy:=A0 Cf;have C2:Hid (A7 b w w4):=Cg.o.trans Cy.o;have lw4:=C2.o.size;have HTk4:=A0 htk4;have H4:=A0 h4;clear h4 Cf htk4;go_wp2;go_ret;rw[HR.o];exact Hi (l:=Ba 8 (B1 s).line) (ch:=x.1) (ks:=[.iface ty3 x3]) H4.o C2.o rfl (by simp[Ba]) rfl rfl (fun hb=>⟨⟨_,rfl,rfl⟩,Al.later (by omega) (by omega) Cy.o (C1.o (Lb hb))⟩)
 by_cases c22:kT s=22
 ·have t18:((kT s:Int)==18)=false:=kn (c:=18) rfl c18;have t22:((kT s:Int)==22)=true:=ke (c:=22) rfl c22;obtain⟨x,hx,hr⟩:=Xd c22 hp;have HR:=A0 hr;have Ae:Hid (s.bad=0):=hs.Gt (by omega);have HX:=A0 (fun(W:World) (h:PR b tb cap te ts W (Ao s))=>ih.list W (Ao s) 23 x h hx);clear hp hs hx hr c18 c22;go_enter Tryz.func296,Tryz.ntmps296;go_wp2_with fail
  refine(Dl HS.o).mono ?_;rintro e w1 ⟨rfl,h1,A1⟩;have Bu:=A0 (Below.only (b:=b) A1);have Az:Hid (A7 b w w1):=(A7.refl b w).trans Bu.o;have Dk:=Az.o.size;have H1:=A0 h1;clear h1 A1;go_wp2_with fail
  refine(Gv H1.o).mono ?_;rintro e w2 ⟨Gq,nn2,S2,rfl,Es,h2,B8⟩;have Ay:=A0 B8;have Be:Hid (A7 b w w2):=Az.o.trans Ay.o;have Ey:=Be.o.size;have Eb:=A0 Es;have H2:=A0 h2;clear h2 B8 Es;go_wp2_with fail
  refine(HX.o _ H2.o).mono ?_;rintro e w3 ⟨va3,vn3,vc3,cs3,rfl,Im,h3,Cl,C7⟩;have Bl:=A0 Cl;have Cg:Hid (A7 b w w3):=Be.o.trans Bl.o;have lw3:=Cg.o.size;have C1:=A0 C7;have HOwn3:=A0 Im;have H3:=A0 h3;clear h3 Cl C7 Im;go_wp2;go_ret;rw[HR.o];refine Hi (l:=Ba 9 (B1 s).line) (ch:=x.1) (ks:=cs3) H3.o Cg.o rfl (by simp[Ba]) rfl rfl (fun hb=>⟨⟨_,?_,HOwn3.o.keep (fun k hk _=>⟨rfl,by have h:w2.heap.size<=k:=hk;omega⟩)⟩,Al.weak (by omega) (C1.o hb)⟩);rw[(Eb.o Ae.o).1];rfl
 by_cases c1:kT s=1
 ·have t18:((kT s:Int)==18)=false:=kn (c:=18) rfl c18;have t22:((kT s:Int)==22)=false:=kn (c:=22) rfl c22;have t1:((kT s:Int)==1)=true:=ke (c:=1) rfl c1;have HX:Hid (∀W,PR b tb cap te ts W s->Calls Tryz.prog 310 #[.pointer (some ⟨b,0,none⟩)] W (H9 b tb cap te ts W r)):=by
   intro W h;by_cases c2:kT (Ao s)=18
   ·exact A4w ih W s r c1 c2 h hp
   ·exact Amg W s r c1 c2 h hp
  clear hp hs c18 c22 c1;go_enter Tryz.func296,Tryz.ntmps296;go_wp2_with fail
  refine(Dl HS.o).mono ?_;rintro e w1 ⟨rfl,h1,A1⟩;have Bu:=A0 (Below.only (b:=b) A1);have Az:Hid (A7 b w w1):=(A7.refl b w).trans Bu.o;have Dk:=Az.o.size;have H1:=A0 h1;clear h1 A1;go_wp2_with fail
  refine(HX.o _ H1.o).mono ?_;rintro e w2 ⟨I4,x2,rfl,h2,B8,B0⟩;have Ay:=A0 B8;have Be:Hid (A7 b w w2):=Az.o.trans Ay.o;have Ey:=Be.o.size;have C9:=A0 B0;have H2:=A0 h2;clear h2 B8 B0;go_wp2;go_ret;exact⟨_,_,rfl,H2.o,Be.o,fun hb=>Al.weak (by omega) (C9.o hb)⟩
 by_cases c16:kT s=16
 ·have t18:((kT s:Int)==18)=false:=kn (c:=18) rfl c18;have t22:((kT s:Int)==22)=false:=kn (c:=22) rfl c22;have t1:((kT s:Int)==1)=false:=kn (c:=1) rfl c1;have t16:((kT s:Int)==16)=true:=ke (c:=16) rfl c16;have HX:=A0 (fun(W:World) (h:PR b tb cap te ts W s)=>Aa2 ih W s r c16 h hp);clear hp hs c18 c22 c1 c16;go_enter Tryz.func296,Tryz.ntmps296;go_wp2_with fail
  refine(Dl HS.o).mono ?_;rintro e w1 ⟨rfl,h1,A1⟩;have Bu:=A0 (Below.only (b:=b) A1);have Az:Hid (A7 b w w1):=(A7.refl b w).trans Bu.o;have Dk:=Az.o.size;have H1:=A0 h1;clear h1 A1;go_wp2_with fail
  refine(HX.o _ H1.o).mono ?_;rintro e w2 ⟨I4,x2,rfl,h2,B8,B0⟩;have Ay:=A0 B8;have Be:Hid (A7 b w w2):=Az.o.trans Ay.o;have Ey:=Be.o.size;have C9:=A0 B0;have H2:=A0 h2;clear h2 B8 B0;go_wp2;go_ret;exact⟨_,_,rfl,H2.o,Be.o,fun hb=>Al.weak (by omega) (C9.o hb)⟩
 by_cases c17:kT s=17
 ·have t18:((kT s:Int)==18)=false:=kn (c:=18) rfl c18;have t22:((kT s:Int)==22)=false:=kn (c:=22) rfl c22;have t1:((kT s:Int)==1)=false:=kn (c:=1) rfl c1;have t16:((kT s:Int)==16)=false:=kn (c:=16) rfl c16;have t17:((kT s:Int)==17)=true:=ke (c:=17) rfl c17;have HX:=A0 (fun(W:World) (h:PR b tb cap te ts W s)=>A4u ih W s r c17 h hp);clear hp hs c18 c22 c1 c16 c17;go_enter Tryz.func296,Tryz.ntmps296;go_wp2_with fail
  refine(Dl HS.o).mono ?_;rintro e w1 ⟨rfl,h1,A1⟩;have Bu:=A0 (Below.only (b:=b) A1);have Az:Hid (A7 b w w1):=(A7.refl b w).trans Bu.o;have Dk:=Az.o.size;have H1:=A0 h1;clear h1 A1;go_wp2_with fail
  refine(HX.o _ H1.o).mono ?_;rintro e w2 ⟨I4,x2,rfl,h2,B8,B0⟩;have Ay:=A0 B8;have Be:Hid (A7 b w w2):=Az.o.trans Ay.o;have Ey:=Be.o.size;have C9:=A0 B0;have H2:=A0 h2;clear h2 B8 B0;go_wp2;go_ret;exact⟨_,_,rfl,H2.o,Be.o,fun hb=>Al.weak (by omega) (C9.o hb)⟩
 have t18:((kT s:Int)==18)=false:=kn (c:=18) rfl c18;have t22:((kT s:Int)==22)=false:=kn (c:=22) rfl c22;have t1:((kT s:Int)==1)=false:=kn (c:=1) rfl c1;have t16:((kT s:Int)==16)=false:=kn (c:=16) rfl c16;have t17:((kT s:Int)==17)=false:=kn (c:=17) rfl c17;have HX:=A0 (fun(W:World) (h:PR b tb cap te ts W s)=>A76 W s r c1 c18 c22 c16 c17 h hp);clear hp hs c18 c22 c1 c16 c17 I9;go_enter Tryz.func296,Tryz.ntmps296;go_wp2_with fail
 refine(Dl HS.o).mono ?_;rintro e w1 ⟨rfl,h1,A1⟩;have Bu:=A0 (Below.only (b:=b) A1);have Az:Hid (A7 b w w1):=(A7.refl b w).trans Bu.o;have Dk:=Az.o.size;have H1:=A0 h1;clear h1 A1;go_wp2_with fail
 refine(HX.o _ H1.o).mono ?_;rintro e w2 ⟨I4,x2,rfl,h2,B8,B0⟩;have Ay:=A0 B8;have Be:Hid (A7 b w w2):=Az.o.trans Ay.o;have Ey:=Be.o.size;have C9:=A0 B0;have H2:=A0 h2;clear h2 B8 B0;go_wp2;go_ret;exact⟨_,_,rfl,H2.o,Be.o,fun hb=>Al.weak (by omega) (C9.o hb)⟩
end
end Go.Proofs.YtjdlndhfaaolaaaGreatDoor
