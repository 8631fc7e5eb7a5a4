import Derived.Deep.RegionHeld3
import Derived.Test.YtjdlndhfaaolaaaGreatDoorX14
set_option maxHeartbeats 20000000
namespace Go.Proofs.YtjdlndhfaaolaaaGreatDoor
section
set_option maxRecDepth 100000
open Go.RowKit
open Go.Deep (BT)
variable {b tb cap te:Nat}{ts:List Tk}{n:Nat}
theorem Aec(ih:Iw b tb cap te ts n)(w:World)(s:PS)(r:BT A3×PS)(hk:kT s=16)(hs:PR b tb cap te ts w s)(hp:Ab (n+1) 4 0 .nil s=some r) :
  Calls Tryz.prog 311 #[.pointer (some ⟨b,0,none⟩)] w (Hr b tb cap te ts w r):=by
 obtain⟨x,hx,hr⟩:=A2l hk hp;have HS:=A0 hs;have lb:=hs.lt;have Ae:Hid (s.bad=0):=hs.Gv z4sa;have HR:=A0 hr;have HX:=A0 (fun(W:World) (h:PR b tb cap te ts W (Aw 18 (Aj s)))=>Km ih W (Aw 18 (Aj s)) x h hx);have Im:=Le;clear hp hs hk hx hr;go_enter Tryz.func311,Tryz.ntmps311;go_wp2_with fail
 refine(Hl HS.o).mono ?_;rintro e w1 ⟨Is,nn1,S1,rfl,Fj,h1,Bt⟩;have Bo:=A0 Bt;have Av:Hid (A5 b w w1):=(A5.refl b w).trans Bo.o;have Df:=Av.o.size;have Jk:=A0 Fj;have H1:=A0 h1;clear h1 Bt Fj;go_wp2_with fail
 refine(J8 H1.o 18).mono ?_;rintro e w2 ⟨kk2,Gc,nn2,S2,rfl,Ey,h2,B1⟩;have B4:=A0 B1;have B7:Hid (A5 b w w2):=Av.o.trans B4.o;have F2:=B7.o.size;have Ee:=A0 Ey;have H2:=A0 h2;clear h2 B1 Ey;go_wp2_with fail
 refine(HX.o _ H2.o).mono ?_;rintro e w3 ⟨ty3,x3,rfl,h3,Cj,Du⟩;have Bc:=A0 Cj;have Cd:Hid (A5 b w w3):=B7.o.trans Bc.o;have lw3:=Cd.o.size;have Eu:=A0 Du;have H3:=A0 h3;clear h3 Cj Du;go_wp2_with fail
 refine(J8 H3.o 19).mono ?_;rintro e w4 ⟨kk4,ln4,nn4,S4,rfl,htk4,h4,Ck⟩;have Cl:=A0 Ck;have C8:Hid (A5 b w w4):=Cd.o.trans Cl.o;have lw4:=C8.o.size;have HTk4:=A0 htk4;have H4:=A0 h4;clear h4 Ck htk4;go_wp2;go_ret;rw[HR.o];refine Hz (l:=Au 10 (An s).line) (ch:=x.1) (ks:=[.iface ty3 x3]) H4.o C8.o rfl z59a rfl rfl (fun hb=>⟨⟨_,?_,rfl⟩,Al.later z4sa z4sa Cl.o (Eu.o (Ll hb))⟩);rw[(Jk.o Ae.o).1];rfl
theorem Aha(ih:Iw b tb cap te ts n)(w:World)(s:PS)(r:BT A3×PS)(hk:kT s=17)(hs:PR b tb cap te ts w s)(hp:Ab (n+1) 4 0 .nil s=some r) :
  Calls Tryz.prog 312 #[.pointer (some ⟨b,0,none⟩)] w (Hr b tb cap te ts w r):=by
 obtain⟨x,y,hx,hy,hr⟩:=A2s hk hp;have HS:=A0 hs;have lb:=hs.lt;have Ae:Hid (s.bad=0):=hs.Gv z4sa;have HR:=A0 hr;have HYp:=A0 hy;have HX:=A0 (fun(W:World) (h:PR b tb cap te ts W (Aw 18 (Aj s)))=>Km ih W (Aw 18 (Aj s)) x h hx);have HY:=A0 (fun(W:World) (h:PR b tb cap te ts W (Aw 24 x.2))=>Km ih W (Aw 24 x.2) y h hy);have Im:=Le;clear hp hs hk hx hy hr;go_enter Tryz.func312,Tryz.ntmps312;go_wp2_with fail
 refine(Hl HS.o).mono ?_;rintro e w1 ⟨Is,nn1,S1,rfl,Fj,h1,Bt⟩;have Bo:=A0 Bt;have Av:Hid (A5 b w w1):=(A5.refl b w).trans Bo.o;have Df:=Av.o.size;have Jk:=A0 Fj;have H1:=A0 h1;clear h1 Bt Fj;go_wp2_with fail
 refine(J8 H1.o 18).mono ?_;rintro e w2 ⟨kk2,Gc,nn2,S2,rfl,Ey,h2,B1⟩;have B4:=A0 B1;have B7:Hid (A5 b w w2):=Av.o.trans B4.o;have F2:=B7.o.size;have Ee:=A0 Ey;have H2:=A0 h2;clear h2 B1 Ey;go_wp2_with fail
 refine(HX.o _ H2.o).mono ?_;rintro e w3 ⟨ty3,x3,rfl,h3,Cj,Du⟩;have Bc:=A0 Cj;have Cd:Hid (A5 b w w3):=B7.o.trans Bc.o;have lw3:=Cd.o.size;have Eu:=A0 Du;have H3:=A0 h3;clear h3 Cj Du;go_wp2_with fail
 refine(J8 H3.o 24).mono ?_;rintro e w4 ⟨kk4,ln4,nn4,S4,rfl,htk4,h4,Ck⟩;have Cl:=A0 Ck;have C8:Hid (A5 b w w4):=Cd.o.trans Cl.o;have lw4:=C8.o.size;have HTk4:=A0 htk4;have H4:=A0 h4;clear h4 Ck htk4;go_wp2_with fail
 refine(HY.o _ H4.o).mono ?_;rintro e w5 ⟨ty5,x5,rfl,h5,En,hr5⟩;have Ep:=A0 En;have C6:Hid (A5 b w w5):=C8.o.trans Ep.o;have lw5:=C6.o.size;have HR5:=A0 hr5;have H5:=A0 h5;clear h5 En hr5;go_wp2_with fail
 refine(J8 H5.o 19).mono ?_;rintro e w6 ⟨kk6,ln6,nn6,S6,rfl,htk6,h6,Jn⟩;have HP6:=A0 Jn;have D9:Hid (A5 b w w6):=C6.o.trans HP6.o;have lw6:=D9.o.size;have HTk6:=A0 htk6;have H6:=A0 h6;clear h6 Jn htk6;go_wp2;go_ret;rw[HR.o];refine Hz (l:=Au 11 (An s).line) (ch:=Co x.1 y.1) (ks:=[.iface ty3 x3,.iface ty5 x5]) H6.o D9.o rfl z59a rfl rfl (fun hb=>⟨⟨_,_,?_,rfl⟩,Al.app _ _ [_] [_] (Al.later z4sa z4sa ((Cl.o.trans Ep.o).trans HP6.o) (Eu.o (Ll (Ph H4.o.Mi HYp.o (Ll hb))))) (Al.later z4sa z4sa HP6.o (HR5.o (Ll hb)))⟩);rw[(Jk.o Ae.o).1];rfl
theorem An1(w:World)(s:PS)(r:BT A3×PS)(hk:kT s=1)(C7:kT (Aj s)≠18)(hs:PR b tb cap te ts w s)(hp:Ab (n+1) 4 0 .nil s=some r) :
  Calls Tryz.prog 310 #[.pointer (some ⟨b,0,none⟩)] w (Hr b tb cap te ts w r):=by
 have HR:=A0 (A2o hk C7 hp);have HS:=A0 hs;have lb:=hs.lt;have Ae:Hid (s.bad=0):=hs.Gv z4sa;have tk:(kT (Aj s)==18)=false:=by simpa using C7
 have HM:Hid (I5 18 (Aj s)=Aj s):=by show _=_;unfold I5;rw[if_neg C7]
 clear hp hs hk C7;go_enter Tryz.func310,Tryz.ntmps310;go_wp2_with fail
 refine(Hl HS.o).mono ?_;rintro e w1 ⟨Is,nn1,S1,rfl,Fj,h1,Bt⟩;have Bo:=A0 Bt;have Av:Hid (A5 b w w1):=(A5.refl b w).trans Bo.o;have Df:=Av.o.size;have Jk:=A0 Fj;have H1:=A0 h1;clear h1 Bt Fj;have Gq:=A0 (heap_alloc_new w1 (.cells #[.int .i64 (kT s:Nat),.int .i64 Is,.string ⟨S1.toArray⟩,.int .i64 nn1] 198));have lw1b:w1.heap.size<(w1.alloc (.cells #[.int .i64 (kT s:Nat),.int .i64 Is,.string ⟨S1.toArray⟩,.int .i64 nn1] 198)).heap.size:=by simp
 go_wp2_with fail
 refine(Mq (PR.alloc H1.o _) 18).mono ?_;rintro e w2 ⟨rfl,h2,B1⟩;have B4:=A0 B1;have B7:Hid (A5 b w w2):=(Av.o.alloc _).trans B4.o;have F2:=B7.o.size;rw[tk];rw[HM.o]at h2;have H2:=A0 h2;clear h2 B1;have Il:=B4.o.blk Gq.o z4sa;obtain⟨y0,y1,y2,y3,fy,ly⟩:=Dt Il;clear Il;go_wp2;go_ret;rw[HR.o];refine Hz (l:=⟨6,(An s).line,(An s).s,0,[]⟩) (ch:=.nil) (ks:=[]) H2.o B7.o rfl z4wa rfl rfl (fun _=>⟨⟨?_,rfl⟩,rfl⟩);rw[(Jk.o Ae.o).1,(Jk.o Ae.o).2.1];rfl
theorem A9b(ih:Iw b tb cap te ts n)(w:World)(s:PS)(r:BT A3×PS)(hk:kT s=1)(C7:kT (Aj s)=18)(hs:PR b tb cap te ts w s)(hp:Ab (n+1) 4 0 .nil s=some r) :
  Calls Tryz.prog 310 #[.pointer (some ⟨b,0,none⟩)] w (Hr b tb cap te ts w r):=by
 obtain⟨x,hx,hr⟩:=A2d hk C7 hp;have HR:=A0 hr;have HS:=A0 hs;have lb:=hs.lt;have Ae:Hid (s.bad=0):=hs.Gv z4sa;have tk:(kT (Aj s)==18)=true:=by simpa using C7
 have HM:Hid (I5 18 (Aj s)=Aj (Aj s)):=by show _=_;unfold I5;rw[if_pos C7]
 have HX:=A0 (fun(W:World) (h:PR b tb cap te ts W (Aj (Aj s)))=>ih.list W (Aj (Aj s)) 19 x h hx);clear hp hs hk C7 hx hr;go_enter Tryz.func310,Tryz.ntmps310;go_wp2_with fail
 refine(Hl HS.o).mono ?_;rintro e w1 ⟨Is,nn1,S1,rfl,Fj,h1,Bt⟩;have Bo:=A0 Bt;have Av:Hid (A5 b w w1):=(A5.refl b w).trans Bo.o;have Df:=Av.o.size;have Jk:=A0 Fj;have H1:=A0 h1;clear h1 Bt Fj;have Gq:=A0 (heap_alloc_new w1 (.cells #[.int .i64 (kT s:Nat),.int .i64 Is,.string ⟨S1.toArray⟩,.int .i64 nn1] 198));have lw1b:w1.heap.size<(w1.alloc (.cells #[.int .i64 (kT s:Nat),.int .i64 Is,.string ⟨S1.toArray⟩,.int .i64 nn1] 198)).heap.size:=by simp
 go_wp2_with fail
 refine(Mq (PR.alloc H1.o _) 18).mono ?_;rintro e w2 ⟨rfl,h2,B1⟩;have B4:=A0 B1;have B7:Hid (A5 b w w2):=(Av.o.alloc _).trans B4.o;have F2:=B7.o.size;rw[tk];rw[HM.o]at h2;have H2:=A0 h2;clear h2 B1;have HT2:=A0 (B4.o.blk Gq.o z4sa);obtain⟨y0,y1,y2,y3,fy,ly⟩:=Dt HT2.o;have HXd:=A0 (HX.o _ H2.o.drew);have hne:w1.heap.size≠b:=by omega
 generalize hgw:w1.heap.size=tk1 at *;have HGw:=A0 hgw;clear hgw;go_wp2;go_region_with (go_at_call 309;refine HXd.o.mono ?_;rintro e w3 ⟨va3,vn3,vc3,cs3,rfl,J3,h3,Cj,Du⟩;have I2:=Cj.blk (show w2.drew.heap[tk1]?=_ from HT2.o) hne;obtain⟨z0,z1,z2,z3,fz,lz⟩:=Dt I2;clear I2)
 all_goals go_wp2
 all_goals go_ret
 all_goals rw[HR.o]
 all_goals refine Hz (l:=⟨7,(An s).line,(An s).s,0,[]⟩) (ch:=x.1) (ks:=cs3) h3 (B7.o.drew.trans Cj) rfl z4wa rfl rfl (fun hb=>⟨⟨_,?_,J3.keep (fun k hk _=>⟨rfl,by have h:w2.heap.size<=k:=hk;omega⟩)⟩,Al.weak (by show _<=w2.heap.size;omega) (Du hb)⟩)
 all_goals rw[(Jk.o Ae.o).1,(Jk.o Ae.o).2.1];rfl
theorem z02a {P:Prop} (h:P:=by
  go_wp2_with fail
  refine(De HS.o).mono ?_;rintro e w1 ⟨rfl,h1,A1⟩;have Bo:=A0 (Below.only (b:=b) A1);have Av:Hid (A5 b w w1):=(A5.refl b w).trans Bo.o;have Df:=Av.o.size;have H1:=A0 h1;clear h1 A1;go_wp2_with fail
  refine(HX.o _ H1.o).mono ?_;rintro e w2 ⟨Ij,x2,rfl,h2,B1,Bm⟩;have B4:=A0 B1;have B7:Hid (A5 b w w2):=Av.o.trans B4.o;have F2:=B7.o.size;have Dv:=A0 Bm;have H2:=A0 h2;clear h2 B1 Bm;go_wp2;go_ret;exact⟨_,_,rfl,H2.o,B7.o,fun hb=>Al.weak z4sa (Dv.o hb)⟩):P:=h
theorem z34a {P:Prop} (h:P:=by
  go_enter Tryz.func296,Tryz.ntmps296;exact z02a):P:=h
theorem Ag5(ih:Iw b tb cap te ts n)(w:World)(s:PS)(r:BT A3×PS)(hs:PR b tb cap te ts w s)(hp:Ab (n+1) 4 0 .nil s=some r) :
  Calls Tryz.prog 296 #[.pointer (some ⟨b,0,none⟩)] w (Hr b tb cap te ts w r):=by
 have HS:=A0 hs;have lb:=hs.lt;have Im:=Le;by_cases c18:kT s=18
 ·have t18:((kT s:Int)==18)=true:=ke (c:=18) rfl c18;obtain⟨x,hx,hr⟩:=A2f c18 hp;have HR:=A0 hr;have Ae:Hid (s.bad=0):=hs.Gv z4sa;have HX:=A0 (fun(W:World) (h:PR b tb cap te ts W (Aj s))=>Km ih W (Aj s) x h hx);clear hp hs hx hr c18;go_enter Tryz.func296,Tryz.ntmps296;go_wp2_with fail
  refine(De HS.o).mono ?_;rintro e w1 ⟨rfl,h1,A1⟩;have Bo:=A0 (Below.only (b:=b) A1);have Av:Hid (A5 b w w1):=(A5.refl b w).trans Bo.o;have Df:=Av.o.size;have H1:=A0 h1;clear h1 A1;go_wp2_with fail
  refine(Hl H1.o).mono ?_;rintro e w2 ⟨Gc,nn2,S2,rfl,Ey,h2,B1⟩;have B4:=A0 B1;have B7:Hid (A5 b w w2):=Av.o.trans B4.o;have F2:=B7.o.size;have Ee:=A0 Ey;have H2:=A0 h2;clear h2 B1 Ey;go_wp2_with fail
  refine(HX.o _ H2.o).mono ?_;rintro e w3 ⟨ty3,x3,rfl,h3,Cj,Du⟩;have Bc:=A0 Cj;have Cd:Hid (A5 b w w3):=B7.o.trans Bc.o;have lw3:=Cd.o.size;have Eu:=A0 Du;have H3:=A0 h3;clear h3 Cj Du;go_wp2_with fail
  refine(J8 H3.o 19).mono ?_;rintro e w4 ⟨kk4,ln4,nn4,S4,rfl,htk4,h4,Ck⟩;have Cl:=A0 Ck;have C8:Hid (A5 b w w4):=Cd.o.trans Cl.o;have lw4:=C8.o.size;have HTk4:=A0 htk4;have H4:=A0 h4;clear h4 Ck htk4;go_wp2;go_ret;rw[HR.o];exact Hz (l:=Au 8 (An s).line) (ch:=x.1) (ks:=[.iface ty3 x3]) H4.o C8.o rfl z59a rfl rfl (fun hb=>⟨⟨_,rfl,rfl⟩,Al.later z4sa z4sa Cl.o (Eu.o (Ll hb))⟩)
 by_cases c22:kT s=22
 ·have t18:((kT s:Int)==18)=false:=kn (c:=18) rfl c18;have t22:((kT s:Int)==22)=true:=ke (c:=22) rfl c22;obtain⟨x,hx,hr⟩:=A2b c22 hp;have HR:=A0 hr;have Ae:Hid (s.bad=0):=hs.Gv z4sa;have HX:=A0 (fun(W:World) (h:PR b tb cap te ts W (Aj s))=>ih.list W (Aj s) 23 x h hx);clear hp hs hx hr c18 c22;go_enter Tryz.func296,Tryz.ntmps296;go_wp2_with fail
  refine(De HS.o).mono ?_;rintro e w1 ⟨rfl,h1,A1⟩;have Bo:=A0 (Below.only (b:=b) A1);have Av:Hid (A5 b w w1):=(A5.refl b w).trans Bo.o;have Df:=Av.o.size;have H1:=A0 h1;clear h1 A1;go_wp2_with fail
  refine(Hl H1.o).mono ?_;rintro e w2 ⟨Gc,nn2,S2,rfl,Ey,h2,B1⟩;have B4:=A0 B1;have B7:Hid (A5 b w w2):=Av.o.trans B4.o;have F2:=B7.o.size;have Ee:=A0 Ey;have H2:=A0 h2;clear h2 B1 Ey;go_wp2_with fail
  refine(HX.o _ H2.o).mono ?_;rintro e w3 ⟨va3,vn3,vc3,cs3,rfl,J3,h3,Cj,Du⟩;have Bc:=A0 Cj;have Cd:Hid (A5 b w w3):=B7.o.trans Bc.o;have lw3:=Cd.o.size;have Eu:=A0 Du;have HOwn3:=A0 J3;have H3:=A0 h3;clear h3 Cj Du J3;go_wp2;go_ret;rw[HR.o];refine Hz (l:=Au 9 (An s).line) (ch:=x.1) (ks:=cs3) H3.o Cd.o rfl z59a rfl rfl (fun hb=>⟨⟨_,?_,HOwn3.o.keep (fun k hk _=>⟨rfl,by have h:w2.heap.size<=k:=hk;omega⟩)⟩,Al.weak z4sa (Eu.o hb)⟩);rw[(Ee.o Ae.o).1];rfl
 by_cases c1:kT s=1
 ·have t18:((kT s:Int)==18)=false:=kn (c:=18) rfl c18;have t22:((kT s:Int)==22)=false:=kn (c:=22) rfl c22;have t1:((kT s:Int)==1)=true:=ke (c:=1) rfl c1;have HX:Hid (∀W,PR b tb cap te ts W s->Calls Tryz.prog 310 #[.pointer (some ⟨b,0,none⟩)] W (Hr b tb cap te ts W r)):=by
   intro W h;by_cases c2:kT (Aj s)=18
   ·exact A9b ih W s r c1 c2 h hp
   ·exact An1 W s r c1 c2 h hp
  clear hp hs c18 c22 c1;exact z34a
 by_cases c16:kT s=16
 ·have t18:((kT s:Int)==18)=false:=kn (c:=18) rfl c18;have t22:((kT s:Int)==22)=false:=kn (c:=22) rfl c22;have t1:((kT s:Int)==1)=false:=kn (c:=1) rfl c1;have t16:((kT s:Int)==16)=true:=ke (c:=16) rfl c16;have HX:=A0 (fun(W:World) (h:PR b tb cap te ts W s)=>Aec ih W s r c16 h hp);clear hp hs c18 c22 c1 c16;exact z34a
 by_cases c17:kT s=17
 ·have t18:((kT s:Int)==18)=false:=kn (c:=18) rfl c18;have t22:((kT s:Int)==22)=false:=kn (c:=22) rfl c22;have t1:((kT s:Int)==1)=false:=kn (c:=1) rfl c1;have t16:((kT s:Int)==16)=false:=kn (c:=16) rfl c16;have t17:((kT s:Int)==17)=true:=ke (c:=17) rfl c17;have HX:=A0 (fun(W:World) (h:PR b tb cap te ts W s)=>Aha ih W s r c17 h hp);clear hp hs c18 c22 c1 c16 c17;exact z34a
 have t18:((kT s:Int)==18)=false:=kn (c:=18) rfl c18;have t22:((kT s:Int)==22)=false:=kn (c:=22) rfl c22;have t1:((kT s:Int)==1)=false:=kn (c:=1) rfl c1;have t16:((kT s:Int)==16)=false:=kn (c:=16) rfl c16;have t17:((kT s:Int)==17)=false:=kn (c:=17) rfl c17;have HX:=A0 (fun(W:World) (h:PR b tb cap te ts W s)=>Aet W s r c1 c18 c22 c16 c17 h hp);clear hp hs c18 c22 c1 c16 c17 Im;exact z34a
end
end Go.Proofs.YtjdlndhfaaolaaaGreatDoor
