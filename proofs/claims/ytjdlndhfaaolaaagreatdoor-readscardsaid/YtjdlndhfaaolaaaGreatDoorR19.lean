import Derived.Deep.RegionHeld3
import Derived.Test.YtjdlndhfaaolaaaGreatDoorR18
set_option maxHeartbeats 20000000
namespace Go.Proofs.YtjdlndhfaaolaaaGreatDoor
section
set_option maxRecDepth 100000
open Go.RowKit
open Go.Deep (BT)
variable {b tb cap te:Nat}{ts:List Tk}{n:Nat}
theorem A6o(ih:Jt b tb cap te ts n)(w:World)(s:PS)(r:BT A2×PS)(hk:kT s=16)(hs:PR b tb cap te ts w s)(hp:A7 (n+1) 4 0 .nil s=some r) :
  Calls Tryz.prog 311 #[.pointer (some ⟨b,0,none⟩)] w (Il b tb cap te ts w r):=by
 obtain⟨x,hx,hr⟩:=Py hk hp;have HS:=A0 hs;have lb:=hs.lt;have Br:Hid (s.bad=0):=hs.E7 (by omega);have HR:=A0 hr;have HX:=A0 (fun(W:World) (h:PR b tb cap te ts W (Ah 18 (Aa s)))=>Ls ih W (Ah 18 (Aa s)) x h hx);have Jm:=Me;clear hp hs hk hx hr;go_enter Tryz.func311,Tryz.ntmps311;go_wp2_with fail
 refine(Ii HS.o).mono ?_;rintro e w1 ⟨Jp,nn1,S1,rfl,G8,h1,B5⟩;have Bh:=A0 B5;have Ae:Hid (A1 b w w1):=(A1.refl b w).trans Bh.o;have Cz:=Ae.o.size;have Kj:=A0 G8;have H1:=A0 h1;clear h1 B5 G8;go_wp2_with fail
 refine(K2 H1.o 18).mono ?_;rintro e w2 ⟨kk2,Gp,nn2,S2,rfl,F3,h2,Ap⟩;have Cp:=A0 Ap;have Al:Hid (A1 b w w2):=Ae.o.trans Cp.o;have Fg:=Al.o.size;have Ef:=A0 F3;have H2:=A0 h2;clear h2 Ap F3;go_wp2_with fail
 refine(HX.o _ H2.o).mono ?_;rintro e w3 ⟨ty3,x3,rfl,h3,Af,Cs⟩;have De:=A0 Af;have Ay:Hid (A1 b w w3):=Al.o.trans De.o;have lw3:=Ay.o.size;have He:=A0 Cs;have H3:=A0 h3;clear h3 Af Cs;go_wp2_with fail
 refine(K2 H3.o 19).mono ?_;rintro e w4 ⟨kk4,J9,Jq,S4,rfl,htk4,h4,An⟩;have Dv:=A0 An;have B2:Hid (A1 b w w4):=Ay.o.trans Dv.o;have lw4:=B2.o.size;have HTk4:=A0 htk4;have H4:=A0 h4;clear h4 An htk4;go_wp2;go_ret;rw[HR.o];refine Ir (l:=Ao 10 (A6 s).line) (ch:=x.1) (ks:=[.iface ty3 x3]) H4.o B2.o rfl (by simp[Ao]) rfl rfl (fun hb=>⟨⟨_,?_,rfl⟩,Aj.later (by omega) (by omega) Dv.o (He.o (Mk hb))⟩);rw[(Kj.o Br.o).1];rfl
theorem A97(ih:Jt b tb cap te ts n)(w:World)(s:PS)(r:BT A2×PS)(hk:kT s=17)(hs:PR b tb cap te ts w s)(hp:A7 (n+1) 4 0 .nil s=some r) :
  Calls Tryz.prog 312 #[.pointer (some ⟨b,0,none⟩)] w (Il b tb cap te ts w r):=by
 obtain⟨x,y,hx,hy,hr⟩:=Q4 hk hp;have HS:=A0 hs;have lb:=hs.lt;have Br:Hid (s.bad=0):=hs.E7 (by omega);have HR:=A0 hr;have HYp:=A0 hy;have HX:=A0 (fun(W:World) (h:PR b tb cap te ts W (Ah 18 (Aa s)))=>Ls ih W (Ah 18 (Aa s)) x h hx);have HY:=A0 (fun(W:World) (h:PR b tb cap te ts W (Ah 24 x.2))=>Ls ih W (Ah 24 x.2) y h hy);have Jm:=Me;clear hp hs hk hx hy hr;go_enter Tryz.func312,Tryz.ntmps312;go_wp2_with fail
 refine(Ii HS.o).mono ?_;rintro e w1 ⟨Jp,nn1,S1,rfl,G8,h1,B5⟩;have Bh:=A0 B5;have Ae:Hid (A1 b w w1):=(A1.refl b w).trans Bh.o;have Cz:=Ae.o.size;have Kj:=A0 G8;have H1:=A0 h1;clear h1 B5 G8;go_wp2_with fail
 refine(K2 H1.o 18).mono ?_;rintro e w2 ⟨kk2,Gp,nn2,S2,rfl,F3,h2,Ap⟩;have Cp:=A0 Ap;have Al:Hid (A1 b w w2):=Ae.o.trans Cp.o;have Fg:=Al.o.size;have Ef:=A0 F3;have H2:=A0 h2;clear h2 Ap F3;go_wp2_with fail
 refine(HX.o _ H2.o).mono ?_;rintro e w3 ⟨ty3,x3,rfl,h3,Af,Cs⟩;have De:=A0 Af;have Ay:Hid (A1 b w w3):=Al.o.trans De.o;have lw3:=Ay.o.size;have He:=A0 Cs;have H3:=A0 h3;clear h3 Af Cs;go_wp2_with fail
 refine(K2 H3.o 24).mono ?_;rintro e w4 ⟨kk4,J9,Jq,S4,rfl,htk4,h4,An⟩;have Dv:=A0 An;have B2:Hid (A1 b w w4):=Ay.o.trans Dv.o;have lw4:=B2.o.size;have HTk4:=A0 htk4;have H4:=A0 h4;clear h4 An htk4;go_wp2_with fail
 refine(HY.o _ H4.o).mono ?_;rintro e w5 ⟨ty5,x5,rfl,h5,Bd,hr5⟩;have Ei:=A0 Bd;have B9:Hid (A1 b w w5):=B2.o.trans Ei.o;have lw5:=B9.o.size;have HR5:=A0 hr5;have H5:=A0 h5;clear h5 Bd hr5;go_wp2_with fail
 refine(K2 H5.o 19).mono ?_;rintro e w6 ⟨kk6,Ih,Jr,S6,rfl,htk6,h6,Bs⟩;have HP6:=A0 Bs;have Bn:Hid (A1 b w w6):=B9.o.trans HP6.o;have lw6:=Bn.o.size;have HTk6:=A0 htk6;have H6:=A0 h6;clear h6 Bs htk6;go_wp2;go_ret;rw[HR.o];refine Ir (l:=Ao 11 (A6 s).line) (ch:=B6 x.1 y.1) (ks:=[.iface ty3 x3,.iface ty5 x5]) H6.o Bn.o rfl (by simp[Ao]) rfl rfl (fun hb=>⟨⟨_,_,?_,rfl⟩,Aj.app _ _ [_] [_] (Aj.later (by omega) (by omega) ((Dv.o.trans Ei.o).trans HP6.o) (He.o (Mk (Pv H4.o.Jb HYp.o (Mk hb))))) (Aj.later (by omega) (by omega) HP6.o (HR5.o (Mk hb)))⟩);rw[(Kj.o Br.o).1];rfl
theorem Adf(w:World)(s:PS)(r:BT A2×PS)(hk:kT s=1)(Bk:kT (Aa s)≠18)(hs:PR b tb cap te ts w s)(hp:A7 (n+1) 4 0 .nil s=some r) :
  Calls Tryz.prog 310 #[.pointer (some ⟨b,0,none⟩)] w (Il b tb cap te ts w r):=by
 have HR:=A0 (Q0 hk Bk hp);have HS:=A0 hs;have lb:=hs.lt;have Br:Hid (s.bad=0):=hs.E7 (by omega);have tk:(kT (Aa s)==18)=false:=by simpa using Bk
 have HM:Hid (F0 18 (Aa s)=Aa s):=by show _=_;unfold F0;rw[if_neg Bk]
 clear hp hs hk Bk;go_enter Tryz.func310,Tryz.ntmps310;go_wp2_with fail
 refine(Ii HS.o).mono ?_;rintro e w1 ⟨Jp,nn1,S1,rfl,G8,h1,B5⟩;have Bh:=A0 B5;have Ae:Hid (A1 b w w1):=(A1.refl b w).trans Bh.o;have Cz:=Ae.o.size;have Kj:=A0 G8;have H1:=A0 h1;clear h1 B5 G8;have Ip:=A0 (heap_alloc_new w1 (.cells #[.int .i64 (kT s:Nat),.int .i64 Jp,.string ⟨S1.toArray⟩,.int .i64 nn1] 198));have lw1b:w1.heap.size<(w1.alloc (.cells #[.int .i64 (kT s:Nat),.int .i64 Jp,.string ⟨S1.toArray⟩,.int .i64 nn1] 198)).heap.size:=by simp
 go_wp2_with fail
 refine(Ni (PR.alloc H1.o _) 18).mono ?_;rintro e w2 ⟨rfl,h2,Ap⟩;have Cp:=A0 Ap;have Al:Hid (A1 b w w2):=(Ae.o.alloc _).trans Cp.o;have Fg:=Al.o.size;rw[tk];rw[HM.o]at h2;have H2:=A0 h2;clear h2 Ap;have hT2:=Cp.o.blk Ip.o (by omega);obtain⟨y0,y1,y2,y3,fy,ly⟩:=Ci hT2;clear hT2;go_wp2;go_ret;rw[HR.o];refine Ir (l:=⟨6,(A6 s).line,(A6 s).s,0,[]⟩) (ch:=.nil) (ks:=[]) H2.o Al.o rfl (by simp) rfl rfl (fun _=>⟨⟨?_,rfl⟩,rfl⟩);rw[(Kj.o Br.o).1,(Kj.o Br.o).2.1];rfl
theorem A30(ih:Jt b tb cap te ts n)(w:World)(s:PS)(r:BT A2×PS)(hk:kT s=1)(Bk:kT (Aa s)=18)(hs:PR b tb cap te ts w s)(hp:A7 (n+1) 4 0 .nil s=some r) :
  Calls Tryz.prog 310 #[.pointer (some ⟨b,0,none⟩)] w (Il b tb cap te ts w r):=by
 obtain⟨x,hx,hr⟩:=Pt hk Bk hp;have HR:=A0 hr;have HS:=A0 hs;have lb:=hs.lt;have Br:Hid (s.bad=0):=hs.E7 (by omega);have tk:(kT (Aa s)==18)=true:=by simpa using Bk
 have HM:Hid (F0 18 (Aa s)=Aa (Aa s)):=by show _=_;unfold F0;rw[if_pos Bk]
 have HX:=A0 (fun(W:World) (h:PR b tb cap te ts W (Aa (Aa s)))=>ih.list W (Aa (Aa s)) 19 x h hx);clear hp hs hk Bk hx hr;go_enter Tryz.func310,Tryz.ntmps310;go_wp2_with fail
 refine(Ii HS.o).mono ?_;rintro e w1 ⟨Jp,nn1,S1,rfl,G8,h1,B5⟩;have Bh:=A0 B5;have Ae:Hid (A1 b w w1):=(A1.refl b w).trans Bh.o;have Cz:=Ae.o.size;have Kj:=A0 G8;have H1:=A0 h1;clear h1 B5 G8;have Ip:=A0 (heap_alloc_new w1 (.cells #[.int .i64 (kT s:Nat),.int .i64 Jp,.string ⟨S1.toArray⟩,.int .i64 nn1] 198));have lw1b:w1.heap.size<(w1.alloc (.cells #[.int .i64 (kT s:Nat),.int .i64 Jp,.string ⟨S1.toArray⟩,.int .i64 nn1] 198)).heap.size:=by simp
 go_wp2_with fail
 refine(Ni (PR.alloc H1.o _) 18).mono ?_;rintro e w2 ⟨rfl,h2,Ap⟩;have Cp:=A0 Ap;have Al:Hid (A1 b w w2):=(Ae.o.alloc _).trans Cp.o;have Fg:=Al.o.size;rw[tk];rw[HM.o]at h2;have H2:=A0 h2;clear h2 Ap;have K5:=A0 (Cp.o.blk Ip.o (by omega));obtain⟨y0,y1,y2,y3,fy,ly⟩:=Ci K5.o;have HXd:=A0 (HX.o _ H2.o.drew);have hne:w1.heap.size≠b:=by omega
 generalize hgw:w1.heap.size=tk1 at *;have HGw:=A0 hgw;clear hgw;go_wp2;go_region_with (go_at_call 309;refine HXd.o.mono ?_;rintro e w3 ⟨va3,vn3,vc3,cs3,rfl,J6,h3,Af,Cs⟩;have hT3:=Af.blk (show w2.drew.heap[tk1]?=_ from K5.o) hne;obtain⟨z0,z1,z2,z3,fz,lz⟩:=Ci hT3;clear hT3)
 all_goals go_wp2
 all_goals go_ret
 all_goals rw[HR.o]
 all_goals refine Ir (l:=⟨7,(A6 s).line,(A6 s).s,0,[]⟩) (ch:=x.1) (ks:=cs3) h3 (Al.o.drew.trans Af) rfl (by simp) rfl rfl (fun hb=>⟨⟨_,?_,J6.keep (fun k hk _=>⟨rfl,by have h:w2.heap.size<=k:=hk;omega⟩)⟩,Aj.weak (by show _<=w2.heap.size;omega) (Cs hb)⟩)
 all_goals rw[(Kj.o Br.o).1,(Kj.o Br.o).2.1];rfl
theorem A8c(ih:Jt b tb cap te ts n)(w:World)(s:PS)(r:BT A2×PS)(hs:PR b tb cap te ts w s)(hp:A7 (n+1) 4 0 .nil s=some r) :
  Calls Tryz.prog 296 #[.pointer (some ⟨b,0,none⟩)] w (Il b tb cap te ts w r):=by
 have HS:=A0 hs;have lb:=hs.lt;have Jm:=Me;by_cases c18:kT s=18
 ·have t18:((kT s:Int)==18)=true:=ke (c:=18) rfl c18;obtain⟨x,hx,hr⟩:=Pw c18 hp;have HR:=A0 hr;have Br:Hid (s.bad=0):=hs.E7 (by omega);have HX:=A0 (fun(W:World) (h:PR b tb cap te ts W (Aa s))=>Ls ih W (Aa s) x h hx);clear hp hs hx hr c18;go_enter Tryz.func296,Tryz.ntmps296;go_wp2_with fail
  refine(Dl HS.o).mono ?_;rintro e w1 ⟨rfl,h1,A3⟩;have Bh:=A0 (Below.only (b:=b) A3);have Ae:Hid (A1 b w w1):=(A1.refl b w).trans Bh.o;have Cz:=Ae.o.size;have H1:=A0 h1;clear h1 A3;go_wp2_with fail
  refine(Ii H1.o).mono ?_;rintro e w2 ⟨Gp,nn2,S2,rfl,F3,h2,Ap⟩;have Cp:=A0 Ap;have Al:Hid (A1 b w w2):=Ae.o.trans Cp.o;have Fg:=Al.o.size;have Ef:=A0 F3;have H2:=A0 h2;clear h2 Ap F3;go_wp2_with fail
  refine(HX.o _ H2.o).mono ?_;rintro e w3 ⟨ty3,x3,rfl,h3,Af,Cs⟩;have De:=A0 Af;have Ay:Hid (A1 b w w3):=Al.o.trans De.o;have lw3:=Ay.o.size;have He:=A0 Cs;have H3:=A0 h3;clear h3 Af Cs;go_wp2_with fail
  refine(K2 H3.o 19).mono ?_;rintro e w4 ⟨kk4,J9,Jq,S4,rfl,htk4,h4,An⟩;have Dv:=A0 An;have B2:Hid (A1 b w w4):=Ay.o.trans Dv.o;have lw4:=B2.o.size;have HTk4:=A0 htk4;have H4:=A0 h4;clear h4 An htk4;go_wp2;go_ret;rw[HR.o];exact Ir (l:=Ao 8 (A6 s).line) (ch:=x.1) (ks:=[.iface ty3 x3]) H4.o B2.o rfl (by simp[Ao]) rfl rfl (fun hb=>⟨⟨_,rfl,rfl⟩,Aj.later (by omega) (by omega) Dv.o (He.o (Mk hb))⟩)
 by_cases c22:kT s=22
 ·have t18:((kT s:Int)==18)=false:=kn (c:=18) rfl c18;have t22:((kT s:Int)==22)=true:=ke (c:=22) rfl c22;obtain⟨x,hx,hr⟩:=Pr c22 hp;have HR:=A0 hr;have Br:Hid (s.bad=0):=hs.E7 (by omega);have HX:=A0 (fun(W:World) (h:PR b tb cap te ts W (Aa s))=>ih.list W (Aa s) 23 x h hx);clear hp hs hx hr c18 c22;go_enter Tryz.func296,Tryz.ntmps296;go_wp2_with fail
  refine(Dl HS.o).mono ?_;rintro e w1 ⟨rfl,h1,A3⟩;have Bh:=A0 (Below.only (b:=b) A3);have Ae:Hid (A1 b w w1):=(A1.refl b w).trans Bh.o;have Cz:=Ae.o.size;have H1:=A0 h1;clear h1 A3;go_wp2_with fail
  refine(Ii H1.o).mono ?_;rintro e w2 ⟨Gp,nn2,S2,rfl,F3,h2,Ap⟩;have Cp:=A0 Ap;have Al:Hid (A1 b w w2):=Ae.o.trans Cp.o;have Fg:=Al.o.size;have Ef:=A0 F3;have H2:=A0 h2;clear h2 Ap F3;go_wp2_with fail
  refine(HX.o _ H2.o).mono ?_;rintro e w3 ⟨va3,vn3,vc3,cs3,rfl,J6,h3,Af,Cs⟩;have De:=A0 Af;have Ay:Hid (A1 b w w3):=Al.o.trans De.o;have lw3:=Ay.o.size;have He:=A0 Cs;have HOwn3:=A0 J6;have H3:=A0 h3;clear h3 Af Cs J6;go_wp2;go_ret;rw[HR.o];refine Ir (l:=Ao 9 (A6 s).line) (ch:=x.1) (ks:=cs3) H3.o Ay.o rfl (by simp[Ao]) rfl rfl (fun hb=>⟨⟨_,?_,HOwn3.o.keep (fun k hk _=>⟨rfl,by have h:w2.heap.size<=k:=hk;omega⟩)⟩,Aj.weak (by omega) (He.o hb)⟩);rw[(Ef.o Br.o).1];rfl
 by_cases c1:kT s=1
 ·have t18:((kT s:Int)==18)=false:=kn (c:=18) rfl c18;have t22:((kT s:Int)==22)=false:=kn (c:=22) rfl c22;have t1:((kT s:Int)==1)=true:=ke (c:=1) rfl c1;have HX:Hid (∀W,PR b tb cap te ts W s->Calls Tryz.prog 310 #[.pointer (some ⟨b,0,none⟩)] W (Il b tb cap te ts W r)):=by
   intro W h;by_cases c2:kT (Aa s)=18
   ·exact A30 ih W s r c1 c2 h hp
   ·exact Adf W s r c1 c2 h hp
  clear hp hs c18 c22 c1;go_enter Tryz.func296,Tryz.ntmps296;go_wp2_with fail
  refine(Dl HS.o).mono ?_;rintro e w1 ⟨rfl,h1,A3⟩;have Bh:=A0 (Below.only (b:=b) A3);have Ae:Hid (A1 b w w1):=(A1.refl b w).trans Bh.o;have Cz:=Ae.o.size;have H1:=A0 h1;clear h1 A3;go_wp2_with fail
  refine(HX.o _ H1.o).mono ?_;rintro e w2 ⟨Jd,x2,rfl,h2,Ap,Bt⟩;have Cp:=A0 Ap;have Al:Hid (A1 b w w2):=Ae.o.trans Cp.o;have Fg:=Al.o.size;have F9:=A0 Bt;have H2:=A0 h2;clear h2 Ap Bt;go_wp2;go_ret;exact⟨_,_,rfl,H2.o,Al.o,fun hb=>Aj.weak (by omega) (F9.o hb)⟩
 by_cases c16:kT s=16
 ·have t18:((kT s:Int)==18)=false:=kn (c:=18) rfl c18;have t22:((kT s:Int)==22)=false:=kn (c:=22) rfl c22;have t1:((kT s:Int)==1)=false:=kn (c:=1) rfl c1;have t16:((kT s:Int)==16)=true:=ke (c:=16) rfl c16;have HX:=A0 (fun(W:World) (h:PR b tb cap te ts W s)=>A6o ih W s r c16 h hp);clear hp hs c18 c22 c1 c16;go_enter Tryz.func296,Tryz.ntmps296;go_wp2_with fail
  refine(Dl HS.o).mono ?_;rintro e w1 ⟨rfl,h1,A3⟩;have Bh:=A0 (Below.only (b:=b) A3);have Ae:Hid (A1 b w w1):=(A1.refl b w).trans Bh.o;have Cz:=Ae.o.size;have H1:=A0 h1;clear h1 A3;go_wp2_with fail
  refine(HX.o _ H1.o).mono ?_;rintro e w2 ⟨Jd,x2,rfl,h2,Ap,Bt⟩;have Cp:=A0 Ap;have Al:Hid (A1 b w w2):=Ae.o.trans Cp.o;have Fg:=Al.o.size;have F9:=A0 Bt;have H2:=A0 h2;clear h2 Ap Bt;go_wp2;go_ret;exact⟨_,_,rfl,H2.o,Al.o,fun hb=>Aj.weak (by omega) (F9.o hb)⟩
 by_cases c17:kT s=17
 ·have t18:((kT s:Int)==18)=false:=kn (c:=18) rfl c18;have t22:((kT s:Int)==22)=false:=kn (c:=22) rfl c22;have t1:((kT s:Int)==1)=false:=kn (c:=1) rfl c1;have t16:((kT s:Int)==16)=false:=kn (c:=16) rfl c16;have t17:((kT s:Int)==17)=true:=ke (c:=17) rfl c17;have HX:=A0 (fun(W:World) (h:PR b tb cap te ts W s)=>A97 ih W s r c17 h hp);clear hp hs c18 c22 c1 c16 c17;go_enter Tryz.func296,Tryz.ntmps296;go_wp2_with fail
  refine(Dl HS.o).mono ?_;rintro e w1 ⟨rfl,h1,A3⟩;have Bh:=A0 (Below.only (b:=b) A3);have Ae:Hid (A1 b w w1):=(A1.refl b w).trans Bh.o;have Cz:=Ae.o.size;have H1:=A0 h1;clear h1 A3;go_wp2_with fail
  refine(HX.o _ H1.o).mono ?_;rintro e w2 ⟨Jd,x2,rfl,h2,Ap,Bt⟩;have Cp:=A0 Ap;have Al:Hid (A1 b w w2):=Ae.o.trans Cp.o;have Fg:=Al.o.size;have F9:=A0 Bt;have H2:=A0 h2;clear h2 Ap Bt;go_wp2;go_ret;exact⟨_,_,rfl,H2.o,Al.o,fun hb=>Aj.weak (by omega) (F9.o hb)⟩
 have t18:((kT s:Int)==18)=false:=kn (c:=18) rfl c18;have t22:((kT s:Int)==22)=false:=kn (c:=22) rfl c22;have t1:((kT s:Int)==1)=false:=kn (c:=1) rfl c1;have t16:((kT s:Int)==16)=false:=kn (c:=16) rfl c16;have t17:((kT s:Int)==17)=false:=kn (c:=17) rfl c17;have HX:=A0 (fun(W:World) (h:PR b tb cap te ts W s)=>A6z W s r c1 c18 c22 c16 c17 h hp);clear hp hs c18 c22 c1 c16 c17 Jm;go_enter Tryz.func296,Tryz.ntmps296;go_wp2_with fail
 refine(Dl HS.o).mono ?_;rintro e w1 ⟨rfl,h1,A3⟩;have Bh:=A0 (Below.only (b:=b) A3);have Ae:Hid (A1 b w w1):=(A1.refl b w).trans Bh.o;have Cz:=Ae.o.size;have H1:=A0 h1;clear h1 A3;go_wp2_with fail
 refine(HX.o _ H1.o).mono ?_;rintro e w2 ⟨Jd,x2,rfl,h2,Ap,Bt⟩;have Cp:=A0 Ap;have Al:Hid (A1 b w w2):=Ae.o.trans Cp.o;have Fg:=Al.o.size;have F9:=A0 Bt;have H2:=A0 h2;clear h2 Ap Bt;go_wp2;go_ret;exact⟨_,_,rfl,H2.o,Al.o,fun hb=>Aj.weak (by omega) (F9.o hb)⟩
end
end Go.Proofs.YtjdlndhfaaolaaaGreatDoor
