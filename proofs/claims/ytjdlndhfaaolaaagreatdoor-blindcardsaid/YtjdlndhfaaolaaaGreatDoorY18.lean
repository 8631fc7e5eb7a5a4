import Derived.Deep.RegionHeld3
import Derived.Test.YtjdlndhfaaolaaaGreatDoorY14
set_option maxHeartbeats 20000000
set_option linter.defProp false
namespace Go.Proofs.YtjdlndhfaaolaaaGreatDoor
section
set_option maxRecDepth 100000
open Go.RowKit
open Go.Deep (BT)
variable {b tb cap te:Nat}{ts:List Tk}{n:Nat}
def Aly(ih:K5 b tb cap te ts n)(w:World)(s:PS)(r:BT A5×PS)(hk:kT s=16)(hs:PR b tb cap te ts w s)(hp:Ak (n+1) 4 0 .nil s=some r) :
  Calls Tryz.prog 311 #[.p b] w (J4 b tb cap te ts w r):=by
 obtain⟨x,hx,hr⟩:=Ann hk hp;have lb:=hs.lt;have Ag:s.bad=0:=hs.Ij z4ma;have HX:=fun(W:World) (h:PR b tb cap te ts W (Be 18 (At s)))=>Mu ih W (Be 18 (At s)) x h hx;have hf1:=Nu;go_in;go_wp2_with fail
 refine(Iz hs).mono ?_;rintro e w1 ⟨Jy,nn1,S1,rfl,L5,h1,Cy⟩;have Bd:A8 b w w1:=(A8.refl b w).trans Cy;have Ef:=Bd.size;go_wp2_with fail
 refine(Kc h1 18).mono ?_;rintro e w2 ⟨kk2,Hv,nn2,S2,rfl,Iu,h2,C4⟩;have Bo:A8 b w w2:=Bd.trans C4;have G0:=Bo.size;go_wp2_with fail
 refine(HX _ h2).mono ?_;rintro e w3 ⟨ty3,x3,rfl,h3,E8,Gg⟩;have D1:A8 b w w3:=Bo.trans E8;have lw3:=D1.size;go_wp2_with fail
 refine(Kc h3 19).mono ?_;rintro e w4 ⟨kk4,ln4,nn4,S4,rfl,htk4,h4,Cx⟩;have Ce:A8 b w w4:=D1.trans Cx;have lw4:=Ce.size;go_wp2;go_ret;rw[hr];refine J7 (l:=B4 10 (B6 s).line) (ch:=x.1) (ks:=[.iface ty3 x3]) h4 Ce rfl z52a rfl rfl (fun hb=>⟨⟨_,?_,rfl⟩,Ar.later z4ma z4ma Cx (Gg (Nz hb))⟩);rw[(L5 Ag).1];rfl
def Ape(ih:K5 b tb cap te ts n)(w:World)(s:PS)(r:BT A5×PS)(hk:kT s=17)(hs:PR b tb cap te ts w s)(hp:Ak (n+1) 4 0 .nil s=some r) :
  Calls Tryz.prog 312 #[.p b] w (J4 b tb cap te ts w r):=by
 obtain⟨x,y,hx,hy,hr⟩:=Ao0 hk hp;have lb:=hs.lt;have Ag:s.bad=0:=hs.Ij z4ma;have HX:=fun(W:World) (h:PR b tb cap te ts W (Be 18 (At s)))=>Mu ih W (Be 18 (At s)) x h hx;have HY:=fun(W:World) (h:PR b tb cap te ts W (Be 24 x.2))=>Mu ih W (Be 24 x.2) y h hy;have hf1:=Nu;go_in;go_wp2_with fail
 refine(Iz hs).mono ?_;rintro e w1 ⟨Jy,nn1,S1,rfl,L5,h1,Cy⟩;have Bd:A8 b w w1:=(A8.refl b w).trans Cy;have Ef:=Bd.size;go_wp2_with fail
 refine(Kc h1 18).mono ?_;rintro e w2 ⟨kk2,Hv,nn2,S2,rfl,Iu,h2,C4⟩;have Bo:A8 b w w2:=Bd.trans C4;have G0:=Bo.size;go_wp2_with fail
 refine(HX _ h2).mono ?_;rintro e w3 ⟨ty3,x3,rfl,h3,E8,Gg⟩;have D1:A8 b w w3:=Bo.trans E8;have lw3:=D1.size;go_wp2_with fail
 refine(Kc h3 24).mono ?_;rintro e w4 ⟨kk4,ln4,nn4,S4,rfl,htk4,h4,Cx⟩;have Ce:A8 b w w4:=D1.trans Cx;have lw4:=Ce.size;go_wp2_with fail
 refine(HY _ h4).mono ?_;rintro e w5 ⟨ty5,x5,rfl,h5,Fc,hr5⟩;have Cq:A8 b w w5:=Ce.trans Fc;have lw5:=Cq.size;go_wp2_with fail
 refine(Kc h5 19).mono ?_;rintro e w6 ⟨kk6,ln6,nn6,S6,rfl,htk6,h6,ho6⟩;have Dz:A8 b w w6:=Cq.trans ho6;have lw6:=Dz.size;go_wp2;go_ret;rw[hr];refine J7 (l:=B4 11 (B6 s).line) (ch:=Dw x.1 y.1) (ks:=[.iface ty3 x3,.iface ty5 x5]) h6 Dz rfl z52a rfl rfl (fun hb=>⟨⟨_,_,?_,rfl⟩,Ar.app _ _ [_] [_] (Ar.later z4ma z4ma ((Cx.trans Fc).trans ho6) (Gg (Nz (T5 h4.P4 hy (Nz hb))))) (Ar.later z4ma z4ma ho6 (hr5 (Nz hb)))⟩);rw[(L5 Ag).1];rfl
def Avq(w:World)(s:PS)(r:BT A5×PS)(hk:kT s=1)(D4:kT (At s)≠18)(hs:PR b tb cap te ts w s)(hp:Ak (n+1) 4 0 .nil s=some r) :
  Calls Tryz.prog 310 #[.p b] w (J4 b tb cap te ts w r):=by
 have HR:=Ans hk D4 hp;have HS:=A0 hs;have lb:=hs.lt;have Ag:s.bad=0:=hs.Ij z4ma;have tk:(kT (At s)==18)=false:=by simpa using D4
 have HM:Jb 18 (At s)=At s:=by show _=_;unfold Jb;rw[A1 D4]
 clear hp hs hk D4;go_in;go_wp2_with fail
 refine(Iz HS.o).mono ?_;rintro e w1 ⟨Jy,nn1,S1,rfl,L5,h1,Cy⟩;have Cn:=A0 Cy;have Bd:A8 b w w1:=(A8.refl b w).trans Cn.o;have Ef:=Bd.size;have HTk1:=A0 L5;have H1:=A0 h1;clear h1 Cy L5;have Im:=Bp w1 (.cells #[.n (kT s),.i Jy,.s S1,.i nn1] 198);have lw1b:w1.heap.size<(w1.alloc (.cells #[.n (kT s),.i Jy,.s S1,.i nn1] 198)).heap.size:=by simp
 go_wp2_with fail
 refine(Pb (PR.alloc H1.o _) 18).mono ?_;rintro e w2 ⟨rfl,h2,C4⟩;have Bk:=A0 C4;have Bo:A8 b w w2:=(Bd.alloc _).trans Bk.o;have G0:=Bo.size;rw[tk];rw[HM]at h2;have H2:=A0 h2;clear h2 C4;have Kz:=Bk.o.blk Im z4ma;obtain⟨y0,y1,y2,y3,fy,ly⟩:=Eo Kz;clear Kz;go_wp2;go_ret;rw[HR];refine J7 (l:=⟨6,(B6 s).line,(B6 s).s,0,[]⟩) (ch:=.nil) (ks:=[]) H2.o Bo rfl z4ra rfl rfl (fun _=>⟨⟨?_,rfl⟩,rfl⟩);rw[(HTk1.o Ag).1,(HTk1.o Ag).2.1];rfl
def Afx(ih:K5 b tb cap te ts n)(w:World)(s:PS)(r:BT A5×PS)(hk:kT s=1)(D4:kT (At s)=18)(hs:PR b tb cap te ts w s)(hp:Ak (n+1) 4 0 .nil s=some r) :
  Calls Tryz.prog 310 #[.p b] w (J4 b tb cap te ts w r):=by
 obtain⟨x,hx,hr⟩:=Anf hk D4 hp;have HR:=A0 hr;have HS:=A0 hs;have lb:=hs.lt;have Ag:s.bad=0:=hs.Ij z4ma;have tk:(kT (At s)==18)=true:=by simpa using D4
 have HM:Jb 18 (At s)=At (At s):=by show _=_;unfold Jb;rw[A7 D4]
 have HX:=fun(W:World) (h:PR b tb cap te ts W (At (At s)))=>ih.list W (At (At s)) 19 x h hx;clear hp hs hk D4 hx hr;go_in;go_wp2_with fail
 refine(Iz HS.o).mono ?_;rintro e w1 ⟨Jy,nn1,S1,rfl,L5,h1,Cy⟩;have Cn:=A0 Cy;have Bd:A8 b w w1:=(A8.refl b w).trans Cn.o;have Ef:=Bd.size;have HTk1:=A0 L5;have H1:=A0 h1;clear h1 Cy L5;have Im:=Bp w1 (.cells #[.n (kT s),.i Jy,.s S1,.i nn1] 198);have lw1b:w1.heap.size<(w1.alloc (.cells #[.n (kT s),.i Jy,.s S1,.i nn1] 198)).heap.size:=by simp
 go_wp2_with fail
 refine(Pb (PR.alloc H1.o _) 18).mono ?_;rintro e w2 ⟨rfl,h2,C4⟩;have Bk:=A0 C4;have Bo:A8 b w w2:=(Bd.alloc _).trans Bk.o;have G0:=Bo.size;rw[tk];rw[HM]at h2;have H2:=A0 h2;clear h2 C4;have HT2:=Bk.o.blk Im z4ma;obtain⟨y0,y1,y2,y3,fy,ly⟩:=Eo HT2;have HXd:=HX _ H2.o.drew;have hne:w1.heap.size≠b:=by omega
 generalize hgw:w1.heap.size=tk1 at *;have HGw:=A0 hgw;clear hgw;go_wp2;go_region_with (go_at_call 309;refine HXd.mono ?_;rintro e w3 ⟨va3,vn3,vc3,cs3,rfl,hown3,h3,E8,Gg⟩;have Ka:=E8.blk (show w2.drew.heap[tk1]?=_ from HT2) hne;obtain⟨z0,z1,z2,z3,fz,lz⟩:=Eo Ka;clear Ka)
 all_goals go_wp2
 all_goals go_ret
 all_goals rw[HR.o]
 all_goals refine J7 (l:=⟨7,(B6 s).line,(B6 s).s,0,[]⟩) (ch:=x.1) (ks:=cs3) h3 (Bo.drew.trans E8) rfl z4ra rfl rfl (fun hb=>⟨⟨_,?_,hown3.keep (fun k hk _=>⟨rfl,by have h:w2.heap.size<=k:=hk;omega⟩)⟩,Ar.weak (by show _<=w2.heap.size;omega) (Gg hb)⟩)
 all_goals rw[(HTk1.o Ag).1,(HTk1.o Ag).2.1];rfl
def z03a {P:Prop} (h:P:=by
  go_wp2_with fail
  refine(E9 hs).mono ?_;rintro e w1 ⟨rfl,h1,A2⟩;have Cn:=A0 (Below.only (b:=b) A2);have Bd:Hid (A8 b w w1):=(A8.refl b w).trans Cn.o;have Ef:=Bd.o.size;have H1:=A0 h1;go_wp2_with fail
  refine(HX.o _ H1.o).mono ?_;rintro e w2 ⟨Jn,x2,rfl,h2,C4,C7⟩;have Bk:=A0 C4;have Bo:Hid (A8 b w w2):=Bd.o.trans Bk.o;have G0:=Bo.o.size;have Hx:=A0 C7;have H2:=A0 h2;go_wp2;go_ret;exact⟨_,_,rfl,H2.o,Bo.o,fun hb=>Ar.weak z4ma (Hx.o hb)⟩):P:=h
def Aoc(ih:K5 b tb cap te ts n)(w:World)(s:PS)(r:BT A5×PS)(hs:PR b tb cap te ts w s)(hp:Ak (n+1) 4 0 .nil s=some r) :
  Calls Tryz.prog 296 #[.p b] w (J4 b tb cap te ts w r):=by
 have lb:=hs.lt;have hf1:=Nu;by_cases c18:kT s=18
 ·have t18:((kT s:Int)==18)=true:=ke (c:=18) rfl c18;obtain⟨x,hx,hr⟩:=Ani c18 hp;have HR:=A0 hr;have Ag:Hid (s.bad=0):=hs.Ij z4ma;have HX:=A0 (fun(W:World) (h:PR b tb cap te ts W (At s))=>Mu ih W (At s) x h hx);go_in;go_wp2_with fail
  refine(E9 hs).mono ?_;rintro e w1 ⟨rfl,h1,A2⟩;have Cn:=A0 (Below.only (b:=b) A2);have Bd:Hid (A8 b w w1):=(A8.refl b w).trans Cn.o;have Ef:=Bd.o.size;have H1:=A0 h1;go_wp2_with fail
  refine(Iz H1.o).mono ?_;rintro e w2 ⟨Hv,nn2,S2,rfl,Iu,h2,C4⟩;have Bk:=A0 C4;have Bo:Hid (A8 b w w2):=Bd.o.trans Bk.o;have G0:=Bo.o.size;have K7:=A0 Iu;have H2:=A0 h2;go_wp2_with fail
  refine(HX.o _ H2.o).mono ?_;rintro e w3 ⟨ty3,x3,rfl,h3,E8,Gg⟩;have C2:=A0 E8;have D1:Hid (A8 b w w3):=Bo.o.trans C2.o;have lw3:=D1.o.size;have Jr:=A0 Gg;have H3:=A0 h3;go_wp2_with fail
  refine(Kc H3.o 19).mono ?_;rintro e w4 ⟨kk4,ln4,nn4,S4,rfl,htk4,h4,Cx⟩;have Ce:A8 b w w4:=D1.o.trans Cx;have lw4:=Ce.size;go_wp2;go_ret;rw[HR.o];exact J7 (l:=B4 8 (B6 s).line) (ch:=x.1) (ks:=[.iface ty3 x3]) h4 Ce rfl z52a rfl rfl (fun hb=>⟨⟨_,rfl,rfl⟩,Ar.later z4ma z4ma Cx (Jr.o (Nz hb))⟩)
 by_cases c22:kT s=22
 ·have t18:((kT s:Int)==18)=false:=kn (c:=18) rfl c18;have t22:((kT s:Int)==22)=true:=ke (c:=22) rfl c22;obtain⟨x,hx,hr⟩:=Anb c22 hp;have HR:=A0 hr;have Ag:Hid (s.bad=0):=hs.Ij z4ma;have HX:=A0 (fun(W:World) (h:PR b tb cap te ts W (At s))=>ih.list W (At s) 23 x h hx);go_in;go_wp2_with fail
  refine(E9 hs).mono ?_;rintro e w1 ⟨rfl,h1,A2⟩;have Cn:=A0 (Below.only (b:=b) A2);have Bd:Hid (A8 b w w1):=(A8.refl b w).trans Cn.o;have Ef:=Bd.o.size;have H1:=A0 h1;go_wp2_with fail
  refine(Iz H1.o).mono ?_;rintro e w2 ⟨Hv,nn2,S2,rfl,Iu,h2,C4⟩;have Bk:=A0 C4;have Bo:Hid (A8 b w w2):=Bd.o.trans Bk.o;have G0:=Bo.o.size;have K7:=A0 Iu;have H2:=A0 h2;go_wp2_with fail
  refine(HX.o _ H2.o).mono ?_;rintro e w3 ⟨va3,vn3,vc3,cs3,rfl,hown3,h3,E8,Gg⟩;have C2:=A0 E8;have D1:Hid (A8 b w w3):=Bo.o.trans C2.o;have lw3:=D1.o.size;have Jr:=A0 Gg;have H3:=A0 h3;go_wp2;go_ret;rw[HR.o];refine J7 (l:=B4 9 (B6 s).line) (ch:=x.1) (ks:=cs3) H3.o D1.o rfl z52a rfl rfl (fun hb=>⟨⟨_,?_,hown3.keep (fun k hk _=>⟨rfl,by have h:w2.heap.size<=k:=hk;omega⟩)⟩,Ar.weak z4ma (Jr.o hb)⟩);rw[(K7.o Ag.o).1];rfl
 by_cases c1:kT s=1
 ·have t18:((kT s:Int)==18)=false:=kn (c:=18) rfl c18;have t22:((kT s:Int)==22)=false:=kn (c:=22) rfl c22;have t1:((kT s:Int)==1)=true:=ke (c:=1) rfl c1;have HX:Hid (∀W,PR b tb cap te ts W s->Calls Tryz.prog 310 #[.p b] W (J4 b tb cap te ts W r)):=by
   intro W h;by_cases c2:kT (At s)=18
   ·exact Afx ih W s r c1 c2 h hp
   ·exact Avq W s r c1 c2 h hp
  go_in;exact z03a
 by_cases c16:kT s=16
 ·have t18:((kT s:Int)==18)=false:=kn (c:=18) rfl c18;have t22:((kT s:Int)==22)=false:=kn (c:=22) rfl c22;have t1:((kT s:Int)==1)=false:=kn (c:=1) rfl c1;have t16:((kT s:Int)==16)=true:=ke (c:=16) rfl c16;have HX:=A0 (fun(W:World) (h:PR b tb cap te ts W s)=>Aly ih W s r c16 h hp);go_in;exact z03a
 by_cases c17:kT s=17
 ·have t18:((kT s:Int)==18)=false:=kn (c:=18) rfl c18;have t22:((kT s:Int)==22)=false:=kn (c:=22) rfl c22;have t1:((kT s:Int)==1)=false:=kn (c:=1) rfl c1;have t16:((kT s:Int)==16)=false:=kn (c:=16) rfl c16;have t17:((kT s:Int)==17)=true:=ke (c:=17) rfl c17;have HX:=A0 (fun(W:World) (h:PR b tb cap te ts W s)=>Ape ih W s r c17 h hp);go_in;exact z03a
 have t18:((kT s:Int)==18)=false:=kn (c:=18) rfl c18;have t22:((kT s:Int)==22)=false:=kn (c:=22) rfl c22;have t1:((kT s:Int)==1)=false:=kn (c:=1) rfl c1;have t16:((kT s:Int)==16)=false:=kn (c:=16) rfl c16;have t17:((kT s:Int)==17)=false:=kn (c:=17) rfl c17;have HX:=A0 (fun(W:World) (h:PR b tb cap te ts W s)=>Am6 W s r c1 c18 c22 c16 c17 h hp);go_in;exact z03a
