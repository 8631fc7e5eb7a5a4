import Derived.Deep.RegionHeld3
import Derived.Test.YtjdlndhfaaolaaaGreatDoorT13
set_option maxHeartbeats 20000000
namespace Go.Proofs.YtjdlndhfaaolaaaGreatDoor
section
set_option maxRecDepth 100000
open Go.RowKit
open Go.Deep (BT)
variable {b tb cap te:Nat}{ts:List Tk}{n:Nat}
theorem Afe(ih:Iq b tb cap te ts n)(w:World)(s:PS)(r:BT A6×PS)(hk:kT s=16)(hs:PR b tb cap te ts w s)(hp:Ai (n+1) 4 0 .nil s=some r) :
  Calls Tryz.prog 311 #[.pointer (some ⟨b,0,none⟩)] w (Ho b tb cap te ts w r):=by
 obtain⟨x,hx,hr⟩:=A2d hk hp;have HS:=A0 hs;have lb:=hs.lt;have Ah:Hid (s.bad=0):=hs.Gx z51a;have HR:=A0 hr;have HX:=A0 (fun(W:World) (h:PR b tb cap te ts W (Bi 18 (At s)))=>Kf ih W (Bi 18 (At s)) x h hx);have Ii:=Lb;clear hp hs hk hx hr;go_enter Tryz.func311,Tryz.ntmps311;go_wp2_with fail
 refine(Hf HS.o).mono ?_;rintro e w1 ⟨Il,nn1,S1,rfl,Fv,h1,C3⟩;have Bz:=A0 C3;have B6:Hid (A9 b w w1):=(A9.refl b w).trans Bz.o;have Du:=B6.o.size;have J8:=A0 Fv;have H1:=A0 h1;clear h1 C3 Fv;go_wp2_with fail
 refine(Ix H1.o 18).mono ?_;rintro e w2 ⟨kk2,Gd,nn2,S2,rfl,F6,h2,Be⟩;have B4:=A0 Be;have Bm:Hid (A9 b w w2):=B6.o.trans B4.o;have Fe:=Bm.o.size;have Eg:=A0 F6;have H2:=A0 h2;clear h2 Be F6;go_wp2_with fail
 refine(HX.o _ H2.o).mono ?_;rintro e w3 ⟨ty3,x3,rfl,h3,Cv,Cj⟩;have Bn:=A0 Cv;have Cp:Hid (A9 b w w3):=Bm.o.trans Bn.o;have lw3:=Cp.o.size;have C8:=A0 Cj;have H3:=A0 h3;clear h3 Cv Cj;go_wp2_with fail
 refine(Ix H3.o 19).mono ?_;rintro e w4 ⟨kk4,ln4,nn4,S4,rfl,htk4,h4,Cq⟩;have Ct:=A0 Cq;have C7:Hid (A9 b w w4):=Cp.o.trans Ct.o;have lw4:=C7.o.size;have HTk4:=A0 htk4;have H4:=A0 h4;clear h4 Cq htk4;go_wp2;go_ret;rw[HR.o];refine Hr (l:=Bb 10 (B9 s).line) (ch:=x.1) (ks:=[.iface ty3 x3]) H4.o C7.o rfl z5ha rfl rfl (fun hb=>⟨⟨_,?_,rfl⟩,Ao.later z51a z51a Ct.o (C8.o (Lm hb))⟩);rw[(J8.o Ah.o).1];rfl
theorem Ai7(ih:Iq b tb cap te ts n)(w:World)(s:PS)(r:BT A6×PS)(hk:kT s=17)(hs:PR b tb cap te ts w s)(hp:Ai (n+1) 4 0 .nil s=some r) :
  Calls Tryz.prog 312 #[.pointer (some ⟨b,0,none⟩)] w (Ho b tb cap te ts w r):=by
 obtain⟨x,y,hx,hy,hr⟩:=A2m hk hp;have HS:=A0 hs;have lb:=hs.lt;have Ah:Hid (s.bad=0):=hs.Gx z51a;have HR:=A0 hr;have HYp:=A0 hy;have HX:=A0 (fun(W:World) (h:PR b tb cap te ts W (Bi 18 (At s)))=>Kf ih W (Bi 18 (At s)) x h hx);have HY:=A0 (fun(W:World) (h:PR b tb cap te ts W (Bi 24 x.2))=>Kf ih W (Bi 24 x.2) y h hy);have Ii:=Lb;clear hp hs hk hx hy hr;go_enter Tryz.func312,Tryz.ntmps312;go_wp2_with fail
 refine(Hf HS.o).mono ?_;rintro e w1 ⟨Il,nn1,S1,rfl,Fv,h1,C3⟩;have Bz:=A0 C3;have B6:Hid (A9 b w w1):=(A9.refl b w).trans Bz.o;have Du:=B6.o.size;have J8:=A0 Fv;have H1:=A0 h1;clear h1 C3 Fv;go_wp2_with fail
 refine(Ix H1.o 18).mono ?_;rintro e w2 ⟨kk2,Gd,nn2,S2,rfl,F6,h2,Be⟩;have B4:=A0 Be;have Bm:Hid (A9 b w w2):=B6.o.trans B4.o;have Fe:=Bm.o.size;have Eg:=A0 F6;have H2:=A0 h2;clear h2 Be F6;go_wp2_with fail
 refine(HX.o _ H2.o).mono ?_;rintro e w3 ⟨ty3,x3,rfl,h3,Cv,Cj⟩;have Bn:=A0 Cv;have Cp:Hid (A9 b w w3):=Bm.o.trans Bn.o;have lw3:=Cp.o.size;have C8:=A0 Cj;have H3:=A0 h3;clear h3 Cv Cj;go_wp2_with fail
 refine(Ix H3.o 24).mono ?_;rintro e w4 ⟨kk4,ln4,nn4,S4,rfl,htk4,h4,Cq⟩;have Ct:=A0 Cq;have C7:Hid (A9 b w w4):=Cp.o.trans Ct.o;have lw4:=C7.o.size;have HTk4:=A0 htk4;have H4:=A0 h4;clear h4 Cq htk4;go_wp2_with fail
 refine(HY.o _ H4.o).mono ?_;rintro e w5 ⟨ty5,x5,rfl,h5,Ea,hr5⟩;have Ew:=A0 Ea;have Ce:Hid (A9 b w w5):=C7.o.trans Ew.o;have lw5:=Ce.o.size;have HR5:=A0 hr5;have H5:=A0 h5;clear h5 Ea hr5;go_wp2_with fail
 refine(Ix H5.o 19).mono ?_;rintro e w6 ⟨kk6,ln6,nn6,S6,rfl,htk6,h6,Jc⟩;have HP6:=A0 Jc;have Dp:Hid (A9 b w w6):=Ce.o.trans HP6.o;have lw6:=Dp.o.size;have HTk6:=A0 htk6;have H6:=A0 h6;clear h6 Jc htk6;go_wp2;go_ret;rw[HR.o];refine Hr (l:=Bb 11 (B9 s).line) (ch:=C4 x.1 y.1) (ks:=[.iface ty3 x3,.iface ty5 x5]) H6.o Dp.o rfl z5ha rfl rfl (fun hb=>⟨⟨_,_,?_,rfl⟩,Ao.app _ _ [_] [_] (Ao.later z51a z51a ((Ct.o.trans Ew.o).trans HP6.o) (C8.o (Lm (Ph H4.o.Mf HYp.o (Lm hb))))) (Ao.later z51a z51a HP6.o (HR5.o (Lm hb)))⟩);rw[(J8.o Ah.o).1];rfl
theorem Apb(w:World)(s:PS)(r:BT A6×PS)(hk:kT s=1)(Cm:kT (At s)≠18)(hs:PR b tb cap te ts w s)(hp:Ai (n+1) 4 0 .nil s=some r) :
  Calls Tryz.prog 310 #[.pointer (some ⟨b,0,none⟩)] w (Ho b tb cap te ts w r):=by
 have HR:=A0 (A2i hk Cm hp);have HS:=A0 hs;have lb:=hs.lt;have Ah:Hid (s.bad=0):=hs.Gx z51a;have tk:(kT (At s)==18)=false:=by simpa using Cm
 have HM:Hid (Hw 18 (At s)=At s):=by show _=_;unfold Hw;rw[if_neg Cm]
 clear hp hs hk Cm;go_enter Tryz.func310,Tryz.ntmps310;go_wp2_with fail
 refine(Hf HS.o).mono ?_;rintro e w1 ⟨Il,nn1,S1,rfl,Fv,h1,C3⟩;have Bz:=A0 C3;have B6:Hid (A9 b w w1):=(A9.refl b w).trans Bz.o;have Du:=B6.o.size;have J8:=A0 Fv;have H1:=A0 h1;clear h1 C3 Fv;have Gq:=A0 (heap_alloc_new w1 (.cells #[.int .i64 (kT s:Nat),.int .i64 Il,.string ⟨S1.toArray⟩,.int .i64 nn1] 198));have lw1b:w1.heap.size<(w1.alloc (.cells #[.int .i64 (kT s:Nat),.int .i64 Il,.string ⟨S1.toArray⟩,.int .i64 nn1] 198)).heap.size:=by simp
 go_wp2_with fail
 refine(Mp (PR.alloc H1.o _) 18).mono ?_;rintro e w2 ⟨rfl,h2,Be⟩;have B4:=A0 Be;have Bm:Hid (A9 b w w2):=(B6.o.alloc _).trans B4.o;have Fe:=Bm.o.size;rw[tk];rw[HM.o]at h2;have H2:=A0 h2;clear h2 Be;have Jb:=B4.o.blk Gq.o z51a;obtain⟨y0,y1,y2,y3,fy,ly⟩:=E4 Jb;clear Jb;go_wp2;go_ret;rw[HR.o];refine Hr (l:=⟨6,(B9 s).line,(B9 s).s,0,[]⟩) (ch:=.nil) (ks:=[]) H2.o Bm.o rfl z56a rfl rfl (fun _=>⟨⟨?_,rfl⟩,rfl⟩);rw[(J8.o Ah.o).1,(J8.o Ah.o).2.1];rfl
theorem A9o(ih:Iq b tb cap te ts n)(w:World)(s:PS)(r:BT A6×PS)(hk:kT s=1)(Cm:kT (At s)=18)(hs:PR b tb cap te ts w s)(hp:Ai (n+1) 4 0 .nil s=some r) :
  Calls Tryz.prog 310 #[.pointer (some ⟨b,0,none⟩)] w (Ho b tb cap te ts w r):=by
 obtain⟨x,hx,hr⟩:=A25 hk Cm hp;have HR:=A0 hr;have HS:=A0 hs;have lb:=hs.lt;have Ah:Hid (s.bad=0):=hs.Gx z51a;have tk:(kT (At s)==18)=true:=by simpa using Cm
 have HM:Hid (Hw 18 (At s)=At (At s)):=by show _=_;unfold Hw;rw[if_pos Cm]
 have HX:=A0 (fun(W:World) (h:PR b tb cap te ts W (At (At s)))=>ih.list W (At (At s)) 19 x h hx);clear hp hs hk Cm hx hr;go_enter Tryz.func310,Tryz.ntmps310;go_wp2_with fail
 refine(Hf HS.o).mono ?_;rintro e w1 ⟨Il,nn1,S1,rfl,Fv,h1,C3⟩;have Bz:=A0 C3;have B6:Hid (A9 b w w1):=(A9.refl b w).trans Bz.o;have Du:=B6.o.size;have J8:=A0 Fv;have H1:=A0 h1;clear h1 C3 Fv;have Gq:=A0 (heap_alloc_new w1 (.cells #[.int .i64 (kT s:Nat),.int .i64 Il,.string ⟨S1.toArray⟩,.int .i64 nn1] 198));have lw1b:w1.heap.size<(w1.alloc (.cells #[.int .i64 (kT s:Nat),.int .i64 Il,.string ⟨S1.toArray⟩,.int .i64 nn1] 198)).heap.size:=by simp
 go_wp2_with fail
 refine(Mp (PR.alloc H1.o _) 18).mono ?_;rintro e w2 ⟨rfl,h2,Be⟩;have B4:=A0 Be;have Bm:Hid (A9 b w w2):=(B6.o.alloc _).trans B4.o;have Fe:=Bm.o.size;rw[tk];rw[HM.o]at h2;have H2:=A0 h2;clear h2 Be;have HT2:=A0 (B4.o.blk Gq.o z51a);obtain⟨y0,y1,y2,y3,fy,ly⟩:=E4 HT2.o;have HXd:=A0 (HX.o _ H2.o.drew);have hne:w1.heap.size≠b:=by omega
 generalize hgw:w1.heap.size=tk1 at *;have HGw:=A0 hgw;clear hgw;go_wp2;go_region_with (go_at_call 309;refine HXd.o.mono ?_;rintro e w3 ⟨va3,vn3,vc3,cs3,rfl,hown3,h3,Cv,Cj⟩;have Iu:=Cv.blk (show w2.drew.heap[tk1]?=_ from HT2.o) hne;obtain⟨z0,z1,z2,z3,fz,lz⟩:=E4 Iu;clear Iu)
 all_goals go_wp2
 all_goals go_ret
 all_goals rw[HR.o]
 all_goals refine Hr (l:=⟨7,(B9 s).line,(B9 s).s,0,[]⟩) (ch:=x.1) (ks:=cs3) h3 (Bm.o.drew.trans Cv) rfl z56a rfl rfl (fun hb=>⟨⟨_,?_,hown3.keep (fun k hk _=>⟨rfl,by have h:w2.heap.size<=k:=hk;omega⟩)⟩,Ao.weak (by show _<=w2.heap.size;omega) (Cj hb)⟩)
 all_goals rw[(J8.o Ah.o).1,(J8.o Ah.o).2.1];rfl
theorem z04a {P:Prop} (h:P:=by
  go_wp2_with fail
  refine(Dt HS.o).mono ?_;rintro e w1 ⟨rfl,h1,A1⟩;have Bz:=A0 (Below.only (b:=b) A1);have B6:Hid (A9 b w w1):=(A9.refl b w).trans Bz.o;have Du:=B6.o.size;have H1:=A0 h1;clear h1 A1;go_wp2_with fail
  refine(HX.o _ H1.o).mono ?_;rintro e w2 ⟨I6,x2,rfl,h2,Be,B7⟩;have B4:=A0 Be;have Bm:Hid (A9 b w w2):=B6.o.trans B4.o;have Fe:=Bm.o.size;have Ci:=A0 B7;have H2:=A0 h2;clear h2 Be B7;go_wp2;go_ret;exact⟨_,_,rfl,H2.o,Bm.o,fun hb=>Ao.weak z51a (Ci.o hb)⟩):P:=h
theorem z3ja {P:Prop} (h:P:=by
  go_enter Tryz.func296,Tryz.ntmps296;exact z04a):P:=h
theorem Ah6(ih:Iq b tb cap te ts n)(w:World)(s:PS)(r:BT A6×PS)(hs:PR b tb cap te ts w s)(hp:Ai (n+1) 4 0 .nil s=some r) :
  Calls Tryz.prog 296 #[.pointer (some ⟨b,0,none⟩)] w (Ho b tb cap te ts w r):=by
 have HS:=A0 hs;have lb:=hs.lt;have Ii:=Lb;by_cases c18:kT s=18
 ·have t18:((kT s:Int)==18)=true:=ke (c:=18) rfl c18;obtain⟨x,hx,hr⟩:=A28 c18 hp;have HR:=A0 hr;have Ah:Hid (s.bad=0):=hs.Gx z51a;have HX:=A0 (fun(W:World) (h:PR b tb cap te ts W (At s))=>Kf ih W (At s) x h hx);clear hp hs hx hr c18;go_enter Tryz.func296,Tryz.ntmps296;go_wp2_with fail
  refine(Dt HS.o).mono ?_;rintro e w1 ⟨rfl,h1,A1⟩;have Bz:=A0 (Below.only (b:=b) A1);have B6:Hid (A9 b w w1):=(A9.refl b w).trans Bz.o;have Du:=B6.o.size;have H1:=A0 h1;clear h1 A1;go_wp2_with fail
  refine(Hf H1.o).mono ?_;rintro e w2 ⟨Gd,nn2,S2,rfl,F6,h2,Be⟩;have B4:=A0 Be;have Bm:Hid (A9 b w w2):=B6.o.trans B4.o;have Fe:=Bm.o.size;have Eg:=A0 F6;have H2:=A0 h2;clear h2 Be F6;go_wp2_with fail
  refine(HX.o _ H2.o).mono ?_;rintro e w3 ⟨ty3,x3,rfl,h3,Cv,Cj⟩;have Bn:=A0 Cv;have Cp:Hid (A9 b w w3):=Bm.o.trans Bn.o;have lw3:=Cp.o.size;have C8:=A0 Cj;have H3:=A0 h3;clear h3 Cv Cj;go_wp2_with fail
  refine(Ix H3.o 19).mono ?_;rintro e w4 ⟨kk4,ln4,nn4,S4,rfl,htk4,h4,Cq⟩;have Ct:=A0 Cq;have C7:Hid (A9 b w w4):=Cp.o.trans Ct.o;have lw4:=C7.o.size;have HTk4:=A0 htk4;have H4:=A0 h4;clear h4 Cq htk4;go_wp2;go_ret;rw[HR.o];exact Hr (l:=Bb 8 (B9 s).line) (ch:=x.1) (ks:=[.iface ty3 x3]) H4.o C7.o rfl z5ha rfl rfl (fun hb=>⟨⟨_,rfl,rfl⟩,Ao.later z51a z51a Ct.o (C8.o (Lm hb))⟩)
 by_cases c22:kT s=22
 ·have t18:((kT s:Int)==18)=false:=kn (c:=18) rfl c18;have t22:((kT s:Int)==22)=true:=ke (c:=22) rfl c22;obtain⟨x,hx,hr⟩:=A22 c22 hp;have HR:=A0 hr;have Ah:Hid (s.bad=0):=hs.Gx z51a;have HX:=A0 (fun(W:World) (h:PR b tb cap te ts W (At s))=>ih.list W (At s) 23 x h hx);clear hp hs hx hr c18 c22;go_enter Tryz.func296,Tryz.ntmps296;go_wp2_with fail
  refine(Dt HS.o).mono ?_;rintro e w1 ⟨rfl,h1,A1⟩;have Bz:=A0 (Below.only (b:=b) A1);have B6:Hid (A9 b w w1):=(A9.refl b w).trans Bz.o;have Du:=B6.o.size;have H1:=A0 h1;clear h1 A1;go_wp2_with fail
  refine(Hf H1.o).mono ?_;rintro e w2 ⟨Gd,nn2,S2,rfl,F6,h2,Be⟩;have B4:=A0 Be;have Bm:Hid (A9 b w w2):=B6.o.trans B4.o;have Fe:=Bm.o.size;have Eg:=A0 F6;have H2:=A0 h2;clear h2 Be F6;go_wp2_with fail
  refine(HX.o _ H2.o).mono ?_;rintro e w3 ⟨va3,vn3,vc3,cs3,rfl,hown3,h3,Cv,Cj⟩;have Bn:=A0 Cv;have Cp:Hid (A9 b w w3):=Bm.o.trans Bn.o;have lw3:=Cp.o.size;have C8:=A0 Cj;have HOwn3:=A0 hown3;have H3:=A0 h3;clear h3 Cv Cj hown3;go_wp2;go_ret;rw[HR.o];refine Hr (l:=Bb 9 (B9 s).line) (ch:=x.1) (ks:=cs3) H3.o Cp.o rfl z5ha rfl rfl (fun hb=>⟨⟨_,?_,HOwn3.o.keep (fun k hk _=>⟨rfl,by have h:w2.heap.size<=k:=hk;omega⟩)⟩,Ao.weak z51a (C8.o hb)⟩);rw[(Eg.o Ah.o).1];rfl
 by_cases c1:kT s=1
 ·have t18:((kT s:Int)==18)=false:=kn (c:=18) rfl c18;have t22:((kT s:Int)==22)=false:=kn (c:=22) rfl c22;have t1:((kT s:Int)==1)=true:=ke (c:=1) rfl c1;have HX:Hid (∀W,PR b tb cap te ts W s->Calls Tryz.prog 310 #[.pointer (some ⟨b,0,none⟩)] W (Ho b tb cap te ts W r)):=by
   intro W h;by_cases c2:kT (At s)=18
   ·exact A9o ih W s r c1 c2 h hp
   ·exact Apb W s r c1 c2 h hp
  clear hp hs c18 c22 c1;exact z3ja
 by_cases c16:kT s=16
 ·have t18:((kT s:Int)==18)=false:=kn (c:=18) rfl c18;have t22:((kT s:Int)==22)=false:=kn (c:=22) rfl c22;have t1:((kT s:Int)==1)=false:=kn (c:=1) rfl c1;have t16:((kT s:Int)==16)=true:=ke (c:=16) rfl c16;have HX:=A0 (fun(W:World) (h:PR b tb cap te ts W s)=>Afe ih W s r c16 h hp);clear hp hs c18 c22 c1 c16;exact z3ja
 by_cases c17:kT s=17
 ·have t18:((kT s:Int)==18)=false:=kn (c:=18) rfl c18;have t22:((kT s:Int)==22)=false:=kn (c:=22) rfl c22;have t1:((kT s:Int)==1)=false:=kn (c:=1) rfl c1;have t16:((kT s:Int)==16)=false:=kn (c:=16) rfl c16;have t17:((kT s:Int)==17)=true:=ke (c:=17) rfl c17;have HX:=A0 (fun(W:World) (h:PR b tb cap te ts W s)=>Ai7 ih W s r c17 h hp);clear hp hs c18 c22 c1 c16 c17;exact z3ja
 have t18:((kT s:Int)==18)=false:=kn (c:=18) rfl c18;have t22:((kT s:Int)==22)=false:=kn (c:=22) rfl c22;have t1:((kT s:Int)==1)=false:=kn (c:=1) rfl c1;have t16:((kT s:Int)==16)=false:=kn (c:=16) rfl c16;have t17:((kT s:Int)==17)=false:=kn (c:=17) rfl c17;have HX:=A0 (fun(W:World) (h:PR b tb cap te ts W s)=>Afr W s r c1 c18 c22 c16 c17 h hp);clear hp hs c18 c22 c1 c16 c17 Ii;exact z3ja
end
section
set_option maxRecDepth 100000
open Go.RowKit
open Go.Deep (BT)
def A5e(b tb cap te:Nat)(ts:List Tk)(n:Nat)(r:BT A6×PS)(w:World)(k:Nat)(v:Value)(wr:World):Prop:=
 ∃(acc:BT A6) (st:PS) (ty:TypeId) (x:Value),v=.iface ty x/\k<=n/\Ai k 3 0 acc st=some r/\PR b tb cap te ts wr st/\A9 b w wr/\(st.bad=0->Ao (fun g=>w.heap.size<=g) wr acc [.iface ty x])
theorem z3ra {P:Prop} (h:P:=by
  go_wp2;go_ret;rw[HE.o];exact⟨_,_,rfl,H4.o,HOr.o.trans C7.o,fun hb=>Ao.only z51a C7.o (HRep.o hb)⟩):P:=h
theorem Ah5{b tb cap te:Nat}{ts:List Tk}{n:Nat}(ih:∀m,m<=n->Iq b tb cap te ts m)(w:World)(s:PS)(r:BT A6×PS)(x:BT A6×PS)(hs:PR b tb cap te ts w s)(hx:Ai n 4 0 .nil s=some x)(hp:Ai n 3 0 x.1 x.2=some r) :
  Calls Tryz.prog 285 #[.pointer (some ⟨b,0,none⟩)] w (Ho b tb cap te ts w r):=by
 have HS:=A0 hs;have lb:=hs.lt;have HP0:=A0 hp;have HX:=A0 (fun(W:World) (h:PR b tb cap te ts W s)=>(ih n (Nat.le_refl _)).atom W s x h hx);have Ii:=Lb;clear hp hs hx;go_enter Tryz.func285,Tryz.ntmps285;go_wp2_with fail
 refine(HX.o _ HS.o).mono ?_;rintro e w1 ⟨ty1,x1,rfl,h1,C3,Au⟩;have Bz:=A0 C3;have B6:Hid (A9 b w w1):=(A9.refl b w).trans Bz.o;have Du:=B6.o.size;have F8:=A0 Au;have H1:=A0 h1;clear h1 C3 Au;go_wp2;go_loopg [3] n (fun k v wr=>A5e b tb cap te ts n r w k v wr)
 case atStart=>exact⟨x.1,x.2,ty1,x1,rfl,Nat.le_refl _,HP0.o,H1.o,B6.o,F8.o⟩
 case round=>
  clear HP0 H1 B6 F8 Bz HX HS Du;obtain⟨acc,st,ty,x0,rfl,hkn,hpk,hrs,hO,hrep⟩:=hrel;cases gk with
  | zero=>exact absurd hpk (Gg _ _ _ _ _)
  | succ m=>
  have HRS:=A0 hrs;have HOr:=A0 hO;have HRep:=A0 hrep;have lwr:=hO.size;by_cases c22:kT st=22
  ·obtain⟨z,C1,C9⟩:=A29 c22 hpk;have HZ2:=A0 C9;have HZ1:=A0 C1;have HX:=A0 (fun(W:World) (h:PR b tb cap te ts W (At st))=>Kf (ih m z51a) W (At st) z h C1);have tk:((kT st:Int)==22)=true:=ke (c:=22) rfl c22;have Ah:Hid (st.bad=0):=hrs.Gx z51a;clear C1 C9 c22 hpk hrs hO hrep;go_wp2_with fail
   refine(Dt HRS.o).mono ?_;rintro e w4 ⟨rfl,h4,Ba⟩;have Ct:=A0 (Below.only (b:=b) Ba);have C7:Hid (A9 b wr w4):=(A9.refl b wr).trans Ct.o;have lw4:=C7.o.size;have H4:=A0 h4;clear h4 Ba;go_wp2_with fail
   refine(Hf H4.o).mono ?_;rintro e w5 ⟨ln5,nn5,S5,rfl,htk5,h5,Ea⟩;have Ew:=A0 Ea;have Ce:Hid (A9 b wr w5):=C7.o.trans Ew.o;have lw5:=Ce.o.size;have HTk5:=A0 htk5;have H5:=A0 h5;clear h5 Ea htk5;go_wp2_with fail
   refine(HX.o _ H5.o).mono ?_;rintro e w6 ⟨ty6,x6,rfl,h6,Jc,hr6⟩;have HP6:=A0 Jc;have Dp:Hid (A9 b wr w6):=Ce.o.trans HP6.o;have lw6:=Dp.o.size;have HR6:=A0 hr6;have H6:=A0 h6;clear h6 Jc hr6;have HCl:Hid (Ho b tb cap te ts w (nd (Bb 12 (B9 st).line) (C4 acc z.1),z.2) (.returned (.iface 310 (.pointer (some ⟨w6.heap.size,0,none⟩)))) (w6.alloc (.cells #[.int .i64 ln5,.iface ty x0,.iface ty6 x6] 312))):=by
    refine Hr (l:=Bb 12 (B9 st).line) (ch:=C4 acc z.1) (ks:=[.iface ty x0,.iface ty6 x6]) H6.o (HOr.o.trans Dp.o) rfl z5ha rfl rfl (fun hb=>⟨⟨_,_,by rw[(HTk5.o Ah.o).1];rfl,rfl⟩,?_⟩);exact Ao.app _ _ [_] [_] (Ao.only z51a Dp.o (HRep.o Ah.o)) (Ao.weak z51a (HR6.o hb))
   have HClP:=A0 (PR.alloc H6.o (.cells #[.int .i64 ln5,.iface ty x0,.iface ty6 x6] 312));go_wp2_with fail
   refine(Ix HClP.o 23).mono ?_;rintro e w7 ⟨kk7,ln7,nn7,S7,rfl,htk7,h7,ho7⟩;have HP7:=A0 ho7;have HO7:Hid (A9 b wr w7):=(Dp.o.alloc _).trans HP7.o;have lw7:=HO7.o.size;have HTk7:=A0 htk7;have H7:=A0 h7;clear h7 ho7 htk7;go_wp2;go_roundg m
   case measure=>omega
   case rel=>
    refine⟨_,_,_,_,rfl,by omega,HZ2.o,H7.o,HOr.o.trans HO7.o,fun hb=>?_⟩;obtain⟨t',x',e',_,_,hrr⟩:=HCl.o;injection e' with e';rw[←e']at hrr;exact Ao.only z51a HP7.o (hrr (Lm hb))
  ·have HE:=A0 (A2a c22 hpk);have tk:((kT st:Int)==22)=false:=kn (c:=22) rfl c22;clear c22 hpk hrs hO hrep;go_wp2_with fail
   refine(Dt HRS.o).mono ?_;rintro e w4 ⟨rfl,h4,Ba⟩;have Ct:=A0 (Below.only (b:=b) Ba);have C7:Hid (A9 b wr w4):=(A9.refl b wr).trans Ct.o;have lw4:=C7.o.size;have H4:=A0 h4;clear h4 Ba;exact z3ra
theorem Ai2{b tb cap te:Nat}{ts:List Tk}{n:Nat}(ih:∀m,m<=n->Iq b tb cap te ts m)(w:World)(s:PS)(r:BT A6×PS)(hs:PR b tb cap te ts w s)(hp:Ai (n+1) 2 0 .nil s=some r) :
  Calls Tryz.prog 261 #[.pointer (some ⟨b,0,none⟩)] w (Ho b tb cap te ts w r):=by
 have HS:=A0 hs;have lb:=hs.lt;by_cases c28:kT s=28
 ·obtain⟨x,hx,hr⟩:=A2k c28 hp;have HR:=A0 hr;have Ah:Hid (s.bad=0):=hs.Gx z51a;have HX:=A0 (fun(W:World) (h:PR b tb cap te ts W (At s))=>(ih n (Nat.le_refl _)).unary W (At s) x h hx);have t28:((kT s:Int)==28)=true:=ke (c:=28) rfl c28;have HK:=A0 c28;clear hp hs hx hr c28;go_enter Tryz.func261,Tryz.ntmps261;go_wp2_with fail
  refine(Dt HS.o).mono ?_;rintro e w1 ⟨rfl,h1,A1⟩;have Bz:=A0 (Below.only (b:=b) A1);have B6:Hid (A9 b w w1):=(A9.refl b w).trans Bz.o;have Du:=B6.o.size;have H1:=A0 h1;clear h1 A1;go_wp2_with fail
  refine(Hf H1.o).mono ?_;rintro e w2 ⟨Gd,nn2,S2,rfl,F6,h2,Be⟩;have B4:=A0 Be;have Bm:Hid (A9 b w w2):=B6.o.trans B4.o;have Fe:=Bm.o.size;have Eg:=A0 F6;have H2:=A0 h2;clear h2 Be F6;have Gq:=A0 (heap_alloc_new w2 (.cells #[.int .i64 (kT s:Nat),.int .i64 Gd,.string ⟨S2.toArray⟩,.int .i64 nn2] 198));have HTP:=A0 (PR.drew (PR.alloc H2.o (.cells #[.int .i64 (kT s:Nat),.int .i64 Gd,.string ⟨S2.toArray⟩,.int .i64 nn2] 198)));have HTO:=A0 ((Bm.o.alloc (.cells #[.int .i64 (kT s:Nat),.int .i64 Gd,.string ⟨S2.toArray⟩,.int .i64 nn2] 198)).drew);have hne:w2.heap.size≠b:=by omega
  go_wp2;generalize hW:w2.alloc (.cells #[.int .i64 (kT s:Nat),.int .i64 Gd,.string ⟨S2.toArray⟩,.int .i64 nn2] 198)=W2 at *;have HW:=A0 hW;clear hW;generalize hgw:w2.heap.size=tk1 at *;have HGw:=A0 hgw;clear hgw;obtain⟨y0,y1,y2,y3,fy,ly⟩:=E4 Gq.o;have lW2:w.heap.size<=W2.heap.size:=HTO.o.size;have HXd:=A0 (HX.o _ HTP.o);go_region_with (go_at_call 261;refine HXd.o.mono ?_;rintro e w9 ⟨ty9,x9,rfl,h9,ho9,hr9⟩;have Iu:=ho9.blk (show W2.drew.heap[tk1]?=_ from Gq.o) hne;obtain⟨z0,z1,z2,z3,fz,lz⟩:=E4 Iu;clear Iu)
  all_goals go_wp2
  all_goals go_ret
  all_goals rw[HR.o]
  all_goals refine Hr (l:=Bb 13 (B9 s).line) (ch:=x.1) (ks:=[.iface ty9 x9]) h9 (HTO.o.trans ho9) rfl z5ha rfl rfl (fun hb=>⟨⟨_,?_,rfl⟩,Ao.weak (by show _<=W2.heap.size;omega) (hr9 hb)⟩)
  all_goals rw[(Eg.o Ah.o).1,HK.o];rfl
 by_cases c35:kT s=35
 ·obtain⟨x,hx,hr⟩:=A2j c35 hp;have HR:=A0 hr;have Ah:Hid (s.bad=0):=hs.Gx z51a;have HX:=A0 (fun(W:World) (h:PR b tb cap te ts W (At s))=>(ih n (Nat.le_refl _)).unary W (At s) x h hx);have t28:((kT s:Int)==28)=false:=kn (c:=28) rfl c28;have t35:((kT s:Int)==35)=true:=ke (c:=35) rfl c35;have HK:=A0 c35;clear hp hs hx hr c35 c28;go_enter Tryz.func261,Tryz.ntmps261;go_wp2_with fail
  refine(Dt HS.o).mono ?_;rintro e w1 ⟨rfl,h1,A1⟩;have Bz:=A0 (Below.only (b:=b) A1);have B6:Hid (A9 b w w1):=(A9.refl b w).trans Bz.o;have Du:=B6.o.size;have H1:=A0 h1;clear h1 A1;go_wp2_with fail
  refine(Dt H1.o).mono ?_;rintro e w2 ⟨rfl,h2,A8⟩;have B4:=A0 (Below.only (b:=b) A8);have Bm:Hid (A9 b w w2):=B6.o.trans B4.o;have Fe:=Bm.o.size;have H2:=A0 h2;clear h2 A8;go_wp2_with fail
  refine(Hf H2.o).mono ?_;rintro e w3 ⟨ln3,nn3,S3,rfl,htk3,h3,Cv⟩;have Bn:=A0 Cv;have Cp:Hid (A9 b w w3):=Bm.o.trans Bn.o;have lw3:=Cp.o.size;have HTk3:=A0 htk3;have H3:=A0 h3;clear h3 Cv htk3;have Gq:=A0 (heap_alloc_new w3 (.cells #[.int .i64 (kT s:Nat),.int .i64 ln3,.string ⟨S3.toArray⟩,.int .i64 nn3] 198));have HTP:=A0 (PR.drew (PR.alloc H3.o (.cells #[.int .i64 (kT s:Nat),.int .i64 ln3,.string ⟨S3.toArray⟩,.int .i64 nn3] 198)));have HTO:=A0 ((Cp.o.alloc (.cells #[.int .i64 (kT s:Nat),.int .i64 ln3,.string ⟨S3.toArray⟩,.int .i64 nn3] 198)).drew);have hne:w3.heap.size≠b:=by omega
  go_wp2;generalize hW:w3.alloc (.cells #[.int .i64 (kT s:Nat),.int .i64 ln3,.string ⟨S3.toArray⟩,.int .i64 nn3] 198)=W2 at *;have HW:=A0 hW;clear hW;generalize hgw:w3.heap.size=tk1 at *;have HGw:=A0 hgw;clear hgw;obtain⟨y0,y1,y2,y3,fy,ly⟩:=E4 Gq.o;have lW2:w.heap.size<=W2.heap.size:=HTO.o.size;have HXd:=A0 (HX.o _ HTP.o);go_region_with (go_at_call 261;refine HXd.o.mono ?_;rintro e w9 ⟨ty9,x9,rfl,h9,ho9,hr9⟩;have Iu:=ho9.blk (show W2.drew.heap[tk1]?=_ from Gq.o) hne;obtain⟨z0,z1,z2,z3,fz,lz⟩:=E4 Iu;clear Iu)
  all_goals go_wp2
  all_goals go_ret
  all_goals rw[HR.o]
  all_goals refine Hr (l:=Bb 14 (B9 s).line) (ch:=x.1) (ks:=[.iface ty9 x9]) h9 (HTO.o.trans ho9) rfl z5ha rfl rfl (fun hb=>⟨⟨_,?_,rfl⟩,Ao.weak (by show _<=W2.heap.size;omega) (hr9 hb)⟩)
  all_goals rw[(HTk3.o Ah.o).1,HK.o];rfl
 obtain⟨x,hx,hr⟩:=Xn c28 c35 hp;have HX:=A0 (fun(W:World) (h:PR b tb cap te ts W s)=>Ah5 ih W s r x h hx hr);have t28:((kT s:Int)==28)=false:=kn (c:=28) rfl c28;have t35:((kT s:Int)==35)=false:=kn (c:=35) rfl c35;clear hp hs hx hr c28 c35;go_enter Tryz.func261,Tryz.ntmps261;go_wp2_with fail
 refine(Dt HS.o).mono ?_;rintro e w1 ⟨rfl,h1,A1⟩;have Bz:=A0 (Below.only (b:=b) A1);have B6:Hid (A9 b w w1):=(A9.refl b w).trans Bz.o;have Du:=B6.o.size;have H1:=A0 h1;clear h1 A1;go_wp2_with fail
 refine(Dt H1.o).mono ?_;rintro e w2 ⟨rfl,h2,A8⟩;have B4:=A0 (Below.only (b:=b) A8);have Bm:Hid (A9 b w w2):=B6.o.trans B4.o;have Fe:=Bm.o.size;have H2:=A0 h2;clear h2 A8;go_wp2_with fail
 refine(HX.o _ H2.o).mono ?_;rintro e w3 ⟨ty3,x3,rfl,h3,Cv,Cj⟩;have Bn:=A0 Cv;have Cp:Hid (A9 b w w3):=Bm.o.trans Bn.o;have lw3:=Cp.o.size;have C8:=A0 Cj;have H3:=A0 h3;clear h3 Cv Cj;go_wp2;go_ret;exact⟨_,_,rfl,H3.o,Cp.o,fun hb=>Ao.weak z51a (C8.o hb)⟩
theorem Xv{k a:Nat}(h:rowOf k=a+1):k=27\/k=29\/k=30\/k=31\/k=32\/k=33\/k=34\/k=35\/k=36\/k=37\/k=38\/k=39\/k=40:=by
 unfold rowOf at h;split at h
 ·omega
 split at h
 ·omega
 split at h
 ·omega
 split at h
 ·omega
 split at h
 ·omega
 split at h
 ·omega
 ·omega
theorem Aj8{k:Nat}:rowOf k<=6:=by
 unfold rowOf;split
 ·omega
 split
 ·omega
 split
 ·omega
 split
 ·omega
 split
 ·omega
 split
 ·omega
 ·omega
theorem Vt{k a:Nat}(h:rowOf k=a+1):¬(100+k=31\/100+k=32)/\248=Ck (100+k)/\295=Dn (100+k):=by
 rcases Xv h with rfl|rfl|rfl|rfl|rfl|rfl|rfl|rfl|rfl|rfl|rfl|rfl|rfl <;> exact⟨by decide,rfl,rfl⟩
theorem A8w{k a:Nat}(h:rowOf k=a+1)(D:Nat->Prop)(w:World)(line:Nat)(x y:Value):Cy D w (Bb (100+k) line) #[Ge line,.int .i64 (k:Nat),x,y] [x,y]:=by
 rcases Xv h with rfl|rfl|rfl|rfl|rfl|rfl|rfl|rfl|rfl|rfl|rfl|rfl|rfl <;> exact⟨x,y,rfl,rfl⟩
def A55(b tb cap te:Nat)(ts:List Tk)(a n:Nat)(r:BT A6×PS)(w:World)(k:Nat)(v:Value)(wr:World):Prop:=
 ∃(acc:BT A6) (st:PS) (ty:TypeId) (x:Value),v=.iface ty x/\k<=n/\Ai k 1 a acc st=some r/\PR b tb cap te ts wr st/\A9 b w wr/\(st.bad=0->Ao (fun g=>w.heap.size<=g) wr acc [.iface ty x])
theorem Ah7{b tb cap te:Nat}{ts:List Tk}{n:Nat}(ih:∀m,m<=n->Iq b tb cap te ts m)(w:World)(s:PS)(a:Nat)(r:BT A6×PS)(ha:a<=6)(hs:PR b tb cap te ts w s)(hp:Ai (n+1) 0 a .nil s=some r) :
  Calls Tryz.prog 232 #[.pointer (some ⟨b,0,none⟩),.int .i64 ((a+1:Nat):Nat)] w (Ho b tb cap te ts w r):=by
 have HS:=A0 hs;have lb:=hs.lt;by_cases c6:a=6
 ·subst c6;have HX:=A0 (fun(W:World) (h:PR b tb cap te ts W s)=>(ih n (Nat.le_refl _)).unary W s r h (Xk hp));clear hp hs ha;go_enter Tryz.func232,Tryz.ntmps232;go_wp2_with fail
  refine(HX.o _ HS.o).mono ?_;rintro e w1 ⟨ty1,x1,rfl,h1,C3,Au⟩;have Bz:=A0 C3;have B6:Hid (A9 b w w1):=(A9.refl b w).trans Bz.o;have Du:=B6.o.size;have F8:=A0 Au;have H1:=A0 h1;clear h1 C3 Au;go_wp2;go_ret;exact⟨_,_,rfl,H1.o,B6.o,fun hb=>Ao.weak z51a (F8.o hb)⟩
 ·obtain⟨x,hx,hpr⟩:=Xj c6 hp;have HX:=A0 (fun(W:World) (h:PR b tb cap te ts W s)=>(ih n (Nat.le_refl _)).expr W s (a+1) x z51a h hx);have HP0:=A0 hpr;have t6:decide (6<((a+1:Nat):Int))=false:=decide_eq_false z51a;clear hp hs hx hpr;go_enter Tryz.func232,Tryz.ntmps232;go_wp2_with fail
  refine(HX.o _ HS.o).mono ?_;rintro e w1 ⟨ty1,x1,rfl,h1,C3,Au⟩;have Bz:=A0 C3;have B6:Hid (A9 b w w1):=(A9.refl b w).trans Bz.o;have Du:=B6.o.size;have F8:=A0 Au;have H1:=A0 h1;clear h1 C3 Au;go_wp2;go_loopg [5] n (fun k v wr=>A55 b tb cap te ts a n r w k v wr)
  case atStart=>exact⟨x.1,x.2,ty1,x1,rfl,Nat.le_refl _,HP0.o,H1.o,B6.o,F8.o⟩
  case round=>
   clear HP0 H1 B6 F8 Bz HX HS Du;obtain⟨acc,st,ty,x0,rfl,hkn,hpk,hrs,hO,hrep⟩:=hrel;cases gk with
   | zero=>exact absurd hpk (Gg _ _ _ _ _)
   | succ m=>
   have HRS:=A0 hrs;have HOr:=A0 hO;have HRep:=A0 hrep;have lwr:=hO.size;have hk40:=hrs.Rq;have hrl:=Aj8 (k:=kT st);by_cases cr:rowOf (kT st)=a+1
   ·obtain⟨z,C1,C9⟩:=A2g cr hpk;have HZ2:=A0 C9;have HX:=A0 (fun(W:World) (h:PR b tb cap te ts W (At st))=>(ih m z51a).expr W (At st) (a+1) z z51a h C1);have tk:((rowOf (kT st):Int)==((a+1:Nat):Int))=true:=by rw[cr];simp
    have Ah:Hid (st.bad=0):=hrs.Gx (by have:=Xv cr;omega);have HCr:=A0 cr;clear C1 C9 cr hpk hrs hO hrep;go_wp2_with fail
    refine(Dt HRS.o).mono ?_;rintro e w4 ⟨rfl,h4,Ba⟩;have Ct:=A0 (Below.only (b:=b) Ba);have C7:Hid (A9 b wr w4):=(A9.refl b wr).trans Ct.o;have lw4:=C7.o.size;have H4:=A0 h4;clear h4 Ba;go_wp2_with fail
    refine(A3d _ hk40 _).mono ?_;rintro e w' ⟨rfl,rfl⟩;go_wp2_with fail
    refine(Hf H4.o).mono ?_;rintro e w5 ⟨ln5,nn5,S5,rfl,htk5,h5,Ea⟩;have Ew:=A0 Ea;have Ce:Hid (A9 b wr w5):=C7.o.trans Ew.o;have lw5:=Ce.o.size;have HTk5:=A0 htk5;have H5:=A0 h5;clear h5 Ea htk5;have Gq:=A0 (heap_alloc_new w5 (.cells #[.int .i64 (kT st:Nat),.int .i64 ln5,.string ⟨S5.toArray⟩,.int .i64 nn5] 198));go_wp2_with fail
    refine(HX.o _ (PR.alloc H5.o _)).mono ?_;rintro e w6 ⟨ty6,x6,rfl,h6,Jc,hr6⟩;have HP6:=A0 Jc;have Dp:Hid (A9 b wr w6):=(Ce.o.alloc _).trans HP6.o;have lw6:=Dp.o.size;have HR6:=A0 hr6;have H6:=A0 h6;clear h6 Jc hr6;have hT6:=HP6.o.blk Gq.o z51a;obtain⟨y0,y1,y2,y3,fy,ly⟩:=E4 hT6;clear hT6;go_wp2;go_roundg m
    case measure=>omega
    case rel=>
     refine⟨_,_,_,_,rfl,by omega,HZ2.o,PR.alloc H6.o _,(HOr.o.trans Dp.o).alloc _,fun hb=>?_⟩;have hcl:=Hr (w:=w) (W:=w6) (r:=(nd (Bb (100+kT st) (B9 st).line) (C4 acc z.1),z.2)) (l:=Bb (100+kT st) (B9 st).line) (ch:=C4 acc z.1) (ks:=[.iface ty x0,.iface ty6 x6]) (cs:=#[Ge (B9 st).line,.int .i64 (kT st:Nat),.iface ty x0,.iface ty6 x6]) H6.o (HOr.o.trans Dp.o) rfl (Vt HCr.o).1 (Vt HCr.o).2.1 (Vt HCr.o).2.2 (fun hb=>⟨A8w HCr.o _ _ _ _ _,Ao.app _ _ [_] [_] (Ao.only z51a Dp.o (HRep.o Ah.o)) (Ao.weak z54a (HR6.o hb))⟩);obtain⟨t',x',e',_,_,hrr⟩:=hcl;injection e' with e';rw[←e']at hrr;rw[(HTk5.o Ah.o).1];exact hrr hb
   ·have HE:=A0 (A2f cr hpk);have tk:((rowOf (kT st):Int)==((a+1:Nat):Int))=false:=by rw[beq_eq_false_iff_ne];omega
    clear cr hpk hrs hO hrep;go_wp2_with fail
    refine(Dt HRS.o).mono ?_;rintro e w4 ⟨rfl,h4,Ba⟩;have Ct:=A0 (Below.only (b:=b) Ba);have C7:Hid (A9 b wr w4):=(A9.refl b wr).trans Ct.o;have lw4:=C7.o.size;have H4:=A0 h4;clear h4 Ba;go_wp2_with fail
    refine(A3d _ hk40 _).mono ?_;rintro e w' ⟨rfl,rfl⟩;exact z3ra
theorem Q9(s:PS)(h:s.bad=0):(Eh s).ts=[Ig]:=by unfold Eh;rw[if_pos h]
theorem Ac7{n:Nat}{s:PS}{r:BT A6×PS}(hk:kT s=0)(h:Ai n 4 0 .nil s=some r):r.2=Eh s:=by
 cases n with
 | zero=>exact absurd h (Gg _ _ _ _ _)
 | succ n=>rw[Xm z51a z51a z51a z51a z51a z51a z51a z51a z51a z51a h]
theorem Ac6{n:Nat}{s:PS}{r:BT A6×PS}(h0:s.bad=0)(hf:(Eh s).bad≠0)(hk:kT s=0)(h:Ai n 2 0 .nil s=some r):r.2=Eh s:=by
 cases n with
 | zero=>exact absurd h (Gg _ _ _ _ _)
 | succ n=>
  obtain⟨x,h1,h2⟩:=Xn z51a z51a h;have e:=Ac7 hk h1;rw[Ql (by rw[e];exact Q9 s h0) (by rw[e];exact hf) _ _ _ _ _ h2,e]
theorem Ac5{s:PS}(h0:s.bad=0)(hf:(Eh s).bad≠0)(hk:kT s=0):∀n a r,Ai n 0 a .nil s=some r->r.2=Eh s:=by
 intro n;induction n with
 | zero=>intro a r h;exact absurd h (Gg _ _ _ _ _)
 | succ n ih=>
  intro a r h;by_cases h6:a=6
  ·subst h6;exact Ac6 h0 hf hk (Xk h)
  ·obtain⟨x,h1,h2⟩:=Xj h6 h;have e:=ih _ _ h1;rw[Ql (by rw[e];exact Q9 s h0) (by rw[e];exact hf) _ _ _ _ _ h2,e]
theorem A0c{s:PS}(h:s.bad≠0):Eh s=s:=by unfold Eh;rw[if_neg h]
theorem A4q{k:Nat}{s:PS}(hk:k≠0)(h:s.bad≠0)(ht:s.ts=[Ig]):Bi k s=s:=by
 unfold Bi;rw[if_neg (by unfold kT B9;rw[ht];show ¬(0=k);omega),A0c h]
theorem Ac8{n:Nat}{s:PS}{r:BT A6×PS}(h0:s.bad=0)(hf:(Eh s).bad≠0)(hk:kT s=0)(h:Ai n 9 0 .nil s=some r):r.2=Eh s:=by
 cases n with
 | zero=>exact absurd h (Gg _ _ _ _ _)
 | succ n=>
  obtain⟨x,h1,h2⟩:=Xo z51a h;have e:=Ac5 h0 hf hk _ _ _ h1;have ek:kT x.2=0:=by rw[e];unfold Eh;rw[if_pos h0];rfl
  rcases h2 with⟨_,h3,_⟩|⟨_,h3,_⟩|⟨_,h3⟩
  ·omega
  ·omega
  ·rw[h3];show Bi 25 x.2=_;rw[A4q z52a (by rw[e];exact hf) (by rw[e];exact Q9 s h0),e]
def A56(b tb cap te:Nat)(ts:List Tk)(n:Nat)(r:BT A6×PS)(w:World)(k:Nat)(v:Value)(wr:World):Prop:=
 ∃(acc:BT A6) (st:PS) (va:Option Addr) (vn vc:Nat) (cs:List Value),v=.slice va vn vc/\k<=n/\Ai k 8 0 acc st=some r/\PR b tb cap te ts wr st/\A9 b w wr/\cs.length+k<=n+1/\
  Cz (fun g=>w.heap.size<=g) wr 142 1 (.slice va vn vc) cs.length cs/\(st.bad=0->Ao (fun g=>w.heap.size<=g/\(Value.slice va vn vc).ownBlock≠some g) wr acc cs)
theorem z3da {P:Prop} (h:P:=by
  simp only[Value.ownBlock,Option.some.injEq]at hk;rw[←hk];rcases hat7 with h|h
  ·exact(hrow g7 h).2.2
  ·show w.heap.size<=g7;omega):P:=h
theorem Ah8{b tb cap te:Nat}{ts:List Tk}{n:Nat}(ih:∀m,m<=n->Iq b tb cap te ts m)(hn:n<=500000)(w:World)(s:PS)(r:BT A6×PS)(hs:PR b tb cap te ts w s)(hp:Ai (n+1) 7 0 .nil s=some r) :
  Calls Tryz.prog 185 #[.pointer (some ⟨b,0,none⟩)] w (Sx 142 b tb cap te ts w r):=by
 have HS:=A0 hs;obtain⟨lb,lt,lne⟩:=hs.lt;have HP0:=A0 (A24 hp);clear hp hs;go_enter Tryz.func185,Tryz.ntmps185;go_wp2_with fail
 refine(Ix HS.o 20).mono ?_;rintro e w1 ⟨kk1,Il,nn1,S1,rfl,Fv,h1,C3⟩;have Bz:=A0 C3;have B6:Hid (A9 b w w1):=(A9.refl b w).trans Bz.o;have Du:=B6.o.size;have J8:=A0 Fv;have H1:=A0 h1;clear h1 C3 Fv;go_wp2;go_loopg [3] n (fun k v wr=>A56 b tb cap te ts n r w k v wr)
 case atStart=>exact⟨.nil,_,none,0,0,[],rfl,Nat.le_refl _,HP0.o,H1.o,B6.o,by simp,Oq _ _ _ _,fun _=>rfl⟩
 case round=>
  clear HP0 H1 B6 Bz HS Du J8;obtain⟨acc,st,va,vn,vc,cs,rfl,hkn,hpk,hrs,hO,hcn,hown,hrep⟩:=hrel;cases gk with
  | zero=>exact absurd hpk (Gg _ _ _ _ _)
  | succ m=>
  have HRS:=A0 hrs;have HOr:=A0 hO;have HOwn:=A0 hown;have HRep:=A0 hrep;have lwr:=hO.size;have hne:(Value.slice va vn vc).ownBlock≠some b:=fun e=>by have h:w.heap.size<=b:=hown.2 b e;omega
  have HFb:Hid (st.bad=0->1<=(B9 st).line):=fun e=>(hrs.lines e).1;have HStk:=A0 hrs.Mf;by_cases c21:kT st=21
  ·have HE:=A0 (A23 c21 hpk);have tk:((kT st:Int) !=21)=false:=by rw[c21];rfl
   have HW:Hid (Bi 21 st=At st):=by show _=_;unfold Bi;rw[if_pos c21]
   clear c21 hpk hrs hO hrep hown;go_wp2_with fail
   refine(Dt HRS.o).mono ?_;rintro e w4 ⟨rfl,h4,Ba⟩;have Ct:=A0 (Below.only (b:=b) Ba);have C7:Hid (A9 b wr w4):=(A9.refl b wr).trans Ct.o;have lw4:=C7.o.size;have H4:=A0 h4;clear h4 Ba;go_wp2_with fail
   refine(Ix H4.o 21).mono ?_;rintro e w5 ⟨kk5,ln5,nn5,S5,rfl,htk5,h5,Ea⟩;have Ew:=A0 Ea;have Ce:Hid (A9 b wr w5):=C7.o.trans Ew.o;have lw5:=Ce.o.size;have HTk5:=A0 htk5;have H5:=A0 h5;clear h5 Ea htk5;go_wp2;go_ret;rw[HE.o];refine⟨va,vn,vc,cs,rfl,⟨B8 HOwn.o.1 (fun k hk hl=>Ce.o.block k hl (fun e=>hne z5ra)),HOwn.o.2⟩,by rw[←HW.o];exact H5.o,HOr.o.trans Ce.o,fun hb=>?_⟩;rw[Qz]at hb;exact Ao.keep (fun k hk hl=>⟨Ce.o.block k hl z51a,hk.1⟩) _ _ (HRep.o hb)
  by_cases c0:kT st=0
  ·have HE:Hid (r.2=Bi 21 st/\r.2.bad≠0):=by
    have hw:Bi 21 st=Eh st:=by unfold Bi;rw[if_neg c21]
    by_cases h0:st.bad=0
    ·obtain⟨x,hx,Fp⟩:=Xi c21 h0 hpk;have hf:=Wk HFb.o;have e:=Ac8 h0 hf c0 hx;have e2:=Ql (by rw[e];exact Q9 st h0) (by rw[e];exact hf) _ _ _ _ _ Fp;rw[e2,e,hw];exact⟨rfl,hf⟩
    ·have e2:=Ql (HStk.o h0) h0 _ _ _ _ _ hpk;rw[e2,hw,A0c h0];exact⟨rfl,h0⟩
   have tk:((kT st:Int) !=21)=true:=by rw[c0];rfl
   have tk0:((kT st:Int) !=0)=false:=by rw[c0];rfl
   clear c21 c0 hpk hrs hO hrep hown;go_wp2_with fail
   refine(Dt HRS.o).mono ?_;rintro e w4 ⟨rfl,h4,Ba⟩;have Ct:=A0 (Below.only (b:=b) Ba);have C7:Hid (A9 b wr w4):=(A9.refl b wr).trans Ct.o;have lw4:=C7.o.size;have H4:=A0 h4;clear h4 Ba;go_wp2_with fail
   refine(Dt H4.o).mono ?_;rintro e w5 ⟨rfl,h5,Cl⟩;have Ew:=A0 (Below.only (b:=b) Cl);have Ce:Hid (A9 b wr w5):=C7.o.trans Ew.o;have lw5:=Ce.o.size;have H5:=A0 h5;clear h5 Cl;go_wp2_with fail
   refine(Ix H5.o 21).mono ?_;rintro e w6 ⟨kk6,ln6,nn6,S6,rfl,htk6,h6,Jc⟩;have HP6:=A0 Jc;have Dp:Hid (A9 b wr w6):=Ce.o.trans HP6.o;have lw6:=Dp.o.size;have HTk6:=A0 htk6;have H6:=A0 h6;clear h6 Jc htk6;go_wp2;go_ret;refine⟨va,vn,vc,cs,rfl,⟨B8 HOwn.o.1 (fun k hk hl=>Dp.o.block k hl (fun e=>hne z5ra)),HOwn.o.2⟩,by rw[HE.o.1];exact H6.o,HOr.o.trans Dp.o,fun hb=>absurd hb HE.o.2⟩
  have Ah:Hid (st.bad=0):=hrs.Gx c0;obtain⟨z,C1,C9⟩:=Xi c21 Ah.o hpk;have HZ2:=A0 C9;have HX:=A0 (fun(W:World) (h:PR b tb cap te ts W st)=>(ih m z51a).stmt W st z h C1);have tk:((kT st:Int) !=21)=true:=by simp;omega
  have tk0:((kT st:Int) !=0)=true:=by simpa using c0
  clear c21 c0 hpk hrs hO hrep hown C1 C9;go_wp2_with fail
  refine(Dt HRS.o).mono ?_;rintro e w4 ⟨rfl,h4,Ba⟩;have Ct:=A0 (Below.only (b:=b) Ba);have C7:Hid (A9 b wr w4):=(A9.refl b wr).trans Ct.o;have lw4:=C7.o.size;have H4:=A0 h4;clear h4 Ba;go_wp2_with fail
  refine(Dt H4.o).mono ?_;rintro e w5 ⟨rfl,h5,Cl⟩;have Ew:=A0 (Below.only (b:=b) Cl);have Ce:Hid (A9 b wr w5):=C7.o.trans Ew.o;have lw5:=Ce.o.size;have H5:=A0 h5;clear h5 Cl;go_wp2_with fail
  refine(HX.o _ H5.o).mono ?_;rintro e w6 ⟨ty6,x6,rfl,h6,Jc,hr6⟩;have HP6:=A0 Jc;have Dp:Hid (A9 b wr w6):=Ce.o.trans HP6.o;have lw6:=Dp.o.size;have HR6:=A0 hr6;have H6:=A0 h6;clear h6 Jc hr6;have hown5:w6.ownsRow 0 142 1 (.slice va vn vc) cs.length cs:=B8 HOwn.o.1 (fun k hk hl=>Dp.o.block k hl (fun e=>hne z5ra));go_wp2_with (at_builtin;refine Kb w6 #[.iface ty6 x6] 142 rfl (.tmp 14) (.tmp 17) 138 rfl 0 1 16 .nilIface Tryz.underlying138 Wy rfl z51a _ _ _ rfl rfl hown5 rfl (fun u hu=>by simp at hu;rw[hu];rfl) z51a z51a (Nat.zero_le _) ?_;intro g7 cap7 w7 hown7 hgrow7 hat7 hg7)
  replace hgrow7:w6.grownBy w7 (Value.slice va vn vc).ownBlock:=hgrow7;replace hat7:(Value.slice va vn vc).ownBlock=some g7\/g7=w6.heap.size+1:=hat7;have hrow:∀k,(Value.slice va vn vc).ownBlock=some k->k≠b/\k≠tb/\w.heap.size<=k:=fun k e=>by have h:w.heap.size<=k:=HOwn.o.2 k e;omega
  go_roundg m
  case measure=>omega
  case rel=>
   refine⟨C4 acc z.1,z.2,some ⟨g7,0,none⟩,cs.length+1,cap7,cs++[.iface ty6 x6],rfl,by omega,HZ2.o,PR.grown H6.o hgrow7 (fun e=>(hrow b e).1 rfl) (fun e=>(hrow tb e).2.1 rfl),(HOr.o.trans Dp.o).grown hgrow7 (fun k e=>.inr (hrow k e).2.2),by simp;omega,⟨by simpa using hown7,fun k hk=>?_⟩,fun hb=>?_⟩
   ·exact z3da
   ·exact Vo lb lwr (HRep.o Ah.o) Dp.o (Ao.weak z51a (HR6.o hb)) HOwn.o.1 hgrow7 hat7
end
section
set_option maxRecDepth 100000
open Go.RowKit
open Go.Deep (BT)
variable {b tb cap te:Nat}{ts:List Tk}{n:Nat}
theorem Ao.blk{D:Nat->Prop}{w:World}{kd:Nat}(hk:kd=31\/kd=32){va:Option Addr}{vn vc:Nat}{cs:List Value}{f:BT A6}(ho:Cz D w 142 1 (.slice va vn vc) cs.length cs)(hr:Ao D w f cs):Ao D w (nd (Bb kd 0) f) [.slice va vn vc]:=by
 refine Ao.one ?_ hr;unfold Bx;rw[if_pos (show(Bb kd 0).kd=31\/(Bb kd 0).kd=32 from hk)];exact⟨⟨_,_,_,rfl⟩,ho⟩
theorem Ahf(ih:Iq b tb cap te ts n)(w:World)(s:PS)(r:BT A6×PS)(hk:kT s=5)(hs:PR b tb cap te ts w s)(hp:Ai (n+1) 9 0 .nil s=some r) :
  Calls Tryz.prog 186 #[.pointer (some ⟨b,0,none⟩)] w (Ho b tb cap te ts w r):=by
 obtain⟨x,hx,hr⟩:=A2q hk hp;have HS:=A0 hs;have lb:=hs.lt;have HR:=A0 hr;have HXp:=A0 hx;have HW:Hid (Bi 5 s=At s):=by show _=_;unfold Bi;rw[if_pos hk]
 have HX:=A0 (fun(W:World) (h:PR b tb cap te ts W (Bi 26 (Bi 1 (At s))))=>Kf ih W (Bi 26 (Bi 1 (At s))) x h hx);clear hp hs hk hx hr;go_enter Tryz.func186,Tryz.ntmps186;go_wp2_with fail
 refine(Ix HS.o 5).mono ?_;rintro e w1 ⟨kk1,Il,nn1,S1,rfl,Fv,h1,C3⟩;have Bz:=A0 C3;have B6:Hid (A9 b w w1):=(A9.refl b w).trans Bz.o;have Du:=B6.o.size;have J8:=A0 Fv;rw[HW.o]at h1;have H1:=A0 h1;clear h1 C3 Fv;go_wp2_with fail
 refine(Ty H1.o).mono ?_;rintro e w2 ⟨Gd,S2,rfl,F6,h2,Be⟩;have B4:=A0 Be;have Bm:Hid (A9 b w w2):=B6.o.trans B4.o;have Fe:=Bm.o.size;have Eg:=A0 F6;have H2:=A0 h2;clear h2 Be F6;have HT2:=A0 (heap_alloc_new w2 (.cells #[.int .i64 Gd,.string ⟨S2.toArray⟩] 148));have lw2b:w2.heap.size<(w2.alloc (.cells #[.int .i64 Gd,.string ⟨S2.toArray⟩] 148)).heap.size:=by simp
 go_wp2_with fail
 refine(Ix (PR.alloc H2.o _) 26).mono ?_;rintro e w3 ⟨kk3,ln3,nn3,S3,rfl,htk3,h3,Cv⟩;have Bn:=A0 Cv;have Cp:Hid (A9 b w w3):=(Bm.o.alloc _).trans Bn.o;have lw3:=Cp.o.size;have HTk3:=A0 htk3;have H3:=A0 h3;clear h3 Cv htk3;have HT3:=A0 (Bn.o.blk HT2.o z51a);go_wp2_with fail
 refine(HX.o _ H3.o).mono ?_;rintro e w4 ⟨ty4,x4,rfl,h4,Cq,G0⟩;have Ct:=A0 Cq;have C7:Hid (A9 b w w4):=Cp.o.trans Ct.o;have lw4:=C7.o.size;have Cx:=A0 G0;have H4:=A0 h4;clear h4 Cq G0;have HT4:=A0 (Ct.o.blk HT3.o z51a);go_wp2_with fail
 refine(Ix H4.o 25).mono ?_;rintro e w5 ⟨kk5,ln5,nn5,S5,rfl,htk5,h5,Ea⟩;have Ew:=A0 Ea;have Ce:Hid (A9 b w w5):=C7.o.trans Ew.o;have lw5:=Ce.o.size;have HTk5:=A0 htk5;have H5:=A0 h5;clear h5 Ea htk5;have hT5:=Ew.o.blk HT4.o z51a;have y0:=A2 hT5 0 _ rfl;have y1:=A2 hT5 1 _ rfl;have ly:=A5 hT5;clear hT5;go_wp2;go_ret;rw[HR.o];refine Hr (l:=⟨21,(B9 (At s)).line,(B9 (At s)).s,0,[]⟩) (ch:=x.1) (ks:=[.iface ty4 x4]) H5.o Ce.o rfl z56a rfl rfl (fun hb=>⟨⟨_,?_,rfl⟩,Ao.later z51a z51a Ew.o (Cx.o (Lm hb))⟩);have hg:=Lm (Ph H3.o.Mf HXp.o (Lm hb));rw[(Eg.o hg).1,(Eg.o hg).2];rfl
theorem Aib(ih:Iq b tb cap te ts n)(w:World)(s:PS)(r:BT A6×PS)(hk:kT s=8)(hs:PR b tb cap te ts w s)(hp:Ai (n+1) 9 0 .nil s=some r) :
  Calls Tryz.prog 132 #[.pointer (some ⟨b,0,none⟩)] w (Ho b tb cap te ts w r):=by
 obtain⟨x,bl,hx,hbl,hr⟩:=A2u hk hp;have HS:=A0 hs;have lb:=hs.lt;have Ah:Hid (s.bad=0):=hs.Gx z51a;have HR:=A0 hr;have HBp:=A0 hbl;have t5:((kT s:Int)==5)=false:=kn (c:=5) rfl z51a;have t6:((kT s:Int)==6)=false:=kn (c:=6) rfl z51a;have t8:((kT s:Int)==8)=true:=ke (c:=8) rfl hk;have HBl:=A0 (fun(W:World) (h:PR b tb cap te ts W x.2)=>ih.block W x.2 bl h hbl);have HX:=A0 (fun(W:World) (h:PR b tb cap te ts W (At s))=>Kf ih W (At s) x h hx);have Ii:=Lb;clear hp hs hk hx hbl hr;go_enter Tryz.func132,Tryz.ntmps132;go_wp2_with fail
 refine(Dt HS.o).mono ?_;rintro e w1 ⟨rfl,h1,A1⟩;have Bz:=A0 (Below.only (b:=b) A1);have B6:Hid (A9 b w w1):=(A9.refl b w).trans Bz.o;have Du:=B6.o.size;have H1:=A0 h1;clear h1 A1;go_wp2_with fail
 refine(Hf H1.o).mono ?_;rintro e w2 ⟨Gd,nn2,S2,rfl,F6,h2,Be⟩;have B4:=A0 Be;have Bm:Hid (A9 b w w2):=B6.o.trans B4.o;have Fe:=Bm.o.size;have Eg:=A0 F6;have H2:=A0 h2;clear h2 Be F6;go_wp2_with fail
 refine(HX.o _ H2.o).mono ?_;rintro e w3 ⟨ty3,x3,rfl,h3,Cv,Cj⟩;have Bn:=A0 Cv;have Cp:Hid (A9 b w w3):=Bm.o.trans Bn.o;have lw3:=Cp.o.size;have C8:=A0 Cj;have H3:=A0 h3;clear h3 Cv Cj;go_wp2_with fail
 refine(HBl.o _ H3.o).mono ?_;rintro e w4 ⟨va4,vn4,vc4,cs4,rfl,hown4,h4,Cq,G0⟩;have Ct:=A0 Cq;have C7:Hid (A9 b w w4):=Cp.o.trans Ct.o;have lw4:=C7.o.size;have Cx:=A0 G0;have HOwn4:=A0 hown4;have H4:=A0 h4;clear h4 Cq G0 hown4;go_wp2;go_ret;rw[HR.o];refine Hr (l:=Bb 23 (B9 s).line) (ch:=C4 x.1 (nd (Bb 32 0) bl.1)) (ks:=[.iface ty3 x3,.slice va4 vn4 vc4]) H4.o C7.o rfl z5ha rfl rfl (fun hb=>⟨⟨_,_,_,_,_,?_,rfl⟩,Ao.app _ _ [_] [_] (Ao.later z51a z51a Ct.o (C8.o (Ph H3.o.Mf HBp.o hb))) (Ao.blk (.inr rfl) (HOwn4.o.keep (fun k hk _=>⟨rfl,by have h:w3.heap.size<=k:=hk;omega⟩)) (Ao.weak z51a (Cx.o hb)))⟩);rw[(Eg.o Ah.o).1];rfl
theorem z6fa {P:Prop} (h:P:=by show w.heap.size<=w3.heap.size;omega):P:=h
theorem Ahc(ih:Iq b tb cap te ts n)(w:World)(s:PS)(r:BT A6×PS)(hk:kT s=6)(x bl:BT A6×PS)(hx:Ai n 0 0 .nil (At s)=some x)(hbl:Ai n 7 0 .nil x.2=some bl)(h7:kT bl.2≠7)(hr:r=(nd (Bb 22 (B9 s).line) (C4 x.1 (nd (Bb 31 0) bl.1)),bl.2))(hs:PR b tb cap te ts w s) :
  Calls Tryz.prog 187 #[.pointer (some ⟨b,0,none⟩)] w (Ho b tb cap te ts w r):=by
 have HS:=A0 hs;have lb:=hs.lt;have Ah:Hid (s.bad=0):=hs.Gx z51a;have HR:=A0 hr;have HBp:=A0 hbl;have HBl:=A0 (fun(W:World) (h:PR b tb cap te ts W x.2)=>ih.block W x.2 bl h hbl);have HX:=A0 (fun(W:World) (h:PR b tb cap te ts W (At s))=>Kf ih W (At s) x h hx);have Ii:=Lb;have tk:(kT bl.2==7)=false:=by simpa using h7
 have HM:Hid (Hw 7 bl.2=bl.2):=by show _=_;unfold Hw;rw[if_neg h7]
 clear hs hk hx hbl hr h7;go_enter Tryz.func187,Tryz.ntmps187;go_wp2_with fail
 refine(Hf HS.o).mono ?_;rintro e w1 ⟨Il,nn1,S1,rfl,Fv,h1,C3⟩;have Bz:=A0 C3;have B6:Hid (A9 b w w1):=(A9.refl b w).trans Bz.o;have Du:=B6.o.size;have J8:=A0 Fv;have H1:=A0 h1;clear h1 C3 Fv;go_wp2_with fail
 refine(HX.o _ H1.o).mono ?_;rintro e w2 ⟨I6,x2,rfl,h2,Be,B7⟩;have B4:=A0 Be;have Bm:Hid (A9 b w w2):=B6.o.trans B4.o;have Fe:=Bm.o.size;have Ci:=A0 B7;have H2:=A0 h2;clear h2 Be B7;go_wp2_with fail
 refine(HBl.o _ H2.o).mono ?_;rintro e w3 ⟨va3,vn3,vc3,cs3,rfl,hown3,h3,Cv,Cj⟩;have Bn:=A0 Cv;have Cp:Hid (A9 b w w3):=Bm.o.trans Bn.o;have lw3:=Cp.o.size;have C8:=A0 Cj;have HOwn3:=A0 hown3;have H3:=A0 h3;clear h3 Cv Cj hown3;have HT3:=A0 (heap_alloc_new w3 (.cells #[.int .i64 Il,.iface I6 x2,.slice va3 vn3 vc3,.slice none 0 0] 314));have lw3b:w3.heap.size<(w3.alloc (.cells #[.int .i64 Il,.iface I6 x2,.slice va3 vn3 vc3,.slice none 0 0] 314)).heap.size:=by simp
 go_wp2_with fail
 refine(Mp (PR.alloc H3.o _) 7).mono ?_;rintro e w4 ⟨rfl,h4,Cq⟩;have Ct:=A0 Cq;have C7:Hid (A9 b w w4):=(Cp.o.alloc _).trans Ct.o;have lw4:=C7.o.size;rw[tk];rw[HM.o]at h4;have H4:=A0 h4;clear h4 Cq;have HT4:=A0 (Ct.o.blk HT3.o z51a);go_wp2;go_ret;rw[HR.o];refine⟨_,_,rfl,H4.o,C7.o,fun hb=>?_⟩;have k2:∀g,w1.heap.size<=g->g<w2.heap.size->w4.heap[g]?=w2.heap[g]?/\w.heap.size<=g:=fun g hg hl=>⟨((Bn.o.alloc _).trans Ct.o).block g hl z51a,by omega⟩;have k3:∀g,w2.heap.size<=g->g<w3.heap.size->w4.heap[g]?=w3.heap[g]?/\w.heap.size<=g:=fun g hg hl=>⟨(((A9.refl b w3).alloc _).trans Ct.o).block g hl z51a,by omega⟩;refine Ao.one (l:=Bb 22 (B9 s).line) (ks:=[.iface I6 x2,.slice va3 vn3 vc3]) (Bx.new z5ha z6fa HT4.o ⟨_,_,_,_,_,_,_,_,?_,.inl ⟨rfl,rfl⟩⟩) ?_
 ·rw[(J8.o Ah.o).1];rfl
 ·exact Ao.app _ _ [_] [_] (Ao.keep k2 _ _ (Ci.o (Ph H2.o.Mf HBp.o hb))) (Ao.blk (.inl rfl) (HOwn3.o.keep k3) (Ao.keep k3 _ _ (C8.o hb)))
theorem z5za {P:Prop} (h:P:=by exact hk):P:=h
theorem Ahd(ih:Iq b tb cap te ts n)(w:World)(s:PS)(r:BT A6×PS)(hk:kT s=6)(x bl:BT A6×PS)(hx:Ai n 0 0 .nil (At s)=some x)(hbl:Ai n 7 0 .nil x.2=some bl)(h7:kT bl.2=7)(c:BT A6×PS)(hc:Ai n 7 0 .nil (At bl.2)=some c)(hr:r=(nd (Bb 22 (B9 s).line) (C4 x.1 (C4 (nd (Bb 31 0) bl.1) (nd (Bb 31 0) c.1))),c.2))(hs:PR b tb cap te ts w s) :
  Calls Tryz.prog 187 #[.pointer (some ⟨b,0,none⟩)] w (Ho b tb cap te ts w r):=by
 have HS:=A0 hs;have lb:=hs.lt;have Ah:Hid (s.bad=0):=hs.Gx z51a;have HR:=A0 hr;have HBp:=A0 hbl;have HBl:=A0 (fun(W:World) (h:PR b tb cap te ts W x.2)=>ih.block W x.2 bl h hbl);have HX:=A0 (fun(W:World) (h:PR b tb cap te ts W (At s))=>Kf ih W (At s) x h hx);have Ii:=Lb;have tk:(kT bl.2==7)=true:=by simpa using h7
 have HM:Hid (Hw 7 bl.2=At bl.2):=by show _=_;unfold Hw;rw[if_pos h7]
 have HCl:=A0 (fun(W:World) (h:PR b tb cap te ts W (At bl.2))=>ih.block W (At bl.2) c h hc);have HCp:=A0 hc;clear hs hk hx hbl hr h7 hc;go_enter Tryz.func187,Tryz.ntmps187;go_wp2_with fail
 refine(Hf HS.o).mono ?_;rintro e w1 ⟨Il,nn1,S1,rfl,Fv,h1,C3⟩;have Bz:=A0 C3;have B6:Hid (A9 b w w1):=(A9.refl b w).trans Bz.o;have Du:=B6.o.size;have J8:=A0 Fv;have H1:=A0 h1;clear h1 C3 Fv;go_wp2_with fail
 refine(HX.o _ H1.o).mono ?_;rintro e w2 ⟨I6,x2,rfl,h2,Be,B7⟩;have B4:=A0 Be;have Bm:Hid (A9 b w w2):=B6.o.trans B4.o;have Fe:=Bm.o.size;have Ci:=A0 B7;have H2:=A0 h2;clear h2 Be B7;go_wp2_with fail
 refine(HBl.o _ H2.o).mono ?_;rintro e w3 ⟨va3,vn3,vc3,cs3,rfl,hown3,h3,Cv,Cj⟩;have Bn:=A0 Cv;have Cp:Hid (A9 b w w3):=Bm.o.trans Bn.o;have lw3:=Cp.o.size;have C8:=A0 Cj;have HOwn3:=A0 hown3;have H3:=A0 h3;clear h3 Cv Cj hown3;have HT3:=A0 (heap_alloc_new w3 (.cells #[.int .i64 Il,.iface I6 x2,.slice va3 vn3 vc3,.slice none 0 0] 314));have lw3b:w3.heap.size<(w3.alloc (.cells #[.int .i64 Il,.iface I6 x2,.slice va3 vn3 vc3,.slice none 0 0] 314)).heap.size:=by simp
 go_wp2_with fail
 refine(Mp (PR.alloc H3.o _) 7).mono ?_;rintro e w4 ⟨rfl,h4,Cq⟩;have Ct:=A0 Cq;have C7:Hid (A9 b w w4):=(Cp.o.alloc _).trans Ct.o;have lw4:=C7.o.size;rw[tk];rw[HM.o]at h4;have H4:=A0 h4;clear h4 Cq;have HT4:=A0 (Ct.o.blk HT3.o z51a);obtain⟨y0,y1,y2,y3,fy,ly⟩:=E4 HT4.o;go_wp2_with fail
 refine(HCl.o _ H4.o).mono ?_;rintro e w5 ⟨va5,vn5,vc5,cs5,rfl,hown5,h5,Ea,hr5⟩;have Ew:=A0 Ea;have Ce:Hid (A9 b w w5):=C7.o.trans Ew.o;have lw5:=Ce.o.size;have HR5:=A0 hr5;have HOwn5:=A0 hown5;have H5:=A0 h5;clear h5 Ea hr5 hown5;have HT5:=A0 (Ew.o.blk HT4.o z51a);clear y0 y1 y2 y3 fy ly;obtain⟨y0,y1,y2,y3,fy,ly⟩:=E4 HT5.o;go_wp2;go_ret;rw[HR.o];have hold:∀k,k≠w3.heap.size->(w5.setCell ⟨w3.heap.size,3,none⟩ (.slice va5 vn5 vc5)).heap[k]?=w5.heap[k]?:=fun k hk=>Below.heap_setCell _ _ _ _ z5za;refine⟨_,_,rfl,PR.other H5.o (by show b≠w3.heap.size;omega) (by show tb≠w3.heap.size;omega) _,A9.set (p:=⟨w3.heap.size,3,none⟩) Ce.o (.inr z6fa) _,fun hb=>?_⟩;have Ba:bl.2.bad=0:=by have:=Ph H4.o.Mf HCp.o hb;rw[Qz]at this;exact this
 have hnew:(w5.setCell ⟨w3.heap.size,3,none⟩ (.slice va5 vn5 vc5)).heap[w3.heap.size]?=some (.cells #[.int .i64 Il,.iface I6 x2,.slice va3 vn3 vc3,.slice va5 vn5 vc5] 314 (0,0)):=by
  have:=heap_set (j:=3) HT5.o (.slice va5 vn5 vc5);simpa using this
 have k2:∀g,w1.heap.size<=g->g<w2.heap.size->(w5.setCell ⟨w3.heap.size,3,none⟩ (.slice va5 vn5 vc5)).heap[g]?=w2.heap[g]?/\w.heap.size<=g:=fun g hg hl=>⟨(hold g (by have:=Bn.o.size;omega)).trans (((Bn.o.alloc _).trans (Ct.o.trans Ew.o)).block g hl z51a),by omega⟩;have k3:∀g,w2.heap.size<=g->g<w3.heap.size->(w5.setCell ⟨w3.heap.size,3,none⟩ (.slice va5 vn5 vc5)).heap[g]?=w3.heap[g]?/\w.heap.size<=g:=fun g hg hl=>⟨(hold g z51a).trans ((((A9.refl b w3).alloc _).trans (Ct.o.trans Ew.o)).block g hl z51a),by omega⟩;have k5:∀g,w4.heap.size<=g->g<w5.heap.size->(w5.setCell ⟨w3.heap.size,3,none⟩ (.slice va5 vn5 vc5)).heap[g]?=w5.heap[g]?/\w.heap.size<=g:=fun g hg hl=>⟨hold g (by have:=A5 HT4.o;omega),by omega⟩;refine Ao.one (l:=Bb 22 (B9 s).line) (ks:=[.iface I6 x2,.slice va3 vn3 vc3,.slice va5 vn5 vc5]) (Bx.new z5ha z6fa hnew ⟨_,_,_,_,_,_,_,_,?_,.inr rfl⟩) ?_
 ·rw[(J8.o Ah.o).1];rfl
 ·refine Ao.app _ _ [_] [_,_] (Ao.keep k2 _ _ (Ci.o (Ph H2.o.Mf HBp.o Ba))) (Ao.app _ _ [_] [_] (Ao.blk (.inl rfl) (HOwn3.o.keep k3) (Ao.keep k3 _ _ (C8.o Ba))) (Ao.blk (.inl rfl) (HOwn5.o.keep k5) (Ao.keep k5 _ _ (HR5.o hb))))
end
section
set_option maxRecDepth 100000
open Go.RowKit
open Go.Deep (BT)
theorem E3{P:Program}{T e xT:TypeId}(hu:P.underlying T=some (.pointer e))(v:Value)(w:World):(Instr.typeAssert (.iface T v) xT T true).run P w=.ok (.tuple #[v,.bool true]) w:=by
 simp[Instr.typeAssert,run_underlying hu]
theorem Bl{P:Program}{T e t xT:TypeId}{z:Value}(hu:P.underlying T=some (.pointer e))(hz:(P.info? T).map (·.zero)=some (some z))(h:t≠T)(v:Value)(w:World):(Instr.typeAssert (.iface t v) xT T true).run P w=.ok (.tuple #[z,.bool false]) w:=by
 obtain⟨i,hi,hz⟩:∃i,P.info? T=some i/\i.zero=some z:=by
  cases hi:P.info? T with
  | none=>rw[hi]at hz;cases hz
  | some i=>rw[hi]at hz;exact⟨i,rfl,Option.some.inj hz⟩
 simp[Instr.typeAssert,run_underlying hu,h,zeroValue,typeInfo,hi,hz]
def O9(t:TypeId):Bool:=t==238||t==310
theorem Tg(t:TypeId)(x:Value)(w:World):Calls Tryz.prog 233 #[.iface t x] w fun e w'=>e=.returned (.bool (O9 t))/\w'=w:=by
 by_cases h1:t=238
 ·subst h1;have a1:=fun w=>E3 (P:=Tryz.prog) (xT:=150) Tryz.underlying238 x w;have a2:=fun w=>Bl (P:=Tryz.prog) (t:=238) (T:=310) (xT:=150) (z:=.pointer none) Tryz.underlying310 (by kernel_rfl) z52a x w;go_enter Tryz.func233,Tryz.ntmps233;exact z0xa
 by_cases h2:t=310
 ·subst h2;have a1:=fun w=>Bl (P:=Tryz.prog) (t:=310) (T:=238) (xT:=150) (z:=.pointer none) Tryz.underlying238 (by kernel_rfl) z52a x w;have a2:=fun w=>E3 (P:=Tryz.prog) (xT:=150) Tryz.underlying310 x w;clear h1;go_enter Tryz.func233,Tryz.ntmps233;exact z0xa
 ·have a1:=fun w=>Bl (P:=Tryz.prog) (t:=t) (T:=238) (xT:=150) (z:=.pointer none) Tryz.underlying238 (by kernel_rfl) h1 x w;have a2:=fun w=>Bl (P:=Tryz.prog) (t:=t) (T:=310) (xT:=150) (z:=.pointer none) Tryz.underlying310 (by kernel_rfl) h2 x w;have HC:Hid (O9 t=false):=by
   show _=_;unfold O9;rw[beq_eq_false_iff_ne.2 h1,beq_eq_false_iff_ne.2 h2];rfl
  clear h1 h2;go_enter Tryz.func233,Tryz.ntmps233;go_wp2;go_ret;exact⟨Sa HC.o.symm,rfl⟩
theorem Ai0(kd:Nat):O9 (Ck kd)=(kd==6||kd==12):=by
 by_cases h6:kd=6
 ·subst h6;rfl
 by_cases h12:kd=12
 ·subst h12;rfl
 rw[beq_eq_false_iff_ne.2 h6,beq_eq_false_iff_ne.2 h12];unfold Ck;split <;> first|rfl|(exfalso;omega)
theorem Y5{D:Nat->Prop}{W:World}{f v:BT A6}{t:TypeId}{x vv:Value}(h:Ao D W f [.iface t x])(hv:Ao D W v [vv]) :
  O9 t=Q3 f/\(Q3 f=true->∃l ch ks,setNode f v=nd l ch/\¬(l.kd=31\/l.kd=32)/\Ck l.kd=268/\Dn l.kd=322/\Cy D W l #[.iface t x,vv] ks/\Ao D W ch ks):=by
 cases f with
 | nil=>rw[Ao]at h;cases h
 | node x0 y0 l ch sib=>
  obtain⟨v0,ks,rest,e,h1,h2,h3⟩:=h;injection e with e1 e2;subst e1 e2;unfold Bx at h1;split at h1
  ·obtain⟨⟨_,_,_,e⟩,_⟩:=h1;cases e
  ·obtain⟨b2,cs,e,hD,hb,hl⟩:=h1;injection e with e1 e2;subst e1 e2;refine⟨Ai0 l.kd,fun hc=>?_⟩;have hc':(l.kd==6||l.kd==12)=true:=hc;simp only[Bool.or_eq_true,beq_iff_eq]at hc';rcases hc' with h6|h12
   ·unfold Cy at hl;rw[h6]at hl;simp only at hl;obtain⟨rfl,rfl⟩:=hl;have hb':W.heap[b2]?=some (.cells #[Ge l.line,L6 l.s] 240 (0,0)):=by rw[hb,h6];rfl
    refine⟨⟨28,l.line,l.s,0,[]⟩,v,[vv],?_,by simp,rfl,rfl,⟨b2,vv,?_,hD,hb',rfl⟩,hv⟩
    ·unfold setNode Jn;rw[if_pos h6]
    ·rw[h6];rfl
   ·unfold Cy at hl;rw[h12]at hl;simp only at hl;obtain⟨a,b,rfl,rfl⟩:=hl;have hb':W.heap[b2]?=some (.cells #[Ge l.line,a,b] 312 (0,0)):=by rw[hb,h12];rfl
    refine⟨Bb 29 l.line,C4 ch v,[a,b,vv],?_,by simp[Bb],rfl,rfl,⟨b2,a,b,vv,?_,hD,hb',rfl⟩,Ao.app _ _ [a,b] [vv] h2 hv⟩
    ·unfold setNode Jn X6;rw[if_neg (show ¬l.kd=6 by omega)]
    ·rw[h12];rfl
end
section
set_option maxRecDepth 100000
open Go.RowKit
open Go.Deep (BT)
variable {b tb cap te:Nat}{ts:List Tk}{n:Nat}
theorem Is{w:World}{g:Nat}{a0 a1:Value}{t:TypeId}(h:w.heap[g]?=some (.cells #[a0,a1] t (0,0))) :
  w.cell? ⟨g,0,none⟩=some a0/\w.cell? ⟨g,1,none⟩=some a1/\(∀o,w.frozen? ⟨g,o,none⟩=false)/\g<w.heap.size:=
 ⟨A2 h 0 _ rfl,A2 h 1 _ rfl,Bh h,A5 h⟩
def P1(b tb cap te:Nat)(ts:List Tk)(w:World)(r:BT A6×PS)(e:Ending)(w':World):Prop:=
 ∃r':BT A6×PS,Ho b tb cap te ts w r' e w'/\r.1=r'.1/\r.2=Bi 25 r'.2
theorem z6ga {P:Prop} (h:P:=by show w.heap.size<=w2.heap.size;omega):P:=h
theorem Amd(w:World)(s:PS)(r:BT A6×PS)(hk:kT s=9)(Cm:kT (At s)=25)(hs:PR b tb cap te ts w s)(hp:Ai (n+1) 9 0 .nil s=some r) :
  Calls Tryz.prog 190 #[.pointer (some ⟨b,0,none⟩)] w (P1 b tb cap te ts w r):=by
 have HS:=A0 hs;have lb:=hs.lt;have Ii:=Lb;have HR:=A0 (A2t hk Cm hp);have Ah:Hid (s.bad=0):=hs.Gx z51a;have t25:((kT (At s):Int) !=25)=false:=by rw[Cm];rfl
 have t9:((kT s:Int)==9)=true:=ke (c:=9) rfl hk;clear hp hs hk Cm;go_enter Tryz.func190,Tryz.ntmps190;go_wp2_with fail
 refine(Dt HS.o).mono ?_;rintro e w1 ⟨rfl,h1,A1⟩;have Bz:=A0 (Below.only (b:=b) A1);have B6:Hid (A9 b w w1):=(A9.refl b w).trans Bz.o;have Du:=B6.o.size;have H1:=A0 h1;clear h1 A1;go_wp2_with fail
 refine(Hf H1.o).mono ?_;rintro e w2 ⟨Gd,nn2,S2,rfl,F6,h2,Be⟩;have B4:=A0 Be;have Bm:Hid (A9 b w w2):=B6.o.trans B4.o;have Fe:=Bm.o.size;have Eg:=A0 F6;have H2:=A0 h2;clear h2 Be F6;have HT2:=A0 (heap_alloc_new w2 (.cells #[.int .i64 Gd,.nilIface] 318));go_wp2_with fail
 refine(Dt (PR.alloc H2.o _)).mono ?_;rintro e w3 ⟨rfl,h3,Ak⟩;have Bn:=A0 (Below.only (b:=b) Ak);have Cp:Hid (A9 b w w3):=(Bm.o.alloc _).trans Bn.o;have lw3:=Cp.o.size;have H3:=A0 h3;clear h3 Ak;go_wp2;go_ret;rw[HR.o];refine⟨(nd (Bb 24 (B9 s).line) .nil,At s),⟨_,_,rfl,H3.o,Cp.o,fun hb=>?_⟩,rfl,rfl⟩;refine Ao.one (l:=Bb 24 (B9 s).line) (ks:=[]) (Bx.new z5ha z6ga (Bn.o.blk HT2.o z51a) ⟨_,?_,.inl ⟨rfl,rfl⟩⟩) rfl;rw[(Eg.o Ah.o).1];rfl
theorem Ame(ih:Iq b tb cap te ts n)(w:World)(s:PS)(r:BT A6×PS)(hk:kT s=9)(Cm:kT (At s)≠25)(hs:PR b tb cap te ts w s)(hp:Ai (n+1) 9 0 .nil s=some r) :
  Calls Tryz.prog 190 #[.pointer (some ⟨b,0,none⟩)] w (P1 b tb cap te ts w r):=by
 have HS:=A0 hs;have lb:=hs.lt;have Ii:=Lb;obtain⟨x,hx,hr⟩:=A2s hk Cm hp;have HR:=A0 hr;have Ah:Hid (s.bad=0):=hs.Gx z51a;have t25:((kT (At s):Int) !=25)=true:=by simp;omega
 have HX:=A0 (fun(W:World) (h:PR b tb cap te ts W (At s))=>Kf ih W (At s) x h hx);have t9:((kT s:Int)==9)=true:=ke (c:=9) rfl hk;clear hp hs hk Cm hx hr;go_enter Tryz.func190,Tryz.ntmps190;go_wp2_with fail
 refine(Dt HS.o).mono ?_;rintro e w1 ⟨rfl,h1,A1⟩;have Bz:=A0 (Below.only (b:=b) A1);have B6:Hid (A9 b w w1):=(A9.refl b w).trans Bz.o;have Du:=B6.o.size;have H1:=A0 h1;clear h1 A1;go_wp2_with fail
 refine(Hf H1.o).mono ?_;rintro e w2 ⟨Gd,nn2,S2,rfl,F6,h2,Be⟩;have B4:=A0 Be;have Bm:Hid (A9 b w w2):=B6.o.trans B4.o;have Fe:=Bm.o.size;have Eg:=A0 F6;have H2:=A0 h2;clear h2 Be F6;have HT2:=A0 (heap_alloc_new w2 (.cells #[.int .i64 Gd,.nilIface] 318));have lw2b:w2.heap.size<(w2.alloc (.cells #[.int .i64 Gd,.nilIface] 318)).heap.size:=by simp
 go_wp2_with fail
 refine(Dt (PR.alloc H2.o _)).mono ?_;rintro e w3 ⟨rfl,h3,Ak⟩;have Bn:=A0 (Below.only (b:=b) Ak);have Cp:Hid (A9 b w w3):=(Bm.o.alloc _).trans Bn.o;have lw3:=Cp.o.size;have H3:=A0 h3;clear h3 Ak;have HT3:=A0 (Bn.o.blk HT2.o z51a);go_wp2_with fail
 refine(HX.o _ H3.o).mono ?_;rintro e w4 ⟨ty4,x4,rfl,h4,Cq,G0⟩;have Ct:=A0 Cq;have C7:Hid (A9 b w w4):=Cp.o.trans Ct.o;have lw4:=C7.o.size;have Cx:=A0 G0;have H4:=A0 h4;clear h4 Cq G0;have HT4:=A0 (Ct.o.blk HT3.o z51a);obtain⟨y0,y1,fy,ly⟩:=Is HT4.o;go_wp2;go_ret;rw[HR.o];have hold:∀k,k≠w2.heap.size->(w4.setCell ⟨w2.heap.size,1,none⟩ (.iface ty4 x4)).heap[k]?=w4.heap[k]?:=fun k hk=>Below.heap_setCell _ _ _ _ z5za;refine⟨(nd (Bb 24 (B9 s).line) x.1,x.2),⟨_,_,rfl,PR.other H4.o (by show b≠w2.heap.size;omega) (by show tb≠w2.heap.size;omega) _,A9.set (p:=⟨w2.heap.size,1,none⟩) C7.o (.inr z6ga) _,fun hb=>?_⟩,rfl,rfl⟩;have hnew:(w4.setCell ⟨w2.heap.size,1,none⟩ (.iface ty4 x4)).heap[w2.heap.size]?=some (.cells #[.int .i64 Gd,.iface ty4 x4] 318 (0,0)):=by
  have:=heap_set (j:=1) HT4.o (.iface ty4 x4);simpa using this
 have lw3b:=A5 HT3.o;refine Ao.one (l:=Bb 24 (B9 s).line) (ks:=[.iface ty4 x4]) (Bx.new z5ha z6ga hnew ⟨_,?_,.inr rfl⟩) (Ao.keep (fun g (hg:w3.heap.size<=g) _=>⟨hold g z51a,by omega⟩) _ _ (Cx.o hb));rw[(Eg.o Ah.o).1];rfl
theorem Aju(w:World)(s:PS)(r:BT A6×PS)(hk:kT s=10)(hs:PR b tb cap te ts w s)(hp:Ai (n+1) 9 0 .nil s=some r) :
  Calls Tryz.prog 190 #[.pointer (some ⟨b,0,none⟩)] w (P1 b tb cap te ts w r):=by
 have HS:=A0 hs;have lb:=hs.lt;have Ii:=Lb;have HR:=A0 (A2n hk hp);have Ah:Hid (s.bad=0):=hs.Gx z51a;have t9:((kT s:Int)==9)=false:=kn (c:=9) rfl z51a;have t10:((kT s:Int)==10)=true:=ke (c:=10) rfl hk;clear hp hs hk;go_enter Tryz.func190,Tryz.ntmps190;go_wp2_with fail
 refine(Dt HS.o).mono ?_;rintro e w1 ⟨rfl,h1,A1⟩;have Bz:=A0 (Below.only (b:=b) A1);have B6:Hid (A9 b w w1):=(A9.refl b w).trans Bz.o;have Du:=B6.o.size;have H1:=A0 h1;clear h1 A1;go_wp2_with fail
 refine(Hf H1.o).mono ?_;rintro e w2 ⟨Gd,nn2,S2,rfl,F6,h2,Be⟩;have B4:=A0 Be;have Bm:Hid (A9 b w w2):=B6.o.trans B4.o;have Fe:=Bm.o.size;have Eg:=A0 F6;have H2:=A0 h2;clear h2 Be F6;go_wp2;go_ret;rw[HR.o];refine⟨(nd (Bb 25 (B9 s).line) .nil,At s),Hr (l:=Bb 25 (B9 s).line) (ch:=.nil) (ks:=[]) H2.o Bm.o rfl z5ha rfl rfl (fun _=>⟨⟨?_,rfl⟩,rfl⟩),rfl,rfl⟩;rw[(Eg.o Ah.o).1];rfl
theorem Ajx(w:World)(s:PS)(r:BT A6×PS)(hk:kT s=11)(hs:PR b tb cap te ts w s)(hp:Ai (n+1) 9 0 .nil s=some r) :
  Calls Tryz.prog 190 #[.pointer (some ⟨b,0,none⟩)] w (P1 b tb cap te ts w r):=by
 have HS:=A0 hs;have lb:=hs.lt;have Ii:=Lb;have HR:=A0 (A2o hk hp);have Ah:Hid (s.bad=0):=hs.Gx z51a;have t9:((kT s:Int)==9)=false:=kn (c:=9) rfl z51a;have t10:((kT s:Int)==10)=false:=kn (c:=10) rfl z51a;have t11:((kT s:Int)==11)=true:=ke (c:=11) rfl hk;clear hp hs hk;go_enter Tryz.func190,Tryz.ntmps190;go_wp2_with fail
 refine(Dt HS.o).mono ?_;rintro e w1 ⟨rfl,h1,A1⟩;have Bz:=A0 (Below.only (b:=b) A1);have B6:Hid (A9 b w w1):=(A9.refl b w).trans Bz.o;have Du:=B6.o.size;have H1:=A0 h1;clear h1 A1;go_wp2_with fail
 refine(Hf H1.o).mono ?_;rintro e w2 ⟨Gd,nn2,S2,rfl,F6,h2,Be⟩;have B4:=A0 Be;have Bm:Hid (A9 b w w2):=B6.o.trans B4.o;have Fe:=Bm.o.size;have Eg:=A0 F6;have H2:=A0 h2;clear h2 Be F6;go_wp2;go_ret;rw[HR.o];refine⟨(nd (Bb 26 (B9 s).line) .nil,At s),Hr (l:=Bb 26 (B9 s).line) (ch:=.nil) (ks:=[]) H2.o Bm.o rfl z5ha rfl rfl (fun _=>⟨⟨?_,rfl⟩,rfl⟩),rfl,rfl⟩;rw[(Eg.o Ah.o).1];rfl
theorem Am9(ih:Iq b tb cap te ts n)(w:World)(s:PS)(r:BT A6×PS)(hk:kT s=12)(hs:PR b tb cap te ts w s)(hp:Ai (n+1) 9 0 .nil s=some r) :
  Calls Tryz.prog 190 #[.pointer (some ⟨b,0,none⟩)] w (P1 b tb cap te ts w r):=by
 have HS:=A0 hs;have lb:=hs.lt;have Ii:=Lb;obtain⟨x,hx,hr⟩:=A2r hk hp;have HR:=A0 hr;have Ah:Hid (s.bad=0):=hs.Gx z51a;have HX:=A0 (fun(W:World) (h:PR b tb cap te ts W (At s))=>Kf ih W (At s) x h hx);have t9:((kT s:Int)==9)=false:=kn (c:=9) rfl z51a;have t10:((kT s:Int)==10)=false:=kn (c:=10) rfl z51a;have t11:((kT s:Int)==11)=false:=kn (c:=11) rfl z51a;have t12:((kT s:Int)==12)=true:=ke (c:=12) rfl hk;clear hp hs hk hx hr;go_enter Tryz.func190,Tryz.ntmps190;go_wp2_with fail
 refine(Dt HS.o).mono ?_;rintro e w1 ⟨rfl,h1,A1⟩;have Bz:=A0 (Below.only (b:=b) A1);have B6:Hid (A9 b w w1):=(A9.refl b w).trans Bz.o;have Du:=B6.o.size;have H1:=A0 h1;clear h1 A1;go_wp2_with fail
 refine(Hf H1.o).mono ?_;rintro e w2 ⟨Gd,nn2,S2,rfl,F6,h2,Be⟩;have B4:=A0 Be;have Bm:Hid (A9 b w w2):=B6.o.trans B4.o;have Fe:=Bm.o.size;have Eg:=A0 F6;have H2:=A0 h2;clear h2 Be F6;go_wp2_with fail
 refine(HX.o _ H2.o).mono ?_;rintro e w3 ⟨ty3,x3,rfl,h3,Cv,Cj⟩;have Bn:=A0 Cv;have Cp:Hid (A9 b w w3):=Bm.o.trans Bn.o;have lw3:=Cp.o.size;have C8:=A0 Cj;have H3:=A0 h3;clear h3 Cv Cj;go_wp2;go_ret;rw[HR.o];refine⟨(nd (Bb 27 (B9 s).line) x.1,x.2),Hr (l:=Bb 27 (B9 s).line) (ch:=x.1) (ks:=[.iface ty3 x3]) H3.o Cp.o rfl z5ha rfl rfl (fun hb=>⟨⟨_,?_,rfl⟩,Ao.weak z51a (C8.o hb)⟩),rfl,rfl⟩;rw[(Eg.o Ah.o).1];rfl
theorem z1la {P:Prop} (h:P:=by
  go_wp2_with fail
  refine(Tg _ _ _).mono ?_;rintro e w' ⟨rfl,rfl⟩;rw[tc];go_wp2;go_ret;rw[HR.o];refine⟨(nd (Bb 30 (Jn x.1).line) x.1,x.2),?_,rfl,rfl⟩;exact Hr (l:=Bb 30 (Jn x.1).line) (ch:=x.1) (ks:=[.iface I6 x2]) H2.o Bm.o rfl z5ha rfl rfl (fun hb=>⟨⟨_,rfl,rfl⟩,Ao.weak z51a (Ci.o hb)⟩)):P:=h
theorem Amf(ih:Iq b tb cap te ts n)(w:World)(s:PS)(r:BT A6×PS)(hk:¬(5<=kT s/\kT s<=12/\kT s≠7))(hs:PR b tb cap te ts w s)(hp:Ai (n+1) 9 0 .nil s=some r) :
  Calls Tryz.prog 190 #[.pointer (some ⟨b,0,none⟩)] w (P1 b tb cap te ts w r):=by
 have HS:=A0 hs;have lb:=hs.lt;have Ii:=Lb;obtain⟨x,hx,hc⟩:=Xo hk hp;have HC:=A0 hc;have HX:=A0 (fun(W:World) (h:PR b tb cap te ts W s)=>Kf ih W s x h hx);have t9:((kT s:Int)==9)=false:=kn (c:=9) rfl z51a;have t10:((kT s:Int)==10)=false:=kn (c:=10) rfl z51a;have t11:((kT s:Int)==11)=false:=kn (c:=11) rfl z51a;have t12:((kT s:Int)==12)=false:=kn (c:=12) rfl z51a;clear hp hs hk hx hc Ii;go_enter Tryz.func190,Tryz.ntmps190;go_wp2_with fail
 refine(Dt HS.o).mono ?_;rintro e w1 ⟨rfl,h1,A1⟩;have Bz:=A0 (Below.only (b:=b) A1);have B6:Hid (A9 b w w1):=(A9.refl b w).trans Bz.o;have Du:=B6.o.size;have H1:=A0 h1;clear h1 A1;go_wp2_with fail
 refine(HX.o _ H1.o).mono ?_;rintro e w2 ⟨I6,x2,rfl,h2,Be,B7⟩;have B4:=A0 Be;have Bm:Hid (A9 b w w2):=B6.o.trans B4.o;have Fe:=Bm.o.size;have Ci:=A0 B7;have H2:=A0 h2;clear h2 Be B7;rcases HC.o with⟨c1,c2,v,hv,hr⟩|⟨c1,c2,v,hv,hr⟩|⟨c2,hr⟩
 ·have Bj:x.2.bad=0:=H2.o.Gx z51a;have tc:O9 I6=true:=by rw[(Y5 (Ci.o Bj) (Ci.o Bj)).1];exact c1
  have HCs:=A0 c1;have HB:=A0 Bj;have HR:=A0 hr;have tk:(kT x.2==26)=true:=by simpa using c2
  have HM:Hid (Hw 26 x.2=At x.2):=by show _=_;unfold Hw;rw[if_pos c2]
  have HV:=A0 (fun(W:World) (h:PR b tb cap te ts W (At x.2))=>Kf ih W (At x.2) v h hv);clear c1 c2 hv hr HC Bj;go_wp2_with fail
  refine(Tg _ _ _).mono ?_;rintro e w' ⟨rfl,rfl⟩;rw[tc];go_wp2_with fail
  refine(Mp H2.o 26).mono ?_;rintro e w3 ⟨rfl,h3,Cv⟩;have Bn:=A0 Cv;have Cp:Hid (A9 b w w3):=Bm.o.trans Bn.o;have lw3:=Cp.o.size;rw[tk];rw[HM.o]at h3;have H3:=A0 h3;clear h3 Cv;go_wp2_with fail
  refine(HV.o _ H3.o).mono ?_;rintro e w4 ⟨ty4,x4,rfl,h4,Cq,G0⟩;have Ct:=A0 Cq;have C7:Hid (A9 b w w4):=Cp.o.trans Ct.o;have lw4:=C7.o.size;have Cx:=A0 G0;have H4:=A0 h4;clear h4 Cq G0;go_wp2;go_ret;rw[HR.o];refine⟨(setNode x.1 v.1,v.2),⟨_,_,rfl,PR.alloc H4.o _,C7.o.alloc _,fun hb=>?_⟩,rfl,rfl⟩;have r2:Ao (fun g=>w.heap.size<=g) w4 x.1 [.iface I6 x2]:=Ao.later z51a z51a (Bn.o.trans Ct.o) (Ci.o HB.o);have r4:Ao (fun g=>w.heap.size<=g) w4 v.1 [.iface ty4 x4]:=Ao.weak z51a (Cx.o hb);obtain⟨l,ch,ks,e1,e2,e3,e4,e5,e6⟩:=(Y5 r2 r4).2 HCs.o;have hcl:=Hr (w:=w) (W:=w4) (r:=(setNode x.1 v.1,v.2)) (l:=l) (ch:=ch) (ks:=ks) (cs:=#[.iface I6 x2,.iface ty4 x4]) (t:=268) (tt:=322) H4.o C7.o e1 e2 e3.symm e4.symm (fun _=>⟨e5,e6⟩);obtain⟨t',x',e',_,_,hrr⟩:=hcl;injection e' with e';rw[←e']at hrr;exact hrr hb
 ·have Bj:x.2.bad=0:=H2.o.Gx z51a;have tc:O9 I6=false:=by rw[(Y5 (Ci.o Bj) (Ci.o Bj)).1];exact c1
  have hf:(Eh x.2).bad≠0:=Wk (fun e=>(H2.o.lines e).1);have Fw:v.2=Eh x.2:=Ql (Q9 _ Bj) hf _ _ _ _ _ hv;have hw:Bi 25 v.2=Bi 25 x.2:=by
   rw[Fw,A4q z52a hf (Q9 _ Bj)];unfold Bi;rw[if_neg z51a]
  have HR:Hid (r=(nd (Bb 30 (Jn x.1).line) x.1,Bi 25 x.2)):=by show _=_;rw[hr,hw]
  clear c1 c2 hv hr HC Bj hf Fw hw;exact z1la
 ·have HR:=A0 hr;have tk:(kT x.2==26)=false:=by simpa using c2
  have HM:Hid (Hw 26 x.2=x.2):=by show _=_;unfold Hw;rw[if_neg c2]
  clear c2 hr HC;cases tc:O9 I6
  ·exact z1la
  ·go_wp2_with fail
   refine(Tg _ _ _).mono ?_;rintro e w' ⟨rfl,rfl⟩;rw[tc];go_wp2_with fail
   refine(Mp H2.o 26).mono ?_;rintro e w3 ⟨rfl,h3,Cv⟩;have Bn:=A0 Cv;have Cp:Hid (A9 b w w3):=Bm.o.trans Bn.o;have lw3:=Cp.o.size;rw[tk];rw[HM.o]at h3;have H3:=A0 h3;clear h3 Cv;go_wp2;go_ret;rw[HR.o];refine⟨(nd (Bb 30 (Jn x.1).line) x.1,x.2),?_,rfl,rfl⟩;exact Hr (l:=Bb 30 (Jn x.1).line) (ch:=x.1) (ks:=[.iface I6 x2]) H3.o Cp.o rfl z5ha rfl rfl (fun hb=>⟨⟨_,rfl,rfl⟩,Ao.later z51a z51a Bn.o (Ci.o hb)⟩)
theorem Ahx(ih:Iq b tb cap te ts n)(w:World)(s:PS)(r:BT A6×PS)(h5:kT s≠5)(h6:kT s≠6)(h8:kT s≠8)(hs:PR b tb cap te ts w s)(hp:Ai (n+1) 9 0 .nil s=some r) :
  Calls Tryz.prog 190 #[.pointer (some ⟨b,0,none⟩)] w (P1 b tb cap te ts w r):=by
 by_cases c9:kT s=9
 ·by_cases c25:kT (At s)=25
  ·exact Amd w s r c9 c25 hs hp
  ·exact Ame ih w s r c9 c25 hs hp
 by_cases c10:kT s=10
 ·exact Aju w s r c10 hs hp
 by_cases c11:kT s=11
 ·exact Ajx w s r c11 hs hp
 by_cases c12:kT s=12
 ·exact Am9 ih w s r c12 hs hp
 exact Amf ih w s r z51a hs hp
theorem Ahy(ih:Iq b tb cap te ts n)(w:World)(s:PS)(r:BT A6×PS)(hs:PR b tb cap te ts w s)(hp:Ai (n+1) 9 0 .nil s=some r) :
  Calls Tryz.prog 132 #[.pointer (some ⟨b,0,none⟩)] w (Ho b tb cap te ts w r):=by
 by_cases c8:kT s=8
 ·exact Aib ih w s r c8 hs hp
 have HS:=A0 hs;have lb:=hs.lt;by_cases c5:kT s=5
 ·have HX:=A0 (fun(W:World) (h:PR b tb cap te ts W s)=>Ahf ih W s r c5 h hp);have t5:((kT s:Int)==5)=true:=ke (c:=5) rfl c5;clear hp hs c5 c8;go_enter Tryz.func132,Tryz.ntmps132;exact z04a
 have t5:((kT s:Int)==5)=false:=kn (c:=5) rfl c5;by_cases c6:kT s=6
 ·have HX:Hid (∀W,PR b tb cap te ts W s->Calls Tryz.prog 187 #[.pointer (some ⟨b,0,none⟩)] W (Ho b tb cap te ts W r)):=by
   intro W h;obtain⟨x,bl,h1,h2,⟨h3,c,h4,e⟩|⟨h3,e⟩⟩:=A2p c6 hp
   ·exact Ahd ih W s r c6 x bl h1 h2 h3 c h4 e h
   ·exact Ahc ih W s r c6 x bl h1 h2 h3 e h
  have t6:((kT s:Int)==6)=true:=ke (c:=6) rfl c6;clear hp hs c5 c8 c6;go_enter Tryz.func132,Tryz.ntmps132;exact z04a
 have t6:((kT s:Int)==6)=false:=kn (c:=6) rfl c6;have t8:((kT s:Int)==8)=false:=kn (c:=8) rfl c8;have HX:=A0 (fun(W:World) (h:PR b tb cap te ts W s)=>Ahx ih W s r c5 c6 c8 h hp);clear hp hs c5 c8 c6;go_enter Tryz.func132,Tryz.ntmps132;go_wp2_with fail
 refine(Dt HS.o).mono ?_;rintro e w1 ⟨rfl,h1,A1⟩;have Bz:=A0 (Below.only (b:=b) A1);have B6:Hid (A9 b w w1):=(A9.refl b w).trans Bz.o;have Du:=B6.o.size;have H1:=A0 h1;clear h1 A1;go_wp2_with fail
 refine(HX.o _ H1.o).mono ?_;rintro e w2 ⟨r2,⟨I6,x2,rfl,h2,Be,B7⟩,e21,e22⟩;have B4:=A0 Be;have Bm:Hid (A9 b w w2):=B6.o.trans B4.o;have Fe:=Bm.o.size;have Ci:=A0 B7;have HE1:=A0 e21;have HE2:=A0 e22;have H2:=A0 h2;clear h2 Be B7 e21 e22;go_wp2_with fail
 refine(Ix H2.o 25).mono ?_;rintro e w3 ⟨kk3,ln3,nn3,S3,rfl,htk3,h3,Cv⟩;have Bn:=A0 Cv;have Cp:Hid (A9 b w w3):=Bm.o.trans Bn.o;have lw3:=Cp.o.size;have HTk3:=A0 htk3;have H3:=A0 h3;clear h3 Cv htk3;go_wp2;go_ret;refine⟨_,_,rfl,by rw[HE2.o];exact H3.o,Cp.o,fun hb=>?_⟩;rw[HE2.o]at hb;rw[HE1.o];exact Ao.later z51a z51a Bn.o (Ci.o (Lm hb))
theorem Zs{b tb cap te:Nat}{ts:List Tk}:∀N n,n<=N->n<=500000->Iq b tb cap te ts n:=by
 intro N;induction N with
 | zero=>
  intro n hn _;obtain rfl:n=0:=by omega
  exact⟨fun _ _ _ _ _ _ h=>absurd h (Gg _ _ _ _ _),fun _ _ _ _ h=>absurd h (Gg _ _ _ _ _),fun _ _ _ _ h=>absurd h (Gg _ _ _ _ _),fun _ _ _ _ _ h=>absurd h (Gg _ _ _ _ _),fun _ _ _ _ h=>absurd h (Gg _ _ _ _ _),fun _ _ _ _ h=>absurd h (Gg _ _ _ _ _)⟩
 | succ N ih=>
  intro n hn h5;cases n with
  | zero=>exact ih 0 z51a z51a
  | succ n=>
   have ihn:∀m,m<=n->Iq b tb cap te ts m:=fun m hm=>ih m z51a z51a;exact⟨fun w s a r ha hs hp=>Ah7 ihn w s a r ha hs hp,fun w s r hs hp=>Ai2 ihn w s r hs hp,fun w s r hs hp=>Ah6 (ihn n (Nat.le_refl _)) w s r hs hp,
    fun w s a r hs hp=>Aee ihn z51a w s a r hs hp,fun w s r hs hp=>Ah8 ihn z51a w s r hs hp,fun w s r hs hp=>Ahy (ihn n (Nat.le_refl _)) w s r hs hp⟩
end
end Go.Proofs.YtjdlndhfaaolaaaGreatDoor
