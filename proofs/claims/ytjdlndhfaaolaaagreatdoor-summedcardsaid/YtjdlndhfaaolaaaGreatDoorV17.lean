import Derived.Deep.DrawnRows
import Derived.Deep.RegionHeld3
import Derived.Test.YtjdlndhfaaolaaaGreatDoorV13
set_option maxHeartbeats 20000000
namespace Go.Proofs.YtjdlndhfaaolaaaGreatDoor
section
set_option maxRecDepth 100000
open Go.RowKit
open Go.Deep (BT)
variable {b tb cap te:Nat}{ts:List Tk}{n:Nat}
theorem Afs(ih:Is b tb cap te ts n)(w:World)(s:PS)(r:BT A6×PS)(hk:kT s=16)(hs:PR b tb cap te ts w s)(hp:Ah (n+1) 4 0 .nil s=some r) :
  Calls Tryz.prog 311 #[.pointer (some ⟨b,0,none⟩)] w (Hp b tb cap te ts w r):=by
 obtain⟨x,hx,hr⟩:=A2n hk hp;have HS:=A0 hs;have lb:=hs.lt;have Af:Hid (s.bad=0):=hs.Gx z4va;have HR:=A0 hr;have HX:=A0 (fun(W:World) (h:PR b tb cap te ts W (Be 18 (As s)))=>Kq ih W (Be 18 (As s)) x h hx);have Ga:=Li;clear hp hs hk hx hr;go_enter Tryz.func311,Tryz.ntmps311;go_wp2_with fail
 refine(Hg HS.o).mono ?_;rintro e w1 ⟨Io,nn1,S1,rfl,Fs,h1,Bx⟩;have Bv:=A0 Bx;have B3:Hid (A9 b w w1):=(A9.refl b w).trans Bv.o;have Dt:=B3.o.size;have J9:=A0 Fs;have H1:=A0 h1;clear h1 Bx Fs;go_wp2_with fail
 refine(J0 H1.o 18).mono ?_;rintro e w2 ⟨kk2,Gc,nn2,S2,rfl,F4,h2,Bb⟩;have B2:=A0 Bb;have Bh:Hid (A9 b w w2):=B3.o.trans B2.o;have Fa:=Bh.o.size;have Ef:=A0 F4;have H2:=A0 h2;clear h2 Bb F4;go_wp2_with fail
 refine(HX.o _ H2.o).mono ?_;rintro e w3 ⟨ty3,x3,rfl,h3,Cs,Ce⟩;have Bi:=A0 Cs;have Ck:Hid (A9 b w w3):=Bh.o.trans Bi.o;have lw3:=Ck.o.size;have C3:=A0 Ce;have H3:=A0 h3;clear h3 Cs Ce;go_wp2_with fail
 refine(J0 H3.o 19).mono ?_;rintro e w4 ⟨kk4,ln4,nn4,S4,rfl,htk4,h4,Cl⟩;have Cq:=A0 Cl;have C2:Hid (A9 b w w4):=Ck.o.trans Cq.o;have lw4:=C2.o.size;have HTk4:=A0 htk4;have H4:=A0 h4;clear h4 Cl htk4;go_wp2;go_ret;rw[HR.o];refine Ht (l:=B7 10 (B6 s).line) (ch:=x.1) (ks:=[.iface ty3 x3]) H4.o C2.o rfl z5aa rfl rfl (fun hb=>⟨⟨_,?_,rfl⟩,An.later z4va z4va Cq.o (C3.o (Lv hb))⟩);rw[(J9.o Af.o).1];rfl
theorem Aib(ih:Is b tb cap te ts n)(w:World)(s:PS)(r:BT A6×PS)(hk:kT s=17)(hs:PR b tb cap te ts w s)(hp:Ah (n+1) 4 0 .nil s=some r) :
  Calls Tryz.prog 312 #[.pointer (some ⟨b,0,none⟩)] w (Hp b tb cap te ts w r):=by
 obtain⟨x,y,hx,hy,hr⟩:=A2w hk hp;have HS:=A0 hs;have lb:=hs.lt;have Af:Hid (s.bad=0):=hs.Gx z4va;have HR:=A0 hr;have HYp:=A0 hy;have HX:=A0 (fun(W:World) (h:PR b tb cap te ts W (Be 18 (As s)))=>Kq ih W (Be 18 (As s)) x h hx);have HY:=A0 (fun(W:World) (h:PR b tb cap te ts W (Be 24 x.2))=>Kq ih W (Be 24 x.2) y h hy);have Ga:=Li;clear hp hs hk hx hy hr;go_enter Tryz.func312,Tryz.ntmps312;go_wp2_with fail
 refine(Hg HS.o).mono ?_;rintro e w1 ⟨Io,nn1,S1,rfl,Fs,h1,Bx⟩;have Bv:=A0 Bx;have B3:Hid (A9 b w w1):=(A9.refl b w).trans Bv.o;have Dt:=B3.o.size;have J9:=A0 Fs;have H1:=A0 h1;clear h1 Bx Fs;go_wp2_with fail
 refine(J0 H1.o 18).mono ?_;rintro e w2 ⟨kk2,Gc,nn2,S2,rfl,F4,h2,Bb⟩;have B2:=A0 Bb;have Bh:Hid (A9 b w w2):=B3.o.trans B2.o;have Fa:=Bh.o.size;have Ef:=A0 F4;have H2:=A0 h2;clear h2 Bb F4;go_wp2_with fail
 refine(HX.o _ H2.o).mono ?_;rintro e w3 ⟨ty3,x3,rfl,h3,Cs,Ce⟩;have Bi:=A0 Cs;have Ck:Hid (A9 b w w3):=Bh.o.trans Bi.o;have lw3:=Ck.o.size;have C3:=A0 Ce;have H3:=A0 h3;clear h3 Cs Ce;go_wp2_with fail
 refine(J0 H3.o 24).mono ?_;rintro e w4 ⟨kk4,ln4,nn4,S4,rfl,htk4,h4,Cl⟩;have Cq:=A0 Cl;have C2:Hid (A9 b w w4):=Ck.o.trans Cq.o;have lw4:=C2.o.size;have HTk4:=A0 htk4;have H4:=A0 h4;clear h4 Cl htk4;go_wp2_with fail
 refine(HY.o _ H4.o).mono ?_;rintro e w5 ⟨ty5,x5,rfl,h5,Ea,hr5⟩;have Ey:=A0 Ea;have Cb:Hid (A9 b w w5):=C2.o.trans Ey.o;have lw5:=Cb.o.size;have HR5:=A0 hr5;have H5:=A0 h5;clear h5 Ea hr5;go_wp2_with fail
 refine(J0 H5.o 19).mono ?_;rintro e w6 ⟨kk6,ln6,nn6,S6,rfl,htk6,h6,Je⟩;have HP6:=A0 Je;have Dl:Hid (A9 b w w6):=Cb.o.trans HP6.o;have lw6:=Dl.o.size;have HTk6:=A0 htk6;have H6:=A0 h6;clear h6 Je htk6;go_wp2;go_ret;rw[HR.o];refine Ht (l:=B7 11 (B6 s).line) (ch:=Bu x.1 y.1) (ks:=[.iface ty3 x3,.iface ty5 x5]) H6.o Dl.o rfl z5aa rfl rfl (fun hb=>⟨⟨_,_,?_,rfl⟩,An.app _ _ [_] [_] (An.later z4va z4va ((Cq.o.trans Ey.o).trans HP6.o) (C3.o (Lv (Pz H4.o.Ml HYp.o (Lv hb))))) (An.later z4va z4va HP6.o (HR5.o (Lv hb)))⟩);rw[(J9.o Af.o).1];rfl
theorem Apr(w:World)(s:PS)(r:BT A6×PS)(hk:kT s=1)(Ci:kT (As s)≠18)(hs:PR b tb cap te ts w s)(hp:Ah (n+1) 4 0 .nil s=some r) :
  Calls Tryz.prog 310 #[.pointer (some ⟨b,0,none⟩)] w (Hp b tb cap te ts w r):=by
 have HR:=A0 (A2s hk Ci hp);have HS:=A0 hs;have lb:=hs.lt;have Af:Hid (s.bad=0):=hs.Gx z4va;have tk:(kT (As s)==18)=false:=by simpa using Ci
 have HM:Hid (Hz 18 (As s)=As s):=by show _=_;unfold Hz;rw[if_neg Ci]
 clear hp hs hk Ci;go_enter Tryz.func310,Tryz.ntmps310;go_wp2_with fail
 refine(Hg HS.o).mono ?_;rintro e w1 ⟨Io,nn1,S1,rfl,Fs,h1,Bx⟩;have Bv:=A0 Bx;have B3:Hid (A9 b w w1):=(A9.refl b w).trans Bv.o;have Dt:=B3.o.size;have J9:=A0 Fs;have H1:=A0 h1;clear h1 Bx Fs;have Gq:=A0 (heap_alloc_new w1 (.cells #[.int .i64 (kT s:Nat),.int .i64 Io,.string ⟨S1.toArray⟩,.int .i64 nn1] 198));have lw1b:w1.heap.size<(w1.alloc (.cells #[.int .i64 (kT s:Nat),.int .i64 Io,.string ⟨S1.toArray⟩,.int .i64 nn1] 198)).heap.size:=by simp
 go_wp2_with fail
 refine(Mw (PR.alloc H1.o _) 18).mono ?_;rintro e w2 ⟨rfl,h2,Bb⟩;have B2:=A0 Bb;have Bh:Hid (A9 b w w2):=(B3.o.alloc _).trans B2.o;have Fa:=Bh.o.size;rw[tk];rw[HM.o]at h2;have H2:=A0 h2;clear h2 Bb;have Jd:=B2.o.blk Gq.o z4va;obtain⟨y0,y1,y2,y3,fy,ly⟩:=E5 Jd;clear Jd;go_wp2;go_ret;rw[HR.o];refine Ht (l:=⟨6,(B6 s).line,(B6 s).s,0,[]⟩) (ch:=.nil) (ks:=[]) H2.o Bh.o rfl z50a rfl rfl (fun _=>⟨⟨?_,rfl⟩,rfl⟩);rw[(J9.o Af.o).1,(J9.o Af.o).2.1];rfl
theorem A9w(ih:Is b tb cap te ts n)(w:World)(s:PS)(r:BT A6×PS)(hk:kT s=1)(Ci:kT (As s)=18)(hs:PR b tb cap te ts w s)(hp:Ah (n+1) 4 0 .nil s=some r) :
  Calls Tryz.prog 310 #[.pointer (some ⟨b,0,none⟩)] w (Hp b tb cap te ts w r):=by
 obtain⟨x,hx,hr⟩:=A2f hk Ci hp;have HR:=A0 hr;have HS:=A0 hs;have lb:=hs.lt;have Af:Hid (s.bad=0):=hs.Gx z4va;have tk:(kT (As s)==18)=true:=by simpa using Ci
 have HM:Hid (Hz 18 (As s)=As (As s)):=by show _=_;unfold Hz;rw[if_pos Ci]
 have HX:=A0 (fun(W:World) (h:PR b tb cap te ts W (As (As s)))=>ih.list W (As (As s)) 19 x h hx);clear hp hs hk Ci hx hr;go_enter Tryz.func310,Tryz.ntmps310;go_wp2_with fail
 refine(Hg HS.o).mono ?_;rintro e w1 ⟨Io,nn1,S1,rfl,Fs,h1,Bx⟩;have Bv:=A0 Bx;have B3:Hid (A9 b w w1):=(A9.refl b w).trans Bv.o;have Dt:=B3.o.size;have J9:=A0 Fs;have H1:=A0 h1;clear h1 Bx Fs;have Gq:=A0 (heap_alloc_new w1 (.cells #[.int .i64 (kT s:Nat),.int .i64 Io,.string ⟨S1.toArray⟩,.int .i64 nn1] 198));have lw1b:w1.heap.size<(w1.alloc (.cells #[.int .i64 (kT s:Nat),.int .i64 Io,.string ⟨S1.toArray⟩,.int .i64 nn1] 198)).heap.size:=by simp
 go_wp2_with fail
 refine(Mw (PR.alloc H1.o _) 18).mono ?_;rintro e w2 ⟨rfl,h2,Bb⟩;have B2:=A0 Bb;have Bh:Hid (A9 b w w2):=(B3.o.alloc _).trans B2.o;have Fa:=Bh.o.size;rw[tk];rw[HM.o]at h2;have H2:=A0 h2;clear h2 Bb;have HT2:=A0 (B2.o.blk Gq.o z4va);obtain⟨y0,y1,y2,y3,fy,ly⟩:=E5 HT2.o;have HXd:=A0 (HX.o _ H2.o.drew);have hne:w1.heap.size≠b:=by omega
 generalize hgw:w1.heap.size=tk1 at *;have HGw:=A0 hgw;clear hgw;go_wp2;go_region_with (go_at_call 309;refine HXd.o.mono ?_;rintro e w3 ⟨va3,vn3,vc3,cs3,rfl,hown3,h3,Cs,Ce⟩;have Iw:=Cs.blk (show w2.drew.heap[tk1]?=_ from HT2.o) hne;obtain⟨z0,z1,z2,z3,fz,lz⟩:=E5 Iw;clear Iw)
 all_goals go_wp2
 all_goals go_ret
 all_goals rw[HR.o]
 all_goals refine Ht (l:=⟨7,(B6 s).line,(B6 s).s,0,[]⟩) (ch:=x.1) (ks:=cs3) h3 (Bh.o.drew.trans Cs) rfl z50a rfl rfl (fun hb=>⟨⟨_,?_,hown3.keep (fun k hk _=>⟨rfl,by have h:w2.heap.size<=k:=hk;omega⟩)⟩,An.weak (by show _<=w2.heap.size;omega) (Ce hb)⟩)
 all_goals rw[(J9.o Af.o).1,(J9.o Af.o).2.1];rfl
theorem z05a {P:Prop} (h:P:=by
  go_wp2_with fail
  refine(Ds HS.o).mono ?_;rintro e w1 ⟨rfl,h1,A1⟩;have Bv:=A0 (Below.only (b:=b) A1);have B3:Hid (A9 b w w1):=(A9.refl b w).trans Bv.o;have Dt:=B3.o.size;have H1:=A0 h1;clear h1 A1;go_wp2_with fail
  refine(HX.o _ H1.o).mono ?_;rintro e w2 ⟨Ia,x2,rfl,h2,Bb,B5⟩;have B2:=A0 Bb;have Bh:Hid (A9 b w w2):=B3.o.trans B2.o;have Fa:=Bh.o.size;have Cd:=A0 B5;have H2:=A0 h2;clear h2 Bb B5;go_wp2;go_ret;exact⟨_,_,rfl,H2.o,Bh.o,fun hb=>An.weak z4va (Cd.o hb)⟩):P:=h
theorem z3ga {P:Prop} (h:P:=by
  go_enter Tryz.func296,Tryz.ntmps296;exact z05a):P:=h
theorem Ahd(ih:Is b tb cap te ts n)(w:World)(s:PS)(r:BT A6×PS)(hs:PR b tb cap te ts w s)(hp:Ah (n+1) 4 0 .nil s=some r) :
  Calls Tryz.prog 296 #[.pointer (some ⟨b,0,none⟩)] w (Hp b tb cap te ts w r):=by
 have HS:=A0 hs;have lb:=hs.lt;have Ga:=Li;by_cases c18:kT s=18
 ·have t18:((kT s:Int)==18)=true:=ke (c:=18) rfl c18;obtain⟨x,hx,hr⟩:=A2i c18 hp;have HR:=A0 hr;have Af:Hid (s.bad=0):=hs.Gx z4va;have HX:=A0 (fun(W:World) (h:PR b tb cap te ts W (As s))=>Kq ih W (As s) x h hx);clear hp hs hx hr c18;go_enter Tryz.func296,Tryz.ntmps296;go_wp2_with fail
  refine(Ds HS.o).mono ?_;rintro e w1 ⟨rfl,h1,A1⟩;have Bv:=A0 (Below.only (b:=b) A1);have B3:Hid (A9 b w w1):=(A9.refl b w).trans Bv.o;have Dt:=B3.o.size;have H1:=A0 h1;clear h1 A1;go_wp2_with fail
  refine(Hg H1.o).mono ?_;rintro e w2 ⟨Gc,nn2,S2,rfl,F4,h2,Bb⟩;have B2:=A0 Bb;have Bh:Hid (A9 b w w2):=B3.o.trans B2.o;have Fa:=Bh.o.size;have Ef:=A0 F4;have H2:=A0 h2;clear h2 Bb F4;go_wp2_with fail
  refine(HX.o _ H2.o).mono ?_;rintro e w3 ⟨ty3,x3,rfl,h3,Cs,Ce⟩;have Bi:=A0 Cs;have Ck:Hid (A9 b w w3):=Bh.o.trans Bi.o;have lw3:=Ck.o.size;have C3:=A0 Ce;have H3:=A0 h3;clear h3 Cs Ce;go_wp2_with fail
  refine(J0 H3.o 19).mono ?_;rintro e w4 ⟨kk4,ln4,nn4,S4,rfl,htk4,h4,Cl⟩;have Cq:=A0 Cl;have C2:Hid (A9 b w w4):=Ck.o.trans Cq.o;have lw4:=C2.o.size;have HTk4:=A0 htk4;have H4:=A0 h4;clear h4 Cl htk4;go_wp2;go_ret;rw[HR.o];exact Ht (l:=B7 8 (B6 s).line) (ch:=x.1) (ks:=[.iface ty3 x3]) H4.o C2.o rfl z5aa rfl rfl (fun hb=>⟨⟨_,rfl,rfl⟩,An.later z4va z4va Cq.o (C3.o (Lv hb))⟩)
 by_cases c22:kT s=22
 ·have t18:((kT s:Int)==18)=false:=kn (c:=18) rfl c18;have t22:((kT s:Int)==22)=true:=ke (c:=22) rfl c22;obtain⟨x,hx,hr⟩:=A2c c22 hp;have HR:=A0 hr;have Af:Hid (s.bad=0):=hs.Gx z4va;have HX:=A0 (fun(W:World) (h:PR b tb cap te ts W (As s))=>ih.list W (As s) 23 x h hx);clear hp hs hx hr c18 c22;go_enter Tryz.func296,Tryz.ntmps296;go_wp2_with fail
  refine(Ds HS.o).mono ?_;rintro e w1 ⟨rfl,h1,A1⟩;have Bv:=A0 (Below.only (b:=b) A1);have B3:Hid (A9 b w w1):=(A9.refl b w).trans Bv.o;have Dt:=B3.o.size;have H1:=A0 h1;clear h1 A1;go_wp2_with fail
  refine(Hg H1.o).mono ?_;rintro e w2 ⟨Gc,nn2,S2,rfl,F4,h2,Bb⟩;have B2:=A0 Bb;have Bh:Hid (A9 b w w2):=B3.o.trans B2.o;have Fa:=Bh.o.size;have Ef:=A0 F4;have H2:=A0 h2;clear h2 Bb F4;go_wp2_with fail
  refine(HX.o _ H2.o).mono ?_;rintro e w3 ⟨va3,vn3,vc3,cs3,rfl,hown3,h3,Cs,Ce⟩;have Bi:=A0 Cs;have Ck:Hid (A9 b w w3):=Bh.o.trans Bi.o;have lw3:=Ck.o.size;have C3:=A0 Ce;have HOwn3:=A0 hown3;have H3:=A0 h3;clear h3 Cs Ce hown3;go_wp2;go_ret;rw[HR.o];refine Ht (l:=B7 9 (B6 s).line) (ch:=x.1) (ks:=cs3) H3.o Ck.o rfl z5aa rfl rfl (fun hb=>⟨⟨_,?_,HOwn3.o.keep (fun k hk _=>⟨rfl,by have h:w2.heap.size<=k:=hk;omega⟩)⟩,An.weak z4va (C3.o hb)⟩);rw[(Ef.o Af.o).1];rfl
 by_cases c1:kT s=1
 ·have t18:((kT s:Int)==18)=false:=kn (c:=18) rfl c18;have t22:((kT s:Int)==22)=false:=kn (c:=22) rfl c22;have t1:((kT s:Int)==1)=true:=ke (c:=1) rfl c1;have HX:Hid (∀W,PR b tb cap te ts W s->Calls Tryz.prog 310 #[.pointer (some ⟨b,0,none⟩)] W (Hp b tb cap te ts W r)):=by
   intro W h;by_cases c2:kT (As s)=18
   ·exact A9w ih W s r c1 c2 h hp
   ·exact Apr W s r c1 c2 h hp
  clear hp hs c18 c22 c1;exact z3ga
 by_cases c16:kT s=16
 ·have t18:((kT s:Int)==18)=false:=kn (c:=18) rfl c18;have t22:((kT s:Int)==22)=false:=kn (c:=22) rfl c22;have t1:((kT s:Int)==1)=false:=kn (c:=1) rfl c1;have t16:((kT s:Int)==16)=true:=ke (c:=16) rfl c16;have HX:=A0 (fun(W:World) (h:PR b tb cap te ts W s)=>Afs ih W s r c16 h hp);clear hp hs c18 c22 c1 c16;exact z3ga
 by_cases c17:kT s=17
 ·have t18:((kT s:Int)==18)=false:=kn (c:=18) rfl c18;have t22:((kT s:Int)==22)=false:=kn (c:=22) rfl c22;have t1:((kT s:Int)==1)=false:=kn (c:=1) rfl c1;have t16:((kT s:Int)==16)=false:=kn (c:=16) rfl c16;have t17:((kT s:Int)==17)=true:=ke (c:=17) rfl c17;have HX:=A0 (fun(W:World) (h:PR b tb cap te ts W s)=>Aib ih W s r c17 h hp);clear hp hs c18 c22 c1 c16 c17;exact z3ga
 have t18:((kT s:Int)==18)=false:=kn (c:=18) rfl c18;have t22:((kT s:Int)==22)=false:=kn (c:=22) rfl c22;have t1:((kT s:Int)==1)=false:=kn (c:=1) rfl c1;have t16:((kT s:Int)==16)=false:=kn (c:=16) rfl c16;have t17:((kT s:Int)==17)=false:=kn (c:=17) rfl c17;have HX:=A0 (fun(W:World) (h:PR b tb cap te ts W s)=>Ag3 W s r c1 c18 c22 c16 c17 h hp);clear hp hs c18 c22 c1 c16 c17 Ga;exact z3ga
end
section
set_option maxRecDepth 100000
open Go.RowKit
open Go.Deep (BT)
def A5j(b tb cap te:Nat)(ts:List Tk)(n:Nat)(r:BT A6×PS)(w:World)(k:Nat)(v:Value)(wr:World):Prop:=
 ∃(acc:BT A6) (st:PS) (ty:TypeId) (x:Value),v=.iface ty x/\k<=n/\Ah k 3 0 acc st=some r/\PR b tb cap te ts wr st/\A9 b w wr/\(st.bad=0->An (fun g=>w.heap.size<=g) wr acc [.iface ty x])
theorem z3pa {P:Prop} (h:P:=by
  go_wp2;go_ret;rw[HE.o];exact⟨_,_,rfl,H4.o,HOr.o.trans C2.o,fun hb=>An.only z4va C2.o (HRep.o hb)⟩):P:=h
theorem Ahc{b tb cap te:Nat}{ts:List Tk}{n:Nat}(ih:∀m,m<=n->Is b tb cap te ts m)(w:World)(s:PS)(r:BT A6×PS)(x:BT A6×PS)(hs:PR b tb cap te ts w s)(hx:Ah n 4 0 .nil s=some x)(hp:Ah n 3 0 x.1 x.2=some r) :
  Calls Tryz.prog 285 #[.pointer (some ⟨b,0,none⟩)] w (Hp b tb cap te ts w r):=by
 have HS:=A0 hs;have lb:=hs.lt;have HP0:=A0 hp;have HX:=A0 (fun(W:World) (h:PR b tb cap te ts W s)=>(ih n (Nat.le_refl _)).atom W s x h hx);have Ga:=Li;clear hp hs hx;go_enter Tryz.func285,Tryz.ntmps285;go_wp2_with fail
 refine(HX.o _ HS.o).mono ?_;rintro e w1 ⟨ty1,x1,rfl,h1,Bx,At⟩;have Bv:=A0 Bx;have B3:Hid (A9 b w w1):=(A9.refl b w).trans Bv.o;have Dt:=B3.o.size;have F6:=A0 At;have H1:=A0 h1;clear h1 Bx At;go_wp2;go_loopg [3] n (fun k v wr=>A5j b tb cap te ts n r w k v wr)
 case atStart=>exact⟨x.1,x.2,ty1,x1,rfl,Nat.le_refl _,HP0.o,H1.o,B3.o,F6.o⟩
 case round=>
  clear HP0 H1 B3 F6 Bv HX HS Dt;obtain⟨acc,st,ty,x0,rfl,hkn,hpk,hrs,hO,hrep⟩:=hrel;cases gk with
  | zero=>exact absurd hpk (Gf _ _ _ _ _)
  | succ m=>
  have HRS:=A0 hrs;have HOr:=A0 hO;have HRep:=A0 hrep;have lwr:=hO.size;by_cases c22:kT st=22
  ·obtain⟨z,By,C5⟩:=A2j c22 hpk;have HZ2:=A0 C5;have HZ1:=A0 By;have HX:=A0 (fun(W:World) (h:PR b tb cap te ts W (As st))=>Kq (ih m z4va) W (As st) z h By);have tk:((kT st:Int)==22)=true:=ke (c:=22) rfl c22;have Af:Hid (st.bad=0):=hrs.Gx z4va;clear By C5 c22 hpk hrs hO hrep;go_wp2_with fail
   refine(Ds HRS.o).mono ?_;rintro e w4 ⟨rfl,h4,B8⟩;have Cq:=A0 (Below.only (b:=b) B8);have C2:Hid (A9 b wr w4):=(A9.refl b wr).trans Cq.o;have lw4:=C2.o.size;have H4:=A0 h4;clear h4 B8;go_wp2_with fail
   refine(Hg H4.o).mono ?_;rintro e w5 ⟨ln5,nn5,S5,rfl,htk5,h5,Ea⟩;have Ey:=A0 Ea;have Cb:Hid (A9 b wr w5):=C2.o.trans Ey.o;have lw5:=Cb.o.size;have HTk5:=A0 htk5;have H5:=A0 h5;clear h5 Ea htk5;go_wp2_with fail
   refine(HX.o _ H5.o).mono ?_;rintro e w6 ⟨ty6,x6,rfl,h6,Je,hr6⟩;have HP6:=A0 Je;have Dl:Hid (A9 b wr w6):=Cb.o.trans HP6.o;have lw6:=Dl.o.size;have HR6:=A0 hr6;have H6:=A0 h6;clear h6 Je hr6;have HCl:Hid (Hp b tb cap te ts w (nd (B7 12 (B6 st).line) (Bu acc z.1),z.2) (.returned (.iface 310 (.pointer (some ⟨w6.heap.size,0,none⟩)))) (w6.alloc (.cells #[.int .i64 ln5,.iface ty x0,.iface ty6 x6] 312))):=by
    refine Ht (l:=B7 12 (B6 st).line) (ch:=Bu acc z.1) (ks:=[.iface ty x0,.iface ty6 x6]) H6.o (HOr.o.trans Dl.o) rfl z5aa rfl rfl (fun hb=>⟨⟨_,_,by rw[(HTk5.o Af.o).1];rfl,rfl⟩,?_⟩);exact An.app _ _ [_] [_] (An.only z4va Dl.o (HRep.o Af.o)) (An.weak z4va (HR6.o hb))
   have HClP:=A0 (PR.alloc H6.o (.cells #[.int .i64 ln5,.iface ty x0,.iface ty6 x6] 312));go_wp2_with fail
   refine(J0 HClP.o 23).mono ?_;rintro e w7 ⟨kk7,ln7,nn7,S7,rfl,htk7,h7,ho7⟩;have HP7:=A0 ho7;have HO7:Hid (A9 b wr w7):=(Dl.o.alloc _).trans HP7.o;have lw7:=HO7.o.size;have HTk7:=A0 htk7;have H7:=A0 h7;clear h7 ho7 htk7;go_wp2;go_roundg m
   case measure=>omega
   case rel=>
    refine⟨_,_,_,_,rfl,by omega,HZ2.o,H7.o,HOr.o.trans HO7.o,fun hb=>?_⟩;obtain⟨t',x',e',_,_,hrr⟩:=HCl.o;injection e' with e';rw[←e']at hrr;exact An.only z4va HP7.o (hrr (Lv hb))
  ·have HE:=A0 (A2k c22 hpk);have tk:((kT st:Int)==22)=false:=kn (c:=22) rfl c22;clear c22 hpk hrs hO hrep;go_wp2_with fail
   refine(Ds HRS.o).mono ?_;rintro e w4 ⟨rfl,h4,B8⟩;have Cq:=A0 (Below.only (b:=b) B8);have C2:Hid (A9 b wr w4):=(A9.refl b wr).trans Cq.o;have lw4:=C2.o.size;have H4:=A0 h4;clear h4 B8;exact z3pa
theorem Ai7{b tb cap te:Nat}{ts:List Tk}{n:Nat}(ih:∀m,m<=n->Is b tb cap te ts m)(w:World)(s:PS)(r:BT A6×PS)(hs:PR b tb cap te ts w s)(hp:Ah (n+1) 2 0 .nil s=some r) :
  Calls Tryz.prog 261 #[.pointer (some ⟨b,0,none⟩)] w (Hp b tb cap te ts w r):=by
 have HS:=A0 hs;have lb:=hs.lt;by_cases c28:kT s=28
 ·obtain⟨x,hx,hr⟩:=A2u c28 hp;have HR:=A0 hr;have Af:Hid (s.bad=0):=hs.Gx z4va;have HX:=A0 (fun(W:World) (h:PR b tb cap te ts W (As s))=>(ih n (Nat.le_refl _)).unary W (As s) x h hx);have t28:((kT s:Int)==28)=true:=ke (c:=28) rfl c28;have HK:=A0 c28;clear hp hs hx hr c28;go_enter Tryz.func261,Tryz.ntmps261;go_wp2_with fail
  refine(Ds HS.o).mono ?_;rintro e w1 ⟨rfl,h1,A1⟩;have Bv:=A0 (Below.only (b:=b) A1);have B3:Hid (A9 b w w1):=(A9.refl b w).trans Bv.o;have Dt:=B3.o.size;have H1:=A0 h1;clear h1 A1;go_wp2_with fail
  refine(Hg H1.o).mono ?_;rintro e w2 ⟨Gc,nn2,S2,rfl,F4,h2,Bb⟩;have B2:=A0 Bb;have Bh:Hid (A9 b w w2):=B3.o.trans B2.o;have Fa:=Bh.o.size;have Ef:=A0 F4;have H2:=A0 h2;clear h2 Bb F4;have Gq:=A0 (heap_alloc_new w2 (.cells #[.int .i64 (kT s:Nat),.int .i64 Gc,.string ⟨S2.toArray⟩,.int .i64 nn2] 198));have HTP:=A0 (PR.drew (PR.alloc H2.o (.cells #[.int .i64 (kT s:Nat),.int .i64 Gc,.string ⟨S2.toArray⟩,.int .i64 nn2] 198)));have HTO:=A0 ((Bh.o.alloc (.cells #[.int .i64 (kT s:Nat),.int .i64 Gc,.string ⟨S2.toArray⟩,.int .i64 nn2] 198)).drew);have hne:w2.heap.size≠b:=by omega
  go_wp2;generalize hW:w2.alloc (.cells #[.int .i64 (kT s:Nat),.int .i64 Gc,.string ⟨S2.toArray⟩,.int .i64 nn2] 198)=W2 at *;have HW:=A0 hW;clear hW;generalize hgw:w2.heap.size=tk1 at *;have HGw:=A0 hgw;clear hgw;obtain⟨y0,y1,y2,y3,fy,ly⟩:=E5 Gq.o;have lW2:w.heap.size<=W2.heap.size:=HTO.o.size;have HXd:=A0 (HX.o _ HTP.o);go_region_with (go_at_call 261;refine HXd.o.mono ?_;rintro e w9 ⟨ty9,x9,rfl,h9,ho9,hr9⟩;have Iw:=ho9.blk (show W2.drew.heap[tk1]?=_ from Gq.o) hne;obtain⟨z0,z1,z2,z3,fz,lz⟩:=E5 Iw;clear Iw)
  all_goals go_wp2
  all_goals go_ret
  all_goals rw[HR.o]
  all_goals refine Ht (l:=B7 13 (B6 s).line) (ch:=x.1) (ks:=[.iface ty9 x9]) h9 (HTO.o.trans ho9) rfl z5aa rfl rfl (fun hb=>⟨⟨_,?_,rfl⟩,An.weak (by show _<=W2.heap.size;omega) (hr9 hb)⟩)
  all_goals rw[(Ef.o Af.o).1,HK.o];rfl
 by_cases c35:kT s=35
 ·obtain⟨x,hx,hr⟩:=A2t c35 hp;have HR:=A0 hr;have Af:Hid (s.bad=0):=hs.Gx z4va;have HX:=A0 (fun(W:World) (h:PR b tb cap te ts W (As s))=>(ih n (Nat.le_refl _)).unary W (As s) x h hx);have t28:((kT s:Int)==28)=false:=kn (c:=28) rfl c28;have t35:((kT s:Int)==35)=true:=ke (c:=35) rfl c35;have HK:=A0 c35;clear hp hs hx hr c35 c28;go_enter Tryz.func261,Tryz.ntmps261;go_wp2_with fail
  refine(Ds HS.o).mono ?_;rintro e w1 ⟨rfl,h1,A1⟩;have Bv:=A0 (Below.only (b:=b) A1);have B3:Hid (A9 b w w1):=(A9.refl b w).trans Bv.o;have Dt:=B3.o.size;have H1:=A0 h1;clear h1 A1;go_wp2_with fail
  refine(Ds H1.o).mono ?_;rintro e w2 ⟨rfl,h2,A8⟩;have B2:=A0 (Below.only (b:=b) A8);have Bh:Hid (A9 b w w2):=B3.o.trans B2.o;have Fa:=Bh.o.size;have H2:=A0 h2;clear h2 A8;go_wp2_with fail
  refine(Hg H2.o).mono ?_;rintro e w3 ⟨ln3,nn3,S3,rfl,htk3,h3,Cs⟩;have Bi:=A0 Cs;have Ck:Hid (A9 b w w3):=Bh.o.trans Bi.o;have lw3:=Ck.o.size;have HTk3:=A0 htk3;have H3:=A0 h3;clear h3 Cs htk3;have Gq:=A0 (heap_alloc_new w3 (.cells #[.int .i64 (kT s:Nat),.int .i64 ln3,.string ⟨S3.toArray⟩,.int .i64 nn3] 198));have HTP:=A0 (PR.drew (PR.alloc H3.o (.cells #[.int .i64 (kT s:Nat),.int .i64 ln3,.string ⟨S3.toArray⟩,.int .i64 nn3] 198)));have HTO:=A0 ((Ck.o.alloc (.cells #[.int .i64 (kT s:Nat),.int .i64 ln3,.string ⟨S3.toArray⟩,.int .i64 nn3] 198)).drew);have hne:w3.heap.size≠b:=by omega
  go_wp2;generalize hW:w3.alloc (.cells #[.int .i64 (kT s:Nat),.int .i64 ln3,.string ⟨S3.toArray⟩,.int .i64 nn3] 198)=W2 at *;have HW:=A0 hW;clear hW;generalize hgw:w3.heap.size=tk1 at *;have HGw:=A0 hgw;clear hgw;obtain⟨y0,y1,y2,y3,fy,ly⟩:=E5 Gq.o;have lW2:w.heap.size<=W2.heap.size:=HTO.o.size;have HXd:=A0 (HX.o _ HTP.o);go_region_with (go_at_call 261;refine HXd.o.mono ?_;rintro e w9 ⟨ty9,x9,rfl,h9,ho9,hr9⟩;have Iw:=ho9.blk (show W2.drew.heap[tk1]?=_ from Gq.o) hne;obtain⟨z0,z1,z2,z3,fz,lz⟩:=E5 Iw;clear Iw)
  all_goals go_wp2
  all_goals go_ret
  all_goals rw[HR.o]
  all_goals refine Ht (l:=B7 14 (B6 s).line) (ch:=x.1) (ks:=[.iface ty9 x9]) h9 (HTO.o.trans ho9) rfl z5aa rfl rfl (fun hb=>⟨⟨_,?_,rfl⟩,An.weak (by show _<=W2.heap.size;omega) (hr9 hb)⟩)
  all_goals rw[(HTk3.o Af.o).1,HK.o];rfl
 obtain⟨x,hx,hr⟩:=Xz c28 c35 hp;have HX:=A0 (fun(W:World) (h:PR b tb cap te ts W s)=>Ahc ih W s r x h hx hr);have t28:((kT s:Int)==28)=false:=kn (c:=28) rfl c28;have t35:((kT s:Int)==35)=false:=kn (c:=35) rfl c35;clear hp hs hx hr c28 c35;go_enter Tryz.func261,Tryz.ntmps261;go_wp2_with fail
 refine(Ds HS.o).mono ?_;rintro e w1 ⟨rfl,h1,A1⟩;have Bv:=A0 (Below.only (b:=b) A1);have B3:Hid (A9 b w w1):=(A9.refl b w).trans Bv.o;have Dt:=B3.o.size;have H1:=A0 h1;clear h1 A1;go_wp2_with fail
 refine(Ds H1.o).mono ?_;rintro e w2 ⟨rfl,h2,A8⟩;have B2:=A0 (Below.only (b:=b) A8);have Bh:Hid (A9 b w w2):=B3.o.trans B2.o;have Fa:=Bh.o.size;have H2:=A0 h2;clear h2 A8;go_wp2_with fail
 refine(HX.o _ H2.o).mono ?_;rintro e w3 ⟨ty3,x3,rfl,h3,Cs,Ce⟩;have Bi:=A0 Cs;have Ck:Hid (A9 b w w3):=Bh.o.trans Bi.o;have lw3:=Ck.o.size;have C3:=A0 Ce;have H3:=A0 h3;clear h3 Cs Ce;go_wp2;go_ret;exact⟨_,_,rfl,H3.o,Ck.o,fun hb=>An.weak z4va (C3.o hb)⟩
theorem Y7{k a:Nat}(h:rowOf k=a+1):k=27\/k=29\/k=30\/k=31\/k=32\/k=33\/k=34\/k=35\/k=36\/k=37\/k=38\/k=39\/k=40:=by
 unfold rowOf at h;split at h
 ·omega
 split at h
 ·omega
 split at h
 ·omega
 split at h
 ·omega
 split at h
 ·omega
 split at h
 ·omega
 ·omega
theorem Ajm{k:Nat}:rowOf k<=6:=by
 unfold rowOf;split
 ·omega
 split
 ·omega
 split
 ·omega
 split
 ·omega
 split
 ·omega
 split
 ·omega
 ·omega
theorem W6{k a:Nat}(h:rowOf k=a+1):¬(100+k=31\/100+k=32)/\248=Cg (100+k)/\295=Dk (100+k):=by
 rcases Y7 h with rfl|rfl|rfl|rfl|rfl|rfl|rfl|rfl|rfl|rfl|rfl|rfl|rfl <;> exact⟨by decide,rfl,rfl⟩
theorem A94{k a:Nat}(h:rowOf k=a+1)(D:Nat->Prop)(w:World)(line:Nat)(x y:Value):Cv D w (B7 (100+k) line) #[Gd line,.int .i64 (k:Nat),x,y] [x,y]:=by
 rcases Y7 h with rfl|rfl|rfl|rfl|rfl|rfl|rfl|rfl|rfl|rfl|rfl|rfl|rfl <;> exact⟨x,y,rfl,rfl⟩
def A5a(b tb cap te:Nat)(ts:List Tk)(a n:Nat)(r:BT A6×PS)(w:World)(k:Nat)(v:Value)(wr:World):Prop:=
 ∃(acc:BT A6) (st:PS) (ty:TypeId) (x:Value),v=.iface ty x/\k<=n/\Ah k 1 a acc st=some r/\PR b tb cap te ts wr st/\A9 b w wr/\(st.bad=0->An (fun g=>w.heap.size<=g) wr acc [.iface ty x])
theorem Ahe{b tb cap te:Nat}{ts:List Tk}{n:Nat}(ih:∀m,m<=n->Is b tb cap te ts m)(w:World)(s:PS)(a:Nat)(r:BT A6×PS)(ha:a<=6)(hs:PR b tb cap te ts w s)(hp:Ah (n+1) 0 a .nil s=some r) :
  Calls Tryz.prog 232 #[.pointer (some ⟨b,0,none⟩),.int .i64 ((a+1:Nat):Nat)] w (Hp b tb cap te ts w r):=by
 have HS:=A0 hs;have lb:=hs.lt;by_cases c6:a=6
 ·subst c6;have HX:=A0 (fun(W:World) (h:PR b tb cap te ts W s)=>(ih n (Nat.le_refl _)).unary W s r h (Xw hp));clear hp hs ha;go_enter Tryz.func232,Tryz.ntmps232;go_wp2_with fail
  refine(HX.o _ HS.o).mono ?_;rintro e w1 ⟨ty1,x1,rfl,h1,Bx,At⟩;have Bv:=A0 Bx;have B3:Hid (A9 b w w1):=(A9.refl b w).trans Bv.o;have Dt:=B3.o.size;have F6:=A0 At;have H1:=A0 h1;clear h1 Bx At;go_wp2;go_ret;exact⟨_,_,rfl,H1.o,B3.o,fun hb=>An.weak z4va (F6.o hb)⟩
 ·obtain⟨x,hx,hpr⟩:=Xv c6 hp;have HX:=A0 (fun(W:World) (h:PR b tb cap te ts W s)=>(ih n (Nat.le_refl _)).expr W s (a+1) x z4va h hx);have HP0:=A0 hpr;have t6:decide (6<((a+1:Nat):Int))=false:=decide_eq_false z4va;clear hp hs hx hpr;go_enter Tryz.func232,Tryz.ntmps232;go_wp2_with fail
  refine(HX.o _ HS.o).mono ?_;rintro e w1 ⟨ty1,x1,rfl,h1,Bx,At⟩;have Bv:=A0 Bx;have B3:Hid (A9 b w w1):=(A9.refl b w).trans Bv.o;have Dt:=B3.o.size;have F6:=A0 At;have H1:=A0 h1;clear h1 Bx At;go_wp2;go_loopg [5] n (fun k v wr=>A5a b tb cap te ts a n r w k v wr)
  case atStart=>exact⟨x.1,x.2,ty1,x1,rfl,Nat.le_refl _,HP0.o,H1.o,B3.o,F6.o⟩
  case round=>
   clear HP0 H1 B3 F6 Bv HX HS Dt;obtain⟨acc,st,ty,x0,rfl,hkn,hpk,hrs,hO,hrep⟩:=hrel;cases gk with
   | zero=>exact absurd hpk (Gf _ _ _ _ _)
   | succ m=>
   have HRS:=A0 hrs;have HOr:=A0 hO;have HRep:=A0 hrep;have lwr:=hO.size;have hk40:=hrs.Sh;have hrl:=Ajm (k:=kT st);by_cases cr:rowOf (kT st)=a+1
   ·obtain⟨z,By,C5⟩:=A2q cr hpk;have HZ2:=A0 C5;have HX:=A0 (fun(W:World) (h:PR b tb cap te ts W (As st))=>(ih m z4va).expr W (As st) (a+1) z z4va h By);have tk:((rowOf (kT st):Int)==((a+1:Nat):Int))=true:=by rw[cr];simp
    have Af:Hid (st.bad=0):=hrs.Gx (by have:=Y7 cr;omega);have HCr:=A0 cr;clear By C5 cr hpk hrs hO hrep;go_wp2_with fail
    refine(Ds HRS.o).mono ?_;rintro e w4 ⟨rfl,h4,B8⟩;have Cq:=A0 (Below.only (b:=b) B8);have C2:Hid (A9 b wr w4):=(A9.refl b wr).trans Cq.o;have lw4:=C2.o.size;have H4:=A0 h4;clear h4 B8;go_wp2_with fail
    refine(A3i _ hk40 _).mono ?_;rintro e w' ⟨rfl,rfl⟩;go_wp2_with fail
    refine(Hg H4.o).mono ?_;rintro e w5 ⟨ln5,nn5,S5,rfl,htk5,h5,Ea⟩;have Ey:=A0 Ea;have Cb:Hid (A9 b wr w5):=C2.o.trans Ey.o;have lw5:=Cb.o.size;have HTk5:=A0 htk5;have H5:=A0 h5;clear h5 Ea htk5;have Gq:=A0 (heap_alloc_new w5 (.cells #[.int .i64 (kT st:Nat),.int .i64 ln5,.string ⟨S5.toArray⟩,.int .i64 nn5] 198));go_wp2_with fail
    refine(HX.o _ (PR.alloc H5.o _)).mono ?_;rintro e w6 ⟨ty6,x6,rfl,h6,Je,hr6⟩;have HP6:=A0 Je;have Dl:Hid (A9 b wr w6):=(Cb.o.alloc _).trans HP6.o;have lw6:=Dl.o.size;have HR6:=A0 hr6;have H6:=A0 h6;clear h6 Je hr6;have hT6:=HP6.o.blk Gq.o z4va;obtain⟨y0,y1,y2,y3,fy,ly⟩:=E5 hT6;clear hT6;go_wp2;go_roundg m
    case measure=>omega
    case rel=>
     refine⟨_,_,_,_,rfl,by omega,HZ2.o,PR.alloc H6.o _,(HOr.o.trans Dl.o).alloc _,fun hb=>?_⟩;have hcl:=Ht (w:=w) (W:=w6) (r:=(nd (B7 (100+kT st) (B6 st).line) (Bu acc z.1),z.2)) (l:=B7 (100+kT st) (B6 st).line) (ch:=Bu acc z.1) (ks:=[.iface ty x0,.iface ty6 x6]) (cs:=#[Gd (B6 st).line,.int .i64 (kT st:Nat),.iface ty x0,.iface ty6 x6]) H6.o (HOr.o.trans Dl.o) rfl (W6 HCr.o).1 (W6 HCr.o).2.1 (W6 HCr.o).2.2 (fun hb=>⟨A94 HCr.o _ _ _ _ _,An.app _ _ [_] [_] (An.only z4va Dl.o (HRep.o Af.o)) (An.weak z4ya (HR6.o hb))⟩);obtain⟨t',x',e',_,_,hrr⟩:=hcl;injection e' with e';rw[←e']at hrr;rw[(HTk5.o Af.o).1];exact hrr hb
   ·have HE:=A0 (A2p cr hpk);have tk:((rowOf (kT st):Int)==((a+1:Nat):Int))=false:=by rw[beq_eq_false_iff_ne];omega
    clear cr hpk hrs hO hrep;go_wp2_with fail
    refine(Ds HRS.o).mono ?_;rintro e w4 ⟨rfl,h4,B8⟩;have Cq:=A0 (Below.only (b:=b) B8);have C2:Hid (A9 b wr w4):=(A9.refl b wr).trans Cq.o;have lw4:=C2.o.size;have H4:=A0 h4;clear h4 B8;go_wp2_with fail
    refine(A3i _ hk40 _).mono ?_;rintro e w' ⟨rfl,rfl⟩;exact z3pa
theorem Qq(s:PS)(h:s.bad=0):(Eg s).ts=[Ij]:=by unfold Eg;rw[if_pos h]
theorem Acm{n:Nat}{s:PS}{r:BT A6×PS}(hk:kT s=0)(h:Ah n 4 0 .nil s=some r):r.2=Eg s:=by
 cases n with
 | zero=>exact absurd h (Gf _ _ _ _ _)
 | succ n=>rw[Xy z4va z4va z4va z4va z4va z4va z4va z4va z4va z4va h]
theorem Acl{n:Nat}{s:PS}{r:BT A6×PS}(h0:s.bad=0)(hf:(Eg s).bad≠0)(hk:kT s=0)(h:Ah n 2 0 .nil s=some r):r.2=Eg s:=by
 cases n with
 | zero=>exact absurd h (Gf _ _ _ _ _)
 | succ n=>
  obtain⟨x,h1,h2⟩:=Xz z4va z4va h;have e:=Acm hk h1;rw[R1 (by rw[e];exact Qq s h0) (by rw[e];exact hf) _ _ _ _ _ h2,e]
theorem Ack{s:PS}(h0:s.bad=0)(hf:(Eg s).bad≠0)(hk:kT s=0):∀n a r,Ah n 0 a .nil s=some r->r.2=Eg s:=by
 intro n;induction n with
 | zero=>intro a r h;exact absurd h (Gf _ _ _ _ _)
 | succ n ih=>
  intro a r h;by_cases h6:a=6
  ·subst h6;exact Acl h0 hf hk (Xw h)
  ·obtain⟨x,h1,h2⟩:=Xv h6 h;have e:=ih _ _ h1;rw[R1 (by rw[e];exact Qq s h0) (by rw[e];exact hf) _ _ _ _ _ h2,e]
theorem A0o{s:PS}(h:s.bad≠0):Eg s=s:=by unfold Eg;rw[if_neg h]
theorem A4v{k:Nat}{s:PS}(hk:k≠0)(h:s.bad≠0)(ht:s.ts=[Ij]):Be k s=s:=by
 unfold Be;rw[if_neg (by unfold kT B6;rw[ht];show ¬(0=k);omega),A0o h]
theorem Acn{n:Nat}{s:PS}{r:BT A6×PS}(h0:s.bad=0)(hf:(Eg s).bad≠0)(hk:kT s=0)(h:Ah n 9 0 .nil s=some r):r.2=Eg s:=by
 cases n with
 | zero=>exact absurd h (Gf _ _ _ _ _)
 | succ n=>
  obtain⟨x,h1,h2⟩:=Y0 z4va h;have e:=Ack h0 hf hk _ _ _ h1;have ek:kT x.2=0:=by rw[e];unfold Eg;rw[if_pos h0];rfl
  rcases h2 with⟨_,h3,_⟩|⟨_,h3,_⟩|⟨_,h3⟩
  ·omega
  ·omega
  ·rw[h3];show Be 25 x.2=_;rw[A4v z4wa (by rw[e];exact hf) (by rw[e];exact Qq s h0),e]
def A5b(b tb cap te:Nat)(ts:List Tk)(n:Nat)(r:BT A6×PS)(w:World)(k:Nat)(v:Value)(wr:World):Prop:=
 ∃(acc:BT A6) (st:PS) (va:Option Addr) (vn vc:Nat) (cs:List Value),v=.slice va vn vc/\k<=n/\Ah k 8 0 acc st=some r/\PR b tb cap te ts wr st/\A9 b w wr/\cs.length+k<=n+1/\
  Cw (fun g=>w.heap.size<=g) wr 142 1 (.slice va vn vc) cs.length cs/\(st.bad=0->An (fun g=>w.heap.size<=g/\(Value.slice va vn vc).ownBlock≠some g) wr acc cs)
theorem z3ba {P:Prop} (h:P:=by
  simp only[Value.ownBlock,Option.some.injEq]at hk;rw[←hk];rcases hat7 with h|h
  ·exact(hrow g7 h).2.2
  ·show w.heap.size<=g7;omega):P:=h
theorem Ahf{b tb cap te:Nat}{ts:List Tk}{n:Nat}(ih:∀m,m<=n->Is b tb cap te ts m)(hn:n<=500000)(w:World)(s:PS)(r:BT A6×PS)(hs:PR b tb cap te ts w s)(hp:Ah (n+1) 7 0 .nil s=some r) :
  Calls Tryz.prog 185 #[.pointer (some ⟨b,0,none⟩)] w (Tm 142 b tb cap te ts w r):=by
 have HS:=A0 hs;obtain⟨lb,lt,lne⟩:=hs.lt;have HP0:=A0 (A2e hp);clear hp hs;go_enter Tryz.func185,Tryz.ntmps185;go_wp2_with fail
 refine(J0 HS.o 20).mono ?_;rintro e w1 ⟨kk1,Io,nn1,S1,rfl,Fs,h1,Bx⟩;have Bv:=A0 Bx;have B3:Hid (A9 b w w1):=(A9.refl b w).trans Bv.o;have Dt:=B3.o.size;have J9:=A0 Fs;have H1:=A0 h1;clear h1 Bx Fs;go_wp2;go_loopg [3] n (fun k v wr=>A5b b tb cap te ts n r w k v wr)
 case atStart=>exact⟨.nil,_,none,0,0,[],rfl,Nat.le_refl _,HP0.o,H1.o,B3.o,by simp,P6 _ _ _ _,fun _=>rfl⟩
 case round=>
  clear HP0 H1 B3 Bv HS Dt J9;obtain⟨acc,st,va,vn,vc,cs,rfl,hkn,hpk,hrs,hO,hcn,hown,hrep⟩:=hrel;cases gk with
  | zero=>exact absurd hpk (Gf _ _ _ _ _)
  | succ m=>
  have HRS:=A0 hrs;have HOr:=A0 hO;have HOwn:=A0 hown;have HRep:=A0 hrep;have lwr:=hO.size;have hne:(Value.slice va vn vc).ownBlock≠some b:=fun e=>by have h:w.heap.size<=b:=hown.2 b e;omega
  have HFb:Hid (st.bad=0->1<=(B6 st).line):=fun e=>(hrs.lines e).1;have HStk:=A0 hrs.Ml;by_cases c21:kT st=21
  ·have HE:=A0 (A2d c21 hpk);have tk:((kT st:Int) !=21)=false:=by rw[c21];rfl
   have HW:Hid (Be 21 st=As st):=by show _=_;unfold Be;rw[if_pos c21]
   clear c21 hpk hrs hO hrep hown;go_wp2_with fail
   refine(Ds HRS.o).mono ?_;rintro e w4 ⟨rfl,h4,B8⟩;have Cq:=A0 (Below.only (b:=b) B8);have C2:Hid (A9 b wr w4):=(A9.refl b wr).trans Cq.o;have lw4:=C2.o.size;have H4:=A0 h4;clear h4 B8;go_wp2_with fail
   refine(J0 H4.o 21).mono ?_;rintro e w5 ⟨kk5,ln5,nn5,S5,rfl,htk5,h5,Ea⟩;have Ey:=A0 Ea;have Cb:Hid (A9 b wr w5):=C2.o.trans Ey.o;have lw5:=Cb.o.size;have HTk5:=A0 htk5;have H5:=A0 h5;clear h5 Ea htk5;go_wp2;go_ret;rw[HE.o];refine⟨va,vn,vc,cs,rfl,⟨B4 HOwn.o.1 (fun k hk hl=>Cb.o.block k hl (fun e=>hne z5la)),HOwn.o.2⟩,by rw[←HW.o];exact H5.o,HOr.o.trans Cb.o,fun hb=>?_⟩;rw[Re]at hb;exact An.keep (fun k hk hl=>⟨Cb.o.block k hl z4va,hk.1⟩) _ _ (HRep.o hb)
  by_cases c0:kT st=0
  ·have HE:Hid (r.2=Be 21 st/\r.2.bad≠0):=by
    have hw:Be 21 st=Eg st:=by unfold Be;rw[if_neg c21]
    by_cases h0:st.bad=0
    ·obtain⟨x,hx,Fl⟩:=Xu c21 h0 hpk;have hf:=Wu HFb.o;have e:=Acn h0 hf c0 hx;have e2:=R1 (by rw[e];exact Qq st h0) (by rw[e];exact hf) _ _ _ _ _ Fl;rw[e2,e,hw];exact⟨rfl,hf⟩
    ·have e2:=R1 (HStk.o h0) h0 _ _ _ _ _ hpk;rw[e2,hw,A0o h0];exact⟨rfl,h0⟩
   have tk:((kT st:Int) !=21)=true:=by rw[c0];rfl
   have tk0:((kT st:Int) !=0)=false:=by rw[c0];rfl
   clear c21 c0 hpk hrs hO hrep hown;go_wp2_with fail
   refine(Ds HRS.o).mono ?_;rintro e w4 ⟨rfl,h4,B8⟩;have Cq:=A0 (Below.only (b:=b) B8);have C2:Hid (A9 b wr w4):=(A9.refl b wr).trans Cq.o;have lw4:=C2.o.size;have H4:=A0 h4;clear h4 B8;go_wp2_with fail
   refine(Ds H4.o).mono ?_;rintro e w5 ⟨rfl,h5,Ch⟩;have Ey:=A0 (Below.only (b:=b) Ch);have Cb:Hid (A9 b wr w5):=C2.o.trans Ey.o;have lw5:=Cb.o.size;have H5:=A0 h5;clear h5 Ch;go_wp2_with fail
   refine(J0 H5.o 21).mono ?_;rintro e w6 ⟨kk6,ln6,nn6,S6,rfl,htk6,h6,Je⟩;have HP6:=A0 Je;have Dl:Hid (A9 b wr w6):=Cb.o.trans HP6.o;have lw6:=Dl.o.size;have HTk6:=A0 htk6;have H6:=A0 h6;clear h6 Je htk6;go_wp2;go_ret;refine⟨va,vn,vc,cs,rfl,⟨B4 HOwn.o.1 (fun k hk hl=>Dl.o.block k hl (fun e=>hne z5la)),HOwn.o.2⟩,by rw[HE.o.1];exact H6.o,HOr.o.trans Dl.o,fun hb=>absurd hb HE.o.2⟩
  have Af:Hid (st.bad=0):=hrs.Gx c0;obtain⟨z,By,C5⟩:=Xu c21 Af.o hpk;have HZ2:=A0 C5;have HX:=A0 (fun(W:World) (h:PR b tb cap te ts W st)=>(ih m z4va).stmt W st z h By);have tk:((kT st:Int) !=21)=true:=by simp;omega
  have tk0:((kT st:Int) !=0)=true:=by simpa using c0
  clear c21 c0 hpk hrs hO hrep hown By C5;go_wp2_with fail
  refine(Ds HRS.o).mono ?_;rintro e w4 ⟨rfl,h4,B8⟩;have Cq:=A0 (Below.only (b:=b) B8);have C2:Hid (A9 b wr w4):=(A9.refl b wr).trans Cq.o;have lw4:=C2.o.size;have H4:=A0 h4;clear h4 B8;go_wp2_with fail
  refine(Ds H4.o).mono ?_;rintro e w5 ⟨rfl,h5,Ch⟩;have Ey:=A0 (Below.only (b:=b) Ch);have Cb:Hid (A9 b wr w5):=C2.o.trans Ey.o;have lw5:=Cb.o.size;have H5:=A0 h5;clear h5 Ch;go_wp2_with fail
  refine(HX.o _ H5.o).mono ?_;rintro e w6 ⟨ty6,x6,rfl,h6,Je,hr6⟩;have HP6:=A0 Je;have Dl:Hid (A9 b wr w6):=Cb.o.trans HP6.o;have lw6:=Dl.o.size;have HR6:=A0 hr6;have H6:=A0 h6;clear h6 Je hr6;have hown5:w6.ownsRow 0 142 1 (.slice va vn vc) cs.length cs:=B4 HOwn.o.1 (fun k hk hl=>Dl.o.block k hl (fun e=>hne z5la));go_wp2_with (at_builtin;refine Kj w6 #[.iface ty6 x6] 142 rfl (.tmp 14) (.tmp 17) 138 rfl 0 1 16 .nilIface Tryz.underlying138 Xe rfl z4va _ _ _ rfl rfl hown5 rfl (fun u hu=>by simp at hu;rw[hu];rfl) z4va z4va (Nat.zero_le _) ?_;intro g7 cap7 w7 hown7 hgrow7 hat7 hg7)
  replace hgrow7:w6.grownBy w7 (Value.slice va vn vc).ownBlock:=hgrow7;replace hat7:(Value.slice va vn vc).ownBlock=some g7\/g7=w6.heap.size+1:=hat7;have hrow:∀k,(Value.slice va vn vc).ownBlock=some k->k≠b/\k≠tb/\w.heap.size<=k:=fun k e=>by have h:w.heap.size<=k:=HOwn.o.2 k e;omega
  go_roundg m
  case measure=>omega
  case rel=>
   refine⟨Bu acc z.1,z.2,some ⟨g7,0,none⟩,cs.length+1,cap7,cs++[.iface ty6 x6],rfl,by omega,HZ2.o,PR.grown H6.o hgrow7 (fun e=>(hrow b e).1 rfl) (fun e=>(hrow tb e).2.1 rfl),(HOr.o.trans Dl.o).grown hgrow7 (fun k e=>.inr (hrow k e).2.2),by simp;omega,⟨by simpa using hown7,fun k hk=>?_⟩,fun hb=>?_⟩
   ·exact z3ba
   ·exact Vx lb lwr (HRep.o Af.o) Dl.o (An.weak z4va (HR6.o hb)) HOwn.o.1 hgrow7 hat7
end
section
set_option maxRecDepth 100000
open Go.RowKit
open Go.Deep (BT)
variable {b tb cap te:Nat}{ts:List Tk}{n:Nat}
theorem An.blk{D:Nat->Prop}{w:World}{kd:Nat}(hk:kd=31\/kd=32){va:Option Addr}{vn vc:Nat}{cs:List Value}{f:BT A6}(ho:Cw D w 142 1 (.slice va vn vc) cs.length cs)(hr:An D w f cs):An D w (nd (B7 kd 0) f) [.slice va vn vc]:=by
 refine An.one ?_ hr;unfold Bs;rw[if_pos (show(B7 kd 0).kd=31\/(B7 kd 0).kd=32 from hk)];exact⟨⟨_,_,_,rfl⟩,ho⟩
theorem Ahl(ih:Is b tb cap te ts n)(w:World)(s:PS)(r:BT A6×PS)(hk:kT s=5)(hs:PR b tb cap te ts w s)(hp:Ah (n+1) 9 0 .nil s=some r) :
  Calls Tryz.prog 186 #[.pointer (some ⟨b,0,none⟩)] w (Hp b tb cap te ts w r):=by
 obtain⟨x,hx,hr⟩:=A30 hk hp;have HS:=A0 hs;have lb:=hs.lt;have HR:=A0 hr;have HXp:=A0 hx;have HW:Hid (Be 5 s=As s):=by show _=_;unfold Be;rw[if_pos hk]
 have HX:=A0 (fun(W:World) (h:PR b tb cap te ts W (Be 26 (Be 1 (As s))))=>Kq ih W (Be 26 (Be 1 (As s))) x h hx);clear hp hs hk hx hr;go_enter Tryz.func186,Tryz.ntmps186;go_wp2_with fail
 refine(J0 HS.o 5).mono ?_;rintro e w1 ⟨kk1,Io,nn1,S1,rfl,Fs,h1,Bx⟩;have Bv:=A0 Bx;have B3:Hid (A9 b w w1):=(A9.refl b w).trans Bv.o;have Dt:=B3.o.size;have J9:=A0 Fs;rw[HW.o]at h1;have H1:=A0 h1;clear h1 Bx Fs;go_wp2_with fail
 refine(Ue H1.o).mono ?_;rintro e w2 ⟨Gc,S2,rfl,F4,h2,Bb⟩;have B2:=A0 Bb;have Bh:Hid (A9 b w w2):=B3.o.trans B2.o;have Fa:=Bh.o.size;have Ef:=A0 F4;have H2:=A0 h2;clear h2 Bb F4;have HT2:=A0 (heap_alloc_new w2 (.cells #[.int .i64 Gc,.string ⟨S2.toArray⟩] 148));have lw2b:w2.heap.size<(w2.alloc (.cells #[.int .i64 Gc,.string ⟨S2.toArray⟩] 148)).heap.size:=by simp
 go_wp2_with fail
 refine(J0 (PR.alloc H2.o _) 26).mono ?_;rintro e w3 ⟨kk3,ln3,nn3,S3,rfl,htk3,h3,Cs⟩;have Bi:=A0 Cs;have Ck:Hid (A9 b w w3):=(Bh.o.alloc _).trans Bi.o;have lw3:=Ck.o.size;have HTk3:=A0 htk3;have H3:=A0 h3;clear h3 Cs htk3;have HT3:=A0 (Bi.o.blk HT2.o z4va);go_wp2_with fail
 refine(HX.o _ H3.o).mono ?_;rintro e w4 ⟨ty4,x4,rfl,h4,Cl,Fy⟩;have Cq:=A0 Cl;have C2:Hid (A9 b w w4):=Ck.o.trans Cq.o;have lw4:=C2.o.size;have Cu:=A0 Fy;have H4:=A0 h4;clear h4 Cl Fy;have HT4:=A0 (Cq.o.blk HT3.o z4va);go_wp2_with fail
 refine(J0 H4.o 25).mono ?_;rintro e w5 ⟨kk5,ln5,nn5,S5,rfl,htk5,h5,Ea⟩;have Ey:=A0 Ea;have Cb:Hid (A9 b w w5):=C2.o.trans Ey.o;have lw5:=Cb.o.size;have HTk5:=A0 htk5;have H5:=A0 h5;clear h5 Ea htk5;have hT5:=Ey.o.blk HT4.o z4va;have y0:=A2 hT5 0 _ rfl;have y1:=A2 hT5 1 _ rfl;have ly:=A5 hT5;clear hT5;go_wp2;go_ret;rw[HR.o];refine Ht (l:=⟨21,(B6 (As s)).line,(B6 (As s)).s,0,[]⟩) (ch:=x.1) (ks:=[.iface ty4 x4]) H5.o Cb.o rfl z50a rfl rfl (fun hb=>⟨⟨_,?_,rfl⟩,An.later z4va z4va Ey.o (Cu.o (Lv hb))⟩);have hg:=Lv (Pz H3.o.Ml HXp.o (Lv hb));rw[(Ef.o hg).1,(Ef.o hg).2];rfl
theorem Aif(ih:Is b tb cap te ts n)(w:World)(s:PS)(r:BT A6×PS)(hk:kT s=8)(hs:PR b tb cap te ts w s)(hp:Ah (n+1) 9 0 .nil s=some r) :
  Calls Tryz.prog 132 #[.pointer (some ⟨b,0,none⟩)] w (Hp b tb cap te ts w r):=by
 obtain⟨x,bl,hx,hbl,hr⟩:=A34 hk hp;have HS:=A0 hs;have lb:=hs.lt;have Af:Hid (s.bad=0):=hs.Gx z4va;have HR:=A0 hr;have HBp:=A0 hbl;have t5:((kT s:Int)==5)=false:=kn (c:=5) rfl z4va;have t6:((kT s:Int)==6)=false:=kn (c:=6) rfl z4va;have t8:((kT s:Int)==8)=true:=ke (c:=8) rfl hk;have HBl:=A0 (fun(W:World) (h:PR b tb cap te ts W x.2)=>ih.block W x.2 bl h hbl);have HX:=A0 (fun(W:World) (h:PR b tb cap te ts W (As s))=>Kq ih W (As s) x h hx);have Ga:=Li;clear hp hs hk hx hbl hr;go_enter Tryz.func132,Tryz.ntmps132;go_wp2_with fail
 refine(Ds HS.o).mono ?_;rintro e w1 ⟨rfl,h1,A1⟩;have Bv:=A0 (Below.only (b:=b) A1);have B3:Hid (A9 b w w1):=(A9.refl b w).trans Bv.o;have Dt:=B3.o.size;have H1:=A0 h1;clear h1 A1;go_wp2_with fail
 refine(Hg H1.o).mono ?_;rintro e w2 ⟨Gc,nn2,S2,rfl,F4,h2,Bb⟩;have B2:=A0 Bb;have Bh:Hid (A9 b w w2):=B3.o.trans B2.o;have Fa:=Bh.o.size;have Ef:=A0 F4;have H2:=A0 h2;clear h2 Bb F4;go_wp2_with fail
 refine(HX.o _ H2.o).mono ?_;rintro e w3 ⟨ty3,x3,rfl,h3,Cs,Ce⟩;have Bi:=A0 Cs;have Ck:Hid (A9 b w w3):=Bh.o.trans Bi.o;have lw3:=Ck.o.size;have C3:=A0 Ce;have H3:=A0 h3;clear h3 Cs Ce;go_wp2_with fail
 refine(HBl.o _ H3.o).mono ?_;rintro e w4 ⟨va4,vn4,vc4,cs4,rfl,hown4,h4,Cl,Fy⟩;have Cq:=A0 Cl;have C2:Hid (A9 b w w4):=Ck.o.trans Cq.o;have lw4:=C2.o.size;have Cu:=A0 Fy;have HOwn4:=A0 hown4;have H4:=A0 h4;clear h4 Cl Fy hown4;go_wp2;go_ret;rw[HR.o];refine Ht (l:=B7 23 (B6 s).line) (ch:=Bu x.1 (nd (B7 32 0) bl.1)) (ks:=[.iface ty3 x3,.slice va4 vn4 vc4]) H4.o C2.o rfl z5aa rfl rfl (fun hb=>⟨⟨_,_,_,_,_,?_,rfl⟩,An.app _ _ [_] [_] (An.later z4va z4va Cq.o (C3.o (Pz H3.o.Ml HBp.o hb))) (An.blk (.inr rfl) (HOwn4.o.keep (fun k hk _=>⟨rfl,by have h:w3.heap.size<=k:=hk;omega⟩)) (An.weak z4va (Cu.o hb)))⟩);rw[(Ef.o Af.o).1];rfl
theorem z67a {P:Prop} (h:P:=by show w.heap.size<=w3.heap.size;omega):P:=h
theorem Ahi(ih:Is b tb cap te ts n)(w:World)(s:PS)(r:BT A6×PS)(hk:kT s=6)(x bl:BT A6×PS)(hx:Ah n 0 0 .nil (As s)=some x)(hbl:Ah n 7 0 .nil x.2=some bl)(h7:kT bl.2≠7)(hr:r=(nd (B7 22 (B6 s).line) (Bu x.1 (nd (B7 31 0) bl.1)),bl.2))(hs:PR b tb cap te ts w s) :
  Calls Tryz.prog 187 #[.pointer (some ⟨b,0,none⟩)] w (Hp b tb cap te ts w r):=by
 have HS:=A0 hs;have lb:=hs.lt;have Af:Hid (s.bad=0):=hs.Gx z4va;have HR:=A0 hr;have HBp:=A0 hbl;have HBl:=A0 (fun(W:World) (h:PR b tb cap te ts W x.2)=>ih.block W x.2 bl h hbl);have HX:=A0 (fun(W:World) (h:PR b tb cap te ts W (As s))=>Kq ih W (As s) x h hx);have Ga:=Li;have tk:(kT bl.2==7)=false:=by simpa using h7
 have HM:Hid (Hz 7 bl.2=bl.2):=by show _=_;unfold Hz;rw[if_neg h7]
 clear hs hk hx hbl hr h7;go_enter Tryz.func187,Tryz.ntmps187;go_wp2_with fail
 refine(Hg HS.o).mono ?_;rintro e w1 ⟨Io,nn1,S1,rfl,Fs,h1,Bx⟩;have Bv:=A0 Bx;have B3:Hid (A9 b w w1):=(A9.refl b w).trans Bv.o;have Dt:=B3.o.size;have J9:=A0 Fs;have H1:=A0 h1;clear h1 Bx Fs;go_wp2_with fail
 refine(HX.o _ H1.o).mono ?_;rintro e w2 ⟨Ia,x2,rfl,h2,Bb,B5⟩;have B2:=A0 Bb;have Bh:Hid (A9 b w w2):=B3.o.trans B2.o;have Fa:=Bh.o.size;have Cd:=A0 B5;have H2:=A0 h2;clear h2 Bb B5;go_wp2_with fail
 refine(HBl.o _ H2.o).mono ?_;rintro e w3 ⟨va3,vn3,vc3,cs3,rfl,hown3,h3,Cs,Ce⟩;have Bi:=A0 Cs;have Ck:Hid (A9 b w w3):=Bh.o.trans Bi.o;have lw3:=Ck.o.size;have C3:=A0 Ce;have HOwn3:=A0 hown3;have H3:=A0 h3;clear h3 Cs Ce hown3;have HT3:=A0 (heap_alloc_new w3 (.cells #[.int .i64 Io,.iface Ia x2,.slice va3 vn3 vc3,.slice none 0 0] 314));have lw3b:w3.heap.size<(w3.alloc (.cells #[.int .i64 Io,.iface Ia x2,.slice va3 vn3 vc3,.slice none 0 0] 314)).heap.size:=by simp
 go_wp2_with fail
 refine(Mw (PR.alloc H3.o _) 7).mono ?_;rintro e w4 ⟨rfl,h4,Cl⟩;have Cq:=A0 Cl;have C2:Hid (A9 b w w4):=(Ck.o.alloc _).trans Cq.o;have lw4:=C2.o.size;rw[tk];rw[HM.o]at h4;have H4:=A0 h4;clear h4 Cl;have HT4:=A0 (Cq.o.blk HT3.o z4va);go_wp2;go_ret;rw[HR.o];refine⟨_,_,rfl,H4.o,C2.o,fun hb=>?_⟩;have k2:∀g,w1.heap.size<=g->g<w2.heap.size->w4.heap[g]?=w2.heap[g]?/\w.heap.size<=g:=fun g hg hl=>⟨((Bi.o.alloc _).trans Cq.o).block g hl z4va,by omega⟩;have k3:∀g,w2.heap.size<=g->g<w3.heap.size->w4.heap[g]?=w3.heap[g]?/\w.heap.size<=g:=fun g hg hl=>⟨(((A9.refl b w3).alloc _).trans Cq.o).block g hl z4va,by omega⟩;refine An.one (l:=B7 22 (B6 s).line) (ks:=[.iface Ia x2,.slice va3 vn3 vc3]) (Bs.new z5aa z67a HT4.o ⟨_,_,_,_,_,_,_,_,?_,.inl ⟨rfl,rfl⟩⟩) ?_
 ·rw[(J9.o Af.o).1];rfl
 ·exact An.app _ _ [_] [_] (An.keep k2 _ _ (Cd.o (Pz H2.o.Ml HBp.o hb))) (An.blk (.inl rfl) (HOwn3.o.keep k3) (An.keep k3 _ _ (C3.o hb)))
theorem z5sa {P:Prop} (h:P:=by exact hk):P:=h
theorem Ahj(ih:Is b tb cap te ts n)(w:World)(s:PS)(r:BT A6×PS)(hk:kT s=6)(x bl:BT A6×PS)(hx:Ah n 0 0 .nil (As s)=some x)(hbl:Ah n 7 0 .nil x.2=some bl)(h7:kT bl.2=7)(c:BT A6×PS)(hc:Ah n 7 0 .nil (As bl.2)=some c)(hr:r=(nd (B7 22 (B6 s).line) (Bu x.1 (Bu (nd (B7 31 0) bl.1) (nd (B7 31 0) c.1))),c.2))(hs:PR b tb cap te ts w s) :
  Calls Tryz.prog 187 #[.pointer (some ⟨b,0,none⟩)] w (Hp b tb cap te ts w r):=by
 have HS:=A0 hs;have lb:=hs.lt;have Af:Hid (s.bad=0):=hs.Gx z4va;have HR:=A0 hr;have HBp:=A0 hbl;have HBl:=A0 (fun(W:World) (h:PR b tb cap te ts W x.2)=>ih.block W x.2 bl h hbl);have HX:=A0 (fun(W:World) (h:PR b tb cap te ts W (As s))=>Kq ih W (As s) x h hx);have Ga:=Li;have tk:(kT bl.2==7)=true:=by simpa using h7
 have HM:Hid (Hz 7 bl.2=As bl.2):=by show _=_;unfold Hz;rw[if_pos h7]
 have HCl:=A0 (fun(W:World) (h:PR b tb cap te ts W (As bl.2))=>ih.block W (As bl.2) c h hc);have HCp:=A0 hc;clear hs hk hx hbl hr h7 hc;go_enter Tryz.func187,Tryz.ntmps187;go_wp2_with fail
 refine(Hg HS.o).mono ?_;rintro e w1 ⟨Io,nn1,S1,rfl,Fs,h1,Bx⟩;have Bv:=A0 Bx;have B3:Hid (A9 b w w1):=(A9.refl b w).trans Bv.o;have Dt:=B3.o.size;have J9:=A0 Fs;have H1:=A0 h1;clear h1 Bx Fs;go_wp2_with fail
 refine(HX.o _ H1.o).mono ?_;rintro e w2 ⟨Ia,x2,rfl,h2,Bb,B5⟩;have B2:=A0 Bb;have Bh:Hid (A9 b w w2):=B3.o.trans B2.o;have Fa:=Bh.o.size;have Cd:=A0 B5;have H2:=A0 h2;clear h2 Bb B5;go_wp2_with fail
 refine(HBl.o _ H2.o).mono ?_;rintro e w3 ⟨va3,vn3,vc3,cs3,rfl,hown3,h3,Cs,Ce⟩;have Bi:=A0 Cs;have Ck:Hid (A9 b w w3):=Bh.o.trans Bi.o;have lw3:=Ck.o.size;have C3:=A0 Ce;have HOwn3:=A0 hown3;have H3:=A0 h3;clear h3 Cs Ce hown3;have HT3:=A0 (heap_alloc_new w3 (.cells #[.int .i64 Io,.iface Ia x2,.slice va3 vn3 vc3,.slice none 0 0] 314));have lw3b:w3.heap.size<(w3.alloc (.cells #[.int .i64 Io,.iface Ia x2,.slice va3 vn3 vc3,.slice none 0 0] 314)).heap.size:=by simp
 go_wp2_with fail
 refine(Mw (PR.alloc H3.o _) 7).mono ?_;rintro e w4 ⟨rfl,h4,Cl⟩;have Cq:=A0 Cl;have C2:Hid (A9 b w w4):=(Ck.o.alloc _).trans Cq.o;have lw4:=C2.o.size;rw[tk];rw[HM.o]at h4;have H4:=A0 h4;clear h4 Cl;have HT4:=A0 (Cq.o.blk HT3.o z4va);obtain⟨y0,y1,y2,y3,fy,ly⟩:=E5 HT4.o;go_wp2_with fail
 refine(HCl.o _ H4.o).mono ?_;rintro e w5 ⟨va5,vn5,vc5,cs5,rfl,hown5,h5,Ea,hr5⟩;have Ey:=A0 Ea;have Cb:Hid (A9 b w w5):=C2.o.trans Ey.o;have lw5:=Cb.o.size;have HR5:=A0 hr5;have HOwn5:=A0 hown5;have H5:=A0 h5;clear h5 Ea hr5 hown5;have HT5:=A0 (Ey.o.blk HT4.o z4va);clear y0 y1 y2 y3 fy ly;obtain⟨y0,y1,y2,y3,fy,ly⟩:=E5 HT5.o;go_wp2;go_ret;rw[HR.o];have hold:∀k,k≠w3.heap.size->(w5.setCell ⟨w3.heap.size,3,none⟩ (.slice va5 vn5 vc5)).heap[k]?=w5.heap[k]?:=fun k hk=>Below.heap_setCell _ _ _ _ z5sa;refine⟨_,_,rfl,PR.other H5.o (by show b≠w3.heap.size;omega) (by show tb≠w3.heap.size;omega) _,A9.set (p:=⟨w3.heap.size,3,none⟩) Cb.o (.inr z67a) _,fun hb=>?_⟩;have B8:bl.2.bad=0:=by have:=Pz H4.o.Ml HCp.o hb;rw[Re]at this;exact this
 have hnew:(w5.setCell ⟨w3.heap.size,3,none⟩ (.slice va5 vn5 vc5)).heap[w3.heap.size]?=some (.cells #[.int .i64 Io,.iface Ia x2,.slice va3 vn3 vc3,.slice va5 vn5 vc5] 314 (0,0)):=by
  have:=heap_set (j:=3) HT5.o (.slice va5 vn5 vc5);simpa using this
 have k2:∀g,w1.heap.size<=g->g<w2.heap.size->(w5.setCell ⟨w3.heap.size,3,none⟩ (.slice va5 vn5 vc5)).heap[g]?=w2.heap[g]?/\w.heap.size<=g:=fun g hg hl=>⟨(hold g (by have:=Bi.o.size;omega)).trans (((Bi.o.alloc _).trans (Cq.o.trans Ey.o)).block g hl z4va),by omega⟩;have k3:∀g,w2.heap.size<=g->g<w3.heap.size->(w5.setCell ⟨w3.heap.size,3,none⟩ (.slice va5 vn5 vc5)).heap[g]?=w3.heap[g]?/\w.heap.size<=g:=fun g hg hl=>⟨(hold g z4va).trans ((((A9.refl b w3).alloc _).trans (Cq.o.trans Ey.o)).block g hl z4va),by omega⟩;have k5:∀g,w4.heap.size<=g->g<w5.heap.size->(w5.setCell ⟨w3.heap.size,3,none⟩ (.slice va5 vn5 vc5)).heap[g]?=w5.heap[g]?/\w.heap.size<=g:=fun g hg hl=>⟨hold g (by have:=A5 HT4.o;omega),by omega⟩;refine An.one (l:=B7 22 (B6 s).line) (ks:=[.iface Ia x2,.slice va3 vn3 vc3,.slice va5 vn5 vc5]) (Bs.new z5aa z67a hnew ⟨_,_,_,_,_,_,_,_,?_,.inr rfl⟩) ?_
 ·rw[(J9.o Af.o).1];rfl
 ·refine An.app _ _ [_] [_,_] (An.keep k2 _ _ (Cd.o (Pz H2.o.Ml HBp.o B8))) (An.app _ _ [_] [_] (An.blk (.inl rfl) (HOwn3.o.keep k3) (An.keep k3 _ _ (C3.o B8))) (An.blk (.inl rfl) (HOwn5.o.keep k5) (An.keep k5 _ _ (HR5.o hb))))
end
section
set_option maxRecDepth 100000
open Go.RowKit
open Go.Deep (BT)
theorem E3{P:Program}{T e xT:TypeId}(hu:P.underlying T=some (.pointer e))(v:Value)(w:World):(Instr.typeAssert (.iface T v) xT T true).run P w=.ok (.tuple #[v,.bool true]) w:=by
 simp[Instr.typeAssert,run_underlying hu]
theorem Bg{P:Program}{T e t xT:TypeId}{z:Value}(hu:P.underlying T=some (.pointer e))(hz:(P.info? T).map (·.zero)=some (some z))(h:t≠T)(v:Value)(w:World):(Instr.typeAssert (.iface t v) xT T true).run P w=.ok (.tuple #[z,.bool false]) w:=by
 obtain⟨i,hi,hz⟩:∃i,P.info? T=some i/\i.zero=some z:=by
  cases hi:P.info? T with
  | none=>rw[hi]at hz;cases hz
  | some i=>rw[hi]at hz;exact⟨i,rfl,Option.some.inj hz⟩
 simp[Instr.typeAssert,run_underlying hu,h,zeroValue,typeInfo,hi,hz]
def Ok(t:TypeId):Bool:=t==238||t==310
theorem Tx(t:TypeId)(x:Value)(w:World):Calls Tryz.prog 233 #[.iface t x] w fun e w'=>e=.returned (.bool (Ok t))/\w'=w:=by
 by_cases h1:t=238
 ·subst h1;have a1:=fun w=>E3 (P:=Tryz.prog) (xT:=150) Tryz.underlying238 x w;have a2:=fun w=>Bg (P:=Tryz.prog) (t:=238) (T:=310) (xT:=150) (z:=.pointer none) Tryz.underlying310 (by kernel_rfl) z4wa x w;go_enter Tryz.func233,Tryz.ntmps233;exact z03a
 by_cases h2:t=310
 ·subst h2;have a1:=fun w=>Bg (P:=Tryz.prog) (t:=310) (T:=238) (xT:=150) (z:=.pointer none) Tryz.underlying238 (by kernel_rfl) z4wa x w;have a2:=fun w=>E3 (P:=Tryz.prog) (xT:=150) Tryz.underlying310 x w;clear h1;go_enter Tryz.func233,Tryz.ntmps233;exact z03a
 ·have a1:=fun w=>Bg (P:=Tryz.prog) (t:=t) (T:=238) (xT:=150) (z:=.pointer none) Tryz.underlying238 (by kernel_rfl) h1 x w;have a2:=fun w=>Bg (P:=Tryz.prog) (t:=t) (T:=310) (xT:=150) (z:=.pointer none) Tryz.underlying310 (by kernel_rfl) h2 x w;have HC:Hid (Ok t=false):=by
   show _=_;unfold Ok;rw[beq_eq_false_iff_ne.2 h1,beq_eq_false_iff_ne.2 h2];rfl
  clear h1 h2;go_enter Tryz.func233,Tryz.ntmps233;go_wp2;go_ret;exact⟨Sy HC.o.symm,rfl⟩
theorem Ai6(kd:Nat):Ok (Cg kd)=(kd==6||kd==12):=by
 by_cases h6:kd=6
 ·subst h6;rfl
 by_cases h12:kd=12
 ·subst h12;rfl
 rw[beq_eq_false_iff_ne.2 h6,beq_eq_false_iff_ne.2 h12];unfold Cg;split <;> first|rfl|(exfalso;omega)
theorem Yd{D:Nat->Prop}{W:World}{f v:BT A6}{t:TypeId}{x vv:Value}(h:An D W f [.iface t x])(hv:An D W v [vv]) :
  Ok t=Qk f/\(Qk f=true->∃l ch ks,setNode f v=nd l ch/\¬(l.kd=31\/l.kd=32)/\Cg l.kd=268/\Dk l.kd=322/\Cv D W l #[.iface t x,vv] ks/\An D W ch ks):=by
 cases f with
 | nil=>rw[An]at h;cases h
 | node x0 y0 l ch sib=>
  obtain⟨v0,ks,rest,e,h1,h2,h3⟩:=h;injection e with e1 e2;subst e1 e2;unfold Bs at h1;split at h1
  ·obtain⟨⟨_,_,_,e⟩,_⟩:=h1;cases e
  ·obtain⟨b2,cs,e,hD,hb,hl⟩:=h1;injection e with e1 e2;subst e1 e2;refine⟨Ai6 l.kd,fun hc=>?_⟩;have hc':(l.kd==6||l.kd==12)=true:=hc;simp only[Bool.or_eq_true,beq_iff_eq]at hc';rcases hc' with h6|h12
   ·unfold Cv at hl;rw[h6]at hl;simp only at hl;obtain⟨rfl,rfl⟩:=hl;have hb':W.heap[b2]?=some (.cells #[Gd l.line,Ld l.s] 240 (0,0)):=by rw[hb,h6];rfl
    refine⟨⟨28,l.line,l.s,0,[]⟩,v,[vv],?_,by simp,rfl,rfl,⟨b2,vv,?_,hD,hb',rfl⟩,hv⟩
    ·unfold setNode Jp;rw[if_pos h6]
    ·rw[h6];rfl
   ·unfold Cv at hl;rw[h12]at hl;simp only at hl;obtain⟨a,b,rfl,rfl⟩:=hl;have hb':W.heap[b2]?=some (.cells #[Gd l.line,a,b] 312 (0,0)):=by rw[hb,h12];rfl
    refine⟨B7 29 l.line,Bu ch v,[a,b,vv],?_,by simp[B7],rfl,rfl,⟨b2,a,b,vv,?_,hD,hb',rfl⟩,An.app _ _ [a,b] [vv] h2 hv⟩
    ·unfold setNode Jp Ug;rw[if_neg (show ¬l.kd=6 by omega)]
    ·rw[h12];rfl
end
section
set_option maxRecDepth 100000
open Go.RowKit
open Go.Deep (BT)
variable {b tb cap te:Nat}{ts:List Tk}{n:Nat}
theorem Iu{w:World}{g:Nat}{a0 a1:Value}{t:TypeId}(h:w.heap[g]?=some (.cells #[a0,a1] t (0,0))) :
  w.cell? ⟨g,0,none⟩=some a0/\w.cell? ⟨g,1,none⟩=some a1/\(∀o,w.frozen? ⟨g,o,none⟩=false)/\g<w.heap.size:=
 ⟨A2 h 0 _ rfl,A2 h 1 _ rfl,Bd h,A5 h⟩
def Pg(b tb cap te:Nat)(ts:List Tk)(w:World)(r:BT A6×PS)(e:Ending)(w':World):Prop:=
 ∃r':BT A6×PS,Hp b tb cap te ts w r' e w'/\r.1=r'.1/\r.2=Be 25 r'.2
theorem z68a {P:Prop} (h:P:=by show w.heap.size<=w2.heap.size;omega):P:=h
theorem Amd(w:World)(s:PS)(r:BT A6×PS)(hk:kT s=9)(Ci:kT (As s)=25)(hs:PR b tb cap te ts w s)(hp:Ah (n+1) 9 0 .nil s=some r) :
  Calls Tryz.prog 190 #[.pointer (some ⟨b,0,none⟩)] w (Pg b tb cap te ts w r):=by
 have HS:=A0 hs;have lb:=hs.lt;have Ga:=Li;have HR:=A0 (A33 hk Ci hp);have Af:Hid (s.bad=0):=hs.Gx z4va;have t25:((kT (As s):Int) !=25)=false:=by rw[Ci];rfl
 have t9:((kT s:Int)==9)=true:=ke (c:=9) rfl hk;clear hp hs hk Ci;go_enter Tryz.func190,Tryz.ntmps190;go_wp2_with fail
 refine(Ds HS.o).mono ?_;rintro e w1 ⟨rfl,h1,A1⟩;have Bv:=A0 (Below.only (b:=b) A1);have B3:Hid (A9 b w w1):=(A9.refl b w).trans Bv.o;have Dt:=B3.o.size;have H1:=A0 h1;clear h1 A1;go_wp2_with fail
 refine(Hg H1.o).mono ?_;rintro e w2 ⟨Gc,nn2,S2,rfl,F4,h2,Bb⟩;have B2:=A0 Bb;have Bh:Hid (A9 b w w2):=B3.o.trans B2.o;have Fa:=Bh.o.size;have Ef:=A0 F4;have H2:=A0 h2;clear h2 Bb F4;have HT2:=A0 (heap_alloc_new w2 (.cells #[.int .i64 Gc,.nilIface] 318));go_wp2_with fail
 refine(Ds (PR.alloc H2.o _)).mono ?_;rintro e w3 ⟨rfl,h3,Aj⟩;have Bi:=A0 (Below.only (b:=b) Aj);have Ck:Hid (A9 b w w3):=(Bh.o.alloc _).trans Bi.o;have lw3:=Ck.o.size;have H3:=A0 h3;clear h3 Aj;go_wp2;go_ret;rw[HR.o];refine⟨(nd (B7 24 (B6 s).line) .nil,As s),⟨_,_,rfl,H3.o,Ck.o,fun hb=>?_⟩,rfl,rfl⟩;refine An.one (l:=B7 24 (B6 s).line) (ks:=[]) (Bs.new z5aa z68a (Bi.o.blk HT2.o z4va) ⟨_,?_,.inl ⟨rfl,rfl⟩⟩) rfl;rw[(Ef.o Af.o).1];rfl
theorem Ame(ih:Is b tb cap te ts n)(w:World)(s:PS)(r:BT A6×PS)(hk:kT s=9)(Ci:kT (As s)≠25)(hs:PR b tb cap te ts w s)(hp:Ah (n+1) 9 0 .nil s=some r) :
  Calls Tryz.prog 190 #[.pointer (some ⟨b,0,none⟩)] w (Pg b tb cap te ts w r):=by
 have HS:=A0 hs;have lb:=hs.lt;have Ga:=Li;obtain⟨x,hx,hr⟩:=A32 hk Ci hp;have HR:=A0 hr;have Af:Hid (s.bad=0):=hs.Gx z4va;have t25:((kT (As s):Int) !=25)=true:=by simp;omega
 have HX:=A0 (fun(W:World) (h:PR b tb cap te ts W (As s))=>Kq ih W (As s) x h hx);have t9:((kT s:Int)==9)=true:=ke (c:=9) rfl hk;clear hp hs hk Ci hx hr;go_enter Tryz.func190,Tryz.ntmps190;go_wp2_with fail
 refine(Ds HS.o).mono ?_;rintro e w1 ⟨rfl,h1,A1⟩;have Bv:=A0 (Below.only (b:=b) A1);have B3:Hid (A9 b w w1):=(A9.refl b w).trans Bv.o;have Dt:=B3.o.size;have H1:=A0 h1;clear h1 A1;go_wp2_with fail
 refine(Hg H1.o).mono ?_;rintro e w2 ⟨Gc,nn2,S2,rfl,F4,h2,Bb⟩;have B2:=A0 Bb;have Bh:Hid (A9 b w w2):=B3.o.trans B2.o;have Fa:=Bh.o.size;have Ef:=A0 F4;have H2:=A0 h2;clear h2 Bb F4;have HT2:=A0 (heap_alloc_new w2 (.cells #[.int .i64 Gc,.nilIface] 318));have lw2b:w2.heap.size<(w2.alloc (.cells #[.int .i64 Gc,.nilIface] 318)).heap.size:=by simp
 go_wp2_with fail
 refine(Ds (PR.alloc H2.o _)).mono ?_;rintro e w3 ⟨rfl,h3,Aj⟩;have Bi:=A0 (Below.only (b:=b) Aj);have Ck:Hid (A9 b w w3):=(Bh.o.alloc _).trans Bi.o;have lw3:=Ck.o.size;have H3:=A0 h3;clear h3 Aj;have HT3:=A0 (Bi.o.blk HT2.o z4va);go_wp2_with fail
 refine(HX.o _ H3.o).mono ?_;rintro e w4 ⟨ty4,x4,rfl,h4,Cl,Fy⟩;have Cq:=A0 Cl;have C2:Hid (A9 b w w4):=Ck.o.trans Cq.o;have lw4:=C2.o.size;have Cu:=A0 Fy;have H4:=A0 h4;clear h4 Cl Fy;have HT4:=A0 (Cq.o.blk HT3.o z4va);obtain⟨y0,y1,fy,ly⟩:=Iu HT4.o;go_wp2;go_ret;rw[HR.o];have hold:∀k,k≠w2.heap.size->(w4.setCell ⟨w2.heap.size,1,none⟩ (.iface ty4 x4)).heap[k]?=w4.heap[k]?:=fun k hk=>Below.heap_setCell _ _ _ _ z5sa;refine⟨(nd (B7 24 (B6 s).line) x.1,x.2),⟨_,_,rfl,PR.other H4.o (by show b≠w2.heap.size;omega) (by show tb≠w2.heap.size;omega) _,A9.set (p:=⟨w2.heap.size,1,none⟩) C2.o (.inr z68a) _,fun hb=>?_⟩,rfl,rfl⟩;have hnew:(w4.setCell ⟨w2.heap.size,1,none⟩ (.iface ty4 x4)).heap[w2.heap.size]?=some (.cells #[.int .i64 Gc,.iface ty4 x4] 318 (0,0)):=by
  have:=heap_set (j:=1) HT4.o (.iface ty4 x4);simpa using this
 have lw3b:=A5 HT3.o;refine An.one (l:=B7 24 (B6 s).line) (ks:=[.iface ty4 x4]) (Bs.new z5aa z68a hnew ⟨_,?_,.inr rfl⟩) (An.keep (fun g (hg:w3.heap.size<=g) _=>⟨hold g z4va,by omega⟩) _ _ (Cu.o hb));rw[(Ef.o Af.o).1];rfl
theorem Ak9(w:World)(s:PS)(r:BT A6×PS)(hk:kT s=10)(hs:PR b tb cap te ts w s)(hp:Ah (n+1) 9 0 .nil s=some r) :
  Calls Tryz.prog 190 #[.pointer (some ⟨b,0,none⟩)] w (Pg b tb cap te ts w r):=by
 have HS:=A0 hs;have lb:=hs.lt;have Ga:=Li;have HR:=A0 (A2x hk hp);have Af:Hid (s.bad=0):=hs.Gx z4va;have t9:((kT s:Int)==9)=false:=kn (c:=9) rfl z4va;have t10:((kT s:Int)==10)=true:=ke (c:=10) rfl hk;clear hp hs hk;go_enter Tryz.func190,Tryz.ntmps190;go_wp2_with fail
 refine(Ds HS.o).mono ?_;rintro e w1 ⟨rfl,h1,A1⟩;have Bv:=A0 (Below.only (b:=b) A1);have B3:Hid (A9 b w w1):=(A9.refl b w).trans Bv.o;have Dt:=B3.o.size;have H1:=A0 h1;clear h1 A1;go_wp2_with fail
 refine(Hg H1.o).mono ?_;rintro e w2 ⟨Gc,nn2,S2,rfl,F4,h2,Bb⟩;have B2:=A0 Bb;have Bh:Hid (A9 b w w2):=B3.o.trans B2.o;have Fa:=Bh.o.size;have Ef:=A0 F4;have H2:=A0 h2;clear h2 Bb F4;go_wp2;go_ret;rw[HR.o];refine⟨(nd (B7 25 (B6 s).line) .nil,As s),Ht (l:=B7 25 (B6 s).line) (ch:=.nil) (ks:=[]) H2.o Bh.o rfl z5aa rfl rfl (fun _=>⟨⟨?_,rfl⟩,rfl⟩),rfl,rfl⟩;rw[(Ef.o Af.o).1];rfl
theorem Akc(w:World)(s:PS)(r:BT A6×PS)(hk:kT s=11)(hs:PR b tb cap te ts w s)(hp:Ah (n+1) 9 0 .nil s=some r) :
  Calls Tryz.prog 190 #[.pointer (some ⟨b,0,none⟩)] w (Pg b tb cap te ts w r):=by
 have HS:=A0 hs;have lb:=hs.lt;have Ga:=Li;have HR:=A0 (A2y hk hp);have Af:Hid (s.bad=0):=hs.Gx z4va;have t9:((kT s:Int)==9)=false:=kn (c:=9) rfl z4va;have t10:((kT s:Int)==10)=false:=kn (c:=10) rfl z4va;have t11:((kT s:Int)==11)=true:=ke (c:=11) rfl hk;clear hp hs hk;go_enter Tryz.func190,Tryz.ntmps190;go_wp2_with fail
 refine(Ds HS.o).mono ?_;rintro e w1 ⟨rfl,h1,A1⟩;have Bv:=A0 (Below.only (b:=b) A1);have B3:Hid (A9 b w w1):=(A9.refl b w).trans Bv.o;have Dt:=B3.o.size;have H1:=A0 h1;clear h1 A1;go_wp2_with fail
 refine(Hg H1.o).mono ?_;rintro e w2 ⟨Gc,nn2,S2,rfl,F4,h2,Bb⟩;have B2:=A0 Bb;have Bh:Hid (A9 b w w2):=B3.o.trans B2.o;have Fa:=Bh.o.size;have Ef:=A0 F4;have H2:=A0 h2;clear h2 Bb F4;go_wp2;go_ret;rw[HR.o];refine⟨(nd (B7 26 (B6 s).line) .nil,As s),Ht (l:=B7 26 (B6 s).line) (ch:=.nil) (ks:=[]) H2.o Bh.o rfl z5aa rfl rfl (fun _=>⟨⟨?_,rfl⟩,rfl⟩),rfl,rfl⟩;rw[(Ef.o Af.o).1];rfl
theorem Am9(ih:Is b tb cap te ts n)(w:World)(s:PS)(r:BT A6×PS)(hk:kT s=12)(hs:PR b tb cap te ts w s)(hp:Ah (n+1) 9 0 .nil s=some r) :
  Calls Tryz.prog 190 #[.pointer (some ⟨b,0,none⟩)] w (Pg b tb cap te ts w r):=by
 have HS:=A0 hs;have lb:=hs.lt;have Ga:=Li;obtain⟨x,hx,hr⟩:=A31 hk hp;have HR:=A0 hr;have Af:Hid (s.bad=0):=hs.Gx z4va;have HX:=A0 (fun(W:World) (h:PR b tb cap te ts W (As s))=>Kq ih W (As s) x h hx);have t9:((kT s:Int)==9)=false:=kn (c:=9) rfl z4va;have t10:((kT s:Int)==10)=false:=kn (c:=10) rfl z4va;have t11:((kT s:Int)==11)=false:=kn (c:=11) rfl z4va;have t12:((kT s:Int)==12)=true:=ke (c:=12) rfl hk;clear hp hs hk hx hr;go_enter Tryz.func190,Tryz.ntmps190;go_wp2_with fail
 refine(Ds HS.o).mono ?_;rintro e w1 ⟨rfl,h1,A1⟩;have Bv:=A0 (Below.only (b:=b) A1);have B3:Hid (A9 b w w1):=(A9.refl b w).trans Bv.o;have Dt:=B3.o.size;have H1:=A0 h1;clear h1 A1;go_wp2_with fail
 refine(Hg H1.o).mono ?_;rintro e w2 ⟨Gc,nn2,S2,rfl,F4,h2,Bb⟩;have B2:=A0 Bb;have Bh:Hid (A9 b w w2):=B3.o.trans B2.o;have Fa:=Bh.o.size;have Ef:=A0 F4;have H2:=A0 h2;clear h2 Bb F4;go_wp2_with fail
 refine(HX.o _ H2.o).mono ?_;rintro e w3 ⟨ty3,x3,rfl,h3,Cs,Ce⟩;have Bi:=A0 Cs;have Ck:Hid (A9 b w w3):=Bh.o.trans Bi.o;have lw3:=Ck.o.size;have C3:=A0 Ce;have H3:=A0 h3;clear h3 Cs Ce;go_wp2;go_ret;rw[HR.o];refine⟨(nd (B7 27 (B6 s).line) x.1,x.2),Ht (l:=B7 27 (B6 s).line) (ch:=x.1) (ks:=[.iface ty3 x3]) H3.o Ck.o rfl z5aa rfl rfl (fun hb=>⟨⟨_,?_,rfl⟩,An.weak z4va (C3.o hb)⟩),rfl,rfl⟩;rw[(Ef.o Af.o).1];rfl
theorem z1la {P:Prop} (h:P:=by
  go_wp2_with fail
  refine(Tx _ _ _).mono ?_;rintro e w' ⟨rfl,rfl⟩;rw[tc];go_wp2;go_ret;rw[HR.o];refine⟨(nd (B7 30 (Jp x.1).line) x.1,x.2),?_,rfl,rfl⟩;exact Ht (l:=B7 30 (Jp x.1).line) (ch:=x.1) (ks:=[.iface Ia x2]) H2.o Bh.o rfl z5aa rfl rfl (fun hb=>⟨⟨_,rfl,rfl⟩,An.weak z4va (Cd.o hb)⟩)):P:=h
theorem Amf(ih:Is b tb cap te ts n)(w:World)(s:PS)(r:BT A6×PS)(hk:¬(5<=kT s/\kT s<=12/\kT s≠7))(hs:PR b tb cap te ts w s)(hp:Ah (n+1) 9 0 .nil s=some r) :
  Calls Tryz.prog 190 #[.pointer (some ⟨b,0,none⟩)] w (Pg b tb cap te ts w r):=by
 have HS:=A0 hs;have lb:=hs.lt;have Ga:=Li;obtain⟨x,hx,hc⟩:=Y0 hk hp;have HC:=A0 hc;have HX:=A0 (fun(W:World) (h:PR b tb cap te ts W s)=>Kq ih W s x h hx);have t9:((kT s:Int)==9)=false:=kn (c:=9) rfl z4va;have t10:((kT s:Int)==10)=false:=kn (c:=10) rfl z4va;have t11:((kT s:Int)==11)=false:=kn (c:=11) rfl z4va;have t12:((kT s:Int)==12)=false:=kn (c:=12) rfl z4va;clear hp hs hk hx hc Ga;go_enter Tryz.func190,Tryz.ntmps190;go_wp2_with fail
 refine(Ds HS.o).mono ?_;rintro e w1 ⟨rfl,h1,A1⟩;have Bv:=A0 (Below.only (b:=b) A1);have B3:Hid (A9 b w w1):=(A9.refl b w).trans Bv.o;have Dt:=B3.o.size;have H1:=A0 h1;clear h1 A1;go_wp2_with fail
 refine(HX.o _ H1.o).mono ?_;rintro e w2 ⟨Ia,x2,rfl,h2,Bb,B5⟩;have B2:=A0 Bb;have Bh:Hid (A9 b w w2):=B3.o.trans B2.o;have Fa:=Bh.o.size;have Cd:=A0 B5;have H2:=A0 h2;clear h2 Bb B5;rcases HC.o with⟨c1,c2,v,hv,hr⟩|⟨c1,c2,v,hv,hr⟩|⟨c2,hr⟩
 ·have Bf:x.2.bad=0:=H2.o.Gx z4va;have tc:Ok Ia=true:=by rw[(Yd (Cd.o Bf) (Cd.o Bf)).1];exact c1
  have HCs:=A0 c1;have HB:=A0 Bf;have HR:=A0 hr;have tk:(kT x.2==26)=true:=by simpa using c2
  have HM:Hid (Hz 26 x.2=As x.2):=by show _=_;unfold Hz;rw[if_pos c2]
  have HV:=A0 (fun(W:World) (h:PR b tb cap te ts W (As x.2))=>Kq ih W (As x.2) v h hv);clear c1 c2 hv hr HC Bf;go_wp2_with fail
  refine(Tx _ _ _).mono ?_;rintro e w' ⟨rfl,rfl⟩;rw[tc];go_wp2_with fail
  refine(Mw H2.o 26).mono ?_;rintro e w3 ⟨rfl,h3,Cs⟩;have Bi:=A0 Cs;have Ck:Hid (A9 b w w3):=Bh.o.trans Bi.o;have lw3:=Ck.o.size;rw[tk];rw[HM.o]at h3;have H3:=A0 h3;clear h3 Cs;go_wp2_with fail
  refine(HV.o _ H3.o).mono ?_;rintro e w4 ⟨ty4,x4,rfl,h4,Cl,Fy⟩;have Cq:=A0 Cl;have C2:Hid (A9 b w w4):=Ck.o.trans Cq.o;have lw4:=C2.o.size;have Cu:=A0 Fy;have H4:=A0 h4;clear h4 Cl Fy;go_wp2;go_ret;rw[HR.o];refine⟨(setNode x.1 v.1,v.2),⟨_,_,rfl,PR.alloc H4.o _,C2.o.alloc _,fun hb=>?_⟩,rfl,rfl⟩;have r2:An (fun g=>w.heap.size<=g) w4 x.1 [.iface Ia x2]:=An.later z4va z4va (Bi.o.trans Cq.o) (Cd.o HB.o);have r4:An (fun g=>w.heap.size<=g) w4 v.1 [.iface ty4 x4]:=An.weak z4va (Cu.o hb);obtain⟨l,ch,ks,e1,e2,e3,e4,e5,e6⟩:=(Yd r2 r4).2 HCs.o;have hcl:=Ht (w:=w) (W:=w4) (r:=(setNode x.1 v.1,v.2)) (l:=l) (ch:=ch) (ks:=ks) (cs:=#[.iface Ia x2,.iface ty4 x4]) (t:=268) (tt:=322) H4.o C2.o e1 e2 e3.symm e4.symm (fun _=>⟨e5,e6⟩);obtain⟨t',x',e',_,_,hrr⟩:=hcl;injection e' with e';rw[←e']at hrr;exact hrr hb
 ·have Bf:x.2.bad=0:=H2.o.Gx z4va;have tc:Ok Ia=false:=by rw[(Yd (Cd.o Bf) (Cd.o Bf)).1];exact c1
  have hf:(Eg x.2).bad≠0:=Wu (fun e=>(H2.o.lines e).1);have Ft:v.2=Eg x.2:=R1 (Qq _ Bf) hf _ _ _ _ _ hv;have hw:Be 25 v.2=Be 25 x.2:=by
   rw[Ft,A4v z4wa hf (Qq _ Bf)];unfold Be;rw[if_neg z4va]
  have HR:Hid (r=(nd (B7 30 (Jp x.1).line) x.1,Be 25 x.2)):=by show _=_;rw[hr,hw]
  clear c1 c2 hv hr HC Bf hf Ft hw;exact z1la
 ·have HR:=A0 hr;have tk:(kT x.2==26)=false:=by simpa using c2
  have HM:Hid (Hz 26 x.2=x.2):=by show _=_;unfold Hz;rw[if_neg c2]
  clear c2 hr HC;cases tc:Ok Ia
  ·exact z1la
  ·go_wp2_with fail
   refine(Tx _ _ _).mono ?_;rintro e w' ⟨rfl,rfl⟩;rw[tc];go_wp2_with fail
   refine(Mw H2.o 26).mono ?_;rintro e w3 ⟨rfl,h3,Cs⟩;have Bi:=A0 Cs;have Ck:Hid (A9 b w w3):=Bh.o.trans Bi.o;have lw3:=Ck.o.size;rw[tk];rw[HM.o]at h3;have H3:=A0 h3;clear h3 Cs;go_wp2;go_ret;rw[HR.o];refine⟨(nd (B7 30 (Jp x.1).line) x.1,x.2),?_,rfl,rfl⟩;exact Ht (l:=B7 30 (Jp x.1).line) (ch:=x.1) (ks:=[.iface Ia x2]) H3.o Ck.o rfl z5aa rfl rfl (fun hb=>⟨⟨_,rfl,rfl⟩,An.later z4va z4va Bi.o (Cd.o hb)⟩)
theorem Ai3(ih:Is b tb cap te ts n)(w:World)(s:PS)(r:BT A6×PS)(h5:kT s≠5)(h6:kT s≠6)(h8:kT s≠8)(hs:PR b tb cap te ts w s)(hp:Ah (n+1) 9 0 .nil s=some r) :
  Calls Tryz.prog 190 #[.pointer (some ⟨b,0,none⟩)] w (Pg b tb cap te ts w r):=by
 by_cases c9:kT s=9
 ·by_cases c25:kT (As s)=25
  ·exact Amd w s r c9 c25 hs hp
  ·exact Ame ih w s r c9 c25 hs hp
 by_cases c10:kT s=10
 ·exact Ak9 w s r c10 hs hp
 by_cases c11:kT s=11
 ·exact Akc w s r c11 hs hp
 by_cases c12:kT s=12
 ·exact Am9 ih w s r c12 hs hp
 exact Amf ih w s r z4va hs hp
theorem Ai4(ih:Is b tb cap te ts n)(w:World)(s:PS)(r:BT A6×PS)(hs:PR b tb cap te ts w s)(hp:Ah (n+1) 9 0 .nil s=some r) :
  Calls Tryz.prog 132 #[.pointer (some ⟨b,0,none⟩)] w (Hp b tb cap te ts w r):=by
 by_cases c8:kT s=8
 ·exact Aif ih w s r c8 hs hp
 have HS:=A0 hs;have lb:=hs.lt;by_cases c5:kT s=5
 ·have HX:=A0 (fun(W:World) (h:PR b tb cap te ts W s)=>Ahl ih W s r c5 h hp);have t5:((kT s:Int)==5)=true:=ke (c:=5) rfl c5;clear hp hs c5 c8;go_enter Tryz.func132,Tryz.ntmps132;exact z05a
 have t5:((kT s:Int)==5)=false:=kn (c:=5) rfl c5;by_cases c6:kT s=6
 ·have HX:Hid (∀W,PR b tb cap te ts W s->Calls Tryz.prog 187 #[.pointer (some ⟨b,0,none⟩)] W (Hp b tb cap te ts W r)):=by
   intro W h;obtain⟨x,bl,h1,h2,⟨h3,c,h4,e⟩|⟨h3,e⟩⟩:=A2z c6 hp
   ·exact Ahj ih W s r c6 x bl h1 h2 h3 c h4 e h
   ·exact Ahi ih W s r c6 x bl h1 h2 h3 e h
  have t6:((kT s:Int)==6)=true:=ke (c:=6) rfl c6;clear hp hs c5 c8 c6;go_enter Tryz.func132,Tryz.ntmps132;exact z05a
 have t6:((kT s:Int)==6)=false:=kn (c:=6) rfl c6;have t8:((kT s:Int)==8)=false:=kn (c:=8) rfl c8;have HX:=A0 (fun(W:World) (h:PR b tb cap te ts W s)=>Ai3 ih W s r c5 c6 c8 h hp);clear hp hs c5 c8 c6;go_enter Tryz.func132,Tryz.ntmps132;go_wp2_with fail
 refine(Ds HS.o).mono ?_;rintro e w1 ⟨rfl,h1,A1⟩;have Bv:=A0 (Below.only (b:=b) A1);have B3:Hid (A9 b w w1):=(A9.refl b w).trans Bv.o;have Dt:=B3.o.size;have H1:=A0 h1;clear h1 A1;go_wp2_with fail
 refine(HX.o _ H1.o).mono ?_;rintro e w2 ⟨r2,⟨Ia,x2,rfl,h2,Bb,B5⟩,e21,e22⟩;have B2:=A0 Bb;have Bh:Hid (A9 b w w2):=B3.o.trans B2.o;have Fa:=Bh.o.size;have Cd:=A0 B5;have HE1:=A0 e21;have HE2:=A0 e22;have H2:=A0 h2;clear h2 Bb B5 e21 e22;go_wp2_with fail
 refine(J0 H2.o 25).mono ?_;rintro e w3 ⟨kk3,ln3,nn3,S3,rfl,htk3,h3,Cs⟩;have Bi:=A0 Cs;have Ck:Hid (A9 b w w3):=Bh.o.trans Bi.o;have lw3:=Ck.o.size;have HTk3:=A0 htk3;have H3:=A0 h3;clear h3 Cs htk3;go_wp2;go_ret;refine⟨_,_,rfl,by rw[HE2.o];exact H3.o,Ck.o,fun hb=>?_⟩;rw[HE2.o]at hb;rw[HE1.o];exact An.later z4va z4va Bi.o (Cd.o (Lv hb))
theorem b8{b tb cap te:Nat}{ts:List Tk}:∀N n,n<=N->n<=500000->Is b tb cap te ts n:=by
 intro N;induction N with
 | zero=>
  intro n hn _;obtain rfl:n=0:=by omega
  exact⟨fun _ _ _ _ _ _ h=>absurd h (Gf _ _ _ _ _),fun _ _ _ _ h=>absurd h (Gf _ _ _ _ _),fun _ _ _ _ h=>absurd h (Gf _ _ _ _ _),fun _ _ _ _ _ h=>absurd h (Gf _ _ _ _ _),fun _ _ _ _ h=>absurd h (Gf _ _ _ _ _),fun _ _ _ _ h=>absurd h (Gf _ _ _ _ _)⟩
 | succ N ih=>
  intro n hn h5;cases n with
  | zero=>exact ih 0 z4va z4va
  | succ n=>
   have ihn:∀m,m<=n->Is b tb cap te ts m:=fun m hm=>ih m z4va z4va;exact⟨fun w s a r ha hs hp=>Ahe ihn w s a r ha hs hp,fun w s r hs hp=>Ai7 ihn w s r hs hp,fun w s r hs hp=>Ahd (ihn n (Nat.le_refl _)) w s r hs hp,
    fun w s a r hs hp=>Aes ihn z4va w s a r hs hp,fun w s r hs hp=>Ahf ihn z4va w s r hs hp,fun w s r hs hp=>Ai4 (ihn n (Nat.le_refl _)) w s r hs hp⟩
end
section
open Go.RowKit
open Go.Deep (BT)
theorem Ai0{n:Nat}{acc:List (Nat×List UInt8)}{s:PS}{r:List (Nat×List UInt8)×PS}(hk:kT (Be 1 s)=24)(h:Lb (n+1) acc s=some r):Lb n (acc++[((B6 s).line,(B6 s).s)]) (As (Be 1 s))=some r:=by
 rw[Lb,if_pos hk]at h;exact h
theorem Ahz{n:Nat}{acc:List (Nat×List UInt8)}{s:PS}{r:List (Nat×List UInt8)×PS}(hk:kT (Be 1 s)≠24)(h:Lb (n+1) acc s=some r):r=(acc++[((B6 s).line,(B6 s).s)],Be 19 (Be 1 s)):=by
 rw[Lb,if_neg hk]at h;exact z1pa
end
end Go.Proofs.YtjdlndhfaaolaaaGreatDoor
