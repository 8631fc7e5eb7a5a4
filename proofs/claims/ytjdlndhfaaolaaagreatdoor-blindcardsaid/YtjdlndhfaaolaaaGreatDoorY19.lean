import Derived.Deep.RegionHeld3
import Derived.Test.YtjdlndhfaaolaaaGreatDoorY14
set_option maxHeartbeats 20000000
set_option linter.defProp false
namespace Go.Proofs.YtjdlndhfaaolaaaGreatDoor
section
set_option maxRecDepth 100000
open Go.RowKit
open Go.Deep (BT)
def Ab7(b tb cap te:Nat)(ts:List Tk)(n:Nat)(r:BT A5×PS)(w:World)(k:Nat)(v:Value)(wr:World):Prop:=
 ∃(acc:BT A5) (st:PS) (ty:TypeId) (x:Value),v=.iface ty x/\k<=n/\Ak k 3 0 acc st=some r/\PR b tb cap te ts wr st/\A8 b w wr/\(st.bad=0->Ar (fun g=>w.heap.size<=g) wr acc [.iface ty x])
def z3ba {P:Prop} (h:P:=by
  go_wp2;go_ret;rw[HE.o];exact⟨_,_,rfl,H4.o,hO.trans Ce.o,fun hb=>Ar.only z4ma Ce.o (hrep hb)⟩):P:=h
def Aob{b tb cap te:Nat}{ts:List Tk}{n:Nat}(ih:∀m,m<=n->K5 b tb cap te ts m)(w:World)(s:PS)(r:BT A5×PS)(x:BT A5×PS)(hs:PR b tb cap te ts w s)(hx:Ak n 4 0 .nil s=some x)(hp:Ak n 3 0 x.1 x.2=some r) :
  Calls Tryz.prog 285 #[.p b] w (J4 b tb cap te ts w r):=by
 have lb:=hs.lt;have HX:=A0 (fun(W:World) (h:PR b tb cap te ts W s)=>(ih n (Af _)).atom W s x h hx);have hf1:=Nu;go_in;go_wp2_with fail
 refine(HX.o _ hs).mono ?_;rintro e w1 ⟨ty1,x1,rfl,h1,Cy,Cd⟩;have Bd:A8 b w w1:=(A8.refl b w).trans Cy;have Ef:=Bd.size;go_wp2;go_loopg [3] n (fun k v wr=>Ab7 b tb cap te ts n r w k v wr)
 case atStart=>exact⟨x.1,x.2,ty1,x1,rfl,Af _,hp,h1,Bd,Cd⟩
 case round=>
  obtain⟨acc,st,ty,x0,rfl,hkn,hpk,hrs,hO,hrep⟩:=hrel;cases gk with
  | zero=>exact absurd hpk (M6 _ _ _ _ _)
  | succ m=>
  have lwr:=hO.size;by_cases c22:kT st=22
  ·obtain⟨z,Cu,Dg⟩:=Anj c22 hpk;have HX:=A0 (fun(W:World) (h:PR b tb cap te ts W (At st))=>Mu (ih m z4ma) W (At st) z h Cu);have tk:((kT st:Int)==22)=true:=ke (c:=22) rfl c22;have Ag:st.bad=0:=hrs.Ij z4ma;go_wp2_with fail
   refine(E9 hrs).mono ?_;rintro e w4 ⟨rfl,h4,Bz⟩;have H8:=A0 (Below.only (b:=b) Bz);have Ce:Hid (A8 b wr w4):=(A8.refl b wr).trans H8.o;have lw4:=Ce.o.size;have H4:=A0 h4;go_wp2_with fail
   refine(Iz H4.o).mono ?_;rintro e w5 ⟨ln5,nn5,S5,rfl,htk5,h5,Fc⟩;have Cq:A8 b wr w5:=Ce.o.trans Fc;have lw5:=Cq.size;go_wp2_with fail
   refine(HX.o _ h5).mono ?_;rintro e w6 ⟨ty6,x6,rfl,h6,ho6,hr6⟩;have Dz:A8 b wr w6:=Cq.trans ho6;have lw6:=Dz.size;have HCl:J4 b tb cap te ts w (nd (B4 12 (B6 st).line) (Dw acc z.1),z.2) (.returned (.iface 310 (.p w6.heap.size))) (w6.alloc (.cells #[.i ln5,.iface ty x0,.iface ty6 x6] 312)):=by
    refine J7 (l:=B4 12 (B6 st).line) (ch:=Dw acc z.1) (ks:=[.iface ty x0,.iface ty6 x6]) h6 (hO.trans Dz) rfl z52a rfl rfl (fun hb=>⟨⟨_,_,by rw[(htk5 Ag).1];rfl,rfl⟩,?_⟩);exact Ar.app _ _ [_] [_] (Ar.only z4ma Dz (hrep Ag)) (Ar.weak z4ma (hr6 hb))
   have HClP:=PR.alloc h6 (.cells #[.i ln5,.iface ty x0,.iface ty6 x6] 312);go_wp2_with fail
   refine(Kc HClP 23).mono ?_;rintro e w7 ⟨kk7,ln7,nn7,S7,rfl,htk7,h7,ho7⟩;have HO7:A8 b wr w7:=(Dz.alloc _).trans ho7;have lw7:=HO7.size;go_wp2;go_roundg m
   case measure=>omega
   case rel=>
    refine⟨_,_,_,_,rfl,by omega,Dg,h7,hO.trans HO7,fun hb=>?_⟩;obtain⟨t',x',e',_,_,hrr⟩:=HCl;injection e' with e';rw[←e']at hrr;exact Ar.only z4ma ho7 (hrr (Nz hb))
  ·have HE:=A0 (Ank c22 hpk);have tk:((kT st:Int)==22)=false:=kn (c:=22) rfl c22;go_wp2_with fail
   refine(E9 hrs).mono ?_;rintro e w4 ⟨rfl,h4,Bz⟩;have H8:=A0 (Below.only (b:=b) Bz);have Ce:Hid (A8 b wr w4):=(A8.refl b wr).trans H8.o;have lw4:=Ce.o.size;have H4:=A0 h4;exact z3ba
def Apa{b tb cap te:Nat}{ts:List Tk}{n:Nat}(ih:∀m,m<=n->K5 b tb cap te ts m)(w:World)(s:PS)(r:BT A5×PS)(hs:PR b tb cap te ts w s)(hp:Ak (n+1) 2 0 .nil s=some r) :
  Calls Tryz.prog 261 #[.p b] w (J4 b tb cap te ts w r):=by
 have HS:=A0 hs;have lb:=hs.lt;by_cases c28:kT s=28
 ·obtain⟨x,hx,hr⟩:=Anu c28 hp;have HR:=A0 hr;have Ag:Hid (s.bad=0):=hs.Ij z4ma;have HX:=A0 (fun(W:World) (h:PR b tb cap te ts W (At s))=>(ih n (Af _)).unary W (At s) x h hx);have t28:((kT s:Int)==28)=true:=ke (c:=28) rfl c28;have HK:=A0 c28;clear hp hs hx hr c28;go_in;go_wp2_with fail
  refine(E9 HS.o).mono ?_;rintro e w1 ⟨rfl,h1,A2⟩;have Cn:=A0 (Below.only (b:=b) A2);have Bd:Hid (A8 b w w1):=(A8.refl b w).trans Cn.o;have Ef:=Bd.o.size;have H1:=A0 h1;clear h1 A2;go_wp2_with fail
  refine(Iz H1.o).mono ?_;rintro e w2 ⟨Hv,nn2,S2,rfl,Iu,h2,C4⟩;have Bk:=A0 C4;have Bo:Hid (A8 b w w2):=Bd.o.trans Bk.o;have G0:=Bo.o.size;have K7:=A0 Iu;have H2:=A0 h2;clear h2 C4 Iu;have Im:=A0 (Bp w2 (.cells #[.n (kT s),.i Hv,.s S2,.i nn2] 198));have HTP:=A0 (PR.drew (PR.alloc H2.o (.cells #[.n (kT s),.i Hv,.s S2,.i nn2] 198)));have HTO:=A0 ((Bo.o.alloc (.cells #[.n (kT s),.i Hv,.s S2,.i nn2] 198)).drew);have hne:w2.heap.size≠b:=by omega
  go_wp2;generalize hW:w2.alloc (.cells #[.n (kT s),.i Hv,.s S2,.i nn2] 198)=W2 at *;have HW:=A0 hW;clear hW;generalize hgw:w2.heap.size=tk1 at *;have HGw:=A0 hgw;clear hgw;obtain⟨y0,y1,y2,y3,fy,ly⟩:=Eo Im.o;have lW2:w.heap.size<=W2.heap.size:=HTO.o.size;have HXd:=A0 (HX.o _ HTP.o);go_region_with (go_at_call 261;refine HXd.o.mono ?_;rintro e w9 ⟨ty9,x9,rfl,h9,ho9,hr9⟩;have Ka:=ho9.blk (show W2.drew.heap[tk1]?=_ from Im.o) hne;obtain⟨z0,z1,z2,z3,fz,lz⟩:=Eo Ka;clear Ka)
  all_goals go_wp2
  all_goals go_ret
  all_goals rw[HR.o]
  all_goals refine J7 (l:=B4 13 (B6 s).line) (ch:=x.1) (ks:=[.iface ty9 x9]) h9 (HTO.o.trans ho9) rfl z52a rfl rfl (fun hb=>⟨⟨_,?_,rfl⟩,Ar.weak (by show _<=W2.heap.size;omega) (hr9 hb)⟩)
  all_goals rw[(K7.o Ag.o).1,HK.o];rfl
 by_cases c35:kT s=35
 ·obtain⟨x,hx,hr⟩:=Ant c35 hp;have HR:=A0 hr;have Ag:Hid (s.bad=0):=hs.Ij z4ma;have HX:=A0 (fun(W:World) (h:PR b tb cap te ts W (At s))=>(ih n (Af _)).unary W (At s) x h hx);have t28:((kT s:Int)==28)=false:=kn (c:=28) rfl c28;have t35:((kT s:Int)==35)=true:=ke (c:=35) rfl c35;have HK:=A0 c35;clear hp hs hx hr c35 c28;go_in;go_wp2_with fail
  refine(E9 HS.o).mono ?_;rintro e w1 ⟨rfl,h1,A2⟩;have Cn:=A0 (Below.only (b:=b) A2);have Bd:Hid (A8 b w w1):=(A8.refl b w).trans Cn.o;have Ef:=Bd.o.size;have H1:=A0 h1;clear h1 A2;go_wp2_with fail
  refine(E9 H1.o).mono ?_;rintro e w2 ⟨rfl,h2,Ad⟩;have Bk:=A0 (Below.only (b:=b) Ad);have Bo:Hid (A8 b w w2):=Bd.o.trans Bk.o;have G0:=Bo.o.size;have H2:=A0 h2;clear h2 Ad;go_wp2_with fail
  refine(Iz H2.o).mono ?_;rintro e w3 ⟨ln3,nn3,S3,rfl,htk3,h3,E8⟩;have C2:=A0 E8;have D1:Hid (A8 b w w3):=Bo.o.trans C2.o;have lw3:=D1.o.size;have HTk3:=A0 htk3;have H3:=A0 h3;clear h3 E8 htk3;have Im:=A0 (Bp w3 (.cells #[.n (kT s),.i ln3,.s S3,.i nn3] 198));have HTP:=A0 (PR.drew (PR.alloc H3.o (.cells #[.n (kT s),.i ln3,.s S3,.i nn3] 198)));have HTO:=A0 ((D1.o.alloc (.cells #[.n (kT s),.i ln3,.s S3,.i nn3] 198)).drew);have hne:w3.heap.size≠b:=by omega
  go_wp2;generalize hW:w3.alloc (.cells #[.n (kT s),.i ln3,.s S3,.i nn3] 198)=W2 at *;have HW:=A0 hW;clear hW;generalize hgw:w3.heap.size=tk1 at *;have HGw:=A0 hgw;clear hgw;obtain⟨y0,y1,y2,y3,fy,ly⟩:=Eo Im.o;have lW2:w.heap.size<=W2.heap.size:=HTO.o.size;have HXd:=A0 (HX.o _ HTP.o);go_region_with (go_at_call 261;refine HXd.o.mono ?_;rintro e w9 ⟨ty9,x9,rfl,h9,ho9,hr9⟩;have Ka:=ho9.blk (show W2.drew.heap[tk1]?=_ from Im.o) hne;obtain⟨z0,z1,z2,z3,fz,lz⟩:=Eo Ka;clear Ka)
  all_goals go_wp2
  all_goals go_ret
  all_goals rw[HR.o]
  all_goals refine J7 (l:=B4 14 (B6 s).line) (ch:=x.1) (ks:=[.iface ty9 x9]) h9 (HTO.o.trans ho9) rfl z52a rfl rfl (fun hb=>⟨⟨_,?_,rfl⟩,Ar.weak (by show _<=W2.heap.size;omega) (hr9 hb)⟩)
  all_goals rw[(HTk3.o Ag.o).1,HK.o];rfl
 obtain⟨x,hx,hr⟩:=A87 c28 c35 hp;have HX:=A0 (fun(W:World) (h:PR b tb cap te ts W s)=>Aob ih W s r x h hx hr);have t28:((kT s:Int)==28)=false:=kn (c:=28) rfl c28;have t35:((kT s:Int)==35)=false:=kn (c:=35) rfl c35;clear hp hs hx hr c28 c35;go_in;go_wp2_with fail
 refine(E9 HS.o).mono ?_;rintro e w1 ⟨rfl,h1,A2⟩;have Cn:=A0 (Below.only (b:=b) A2);have Bd:Hid (A8 b w w1):=(A8.refl b w).trans Cn.o;have Ef:=Bd.o.size;have H1:=A0 h1;clear h1 A2;go_wp2_with fail
 refine(E9 H1.o).mono ?_;rintro e w2 ⟨rfl,h2,Ad⟩;have Bk:=A0 (Below.only (b:=b) Ad);have Bo:Hid (A8 b w w2):=Bd.o.trans Bk.o;have G0:=Bo.o.size;have H2:=A0 h2;clear h2 Ad;go_wp2_with fail
 refine(HX.o _ H2.o).mono ?_;rintro e w3 ⟨ty3,x3,rfl,h3,E8,Gg⟩;have C2:=A0 E8;have D1:Hid (A8 b w w3):=Bo.o.trans C2.o;have lw3:=D1.o.size;have Jr:=A0 Gg;have H3:=A0 h3;clear h3 E8 Gg;go_wp2;go_ret;exact⟨_,_,rfl,H3.o,D1.o,fun hb=>Ar.weak z4ma (Jr.o hb)⟩
def A24{k a:Nat}(h:rowOf k=a+1):k=27\/k=29\/k=30\/k=31\/k=32\/k=33\/k=34\/k=35\/k=36\/k=37\/k=38\/k=39\/k=40:=by
 unfold rowOf at h;split at h
 ·omega
 split at h
 ·omega
 split at h
 ·omega
 split at h
 ·omega
 split at h
 ·omega
 split at h
 ·omega
 ·omega
def Aqj{k:Nat}:rowOf k<=6:=by
 unfold rowOf;split
 ·omega
 split
 ·omega
 split
 ·omega
 split
 ·omega
 split
 ·omega
 split
 ·omega
 ·omega
def p9{k a:Nat}(h:rowOf k=a+1):¬(100+k=31\/100+k=32)/\248=Cw (100+k)/\295=E4 (100+k):=by
 rcases A24 h with rfl|rfl|rfl|rfl|rfl|rfl|rfl|rfl|rfl|rfl|rfl|rfl|rfl <;> exact⟨by decide,rfl,rfl⟩
def Af0{k a:Nat}(h:rowOf k=a+1)(D:Nat->Prop)(w:World)(line:Nat)(x y:Value):Di D w (B4 (100+k) line) #[Hw line,.n k,x,y] [x,y]:=by
 rcases A24 h with rfl|rfl|rfl|rfl|rfl|rfl|rfl|rfl|rfl|rfl|rfl|rfl|rfl <;> exact⟨x,y,rfl,rfl⟩
def Aaz(b tb cap te:Nat)(ts:List Tk)(a n:Nat)(r:BT A5×PS)(w:World)(k:Nat)(v:Value)(wr:World):Prop:=
 ∃(acc:BT A5) (st:PS) (ty:TypeId) (x:Value),v=.iface ty x/\k<=n/\Ak k 1 a acc st=some r/\PR b tb cap te ts wr st/\A8 b w wr/\(st.bad=0->Ar (fun g=>w.heap.size<=g) wr acc [.iface ty x])
def Aod{b tb cap te:Nat}{ts:List Tk}{n:Nat}(ih:∀m,m<=n->K5 b tb cap te ts m)(w:World)(s:PS)(a:Nat)(r:BT A5×PS)(ha:a<=6)(hs:PR b tb cap te ts w s)(hp:Ak (n+1) 0 a .nil s=some r) :
  Calls Tryz.prog 232 #[.p b,.n ((a+1:Nat))] w (J4 b tb cap te ts w r):=by
 have lb:=hs.lt;by_cases c6:a=6
 ·subst c6;have HX:=A0 (fun(W:World) (h:PR b tb cap te ts W s)=>(ih n (Af _)).unary W s r h (A84 hp));go_in;go_wp2_with fail
  refine(HX.o _ hs).mono ?_;rintro e w1 ⟨ty1,x1,rfl,h1,Cy,Cd⟩;have Cn:=A0 Cy;have Bd:Hid (A8 b w w1):=(A8.refl b w).trans Cn.o;have Ef:=Bd.o.size;have HR1:=A0 Cd;have H1:=A0 h1;go_wp2;go_ret;exact⟨_,_,rfl,H1.o,Bd.o,fun hb=>Ar.weak z4ma (HR1.o hb)⟩
 ·obtain⟨x,hx,hpr⟩:=A83 c6 hp;have HX:=A0 (fun(W:World) (h:PR b tb cap te ts W s)=>(ih n (Af _)).expr W s (a+1) x z4ma h hx);have t6:decide (6<((a+1:Nat):Int))=false:=O2 z4ma;go_in;go_wp2_with fail
  refine(HX.o _ hs).mono ?_;rintro e w1 ⟨ty1,x1,rfl,h1,Cy,Cd⟩;have Cn:=A0 Cy;have Bd:Hid (A8 b w w1):=(A8.refl b w).trans Cn.o;have Ef:=Bd.o.size;have HR1:=A0 Cd;have H1:=A0 h1;go_wp2;go_loopg [5] n (fun k v wr=>Aaz b tb cap te ts a n r w k v wr)
  case atStart=>exact⟨x.1,x.2,ty1,x1,rfl,Af _,hpr,H1.o,Bd.o,HR1.o⟩
  case round=>
   obtain⟨acc,st,ty,x0,rfl,hkn,hpk,hrs,hO,hrep⟩:=hrel;cases gk with
   | zero=>exact absurd hpk (M6 _ _ _ _ _)
   | succ m=>
   have lwr:=hO.size;have hk40:=hrs.Vy;have hrl:=Aqj (k:=kT st);by_cases cr:rowOf (kT st)=a+1
   ·obtain⟨z,Cu,Dg⟩:=Anq cr hpk;have HX:=A0 (fun(W:World) (h:PR b tb cap te ts W (At st))=>(ih m z4ma).expr W (At st) (a+1) z z4ma h Cu);have tk:((rowOf (kT st):Int)==((a+1:Nat):Int))=true:=by rw[cr];simp
    have Ag:st.bad=0:=hrs.Ij (by have:=A24 cr;omega);go_wp2_with fail
    refine(E9 hrs).mono ?_;rintro e w4 ⟨rfl,h4,Bz⟩;have H8:=A0 (Below.only (b:=b) Bz);have Ce:Hid (A8 b wr w4):=(A8.refl b wr).trans H8.o;have lw4:=Ce.o.size;have H4:=A0 h4;go_wp2_with fail
    refine(A8p _ hk40 _).mono ?_;rintro e w' ⟨rfl,rfl⟩;go_wp2_with fail
    refine(Iz H4.o).mono ?_;rintro e w5 ⟨ln5,nn5,S5,rfl,htk5,h5,Fc⟩;have Cq:A8 b wr w5:=Ce.o.trans Fc;have lw5:=Cq.size;have Im:=Bp w5 (.cells #[.n (kT st),.i ln5,.s S5,.i nn5] 198);go_wp2_with fail
    refine(HX.o _ (PR.alloc h5 _)).mono ?_;rintro e w6 ⟨ty6,x6,rfl,h6,ho6,hr6⟩;have Dz:A8 b wr w6:=(Cq.alloc _).trans ho6;have lw6:=Dz.size;have hT6:=ho6.blk Im z4ma;obtain⟨y0,y1,y2,y3,fy,ly⟩:=Eo hT6;go_wp2;go_roundg m
    case measure=>omega
    case rel=>
     refine⟨_,_,_,_,rfl,by omega,Dg,PR.alloc h6 _,(hO.trans Dz).alloc _,fun hb=>?_⟩;have hcl:=J7 (w:=w) (W:=w6) (r:=(nd (B4 (100+kT st) (B6 st).line) (Dw acc z.1),z.2)) (l:=B4 (100+kT st) (B6 st).line) (ch:=Dw acc z.1) (ks:=[.iface ty x0,.iface ty6 x6]) (cs:=#[Hw (B6 st).line,.n (kT st),.iface ty x0,.iface ty6 x6]) h6 (hO.trans Dz) rfl (p9 cr).1 (p9 cr).2.1 (p9 cr).2.2 (fun hb=>⟨Af0 cr _ _ _ _ _,Ar.app _ _ [_] [_] (Ar.only z4ma Dz (hrep Ag)) (Ar.weak z4qa (hr6 hb))⟩);obtain⟨t',x',e',_,_,hrr⟩:=hcl;injection e' with e';rw[←e']at hrr;rw[(htk5 Ag).1];exact hrr hb
   ·have HE:=A0 (Anp cr hpk);have tk:((rowOf (kT st):Int)==((a+1:Nat):Int))=false:=by rw[Am];omega
    go_wp2_with fail
    refine(E9 hrs).mono ?_;rintro e w4 ⟨rfl,h4,Bz⟩;have H8:=A0 (Below.only (b:=b) Bz);have Ce:Hid (A8 b wr w4):=(A8.refl b wr).trans H8.o;have lw4:=Ce.o.size;have H4:=A0 h4;go_wp2_with fail
    refine(A8p _ hk40 _).mono ?_;rintro e w' ⟨rfl,rfl⟩;exact z3ba
def U5(s:PS)(h:s.bad=0):(Et s).ts=[Kx]:=by unfold Et;rw[A7 h]
def Ain{n:Nat}{s:PS}{r:BT A5×PS}(hk:kT s=0)(h:Ak n 4 0 .nil s=some r):r.2=Et s:=by
 cases n with
 | zero=>exact absurd h (M6 _ _ _ _ _)
 | succ n=>rw[A86 z4ma z4ma z4ma z4ma z4ma z4ma z4ma z4ma z4ma z4ma h]
def Aim{n:Nat}{s:PS}{r:BT A5×PS}(h0:s.bad=0)(hf:(Et s).bad≠0)(hk:kT s=0)(h:Ak n 2 0 .nil s=some r):r.2=Et s:=by
 cases n with
 | zero=>exact absurd h (M6 _ _ _ _ _)
 | succ n=>
  obtain⟨x,h1,h2⟩:=A87 z4ma z4ma h;have e:=Ain hk h1;rw[Uf (by rw[e];exact U5 s h0) (by rw[e];exact hf) _ _ _ _ _ h2,e]
def Ail{s:PS}(h0:s.bad=0)(hf:(Et s).bad≠0)(hk:kT s=0):∀n a r,Ak n 0 a .nil s=some r->r.2=Et s:=by
 intro n;induction n with
 | zero=>intro a r h;exact absurd h (M6 _ _ _ _ _)
 | succ n ih=>
  intro a r h;by_cases h6:a=6
  ·subst h6;exact Aim h0 hf hk (A84 h)
  ·obtain⟨x,h1,h2⟩:=A83 h6 h;have e:=ih _ _ h1;rw[Uf (by rw[e];exact U5 s h0) (by rw[e];exact hf) _ _ _ _ _ h2,e]
def A61{s:PS}(h:s.bad≠0):Et s=s:=by unfold Et;rw[A1 h]
def Aac{k:Nat}{s:PS}(hk:k≠0)(h:s.bad≠0)(ht:s.ts=[Kx]):Be k s=s:=by
 unfold Be;rw[A1 (by unfold kT B6;rw[ht];show ¬(0=k);omega),A61 h]
def Aio{n:Nat}{s:PS}{r:BT A5×PS}(h0:s.bad=0)(hf:(Et s).bad≠0)(hk:kT s=0)(h:Ak n 9 0 .nil s=some r):r.2=Et s:=by
 cases n with
 | zero=>exact absurd h (M6 _ _ _ _ _)
 | succ n=>
  obtain⟨x,h1,h2⟩:=A88 z4ma h;have e:=Ail h0 hf hk _ _ _ h1;have ek:kT x.2=0:=by rw[e];unfold Et;rw[A7 h0];rfl
  rcases h2 with⟨_,h3,_⟩|⟨_,h3,_⟩|⟨_,h3⟩
  ·omega
  ·omega
  ·rw[h3];show Be 25 x.2=_;rw[Aac z4oa (by rw[e];exact hf) (by rw[e];exact U5 s h0),e]
def Ab0(b tb cap te:Nat)(ts:List Tk)(n:Nat)(r:BT A5×PS)(w:World)(k:Nat)(v:Value)(wr:World):Prop:=
 ∃(acc:BT A5) (st:PS) (va:Option Addr) (vn vc:Nat) (cs:List Value),v=.slice va vn vc/\k<=n/\Ak k 8 0 acc st=some r/\PR b tb cap te ts wr st/\A8 b w wr/\cs.length+k<=n+1/\
  Dj (fun g=>w.heap.size<=g) wr 142 1 (.slice va vn vc) cs.length cs/\(st.bad=0->Ar (fun g=>w.heap.size<=g/\(Value.slice va vn vc).ownBlock≠some g) wr acc cs)
def z2wa {P:Prop} (h:P:=by
  simp only[Value.ownBlock,Cg]at hk;rw[←hk];rcases hat7 with h|h
  ·exact(hrow g7 h).2.2
  ·show w.heap.size<=g7;omega):P:=h
def Aoe{b tb cap te:Nat}{ts:List Tk}{n:Nat}(ih:∀m,m<=n->K5 b tb cap te ts m)(hn:n<=500000)(w:World)(s:PS)(r:BT A5×PS)(hs:PR b tb cap te ts w s)(hp:Ak (n+1) 7 0 .nil s=some r) :
  Calls Tryz.prog 185 #[.p b] w (Xe 142 b tb cap te ts w r):=by
 obtain⟨lb,lt,lne⟩:=hs.lt;have HP0:=Ane hp;go_in;go_wp2_with fail
 refine(Kc hs 20).mono ?_;rintro e w1 ⟨kk1,Jy,nn1,S1,rfl,L5,h1,Cy⟩;have Bd:A8 b w w1:=(A8.refl b w).trans Cy;have Ef:=Bd.size;go_wp2;go_loopg [3] n (fun k v wr=>Ab0 b tb cap te ts n r w k v wr)
 case atStart=>exact⟨.nil,_,none,0,0,[],rfl,Af _,HP0,h1,Bd,by simp,Rr _ _ _ _,fun _=>rfl⟩
 case round=>
  obtain⟨acc,st,va,vn,vc,cs,rfl,hkn,hpk,hrs,hO,hcn,hown,hrep⟩:=hrel;cases gk with
  | zero=>exact absurd hpk (M6 _ _ _ _ _)
  | succ m=>
  have lwr:=hO.size;have hne:(Value.slice va vn vc).ownBlock≠some b:=fun e=>by have h:w.heap.size<=b:=hown.2 b e;omega
  have HFb:st.bad=0->1<=(B6 st).line:=fun e=>(hrs.lines e).1;have HStk:=A0 hrs.P4;by_cases c21:kT st=21
  ·have HE:=A0 (Anc c21 hpk);have tk:((kT st:Int) !=21)=false:=by rw[c21];rfl
   have HW:Be 21 st=At st:=by show _=_;unfold Be;rw[A7 c21]
   go_wp2_with fail
   refine(E9 hrs).mono ?_;rintro e w4 ⟨rfl,h4,Bz⟩;have H8:=A0 (Below.only (b:=b) Bz);have Ce:Hid (A8 b wr w4):=(A8.refl b wr).trans H8.o;have lw4:=Ce.o.size;have H4:=A0 h4;go_wp2_with fail
   refine(Kc H4.o 21).mono ?_;rintro e w5 ⟨kk5,ln5,nn5,S5,rfl,htk5,h5,Fc⟩;have Kf:=A0 Fc;have Cq:Hid (A8 b wr w5):=Ce.o.trans Kf.o;have lw5:=Cq.o.size;have H5:=A0 h5;go_wp2;go_ret;rw[HE.o];refine⟨va,vn,vc,cs,rfl,⟨Bc hown.1 (fun k hk hl=>Cq.o.block k hl (fun e=>hne z59a)),hown.2⟩,by rw[←HW];exact H5.o,hO.trans Cq.o,fun hb=>?_⟩;rw[Us]at hb;exact Ar.keep (fun k hk hl=>⟨Cq.o.block k hl z4ma,hk.1⟩) _ _ (hrep hb)
  by_cases c0:kT st=0
  ·have HE:Hid (r.2=Be 21 st/\r.2.bad≠0):=by
    have hw:Be 21 st=Et st:=by unfold Be;rw[A1 c21]
    by_cases h0:st.bad=0
    ·obtain⟨x,hx,I5⟩:=A82 c21 h0 hpk;have hf:=A16 HFb;have e:=Aio h0 hf c0 hx;have e2:=Uf (by rw[e];exact U5 st h0) (by rw[e];exact hf) _ _ _ _ _ I5;rw[e2,e,hw];exact⟨rfl,hf⟩
    ·have e2:=Uf (HStk.o h0) h0 _ _ _ _ _ hpk;rw[e2,hw,A61 h0];exact⟨rfl,h0⟩
   have tk:((kT st:Int) !=21)=true:=by rw[c0];rfl
   have tk0:((kT st:Int) !=0)=false:=by rw[c0];rfl
   go_wp2_with fail
   refine(E9 hrs).mono ?_;rintro e w4 ⟨rfl,h4,Bz⟩;have H8:=A0 (Below.only (b:=b) Bz);have Ce:Hid (A8 b wr w4):=(A8.refl b wr).trans H8.o;have lw4:=Ce.o.size;have H4:=A0 h4;go_wp2_with fail
   refine(E9 H4.o).mono ?_;rintro e w5 ⟨rfl,h5,Cz⟩;have Kf:=A0 (Below.only (b:=b) Cz);have Cq:Hid (A8 b wr w5):=Ce.o.trans Kf.o;have lw5:=Cq.o.size;have H5:=A0 h5;go_wp2_with fail
   refine(Kc H5.o 21).mono ?_;rintro e w6 ⟨kk6,ln6,nn6,S6,rfl,htk6,h6,ho6⟩;have HP6:=A0 ho6;have Dz:Hid (A8 b wr w6):=Cq.o.trans HP6.o;have lw6:=Dz.o.size;have H6:=A0 h6;go_wp2;go_ret;refine⟨va,vn,vc,cs,rfl,⟨Bc hown.1 (fun k hk hl=>Dz.o.block k hl (fun e=>hne z59a)),hown.2⟩,by rw[HE.o.1];exact H6.o,hO.trans Dz.o,fun hb=>absurd hb HE.o.2⟩
  have Ag:st.bad=0:=hrs.Ij c0;obtain⟨z,Cu,Dg⟩:=A82 c21 Ag hpk;have HX:=fun(W:World) (h:PR b tb cap te ts W st)=>(ih m z4ma).stmt W st z h Cu;have tk:((kT st:Int) !=21)=true:=by simp;omega
  have tk0:((kT st:Int) !=0)=true:=by simpa using c0
  go_wp2_with fail
  refine(E9 hrs).mono ?_;rintro e w4 ⟨rfl,h4,Bz⟩;have H8:=A0 (Below.only (b:=b) Bz);have Ce:Hid (A8 b wr w4):=(A8.refl b wr).trans H8.o;have lw4:=Ce.o.size;have H4:=A0 h4;go_wp2_with fail
  refine(E9 H4.o).mono ?_;rintro e w5 ⟨rfl,h5,Cz⟩;have Kf:=A0 (Below.only (b:=b) Cz);have Cq:Hid (A8 b wr w5):=Ce.o.trans Kf.o;have lw5:=Cq.o.size;have H5:=A0 h5;go_wp2_with fail
  refine(HX _ H5.o).mono ?_;rintro e w6 ⟨ty6,x6,rfl,h6,ho6,hr6⟩;have HP6:=A0 ho6;have Dz:Hid (A8 b wr w6):=Cq.o.trans HP6.o;have lw6:=Dz.o.size;have H6:=A0 h6;have hown5:w6.ownsRow 0 142 1 (.slice va vn vc) cs.length cs:=Bc hown.1 (fun k hk hl=>Dz.o.block k hl (fun e=>hne z59a));go_wp2_with (at_builtin;refine Lh w6 #[.iface ty6 x6] 142 rfl (.tmp 14) (.tmp 17) 138 rfl 0 1 16 .nilIface Tryz.underlying138 A1h rfl z4ma _ _ _ rfl rfl hown5 rfl (fun u hu=>by simp at hu;rw[hu];rfl) z4ma z4ma (De _) ?_;intro g7 cap7 w7 hown7 hgrow7 hat7 hg7)
  replace hgrow7:w6.grownBy w7 (Value.slice va vn vc).ownBlock:=hgrow7;replace hat7:(Value.slice va vn vc).ownBlock=some g7\/g7=w6.heap.size+1:=hat7;have hrow:∀k,(Value.slice va vn vc).ownBlock=some k->k≠b/\k≠tb/\w.heap.size<=k:=fun k e=>by have h:w.heap.size<=k:=hown.2 k e;omega
  go_roundg m
  case measure=>omega
  case rel=>
   refine⟨Dw acc z.1,z.2,some ⟨g7,0,none⟩,cs.length+1,cap7,cs++[.iface ty6 x6],rfl,by omega,Dg,PR.grown H6.o hgrow7 (fun e=>(hrow b e).1 rfl) (fun e=>(hrow tb e).2.1 rfl),(hO.trans Dz.o).grown hgrow7 (fun k e=>.inr (hrow k e).2.2),by simp;omega,⟨by simpa using hown7,fun k hk=>?_⟩,fun hb=>?_⟩
   ·exact z2wa
   ·exact l7 lb lwr (hrep Ag) Dz.o (Ar.weak z4ma (hr6 hb)) hown.1 hgrow7 hat7
end
section
set_option maxRecDepth 100000
open Go.RowKit
open Go.Deep (BT)
variable {b tb cap te:Nat}{ts:List Tk}{n:Nat}
def Ar.blk{D:Nat->Prop}{w:World}{kd:Nat}(hk:kd=31\/kd=32){va:Option Addr}{vn vc:Nat}{cs:List Value}{f:BT A5}(ho:Dj D w 142 1 (.slice va vn vc) cs.length cs)(hr:Ar D w f cs):Ar D w (nd (B4 kd 0) f) [.slice va vn vc]:=by
 refine Ar.one ?_ hr;unfold Bx;rw[A7 (show(B4 kd 0).kd=31\/(B4 kd 0).kd=32 from hk)];exact⟨⟨_,_,_,rfl⟩,ho⟩
def Aok(ih:K5 b tb cap te ts n)(w:World)(s:PS)(r:BT A5×PS)(hk:kT s=5)(hs:PR b tb cap te ts w s)(hp:Ak (n+1) 9 0 .nil s=some r) :
  Calls Tryz.prog 186 #[.p b] w (J4 b tb cap te ts w r):=by
 obtain⟨x,hx,hr⟩:=Ao4 hk hp;have lb:=hs.lt;have HW:Be 5 s=At s:=by show _=_;unfold Be;rw[A7 hk]
 have HX:=fun(W:World) (h:PR b tb cap te ts W (Be 26 (Be 1 (At s))))=>Mu ih W (Be 26 (Be 1 (At s))) x h hx;go_in;go_wp2_with fail
 refine(Kc hs 5).mono ?_;rintro e w1 ⟨kk1,Jy,nn1,S1,rfl,L5,h1,Cy⟩;have Bd:A8 b w w1:=(A8.refl b w).trans Cy;have Ef:=Bd.size;rw[HW]at h1;go_wp2_with fail
 refine(Y8 h1).mono ?_;rintro e w2 ⟨Hv,S2,rfl,Iu,h2,C4⟩;have Bo:A8 b w w2:=Bd.trans C4;have G0:=Bo.size;have HT2:=Bp w2 (.cells #[.i Hv,.s S2] 148);have lw2b:w2.heap.size<(w2.alloc (.cells #[.i Hv,.s S2] 148)).heap.size:=by simp
 go_wp2_with fail
 refine(Kc (PR.alloc h2 _) 26).mono ?_;rintro e w3 ⟨kk3,ln3,nn3,S3,rfl,htk3,h3,E8⟩;have D1:A8 b w w3:=(Bo.alloc _).trans E8;have lw3:=D1.size;have HT3:=E8.blk HT2 z4ma;go_wp2_with fail
 refine(HX _ h3).mono ?_;rintro e w4 ⟨ty4,x4,rfl,h4,Cx,hr4⟩;have Ce:A8 b w w4:=D1.trans Cx;have lw4:=Ce.size;have HT4:=Cx.blk HT3 z4ma;go_wp2_with fail
 refine(Kc h4 25).mono ?_;rintro e w5 ⟨kk5,ln5,nn5,S5,rfl,htk5,h5,Fc⟩;have Cq:A8 b w w5:=Ce.trans Fc;have lw5:=Cq.size;have hT5:=Fc.blk HT4 z4ma;have y0:=A4 hT5 0 _ rfl;have y1:=A4 hT5 1 _ rfl;have ly:=A6 hT5;go_wp2;go_ret;rw[hr];refine J7 (l:=⟨21,(B6 (At s)).line,(B6 (At s)).s,0,[]⟩) (ch:=x.1) (ks:=[.iface ty4 x4]) h5 Cq rfl z4ra rfl rfl (fun hb=>⟨⟨_,?_,rfl⟩,Ar.later z4ma z4ma Fc (hr4 (Nz hb))⟩);have hg:=Nz (T5 h3.P4 hx (Nz hb));rw[(Iu hg).1,(Iu hg).2];rfl
def Api(ih:K5 b tb cap te ts n)(w:World)(s:PS)(r:BT A5×PS)(hk:kT s=8)(hs:PR b tb cap te ts w s)(hp:Ak (n+1) 9 0 .nil s=some r) :
  Calls Tryz.prog 132 #[.p b] w (J4 b tb cap te ts w r):=by
 obtain⟨x,bl,hx,hbl,hr⟩:=Ao8 hk hp;have lb:=hs.lt;have Ag:s.bad=0:=hs.Ij z4ma;have t5:((kT s:Int)==5)=false:=kn (c:=5) rfl z4ma;have t6:((kT s:Int)==6)=false:=kn (c:=6) rfl z4ma;have t8:((kT s:Int)==8)=true:=ke (c:=8) rfl hk;have HBl:=fun(W:World) (h:PR b tb cap te ts W x.2)=>ih.block W x.2 bl h hbl;have HX:=fun(W:World) (h:PR b tb cap te ts W (At s))=>Mu ih W (At s) x h hx;have hf1:=Nu;go_in;go_wp2_with fail
 refine(E9 hs).mono ?_;rintro e w1 ⟨rfl,h1,A2⟩;have Cn:=Below.only (b:=b) A2;have Bd:A8 b w w1:=(A8.refl b w).trans Cn;have Ef:=Bd.size;go_wp2_with fail
 refine(Iz h1).mono ?_;rintro e w2 ⟨Hv,nn2,S2,rfl,Iu,h2,C4⟩;have Bo:A8 b w w2:=Bd.trans C4;have G0:=Bo.size;go_wp2_with fail
 refine(HX _ h2).mono ?_;rintro e w3 ⟨ty3,x3,rfl,h3,E8,Gg⟩;have D1:A8 b w w3:=Bo.trans E8;have lw3:=D1.size;go_wp2_with fail
 refine(HBl _ h3).mono ?_;rintro e w4 ⟨va4,vn4,vc4,cs4,rfl,hown4,h4,Cx,hr4⟩;have Ce:A8 b w w4:=D1.trans Cx;have lw4:=Ce.size;go_wp2;go_ret;rw[hr];refine J7 (l:=B4 23 (B6 s).line) (ch:=Dw x.1 (nd (B4 32 0) bl.1)) (ks:=[.iface ty3 x3,.slice va4 vn4 vc4]) h4 Ce rfl z52a rfl rfl (fun hb=>⟨⟨_,_,_,_,_,?_,rfl⟩,Ar.app _ _ [_] [_] (Ar.later z4ma z4ma Cx (Gg (T5 h3.P4 hbl hb))) (Ar.blk (.inr rfl) (hown4.keep (fun k hk _=>⟨rfl,by have h:w3.heap.size<=k:=hk;omega⟩)) (Ar.weak z4ma (hr4 hb)))⟩);rw[(Iu Ag).1];rfl
def z60a {P:Prop} (h:P:=by show w.heap.size<=w3.heap.size;omega):P:=h
def Aoh(ih:K5 b tb cap te ts n)(w:World)(s:PS)(r:BT A5×PS)(hk:kT s=6)(x bl:BT A5×PS)(hx:Ak n 0 0 .nil (At s)=some x)(hbl:Ak n 7 0 .nil x.2=some bl)(h7:kT bl.2≠7)(hr:r=(nd (B4 22 (B6 s).line) (Dw x.1 (nd (B4 31 0) bl.1)),bl.2))(hs:PR b tb cap te ts w s) :
  Calls Tryz.prog 187 #[.p b] w (J4 b tb cap te ts w r):=by
 have lb:=hs.lt;have Ag:s.bad=0:=hs.Ij z4ma;have HBl:=fun(W:World) (h:PR b tb cap te ts W x.2)=>ih.block W x.2 bl h hbl;have HX:=fun(W:World) (h:PR b tb cap te ts W (At s))=>Mu ih W (At s) x h hx;have hf1:=Nu;have tk:(kT bl.2==7)=false:=by simpa using h7
 have HM:Jb 7 bl.2=bl.2:=by show _=_;unfold Jb;rw[A1 h7]
 go_in;go_wp2_with fail
 refine(Iz hs).mono ?_;rintro e w1 ⟨Jy,nn1,S1,rfl,L5,h1,Cy⟩;have Bd:A8 b w w1:=(A8.refl b w).trans Cy;have Ef:=Bd.size;go_wp2_with fail
 refine(HX _ h1).mono ?_;rintro e w2 ⟨Jn,x2,rfl,h2,C4,C7⟩;have Bo:A8 b w w2:=Bd.trans C4;have G0:=Bo.size;go_wp2_with fail
 refine(HBl _ h2).mono ?_;rintro e w3 ⟨va3,vn3,vc3,cs3,rfl,hown3,h3,E8,Gg⟩;have D1:A8 b w w3:=Bo.trans E8;have lw3:=D1.size;have HT3:=Bp w3 (.cells #[.i Jy,.iface Jn x2,.slice va3 vn3 vc3,.slice none 0 0] 314);have lw3b:w3.heap.size<(w3.alloc (.cells #[.i Jy,.iface Jn x2,.slice va3 vn3 vc3,.slice none 0 0] 314)).heap.size:=by simp
 go_wp2_with fail
 refine(Pb (PR.alloc h3 _) 7).mono ?_;rintro e w4 ⟨rfl,h4,Cx⟩;have Ce:A8 b w w4:=(D1.alloc _).trans Cx;have lw4:=Ce.size;rw[tk];rw[HM]at h4;have HT4:=Cx.blk HT3 z4ma;go_wp2;go_ret;rw[hr];refine⟨_,_,rfl,h4,Ce,fun hb=>?_⟩;have k2:∀g,w1.heap.size<=g->g<w2.heap.size->w4.heap[g]?=w2.heap[g]?/\w.heap.size<=g:=fun g hg hl=>⟨((E8.alloc _).trans Cx).block g hl z4ma,by omega⟩;have k3:∀g,w2.heap.size<=g->g<w3.heap.size->w4.heap[g]?=w3.heap[g]?/\w.heap.size<=g:=fun g hg hl=>⟨(((A8.refl b w3).alloc _).trans Cx).block g hl z4ma,by omega⟩;refine Ar.one (l:=B4 22 (B6 s).line) (ks:=[.iface Jn x2,.slice va3 vn3 vc3]) (Bx.new z52a z60a HT4 ⟨_,_,_,_,_,_,_,_,?_,.inl ⟨rfl,rfl⟩⟩) ?_
 ·rw[(L5 Ag).1];rfl
 ·exact Ar.app _ _ [_] [_] (Ar.keep k2 _ _ (C7 (T5 h2.P4 hbl hb))) (Ar.blk (.inl rfl) (hown3.keep k3) (Ar.keep k3 _ _ (Gg hb)))
def z5ja {P:Prop} (h:P:=by exact hk):P:=h
def Aoi(ih:K5 b tb cap te ts n)(w:World)(s:PS)(r:BT A5×PS)(hk:kT s=6)(x bl:BT A5×PS)(hx:Ak n 0 0 .nil (At s)=some x)(hbl:Ak n 7 0 .nil x.2=some bl)(h7:kT bl.2=7)(c:BT A5×PS)(hc:Ak n 7 0 .nil (At bl.2)=some c)(hr:r=(nd (B4 22 (B6 s).line) (Dw x.1 (Dw (nd (B4 31 0) bl.1) (nd (B4 31 0) c.1))),c.2))(hs:PR b tb cap te ts w s) :
  Calls Tryz.prog 187 #[.p b] w (J4 b tb cap te ts w r):=by
 have lb:=hs.lt;have Ag:s.bad=0:=hs.Ij z4ma;have HBl:=fun(W:World) (h:PR b tb cap te ts W x.2)=>ih.block W x.2 bl h hbl;have HX:=fun(W:World) (h:PR b tb cap te ts W (At s))=>Mu ih W (At s) x h hx;have hf1:=Nu;have tk:(kT bl.2==7)=true:=by simpa using h7
 have HM:Jb 7 bl.2=At bl.2:=by show _=_;unfold Jb;rw[A7 h7]
 have HCl:=fun(W:World) (h:PR b tb cap te ts W (At bl.2))=>ih.block W (At bl.2) c h hc;go_in;go_wp2_with fail
 refine(Iz hs).mono ?_;rintro e w1 ⟨Jy,nn1,S1,rfl,L5,h1,Cy⟩;have Bd:A8 b w w1:=(A8.refl b w).trans Cy;have Ef:=Bd.size;go_wp2_with fail
 refine(HX _ h1).mono ?_;rintro e w2 ⟨Jn,x2,rfl,h2,C4,C7⟩;have Bo:A8 b w w2:=Bd.trans C4;have G0:=Bo.size;go_wp2_with fail
 refine(HBl _ h2).mono ?_;rintro e w3 ⟨va3,vn3,vc3,cs3,rfl,hown3,h3,E8,Gg⟩;have D1:A8 b w w3:=Bo.trans E8;have lw3:=D1.size;have HT3:=Bp w3 (.cells #[.i Jy,.iface Jn x2,.slice va3 vn3 vc3,.slice none 0 0] 314);have lw3b:w3.heap.size<(w3.alloc (.cells #[.i Jy,.iface Jn x2,.slice va3 vn3 vc3,.slice none 0 0] 314)).heap.size:=by simp
 go_wp2_with fail
 refine(Pb (PR.alloc h3 _) 7).mono ?_;rintro e w4 ⟨rfl,h4,Cx⟩;have Ce:A8 b w w4:=(D1.alloc _).trans Cx;have lw4:=Ce.size;rw[tk];rw[HM]at h4;have HT4:=Cx.blk HT3 z4ma;obtain⟨y0,y1,y2,y3,fy,ly⟩:=Eo HT4;go_wp2_with fail
 refine(HCl _ h4).mono ?_;rintro e w5 ⟨va5,vn5,vc5,cs5,rfl,hown5,h5,Fc,hr5⟩;have Cq:A8 b w w5:=Ce.trans Fc;have lw5:=Cq.size;have HT5:=Fc.blk HT4 z4ma;obtain⟨y0,y1,y2,y3,fy,ly⟩:=Eo HT5;go_wp2;go_ret;rw[hr];have hold:∀k,k≠w3.heap.size->(w5.setCell ⟨w3.heap.size,3,none⟩ (.slice va5 vn5 vc5)).heap[k]?=w5.heap[k]?:=fun k hk=>Bh _ _ _ _ z5ja;refine⟨_,_,rfl,PR.other h5 (by show b≠w3.heap.size;omega) (by show tb≠w3.heap.size;omega) _,A8.set (p:=⟨w3.heap.size,3,none⟩) Cq (.inr z60a) _,fun hb=>?_⟩;have Bz:bl.2.bad=0:=by have:=T5 h4.P4 hc hb;rw[Us]at this;exact this
 have hnew:(w5.setCell ⟨w3.heap.size,3,none⟩ (.slice va5 vn5 vc5)).heap[w3.heap.size]?=some (.cells #[.i Jy,.iface Jn x2,.slice va3 vn3 vc3,.slice va5 vn5 vc5] 314 (0,0)):=by
  have:=heap_set (j:=3) HT5 (.slice va5 vn5 vc5);simpa using this
 have k2:∀g,w1.heap.size<=g->g<w2.heap.size->(w5.setCell ⟨w3.heap.size,3,none⟩ (.slice va5 vn5 vc5)).heap[g]?=w2.heap[g]?/\w.heap.size<=g:=fun g hg hl=>⟨(hold g (by have:=E8.size;omega)).trans (((E8.alloc _).trans (Cx.trans Fc)).block g hl z4ma),by omega⟩;have k3:∀g,w2.heap.size<=g->g<w3.heap.size->(w5.setCell ⟨w3.heap.size,3,none⟩ (.slice va5 vn5 vc5)).heap[g]?=w3.heap[g]?/\w.heap.size<=g:=fun g hg hl=>⟨(hold g z4ma).trans ((((A8.refl b w3).alloc _).trans (Cx.trans Fc)).block g hl z4ma),by omega⟩;have k5:∀g,w4.heap.size<=g->g<w5.heap.size->(w5.setCell ⟨w3.heap.size,3,none⟩ (.slice va5 vn5 vc5)).heap[g]?=w5.heap[g]?/\w.heap.size<=g:=fun g hg hl=>⟨hold g (by have:=A6 HT4;omega),by omega⟩;refine Ar.one (l:=B4 22 (B6 s).line) (ks:=[.iface Jn x2,.slice va3 vn3 vc3,.slice va5 vn5 vc5]) (Bx.new z52a z60a hnew ⟨_,_,_,_,_,_,_,_,?_,.inr rfl⟩) ?_
 ·rw[(L5 Ag).1];rfl
 ·refine Ar.app _ _ [_] [_,_] (Ar.keep k2 _ _ (C7 (T5 h2.P4 hbl Bz))) (Ar.app _ _ [_] [_] (Ar.blk (.inl rfl) (hown3.keep k3) (Ar.keep k3 _ _ (Gg Bz))) (Ar.blk (.inl rfl) (hown5.keep k5) (Ar.keep k5 _ _ (hr5 hb))))
end
section
set_option maxRecDepth 100000
open Go.RowKit
open Go.Deep (BT)
def Ek{P:Program}{T e xT:TypeId}(hu:P.underlying T=some (.pointer e))(v:Value)(w:World):(Instr.typeAssert (.iface T v) xT T true).run P w=.ok (.tuple #[v,.bool true]) w:=by
 simp[Instr.typeAssert,P7 hu]
def Bl{P:Program}{T e t xT:TypeId}{z:Value}(hu:P.underlying T=some (.pointer e))(hz:(P.info? T).map (·.zero)=some (some z))(h:t≠T)(v:Value)(w:World):(Instr.typeAssert (.iface t v) xT T true).run P w=.ok (.tuple #[z,.bool false]) w:=by
 obtain⟨i,hi,hz⟩:∃i,P.info? T=some i/\i.zero=some z:=by
  cases hi:P.info? T with
  | none=>rw[hi]at hz;cases hz
  | some i=>rw[hi]at hz;exact⟨i,rfl,Dl hz⟩
 simp[Instr.typeAssert,P7 hu,h,zeroValue,typeInfo,hi,hz]
def R8(t:TypeId):Bool:=t==238||t==310
def Xs(t:TypeId)(x:Value)(w:World):Calls Tryz.prog 233 #[.iface t x] w fun e w'=>e=.returned (.bool (R8 t))/\w'=w:=by
 by_cases h1:t=238
 ·subst h1;have a1:=fun w=>Ek (P:=Tryz.prog) (xT:=150) Tryz.underlying238 x w;have a2:=fun w=>Bl (P:=Tryz.prog) (t:=238) (T:=310) (xT:=150) (z:=.pointer none) Tryz.underlying310 (by kernel_rfl) z4oa x w;go_in;exact z12a
 by_cases h2:t=310
 ·subst h2;have a1:=fun w=>Bl (P:=Tryz.prog) (t:=310) (T:=238) (xT:=150) (z:=.pointer none) Tryz.underlying238 (by kernel_rfl) z4oa x w;have a2:=fun w=>Ek (P:=Tryz.prog) (xT:=150) Tryz.underlying310 x w;go_in;exact z12a
 ·have a1:=fun w=>Bl (P:=Tryz.prog) (t:=t) (T:=238) (xT:=150) (z:=.pointer none) Tryz.underlying238 (by kernel_rfl) h1 x w;have a2:=fun w=>Bl (P:=Tryz.prog) (t:=t) (T:=310) (xT:=150) (z:=.pointer none) Tryz.underlying310 (by kernel_rfl) h2 x w;have HC:R8 t=false:=by
   show _=_;unfold R8;rw[Am.2 h1,Am.2 h2];rfl
  go_in;go_wp2;go_ret;exact⟨Wg HC.symm,rfl⟩
def Ap9(kd:Nat):R8 (Cw kd)=(kd==6||kd==12):=by
 by_cases h6:kd=6
 ·subst h6;rfl
 by_cases h12:kd=12
 ·subst h12;rfl
 rw[Am.2 h6,Am.2 h12];unfold Cw;split <;> first|rfl|(exfalso;omega)
def A2a{D:Nat->Prop}{W:World}{f v:BT A5}{t:TypeId}{x vv:Value}(h:Ar D W f [.iface t x])(hv:Ar D W v [vv]) :
  R8 t=Qe f/\(Qe f=true->∃l ch ks,setNode f v=nd l ch/\¬(l.kd=31\/l.kd=32)/\Cw l.kd=268/\E4 l.kd=322/\Di D W l #[.iface t x,vv] ks/\Ar D W ch ks):=by
 cases f with
 | nil=>rw[Ar]at h;cases h
 | node x0 y0 l ch sib=>
  obtain⟨v0,ks,rest,e,h1,h2,h3⟩:=h;injection e with e1 e2;subst e1 e2;unfold Bx at h1;split at h1
  ·obtain⟨⟨_,_,_,e⟩,_⟩:=h1;cases e
  ·obtain⟨b2,cs,e,hD,hb,hl⟩:=h1;injection e with e1 e2;subst e1 e2;refine⟨Ap9 l.kd,fun hc=>?_⟩;have hc':(l.kd==6||l.kd==12)=true:=hc;simp only[Gz,Fh]at hc';rcases hc' with h6|h12
   ·unfold Di at hl;rw[h6]at hl;simp only at hl;obtain⟨rfl,rfl⟩:=hl;have hb':W.heap[b2]?=some (.cells #[Hw l.line,Ml l.s] 240 (0,0)):=by rw[hb,h6];rfl
    refine⟨⟨28,l.line,l.s,0,[]⟩,v,[vv],?_,by simp,rfl,rfl,⟨b2,vv,?_,hD,hb',rfl⟩,hv⟩
    ·unfold setNode I8;rw[A7 h6]
    ·rw[h6];rfl
   ·unfold Di at hl;rw[h12]at hl;simp only at hl;obtain⟨a,b,rfl,rfl⟩:=hl;have hb':W.heap[b2]?=some (.cells #[Hw l.line,a,b] 312 (0,0)):=by rw[hb,h12];rfl
    refine⟨B4 29 l.line,Dw ch v,[a,b,vv],?_,by simp[B4],rfl,rfl,⟨b2,a,b,vv,?_,hD,hb',rfl⟩,Ar.app _ _ [a,b] [vv] h2 hv⟩
    ·unfold setNode I8 Sw;rw[A1 (show ¬l.kd=6 by omega)]
    ·rw[h12];rfl
