import Derived.Deep.DrawnRows
import Derived.Test.YtjdlndhfaaolaaaGreatDoorY18
import Derived.Test.YtjdlndhfaaolaaaGreatDoorY19
set_option maxHeartbeats 20000000
set_option linter.defProp false
namespace Go.Proofs.YtjdlndhfaaolaaaGreatDoor
section
set_option maxRecDepth 100000
open Go.RowKit
open Go.Deep (BT)
variable {b tb cap te:Nat}{ts:List Tk}{n:Nat}
def K9{w:World}{g:Nat}{a0 a1:Value}{t:TypeId}(h:w.heap[g]?=some (.cells #[a0,a1] t (0,0))) :
  w.cell? ⟨g,0,none⟩=some a0/\w.cell? ⟨g,1,none⟩=some a1/\(∀o,w.frozen? ⟨g,o,none⟩=false)/\g<w.heap.size:=
 ⟨A4 h 0 _ rfl,A4 h 1 _ rfl,By h,A6 h⟩
def Sk(b tb cap te:Nat)(ts:List Tk)(w:World)(r:BT A5×PS)(e:Ending)(w':World):Prop:=
 ∃r':BT A5×PS,J4 b tb cap te ts w r' e w'/\r.1=r'.1/\r.2=Be 25 r'.2
def z61a {P:Prop} (h:P:=by show w.heap.size<=w2.heap.size;omega):P:=h
def At0(w:World)(s:PS)(r:BT A5×PS)(hk:kT s=9)(D4:kT (At s)=25)(hs:PR b tb cap te ts w s)(hp:Ak (n+1) 9 0 .nil s=some r) :
  Calls Tryz.prog 190 #[.p b] w (Sk b tb cap te ts w r):=by
 have lb:=hs.lt;have hf1:=Nu;have HR:=Ao7 hk D4 hp;have Ag:s.bad=0:=hs.Ij z4ma;have t25:((kT (At s):Int) !=25)=false:=by rw[D4];rfl
 have t9:((kT s:Int)==9)=true:=ke (c:=9) rfl hk;go_in;go_wp2_with fail
 refine(E9 hs).mono ?_;rintro e w1 ⟨rfl,h1,A2⟩;have Cn:=Below.only (b:=b) A2;have Bd:A8 b w w1:=(A8.refl b w).trans Cn;have Ef:=Bd.size;go_wp2_with fail
 refine(Iz h1).mono ?_;rintro e w2 ⟨Hv,nn2,S2,rfl,Iu,h2,C4⟩;have Bo:A8 b w w2:=Bd.trans C4;have G0:=Bo.size;have HT2:=Bp w2 (.cells #[.i Hv,.nilIface] 318);go_wp2_with fail
 refine(E9 (PR.alloc h2 _)).mono ?_;rintro e w3 ⟨rfl,h3,Ay⟩;have C2:=Below.only (b:=b) Ay;have D1:A8 b w w3:=(Bo.alloc _).trans C2;have lw3:=D1.size;go_wp2;go_ret;rw[HR];refine⟨(nd (B4 24 (B6 s).line) .nil,At s),⟨_,_,rfl,h3,D1,fun hb=>?_⟩,rfl,rfl⟩;refine Ar.one (l:=B4 24 (B6 s).line) (ks:=[]) (Bx.new z52a z61a (C2.blk HT2 z4ma) ⟨_,?_,.inl ⟨rfl,rfl⟩⟩) rfl;rw[(Iu Ag).1];rfl
def At1(ih:K5 b tb cap te ts n)(w:World)(s:PS)(r:BT A5×PS)(hk:kT s=9)(D4:kT (At s)≠25)(hs:PR b tb cap te ts w s)(hp:Ak (n+1) 9 0 .nil s=some r) :
  Calls Tryz.prog 190 #[.p b] w (Sk b tb cap te ts w r):=by
 have lb:=hs.lt;have hf1:=Nu;obtain⟨x,hx,hr⟩:=Ao6 hk D4 hp;have Ag:s.bad=0:=hs.Ij z4ma;have t25:((kT (At s):Int) !=25)=true:=by simp;omega
 have HX:=fun(W:World) (h:PR b tb cap te ts W (At s))=>Mu ih W (At s) x h hx;have t9:((kT s:Int)==9)=true:=ke (c:=9) rfl hk;go_in;go_wp2_with fail
 refine(E9 hs).mono ?_;rintro e w1 ⟨rfl,h1,A2⟩;have Cn:=Below.only (b:=b) A2;have Bd:A8 b w w1:=(A8.refl b w).trans Cn;have Ef:=Bd.size;go_wp2_with fail
 refine(Iz h1).mono ?_;rintro e w2 ⟨Hv,nn2,S2,rfl,Iu,h2,C4⟩;have Bo:A8 b w w2:=Bd.trans C4;have G0:=Bo.size;have HT2:=Bp w2 (.cells #[.i Hv,.nilIface] 318);have lw2b:w2.heap.size<(w2.alloc (.cells #[.i Hv,.nilIface] 318)).heap.size:=by simp
 go_wp2_with fail
 refine(E9 (PR.alloc h2 _)).mono ?_;rintro e w3 ⟨rfl,h3,Ay⟩;have C2:=Below.only (b:=b) Ay;have D1:A8 b w w3:=(Bo.alloc _).trans C2;have lw3:=D1.size;have HT3:=C2.blk HT2 z4ma;go_wp2_with fail
 refine(HX _ h3).mono ?_;rintro e w4 ⟨ty4,x4,rfl,h4,Cx,hr4⟩;have Ce:A8 b w w4:=D1.trans Cx;have lw4:=Ce.size;have HT4:=Cx.blk HT3 z4ma;obtain⟨y0,y1,fy,ly⟩:=K9 HT4;go_wp2;go_ret;rw[hr];have hold:∀k,k≠w2.heap.size->(w4.setCell ⟨w2.heap.size,1,none⟩ (.iface ty4 x4)).heap[k]?=w4.heap[k]?:=fun k hk=>Bh _ _ _ _ z5ja;refine⟨(nd (B4 24 (B6 s).line) x.1,x.2),⟨_,_,rfl,PR.other h4 (by show b≠w2.heap.size;omega) (by show tb≠w2.heap.size;omega) _,A8.set (p:=⟨w2.heap.size,1,none⟩) Ce (.inr z61a) _,fun hb=>?_⟩,rfl,rfl⟩;have hnew:(w4.setCell ⟨w2.heap.size,1,none⟩ (.iface ty4 x4)).heap[w2.heap.size]?=some (.cells #[.i Hv,.iface ty4 x4] 318 (0,0)):=by
  have:=heap_set (j:=1) HT4 (.iface ty4 x4);simpa using this
 have lw3b:=A6 HT3;refine Ar.one (l:=B4 24 (B6 s).line) (ks:=[.iface ty4 x4]) (Bx.new z52a z61a hnew ⟨_,?_,.inr rfl⟩) (Ar.keep (fun g (hg:w3.heap.size<=g) _=>⟨hold g z4ma,by omega⟩) _ _ (hr4 hb));rw[(Iu Ag).1];rfl
def Aqx(w:World)(s:PS)(r:BT A5×PS)(hk:kT s=10)(hs:PR b tb cap te ts w s)(hp:Ak (n+1) 9 0 .nil s=some r) :
  Calls Tryz.prog 190 #[.p b] w (Sk b tb cap te ts w r):=by
 have lb:=hs.lt;have hf1:=Nu;have HR:=Ao1 hk hp;have Ag:s.bad=0:=hs.Ij z4ma;have t9:((kT s:Int)==9)=false:=kn (c:=9) rfl z4ma;have t10:((kT s:Int)==10)=true:=ke (c:=10) rfl hk;go_in;go_wp2_with fail
 refine(E9 hs).mono ?_;rintro e w1 ⟨rfl,h1,A2⟩;have Cn:=Below.only (b:=b) A2;have Bd:A8 b w w1:=(A8.refl b w).trans Cn;have Ef:=Bd.size;go_wp2_with fail
 refine(Iz h1).mono ?_;rintro e w2 ⟨Hv,nn2,S2,rfl,Iu,h2,C4⟩;have Bo:A8 b w w2:=Bd.trans C4;have G0:=Bo.size;go_wp2;go_ret;rw[HR];refine⟨(nd (B4 25 (B6 s).line) .nil,At s),J7 (l:=B4 25 (B6 s).line) (ch:=.nil) (ks:=[]) h2 Bo rfl z52a rfl rfl (fun _=>⟨⟨?_,rfl⟩,rfl⟩),rfl,rfl⟩;rw[(Iu Ag).1];rfl
def Ar0(w:World)(s:PS)(r:BT A5×PS)(hk:kT s=11)(hs:PR b tb cap te ts w s)(hp:Ak (n+1) 9 0 .nil s=some r) :
  Calls Tryz.prog 190 #[.p b] w (Sk b tb cap te ts w r):=by
 have lb:=hs.lt;have hf1:=Nu;have HR:=Ao2 hk hp;have Ag:s.bad=0:=hs.Ij z4ma;have t9:((kT s:Int)==9)=false:=kn (c:=9) rfl z4ma;have t10:((kT s:Int)==10)=false:=kn (c:=10) rfl z4ma;have t11:((kT s:Int)==11)=true:=ke (c:=11) rfl hk;go_in;go_wp2_with fail
 refine(E9 hs).mono ?_;rintro e w1 ⟨rfl,h1,A2⟩;have Cn:=Below.only (b:=b) A2;have Bd:A8 b w w1:=(A8.refl b w).trans Cn;have Ef:=Bd.size;go_wp2_with fail
 refine(Iz h1).mono ?_;rintro e w2 ⟨Hv,nn2,S2,rfl,Iu,h2,C4⟩;have Bo:A8 b w w2:=Bd.trans C4;have G0:=Bo.size;go_wp2;go_ret;rw[HR];refine⟨(nd (B4 26 (B6 s).line) .nil,At s),J7 (l:=B4 26 (B6 s).line) (ch:=.nil) (ks:=[]) h2 Bo rfl z52a rfl rfl (fun _=>⟨⟨?_,rfl⟩,rfl⟩),rfl,rfl⟩;rw[(Iu Ag).1];rfl
def Asw(ih:K5 b tb cap te ts n)(w:World)(s:PS)(r:BT A5×PS)(hk:kT s=12)(hs:PR b tb cap te ts w s)(hp:Ak (n+1) 9 0 .nil s=some r) :
  Calls Tryz.prog 190 #[.p b] w (Sk b tb cap te ts w r):=by
 have lb:=hs.lt;have hf1:=Nu;obtain⟨x,hx,hr⟩:=Ao5 hk hp;have Ag:s.bad=0:=hs.Ij z4ma;have HX:=fun(W:World) (h:PR b tb cap te ts W (At s))=>Mu ih W (At s) x h hx;have t9:((kT s:Int)==9)=false:=kn (c:=9) rfl z4ma;have t10:((kT s:Int)==10)=false:=kn (c:=10) rfl z4ma;have t11:((kT s:Int)==11)=false:=kn (c:=11) rfl z4ma;have t12:((kT s:Int)==12)=true:=ke (c:=12) rfl hk;go_in;go_wp2_with fail
 refine(E9 hs).mono ?_;rintro e w1 ⟨rfl,h1,A2⟩;have Cn:=Below.only (b:=b) A2;have Bd:A8 b w w1:=(A8.refl b w).trans Cn;have Ef:=Bd.size;go_wp2_with fail
 refine(Iz h1).mono ?_;rintro e w2 ⟨Hv,nn2,S2,rfl,Iu,h2,C4⟩;have Bo:A8 b w w2:=Bd.trans C4;have G0:=Bo.size;go_wp2_with fail
 refine(HX _ h2).mono ?_;rintro e w3 ⟨ty3,x3,rfl,h3,E8,Gg⟩;have D1:A8 b w w3:=Bo.trans E8;have lw3:=D1.size;go_wp2;go_ret;rw[hr];refine⟨(nd (B4 27 (B6 s).line) x.1,x.2),J7 (l:=B4 27 (B6 s).line) (ch:=x.1) (ks:=[.iface ty3 x3]) h3 D1 rfl z52a rfl rfl (fun hb=>⟨⟨_,?_,rfl⟩,Ar.weak z4ma (Gg hb)⟩),rfl,rfl⟩;rw[(Iu Ag).1];rfl
def z1fa {P:Prop} (h:P:=by
  go_wp2_with fail
  refine(Xs _ _ _).mono ?_;rintro e w' ⟨rfl,rfl⟩;rw[tc];go_wp2;go_ret;rw[HR.o];refine⟨(nd (B4 30 (I8 x.1).line) x.1,x.2),?_,rfl,rfl⟩;exact J7 (l:=B4 30 (I8 x.1).line) (ch:=x.1) (ks:=[.iface Jn x2]) h2 Bo rfl z52a rfl rfl (fun hb=>⟨⟨_,rfl,rfl⟩,Ar.weak z4ma (C7 hb)⟩)):P:=h
def At2(ih:K5 b tb cap te ts n)(w:World)(s:PS)(r:BT A5×PS)(hk:¬(5<=kT s/\kT s<=12/\kT s≠7))(hs:PR b tb cap te ts w s)(hp:Ak (n+1) 9 0 .nil s=some r) :
  Calls Tryz.prog 190 #[.p b] w (Sk b tb cap te ts w r):=by
 have lb:=hs.lt;have hf1:=Nu;obtain⟨x,hx,hc⟩:=A88 hk hp;have HX:=fun(W:World) (h:PR b tb cap te ts W s)=>Mu ih W s x h hx;have t9:((kT s:Int)==9)=false:=kn (c:=9) rfl z4ma;have t10:((kT s:Int)==10)=false:=kn (c:=10) rfl z4ma;have t11:((kT s:Int)==11)=false:=kn (c:=11) rfl z4ma;have t12:((kT s:Int)==12)=false:=kn (c:=12) rfl z4ma;go_in;go_wp2_with fail
 refine(E9 hs).mono ?_;rintro e w1 ⟨rfl,h1,A2⟩;have Cn:=Below.only (b:=b) A2;have Bd:A8 b w w1:=(A8.refl b w).trans Cn;have Ef:=Bd.size;go_wp2_with fail
 refine(HX _ h1).mono ?_;rintro e w2 ⟨Jn,x2,rfl,h2,C4,C7⟩;have Bo:A8 b w w2:=Bd.trans C4;have G0:=Bo.size;rcases hc with⟨c1,c2,v,hv,hr⟩|⟨c1,c2,v,hv,hr⟩|⟨c2,hr⟩
 ·have Bq:x.2.bad=0:=h2.Ij z4ma;have tc:R8 Jn=true:=by rw[(A2a (C7 Bq) (C7 Bq)).1];exact c1
  have HR:=A0 hr;have tk:(kT x.2==26)=true:=by simpa using c2
  have HM:Hid (Jb 26 x.2=At x.2):=by show _=_;unfold Jb;rw[A7 c2]
  have HV:=fun(W:World) (h:PR b tb cap te ts W (At x.2))=>Mu ih W (At x.2) v h hv;go_wp2_with fail
  refine(Xs _ _ _).mono ?_;rintro e w' ⟨rfl,rfl⟩;rw[tc];go_wp2_with fail
  refine(Pb h2 26).mono ?_;rintro e w3 ⟨rfl,h3,E8⟩;have C2:=A0 E8;have D1:Hid (A8 b w w3):=Bo.trans C2.o;have lw3:=D1.o.size;rw[tk];rw[HM.o]at h3;have H3:=A0 h3;go_wp2_with fail
  refine(HV _ H3.o).mono ?_;rintro e w4 ⟨ty4,x4,rfl,h4,Cx,hr4⟩;have Ce:A8 b w w4:=D1.o.trans Cx;have lw4:=Ce.size;go_wp2;go_ret;rw[HR.o];refine⟨(setNode x.1 v.1,v.2),⟨_,_,rfl,PR.alloc h4 _,Ce.alloc _,fun hb=>?_⟩,rfl,rfl⟩;have r2:Ar (fun g=>w.heap.size<=g) w4 x.1 [.iface Jn x2]:=Ar.later z4ma z4ma (C2.o.trans Cx) (C7 Bq);have r4:Ar (fun g=>w.heap.size<=g) w4 v.1 [.iface ty4 x4]:=Ar.weak z4ma (hr4 hb);obtain⟨l,ch,ks,e1,e2,e3,e4,e5,e6⟩:=(A2a r2 r4).2 c1;have hcl:=J7 (w:=w) (W:=w4) (r:=(setNode x.1 v.1,v.2)) (l:=l) (ch:=ch) (ks:=ks) (cs:=#[.iface Jn x2,.iface ty4 x4]) (t:=268) (tt:=322) h4 Ce e1 e2 e3.symm e4.symm (fun _=>⟨e5,e6⟩);obtain⟨t',x',e',_,_,hrr⟩:=hcl;injection e' with e';rw[←e']at hrr;exact hrr hb
 ·have Bq:x.2.bad=0:=h2.Ij z4ma;have tc:R8 Jn=false:=by rw[(A2a (C7 Bq) (C7 Bq)).1];exact c1
  have hf:(Et x.2).bad≠0:=A16 (fun e=>(h2.lines e).1);have Iv:v.2=Et x.2:=Uf (U5 _ Bq) hf _ _ _ _ _ hv;have hw:Be 25 v.2=Be 25 x.2:=by
   rw[Iv,Aac z4oa hf (U5 _ Bq)];unfold Be;rw[Ai]
  have HR:Hid (r=(nd (B4 30 (I8 x.1).line) x.1,Be 25 x.2)):=by show _=_;rw[hr,hw]
  exact z1fa
 ·have HR:=A0 hr;have tk:(kT x.2==26)=false:=by simpa using c2
  have HM:Hid (Jb 26 x.2=x.2):=by show _=_;unfold Jb;rw[A1 c2]
  cases tc:R8 Jn
  ·exact z1fa
  ·go_wp2_with fail
   refine(Xs _ _ _).mono ?_;rintro e w' ⟨rfl,rfl⟩;rw[tc];go_wp2_with fail
   refine(Pb h2 26).mono ?_;rintro e w3 ⟨rfl,h3,E8⟩;have C2:=A0 E8;have D1:Hid (A8 b w w3):=Bo.trans C2.o;have lw3:=D1.o.size;rw[tk];rw[HM.o]at h3;have H3:=A0 h3;go_wp2;go_ret;rw[HR.o];refine⟨(nd (B4 30 (I8 x.1).line) x.1,x.2),?_,rfl,rfl⟩;exact J7 (l:=B4 30 (I8 x.1).line) (ch:=x.1) (ks:=[.iface Jn x2]) H3.o D1.o rfl z52a rfl rfl (fun hb=>⟨⟨_,rfl,rfl⟩,Ar.later z4ma z4ma C2.o (C7 hb)⟩)
def Ap6(ih:K5 b tb cap te ts n)(w:World)(s:PS)(r:BT A5×PS)(h5:kT s≠5)(h6:kT s≠6)(h8:kT s≠8)(hs:PR b tb cap te ts w s)(hp:Ak (n+1) 9 0 .nil s=some r) :
  Calls Tryz.prog 190 #[.p b] w (Sk b tb cap te ts w r):=by
 by_cases c9:kT s=9
 ·by_cases c25:kT (At s)=25
  ·exact At0 w s r c9 c25 hs hp
  ·exact At1 ih w s r c9 c25 hs hp
 by_cases c10:kT s=10
 ·exact Aqx w s r c10 hs hp
 by_cases c11:kT s=11
 ·exact Ar0 w s r c11 hs hp
 by_cases c12:kT s=12
 ·exact Asw ih w s r c12 hs hp
 exact At2 ih w s r z4ma hs hp
def Ap7(ih:K5 b tb cap te ts n)(w:World)(s:PS)(r:BT A5×PS)(hs:PR b tb cap te ts w s)(hp:Ak (n+1) 9 0 .nil s=some r) :
  Calls Tryz.prog 132 #[.p b] w (J4 b tb cap te ts w r):=by
 by_cases c8:kT s=8
 ·exact Api ih w s r c8 hs hp
 have lb:=hs.lt;by_cases c5:kT s=5
 ·have HX:=A0 (fun(W:World) (h:PR b tb cap te ts W s)=>Aok ih W s r c5 h hp);have t5:((kT s:Int)==5)=true:=ke (c:=5) rfl c5;go_in;exact z03a
 have t5:((kT s:Int)==5)=false:=kn (c:=5) rfl c5;by_cases c6:kT s=6
 ·have HX:Hid (∀W,PR b tb cap te ts W s->Calls Tryz.prog 187 #[.p b] W (J4 b tb cap te ts W r)):=by
   intro W h;obtain⟨x,bl,h1,h2,⟨h3,c,h4,e⟩|⟨h3,e⟩⟩:=Ao3 c6 hp
   ·exact Aoi ih W s r c6 x bl h1 h2 h3 c h4 e h
   ·exact Aoh ih W s r c6 x bl h1 h2 h3 e h
  have t6:((kT s:Int)==6)=true:=ke (c:=6) rfl c6;go_in;exact z03a
 have t6:((kT s:Int)==6)=false:=kn (c:=6) rfl c6;have t8:((kT s:Int)==8)=false:=kn (c:=8) rfl c8;have HX:=A0 (fun(W:World) (h:PR b tb cap te ts W s)=>Ap6 ih W s r c5 c6 c8 h hp);go_in;go_wp2_with fail
 refine(E9 hs).mono ?_;rintro e w1 ⟨rfl,h1,A2⟩;have Cn:=A0 (Below.only (b:=b) A2);have Bd:Hid (A8 b w w1):=(A8.refl b w).trans Cn.o;have Ef:=Bd.o.size;have H1:=A0 h1;go_wp2_with fail
 refine(HX.o _ H1.o).mono ?_;rintro e w2 ⟨r2,⟨Jn,x2,rfl,h2,C4,C7⟩,e21,e22⟩;have Bk:=A0 C4;have Bo:Hid (A8 b w w2):=Bd.o.trans Bk.o;have G0:=Bo.o.size;have Hx:=A0 C7;have H2:=A0 h2;go_wp2_with fail
 refine(Kc H2.o 25).mono ?_;rintro e w3 ⟨kk3,ln3,nn3,S3,rfl,htk3,h3,E8⟩;have D1:A8 b w w3:=Bo.o.trans E8;have lw3:=D1.size;go_wp2;go_ret;refine⟨_,_,rfl,by rw[e22];exact h3,D1,fun hb=>?_⟩;rw[e22]at hb;rw[e21];exact Ar.later z4ma z4ma E8 (Hx.o (Nz hb))
def A55{b tb cap te:Nat}{ts:List Tk}:∀N n,n<=N->n<=500000->K5 b tb cap te ts n:=by
 intro N;induction N with
 | zero=>
  intro n hn _;obtain rfl:n=0:=by omega
  exact⟨fun _ _ _ _ _ _ h=>absurd h (M6 _ _ _ _ _),fun _ _ _ _ h=>absurd h (M6 _ _ _ _ _),fun _ _ _ _ h=>absurd h (M6 _ _ _ _ _),fun _ _ _ _ _ h=>absurd h (M6 _ _ _ _ _),fun _ _ _ _ h=>absurd h (M6 _ _ _ _ _),fun _ _ _ _ h=>absurd h (M6 _ _ _ _ _)⟩
 | succ N ih=>
  intro n hn h5;cases n with
  | zero=>exact ih 0 z4ma z4ma
  | succ n=>
   have ihn:∀m,m<=n->K5 b tb cap te ts m:=fun m hm=>ih m z4ma z4ma;exact⟨fun w s a r ha hs hp=>Aod ihn w s a r ha hs hp,fun w s r hs hp=>Apa ihn w s r hs hp,fun w s r hs hp=>Aoc (ihn n (Af _)) w s r hs hp,
    fun w s a r hs hp=>Akz ihn z4ma w s a r hs hp,fun w s r hs hp=>Aoe ihn z4ma w s r hs hp,fun w s r hs hp=>Ap7 (ihn n (Af _)) w s r hs hp⟩
end
section
open Go.RowKit
open Go.Deep (BT)
def Ap3{n:Nat}{acc:List (Nat×List UInt8)}{s:PS}{r:List (Nat×List UInt8)×PS}(hk:kT (Be 1 s)=24)(h:Mj (n+1) acc s=some r):Mj n (acc++[((B6 s).line,(B6 s).s)]) (At (Be 1 s))=some r:=by
 rw[Mj,A7 hk]at h;exact h
def Ap2{n:Nat}{acc:List (Nat×List UInt8)}{s:PS}{r:List (Nat×List UInt8)×PS}(hk:kT (Be 1 s)≠24)(h:Mj (n+1) acc s=some r):r=(acc++[((B6 s).line,(B6 s).s)],Be 19 (Be 1 s)):=by
 rw[Mj,A1 hk]at h;exact z3ta
def Anw{n:Nat}{acc:BT A5}{s:PS}{r:BT A5×PS}(hk:kT s=0)(h:Ak (n+1) 10 0 acc s=some r):r=(acc,s):=by
 rw[Ak,A1 z4oa,A1 z4oa,A1 z4oa,A1 z4oa,A1 z4oa,A1 z4oa,A1 z4oa,A1 z4oa,A1 z4oa,A1 z4oa,A7 rfl,A7 hk]at h;exact z3ta
def Anx{n:Nat}{acc:BT A5}{s:PS}{r:BT A5×PS}(hk:kT s=4)(h:Ak (n+1) 10 0 acc s=some r):∃x,Ak n 11 0 .nil s=some x/\Ak n 10 0 (Dw acc x.1) x.2=some r:=by
 rw[Ak,A1 z4oa,A1 z4oa,A1 z4oa,A1 z4oa,A1 z4oa,A1 z4oa,A1 z4oa,A1 z4oa,A1 z4oa,A1 z4oa,A7 rfl,Ai,A7 hk]at h;exact bind_some h
def Anz{n:Nat}{acc:BT A5}{s:PS}{r:BT A5×PS}(hk0:kT s≠0)(hk:kT s≠4)(h:Ak (n+1) 10 0 acc s=some r):∃x,Ak n 9 0 .nil s=some x/\Ak n 10 0 (Dw acc x.1) x.2=some r:=by
 rw[Ak,A1 z4oa,A1 z4oa,A1 z4oa,A1 z4oa,A1 z4oa,A1 z4oa,A1 z4oa,A1 z4oa,A1 z4oa,A1 z4oa,A7 rfl,A1 hk0,A1 hk]at h;exact bind_some h
def opens(k:Nat):Bool:=k==18||k==20||k==22
def So(k:Nat):Bool:=k==19||k==21||k==23
def Aml(ts:List Tk)(i:Nat)(h:i<ts.length)(o:Int):nest (ts.drop i) o=if opens ts[i].k then(if 30<=o then ts[i].line else nest (ts.drop (i+1)) (o+1)) else if So ts[i].k then nest (ts.drop (i+1)) (o-1) else nest (ts.drop (i+1)) o:=by
 rw[Gk h,nest];have e1:(ts[i].k=18\/ts[i].k=20\/ts[i].k=22)↔opens ts[i].k=true:=by simp[opens,or_assoc]
 have e2:(ts[i].k=19\/ts[i].k=21\/ts[i].k=23)↔So ts[i].k=true:=by simp[So,or_assoc]
 simp only[e1,e2]
def Amk(ts:List Tk)(i:Nat)(h:ts.length<=i)(o:Int):nest (ts.drop i) o=0:=by
 rw[Pz h,nest]
