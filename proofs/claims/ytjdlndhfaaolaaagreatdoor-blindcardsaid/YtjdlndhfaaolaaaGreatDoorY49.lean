import Derived.Deep.OwnRows
import Derived.Laws.CopyOwn
import Derived.Test.YtjdlndhfaaolaaaGreatDoorY38
set_option maxHeartbeats 20000000
set_option linter.all false
namespace Go.Proofs.YtjdlndhfaaolaaaGreatDoor
section
set_option maxRecDepth 100000
open Go.RowKit
open Go.Deep (BT)
def N9.nm{D:Nat->Prop}{w:World}:∀{fs:List Fn} {cs:List Value},N9 D w fs cs->∀(j:Nat),j<fs.length->∃n:Nm,cs[j*4]?=some (Ml n):=by
 intro fs;induction fs with
 | nil=>intro cs _ j h;simp at h
 | cons g r ih=>
  intro cs h j hj;obtain⟨sa,sn,sc,rest,e1,h1,h2⟩:=h;cases j with
  | zero=>rw[e1];exact⟨_,rfl⟩
  | succ j=>
   rw[e1,show(j+1)*4=j*4+4 by omega];simpa using ih h2 j z5ga
def Ajz{E:Nat->Prop}{w:World}{gb:Nat}{P:C5}(h:Tp E w gb P)(hfew:P.fns.length<=100000) :
  Calls Tryz.prog 27 #[.p gb] w fun e w'=>(∃va vc,e=.returned (.slice va P.fns.length vc))/\Bw w w':=by
 obtain⟨pb,_,hgb,_,_,_,ha,hn,hc,ms,_,hpb,_,hfo,hfi⟩:=h;obtain⟨N,hN⟩:∃N,P.fns.length=N:=⟨_,rfl⟩;have hnm:=hfi.nm;rw[hN]at hfo hfew hnm ⊢;have hhn:hn=N:=(Cm hfo.1).1;subst hhn;have hmk:=run_make_row' (P:=Tryz.prog) 37 9 (.string ⟨#[]⟩) 16 Tryz.underlying37 Y9 rfl .i64 .i64 hn z4ma z4ma w;obtain⟨Z,hZ⟩:∃Z,Z=(madeCells #[.string ⟨#[]⟩] hn):=⟨_,rfl⟩;have hZl:Z.size=hn:=by rw[hZ,V6]
 rw[←hZ]at hmk;have Fe:(w.alloc (.cells Z 9)).heap[w.heap.size]?=some (.cells Z 9 (0,0)):=Bp w _;have hB1:Bw w (w.alloc (.cells Z 9)):=Ah (Al _ _) (Af _) _;obtain⟨w1,e1⟩:∃w1,w1=w.alloc (.cells Z 9):=⟨_,rfl⟩;rw[←e1]at hmk Fe hB1;have g0:=A4 hgb 0 _ rfl;have p3:=A4 hpb 3 _ rfl;have lg:=A6 hgb;have lp:=A6 hpb;have HOwn:=A0 hfo.1;have HFi:=A0 hnm;have HW1:=A0 Fe;have A9:=A0 hB1;clear e1 hZ hgb hpb hfo hfi hnm Fe hB1;go_in;go_wp2;go_loopg [16] hn (fun k v wr=>∃(i:Nat) (cur:Array Value),v=.i i/\i+k=hn/\wr.heap[w.heap.size]?=some (.cells cur 9 (0,0))/\cur.size=hn/\Bw w wr)
 case atStart=>exact⟨0,Z,rfl,by omega,HW1.o,hZl,A9.o⟩
 case round=>
  obtain⟨i,cur,rfl,hik,hcu,hcl,hbr⟩:=hrel;have HCu:=A0 hcu;have HBr:=A0 hbr;have lsr:=hbr.size;have e0:=(D9 (hbr.block gb lg)).trans g0;have e3:=(D9 (hbr.block pb lp)).trans p3;have fz:=By hcu;have lcu:=A6 hcu;by_cases hlt:i<hn
  ·obtain⟨g,e1,_,hcap,l1,k1⟩:=G1 HOwn.o z4ma;subst e1;obtain⟨nm,hnm⟩:=HFi.o i hlt;have d1:=(D9 (hbr.block g l1)).trans (k1 _ _ hnm);obtain⟨v0,d2⟩:∃v,wr.cell? ⟨w.heap.size,i,none⟩=some v:=⟨cur[i]'z4ma,by rw[K2 wr w.heap.size i cur _ _ hcu,Li z4ma]⟩;have l2:g<wr.heap.size:=by omega
   unfold Ml at d1;clear k1 hcu hbr hnm;go_wp2;go_roundg (gk-1)
   case measure=>omega
   case rel=>exact⟨i+1,cur.setIfInBounds i (.s nm),rfl,by omega,heap_set (j:=i) HCu.o _,by simp[hcl],B0 HBr.o (Af _) _⟩
  ·have hif:i=hn:=by omega
   subst hif;clear hcu hbr e0 e3;go_wp2;exact B9 (v:=.slice (some ⟨w.heap.size,0,none⟩) i i) (by simp[results,Tryz.results27,go_sem]) rfl ⟨⟨_,_,rfl⟩,HBr.o⟩
def A3t(W:World)(e:Ending)(W':World):Prop:=∃v bs,e=.returned v/\H7 M1 W' v bs/\(∀x∈bs,Ly x)/\Bw W W'
def Abf(w:World)(P:C5):Prop:=∃(code line:Nat) (out:List (List UInt8)),out.length<=100/\line<=5000/\P.fns.length<=5000/\∀bs:List Cl,(∀x∈bs,Ly x)->∃Lt:List En,Lt.length=P.fns.length/\(bs=[]->∀q∈Lt,q.fast=0/\q.drops=0)/\
 ∀(W:World) (gb:Nat) (E:Nat->Prop) (v:Value),Bw w W->Tp E W gb P->(∀g,E g->g<W.heap.size)->H7 M1 W v bs->Calls Tryz.prog 23 #[.p gb,v] W (Xi W code line out Lt)
def A21{w W w':World}(hB:Bw w W)(hb:Bw W w')(cs:Array Value)(T:TypeId):∃V,V=w'.alloc (.cells cs T)/\V.heap[w'.heap.size]?=some (.cells cs T (0,0))/\V.heap.size=w'.heap.size+1/\W.heap.size<=w'.heap.size/\Below w'.heap.size w' V/\Bw W V/\Bw w V:=
 have k:Bw W (w'.alloc (.cells cs T)):=hb.alloc hb.size _
 ⟨_,rfl,Bp _ _,by simp,hb.size,Ah (Al _ _) (Af _) _,k,hB.trans (k.mono hB.size)⟩
def Yd{V:World}{a:Option Addr}{n c:Nat}{L:List En}{f:En->Value}{N:Nat}(h:V.ownsRow 0 3 1 (.slice a n c) L.length (L.map f))(hN:L.length=N):n=N/\∀i,i<N->∃g,a=some ⟨g,0,none⟩/\N<=c/\g<V.heap.size/\∃q∈L,V.cell? ⟨g,i,none⟩=some (f q):=by
 subst hN;refine⟨(Cm h).1,fun i hi=>?_⟩;obtain⟨g,e,_,k,lg,hc⟩:=G1 h z4ma;exact⟨g,e,k,lg,L[i],Ho hi,hc i _ (by rw[Qt,Eh hi];rfl)⟩
def Aft{l:List UInt8}(w:World){a1:Option Addr}{n1 c1:Nat}{a2:Option Addr}{n2 c2:Nat}
  (hAw:Calls Tryz.prog 15 #[] w fun e w'=>e=.returned (.bool true)/\Bw w w')
  (hCo:∀(W:World),Bw w W->Calls Tryz.prog 22 #[.s l] W (A3x l W))
  (hRun:∀c,Gu l=((0,0),some c)->Abf w (Fo c))
  (hOne:∀W:World,Bw w W->Calls Tryz.prog 26 #[.slice a1 n1 c1] W (A3t W))
  (hTwo:∀W:World,Bw w W->Calls Tryz.prog 26 #[.slice a2 n2 c2] W (A3t W))
  (hSame:∀(l:List (List UInt8)) (_:l.length<=100000) (W:World) (va:Option Addr) (vn vc:Nat) (ua:Option Addr) (un uc:Nat) (_:W.ownsRow 0 9 1 (.slice va vn vc) l.length (strs l)) (_:W.ownsRow 0 9 1 (.slice ua un uc) l.length (strs l)),Calls Tryz.prog 20 #[.slice va vn vc,.slice ua un uc] W fun e w'=>e=.returned (.bool true)/\Bw W w') :
  Calls Tryz.prog 9 #[.s l,.slice a1 n1 c1,.slice a2 n2 c2] w fun e w'=>e=.returned (.bool true)/\Bw w w':=by
 go_in;go_wp2_with fail
 refine hAw.mono ?_;rintro e w1 ⟨rfl,A2⟩;have ls1:=A2.size;go_wp2_with fail
 refine(hCo _ A2).mono ?_;rintro e w3 ⟨Ay,⟨hf,rfl⟩|⟨c,gb,E,hT,_,_,_,rfl,hpg,hE⟩⟩
 ·have Ba:Hid (Bw w w3):=A2.trans (Ay.mono ls1);have ls3:=Ba.o.size;generalize (Gu l).1=fl at *;have t0:(((fl.1:Nat):Int)==0)=false:=by rw[Am];omega
  have t0':(((fl.1:Nat):Int) !=0)=true:=by rw[bne,t0];rfl
  go_wp2;go_ret;exact⟨rfl,by repeat (first|exact Ba.o|refine Ah ?_ (by first|omega|(simp;omega)) _)⟩
 ·have Ba:Hid (Bw w w3):=A2.trans (Ay.mono ls1);have ls3:=Ba.o.size;obtain⟨code,line,out,hout,hln,hfn,hrun⟩:=hRun c hT;have HPg:∀W:World,Bw w3 W->Tp E W gb (Fo c)/\∀g,E g->g<W.heap.size:=fun W hbW=>⟨by obtain⟨pb,q1,q2,q3⟩:=hpg;exact⟨pb,q1,(hbW.block _ (A6 q2)).trans q2,q3.keep (fun g hg hl=>⟨hbW.block g hl,hg⟩)⟩,fun g hg=>Cb (hE g hg).2 hbW.size⟩;generalize Fo c=P at *;obtain⟨L0,k0,z0,hr0⟩:=hrun [] (fun x q=>by cases q);have HZ0:=z0 rfl;obtain⟨W3,hW3⟩:∃x,x=w3.alloc (.cells #[.i 0,.i 0] 50):=⟨_,rfl⟩;have HB33:Bw w3 W3:=by rw[hW3];exact Ah (Al _ _) (Af _) _
  have HBW:Bw w W3:=Ba.o.trans (HB33.mono ls3);have HR1:=hr0 W3 gb E (.slice none 0 0) HBW (HPg W3 HB33).1 (HPg W3 HB33).2 ⟨none,0,rfl,Af _,fun q=>absurd rfl q⟩;go_wp2_with fail
  rw[←hW3];refine HR1.mono ?_;rintro e w4 ⟨va,vn,vc,fa,fn,fc,da,dn,dc,rfl,ho,hof,hod,Bz⟩;obtain⟨W4,hW4,v4,s4,l4,b44,B34,hB4⟩:=A21 HBW Bz #[.slice va vn vc,.n code,.n line,.slice fa fn fc,.slice da dn dc] 54;have Ce:=Kp ho b44;have HF4:=Kp hof b44;have HD4:=Kp hod b44;have HC4:Bw w3 W4:=HB33.trans (B34.mono HB33.size);go_wp2_with fail
  rw[←hW4];refine(hOne W4 hB4).mono ?_;rintro e w5 ⟨v,bs,rfl,hbv,hbo,Cz⟩;obtain⟨L1,k1,_,Cd⟩:=hrun bs hbo;obtain⟨a5,c5,rfl,_,_⟩:=id hbv;have l45:=Cz.size;have Ez:Bw w w5:=hB4.trans (Cz.mono hB4.size);have HC5:Bw w3 w5:=HC4.trans (Cz.mono HC4.size);have Hx:=Cd w5 gb E _ Ez (HPg w5 HC5).1 (HPg w5 HC5).2 hbv;go_wp2_with fail
  refine Hx.mono ?_;rintro e w6 ⟨va2,vn2,vc2,fa2,fn2,fc2,da2,dn2,dc2,rfl,ho,hof,hod,hb6⟩;obtain⟨W6,hW6,v6,s6,l6,b66,B56,hB6⟩:=A21 Ez hb6 #[.slice va2 vn2 vc2,.n code,.n line,.slice fa2 fn2 fc2,.slice da2 dn2 dc2] 54;have Dz:=Kp ho b66;have HF6:=Kp hof b66;have HD6:=Kp hod b66;have HB46:Bw W4 W6:=Cz.trans (B56.mono Cz.size);have HC6:Bw w3 W6:=HC4.trans (HB46.mono HC4.size);go_wp2_with fail
  rw[←hW6];refine(hTwo W6 hB6).mono ?_;rintro e w7 ⟨v,bs,rfl,hbv,hbo,Jv⟩;obtain⟨L2,k2,_,C7⟩:=hrun bs hbo;obtain⟨a7,c7,rfl,_,_⟩:=id hbv;have l67:=Jv.size;have HB7:Bw w w7:=hB6.trans (Jv.mono hB6.size);have HC7:Bw w3 w7:=HC6.trans (Jv.mono HC6.size);have Jr:=C7 w7 gb E _ HB7 (HPg w7 HC7).1 (HPg w7 HC7).2 hbv;go_wp2_with fail
  refine Jr.mono ?_;rintro e w8 ⟨va3,vn3,vc3,fa3,fn3,fc3,da3,dn3,dc3,rfl,ho,_,_,hb8⟩;obtain⟨W8,hW8,v8,s8,l8,b88,B78,hB8⟩:=A21 HB7 hb8 #[.slice va3 vn3 vc3,.n code,.n line,.slice fa3 fn3 fc3,.slice da3 dn3 dc3] 54;have HO8:=Kp ho b88;have HB68:Bw W6 W8:=Jv.trans (B78.mono Jv.size);have HB48:Bw W4 W8:=HB46.trans (HB68.mono HB46.size);have HC8:Bw w3 W8:=HC6.trans (HB68.mono HC6.size);have x8:=(HB48.block _ z4ma).trans v4;have y8:=(HB68.block _ z4ma).trans v6;have k67:=Jv.trans (hb8.mono Jv.size);have xa:=(k67.block _ z4ma).trans ((HB46.block _ z4ma).trans v4);have ya:=(k67.block _ z4ma).trans v6;have xo:=A4 xa 0 _ rfl;have yo:=A4 ya 0 _ rfl;have lx:=A6 xa;have ly:=A6 ya;have B5:=hSame out z4ma W8 va vn vc va2 vn2 vc2 (Kp Ce HB48) (Kp Dz HB68);go_wp2_with fail
  rw[←hW8];refine B5.mono ?_;rintro e w9 ⟨rfl,Dm⟩;have l89:=Dm.size;have x9:=(Dm.block _ z4ma).trans x8;have z9:=(Dm.block _ z4ma).trans v8;have xo:=A4 x9 0 _ rfl;have zo:=A4 z9 0 _ rfl;have lx:=A6 x9;have lz:=A6 z9;have Au:=hSame out z4ma w9 va vn vc va3 vn3 vc3 (Kp Ce (HB48.trans (Dm.mono HB48.size))) (Kp HO8 Dm);go_wp2_with fail
  refine Au.mono ?_;rintro e w10 ⟨rfl,hb10⟩;have HB810:Bw W8 w10:=Dm.trans (hb10.mono l89);have HC10:Bw w3 w10:=HC8.trans (HB810.mono HC8.size);have HN:=Ajz (HPg w10 HC10).1 z4ma;go_wp2_with fail
  refine HN.mono ?_;rintro e w11 ⟨⟨na,nc,rfl⟩,hb11⟩;have HB811:Bw W8 w11:=HB810.trans (hb11.mono HB810.size);have HB411:Bw W4 w11:=HB48.trans (HB811.mono HB48.size);have HB611:Bw W6 w11:=HB68.trans (HB811.mono HB68.size);have HB11:Bw w w11:=hB8.trans (HB811.mono hB8.size);have ls11:=HB811.size;have x11:=(HB811.block _ z4ma).trans x8;have y11:=(HB811.block _ z4ma).trans y8;have z11:=(HB811.block _ z4ma).trans v8;obtain⟨e1,q1⟩:=Yd (Kp HF4 HB411) k0;obtain⟨e2,q2⟩:=Yd (Kp HD4 HB411) k0;obtain⟨e3,q3⟩:=Yd (Kp HF6 HB611) k1;obtain⟨e4,q4⟩:=Yd (Kp HD6 HB611) k1;generalize P.fns.length=N at *;subst e1 e2 e3 e4;have x1:=A4 x11 1 _ rfl;have x2:=A4 x11 2 _ rfl;have x3:=A4 x11 3 _ rfl;have x4:=A4 x11 4 _ rfl;have y1:=A4 y11 1 _ rfl;have y2:=A4 y11 2 _ rfl;have y3:=A4 y11 3 _ rfl;have y4:=A4 y11 4 _ rfl;have z1:=A4 z11 1 _ rfl;have z2:=A4 z11 2 _ rfl;have lx:=A6 x11;have ly:=A6 y11;have lz:=A6 z11;go_wp2;go_loopg [16] dn2 (fun q v wr=>∃i:Nat,v=.n i/\i+q=dn2/\wr=w11)
  case atStart=>exact⟨0,rfl,by omega,rfl⟩
  case round=>
   obtain⟨i,rfl,hik,rfl⟩:=hrel;by_cases hlt:i<dn2
   ·have t1:((i:Nat):Int)<((dn2:Nat):Int):=by omega
    obtain⟨g1,rfl,c1,lg1,j1,m1,d1⟩:=q1 i hlt;obtain⟨g2,rfl,c2,lg2,j2,m2,d2⟩:=q2 i hlt;obtain⟨g3,rfl,c3,lg3,j3,m3,d3⟩:=q3 i hlt;obtain⟨g4,rfl,c4,lg4,j4,m4,d4⟩:=q4 i hlt;rw[(HZ0 _ m1).1]at d1;rw[(HZ0 _ m2).2]at d2;replace d1:wr.cell? ⟨g1,i,none⟩=some (.i 0):=d1;replace d2:wr.cell? ⟨g2,i,none⟩=some (.i 0):=d2;have t3:¬((j3.fast:Nat):Int)<0:=by omega
    have t4:¬((j4.drops:Nat):Int)<0:=by omega
    go_wp2;go_roundg (gk-1)
    case measure=>omega
    case rel=>exact⟨i+1,rfl,by omega,rfl⟩
   ·have t1:¬((i:Nat):Int)<((dn2:Nat):Int):=by omega
    go_wp2;go_ret;exact⟨rfl,HB11⟩
