import Derived.Test.YtjdlndhfaaolaaaGreatDoorX43
set_option maxHeartbeats 20000000
namespace Go.Proofs.YtjdlndhfaaolaaaGreatDoor
section
set_option maxRecDepth 100000
open Go.RowKit
open Go.Deep (BT)
theorem G9.keep{w w':World}(h:G9 w)(hb:Below w.heap.size w w'):G9 w':=Lib.tabBelow_of_tabIs h w' hb
def Ua(va:Option Addr)(vn vc:Nat):Value:=.tuple #[.slice va vn vc,.bool true]
def Zz(P:D5)(bets:List Da)(out:List (List UInt8)):Prop:=∀(w:World) (gb:Nat) (E:Nat->Prop) (v:Value),P1 E w gb P->(∀g,E g->g<w.heap.size)->G9 w->J9 T4 w v bets->
 Calls Tryz.prog 23 #[.pointer (some ⟨gb,0,none⟩),v] w fun e w'=>∃va vn vc line fv dv,e=.returned (.agg #[.slice va vn vc,.int .i64 0,.int .i64 (line:Nat),fv,dv])/\(∃fa fn fc da dn dc,fv=.slice fa fn fc/\dv=.slice da dn dc)/\w'.ownsRow 0 9 1 (.slice va vn vc) out.length (strs out)/\Below w.heap.size w w'
def V9(l:List UInt8)(bets:List Da)(out:List (List UInt8)):Prop:=∀(w:World) (v:Value),Ix w->4<=w.heap.size->G9 w->J9 T4 w v bets->
 Calls Tryz.prog 17 #[.string ⟨l.toArray⟩,v] w fun e w'=>∃va vn vc,e=.returned (Ua va vn vc)/\w'.ownsRow 0 9 1 (.slice va vn vc) out.length (strs out)/\Below w.heap.size w w'
theorem Ahs{l:List UInt8}{c:BT A3}{P:D5}{bets:List Da}{out:List (List UInt8)}(hPa:Sy l)(hc:E8 l=((0,0),some c))(hP:Ga c=P)(hR:Zz P bets out):V9 l bets out:=by
 intro w v hg hw ht hb;obtain⟨a,cc,rfl,hcc,hb'⟩:=id hb;have HCo:=A0 (r6 l (fun _=>hPa) w hg hw);have HT:=A0 ht;have HBt:=A0 hb;have HR:=A0 hR;have HC:=A0 hc;clear hg ht hb hb' hR hc;go_enter Tryz.func17,Tryz.ntmps17;go_wp2_with fail
 refine HCo.o.mono ?_;rintro e w1 ⟨A1,⟨hf,rfl⟩|⟨c',gb,E,hcp,_,_,_,rfl,hpg,hE⟩⟩
 ·exact absurd (by rw[HC.o]) hf
 ·have hcc':c'=c:=by have:=HC.o.symm.trans hcp;simpa using this.symm
  rw[hcc',hP]at hpg;clear hcc' hP hcp HCo;have ls:=A1.size;have HRun:=A0 (fun(W:World) (hbW:Below w1.heap.size w1 W)=>HR.o W gb E (.slice a bets.length cc) (by obtain⟨pb,q1,q2,q3⟩:=hpg;exact⟨pb,q1,(hbW.block _ (A6 q2)).trans q2,q3.keep (fun g hg hl=>⟨hbW.block g hl,hg⟩)⟩) (fun g hg=>Nat.lt_of_lt_of_le (hE g hg).2 hbW.size) ((HT.o.keep A1).keep hbW) ((HBt.o.below A1).below hbW));have A4:=A0 A1;clear A1 hpg hE HR HT HBt HC;go_wp2_with fail
  refine(HRun.o _ z4xa).mono ?_;rintro e w2 ⟨va,vn,vc,line,fv,dv,rfl,⟨fa,fn,fc,da,dn,dc,rfl,rfl⟩,ho,A9⟩;have HO:=A0 ho;have Aa:Hid (Below w.heap.size w w2):=A4.o.trans (Below.trans (by repeat (first|exact Below.refl _ _|refine Below.alloc ?_ z4sa _|refine Below.setCell ?_ z4za _|refine Below.drew ?_)) (A9.mono z4za));have ls2:=Aa.o.size;clear ho A9 HRun;go_wp2;go_region
  all_goals go_wp2
  all_goals refine bodyPost_ret (v:=Ua va vn vc) (by simp[results,Tryz.results17,go_sem,Ua]) rfl ?_
  all_goals refine⟨va,vn,vc,rfl,B2 HO.o (fun k _ hl=>Below.heap_alloc _ _ _ hl),?_⟩
  all_goals repeat (first|exact Aa.o|refine Below.alloc ?_ z4sa _|refine Below.drew ?_)
theorem Aes(W:World)(l:List (List UInt8))(hn:l.length<=1000):(W.alloc (.cells (strs l).toArray 9)).ownsRow 0 9 1 (.slice (some ⟨W.heap.size,0,none⟩) l.length l.length) l.length (strs l):=
 ⟨by simp[strs],.inr ⟨W.heap.size,l.length,(strs l).toArray,rfl,Nat.zero_le _,heap_alloc_new _ _,Nat.le_refl _,by unfold maxLen;omega,by simp[strs],by simp only[Nat.mul_one];exact List.take_of_length_le (by simp[strs])⟩⟩
theorem A8f(h:V9 Ow [] Qy)(w:World)(hg:Ix w)(hw:4<=w.heap.size)(ht:G9 w):Calls Tryz.prog 15 #[] w fun e w'=>e=.returned (.bool true)/\Below w.heap.size w w':=by
 have HR:=A0 (h w (.slice none 0 0) hg hw ht ⟨none,0,rfl,Nat.le_refl _,fun q=>absurd rfl q⟩);clear hg ht h;go_enter Tryz.func15,Tryz.ntmps15;go_wp2_with fail
 refine HR.o.mono ?_;rintro e w1 ⟨va,vn,vc,rfl,ho,hb⟩;have ls:=hb.size;have HS:=A0 (A3b Qy z4ta (w1.alloc (.cells (strs Qy).toArray 9)) va vn vc (some ⟨w1.heap.size,0,none⟩) 3 3 (B2 ho (fun k _ hl=>Below.heap_alloc _ _ _ hl)) (Aes w1 Qy z4ta));have HB:=A0 hb;clear ho hb HR;unfold Ua;go_wp2_with fail
 refine HS.o.mono ?_;rintro e w2 ⟨rfl,A9⟩;have Aa:Hid (Below w.heap.size w w2):=HB.o.trans (Below.trans (Below.alloc (Below.refl _ _) ls _) (A9.mono z4za));clear A9 HS;go_wp2;go_ret;exact⟨rfl,Aa.o⟩
theorem Aga(c:Int)(hc:Ht c)(n:Nat)(h0:0<n)(hn:n<=1000)(w:World):Calls Tryz.prog 21 #[.int .i64 c,.int .i64 (n:Nat)] w fun e w'=>∃k:Nat,k<n/\e=.returned (.int .i64 (k:Nat))/\w'=w:=by
 have hz:((n:Nat):Int)≠0:=by omega
 unfold Ht at hc;by_cases h:c<0
 ·have hw:IntKind.i64.wrap (c+1)=c+1:=by rw[IntKind.wrap_i64];omega
  have Fx:IntKind.i64.wrap (-(c+1))=-(c+1):=by rw[IntKind.wrap_i64];omega
  have e0:(-(c+1)).tmod (n:Int)=-(c+1) % (n:Int):=Int.tmod_eq_emod_of_nonneg z4sa;have hn0:=Int.emod_nonneg (-(c+1)) hz;have hlt:=Int.emod_lt_of_pos (-(c+1)) (show(0:Int)<(n:Nat) by omega);go_enter Tryz.func21,Tryz.ntmps21;go_wp2;go_ret;exact⟨(-(c+1) % (n:Int)).toNat,by omega,by rw[Int.toNat_of_nonneg hn0];rfl,rfl⟩
 ·have e0:c.tmod (n:Int)=c % (n:Int):=Int.tmod_eq_emod_of_nonneg z4sa;have hn0:=Int.emod_nonneg c hz;have hlt:=Int.emod_lt_of_pos c (show(0:Int)<(n:Nat) by omega);go_enter Tryz.func21,Tryz.ntmps21;go_wp2;go_ret;exact⟨(c % (n:Int)).toNat,by omega,by rw[Int.toNat_of_nonneg hn0];rfl,rfl⟩
def LnR(w:World)(n q:Nat)(v5 v6:Value)(wr:World):Prop:=∃j:Nat,v5=.string ⟨(List.replicate j (10:UInt8)).toArray⟩/\v6=.int .i64 (j:Nat)/\j+q=n/\Below w.heap.size w wr
theorem z39a {P:Prop} (h:P:=by
  go_wp2;go_ret;exact⟨rfl,by repeat (first|exact Ay.o|refine Below.alloc ?_ (by first|omega|(simp;omega)) _)⟩):P:=h
theorem z2va {P:Prop} (h:P:=by
  go_wp2;go_ret;exact⟨rfl,by repeat (first|exact Cs.o|refine Below.alloc ?_ (by first|omega|(simp;omega)) _|refine Below.drew ?_)⟩):P:=h
theorem Aex{l:List UInt8}(hl:l.length<=140737488351232){ln:Int}(hln:Ht ln)(w:World)
  (hAw:Calls Tryz.prog 15 #[] w fun e w'=>e=.returned (.bool true)/\Below w.heap.size w w')
  (hCo:∀(t:List UInt8) (W:World),Below w.heap.size w W->Calls Tryz.prog 22 #[.string ⟨t.toArray⟩] W (Zq t W))
  (hRun:∀(P:D5) (m':MS) (W:World) (gb:Nat) (E:Nat->Prop),Pz P->Fm P [] steps (mstart P)=some m'->Below w.heap.size w W->P1 E W gb P->(∀g,E g->g<W.heap.size)->Calls Tryz.prog 23 #[.pointer (some ⟨gb,0,none⟩),.slice none 0 0] W (Sz W m'.code m'.line m'.out m'.lots))
  (hSame:∀(l:List (List UInt8)) (_:l.length<=100000) (W:World) (va:Option Addr) (vn vc:Nat) (ua:Option Addr) (un uc:Nat) (_:W.ownsRow 0 9 1 (.slice va vn vc) l.length (strs l)) (_:W.ownsRow 0 9 1 (.slice ua un uc) l.length (strs l)),Calls Tryz.prog 20 #[.slice va vn vc,.slice ua un uc] W fun e w'=>e=.returned (.bool true)/\Below W.heap.size W w') :
  Calls Tryz.prog 7 #[.string ⟨l.toArray⟩,.int .i64 ln] w fun e w'=>e=.returned (.bool true)/\Below w.heap.size w w':=by
 have HAw:=A0 hAw;have HCo:=A0 hCo;have HRun:=A0 hRun;have HSame:=A0 hSame;have HPk:=A0 (fun W:World=>Aga ln hln 20 z4sa z4sa W);clear hAw hCo hRun hSame hln;go_enter Tryz.func7,Tryz.ntmps7;go_wp2_with fail
 refine HAw.o.mono ?_;rintro e w1 ⟨rfl,A1⟩;have A4:=A0 A1;have ls1:=A1.size;clear A1 HAw;go_wp2_with fail
 refine(HPk.o _).mono ?_;rintro e w2 ⟨n,hn,rfl,Fx⟩;subst Fx;clear HPk;go_wp2;go_loopg [7,8] n (fun q v5 v6 wr=>LnR w n q v5 v6 wr)
 case atStart=>exact⟨0,rfl,rfl,by omega,A4.o⟩
 case round=>
  obtain⟨j,rfl,rfl,hjk,hbr⟩:=hrel;have HBr:=A0 hbr;have lsr:=hbr.size;clear hbr;by_cases hlt:j<n
  ·have t1:((j:Nat):Int)<((n:Nat):Int):=by omega
   have hX:(List.replicate j (10:UInt8)).length<=20:=by simp;omega
   have HX:Hid (List.replicate j (10:UInt8)++[10]=List.replicate (j+1) 10):=List.replicate_succ'.symm;generalize List.replicate j (10:UInt8)=X at *;obtain⟨X1,h1⟩:∃x,x=X++[10]:=⟨_,rfl⟩;have hx:=HX.o;rw[←h1]at hx;have Gz:=A0 hx;have sa1:=Sb X [10] z4sa z4wa;rw[←h1]at sa1;clear h1 hx HX;go_wp2;go_roundg (gk-1)
   case measure=>omega
   case rel=>exact⟨j+1,by rw[←Gz.o],rfl,by omega,HBr.o⟩
  ·have hjn:j=n:=by omega
   subst hjn;have tj:¬((j:Nat):Int)<((j:Nat):Int):=by omega
   clear hlt hjk;have Gy:=A0 (HCo.o l wr HBr.o);generalize hX:List.replicate j (10:UInt8)=X at *;have HX:=A0 hX;have lX:X.length=j:=by rw[←hX];simp
   clear hX;go_wp2_with fail
   refine Gy.o.mono ?_;clear Gy;rintro e w3 ⟨Ar,⟨hf,rfl⟩|⟨c,gb,E,hT,_,_,_,rfl,hpg,hE⟩⟩
   ·have Ay:Hid (Below w.heap.size w w3):=HBr.o.trans (Ar.mono lsr);have ls3:=Ay.o.size;generalize hfl:(E8 l).1=fl at *;have HFl:=A0 hfl;have t0:(((fl.1:Nat):Int)==0)=false:=by rw[beq_eq_false_iff_ne];omega
    have t0':(((fl.1:Nat):Int) !=0)=true:=by rw[bne,t0];rfl
    have HF:=A0 hf;have hfl2:fl.2<=5000:=by rw[←hfl];exact Amv l
    clear Ar hfl hf;by_cases hs:l.length+j+4<=2000
    ·have tz:¬(2000:Int)<((l.length:Nat):Int)+((j:Nat):Int)+4:=by omega
     have sa1:=Sb X l z4sa z4sa;have HTl:Hid (E8 (X++l)=(M4 j fl,(E8 l).2.map (Dj j))):=by show _=_;rw[←HX.o,A4o l j z4sa,HFl.o]
     obtain⟨Y,hY⟩:∃x,x=X++l:=⟨_,rfl⟩;rw[←hY]at sa1 HTl;clear hY hs;obtain⟨c0,l0⟩:=fl;dsimp only at *;obtain⟨W3,hW3⟩:∃x,x=w3.alloc (.cells #[.int .i64 (c0:Nat),.int .i64 (l0:Nat)] 50):=⟨_,rfl⟩;have z3:W3.heap[w3.heap.size]?=some (.cells #[.int .i64 (c0:Nat),.int .i64 (l0:Nat)] 50 (0,0)):=by rw[hW3];exact heap_alloc_new _ _
     have s3:W3.heap.size=w3.heap.size+1:=by rw[hW3];simp
     have HBW:Hid (Below w.heap.size w W3):=by rw[hW3];exact Below.alloc Ay.o ls3 _
     have HW3:=A0 hW3;have Ed:=A0 (HCo.o Y W3 HBW.o);clear hW3;go_wp2_with fail
     rw[←HW3.o];refine Ed.o.mono ?_;clear Ed;rintro e w4 ⟨Bi,⟨hf4,rfl⟩|⟨c,gb,E,hT,_⟩⟩
     ·rw[HTl.o];have z4:=(Bi.block _ z4sa).trans z3;have y0:=A7 z4 0 _ rfl;have y1:=A7 z4 1 _ rfl;have ly:=A6 z4;have Cs:Hid (Below w.heap.size w w4):=HBW.o.trans (Bi.mono HBW.o.size);have ls4:=Cs.o.size;clear Bi hf4 z3 z4;by_cases h2:l0=0
      ·have e2:M4 j (c0,l0)=(c0,0):=by unfold M4 Kt;rw[if_pos h2]
       rw[e2];subst h2;dsimp only;clear e2;exact z2va
      ·have e2:M4 j (c0,l0)=(c0,l0+j):=by unfold M4 Kt;rw[if_neg h2]
       rw[e2];dsimp only;rw[Int.natCast_add];have t5:(0:Int)<((l0:Nat):Int):=by omega
       clear e2 h2;exact z2va
     ·have:=HTl.o.symm.trans hT;injection this with q1 _;have q2:=congrArg Prod.fst q1;exact absurd q2 HF.o
    ·have tz:(2000:Int)<((l.length:Nat):Int)+((j:Nat):Int)+4:=by omega
     clear hs;exact z39a
   ·have Ay:Hid (Below w.heap.size w w3):=HBr.o.trans (Ar.mono lsr);have ls3:=Ay.o.size;by_cases hs:l.length+j+4<=2000
    ·have tz:¬(2000:Int)<((l.length:Nat):Int)+((j:Nat):Int)+4:=by omega
     have hOK:=Yp z4sa hT;obtain⟨m',hr,_,_,hout,hline⟩:=A2y hOK;have HOut:=A0 hout;have lY:(X++l).length<=2000:=by rw[List.length_append];omega
     have HOK:=A0 hOK;have HRn:=A0 hr;have HPg:Hid (∀W:World,Below w3.heap.size w3 W->P1 E W gb (Ga c)/\∀g,E g->g<W.heap.size):=fun W hbW=>⟨by obtain⟨pb,q1,q2,q3⟩:=hpg;exact⟨pb,q1,(hbW.block _ (A6 q2)).trans q2,q3.keep (fun g hg hl=>⟨hbW.block g hl,hg⟩)⟩,fun g hg=>Nat.lt_of_lt_of_le (hE g hg).2 hbW.size⟩;have sa1:=Sb X l z4sa z4sa;have HTl:Hid (E8 (X++l)=((0,0),some (Dj j c))):=by show _=_;rw[←HX.o,A4o l j z4sa,hT];rfl
     have HTr:Hid (E8 (l++[32,10,47,47])=((0,0),some c)):=Amw l c z4sa hT;have HTb:Hid (∃k,E8 (l++[10,32,63])=((2,k),none)):=Amu l c z4sa hT;have sa2:=Sb l [32,10,47,47] z4sa z4wa;have sa3:=Sb l [10,32,63] z4sa z4wa;obtain⟨Y,hY⟩:∃x,x=X++l:=⟨_,rfl⟩;obtain⟨Y2,hY2⟩:∃x,x=l++[32,10,47,47]:=⟨_,rfl⟩;obtain⟨Y3,hY3⟩:∃x,x=l++[10,32,63]:=⟨_,rfl⟩;rw[←hY]at sa1 HTl lY;have HOK2:Hid (Pz (Kg j (Ga c))):=by show Pz _;rw[←A0c];exact Yp lY HTl.o
     rw[←hY2]at sa2 HTr;rw[←hY3]at sa3 HTb;clear hY hY2 hY3 hs Ar hOK hr hpg hE hT hout lY;obtain⟨W3,hW3⟩:∃x,x=w3.alloc (.cells #[.int .i64 0,.int .i64 0] 50):=⟨_,rfl⟩;have z3:W3.heap[w3.heap.size]?=some (.cells #[.int .i64 0,.int .i64 0] 50 (0,0)):=by rw[hW3];exact heap_alloc_new _ _
     have s3:W3.heap.size=w3.heap.size+1:=by rw[hW3];simp
     have HB33:Hid (Below w3.heap.size w3 W3):=by rw[hW3];exact Below.alloc (Below.refl _ _) (Nat.le_refl _) _
     have HBW:Hid (Below w.heap.size w W3):=Ay.o.trans (HB33.o.mono ls3);have HW3:=A0 hW3;have Ed:=A0 (HCo.o Y W3 HBW.o);clear hW3;go_wp2_with fail
     rw[←HW3.o];refine Ed.o.mono ?_;clear Ed;rintro e w4 ⟨Bi,⟨hf4,_⟩|⟨c2,gb2,E2,Il,_,_,_,rfl,hpg2,hE2⟩⟩
     ·rw[HTl.o]at hf4;exact absurd rfl hf4
     have hc2:c2=Dj j c:=by have:=HTl.o.symm.trans Il;simpa using this.symm
     rw[hc2,A0c]at hpg2;have HPg2:Hid (∀W:World,Below w4.heap.size w4 W->P1 E2 W gb2 (Kg j (Ga c))/\∀g,E2 g->g<W.heap.size):=fun W hbW=>⟨by obtain⟨pb,q1,q2,q3⟩:=hpg2;exact⟨pb,q1,(hbW.block _ (A6 q2)).trans q2,q3.keep (fun g hg hl=>⟨hbW.block g hl,hg⟩)⟩,fun g hg=>Nat.lt_of_lt_of_le (hE2 g hg).2 hbW.size⟩;have z4:=(Bi.block _ z4sa).trans z3;have y0:=A7 z4 0 _ rfl;have y1:=A7 z4 1 _ rfl;have ly:=A6 z4;have HB34:Hid (Below w3.heap.size w3 w4):=HB33.o.trans (Bi.mono z4sa);have Cs:Hid (Below w.heap.size w w4):=HBW.o.trans (Bi.mono HBW.o.size);have ls4:=Cs.o.size;clear Bi z3 z4 Il hc2 hpg2 hE2 HTl HW3;obtain⟨W4,hW4⟩:∃x,x=(w4.alloc (.cells #[.int .i64 0,.int .i64 0] 50)).alloc (.cells #[.int .i64 0,.int .i64 0] 50):=⟨_,rfl⟩;have s4:W4.heap.size=w4.heap.size+2:=by rw[hW4];simp
     have HB44:Hid (Below w4.heap.size w4 W4):=by rw[hW4];exact Below.alloc (Below.alloc (Below.refl _ _) (Nat.le_refl _) _) z4wa _
     have HC3:=A0 (HCo.o Y2 W4 (Cs.o.trans (HB44.o.mono ls4)));have HW4:=A0 hW4;clear hW4;go_wp2_with fail
     rw[←HW4.o];refine HC3.o.mono ?_;clear HC3;rintro e w5 ⟨Dd,⟨hf5,_⟩|⟨c3,gb3,E3,I2,_,_,_,rfl,hpg3,hE3⟩⟩
     ·rw[HTr.o]at hf5;exact absurd rfl hf5
     have hc3:c3=c:=by have:=HTr.o.symm.trans I2;simpa using this.symm
     rw[hc3]at hpg3;have HPg3:Hid (∀W:World,Below w5.heap.size w5 W->P1 E3 W gb3 (Ga c)/\∀g,E3 g->g<W.heap.size):=fun W hbW=>⟨by obtain⟨pb,q1,q2,q3⟩:=hpg3;exact⟨pb,q1,(hbW.block _ (A6 q2)).trans q2,q3.keep (fun g hg hl=>⟨hbW.block g hl,hg⟩)⟩,fun g hg=>Nat.lt_of_lt_of_le (hE3 g hg).2 hbW.size⟩;have HB45:Hid (Below w4.heap.size w4 w5):=HB44.o.trans (Dd.mono z4sa);have Ek:Hid (Below w.heap.size w w5):=Cs.o.trans (HB45.o.mono ls4);have ls5:=Ek.o.size;clear Dd I2 hc3 hpg3 hE3 HTr HW4 y0 y1 ly;obtain⟨W5,hW5⟩:∃x,x=w5.alloc (.cells #[.int .i64 0,.int .i64 0] 50):=⟨_,rfl⟩;have z5:W5.heap[w5.heap.size]?=some (.cells #[.int .i64 0,.int .i64 0] 50 (0,0)):=by rw[hW5];exact heap_alloc_new _ _
     have s5:W5.heap.size=w5.heap.size+1:=by rw[hW5];simp
     have HB55:Hid (Below w5.heap.size w5 W5):=by rw[hW5];exact Below.alloc (Below.refl _ _) (Nat.le_refl _) _
     have HC4:=A0 (HCo.o Y3 W5 (Ek.o.trans (HB55.o.mono ls5)));have HW5:=A0 hW5;clear hW5;go_wp2_with fail
     rw[←HW5.o];refine HC4.o.mono ?_;clear HC4;obtain⟨kb,hkb⟩:=HTb.o;rintro e w6 ⟨hb6,⟨hf6,rfl⟩|⟨c4,gb4,E4,Gb,_⟩⟩;rotate_left
     ·rw[hkb]at Gb;simp at Gb
     rw[hkb];have z6:=(hb6.block _ z4sa).trans z5;have HB56:Hid (Below w5.heap.size w5 w6):=HB55.o.trans (hb6.mono z4sa);have ls56:=HB56.o.size;clear hb6 hf6 z5 HTb hkb HW5;obtain⟨W6,hW6⟩:∃x,x=w6.alloc (.cells #[.int .i64 2,.int .i64 (kb:Nat)] 50):=⟨_,rfl⟩;have v6:W6.heap[w6.heap.size]?=some (.cells #[.int .i64 2,.int .i64 (kb:Nat)] 50 (0,0)):=by rw[hW6];exact heap_alloc_new _ _
     have s6:W6.heap.size=w6.heap.size+1:=by rw[hW6];simp
     have HB66:Hid (Below w6.heap.size w6 W6):=by rw[hW6];exact Below.alloc (Below.refl _ _) (Nat.le_refl _) _
     have HB36:Hid (Below w3.heap.size w3 W6):=HB34.o.trans ((HB45.o.trans ((HB56.o.trans (HB66.o.mono ls56)).mono HB45.o.size)).mono HB34.o.size);have Jh:Hid (Below w.heap.size w W6):=Ay.o.trans (HB36.o.mono ls3);have Jj:=A0 (HRun.o (Ga c) m' W6 gb E HOK.o HRn.o Jh.o (HPg.o W6 HB36.o).1 (HPg.o W6 HB36.o).2);have HW6:=A0 hW6;have lz6:=A6 z6;have u6:=(HB66.o.block _ lz6).trans z6;have HU6:=A0 u6;have HV6:=A0 v6;clear hW6 HPg z6 u6 v6;go_wp2_with fail
     rw[←HW6.o];refine Jj.o.mono ?_;clear Jj;rintro e w7 ⟨va,vn,vc,fa,fn,fc,da,dn,dc,rfl,ho,_,_,He⟩;obtain⟨W7,hW7⟩:∃x,x=w7.alloc (.cells #[.slice va vn vc,.int .i64 (m'.code:Nat),.int .i64 (m'.line:Nat),.slice fa fn fc,.slice da dn dc] 54):=⟨_,rfl⟩;have v7:W7.heap[w7.heap.size]?=some (.cells #[.slice va vn vc,.int .i64 (m'.code:Nat),.int .i64 (m'.line:Nat),.slice fa fn fc,.slice da dn dc] 54 (0,0)):=by rw[hW7];exact heap_alloc_new _ _
     have s7:W7.heap.size=w7.heap.size+1:=by rw[hW7];simp
     have l67:=He.size;have HB77:Hid (Below w7.heap.size w7 W7):=by rw[hW7];exact Below.alloc (Below.refl _ _) (Nat.le_refl _) _
     have HB67:Hid (Below W6.heap.size W6 W7):=He.trans (HB77.o.mono l67);have HO7:Hid (W7.ownsRow 0 9 1 (.slice va vn vc) m'.out.length (strs m'.out)):=Lh ho HB77.o;have h7:=(He.block _ z4sa).trans HU6.o;have i7:=(He.block _ z4sa).trans HV6.o;have a0:=A7 h7 0 _ rfl;have b0:=A7 i7 0 _ rfl;have la:=A6 h7;have lb:=A6 i7;have HW7:=A0 hW7;have HV7:=A0 v7;have HB57:Hid (Below w5.heap.size w5 W7):=HB56.o.trans ((HB66.o.trans (HB67.o.mono z4sa)).mono ls56);have HB7:Hid (Below w.heap.size w W7):=Jh.o.trans (HB67.o.mono Jh.o.size);have Dv:=A0 (HRun.o (Ga c) m' W7 gb3 E3 HOK.o HRn.o HB7.o (HPg3.o W7 HB57.o).1 (HPg3.o W7 HB57.o).2);clear hW7 v7 ho He HB77 h7 i7 HU6 HV6 HPg3;go_wp2_with fail
     rw[←HW7.o];refine Dv.o.mono ?_;clear Dv;rintro e w8 ⟨va2,vn2,vc2,fa2,fn2,fc2,da2,dn2,dc2,rfl,B1,_,_,hb8⟩;obtain⟨W8,hW8⟩:∃x,x=w8.alloc (.cells #[.slice va2 vn2 vc2,.int .i64 (m'.code:Nat),.int .i64 (m'.line:Nat),.slice fa2 fn2 fc2,.slice da2 dn2 dc2] 54):=⟨_,rfl⟩;have v8:W8.heap[w8.heap.size]?=some (.cells #[.slice va2 vn2 vc2,.int .i64 (m'.code:Nat),.int .i64 (m'.line:Nat),.slice fa2 fn2 fc2,.slice da2 dn2 dc2] 54 (0,0)):=by rw[hW8];exact heap_alloc_new _ _
     have s8:W8.heap.size=w8.heap.size+1:=by rw[hW8];simp
     have l78:=hb8.size;have HB88:Hid (Below w8.heap.size w8 W8):=by rw[hW8];exact Below.alloc (Below.refl _ _) (Nat.le_refl _) _
     have HB78:Hid (Below W7.heap.size W7 W8):=hb8.trans (HB88.o.mono l78);have HO8:Hid (W8.ownsRow 0 9 1 (.slice va2 vn2 vc2) m'.out.length (strs m'.out)):=Lh B1 HB88.o;have HW8:=A0 hW8;have HV8:=A0 v8;have HB48:Hid (Below w4.heap.size w4 W8):=HB45.o.trans ((HB57.o.trans (HB78.o.mono HB57.o.size)).mono HB45.o.size);have HB8:Hid (Below w.heap.size w W8):=HB7.o.trans (HB78.o.mono HB7.o.size);have Eu:=A0 (HRun.o (Kg j (Ga c)) (D1 j m') W8 gb2 E2 HOK2.o (Aie (Ga c) steps HRn.o) HB8.o (HPg2.o W8 HB48.o).1 (HPg2.o W8 HB48.o).2);clear hW8 v8 B1 hb8 HB88 a0 b0 la lb HPg2;go_wp2_with fail
     rw[←HW8.o];refine Eu.o.mono ?_;clear Eu;rintro e w9 ⟨va3,vn3,vc3,fa3,fn3,fc3,da3,dn3,dc3,rfl,Cj,_,_,Dl⟩;have ho3':w9.ownsRow 0 9 1 (.slice va3 vn3 vc3) m'.out.length (strs m'.out):=Cj;have hcd:(D1 j m').code=m'.code:=rfl;rw[hcd];have hlne:(D1 j m').line=if m'.code=0 then m'.line else m'.line+j:=rfl;rw[hlne];generalize hLL:(if m'.code=0 then m'.line else m'.line+j)=LL at *;have HLL:=A0 hLL;clear hLL hlne Cj hcd;obtain⟨W9,hW9⟩:∃x,x=w9.alloc (.cells #[.slice va3 vn3 vc3,.int .i64 (m'.code:Nat),.int .i64 (LL:Nat),.slice fa3 fn3 fc3,.slice da3 dn3 dc3] 54):=⟨_,rfl⟩;have v9:W9.heap[w9.heap.size]?=some (.cells #[.slice va3 vn3 vc3,.int .i64 (m'.code:Nat),.int .i64 (LL:Nat),.slice fa3 fn3 fc3,.slice da3 dn3 dc3] 54 (0,0)):=by rw[hW9];exact heap_alloc_new _ _
     have s9:W9.heap.size=w9.heap.size+1:=by rw[hW9];simp
     have l89:=Dl.size;have HB99:Hid (Below w9.heap.size w9 W9):=by rw[hW9];exact Below.alloc (Below.refl _ _) (Nat.le_refl _) _
     have HB89:Hid (Below W8.heap.size W8 W9):=Dl.trans (HB99.o.mono l89);have HO9:Hid (W9.ownsRow 0 9 1 (.slice va3 vn3 vc3) m'.out.length (strs m'.out)):=Lh ho3' HB99.o;have HB79:Hid (Below W7.heap.size W7 W9):=HB78.o.trans (HB89.o.mono HB78.o.size);have x9:=(Dl.block _ z4sa).trans ((HB78.o.block _ z4sa).trans HV7.o);have y9:=(Dl.block _ z4sa).trans HV8.o;have HX9:=A0 x9;have HY9:=A0 y9;have HZ9:=A0 v9;have xo:=A7 x9 0 _ rfl;have yo:=A7 y9 0 _ rfl;have lx:=A6 x9;have lyy:=A6 y9;have HW9:=A0 hW9;have Gx:Hid (Below w.heap.size w W9):=HB8.o.trans (HB89.o.mono HB8.o.size);have A8:=A0 (HSame.o m'.out (by have:=HOut.o;omega) W9 va vn vc va2 vn2 vc2 (Lh HO7.o HB79.o) (Lh HO8.o HB89.o));clear hW9 v9 x9 y9 Dl ho3' HB99;go_wp2_with fail
     rw[←HW9.o];refine A8.o.mono ?_;clear A8;rintro e w10 ⟨rfl,hb10⟩;have HB910:=A0 hb10;have l910:=hb10.size;have HX9':Hid (W9.heap[w7.heap.size]?=some (.cells #[.slice va vn vc,.int .i64 (m'.code:Nat),.int .i64 (m'.line:Nat),.slice fa fn fc,.slice da dn dc] 54 (0,0))):=(HB79.o.block _ z4sa).trans HV7.o;have HY9':Hid (W9.heap[w8.heap.size]?=some (.cells #[.slice va2 vn2 vc2,.int .i64 (m'.code:Nat),.int .i64 (m'.line:Nat),.slice fa2 fn2 fc2,.slice da2 dn2 dc2] 54 (0,0))):=(HB89.o.block _ z4sa).trans HV8.o;have x10:=(hb10.block _ z4sa).trans HX9'.o;have z10:=(hb10.block _ z4sa).trans HZ9.o;have xo:=A7 x10 0 _ rfl;have zo:=A7 z10 0 _ rfl;have lx:=A6 x10;have lz:=A6 z10;have Ah:=A0 (HSame.o m'.out (by have:=HOut.o;omega) w10 va vn vc va3 vn3 vc3 (Lh HO7.o (HB79.o.trans (hb10.mono HB79.o.size))) (Lh HO9.o hb10));clear hb10 x10 z10 HX9 HY9;go_wp2_with fail
     refine Ah.o.mono ?_;clear Ah;rintro e w11 ⟨rfl,hb11⟩;have HB911:Hid (Below W9.heap.size W9 w11):=HB910.o.trans (hb11.mono l910);have l911:=HB911.o.size;have x11:=(HB911.o.block _ z4sa).trans HX9'.o;have y11:=(HB911.o.block _ z4sa).trans HY9'.o;have z11:=(HB911.o.block _ z4sa).trans HZ9.o;have x1:=A7 x11 1 _ rfl;have x2:=A7 x11 2 _ rfl;have y1:=A7 y11 1 _ rfl;have y2:=A7 y11 2 _ rfl;have z1:=A7 z11 1 _ rfl;have z2:=A7 z11 2 _ rfl;have lx:=A6 x11;have ly:=A6 y11;have lz:=A6 z11;have HB11:Hid (Below w.heap.size w w11):=Gx.o.trans (HB911.o.mono Gx.o.size);clear hb11 x11 y11 z11 xo zo;by_cases hcz:m'.code=0
     ·have hLL:=HLL.o;rw[if_pos hcz]at hLL;subst hLL;have t8:(((m'.code:Nat):Int)==0)=true:=by rw[hcz];rfl
      have t8':(((m'.code:Nat):Int) !=0)=false:=by rw[bne,t8];rfl
      clear hcz HLL;go_wp2;go_ret;exact⟨rfl,HB11.o⟩
     ·have hLL:=HLL.o;rw[if_neg hcz]at hLL;have t8:(((m'.code:Nat):Int)==0)=false:=by rw[beq_eq_false_iff_ne];omega
      have t8':(((m'.code:Nat):Int) !=0)=true:=by rw[bne,t8];rfl
      have t9:((LL:Nat):Int)=((m'.line:Nat):Int)+((j:Nat):Int):=by rw[←hLL];exact Int.natCast_add _ _
      rw[t9]at z2;clear hcz HLL hLL t9;go_wp2;go_ret;exact⟨rfl,HB11.o⟩
    ·have tz:(2000:Int)<((l.length:Nat):Int)+((j:Nat):Int)+4:=by omega
     clear hs hT hpg hE Ar;exact z39a
end
end Go.Proofs.YtjdlndhfaaolaaaGreatDoor
