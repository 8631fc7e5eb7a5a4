import Derived.Test.YtjdlndhfaaolaaaGreatDoorQ42
set_option maxHeartbeats 20000000
namespace Go.Proofs.YtjdlndhfaaolaaaGreatDoor
section
set_option maxRecDepth 100000
open Go.RowKit
open Go.Deep (BT)
variable {D:Nat->Prop} {kb pb:Nat} {P:Db} {ps:List Kn} {pa:Option Addr} {pc:Nat} {w w':World} {ab:List Kn} {va:Option Addr} {vc:Nat}
def N2(ab:List Kn)(kd:Nat):Bool:=(Dx ab).sure kd||(Kl ab).sure kd
theorem Rd(ab:List Kn):Mb ab=if N2 ab 2 then D4 2 else if N2 ab 3 then D4 3 else Ds:=rfl
theorem Am4(h:E1 D kb pb P ps pa pc w ab va vc):Calls Tryz.prog 319 #[.pointer (some ⟨kb,0,none⟩)] w (KP w (B5 (Mb ab))):=by
 have Bi:=Jn w (.cells #[.bool false,.bool false,.int .i64 0,.bool false,.int .i64 0,.string ⟨#[]⟩,.pointer none] 407);have hq0:=heap_alloc_new w (.cells #[.bool false,.bool false,.int .i64 0,.bool false,.int .i64 0,.string ⟨#[]⟩,.pointer none] 407);have h0:=h.below Bi;have Ce:=A4 h0.st.blk;have hfew:=h.Bq.1;have HL:=A0 (Qs h0.st);have HM:=A0 h0;have Ae:=A0 Bi;have HQ:=A0 hq0;have lq:=A4 hq0;clear h h0 Bi hq0;go_enter Tryz.func319,Tryz.ntmps319;go_wp2_with fail
 refine HL.o.mono ?_;rintro e w1 ⟨rfl,Fs⟩;rw[Fs];clear Fs w1;obtain⟨w0,Cq⟩:∃w0,w0=w.alloc (.cells #[.bool false,.bool false,.int .i64 0,.bool false,.int .i64 0,.string ⟨#[]⟩,.pointer none] 407):=⟨_,rfl⟩;rw[←Cq]at HM Ae HQ HL Ce lq ⊢;clear Cq HL;have ls0:=Ae.o.size;go_wp2;go_loopg [12] 2 (fun k v wr=>∃i:Nat,v=.int .i64 i/\i+k=2/\(∀j,j<i->N2 ab (j+2)=false)/\Below w0.heap.size w0 wr)
 case atStart=>exact⟨0,rfl,rfl,fun j hj=>by omega,Below.refl _ _⟩
 case round=>
  obtain⟨i,rfl,hik,hno,hbr⟩:=hrel;have HBr:=A0 hbr;have HNo:=A0 hno;have HMr:=A0 (HM.o.below hbr);have lbr:=Nat.lt_of_lt_of_le Ce hbr.size;have HQr:=A0 ((hbr.block _ lq).trans HQ.o);have lqr:=Nat.lt_of_lt_of_le lq hbr.size;clear hbr hno;have h3:i=0\/i=1\/i=2:=by omega
  rcases h3 with rfl|rfl|rfl
  ·have hix:(Instr.index 457 (.agg #[.int .i64 2,.int .i64 3]) (.int .i64 0)).run Tryz.prog wr=.ok (.int .i64 2) wr:=by kernel_rfl
   have HA:=A0 (Ot HMr.o.st ((ab.length:Int)-1) (by omega) (Dx ab) (V9 ab));have A9:=A0 (fun(W:World)=>Ls (Dx ab) 2 W);unfold B5 at A9;generalize hxx:Dx ab=x at *;have HXX:=A0 hxx;clear hxx;go_wp2_with fail
   refine HA.o.mono ?_;rintro e w2 ⟨rfl,A8⟩;have hbr:=HBr.o.trans (A8.mono HBr.o.size);clear HBr;have HBr:=A0 hbr;have HMr2:=A0 (HMr.o.below A8);have HQr2:=A0 ((A8.block _ lqr).trans HQr.o);have lqr2:=Nat.lt_of_lt_of_le lqr A8.size;have lbr2:=Nat.lt_of_lt_of_le lbr A8.size;clear A8 hbr HA HMr HQr lqr lbr;cases hs:x.sure 2
   ·rw[hs]at A9;have HA2:=A0 (fun(W:World) (hb:Below w2.heap.size w2 W)=>Ot (HMr2.o.below hb).st ((ab.length:Int)-1-1) (by omega) (Kl ab) (W0 ab));have Bh:=A0 (fun(W:World)=>Ls (Kl ab) 2 W);unfold B5 at Bh;generalize hyy:Kl ab=y at *;have HYY:=A0 hyy;clear hyy;go_wp2_with fail
    refine(A9.o _).mono ?_;rintro e w3 ⟨rfl,Aj⟩;have HA3:=A0 (HA2.o w3 Aj);have hbr:=HBr.o.trans (Aj.mono HBr.o.size);clear HBr;have HBr:=A0 hbr;have HMr3:=A0 (HMr2.o.below Aj);have HQr3:=A0 ((Aj.block _ lqr2).trans HQr2.o);have lqr3:=Nat.lt_of_lt_of_le lqr2 Aj.size;have lbr3:=Nat.lt_of_lt_of_le lbr2 Aj.size;clear Aj hbr HA2 HMr2 HQr2 lqr2 lbr2;go_wp2_with fail
    refine HA3.o.mono ?_;rintro e w4 ⟨rfl,B4⟩;have hbr:=HBr.o.trans (B4.mono HBr.o.size);clear HBr;have HBr:=A0 hbr;have HQr4:=A0 ((B4.block _ lqr3).trans HQr3.o);have lqr4:=Nat.lt_of_lt_of_le lqr3 B4.size;have lbr4:=Nat.lt_of_lt_of_le lbr3 B4.size;clear B4 hbr HA3 HMr3 HQr3 lqr3 lbr3;cases Au:y.sure 2
    ·rw[Au]at Bh;have HN2:Hid (N2 ab 2=false):=by show(_||_)=false;rw[HXX.o,HYY.o,hs,Au];rfl
     go_wp2_with fail
     refine(Bh.o _).mono ?_;rintro e w5 ⟨rfl,Cc⟩;have hbr:=HBr.o.trans (Cc.mono HBr.o.size);clear HBr;have HBr:=A0 hbr;clear Cc hbr;go_wp2;go_roundg (gk-1)
     case measure=>omega
     case rel=>exact⟨0+1,by simp,by omega,fun j hj=>(by rcases Nat.lt_or_ge j 0 with q|q;exact HNo.o j q;rw[show j+2=2 by omega];exact HN2.o),HBr.o⟩
    ·rw[Au]at Bh;have HN2:Hid (N2 ab 2=true):=by show(_||_)=true;rw[HXX.o,HYY.o,hs,Au];rfl
     have HRS:Hid (Mb ab=D4 2):=by show _=_;rw[Rd,HN2.o];rfl
     go_wp2_with fail
     refine(Bh.o _).mono ?_;rintro e w5 ⟨rfl,Cc⟩;have hbr:=HBr.o.trans (Cc.mono HBr.o.size);clear HBr;have HBr:=A0 hbr;have HQr:=A0 ((Cc.block _ lqr4).trans HQr4.o);have lqr:=Nat.lt_of_lt_of_le lqr4 Cc.size;clear Cc hbr HQr4 lqr4;have HO:=A0 (Lw 2 w5);unfold B5 D4 at HO;go_wp2_with fail
     refine HO.o.mono ?_;rintro e w9 ⟨rfl,Ct⟩;have Am:=(Ct.block _ lqr).trans HQr.o;have Cz:Hid (Below w.heap.size w w9):=Ae.o.trans (Below.mono (HBr.o.trans (Ct.mono HBr.o.size)) ls0);have r0:=A2 Am 0 _ rfl;have r1:=A2 Am 1 _ rfl;have r2:=A2 Am 2 _ rfl;have r3:=A2 Am 3 _ rfl;have r4:=A2 Am 4 _ rfl;have r5:=A2 Am 5 _ rfl;have r6:=A2 Am 6 _ rfl;have fr:=Bd Am;have lr:=A4 Am;clear Ct Am HO;go_wp2;refine bodyPost_ret (v:=B5 (D4 2)) (by simp[results,Tryz.results319,go_sem,B5,D4,r0,r1,r2,r3,r4,r5,r6]) rfl ⟨by rw[HRS.o],?_⟩;exact Ix Cz.o (Nat.le_refl _) _ _ _ _ _ _ _
   ·rw[hs]at A9;have HN2:Hid (N2 ab 2=true):=by show(_||_)=true;rw[HXX.o,hs];rfl
    have HRS:Hid (Mb ab=D4 2):=by show _=_;rw[Rd,HN2.o];rfl
    go_wp2_with fail
    refine(A9.o _).mono ?_;rintro e w3 ⟨rfl,Aj⟩;have hbr:=HBr.o.trans (Aj.mono HBr.o.size);clear HBr;have HBr:=A0 hbr;have HQr:=A0 ((Aj.block _ lqr2).trans HQr2.o);have lqr:=Nat.lt_of_lt_of_le lqr2 Aj.size;clear Aj hbr HQr2 lqr2;have HO:=A0 (Lw 2 w3);unfold B5 D4 at HO;go_wp2_with fail
    refine HO.o.mono ?_;rintro e w9 ⟨rfl,Ct⟩;have Am:=(Ct.block _ lqr).trans HQr.o;have Cz:Hid (Below w.heap.size w w9):=Ae.o.trans (Below.mono (HBr.o.trans (Ct.mono HBr.o.size)) ls0);have r0:=A2 Am 0 _ rfl;have r1:=A2 Am 1 _ rfl;have r2:=A2 Am 2 _ rfl;have r3:=A2 Am 3 _ rfl;have r4:=A2 Am 4 _ rfl;have r5:=A2 Am 5 _ rfl;have r6:=A2 Am 6 _ rfl;have fr:=Bd Am;have lr:=A4 Am;clear Ct Am HO;go_wp2;refine bodyPost_ret (v:=B5 (D4 2)) (by simp[results,Tryz.results319,go_sem,B5,D4,r0,r1,r2,r3,r4,r5,r6]) rfl ⟨by rw[HRS.o],?_⟩;exact Ix Cz.o (Nat.le_refl _) _ _ _ _ _ _ _
  ·have hix:(Instr.index 457 (.agg #[.int .i64 2,.int .i64 3]) (.int .i64 1)).run Tryz.prog wr=.ok (.int .i64 3) wr:=by kernel_rfl
   have HA:=A0 (Ot HMr.o.st ((ab.length:Int)-1) (by omega) (Dx ab) (V9 ab));have A9:=A0 (fun(W:World)=>Ls (Dx ab) 3 W);unfold B5 at A9;generalize hxx:Dx ab=x at *;have HXX:=A0 hxx;clear hxx;go_wp2_with fail
   refine HA.o.mono ?_;rintro e w2 ⟨rfl,A8⟩;have hbr:=HBr.o.trans (A8.mono HBr.o.size);clear HBr;have HBr:=A0 hbr;have HMr2:=A0 (HMr.o.below A8);have HQr2:=A0 ((A8.block _ lqr).trans HQr.o);have lqr2:=Nat.lt_of_lt_of_le lqr A8.size;have lbr2:=Nat.lt_of_lt_of_le lbr A8.size;clear A8 hbr HA HMr HQr lqr lbr;cases hs:x.sure 3
   ·rw[hs]at A9;have HA2:=A0 (fun(W:World) (hb:Below w2.heap.size w2 W)=>Ot (HMr2.o.below hb).st ((ab.length:Int)-1-1) (by omega) (Kl ab) (W0 ab));have Bh:=A0 (fun(W:World)=>Ls (Kl ab) 3 W);unfold B5 at Bh;generalize hyy:Kl ab=y at *;have HYY:=A0 hyy;clear hyy;go_wp2_with fail
    refine(A9.o _).mono ?_;rintro e w3 ⟨rfl,Aj⟩;have HA3:=A0 (HA2.o w3 Aj);have hbr:=HBr.o.trans (Aj.mono HBr.o.size);clear HBr;have HBr:=A0 hbr;have HMr3:=A0 (HMr2.o.below Aj);have HQr3:=A0 ((Aj.block _ lqr2).trans HQr2.o);have lqr3:=Nat.lt_of_lt_of_le lqr2 Aj.size;have lbr3:=Nat.lt_of_lt_of_le lbr2 Aj.size;clear Aj hbr HA2 HMr2 HQr2 lqr2 lbr2;go_wp2_with fail
    refine HA3.o.mono ?_;rintro e w4 ⟨rfl,B4⟩;have hbr:=HBr.o.trans (B4.mono HBr.o.size);clear HBr;have HBr:=A0 hbr;have HQr4:=A0 ((B4.block _ lqr3).trans HQr3.o);have lqr4:=Nat.lt_of_lt_of_le lqr3 B4.size;have lbr4:=Nat.lt_of_lt_of_le lbr3 B4.size;clear B4 hbr HA3 HMr3 HQr3 lqr3 lbr3;cases Au:y.sure 3
    ·rw[Au]at Bh;have HN2:Hid (N2 ab 3=false):=by show(_||_)=false;rw[HXX.o,HYY.o,hs,Au];rfl
     go_wp2_with fail
     refine(Bh.o _).mono ?_;rintro e w5 ⟨rfl,Cc⟩;have hbr:=HBr.o.trans (Cc.mono HBr.o.size);clear HBr;have HBr:=A0 hbr;clear Cc hbr;go_wp2;go_roundg (gk-1)
     case measure=>omega
     case rel=>exact⟨1+1,by simp,by omega,fun j hj=>(by rcases Nat.lt_or_ge j 1 with q|q;exact HNo.o j q;rw[show j+2=3 by omega];exact HN2.o),HBr.o⟩
    ·rw[Au]at Bh;have HN2:Hid (N2 ab 3=true):=by show(_||_)=true;rw[HXX.o,HYY.o,hs,Au];rfl
     have HRS:Hid (Mb ab=D4 3):=by show _=_;rw[Rd,HNo.o 0 (by omega),HN2.o];rfl
     go_wp2_with fail
     refine(Bh.o _).mono ?_;rintro e w5 ⟨rfl,Cc⟩;have hbr:=HBr.o.trans (Cc.mono HBr.o.size);clear HBr;have HBr:=A0 hbr;have HQr:=A0 ((Cc.block _ lqr4).trans HQr4.o);have lqr:=Nat.lt_of_lt_of_le lqr4 Cc.size;clear Cc hbr HQr4 lqr4;have HO:=A0 (Lw 3 w5);unfold B5 D4 at HO;go_wp2_with fail
     refine HO.o.mono ?_;rintro e w9 ⟨rfl,Ct⟩;have Am:=(Ct.block _ lqr).trans HQr.o;have Cz:Hid (Below w.heap.size w w9):=Ae.o.trans (Below.mono (HBr.o.trans (Ct.mono HBr.o.size)) ls0);have r0:=A2 Am 0 _ rfl;have r1:=A2 Am 1 _ rfl;have r2:=A2 Am 2 _ rfl;have r3:=A2 Am 3 _ rfl;have r4:=A2 Am 4 _ rfl;have r5:=A2 Am 5 _ rfl;have r6:=A2 Am 6 _ rfl;have fr:=Bd Am;have lr:=A4 Am;clear Ct Am HO;go_wp2;refine bodyPost_ret (v:=B5 (D4 3)) (by simp[results,Tryz.results319,go_sem,B5,D4,r0,r1,r2,r3,r4,r5,r6]) rfl ⟨by rw[HRS.o],?_⟩;exact Ix Cz.o (Nat.le_refl _) _ _ _ _ _ _ _
   ·rw[hs]at A9;have HN2:Hid (N2 ab 3=true):=by show(_||_)=true;rw[HXX.o,hs];rfl
    have HRS:Hid (Mb ab=D4 3):=by show _=_;rw[Rd,HNo.o 0 (by omega),HN2.o];rfl
    go_wp2_with fail
    refine(A9.o _).mono ?_;rintro e w3 ⟨rfl,Aj⟩;have hbr:=HBr.o.trans (Aj.mono HBr.o.size);clear HBr;have HBr:=A0 hbr;have HQr:=A0 ((Aj.block _ lqr2).trans HQr2.o);have lqr:=Nat.lt_of_lt_of_le lqr2 Aj.size;clear Aj hbr HQr2 lqr2;have HO:=A0 (Lw 3 w3);unfold B5 D4 at HO;go_wp2_with fail
    refine HO.o.mono ?_;rintro e w9 ⟨rfl,Ct⟩;have Am:=(Ct.block _ lqr).trans HQr.o;have Cz:Hid (Below w.heap.size w w9):=Ae.o.trans (Below.mono (HBr.o.trans (Ct.mono HBr.o.size)) ls0);have r0:=A2 Am 0 _ rfl;have r1:=A2 Am 1 _ rfl;have r2:=A2 Am 2 _ rfl;have r3:=A2 Am 3 _ rfl;have r4:=A2 Am 4 _ rfl;have r5:=A2 Am 5 _ rfl;have r6:=A2 Am 6 _ rfl;have fr:=Bd Am;have lr:=A4 Am;clear Ct Am HO;go_wp2;refine bodyPost_ret (v:=B5 (D4 3)) (by simp[results,Tryz.results319,go_sem,B5,D4,r0,r1,r2,r3,r4,r5,r6]) rfl ⟨by rw[HRS.o],?_⟩;exact Ix Cz.o (Nat.le_refl _) _ _ _ _ _ _ _
  ·have HRS:Hid (Mb ab=Ds):=by show _=_;rw[Rd,HNo.o 0 (by omega),HNo.o 1 (by omega)];rfl
   have r0:=A2 HQr.o 0 _ rfl;have r1:=A2 HQr.o 1 _ rfl;have r2:=A2 HQr.o 2 _ rfl;have r3:=A2 HQr.o 3 _ rfl;have r4:=A2 HQr.o 4 _ rfl;have r5:=A2 HQr.o 5 _ rfl;have r6:=A2 HQr.o 6 _ rfl;have fr:=Bd HQr.o;have Cz:Hid (Below w.heap.size w wr):=Ae.o.trans (Below.mono HBr.o ls0);go_wp2;refine bodyPost_ret (v:=B5 Ds) (by simp[results,Tryz.results319,go_sem,B5,Ds,Ai,r0,r1,r2,r3,r4,r5,r6]) rfl ⟨by rw[HRS.o],?_⟩;exact Ix Cz.o (Nat.le_refl _) _ _ _ _ _ _ _
theorem I2(w:World)(o:Obj)(a:Array Value)(t:TypeId):((w.alloc o).alloc (.cells a t)).heap[w.heap.size+1]?=some (.cells a t (0,0)):=by
 rw[show w.heap.size+1=(w.alloc o).heap.size by simp];exact heap_alloc_new _ _
theorem Dt(w:World)(o o':Obj):Below w.heap.size w ((w.alloc o).alloc o'):=Below.alloc (Below.alloc (Below.refl _ _) (Nat.le_refl _) _) (by simp) _
def V6:Option Kn->Value
 | some x=>.tuple #[B5 x,.bool true]
 | none=>.tuple #[B5 Ds,.bool false]
theorem Aa9(h:E1 D kb pb P ps pa pc w ab va vc)(i:Ad)(hop:i.op=1\/i.op=2\/i.op=42\/i.op=39)(ha:0<=i.arg):Calls Tryz.prog 303 #[.pointer (some ⟨kb,0,none⟩),Ac i] w (KP w (.tuple #[B5 (Ff ps i),.bool true])):=by
 have HC:=A0 (fun(W:World) (hb:Below w.heap.size w W)=>Lj (h.below hb) i ha);have lb:=A4 h.st.blk;clear h;clear ha;generalize Ff ps i=x at *;obtain⟨op,arg,line,v⟩:=i;unfold Ac at *;try unfold KP at HC
 try unfold B5 at HC
 dsimp only at *;rcases hop with rfl|rfl|rfl|rfl <;>
  (go_enter Tryz.func303,Tryz.ntmps303
   go_wp2_with fail
   refine(HC.o _ (Dt _ _ _)).mono ?_;rintro e w1 ⟨rfl,A1⟩;have Am:=(A1.block (w.heap.size+1) (by simp)).trans (I2 _ _ _ _);have Cz:Hid (Below w.heap.size w w1):=(Dt _ _ _).trans (A1.mono (by simp;omega));have r0:=A2 Am 0 _ rfl;have r1:=A2 Am 1 _ rfl;have r2:=A2 Am 2 _ rfl;have r3:=A2 Am 3 _ rfl;have r4:=A2 Am 4 _ rfl;have r5:=A2 Am 5 _ rfl;have r6:=A2 Am 6 _ rfl;have fr:=Bd Am;have lr:=A4 Am;clear A1 Am HC;go_wp2;refine bodyPost_ret (v:=.tuple #[B5 x,.bool true]) (by simp[results,Tryz.results303,go_sem,B5,r0,r1,r2,r3,r4,r5,r6]) rfl ⟨rfl,?_⟩;exact Ix Cz.o (by omega) _ _ _ _ _ _ _)
theorem A95(h:E1 D kb pb P ps pa pc w ab va vc)(i:Ad)(hop:i.op=0):Calls Tryz.prog 303 #[.pointer (some ⟨kb,0,none⟩),Ac i] w (KP w (.tuple #[B5 (I0 i.v),.bool true])):=by
 have HC:=A0 (fun(W:World) (_:Below w.heap.size w W)=>Wl i.v W);have lb:=A4 h.st.blk;clear h;generalize hx:I0 i.v=x at *;clear hx;obtain⟨op,arg,line,v⟩:=i;unfold Ac at *;try unfold KP at HC
 try unfold B5 at HC
 dsimp only at *;subst hop;all_goals
  (go_enter Tryz.func303,Tryz.ntmps303
   go_wp2_with fail
   refine(HC.o _ (Dt _ _ _)).mono ?_;rintro e w1 ⟨rfl,A1⟩;have Am:=(A1.block (w.heap.size+1) (by simp)).trans (I2 _ _ _ _);have Cz:Hid (Below w.heap.size w w1):=(Dt _ _ _).trans (A1.mono (by simp;omega));have r0:=A2 Am 0 _ rfl;have r1:=A2 Am 1 _ rfl;have r2:=A2 Am 2 _ rfl;have r3:=A2 Am 3 _ rfl;have r4:=A2 Am 4 _ rfl;have r5:=A2 Am 5 _ rfl;have r6:=A2 Am 6 _ rfl;have fr:=Bd Am;have lr:=A4 Am;clear A1 Am HC;go_wp2;refine bodyPost_ret (v:=.tuple #[B5 x,.bool true]) (by simp[results,Tryz.results303,go_sem,B5,r0,r1,r2,r3,r4,r5,r6]) rfl ⟨rfl,?_⟩;exact Ix Cz.o (by omega) _ _ _ _ _ _ _)
theorem Alz(h:E1 D kb pb P ps pa pc w ab va vc)(i:Ad)(hop:i.op=12):Calls Tryz.prog 303 #[.pointer (some ⟨kb,0,none⟩),Ac i] w (KP w (.tuple #[B5 (Mb ab),.bool true])):=by
 have HC:=A0 (fun(W:World) (hb:Below w.heap.size w W)=>Am4 (h.below hb));have lb:=A4 h.st.blk;clear h;generalize Mb ab=x at *;obtain⟨op,arg,line,v⟩:=i;unfold Ac at *;try unfold KP at HC
 try unfold B5 at HC
 dsimp only at *;subst hop;all_goals
  (go_enter Tryz.func303,Tryz.ntmps303
   go_wp2_with fail
   refine(HC.o _ (Dt _ _ _)).mono ?_;rintro e w1 ⟨rfl,A1⟩;have Am:=(A1.block (w.heap.size+1) (by simp)).trans (I2 _ _ _ _);have Cz:Hid (Below w.heap.size w w1):=(Dt _ _ _).trans (A1.mono (by simp;omega));have r0:=A2 Am 0 _ rfl;have r1:=A2 Am 1 _ rfl;have r2:=A2 Am 2 _ rfl;have r3:=A2 Am 3 _ rfl;have r4:=A2 Am 4 _ rfl;have r5:=A2 Am 5 _ rfl;have r6:=A2 Am 6 _ rfl;have fr:=Bd Am;have lr:=A4 Am;clear A1 Am HC;go_wp2;refine bodyPost_ret (v:=.tuple #[B5 x,.bool true]) (by simp[results,Tryz.results303,go_sem,B5,r0,r1,r2,r3,r4,r5,r6]) rfl ⟨rfl,?_⟩;exact Ix Cz.o (by omega) _ _ _ _ _ _ _)
theorem Aft(h:E1 D kb pb P ps pa pc w ab va vc)(i:Ad)(hop:i.op=15\/i.op=17\/i.op=19\/i.op=21\/i.op=23\/i.op=37):Calls Tryz.prog 303 #[.pointer (some ⟨kb,0,none⟩),Ac i] w (KP w (.tuple #[B5 (D4 2),.bool true])):=by
 have HC:=A0 (fun(W:World) (_:Below w.heap.size w W)=>Lw 2 W);have lb:=A4 h.st.blk;clear h;generalize D4 2=x at *;obtain⟨op,arg,line,v⟩:=i;unfold Ac at *;try unfold KP at HC
 try unfold B5 at HC
 dsimp only at *;rcases hop with rfl|rfl|rfl|rfl|rfl|rfl <;>
  (go_enter Tryz.func303,Tryz.ntmps303
   go_wp2_with fail
   refine(HC.o _ (Dt _ _ _)).mono ?_;rintro e w1 ⟨rfl,A1⟩;have Am:=(A1.block (w.heap.size+1) (by simp)).trans (I2 _ _ _ _);have Cz:Hid (Below w.heap.size w w1):=(Dt _ _ _).trans (A1.mono (by simp;omega));have r0:=A2 Am 0 _ rfl;have r1:=A2 Am 1 _ rfl;have r2:=A2 Am 2 _ rfl;have r3:=A2 Am 3 _ rfl;have r4:=A2 Am 4 _ rfl;have r5:=A2 Am 5 _ rfl;have r6:=A2 Am 6 _ rfl;have fr:=Bd Am;have lr:=A4 Am;clear A1 Am HC;go_wp2;refine bodyPost_ret (v:=.tuple #[B5 x,.bool true]) (by simp[results,Tryz.results303,go_sem,B5,r0,r1,r2,r3,r4,r5,r6]) rfl ⟨rfl,?_⟩;exact Ix Cz.o (by omega) _ _ _ _ _ _ _)
theorem A3e(h:E1 D kb pb P ps pa pc w ab va vc)(i:Ad)(hop:i.op=25\/i.op=26\/i.op=27\/i.op=28\/i.op=29\/i.op=30\/i.op=31\/i.op=11):Calls Tryz.prog 303 #[.pointer (some ⟨kb,0,none⟩),Ac i] w (KP w (.tuple #[B5 (D4 1),.bool true])):=by
 have HC:=A0 (fun(W:World) (_:Below w.heap.size w W)=>Lw 1 W);have lb:=A4 h.st.blk;clear h;generalize D4 1=x at *;obtain⟨op,arg,line,v⟩:=i;unfold Ac at *;try unfold KP at HC
 try unfold B5 at HC
 dsimp only at *;rcases hop with rfl|rfl|rfl|rfl|rfl|rfl|rfl|rfl <;>
  (go_enter Tryz.func303,Tryz.ntmps303
   go_wp2_with fail
   refine(HC.o _ (Dt _ _ _)).mono ?_;rintro e w1 ⟨rfl,A1⟩;have Am:=(A1.block (w.heap.size+1) (by simp)).trans (I2 _ _ _ _);have Cz:Hid (Below w.heap.size w w1):=(Dt _ _ _).trans (A1.mono (by simp;omega));have r0:=A2 Am 0 _ rfl;have r1:=A2 Am 1 _ rfl;have r2:=A2 Am 2 _ rfl;have r3:=A2 Am 3 _ rfl;have r4:=A2 Am 4 _ rfl;have r5:=A2 Am 5 _ rfl;have r6:=A2 Am 6 _ rfl;have fr:=Bd Am;have lr:=A4 Am;clear A1 Am HC;go_wp2;refine bodyPost_ret (v:=.tuple #[B5 x,.bool true]) (by simp[results,Tryz.results303,go_sem,B5,r0,r1,r2,r3,r4,r5,r6]) rfl ⟨rfl,?_⟩;exact Ix Cz.o (by omega) _ _ _ _ _ _ _)
theorem A4k(h:E1 D kb pb P ps pa pc w ab va vc)(i:Ad)(hop:i.op=36):Calls Tryz.prog 303 #[.pointer (some ⟨kb,0,none⟩),Ac i] w (KP w (.tuple #[B5 (D4 4),.bool true])):=by
 have HC:=A0 (fun(W:World) (_:Below w.heap.size w W)=>Lw 4 W);have lb:=A4 h.st.blk;clear h;generalize D4 4=x at *;obtain⟨op,arg,line,v⟩:=i;unfold Ac at *;try unfold KP at HC
 try unfold B5 at HC
 dsimp only at *;subst hop;all_goals
  (go_enter Tryz.func303,Tryz.ntmps303
   go_wp2_with fail
   refine(HC.o _ (Dt _ _ _)).mono ?_;rintro e w1 ⟨rfl,A1⟩;have Am:=(A1.block (w.heap.size+1) (by simp)).trans (I2 _ _ _ _);have Cz:Hid (Below w.heap.size w w1):=(Dt _ _ _).trans (A1.mono (by simp;omega));have r0:=A2 Am 0 _ rfl;have r1:=A2 Am 1 _ rfl;have r2:=A2 Am 2 _ rfl;have r3:=A2 Am 3 _ rfl;have r4:=A2 Am 4 _ rfl;have r5:=A2 Am 5 _ rfl;have r6:=A2 Am 6 _ rfl;have fr:=Bd Am;have lr:=A4 Am;clear A1 Am HC;go_wp2;refine bodyPost_ret (v:=.tuple #[B5 x,.bool true]) (by simp[results,Tryz.results303,go_sem,B5,r0,r1,r2,r3,r4,r5,r6]) rfl ⟨rfl,?_⟩;exact Ix Cz.o (by omega) _ _ _ _ _ _ _)
theorem A31(h:E1 D kb pb P ps pa pc w ab va vc)(i:Ad)(hop:i.op=38):Calls Tryz.prog 303 #[.pointer (some ⟨kb,0,none⟩),Ac i] w (KP w (.tuple #[B5 (Dx ab),.bool true])):=by
 have HC:=A0 (fun(W:World) (hb:Below w.heap.size w W)=>Qz (h.below hb).st (by have:=h.Bq.1;omega) (Dx ab) rfl);have lb:=A4 h.st.blk;clear h;generalize Dx ab=x at *;obtain⟨op,arg,line,v⟩:=i;unfold Ac at *;try unfold KP at HC
 try unfold B5 at HC
 dsimp only at *;subst hop;all_goals
  (go_enter Tryz.func303,Tryz.ntmps303
   go_wp2_with fail
   refine(HC.o _ (Dt _ _ _)).mono ?_;rintro e w1 ⟨rfl,A1⟩;have Am:=(A1.block (w.heap.size+1) (by simp)).trans (I2 _ _ _ _);have Cz:Hid (Below w.heap.size w w1):=(Dt _ _ _).trans (A1.mono (by simp;omega));have r0:=A2 Am 0 _ rfl;have r1:=A2 Am 1 _ rfl;have r2:=A2 Am 2 _ rfl;have r3:=A2 Am 3 _ rfl;have r4:=A2 Am 4 _ rfl;have r5:=A2 Am 5 _ rfl;have r6:=A2 Am 6 _ rfl;have fr:=Bd Am;have lr:=A4 Am;clear A1 Am HC;go_wp2;refine bodyPost_ret (v:=.tuple #[B5 x,.bool true]) (by simp[results,Tryz.results303,go_sem,B5,r0,r1,r2,r3,r4,r5,r6]) rfl ⟨rfl,?_⟩;exact Ix Cz.o (by omega) _ _ _ _ _ _ _)
theorem A5c(w:World)(i:Ad)(h:¬(i.op=0\/i.op=1\/i.op=2\/i.op=42\/i.op=39\/i.op=12\/i.op=15\/i.op=17\/i.op=19\/i.op=21\/i.op=23\/i.op=37\/i.op=25\/i.op=26\/i.op=27\/i.op=28\/i.op=29\/i.op=30\/i.op=31\/i.op=11\/i.op=36\/i.op=38)):Calls Tryz.prog 303 #[.pointer (some ⟨kb,0,none⟩),Ac i] w (KP w (.tuple #[B5 Ds,.bool false])):=by
 have t0:((i.op:Int)==0)=false:=by rw[beq_eq_false_iff_ne];omega
 have t1:((i.op:Int)==1)=false:=by rw[beq_eq_false_iff_ne];omega
 have t2:((i.op:Int)==2)=false:=by rw[beq_eq_false_iff_ne];omega
 have t42:((i.op:Int)==42)=false:=by rw[beq_eq_false_iff_ne];omega
 have t39:((i.op:Int)==39)=false:=by rw[beq_eq_false_iff_ne];omega
 have t12:((i.op:Int)==12)=false:=by rw[beq_eq_false_iff_ne];omega
 have t15:((i.op:Int)==15)=false:=by rw[beq_eq_false_iff_ne];omega
 have t17:((i.op:Int)==17)=false:=by rw[beq_eq_false_iff_ne];omega
 have t19:((i.op:Int)==19)=false:=by rw[beq_eq_false_iff_ne];omega
 have t21:((i.op:Int)==21)=false:=by rw[beq_eq_false_iff_ne];omega
 have t23:((i.op:Int)==23)=false:=by rw[beq_eq_false_iff_ne];omega
 have t37:((i.op:Int)==37)=false:=by rw[beq_eq_false_iff_ne];omega
 have t25:((i.op:Int)==25)=false:=by rw[beq_eq_false_iff_ne];omega
 have t26:((i.op:Int)==26)=false:=by rw[beq_eq_false_iff_ne];omega
 have t27:((i.op:Int)==27)=false:=by rw[beq_eq_false_iff_ne];omega
 have t28:((i.op:Int)==28)=false:=by rw[beq_eq_false_iff_ne];omega
 have t29:((i.op:Int)==29)=false:=by rw[beq_eq_false_iff_ne];omega
 have t30:((i.op:Int)==30)=false:=by rw[beq_eq_false_iff_ne];omega
 have t31:((i.op:Int)==31)=false:=by rw[beq_eq_false_iff_ne];omega
 have t11:((i.op:Int)==11)=false:=by rw[beq_eq_false_iff_ne];omega
 have t36:((i.op:Int)==36)=false:=by rw[beq_eq_false_iff_ne];omega
 have t38:((i.op:Int)==38)=false:=by rw[beq_eq_false_iff_ne];omega
 clear h;unfold Ac;go_enter Tryz.func303,Tryz.ntmps303;go_wp2;refine bodyPost_ret (v:=.tuple #[B5 Ds,.bool false]) (by simp[results,Tryz.results303,go_sem,B5,Ds,Ai]) rfl ⟨rfl,?_⟩;exact Dt _ _ _
theorem A87(h:E1 D kb pb P ps pa pc w ab va vc)(i:Ad)(ha:0<=i.arg):Calls Tryz.prog 303 #[.pointer (some ⟨kb,0,none⟩),Ac i] w (KP w (V6 (Th ps ab i))):=by
 unfold Th;by_cases h0:i.op=0
 ·rw[if_pos h0];exact A95 h i h0
 rw[if_neg h0];by_cases h1:i.op=1\/i.op=2\/i.op=42\/i.op=39
 ·rw[if_pos h1];exact Aa9 h i h1 ha
 rw[if_neg h1];by_cases h12:i.op=12
 ·rw[if_pos h12];exact Alz h i h12
 rw[if_neg h12];by_cases h2:i.op=15\/i.op=17\/i.op=19\/i.op=21\/i.op=23\/i.op=37
 ·rw[if_pos h2];exact Aft h i h2
 rw[if_neg h2];by_cases h3:i.op=25\/i.op=26\/i.op=27\/i.op=28\/i.op=29\/i.op=30\/i.op=31\/i.op=11
 ·rw[if_pos h3];exact A3e h i h3
 rw[if_neg h3];by_cases h36:i.op=36
 ·rw[if_pos h36];exact A4k h i h36
 rw[if_neg h36];by_cases h38:i.op=38
 ·rw[if_pos h38];exact A31 h i h38
 rw[if_neg h38];exact A5c w i (by omega)
end
end Go.Proofs.YtjdlndhfaaolaaaGreatDoor
