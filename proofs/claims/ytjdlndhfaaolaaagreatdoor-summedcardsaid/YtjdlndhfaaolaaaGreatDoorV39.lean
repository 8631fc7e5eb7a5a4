import Derived.Test.YtjdlndhfaaolaaaGreatDoorV38
set_option maxHeartbeats 20000000
namespace Go.Proofs.YtjdlndhfaaolaaaGreatDoor
section
set_option maxRecDepth 100000
open Go.RowKit
open Go.Deep (BT)
variable {D:Nat->Prop} {kb pb:Nat} {P:D7} {ps:List Kn} {pa:Option Addr} {pc:Nat} {w w':World} {ab:List Kn} {va:Option Addr} {vc:Nat}
def Ns(ab:List Kn)(kd:Nat):Bool:=(E7 ab).sure kd||(Kx ab).sure kd
theorem T8(ab:List Kn):Nd ab=if Ns ab 2 then Dm 2 else if Ns ab 3 then Dm 3 else En:=rfl
theorem z6ha {P:Prop} (h:P:=by simp[results,Tryz.results319,go_sem,B9,Dm,r0,r1,r2,r3,r4,r5,r6]):P:=h
theorem z0wa {P:Prop} (h:P:=by
  unfold B9 Dm at HO;go_wp2_with fail
  refine HO.o.mono ?_;rintro e w9 ⟨rfl,Db⟩;have Ao:=(Db.block _ lqr).trans HQr.o;have D9:Hid (Below w.heap.size w w9):=Af.o.trans (Below.mono (HBr.o.trans (Db.mono HBr.o.size)) ls0);have r0:=A2 Ao 0 _ rfl;have r1:=A2 Ao 1 _ rfl;have r2:=A2 Ao 2 _ rfl;have r3:=A2 Ao 3 _ rfl;have r4:=A2 Ao 4 _ rfl;have r5:=A2 Ao 5 _ rfl;have r6:=A2 Ao 6 _ rfl;have fr:=Bd Ao;have lr:=A5 Ao;clear Db Ao HO;go_wp2;refine bodyPost_ret (v:=B9 (Dm 3)) z6ha rfl ⟨by rw[HRS.o],?_⟩;exact J5 D9.o (Nat.le_refl _) _ _ _ _ _ _ _):P:=h
theorem z0va {P:Prop} (h:P:=by
  unfold B9 Dm at HO;go_wp2_with fail
  refine HO.o.mono ?_;rintro e w9 ⟨rfl,Db⟩;have Ao:=(Db.block _ lqr).trans HQr.o;have D9:Hid (Below w.heap.size w w9):=Af.o.trans (Below.mono (HBr.o.trans (Db.mono HBr.o.size)) ls0);have r0:=A2 Ao 0 _ rfl;have r1:=A2 Ao 1 _ rfl;have r2:=A2 Ao 2 _ rfl;have r3:=A2 Ao 3 _ rfl;have r4:=A2 Ao 4 _ rfl;have r5:=A2 Ao 5 _ rfl;have r6:=A2 Ao 6 _ rfl;have fr:=Bd Ao;have lr:=A5 Ao;clear Db Ao HO;go_wp2;refine bodyPost_ret (v:=B9 (Dm 2)) z6ha rfl ⟨by rw[HRS.o],?_⟩;exact J5 D9.o (Nat.le_refl _) _ _ _ _ _ _ _):P:=h
theorem Afk(h:E9 D kb pb P ps pa pc w ab va vc):Calls Tryz.prog 319 #[.pointer (some ⟨kb,0,none⟩)] w (KP w (B9 (Nd ab))):=by
 have Bf:=Jw w (.cells #[.bool false,.bool false,.int .i64 0,.bool false,.int .i64 0,.string ⟨#[]⟩,.pointer none] 407);have hq0:=heap_alloc_new w (.cells #[.bool false,.bool false,.int .i64 0,.bool false,.int .i64 0,.string ⟨#[]⟩,.pointer none] 407);have h0:=h.below Bf;have Bz:=A5 h0.st.blk;have hfew:=h.Br.1;have HL:=A0 (Sj h0.st);have HM:=A0 h0;have Af:=A0 Bf;have HQ:=A0 hq0;have lq:=A5 hq0;clear h h0 Bf hq0;go_enter Tryz.func319,Tryz.ntmps319;go_wp2_with fail
 refine HL.o.mono ?_;rintro e w1 ⟨rfl,Fu⟩;rw[Fu];clear Fu w1;obtain⟨w0,Cz⟩:∃w0,w0=w.alloc (.cells #[.bool false,.bool false,.int .i64 0,.bool false,.int .i64 0,.string ⟨#[]⟩,.pointer none] 407):=⟨_,rfl⟩;rw[←Cz]at HM Af HQ HL Bz lq ⊢;clear Cz HL;have ls0:=Af.o.size;go_wp2;go_loopg [12] 2 (fun k v wr=>∃i:Nat,v=.int .i64 i/\i+k=2/\(∀j,j<i->Ns ab (j+2)=false)/\Below w0.heap.size w0 wr)
 case atStart=>exact⟨0,rfl,rfl,fun j hj=>by omega,Below.refl _ _⟩
 case round=>
  obtain⟨i,rfl,hik,hno,hbr⟩:=hrel;have HBr:=A0 hbr;have HNo:=A0 hno;have HMr:=A0 (HM.o.below hbr);have lbr:=Nat.lt_of_lt_of_le Bz hbr.size;have HQr:=A0 ((hbr.block _ lq).trans HQ.o);have lqr:=Nat.lt_of_lt_of_le lq hbr.size;clear hbr hno;have h3:i=0\/i=1\/i=2:=by omega
  rcases h3 with rfl|rfl|rfl
  ·have hix:(Instr.index 457 (.agg #[.int .i64 2,.int .i64 3]) (.int .i64 0)).run Tryz.prog wr=.ok (.int .i64 2) wr:=by kernel_rfl
   have HA:=A0 (Pt HMr.o.st ((ab.length:Int)-1) z4va (E7 ab) (Yn ab));have A7:=A0 (fun(W:World)=>Mm (E7 ab) 2 W);unfold B9 at A7;generalize hxx:E7 ab=x at *;have HXX:=A0 hxx;clear hxx;go_wp2_with fail
   refine HA.o.mono ?_;rintro e w2 ⟨rfl,A8⟩;have hbr:=HBr.o.trans (A8.mono HBr.o.size);clear HBr;have HBr:=A0 hbr;have HMr2:=A0 (HMr.o.below A8);have HQr2:=A0 ((A8.block _ lqr).trans HQr.o);have lqr2:=Nat.lt_of_lt_of_le lqr A8.size;have lbr2:=Nat.lt_of_lt_of_le lbr A8.size;clear A8 hbr HA HMr HQr lqr lbr;cases hs:x.sure 2
   ·rw[hs]at A7;have HA2:=A0 (fun(W:World) (hb:Below w2.heap.size w2 W)=>Pt (HMr2.o.below hb).st ((ab.length:Int)-1-1) z4va (Kx ab) (Yh ab));have Bc:=A0 (fun(W:World)=>Mm (Kx ab) 2 W);unfold B9 at Bc;generalize hyy:Kx ab=y at *;have HYY:=A0 hyy;clear hyy;go_wp2_with fail
    refine(A7.o _).mono ?_;rintro e w3 ⟨rfl,Aj⟩;have HA3:=A0 (HA2.o w3 Aj);have hbr:=HBr.o.trans (Aj.mono HBr.o.size);clear HBr;have HBr:=A0 hbr;have HMr3:=A0 (HMr2.o.below Aj);have HQr3:=A0 ((Aj.block _ lqr2).trans HQr2.o);have lqr3:=Nat.lt_of_lt_of_le lqr2 Aj.size;have lbr3:=Nat.lt_of_lt_of_le lbr2 Aj.size;clear Aj hbr HA2 HMr2 HQr2 lqr2 lbr2;go_wp2_with fail
    refine HA3.o.mono ?_;rintro e w4 ⟨rfl,B8⟩;have hbr:=HBr.o.trans (B8.mono HBr.o.size);clear HBr;have HBr:=A0 hbr;have HQr4:=A0 ((B8.block _ lqr3).trans HQr3.o);have lqr4:=Nat.lt_of_lt_of_le lqr3 B8.size;have lbr4:=Nat.lt_of_lt_of_le lbr3 B8.size;clear B8 hbr HA3 HMr3 HQr3 lqr3 lbr3;cases B0:y.sure 2
    ·rw[B0]at Bc;have HN2:Hid (Ns ab 2=false):=by show(_||_)=false;rw[HXX.o,HYY.o,hs,B0];rfl
     go_wp2_with fail
     refine(Bc.o _).mono ?_;rintro e w5 ⟨rfl,Ch⟩;have hbr:=HBr.o.trans (Ch.mono HBr.o.size);clear HBr;have HBr:=A0 hbr;clear Ch hbr;go_wp2;go_roundg (gk-1)
     case measure=>omega
     case rel=>exact⟨0+1,by simp,by omega,fun j hj=>(by rcases Nat.lt_or_ge j 0 with q|q;exact HNo.o j q;rw[show j+2=2 by omega];exact HN2.o),HBr.o⟩
    ·rw[B0]at Bc;have HN2:Hid (Ns ab 2=true):=by show(_||_)=true;rw[HXX.o,HYY.o,hs,B0];rfl
     have HRS:Hid (Nd ab=Dm 2):=by show _=_;rw[T8,HN2.o];rfl
     go_wp2_with fail
     refine(Bc.o _).mono ?_;rintro e w5 ⟨rfl,Ch⟩;have hbr:=HBr.o.trans (Ch.mono HBr.o.size);clear HBr;have HBr:=A0 hbr;have HQr:=A0 ((Ch.block _ lqr4).trans HQr4.o);have lqr:=Nat.lt_of_lt_of_le lqr4 Ch.size;clear Ch hbr HQr4 lqr4;have HO:=A0 (Mh 2 w5);exact z0va
   ·rw[hs]at A7;have HN2:Hid (Ns ab 2=true):=by show(_||_)=true;rw[HXX.o,hs];rfl
    have HRS:Hid (Nd ab=Dm 2):=by show _=_;rw[T8,HN2.o];rfl
    go_wp2_with fail
    refine(A7.o _).mono ?_;rintro e w3 ⟨rfl,Aj⟩;have hbr:=HBr.o.trans (Aj.mono HBr.o.size);clear HBr;have HBr:=A0 hbr;have HQr:=A0 ((Aj.block _ lqr2).trans HQr2.o);have lqr:=Nat.lt_of_lt_of_le lqr2 Aj.size;clear Aj hbr HQr2 lqr2;have HO:=A0 (Mh 2 w3);exact z0va
  ·have hix:(Instr.index 457 (.agg #[.int .i64 2,.int .i64 3]) (.int .i64 1)).run Tryz.prog wr=.ok (.int .i64 3) wr:=by kernel_rfl
   have HA:=A0 (Pt HMr.o.st ((ab.length:Int)-1) z4va (E7 ab) (Yn ab));have A7:=A0 (fun(W:World)=>Mm (E7 ab) 3 W);unfold B9 at A7;generalize hxx:E7 ab=x at *;have HXX:=A0 hxx;clear hxx;go_wp2_with fail
   refine HA.o.mono ?_;rintro e w2 ⟨rfl,A8⟩;have hbr:=HBr.o.trans (A8.mono HBr.o.size);clear HBr;have HBr:=A0 hbr;have HMr2:=A0 (HMr.o.below A8);have HQr2:=A0 ((A8.block _ lqr).trans HQr.o);have lqr2:=Nat.lt_of_lt_of_le lqr A8.size;have lbr2:=Nat.lt_of_lt_of_le lbr A8.size;clear A8 hbr HA HMr HQr lqr lbr;cases hs:x.sure 3
   ·rw[hs]at A7;have HA2:=A0 (fun(W:World) (hb:Below w2.heap.size w2 W)=>Pt (HMr2.o.below hb).st ((ab.length:Int)-1-1) z4va (Kx ab) (Yh ab));have Bc:=A0 (fun(W:World)=>Mm (Kx ab) 3 W);unfold B9 at Bc;generalize hyy:Kx ab=y at *;have HYY:=A0 hyy;clear hyy;go_wp2_with fail
    refine(A7.o _).mono ?_;rintro e w3 ⟨rfl,Aj⟩;have HA3:=A0 (HA2.o w3 Aj);have hbr:=HBr.o.trans (Aj.mono HBr.o.size);clear HBr;have HBr:=A0 hbr;have HMr3:=A0 (HMr2.o.below Aj);have HQr3:=A0 ((Aj.block _ lqr2).trans HQr2.o);have lqr3:=Nat.lt_of_lt_of_le lqr2 Aj.size;have lbr3:=Nat.lt_of_lt_of_le lbr2 Aj.size;clear Aj hbr HA2 HMr2 HQr2 lqr2 lbr2;go_wp2_with fail
    refine HA3.o.mono ?_;rintro e w4 ⟨rfl,B8⟩;have hbr:=HBr.o.trans (B8.mono HBr.o.size);clear HBr;have HBr:=A0 hbr;have HQr4:=A0 ((B8.block _ lqr3).trans HQr3.o);have lqr4:=Nat.lt_of_lt_of_le lqr3 B8.size;have lbr4:=Nat.lt_of_lt_of_le lbr3 B8.size;clear B8 hbr HA3 HMr3 HQr3 lqr3 lbr3;cases B0:y.sure 3
    ·rw[B0]at Bc;have HN2:Hid (Ns ab 3=false):=by show(_||_)=false;rw[HXX.o,HYY.o,hs,B0];rfl
     go_wp2_with fail
     refine(Bc.o _).mono ?_;rintro e w5 ⟨rfl,Ch⟩;have hbr:=HBr.o.trans (Ch.mono HBr.o.size);clear HBr;have HBr:=A0 hbr;clear Ch hbr;go_wp2;go_roundg (gk-1)
     case measure=>omega
     case rel=>exact⟨1+1,by simp,by omega,fun j hj=>(by rcases Nat.lt_or_ge j 1 with q|q;exact HNo.o j q;rw[show j+2=3 by omega];exact HN2.o),HBr.o⟩
    ·rw[B0]at Bc;have HN2:Hid (Ns ab 3=true):=by show(_||_)=true;rw[HXX.o,HYY.o,hs,B0];rfl
     have HRS:Hid (Nd ab=Dm 3):=by show _=_;rw[T8,HNo.o 0 z4va,HN2.o];rfl
     go_wp2_with fail
     refine(Bc.o _).mono ?_;rintro e w5 ⟨rfl,Ch⟩;have hbr:=HBr.o.trans (Ch.mono HBr.o.size);clear HBr;have HBr:=A0 hbr;have HQr:=A0 ((Ch.block _ lqr4).trans HQr4.o);have lqr:=Nat.lt_of_lt_of_le lqr4 Ch.size;clear Ch hbr HQr4 lqr4;have HO:=A0 (Mh 3 w5);exact z0wa
   ·rw[hs]at A7;have HN2:Hid (Ns ab 3=true):=by show(_||_)=true;rw[HXX.o,hs];rfl
    have HRS:Hid (Nd ab=Dm 3):=by show _=_;rw[T8,HNo.o 0 z4va,HN2.o];rfl
    go_wp2_with fail
    refine(A7.o _).mono ?_;rintro e w3 ⟨rfl,Aj⟩;have hbr:=HBr.o.trans (Aj.mono HBr.o.size);clear HBr;have HBr:=A0 hbr;have HQr:=A0 ((Aj.block _ lqr2).trans HQr2.o);have lqr:=Nat.lt_of_lt_of_le lqr2 Aj.size;clear Aj hbr HQr2 lqr2;have HO:=A0 (Mh 3 w3);exact z0wa
  ·have HRS:Hid (Nd ab=En):=by show _=_;rw[T8,HNo.o 0 z4va,HNo.o 1 z4va];rfl
   have r0:=A2 HQr.o 0 _ rfl;have r1:=A2 HQr.o 1 _ rfl;have r2:=A2 HQr.o 2 _ rfl;have r3:=A2 HQr.o 3 _ rfl;have r4:=A2 HQr.o 4 _ rfl;have r5:=A2 HQr.o 5 _ rfl;have r6:=A2 HQr.o 6 _ rfl;have fr:=Bd HQr.o;have D9:Hid (Below w.heap.size w wr):=Af.o.trans (Below.mono HBr.o ls0);go_wp2;refine bodyPost_ret (v:=B9 En) (by simp[results,Tryz.results319,go_sem,B9,En,Ag,r0,r1,r2,r3,r4,r5,r6]) rfl ⟨by rw[HRS.o],?_⟩;exact J5 D9.o (Nat.le_refl _) _ _ _ _ _ _ _
theorem I6(w:World)(o:Obj)(a:Array Value)(t:TypeId):((w.alloc o).alloc (.cells a t)).heap[w.heap.size+1]?=some (.cells a t (0,0)):=by
 rw[show w.heap.size+1=(w.alloc o).heap.size by simp];exact heap_alloc_new _ _
theorem E0(w:World)(o o':Obj):Below w.heap.size w ((w.alloc o).alloc o'):=Below.alloc (Below.alloc (Below.refl _ _) (Nat.le_refl _) _) z50a _
def X7:Option Kn->Value
 | some x=>.tuple #[B9 x,.bool true]
 | none=>.tuple #[B9 En,.bool false]
theorem z5da {P:Prop} (h:P:=by simp[results,Tryz.results303,go_sem,B9,r0,r1,r2,r3,r4,r5,r6]):P:=h
theorem Ae1(h:E9 D kb pb P ps pa pc w ab va vc)(i:Ac)(hop:i.op=1\/i.op=2\/i.op=42\/i.op=39)(ha:0<=i.arg):Calls Tryz.prog 303 #[.pointer (some ⟨kb,0,none⟩),Ab i] w (KP w (.tuple #[B9 (Fm ps i),.bool true])):=by
 have HC:=A0 (fun(W:World) (hb:Below w.heap.size w W)=>M6 (h.below hb) i ha);have lb:=A5 h.st.blk;clear h;clear ha;generalize Fm ps i=x at *;obtain⟨op,arg,line,v⟩:=i;unfold Ab at *;try unfold KP at HC
 try unfold B9 at HC
 dsimp only at *;rcases hop with rfl|rfl|rfl|rfl <;>
  (go_enter Tryz.func303,Tryz.ntmps303
   go_wp2_with fail
   refine(HC.o _ (E0 _ _ _)).mono ?_;rintro e w1 ⟨rfl,A1⟩;have Ao:=(A1.block (w.heap.size+1) z50a).trans (I6 _ _ _ _);have D9:Hid (Below w.heap.size w w1):=(E0 _ _ _).trans (A1.mono z4ya);have r0:=A2 Ao 0 _ rfl;have r1:=A2 Ao 1 _ rfl;have r2:=A2 Ao 2 _ rfl;have r3:=A2 Ao 3 _ rfl;have r4:=A2 Ao 4 _ rfl;have r5:=A2 Ao 5 _ rfl;have r6:=A2 Ao 6 _ rfl;have fr:=Bd Ao;have lr:=A5 Ao;clear A1 Ao HC;go_wp2;refine bodyPost_ret (v:=.tuple #[B9 x,.bool true]) z5da rfl ⟨rfl,?_⟩;exact J5 D9.o z4va _ _ _ _ _ _ _)
theorem z07a {P:Prop} (h:P:=by
  obtain⟨op,arg,line,v⟩:=i;unfold Ab at *;try unfold KP at HC
  try unfold B9 at HC
  dsimp only at *;subst hop;all_goals
   (go_enter Tryz.func303,Tryz.ntmps303
    go_wp2_with fail
    refine(HC.o _ (E0 _ _ _)).mono ?_;rintro e w1 ⟨rfl,A1⟩;have Ao:=(A1.block (w.heap.size+1) z50a).trans (I6 _ _ _ _);have D9:Hid (Below w.heap.size w w1):=(E0 _ _ _).trans (A1.mono z4ya);have r0:=A2 Ao 0 _ rfl;have r1:=A2 Ao 1 _ rfl;have r2:=A2 Ao 2 _ rfl;have r3:=A2 Ao 3 _ rfl;have r4:=A2 Ao 4 _ rfl;have r5:=A2 Ao 5 _ rfl;have r6:=A2 Ao 6 _ rfl;have fr:=Bd Ao;have lr:=A5 Ao;clear A1 Ao HC;go_wp2;refine bodyPost_ret (v:=.tuple #[B9 x,.bool true]) z5da rfl ⟨rfl,?_⟩;exact J5 D9.o z4va _ _ _ _ _ _ _)):P:=h
theorem Ae0(h:E9 D kb pb P ps pa pc w ab va vc)(i:Ac)(hop:i.op=0):Calls Tryz.prog 303 #[.pointer (some ⟨kb,0,none⟩),Ab i] w (KP w (.tuple #[B9 (Jx i.v),.bool true])):=by
 have HC:=A0 (fun(W:World) (_:Below w.heap.size w W)=>Xi i.v W);have lb:=A5 h.st.blk;clear h;generalize hx:Jx i.v=x at *;clear hx;exact z07a
theorem Ae3(h:E9 D kb pb P ps pa pc w ab va vc)(i:Ac)(hop:i.op=12):Calls Tryz.prog 303 #[.pointer (some ⟨kb,0,none⟩),Ab i] w (KP w (.tuple #[B9 (Nd ab),.bool true])):=by
 have HC:=A0 (fun(W:World) (hb:Below w.heap.size w W)=>Afk (h.below hb));have lb:=A5 h.st.blk;clear h;generalize Nd ab=x at *;exact z07a
theorem Ady(h:E9 D kb pb P ps pa pc w ab va vc)(i:Ac)(hop:i.op=15\/i.op=17\/i.op=19\/i.op=21\/i.op=23\/i.op=37):Calls Tryz.prog 303 #[.pointer (some ⟨kb,0,none⟩),Ab i] w (KP w (.tuple #[B9 (Dm 2),.bool true])):=by
 have HC:=A0 (fun(W:World) (_:Below w.heap.size w W)=>Mh 2 W);have lb:=A5 h.st.blk;clear h;generalize Dm 2=x at *;obtain⟨op,arg,line,v⟩:=i;unfold Ab at *;try unfold KP at HC
 try unfold B9 at HC
 dsimp only at *;rcases hop with rfl|rfl|rfl|rfl|rfl|rfl <;>
  (go_enter Tryz.func303,Tryz.ntmps303
   go_wp2_with fail
   refine(HC.o _ (E0 _ _ _)).mono ?_;rintro e w1 ⟨rfl,A1⟩;have Ao:=(A1.block (w.heap.size+1) z50a).trans (I6 _ _ _ _);have D9:Hid (Below w.heap.size w w1):=(E0 _ _ _).trans (A1.mono z4ya);have r0:=A2 Ao 0 _ rfl;have r1:=A2 Ao 1 _ rfl;have r2:=A2 Ao 2 _ rfl;have r3:=A2 Ao 3 _ rfl;have r4:=A2 Ao 4 _ rfl;have r5:=A2 Ao 5 _ rfl;have r6:=A2 Ao 6 _ rfl;have fr:=Bd Ao;have lr:=A5 Ao;clear A1 Ao HC;go_wp2;refine bodyPost_ret (v:=.tuple #[B9 x,.bool true]) z5da rfl ⟨rfl,?_⟩;exact J5 D9.o z4va _ _ _ _ _ _ _)
theorem Adx(h:E9 D kb pb P ps pa pc w ab va vc)(i:Ac)(hop:i.op=25\/i.op=26\/i.op=27\/i.op=28\/i.op=29\/i.op=30\/i.op=31\/i.op=11):Calls Tryz.prog 303 #[.pointer (some ⟨kb,0,none⟩),Ab i] w (KP w (.tuple #[B9 (Dm 1),.bool true])):=by
 have HC:=A0 (fun(W:World) (_:Below w.heap.size w W)=>Mh 1 W);have lb:=A5 h.st.blk;clear h;generalize Dm 1=x at *;obtain⟨op,arg,line,v⟩:=i;unfold Ab at *;try unfold KP at HC
 try unfold B9 at HC
 dsimp only at *;rcases hop with rfl|rfl|rfl|rfl|rfl|rfl|rfl|rfl <;>
  (go_enter Tryz.func303,Tryz.ntmps303
   go_wp2_with fail
   refine(HC.o _ (E0 _ _ _)).mono ?_;rintro e w1 ⟨rfl,A1⟩;have Ao:=(A1.block (w.heap.size+1) z50a).trans (I6 _ _ _ _);have D9:Hid (Below w.heap.size w w1):=(E0 _ _ _).trans (A1.mono z4ya);have r0:=A2 Ao 0 _ rfl;have r1:=A2 Ao 1 _ rfl;have r2:=A2 Ao 2 _ rfl;have r3:=A2 Ao 3 _ rfl;have r4:=A2 Ao 4 _ rfl;have r5:=A2 Ao 5 _ rfl;have r6:=A2 Ao 6 _ rfl;have fr:=Bd Ao;have lr:=A5 Ao;clear A1 Ao HC;go_wp2;refine bodyPost_ret (v:=.tuple #[B9 x,.bool true]) z5da rfl ⟨rfl,?_⟩;exact J5 D9.o z4va _ _ _ _ _ _ _)
theorem Adz(h:E9 D kb pb P ps pa pc w ab va vc)(i:Ac)(hop:i.op=36):Calls Tryz.prog 303 #[.pointer (some ⟨kb,0,none⟩),Ab i] w (KP w (.tuple #[B9 (Dm 4),.bool true])):=by
 have HC:=A0 (fun(W:World) (_:Below w.heap.size w W)=>Mh 4 W);have lb:=A5 h.st.blk;clear h;generalize Dm 4=x at *;exact z07a
theorem Ae4(h:E9 D kb pb P ps pa pc w ab va vc)(i:Ac)(hop:i.op=38):Calls Tryz.prog 303 #[.pointer (some ⟨kb,0,none⟩),Ab i] w (KP w (.tuple #[B9 (E7 ab),.bool true])):=by
 have HC:=A0 (fun(W:World) (hb:Below w.heap.size w W)=>Sk (h.below hb).st z5oa (E7 ab) rfl);have lb:=A5 h.st.blk;clear h;generalize E7 ab=x at *;exact z07a
theorem Ae2(w:World)(i:Ac)(h:¬(i.op=0\/i.op=1\/i.op=2\/i.op=42\/i.op=39\/i.op=12\/i.op=15\/i.op=17\/i.op=19\/i.op=21\/i.op=23\/i.op=37\/i.op=25\/i.op=26\/i.op=27\/i.op=28\/i.op=29\/i.op=30\/i.op=31\/i.op=11\/i.op=36\/i.op=38)):Calls Tryz.prog 303 #[.pointer (some ⟨kb,0,none⟩),Ab i] w (KP w (.tuple #[B9 En,.bool false])):=by
 have t0:((i.op:Int)==0)=false:=by rw[beq_eq_false_iff_ne];omega
 have t1:((i.op:Int)==1)=false:=by rw[beq_eq_false_iff_ne];omega
 have t2:((i.op:Int)==2)=false:=by rw[beq_eq_false_iff_ne];omega
 have t42:((i.op:Int)==42)=false:=by rw[beq_eq_false_iff_ne];omega
 have t39:((i.op:Int)==39)=false:=by rw[beq_eq_false_iff_ne];omega
 have t12:((i.op:Int)==12)=false:=by rw[beq_eq_false_iff_ne];omega
 have t15:((i.op:Int)==15)=false:=by rw[beq_eq_false_iff_ne];omega
 have t17:((i.op:Int)==17)=false:=by rw[beq_eq_false_iff_ne];omega
 have t19:((i.op:Int)==19)=false:=by rw[beq_eq_false_iff_ne];omega
 have t21:((i.op:Int)==21)=false:=by rw[beq_eq_false_iff_ne];omega
 have t23:((i.op:Int)==23)=false:=by rw[beq_eq_false_iff_ne];omega
 have t37:((i.op:Int)==37)=false:=by rw[beq_eq_false_iff_ne];omega
 have t25:((i.op:Int)==25)=false:=by rw[beq_eq_false_iff_ne];omega
 have t26:((i.op:Int)==26)=false:=by rw[beq_eq_false_iff_ne];omega
 have t27:((i.op:Int)==27)=false:=by rw[beq_eq_false_iff_ne];omega
 have t28:((i.op:Int)==28)=false:=by rw[beq_eq_false_iff_ne];omega
 have t29:((i.op:Int)==29)=false:=by rw[beq_eq_false_iff_ne];omega
 have t30:((i.op:Int)==30)=false:=by rw[beq_eq_false_iff_ne];omega
 have t31:((i.op:Int)==31)=false:=by rw[beq_eq_false_iff_ne];omega
 have t11:((i.op:Int)==11)=false:=by rw[beq_eq_false_iff_ne];omega
 have t36:((i.op:Int)==36)=false:=by rw[beq_eq_false_iff_ne];omega
 have t38:((i.op:Int)==38)=false:=by rw[beq_eq_false_iff_ne];omega
 clear h;unfold Ab;go_enter Tryz.func303,Tryz.ntmps303;go_wp2;refine bodyPost_ret (v:=.tuple #[B9 En,.bool false]) (by simp[results,Tryz.results303,go_sem,B9,En,Ag]) rfl ⟨rfl,?_⟩;exact E0 _ _ _
theorem Aex(h:E9 D kb pb P ps pa pc w ab va vc)(i:Ac)(ha:0<=i.arg):Calls Tryz.prog 303 #[.pointer (some ⟨kb,0,none⟩),Ab i] w (KP w (X7 (Uc ps ab i))):=by
 unfold Uc;by_cases h0:i.op=0
 ·rw[if_pos h0];exact Ae0 h i h0
 rw[if_neg h0];by_cases h1:i.op=1\/i.op=2\/i.op=42\/i.op=39
 ·rw[if_pos h1];exact Ae1 h i h1 ha
 rw[if_neg h1];by_cases h12:i.op=12
 ·rw[if_pos h12];exact Ae3 h i h12
 rw[if_neg h12];by_cases h2:i.op=15\/i.op=17\/i.op=19\/i.op=21\/i.op=23\/i.op=37
 ·rw[if_pos h2];exact Ady h i h2
 rw[if_neg h2];by_cases h3:i.op=25\/i.op=26\/i.op=27\/i.op=28\/i.op=29\/i.op=30\/i.op=31\/i.op=11
 ·rw[if_pos h3];exact Adx h i h3
 rw[if_neg h3];by_cases h36:i.op=36
 ·rw[if_pos h36];exact Adz h i h36
 rw[if_neg h36];by_cases h38:i.op=38
 ·rw[if_pos h38];exact Ae4 h i h38
 rw[if_neg h38];exact Ae2 w i z4va
theorem z6qa {P:Prop} (h:P:=by exact Nat.le_succ _):P:=h
theorem Aim(h:E9 D kb pb P ps pa pc w ab va vc)(i:Ac)(ha:0<=i.arg)(hw:(Fm ps i).whole=true):Calls Tryz.prog 292 #[.pointer (some ⟨kb,0,none⟩),Ab i] w (KP w (Ab (quick ps ab i))):=by
 have HQ:Hid (quick ps ab i=⟨0,0,0,(Fm ps i).like⟩):=if_pos hw;have HC:=A0 (fun(W:World) (hb:Below w.heap.size w W)=>M6 (h.below hb) i ha);have lb:=A5 h.st.blk;have HM:=A0 h;have hfew:=h.Br.1;clear h ha;unfold Ab at *;unfold KP at HC;unfold B9 at HC;clear HM;generalize Fm ps i=x at *;go_enter Tryz.func292,Tryz.ntmps292;go_wp2_with fail
 refine(HC.o _ (E0 _ _ _)).mono ?_;rintro e w1 ⟨rfl,A1⟩;have At:=(A1.block (w.heap.size+1) z50a).trans (I6 _ _ _ _);have Ad:=(A1.block w.heap.size z4ya).trans (alloc_old (heap_alloc_new w _));have A4:Hid (Below w.heap.size w w1):=(E0 _ _ _).trans (A1.mono z4ya);have E6:=A4.o.size;have r0:=A2 At 0 _ rfl;have r1:=A2 At 1 _ rfl;have r2:=A2 At 2 _ rfl;have r3:=A2 At 3 _ rfl;have r4:=A2 At 4 _ rfl;have r5:=A2 At 5 _ rfl;have r6:=A2 At 6 _ rfl;have r7:=A2 At 7 _ rfl;have fr:=Bd At;have lr:=A5 At;clear A1 At Ad HC;go_wp2;refine bodyPost_ret (v:=.agg #[.int .i64 0,.int .i64 0,.int .i64 0,.int .i64 (x.like.k:Nat),.bool x.like.y,.int .i64 x.like.n,.string ⟨x.like.t.toArray⟩,.pointer none]) (by simp[results,Tryz.results292,go_sem,r0,r1,r2,r3,r4,r5,r6,r7,lr]) rfl ⟨by rw[HQ.o];rfl,?_⟩;have hfin2:=A4.o;refine Below.alloc ?_ z4za _;iterate 8 refine Below.setCell ?_ z6qa _
 exact hfin2
theorem z27a {P:Prop} (h:P:=by
  show quick ps ab i=_;unfold quick;rw[if_neg (by rw[hw];simp)];simp[ho,h3,h2]):P:=h
theorem z5ea {P:Prop} (h:P:=by exact Nat.le_refl _):P:=h
theorem z1fa {P:Prop} (h:P:=by
  iterate 8 refine Below.setCell ?_ z6qa _
  refine Below.setCell ?_ z5ea _;exact hfin):P:=h
theorem z51a {P:Prop} (h:P:=by simp[results,Tryz.results292,go_sem,r0,r1,r2,r3,r4,r5,r6,r7]):P:=h
theorem z6aa {P:Prop} (h:P:=by exact Nat.succ_ne_self _):P:=h
theorem Ail(h:E9 D kb pb P ps pa pc w ab va vc)(i:Ac)(ha:0<=i.arg)(hw:(Fm ps i).whole=false)(ho:i.op=12)(h3:Fc ab 3=true)(h2:Fc ab 2=true):Calls Tryz.prog 292 #[.pointer (some ⟨kb,0,none⟩),Ab i] w (KP w (Ab (quick ps ab i))):=by
 have HQ:Hid (quick ps ab i=⟨(Ge 14),i.arg,i.line,i.v⟩):=by
  exact z27a
 have t12:((i.op:Int)==12)=true:=by rw[ho];rfl
 have Av:=A0 (fun(W:World) (hb:Below w.heap.size w W)=>L9 (h.below hb) 3);rw[h3]at Av;have Aa:=A0 (fun(W:World) (hb:Below w.heap.size w W)=>L9 (h.below hb) 2);rw[h2]at Aa;have HC:=A0 (fun(W:World) (hb:Below w.heap.size w W)=>M6 (h.below hb) i ha);have lb:=A5 h.st.blk;have HM:=A0 h;have hfew:=h.Br.1;clear h ha;unfold Ab at *;unfold KP at HC;unfold B9 at HC;clear ho h3 h2 HM;generalize Fm ps i=x at *;go_enter Tryz.func292,Tryz.ntmps292;go_wp2_with fail
 refine(HC.o _ (E0 _ _ _)).mono ?_;rintro e w1 ⟨rfl,A1⟩;have At:=(A1.block (w.heap.size+1) z50a).trans (I6 _ _ _ _);have Ad:=(A1.block w.heap.size z4ya).trans (alloc_old (heap_alloc_new w _));have A4:Hid (Below w.heap.size w w1):=(E0 _ _ _).trans (A1.mono z4ya);have E6:=A4.o.size;have lr1:=A5 At;have Bo:=A0 Ad;have F6:=A0 At;obtain⟨n0,n1,n2,n3,n4,n5,n6,n7,ln⟩:=B1 Ad;clear A1 At Ad HC;unfold KP at Av;go_wp2_with fail
 refine(Av.o _ (Below.alloc A4.o E6 _)).mono ?_;rintro e w2 ⟨rfl,A8⟩;have Aw:=(A8.block w.heap.size z4ya).trans (alloc_old Bo.o);have B5:=(A8.block (w.heap.size+1) z4ya).trans (alloc_old F6.o);have Ie:Hid (Below w.heap.size w w2):=Below.trans (Below.alloc A4.o E6 _) (A8.mono z4ya);have lr2:=A5 B5;clear n0 n1 n2 n3 n4 n5 n6 n7 ln;obtain⟨n0,n1,n2,n3,n4,n5,n6,n7,ln⟩:=B1 Aw;have fi2:=Bd Aw;have Ee:=A0 Aw;have Cd:=A0 B5;clear A8 Aw B5 Av;unfold KP at Aa;go_wp2_with fail
 refine(Aa.o _ (Below.setCell Ie.o z5ea _)).mono ?_;rintro e w3 ⟨rfl,Aj⟩;have Cy:=(Aj.block w.heap.size z4za).trans (show(w2.setCell ⟨w.heap.size,0,none⟩ (.int .i64 14)).heap[w.heap.size]?=some (.cells #[.int .i64 14,.int .i64 i.arg,.int .i64 (i.line:Nat),.int .i64 (i.v.k:Nat),.bool i.v.y,.int .i64 i.v.n,.string ⟨i.v.t.toArray⟩,.pointer none] 251 (0,0)) from heap_set (j:=0) Ee.o _);have Ce:=(Aj.block (w.heap.size+1) z4za).trans ((Below.heap_setCell _ _ _ _ z6aa).trans Cd.o);have HBl3:Hid (Below w.heap.size w w3):=Below.trans (Below.setCell Ie.o z5ea _) (Aj.mono z4za);have lr3:=A5 Ce;clear n0 n1 n2 n3 n4 n5 n6 n7 ln;obtain⟨n0,n1,n2,n3,n4,n5,n6,n7,ln⟩:=B1 Cy;have fi3:=Bd Cy;have HI3:=A0 Cy;have C3:=A0 Ce;clear Aj Cy Ce Aa;have r0:=A2 C3.o 0 _ rfl;have r1:=A2 C3.o 1 _ rfl;have r2:=A2 C3.o 2 _ rfl;have r3:=A2 C3.o 3 _ rfl;have r4:=A2 C3.o 4 _ rfl;have r5:=A2 C3.o 5 _ rfl;have r6:=A2 C3.o 6 _ rfl;have r7:=A2 C3.o 7 _ rfl;have fr:=Bd C3.o;have lr:=lr3;have HO:=A0 (Ss 14 w3);go_wp2_with fail
 refine HO.o.mono ?_;rintro e w9 ⟨rfl,Dq⟩;rw[Dq];clear Dq w9;go_wp2;refine bodyPost_ret (v:=.agg #[.int .i64 ((Ge 14):Nat),.int .i64 i.arg,.int .i64 (i.line:Nat),.int .i64 (i.v.k:Nat),.bool i.v.y,.int .i64 i.v.n,.string ⟨i.v.t.toArray⟩,.pointer none]) z51a rfl ⟨by rw[HQ.o],?_⟩;have hfin:=HBl3.o;exact z1fa
theorem z1sa {P:Prop} (h:P:=by
  iterate 8 refine Below.setCell ?_ z6qa _
  exact hfin):P:=h
theorem Aik(h:E9 D kb pb P ps pa pc w ab va vc)(i:Ac)(ha:0<=i.arg)(hw:(Fm ps i).whole=false)(ho:i.op=12)(h3:Fc ab 3=true)(h2:Fc ab 2=false):Calls Tryz.prog 292 #[.pointer (some ⟨kb,0,none⟩),Ab i] w (KP w (Ab (quick ps ab i))):=by
 have HQ:Hid (quick ps ab i=⟨14,i.arg,i.line,i.v⟩):=by
  exact z27a
 have t12:((i.op:Int)==12)=true:=by rw[ho];rfl
 have Av:=A0 (fun(W:World) (hb:Below w.heap.size w W)=>L9 (h.below hb) 3);rw[h3]at Av;have Aa:=A0 (fun(W:World) (hb:Below w.heap.size w W)=>L9 (h.below hb) 2);rw[h2]at Aa;have HC:=A0 (fun(W:World) (hb:Below w.heap.size w W)=>M6 (h.below hb) i ha);have lb:=A5 h.st.blk;have HM:=A0 h;have hfew:=h.Br.1;clear h ha;unfold Ab at *;unfold KP at HC;unfold B9 at HC;clear ho h3 h2 HM;generalize Fm ps i=x at *;go_enter Tryz.func292,Tryz.ntmps292;go_wp2_with fail
 refine(HC.o _ (E0 _ _ _)).mono ?_;rintro e w1 ⟨rfl,A1⟩;have At:=(A1.block (w.heap.size+1) z50a).trans (I6 _ _ _ _);have Ad:=(A1.block w.heap.size z4ya).trans (alloc_old (heap_alloc_new w _));have A4:Hid (Below w.heap.size w w1):=(E0 _ _ _).trans (A1.mono z4ya);have E6:=A4.o.size;have lr1:=A5 At;have Bo:=A0 Ad;have F6:=A0 At;obtain⟨n0,n1,n2,n3,n4,n5,n6,n7,ln⟩:=B1 Ad;clear A1 At Ad HC;unfold KP at Av;go_wp2_with fail
 refine(Av.o _ (Below.alloc A4.o E6 _)).mono ?_;rintro e w2 ⟨rfl,A8⟩;have Aw:=(A8.block w.heap.size z4ya).trans (alloc_old Bo.o);have B5:=(A8.block (w.heap.size+1) z4ya).trans (alloc_old F6.o);have Ie:Hid (Below w.heap.size w w2):=Below.trans (Below.alloc A4.o E6 _) (A8.mono z4ya);have lr2:=A5 B5;clear n0 n1 n2 n3 n4 n5 n6 n7 ln;obtain⟨n0,n1,n2,n3,n4,n5,n6,n7,ln⟩:=B1 Aw;have fi2:=Bd Aw;have Ee:=A0 Aw;have Cd:=A0 B5;clear A8 Aw B5 Av;unfold KP at Aa;go_wp2_with fail
 refine(Aa.o _ (Below.setCell Ie.o z5ea _)).mono ?_;rintro e w3 ⟨rfl,Aj⟩;have Cy:=(Aj.block w.heap.size z4za).trans (show(w2.setCell ⟨w.heap.size,0,none⟩ (.int .i64 14)).heap[w.heap.size]?=some (.cells #[.int .i64 14,.int .i64 i.arg,.int .i64 (i.line:Nat),.int .i64 (i.v.k:Nat),.bool i.v.y,.int .i64 i.v.n,.string ⟨i.v.t.toArray⟩,.pointer none] 251 (0,0)) from heap_set (j:=0) Ee.o _);have Ce:=(Aj.block (w.heap.size+1) z4za).trans ((Below.heap_setCell _ _ _ _ z6aa).trans Cd.o);have HBl3:Hid (Below w.heap.size w w3):=Below.trans (Below.setCell Ie.o z5ea _) (Aj.mono z4za);have lr3:=A5 Ce;clear n0 n1 n2 n3 n4 n5 n6 n7 ln;obtain⟨n0,n1,n2,n3,n4,n5,n6,n7,ln⟩:=B1 Cy;have fi3:=Bd Cy;have HI3:=A0 Cy;have C3:=A0 Ce;clear Aj Cy Ce Aa;have r0:=A2 C3.o 0 _ rfl;have r1:=A2 C3.o 1 _ rfl;have r2:=A2 C3.o 2 _ rfl;have r3:=A2 C3.o 3 _ rfl;have r4:=A2 C3.o 4 _ rfl;have r5:=A2 C3.o 5 _ rfl;have r6:=A2 C3.o 6 _ rfl;have r7:=A2 C3.o 7 _ rfl;have fr:=Bd C3.o;have lr:=lr3;go_wp2;refine bodyPost_ret (v:=.agg #[.int .i64 (14:Nat),.int .i64 i.arg,.int .i64 (i.line:Nat),.int .i64 (i.v.k:Nat),.bool i.v.y,.int .i64 i.v.n,.string ⟨i.v.t.toArray⟩,.pointer none]) z51a rfl ⟨by rw[HQ.o],?_⟩;have hfin:=HBl3.o;exact z1sa
theorem Aih(h:E9 D kb pb P ps pa pc w ab va vc)(i:Ac)(ha:0<=i.arg)(hw:(Fm ps i).whole=false)(ho:i.op=12)(h3:Fc ab 3=false)(h2:Fc ab 2=true):Calls Tryz.prog 292 #[.pointer (some ⟨kb,0,none⟩),Ab i] w (KP w (Ab (quick ps ab i))):=by
 have HQ:Hid (quick ps ab i=⟨(Ge i.op),i.arg,i.line,i.v⟩):=by
  exact z27a
 have t12:((i.op:Int)==12)=true:=by rw[ho];rfl
 have t23:((i.op:Int)==23)=false:=by rw[ho];rfl
 have Av:=A0 (fun(W:World) (hb:Below w.heap.size w W)=>L9 (h.below hb) 3);rw[h3]at Av;have Aa:=A0 (fun(W:World) (hb:Below w.heap.size w W)=>L9 (h.below hb) 2);rw[h2]at Aa;have HC:=A0 (fun(W:World) (hb:Below w.heap.size w W)=>M6 (h.below hb) i ha);have lb:=A5 h.st.blk;have HM:=A0 h;have hfew:=h.Br.1;clear h ha;unfold Ab at *;unfold KP at HC;unfold B9 at HC;clear ho h3 h2 HM;generalize Fm ps i=x at *;go_enter Tryz.func292,Tryz.ntmps292;go_wp2_with fail
 refine(HC.o _ (E0 _ _ _)).mono ?_;rintro e w1 ⟨rfl,A1⟩;have At:=(A1.block (w.heap.size+1) z50a).trans (I6 _ _ _ _);have Ad:=(A1.block w.heap.size z4ya).trans (alloc_old (heap_alloc_new w _));have A4:Hid (Below w.heap.size w w1):=(E0 _ _ _).trans (A1.mono z4ya);have E6:=A4.o.size;have lr1:=A5 At;have Bo:=A0 Ad;have F6:=A0 At;obtain⟨n0,n1,n2,n3,n4,n5,n6,n7,ln⟩:=B1 Ad;clear A1 At Ad HC;unfold KP at Av;go_wp2_with fail
 refine(Av.o _ (Below.alloc A4.o E6 _)).mono ?_;rintro e w2 ⟨rfl,A8⟩;have Aw:=(A8.block w.heap.size z4ya).trans (alloc_old Bo.o);have B5:=(A8.block (w.heap.size+1) z4ya).trans (alloc_old F6.o);have Ie:Hid (Below w.heap.size w w2):=Below.trans (Below.alloc A4.o E6 _) (A8.mono z4ya);have lr2:=A5 B5;clear n0 n1 n2 n3 n4 n5 n6 n7 ln;obtain⟨n0,n1,n2,n3,n4,n5,n6,n7,ln⟩:=B1 Aw;have fi2:=Bd Aw;have Ee:=A0 Aw;have Cd:=A0 B5;clear A8 Aw B5 Av;unfold KP at Aa;go_wp2_with fail
 refine(Aa.o _ Ie.o).mono ?_;rintro e w3 ⟨rfl,Aj⟩;have Cy:=(Aj.block w.heap.size z4va).trans Ee.o;have Ce:=(Aj.block (w.heap.size+1) z4va).trans Cd.o;have HBl3:Hid (Below w.heap.size w w3):=Below.trans Ie.o (Aj.mono z4va);have lr3:=A5 Ce;clear n0 n1 n2 n3 n4 n5 n6 n7 ln;obtain⟨n0,n1,n2,n3,n4,n5,n6,n7,ln⟩:=B1 Cy;have fi3:=Bd Cy;have HI3:=A0 Cy;have C3:=A0 Ce;clear Aj Cy Ce Aa;have r0:=A2 C3.o 0 _ rfl;have r1:=A2 C3.o 1 _ rfl;have r2:=A2 C3.o 2 _ rfl;have r3:=A2 C3.o 3 _ rfl;have r4:=A2 C3.o 4 _ rfl;have r5:=A2 C3.o 5 _ rfl;have r6:=A2 C3.o 6 _ rfl;have r7:=A2 C3.o 7 _ rfl;have fr:=Bd C3.o;have lr:=lr3;have HO:=A0 (Ss i.op w3);go_wp2_with fail
 refine HO.o.mono ?_;rintro e w9 ⟨rfl,Dq⟩;rw[Dq];clear Dq w9;go_wp2;refine bodyPost_ret (v:=.agg #[.int .i64 ((Ge i.op):Nat),.int .i64 i.arg,.int .i64 (i.line:Nat),.int .i64 (i.v.k:Nat),.bool i.v.y,.int .i64 i.v.n,.string ⟨i.v.t.toArray⟩,.pointer none]) z51a rfl ⟨by rw[HQ.o],?_⟩;have hfin:=HBl3.o;exact z1fa
theorem Aig(h:E9 D kb pb P ps pa pc w ab va vc)(i:Ac)(ha:0<=i.arg)(hw:(Fm ps i).whole=false)(ho:i.op=12)(h3:Fc ab 3=false)(h2:Fc ab 2=false):Calls Tryz.prog 292 #[.pointer (some ⟨kb,0,none⟩),Ab i] w (KP w (Ab (quick ps ab i))):=by
 have HQ:Hid (quick ps ab i=⟨i.op,i.arg,i.line,i.v⟩):=by
  exact z27a
 have t12:((i.op:Int)==12)=true:=by rw[ho];rfl
 have t23:((i.op:Int)==23)=false:=by rw[ho];rfl
 have Av:=A0 (fun(W:World) (hb:Below w.heap.size w W)=>L9 (h.below hb) 3);rw[h3]at Av;have Aa:=A0 (fun(W:World) (hb:Below w.heap.size w W)=>L9 (h.below hb) 2);rw[h2]at Aa;have HC:=A0 (fun(W:World) (hb:Below w.heap.size w W)=>M6 (h.below hb) i ha);have lb:=A5 h.st.blk;have HM:=A0 h;have hfew:=h.Br.1;clear h ha;unfold Ab at *;unfold KP at HC;unfold B9 at HC;clear ho h3 h2 HM;generalize Fm ps i=x at *;go_enter Tryz.func292,Tryz.ntmps292;go_wp2_with fail
 refine(HC.o _ (E0 _ _ _)).mono ?_;rintro e w1 ⟨rfl,A1⟩;have At:=(A1.block (w.heap.size+1) z50a).trans (I6 _ _ _ _);have Ad:=(A1.block w.heap.size z4ya).trans (alloc_old (heap_alloc_new w _));have A4:Hid (Below w.heap.size w w1):=(E0 _ _ _).trans (A1.mono z4ya);have E6:=A4.o.size;have lr1:=A5 At;have Bo:=A0 Ad;have F6:=A0 At;obtain⟨n0,n1,n2,n3,n4,n5,n6,n7,ln⟩:=B1 Ad;clear A1 At Ad HC;unfold KP at Av;go_wp2_with fail
 refine(Av.o _ (Below.alloc A4.o E6 _)).mono ?_;rintro e w2 ⟨rfl,A8⟩;have Aw:=(A8.block w.heap.size z4ya).trans (alloc_old Bo.o);have B5:=(A8.block (w.heap.size+1) z4ya).trans (alloc_old F6.o);have Ie:Hid (Below w.heap.size w w2):=Below.trans (Below.alloc A4.o E6 _) (A8.mono z4ya);have lr2:=A5 B5;clear n0 n1 n2 n3 n4 n5 n6 n7 ln;obtain⟨n0,n1,n2,n3,n4,n5,n6,n7,ln⟩:=B1 Aw;have fi2:=Bd Aw;have Ee:=A0 Aw;have Cd:=A0 B5;clear A8 Aw B5 Av;unfold KP at Aa;go_wp2_with fail
 refine(Aa.o _ Ie.o).mono ?_;rintro e w3 ⟨rfl,Aj⟩;have Cy:=(Aj.block w.heap.size z4va).trans Ee.o;have Ce:=(Aj.block (w.heap.size+1) z4va).trans Cd.o;have HBl3:Hid (Below w.heap.size w w3):=Below.trans Ie.o (Aj.mono z4va);have lr3:=A5 Ce;clear n0 n1 n2 n3 n4 n5 n6 n7 ln;obtain⟨n0,n1,n2,n3,n4,n5,n6,n7,ln⟩:=B1 Cy;have fi3:=Bd Cy;have HI3:=A0 Cy;have C3:=A0 Ce;clear Aj Cy Ce Aa;have r0:=A2 C3.o 0 _ rfl;have r1:=A2 C3.o 1 _ rfl;have r2:=A2 C3.o 2 _ rfl;have r3:=A2 C3.o 3 _ rfl;have r4:=A2 C3.o 4 _ rfl;have r5:=A2 C3.o 5 _ rfl;have r6:=A2 C3.o 6 _ rfl;have r7:=A2 C3.o 7 _ rfl;have fr:=Bd C3.o;have lr:=lr3;go_wp2;refine bodyPost_ret (v:=.agg #[.int .i64 (i.op:Nat),.int .i64 i.arg,.int .i64 (i.line:Nat),.int .i64 (i.v.k:Nat),.bool i.v.y,.int .i64 i.v.n,.string ⟨i.v.t.toArray⟩,.pointer none]) z51a rfl ⟨by rw[HQ.o],?_⟩;have hfin:=HBl3.o;exact z1sa
theorem z28a {P:Prop} (h:P:=by
  show quick ps ab i=_;unfold quick;rw[if_neg (by rw[hw];simp)];simp[ho,hc,h2]):P:=h
theorem Aij(h:E9 D kb pb P ps pa pc w ab va vc)(i:Ac)(ha:0<=i.arg)(hw:(Fm ps i).whole=false)(ho:i.op=23)(hc:(E7 ab).sure 2=true)(h2:Fc ab 2=true):Calls Tryz.prog 292 #[.pointer (some ⟨kb,0,none⟩),Ab i] w (KP w (Ab (quick ps ab i))):=by
 have HQ:Hid (quick ps ab i=⟨(Ge 24),i.arg,i.line,i.v⟩):=by
  exact z28a
 have t12:((i.op:Int)==12)=false:=by rw[ho];rfl
 have t23:((i.op:Int)==23)=true:=by rw[ho];rfl
 have HTp:=A0 (fun(W:World) (hb:Below w.heap.size w W)=>Sk (h.below hb).st z5oa (E7 ab) rfl);have HSu:=A0 (fun(W:World)=>Mm (E7 ab) 2 W);rw[hc]at HSu;unfold B9 at HSu;have Aa:=A0 (fun(W:World) (hb:Below w.heap.size w W)=>L9 (h.below hb) 2);rw[h2]at Aa;have HC:=A0 (fun(W:World) (hb:Below w.heap.size w W)=>M6 (h.below hb) i ha);have lb:=A5 h.st.blk;have HM:=A0 h;have hfew:=h.Br.1;clear h ha;unfold Ab at *;unfold KP at HC;unfold B9 at HC;clear ho hc h2 HM;generalize E7 ab=y at *;generalize Fm ps i=x at *;go_enter Tryz.func292,Tryz.ntmps292;go_wp2_with fail
 refine(HC.o _ (E0 _ _ _)).mono ?_;rintro e w1 ⟨rfl,A1⟩;have At:=(A1.block (w.heap.size+1) z50a).trans (I6 _ _ _ _);have Ad:=(A1.block w.heap.size z4ya).trans (alloc_old (heap_alloc_new w _));have A4:Hid (Below w.heap.size w w1):=(E0 _ _ _).trans (A1.mono z4ya);have E6:=A4.o.size;have lr1:=A5 At;have Bo:=A0 Ad;have F6:=A0 At;obtain⟨n0,n1,n2,n3,n4,n5,n6,n7,ln⟩:=B1 Ad;clear A1 At Ad HC;go_wp2_with fail
 refine(HTp.o _ (Below.alloc A4.o E6 _)).mono ?_;rintro e w2 ⟨rfl,A8⟩;have Aw:=(A8.block w.heap.size z4ya).trans (alloc_old Bo.o);have B5:=(A8.block (w.heap.size+1) z4ya).trans (alloc_old F6.o);have Ie:Hid (Below w.heap.size w w2):=Below.trans (Below.alloc A4.o E6 _) (A8.mono z4ya);have lr2:=A5 B5;clear n0 n1 n2 n3 n4 n5 n6 n7 ln;obtain⟨n0,n1,n2,n3,n4,n5,n6,n7,ln⟩:=B1 Aw;have fi2:=Bd Aw;have Ee:=A0 Aw;have Cd:=A0 B5;clear A8 Aw B5 HTp;go_wp2_with fail
 refine(HSu.o _).mono ?_;rintro e w3 ⟨rfl,Aj⟩;have Cy:=(Aj.block w.heap.size z4va).trans Ee.o;have Ce:=(Aj.block (w.heap.size+1) z4va).trans Cd.o;have HBl3:Hid (Below w.heap.size w w3):=Below.trans Ie.o (Aj.mono z4va);have lr3:=A5 Ce;clear n0 n1 n2 n3 n4 n5 n6 n7 ln;obtain⟨n0,n1,n2,n3,n4,n5,n6,n7,ln⟩:=B1 Cy;have fi3:=Bd Cy;have HI3:=A0 Cy;have C3:=A0 Ce;clear Aj Cy Ce HSu;unfold KP at Aa;go_wp2_with fail
 refine(Aa.o _ (Below.setCell HBl3.o z5ea _)).mono ?_;rintro e w4 ⟨rfl,B8⟩;have hi4:=(B8.block w.heap.size z4za).trans (show(w3.setCell ⟨w.heap.size,0,none⟩ (.int .i64 24)).heap[w.heap.size]?=some (.cells #[.int .i64 24,.int .i64 i.arg,.int .i64 (i.line:Nat),.int .i64 (i.v.k:Nat),.bool i.v.y,.int .i64 i.v.n,.string ⟨i.v.t.toArray⟩,.pointer none] 251 (0,0)) from heap_set (j:=0) HI3.o _);have Fy:=(B8.block (w.heap.size+1) z4za).trans ((Below.heap_setCell _ _ _ _ z6aa).trans C3.o);have HBl4:Hid (Below w.heap.size w w4):=Below.trans (Below.setCell HBl3.o z5ea _) (B8.mono z4za);have lr4:=A5 Fy;clear n0 n1 n2 n3 n4 n5 n6 n7 ln;obtain⟨n0,n1,n2,n3,n4,n5,n6,n7,ln⟩:=B1 hi4;have fi4:=Bd hi4;have HI4:=A0 hi4;have Cu:=A0 Fy;clear B8 hi4 Fy Aa;have r0:=A2 Cu.o 0 _ rfl;have r1:=A2 Cu.o 1 _ rfl;have r2:=A2 Cu.o 2 _ rfl;have r3:=A2 Cu.o 3 _ rfl;have r4:=A2 Cu.o 4 _ rfl;have r5:=A2 Cu.o 5 _ rfl;have r6:=A2 Cu.o 6 _ rfl;have r7:=A2 Cu.o 7 _ rfl;have fr:=Bd Cu.o;have lr:=lr4;have HO:=A0 (Ss 24 w4);go_wp2_with fail
 refine HO.o.mono ?_;rintro e w9 ⟨rfl,Dq⟩;rw[Dq];clear Dq w9;go_wp2;refine bodyPost_ret (v:=.agg #[.int .i64 ((Ge 24):Nat),.int .i64 i.arg,.int .i64 (i.line:Nat),.int .i64 (i.v.k:Nat),.bool i.v.y,.int .i64 i.v.n,.string ⟨i.v.t.toArray⟩,.pointer none]) z51a rfl ⟨by rw[HQ.o],?_⟩;have hfin:=HBl4.o;exact z1fa
theorem Aii(h:E9 D kb pb P ps pa pc w ab va vc)(i:Ac)(ha:0<=i.arg)(hw:(Fm ps i).whole=false)(ho:i.op=23)(hc:(E7 ab).sure 2=true)(h2:Fc ab 2=false):Calls Tryz.prog 292 #[.pointer (some ⟨kb,0,none⟩),Ab i] w (KP w (Ab (quick ps ab i))):=by
 have HQ:Hid (quick ps ab i=⟨24,i.arg,i.line,i.v⟩):=by
  exact z28a
 have t12:((i.op:Int)==12)=false:=by rw[ho];rfl
 have t23:((i.op:Int)==23)=true:=by rw[ho];rfl
 have HTp:=A0 (fun(W:World) (hb:Below w.heap.size w W)=>Sk (h.below hb).st z5oa (E7 ab) rfl);have HSu:=A0 (fun(W:World)=>Mm (E7 ab) 2 W);rw[hc]at HSu;unfold B9 at HSu;have Aa:=A0 (fun(W:World) (hb:Below w.heap.size w W)=>L9 (h.below hb) 2);rw[h2]at Aa;have HC:=A0 (fun(W:World) (hb:Below w.heap.size w W)=>M6 (h.below hb) i ha);have lb:=A5 h.st.blk;have HM:=A0 h;have hfew:=h.Br.1;clear h ha;unfold Ab at *;unfold KP at HC;unfold B9 at HC;clear ho hc h2 HM;generalize E7 ab=y at *;generalize Fm ps i=x at *;go_enter Tryz.func292,Tryz.ntmps292;go_wp2_with fail
 refine(HC.o _ (E0 _ _ _)).mono ?_;rintro e w1 ⟨rfl,A1⟩;have At:=(A1.block (w.heap.size+1) z50a).trans (I6 _ _ _ _);have Ad:=(A1.block w.heap.size z4ya).trans (alloc_old (heap_alloc_new w _));have A4:Hid (Below w.heap.size w w1):=(E0 _ _ _).trans (A1.mono z4ya);have E6:=A4.o.size;have lr1:=A5 At;have Bo:=A0 Ad;have F6:=A0 At;obtain⟨n0,n1,n2,n3,n4,n5,n6,n7,ln⟩:=B1 Ad;clear A1 At Ad HC;go_wp2_with fail
 refine(HTp.o _ (Below.alloc A4.o E6 _)).mono ?_;rintro e w2 ⟨rfl,A8⟩;have Aw:=(A8.block w.heap.size z4ya).trans (alloc_old Bo.o);have B5:=(A8.block (w.heap.size+1) z4ya).trans (alloc_old F6.o);have Ie:Hid (Below w.heap.size w w2):=Below.trans (Below.alloc A4.o E6 _) (A8.mono z4ya);have lr2:=A5 B5;clear n0 n1 n2 n3 n4 n5 n6 n7 ln;obtain⟨n0,n1,n2,n3,n4,n5,n6,n7,ln⟩:=B1 Aw;have fi2:=Bd Aw;have Ee:=A0 Aw;have Cd:=A0 B5;clear A8 Aw B5 HTp;go_wp2_with fail
 refine(HSu.o _).mono ?_;rintro e w3 ⟨rfl,Aj⟩;have Cy:=(Aj.block w.heap.size z4va).trans Ee.o;have Ce:=(Aj.block (w.heap.size+1) z4va).trans Cd.o;have HBl3:Hid (Below w.heap.size w w3):=Below.trans Ie.o (Aj.mono z4va);have lr3:=A5 Ce;clear n0 n1 n2 n3 n4 n5 n6 n7 ln;obtain⟨n0,n1,n2,n3,n4,n5,n6,n7,ln⟩:=B1 Cy;have fi3:=Bd Cy;have HI3:=A0 Cy;have C3:=A0 Ce;clear Aj Cy Ce HSu;unfold KP at Aa;go_wp2_with fail
 refine(Aa.o _ (Below.setCell HBl3.o z5ea _)).mono ?_;rintro e w4 ⟨rfl,B8⟩;have hi4:=(B8.block w.heap.size z4za).trans (show(w3.setCell ⟨w.heap.size,0,none⟩ (.int .i64 24)).heap[w.heap.size]?=some (.cells #[.int .i64 24,.int .i64 i.arg,.int .i64 (i.line:Nat),.int .i64 (i.v.k:Nat),.bool i.v.y,.int .i64 i.v.n,.string ⟨i.v.t.toArray⟩,.pointer none] 251 (0,0)) from heap_set (j:=0) HI3.o _);have Fy:=(B8.block (w.heap.size+1) z4za).trans ((Below.heap_setCell _ _ _ _ z6aa).trans C3.o);have HBl4:Hid (Below w.heap.size w w4):=Below.trans (Below.setCell HBl3.o z5ea _) (B8.mono z4za);have lr4:=A5 Fy;clear n0 n1 n2 n3 n4 n5 n6 n7 ln;obtain⟨n0,n1,n2,n3,n4,n5,n6,n7,ln⟩:=B1 hi4;have fi4:=Bd hi4;have HI4:=A0 hi4;have Cu:=A0 Fy;clear B8 hi4 Fy Aa;have r0:=A2 Cu.o 0 _ rfl;have r1:=A2 Cu.o 1 _ rfl;have r2:=A2 Cu.o 2 _ rfl;have r3:=A2 Cu.o 3 _ rfl;have r4:=A2 Cu.o 4 _ rfl;have r5:=A2 Cu.o 5 _ rfl;have r6:=A2 Cu.o 6 _ rfl;have r7:=A2 Cu.o 7 _ rfl;have fr:=Bd Cu.o;have lr:=lr4;go_wp2;refine bodyPost_ret (v:=.agg #[.int .i64 (24:Nat),.int .i64 i.arg,.int .i64 (i.line:Nat),.int .i64 (i.v.k:Nat),.bool i.v.y,.int .i64 i.v.n,.string ⟨i.v.t.toArray⟩,.pointer none]) z51a rfl ⟨by rw[HQ.o],?_⟩;have hfin:=HBl4.o;exact z1sa
theorem Aiq(h:E9 D kb pb P ps pa pc w ab va vc)(i:Ac)(ha:0<=i.arg)(hw:(Fm ps i).whole=false)(ho:i.op=23)(hc:(E7 ab).sure 2=false)(h2:Fc ab 2=true):Calls Tryz.prog 292 #[.pointer (some ⟨kb,0,none⟩),Ab i] w (KP w (Ab (quick ps ab i))):=by
 have HQ:Hid (quick ps ab i=⟨(Ge i.op),i.arg,i.line,i.v⟩):=by
  exact z28a
 have t12:((i.op:Int)==12)=false:=by rw[ho];rfl
 have t23:((i.op:Int)==23)=true:=by rw[ho];rfl
 have HTp:=A0 (fun(W:World) (hb:Below w.heap.size w W)=>Sk (h.below hb).st z5oa (E7 ab) rfl);have HSu:=A0 (fun(W:World)=>Mm (E7 ab) 2 W);rw[hc]at HSu;unfold B9 at HSu;have Aa:=A0 (fun(W:World) (hb:Below w.heap.size w W)=>L9 (h.below hb) 2);rw[h2]at Aa;have HC:=A0 (fun(W:World) (hb:Below w.heap.size w W)=>M6 (h.below hb) i ha);have lb:=A5 h.st.blk;have HM:=A0 h;have hfew:=h.Br.1;clear h ha;unfold Ab at *;unfold KP at HC;unfold B9 at HC;clear ho hc h2 HM;generalize E7 ab=y at *;generalize Fm ps i=x at *;go_enter Tryz.func292,Tryz.ntmps292;go_wp2_with fail
 refine(HC.o _ (E0 _ _ _)).mono ?_;rintro e w1 ⟨rfl,A1⟩;have At:=(A1.block (w.heap.size+1) z50a).trans (I6 _ _ _ _);have Ad:=(A1.block w.heap.size z4ya).trans (alloc_old (heap_alloc_new w _));have A4:Hid (Below w.heap.size w w1):=(E0 _ _ _).trans (A1.mono z4ya);have E6:=A4.o.size;have lr1:=A5 At;have Bo:=A0 Ad;have F6:=A0 At;obtain⟨n0,n1,n2,n3,n4,n5,n6,n7,ln⟩:=B1 Ad;clear A1 At Ad HC;go_wp2_with fail
 refine(HTp.o _ (Below.alloc A4.o E6 _)).mono ?_;rintro e w2 ⟨rfl,A8⟩;have Aw:=(A8.block w.heap.size z4ya).trans (alloc_old Bo.o);have B5:=(A8.block (w.heap.size+1) z4ya).trans (alloc_old F6.o);have Ie:Hid (Below w.heap.size w w2):=Below.trans (Below.alloc A4.o E6 _) (A8.mono z4ya);have lr2:=A5 B5;clear n0 n1 n2 n3 n4 n5 n6 n7 ln;obtain⟨n0,n1,n2,n3,n4,n5,n6,n7,ln⟩:=B1 Aw;have fi2:=Bd Aw;have Ee:=A0 Aw;have Cd:=A0 B5;clear A8 Aw B5 HTp;go_wp2_with fail
 refine(HSu.o _).mono ?_;rintro e w3 ⟨rfl,Aj⟩;have Cy:=(Aj.block w.heap.size z4va).trans Ee.o;have Ce:=(Aj.block (w.heap.size+1) z4va).trans Cd.o;have HBl3:Hid (Below w.heap.size w w3):=Below.trans Ie.o (Aj.mono z4va);have lr3:=A5 Ce;clear n0 n1 n2 n3 n4 n5 n6 n7 ln;obtain⟨n0,n1,n2,n3,n4,n5,n6,n7,ln⟩:=B1 Cy;have fi3:=Bd Cy;have HI3:=A0 Cy;have C3:=A0 Ce;clear Aj Cy Ce HSu;unfold KP at Aa;go_wp2_with fail
 refine(Aa.o _ HBl3.o).mono ?_;rintro e w4 ⟨rfl,B8⟩;have hi4:=(B8.block w.heap.size z4va).trans HI3.o;have Fy:=(B8.block (w.heap.size+1) z4va).trans C3.o;have HBl4:Hid (Below w.heap.size w w4):=Below.trans HBl3.o (B8.mono z4va);have lr4:=A5 Fy;clear n0 n1 n2 n3 n4 n5 n6 n7 ln;obtain⟨n0,n1,n2,n3,n4,n5,n6,n7,ln⟩:=B1 hi4;have fi4:=Bd hi4;have HI4:=A0 hi4;have Cu:=A0 Fy;clear B8 hi4 Fy Aa;have r0:=A2 Cu.o 0 _ rfl;have r1:=A2 Cu.o 1 _ rfl;have r2:=A2 Cu.o 2 _ rfl;have r3:=A2 Cu.o 3 _ rfl;have r4:=A2 Cu.o 4 _ rfl;have r5:=A2 Cu.o 5 _ rfl;have r6:=A2 Cu.o 6 _ rfl;have r7:=A2 Cu.o 7 _ rfl;have fr:=Bd Cu.o;have lr:=lr4;have HO:=A0 (Ss i.op w4);go_wp2_with fail
 refine HO.o.mono ?_;rintro e w9 ⟨rfl,Dq⟩;rw[Dq];clear Dq w9;go_wp2;refine bodyPost_ret (v:=.agg #[.int .i64 ((Ge i.op):Nat),.int .i64 i.arg,.int .i64 (i.line:Nat),.int .i64 (i.v.k:Nat),.bool i.v.y,.int .i64 i.v.n,.string ⟨i.v.t.toArray⟩,.pointer none]) z51a rfl ⟨by rw[HQ.o],?_⟩;have hfin:=HBl4.o;exact z1fa
theorem Aip(h:E9 D kb pb P ps pa pc w ab va vc)(i:Ac)(ha:0<=i.arg)(hw:(Fm ps i).whole=false)(ho:i.op=23)(hc:(E7 ab).sure 2=false)(h2:Fc ab 2=false):Calls Tryz.prog 292 #[.pointer (some ⟨kb,0,none⟩),Ab i] w (KP w (Ab (quick ps ab i))):=by
 have HQ:Hid (quick ps ab i=⟨i.op,i.arg,i.line,i.v⟩):=by
  exact z28a
 have t12:((i.op:Int)==12)=false:=by rw[ho];rfl
 have t23:((i.op:Int)==23)=true:=by rw[ho];rfl
 have HTp:=A0 (fun(W:World) (hb:Below w.heap.size w W)=>Sk (h.below hb).st z5oa (E7 ab) rfl);have HSu:=A0 (fun(W:World)=>Mm (E7 ab) 2 W);rw[hc]at HSu;unfold B9 at HSu;have Aa:=A0 (fun(W:World) (hb:Below w.heap.size w W)=>L9 (h.below hb) 2);rw[h2]at Aa;have HC:=A0 (fun(W:World) (hb:Below w.heap.size w W)=>M6 (h.below hb) i ha);have lb:=A5 h.st.blk;have HM:=A0 h;have hfew:=h.Br.1;clear h ha;unfold Ab at *;unfold KP at HC;unfold B9 at HC;clear ho hc h2 HM;generalize E7 ab=y at *;generalize Fm ps i=x at *;go_enter Tryz.func292,Tryz.ntmps292;go_wp2_with fail
 refine(HC.o _ (E0 _ _ _)).mono ?_;rintro e w1 ⟨rfl,A1⟩;have At:=(A1.block (w.heap.size+1) z50a).trans (I6 _ _ _ _);have Ad:=(A1.block w.heap.size z4ya).trans (alloc_old (heap_alloc_new w _));have A4:Hid (Below w.heap.size w w1):=(E0 _ _ _).trans (A1.mono z4ya);have E6:=A4.o.size;have lr1:=A5 At;have Bo:=A0 Ad;have F6:=A0 At;obtain⟨n0,n1,n2,n3,n4,n5,n6,n7,ln⟩:=B1 Ad;clear A1 At Ad HC;go_wp2_with fail
 refine(HTp.o _ (Below.alloc A4.o E6 _)).mono ?_;rintro e w2 ⟨rfl,A8⟩;have Aw:=(A8.block w.heap.size z4ya).trans (alloc_old Bo.o);have B5:=(A8.block (w.heap.size+1) z4ya).trans (alloc_old F6.o);have Ie:Hid (Below w.heap.size w w2):=Below.trans (Below.alloc A4.o E6 _) (A8.mono z4ya);have lr2:=A5 B5;clear n0 n1 n2 n3 n4 n5 n6 n7 ln;obtain⟨n0,n1,n2,n3,n4,n5,n6,n7,ln⟩:=B1 Aw;have fi2:=Bd Aw;have Ee:=A0 Aw;have Cd:=A0 B5;clear A8 Aw B5 HTp;go_wp2_with fail
 refine(HSu.o _).mono ?_;rintro e w3 ⟨rfl,Aj⟩;have Cy:=(Aj.block w.heap.size z4va).trans Ee.o;have Ce:=(Aj.block (w.heap.size+1) z4va).trans Cd.o;have HBl3:Hid (Below w.heap.size w w3):=Below.trans Ie.o (Aj.mono z4va);have lr3:=A5 Ce;clear n0 n1 n2 n3 n4 n5 n6 n7 ln;obtain⟨n0,n1,n2,n3,n4,n5,n6,n7,ln⟩:=B1 Cy;have fi3:=Bd Cy;have HI3:=A0 Cy;have C3:=A0 Ce;clear Aj Cy Ce HSu;unfold KP at Aa;go_wp2_with fail
 refine(Aa.o _ HBl3.o).mono ?_;rintro e w4 ⟨rfl,B8⟩;have hi4:=(B8.block w.heap.size z4va).trans HI3.o;have Fy:=(B8.block (w.heap.size+1) z4va).trans C3.o;have HBl4:Hid (Below w.heap.size w w4):=Below.trans HBl3.o (B8.mono z4va);have lr4:=A5 Fy;clear n0 n1 n2 n3 n4 n5 n6 n7 ln;obtain⟨n0,n1,n2,n3,n4,n5,n6,n7,ln⟩:=B1 hi4;have fi4:=Bd hi4;have HI4:=A0 hi4;have Cu:=A0 Fy;clear B8 hi4 Fy Aa;have r0:=A2 Cu.o 0 _ rfl;have r1:=A2 Cu.o 1 _ rfl;have r2:=A2 Cu.o 2 _ rfl;have r3:=A2 Cu.o 3 _ rfl;have r4:=A2 Cu.o 4 _ rfl;have r5:=A2 Cu.o 5 _ rfl;have r6:=A2 Cu.o 6 _ rfl;have r7:=A2 Cu.o 7 _ rfl;have fr:=Bd Cu.o;have lr:=lr4;go_wp2;refine bodyPost_ret (v:=.agg #[.int .i64 (i.op:Nat),.int .i64 i.arg,.int .i64 (i.line:Nat),.int .i64 (i.v.k:Nat),.bool i.v.y,.int .i64 i.v.n,.string ⟨i.v.t.toArray⟩,.pointer none]) z51a rfl ⟨by rw[HQ.o],?_⟩;have hfin:=HBl4.o;exact z1sa
theorem z4na {P:Prop} (h:P:=by
  show quick ps ab i=_;unfold quick;rw[if_neg (by rw[hw];simp)];simp[h12,h23,h2]):P:=h
theorem Ais(h:E9 D kb pb P ps pa pc w ab va vc)(i:Ac)(ha:0<=i.arg)(hw:(Fm ps i).whole=false)(h12:i.op≠12)(h23:i.op≠23)(h2:Fc ab 2=true):Calls Tryz.prog 292 #[.pointer (some ⟨kb,0,none⟩),Ab i] w (KP w (Ab (quick ps ab i))):=by
 have HQ:Hid (quick ps ab i=⟨(Ge i.op),i.arg,i.line,i.v⟩):=by
  exact z4na
 have t12:((i.op:Int)==12)=false:=by rw[beq_eq_false_iff_ne];omega
 have t23:((i.op:Int)==23)=false:=by rw[beq_eq_false_iff_ne];omega
 have Aa:=A0 (fun(W:World) (hb:Below w.heap.size w W)=>L9 (h.below hb) 2);rw[h2]at Aa;have HC:=A0 (fun(W:World) (hb:Below w.heap.size w W)=>M6 (h.below hb) i ha);have lb:=A5 h.st.blk;have HM:=A0 h;have hfew:=h.Br.1;clear h ha;unfold Ab at *;unfold KP at HC;unfold B9 at HC;clear h12 h23 h2 HM;generalize Fm ps i=x at *;go_enter Tryz.func292,Tryz.ntmps292;go_wp2_with fail
 refine(HC.o _ (E0 _ _ _)).mono ?_;rintro e w1 ⟨rfl,A1⟩;have At:=(A1.block (w.heap.size+1) z50a).trans (I6 _ _ _ _);have Ad:=(A1.block w.heap.size z4ya).trans (alloc_old (heap_alloc_new w _));have A4:Hid (Below w.heap.size w w1):=(E0 _ _ _).trans (A1.mono z4ya);have E6:=A4.o.size;have lr1:=A5 At;have Bo:=A0 Ad;have F6:=A0 At;obtain⟨n0,n1,n2,n3,n4,n5,n6,n7,ln⟩:=B1 Ad;clear A1 At Ad HC;unfold KP at Aa;go_wp2_with fail
 refine(Aa.o _ (Below.alloc A4.o E6 _)).mono ?_;rintro e w2 ⟨rfl,A8⟩;have Aw:=(A8.block w.heap.size z4ya).trans (alloc_old Bo.o);have B5:=(A8.block (w.heap.size+1) z4ya).trans (alloc_old F6.o);have Ie:Hid (Below w.heap.size w w2):=Below.trans (Below.alloc A4.o E6 _) (A8.mono z4ya);have lr2:=A5 B5;clear n0 n1 n2 n3 n4 n5 n6 n7 ln;obtain⟨n0,n1,n2,n3,n4,n5,n6,n7,ln⟩:=B1 Aw;have fi2:=Bd Aw;have Ee:=A0 Aw;have Cd:=A0 B5;clear A8 Aw B5 Aa;have r0:=A2 Cd.o 0 _ rfl;have r1:=A2 Cd.o 1 _ rfl;have r2:=A2 Cd.o 2 _ rfl;have r3:=A2 Cd.o 3 _ rfl;have r4:=A2 Cd.o 4 _ rfl;have r5:=A2 Cd.o 5 _ rfl;have r6:=A2 Cd.o 6 _ rfl;have r7:=A2 Cd.o 7 _ rfl;have fr:=Bd Cd.o;have lr:=lr2;have HO:=A0 (Ss i.op w2);go_wp2_with fail
 refine HO.o.mono ?_;rintro e w9 ⟨rfl,Dq⟩;rw[Dq];clear Dq w9;go_wp2;refine bodyPost_ret (v:=.agg #[.int .i64 ((Ge i.op):Nat),.int .i64 i.arg,.int .i64 (i.line:Nat),.int .i64 (i.v.k:Nat),.bool i.v.y,.int .i64 i.v.n,.string ⟨i.v.t.toArray⟩,.pointer none]) z51a rfl ⟨by rw[HQ.o],?_⟩;have hfin:=Ie.o;exact z1fa
theorem Air(h:E9 D kb pb P ps pa pc w ab va vc)(i:Ac)(ha:0<=i.arg)(hw:(Fm ps i).whole=false)(h12:i.op≠12)(h23:i.op≠23)(h2:Fc ab 2=false):Calls Tryz.prog 292 #[.pointer (some ⟨kb,0,none⟩),Ab i] w (KP w (Ab (quick ps ab i))):=by
 have HQ:Hid (quick ps ab i=⟨i.op,i.arg,i.line,i.v⟩):=by
  exact z4na
 have t12:((i.op:Int)==12)=false:=by rw[beq_eq_false_iff_ne];omega
 have t23:((i.op:Int)==23)=false:=by rw[beq_eq_false_iff_ne];omega
 have Aa:=A0 (fun(W:World) (hb:Below w.heap.size w W)=>L9 (h.below hb) 2);rw[h2]at Aa;have HC:=A0 (fun(W:World) (hb:Below w.heap.size w W)=>M6 (h.below hb) i ha);have lb:=A5 h.st.blk;have HM:=A0 h;have hfew:=h.Br.1;clear h ha;unfold Ab at *;unfold KP at HC;unfold B9 at HC;clear h12 h23 h2 HM;generalize Fm ps i=x at *;go_enter Tryz.func292,Tryz.ntmps292;go_wp2_with fail
 refine(HC.o _ (E0 _ _ _)).mono ?_;rintro e w1 ⟨rfl,A1⟩;have At:=(A1.block (w.heap.size+1) z50a).trans (I6 _ _ _ _);have Ad:=(A1.block w.heap.size z4ya).trans (alloc_old (heap_alloc_new w _));have A4:Hid (Below w.heap.size w w1):=(E0 _ _ _).trans (A1.mono z4ya);have E6:=A4.o.size;have lr1:=A5 At;have Bo:=A0 Ad;have F6:=A0 At;obtain⟨n0,n1,n2,n3,n4,n5,n6,n7,ln⟩:=B1 Ad;clear A1 At Ad HC;unfold KP at Aa;go_wp2_with fail
 refine(Aa.o _ (Below.alloc A4.o E6 _)).mono ?_;rintro e w2 ⟨rfl,A8⟩;have Aw:=(A8.block w.heap.size z4ya).trans (alloc_old Bo.o);have B5:=(A8.block (w.heap.size+1) z4ya).trans (alloc_old F6.o);have Ie:Hid (Below w.heap.size w w2):=Below.trans (Below.alloc A4.o E6 _) (A8.mono z4ya);have lr2:=A5 B5;clear n0 n1 n2 n3 n4 n5 n6 n7 ln;obtain⟨n0,n1,n2,n3,n4,n5,n6,n7,ln⟩:=B1 Aw;have fi2:=Bd Aw;have Ee:=A0 Aw;have Cd:=A0 B5;clear A8 Aw B5 Aa;have r0:=A2 Cd.o 0 _ rfl;have r1:=A2 Cd.o 1 _ rfl;have r2:=A2 Cd.o 2 _ rfl;have r3:=A2 Cd.o 3 _ rfl;have r4:=A2 Cd.o 4 _ rfl;have r5:=A2 Cd.o 5 _ rfl;have r6:=A2 Cd.o 6 _ rfl;have r7:=A2 Cd.o 7 _ rfl;have fr:=Bd Cd.o;have lr:=lr2;go_wp2;refine bodyPost_ret (v:=.agg #[.int .i64 (i.op:Nat),.int .i64 i.arg,.int .i64 (i.line:Nat),.int .i64 (i.v.k:Nat),.bool i.v.y,.int .i64 i.v.n,.string ⟨i.v.t.toArray⟩,.pointer none]) z51a rfl ⟨by rw[HQ.o],?_⟩;have hfin:=Ie.o;exact z1sa
theorem Afe(h:E9 D kb pb P ps pa pc w ab va vc)(i:Ac)(ha:0<=i.arg):Calls Tryz.prog 292 #[.pointer (some ⟨kb,0,none⟩),Ab i] w (KP w (Ab (quick ps ab i))):=by
 cases hw:(Fm ps i).whole
 ·cases h2:Fc ab 2
  ·by_cases h12:i.op=12
   ·cases h3:Fc ab 3
    ·exact Aig h i ha hw h12 h3 h2
    ·exact Aik h i ha hw h12 h3 h2
   ·by_cases h23:i.op=23
    ·cases hc:(E7 ab).sure 2
     ·exact Aip h i ha hw h23 hc h2
     ·exact Aii h i ha hw h23 hc h2
    ·exact Air h i ha hw h12 h23 h2
  ·by_cases h12:i.op=12
   ·cases h3:Fc ab 3
    ·exact Aih h i ha hw h12 h3 h2
    ·exact Ail h i ha hw h12 h3 h2
   ·by_cases h23:i.op=23
    ·cases hc:(E7 ab).sure 2
     ·exact Aiq h i ha hw h23 hc h2
     ·exact Aij h i ha hw h23 hc h2
    ·exact Ais h i ha hw h12 h23 h2
 ·exact Aim h i ha hw
end
section
set_option maxRecDepth 100000
open Go.RowKit
open Go.Deep (BT)
variable {w:World}{b:Cx}{ia:Option Addr}{kc ic:Nat}
theorem z2oa {P:Prop} (h:P:=by
  go_enter Tryz.func275,Tryz.ntmps275;go_wp2;refine bodyPost_ret (v:=B9 (En)) (by simp[results,Tryz.results275,go_sem,B9,En,Ag]) rfl ⟨rfl,?_⟩;exact E0 _ _ _):P:=h
theorem A93{w:World}{b:Cx}{ka ia:Option Addr}{kc ic:Nat}(i:Nat)(hi:b.kinds.length<=i):Calls Tryz.prog 275 #[.agg #[.int .i64 b.fn,.int .i64 b.after,.slice ka b.kinds.length kc,.slice ia b.ints.length ic],.int .i64 (i:Nat)] w (KP w (B9 En)):=by
 have t0:((b.kinds.length:Nat):Int)<=((i:Nat):Int):=by omega
 exact z2oa
theorem z23a {P:Prop} (h:P:=by
  exact J5 D9.o z6qa _ _ _ _ _ _ _):P:=h
theorem z5ba {P:Prop} (h:P:=by simp[results,Tryz.results275,go_sem,B9,Dm,r0,r1,r2,r3,r4,r5,r6]):P:=h
theorem A8u(i:Nat){g o:Nat}{k:Int}(hg:g<w.heap.size)(hc:w.cell? ⟨g,o+i,none⟩=some (.int .i64 k))(hi:i<b.kinds.length)(hk:k=1):Calls Tryz.prog 275 #[.agg #[.int .i64 b.fn,.int .i64 b.after,.slice (some ⟨g,o,none⟩) b.kinds.length kc,.slice ia b.ints.length ic],.int .i64 (i:Nat)] w (KP w (B9 (Dm 2))):=by
 subst hk;have t0:¬((b.kinds.length:Nat):Int)<=((i:Nat):Int):=by omega
 have HC:=A0 (fun(W:World)=>Mh 2 W);unfold B9 Dm at HC;go_enter Tryz.func275,Tryz.ntmps275;go_wp2_with fail
 refine(HC.o _).mono ?_;rintro e w1 ⟨rfl,A1⟩;have Ao:=(A1.block (w.heap.size+1) z50a).trans (I6 _ _ _ _);have D9:Hid (Below w.heap.size w w1):=(E0 _ _ _).trans (A1.mono z4ya);have r0:=A2 Ao 0 _ rfl;have r1:=A2 Ao 1 _ rfl;have r2:=A2 Ao 2 _ rfl;have r3:=A2 Ao 3 _ rfl;have r4:=A2 Ao 4 _ rfl;have r5:=A2 Ao 5 _ rfl;have r6:=A2 Ao 6 _ rfl;have fr:=Bd Ao;have lr:=A5 Ao;clear A1 Ao;go_wp2;refine bodyPost_ret (v:=B9 (Dm 2)) z5ba rfl ⟨rfl,?_⟩;exact z23a
theorem A8v(i:Nat){g o:Nat}{k:Int}(hg:g<w.heap.size)(hc:w.cell? ⟨g,o+i,none⟩=some (.int .i64 k))(hi:i<b.kinds.length)(hk:k=2):Calls Tryz.prog 275 #[.agg #[.int .i64 b.fn,.int .i64 b.after,.slice (some ⟨g,o,none⟩) b.kinds.length kc,.slice ia b.ints.length ic],.int .i64 (i:Nat)] w (KP w (B9 (Dm 3))):=by
 subst hk;have t0:¬((b.kinds.length:Nat):Int)<=((i:Nat):Int):=by omega
 have HC:=A0 (fun(W:World)=>Mh 3 W);unfold B9 Dm at HC;go_enter Tryz.func275,Tryz.ntmps275;go_wp2_with fail
 refine(HC.o _).mono ?_;rintro e w1 ⟨rfl,A1⟩;have Ao:=(A1.block (w.heap.size+1) z50a).trans (I6 _ _ _ _);have D9:Hid (Below w.heap.size w w1):=(E0 _ _ _).trans (A1.mono z4ya);have r0:=A2 Ao 0 _ rfl;have r1:=A2 Ao 1 _ rfl;have r2:=A2 Ao 2 _ rfl;have r3:=A2 Ao 3 _ rfl;have r4:=A2 Ao 4 _ rfl;have r5:=A2 Ao 5 _ rfl;have r6:=A2 Ao 6 _ rfl;have fr:=Bd Ao;have lr:=A5 Ao;clear A1 Ao;go_wp2;refine bodyPost_ret (v:=B9 (Dm 3)) z5ba rfl ⟨rfl,?_⟩;exact z23a
theorem A8w(i:Nat){g o:Nat}{k:Int}(hg:g<w.heap.size)(hc:w.cell? ⟨g,o+i,none⟩=some (.int .i64 k))(hi:i<b.kinds.length)(hk:k=3):Calls Tryz.prog 275 #[.agg #[.int .i64 b.fn,.int .i64 b.after,.slice (some ⟨g,o,none⟩) b.kinds.length kc,.slice ia b.ints.length ic],.int .i64 (i:Nat)] w (KP w (B9 (Dm 1))):=by
 subst hk;have t0:¬((b.kinds.length:Nat):Int)<=((i:Nat):Int):=by omega
 have HC:=A0 (fun(W:World)=>Mh 1 W);unfold B9 Dm at HC;go_enter Tryz.func275,Tryz.ntmps275;go_wp2_with fail
 refine(HC.o _).mono ?_;rintro e w1 ⟨rfl,A1⟩;have Ao:=(A1.block (w.heap.size+1) z50a).trans (I6 _ _ _ _);have D9:Hid (Below w.heap.size w w1):=(E0 _ _ _).trans (A1.mono z4ya);have r0:=A2 Ao 0 _ rfl;have r1:=A2 Ao 1 _ rfl;have r2:=A2 Ao 2 _ rfl;have r3:=A2 Ao 3 _ rfl;have r4:=A2 Ao 4 _ rfl;have r5:=A2 Ao 5 _ rfl;have r6:=A2 Ao 6 _ rfl;have fr:=Bd Ao;have lr:=A5 Ao;clear A1 Ao;go_wp2;refine bodyPost_ret (v:=B9 (Dm 1)) z5ba rfl ⟨rfl,?_⟩;exact z23a
theorem A8y(i:Nat){g o:Nat}{k:Int}(hg:g<w.heap.size)(hc:w.cell? ⟨g,o+i,none⟩=some (.int .i64 k))(hi:i<b.kinds.length)(hk:k=5):Calls Tryz.prog 275 #[.agg #[.int .i64 b.fn,.int .i64 b.after,.slice (some ⟨g,o,none⟩) b.kinds.length kc,.slice ia b.ints.length ic],.int .i64 (i:Nat)] w (KP w (B9 (Dm 4))):=by
 subst hk;have t0:¬((b.kinds.length:Nat):Int)<=((i:Nat):Int):=by omega
 have HC:=A0 (fun(W:World)=>Mh 4 W);unfold B9 Dm at HC;go_enter Tryz.func275,Tryz.ntmps275;go_wp2_with fail
 refine(HC.o _).mono ?_;rintro e w1 ⟨rfl,A1⟩;have Ao:=(A1.block (w.heap.size+1) z50a).trans (I6 _ _ _ _);have D9:Hid (Below w.heap.size w w1):=(E0 _ _ _).trans (A1.mono z4ya);have r0:=A2 Ao 0 _ rfl;have r1:=A2 Ao 1 _ rfl;have r2:=A2 Ao 2 _ rfl;have r3:=A2 Ao 3 _ rfl;have r4:=A2 Ao 4 _ rfl;have r5:=A2 Ao 5 _ rfl;have r6:=A2 Ao 6 _ rfl;have fr:=Bd Ao;have lr:=A5 Ao;clear A1 Ao;go_wp2;refine bodyPost_ret (v:=B9 (Dm 4)) z5ba rfl ⟨rfl,?_⟩;exact z23a
theorem A8x(i:Nat){g o:Nat}{k:Int}(hg:g<w.heap.size)(hc:w.cell? ⟨g,o+i,none⟩=some (.int .i64 k))(hi:i<b.kinds.length)(hk:k=4):Calls Tryz.prog 275 #[.agg #[.int .i64 b.fn,.int .i64 b.after,.slice (some ⟨g,o,none⟩) b.kinds.length kc,.slice ia b.ints.length ic],.int .i64 (i:Nat)] w (KP w (B9 (Jx Ag))):=by
 subst hk;have t0:¬((b.kinds.length:Nat):Int)<=((i:Nat):Int):=by omega
 have HC:=A0 (fun(W:World)=>Xi Ag W);unfold B9 Jx Ag at HC;go_enter Tryz.func275,Tryz.ntmps275;go_wp2_with fail
 refine(HC.o _).mono ?_;rintro e w1 ⟨rfl,A1⟩;have Ao:=(A1.block (w.heap.size+1) z50a).trans (I6 _ _ _ _);have D9:Hid (Below w.heap.size w w1):=(E0 _ _ _).trans (A1.mono z4ya);have r0:=A2 Ao 0 _ rfl;have r1:=A2 Ao 1 _ rfl;have r2:=A2 Ao 2 _ rfl;have r3:=A2 Ao 3 _ rfl;have r4:=A2 Ao 4 _ rfl;have r5:=A2 Ao 5 _ rfl;have r6:=A2 Ao 6 _ rfl;have fr:=Bd Ao;have lr:=A5 Ao;clear A1 Ao;go_wp2;refine bodyPost_ret (v:=B9 (Jx Ag)) (by simp[results,Tryz.results275,go_sem,B9,Jx,Ag,r0,r1,r2,r3,r4,r5,r6]) rfl ⟨rfl,?_⟩;exact z23a
theorem A8z(i:Nat){g o:Nat}{k:Int}(hg:g<w.heap.size)(hc:w.cell? ⟨g,o+i,none⟩=some (.int .i64 k))(hi:i<b.kinds.length)(hk:k=6)(n:Int)(ha:∀W:World,Below w.heap.size w W->Calls Tryz.prog 291 #[.slice ia b.ints.length ic,.int .i64 (i:Nat)] W fun e w'=>e=.returned (.int .i64 n)/\w'=W):Calls Tryz.prog 275 #[.agg #[.int .i64 b.fn,.int .i64 b.after,.slice (some ⟨g,o,none⟩) b.kinds.length kc,.slice ia b.ints.length ic],.int .i64 (i:Nat)] w (KP w (B9 (Jx (ofInt n)))):=by
 subst hk;have t0:¬((b.kinds.length:Nat):Int)<=((i:Nat):Int):=by omega
 have HA:=A0 ha;have HO:=A0 (fun(W:World)=>Un n W);have HC:=A0 (fun(W:World)=>Xi (ofInt n) W);unfold B9 Jx ofInt at HC;clear ha;go_enter Tryz.func275,Tryz.ntmps275;go_wp2_with fail
 refine(HA.o _ (E0 _ _ _)).mono ?_;rintro e w9 ⟨rfl,Dq⟩;rw[Dq];clear Dq w9;go_wp2_with fail
 refine(HO.o _).mono ?_;rintro e w2 ⟨rfl,A8⟩;have F1:=(A8.block (w.heap.size+1) z50a).trans (I6 _ _ _ _);have Aa:Hid (Below w.heap.size w w2):=(E0 _ _ _).trans (A8.mono z4ya);have ls2:=Aa.o.size;have Gy:=A0 F1;have lr2:=A5 F1;clear A8 F1;go_wp2_with fail
 refine(HC.o _).mono ?_;rintro e w1 ⟨rfl,A1⟩;have Ao:=(A1.block (w.heap.size+1) lr2).trans Gy.o;have D9:Hid (Below w.heap.size w w1):=Aa.o.trans (A1.mono ls2);have r0:=A2 Ao 0 _ rfl;have r1:=A2 Ao 1 _ rfl;have r2:=A2 Ao 2 _ rfl;have r3:=A2 Ao 3 _ rfl;have r4:=A2 Ao 4 _ rfl;have r5:=A2 Ao 5 _ rfl;have r6:=A2 Ao 6 _ rfl;have fr:=Bd Ao;have lr:=A5 Ao;clear A1 Ao;go_wp2;refine bodyPost_ret (v:=B9 (Jx (ofInt n))) (by simp[results,Tryz.results275,go_sem,B9,Jx,ofInt,r0,r1,r2,r3,r4,r5,r6]) rfl ⟨rfl,?_⟩;exact z23a
theorem A90(i:Nat){g o:Nat}{k:Int}(hg:g<w.heap.size)(hc:w.cell? ⟨g,o+i,none⟩=some (.int .i64 k))(hi:i<b.kinds.length)(h1:k≠1)(h2:k≠2)(h3:k≠3)(h4:k≠4)(h5:k≠5)(h6:k≠6):Calls Tryz.prog 275 #[.agg #[.int .i64 b.fn,.int .i64 b.after,.slice (some ⟨g,o,none⟩) b.kinds.length kc,.slice ia b.ints.length ic],.int .i64 (i:Nat)] w (KP w (B9 En)):=by
 have t0:¬((b.kinds.length:Nat):Int)<=((i:Nat):Int):=by omega
 have t1:(k==1)=false:=by rw[beq_eq_false_iff_ne];exact h1
 have t2:(k==2)=false:=by rw[beq_eq_false_iff_ne];exact h2
 have t3:(k==3)=false:=by rw[beq_eq_false_iff_ne];exact h3
 have t4:(k==4)=false:=by rw[beq_eq_false_iff_ne];exact h4
 have t5:(k==5)=false:=by rw[beq_eq_false_iff_ne];exact h5
 have t6:(k==6)=false:=by rw[beq_eq_false_iff_ne];exact h6
 clear h1 h2 h3 h4 h5 h6;exact z2oa
theorem A8t{K:Nat->Prop}{w:World}{b:Cx}{ka ia:Option Addr}{kc ic:Nat}(i:Nat)(hk:Lg K w (.slice ka b.kinds.length kc) (ints b.kinds))(hi:Lg K w (.slice ia b.ints.length ic) (ints b.ints)):Calls Tryz.prog 275 #[.agg #[.int .i64 b.fn,.int .i64 b.after,.slice ka b.kinds.length kc,.slice ia b.ints.length ic],.int .i64 (i:Nat)] w (KP w (B9 (Jm b i))):=by
 unfold Jm;rcases Nat.lt_or_ge i b.kinds.length with hl|hl
 ·rw[List.getElem?_eq_getElem hl];obtain⟨a,c,e,hk⟩:=hk;injection e with e1 e2 e3;subst e1 e3;obtain⟨g,o,rfl,_,hg,hcell⟩:=hk (by rw[ints,List.length_map];omega);have hc:=hcell i (.int .i64 b.kinds[i]) (by simp[ints,hl]);dsimp only;by_cases h1:b.kinds[i]=1
  ·rw[if_pos h1];exact A8u i hg hc hl h1
  rw[if_neg h1];by_cases h2:b.kinds[i]=2
  ·rw[if_pos h2];exact A8v i hg hc hl h2
  rw[if_neg h2];by_cases h3:b.kinds[i]=3
  ·rw[if_pos h3];exact A8w i hg hc hl h3
  rw[if_neg h3];by_cases h4:b.kinds[i]=4
  ·rw[if_pos h4];exact A8x i hg hc hl h4
  rw[if_neg h4];by_cases h5:b.kinds[i]=5
  ·rw[if_pos h5];exact A8y i hg hc hl h5
  rw[if_neg h5];by_cases h6:b.kinds[i]=6
  ·rw[if_pos h6];refine A8z i hg hc hl h6 _ (fun W hb=>?_);rcases Nat.lt_or_ge i b.ints.length with Gs|Gs
   ·rw[List.getElem?_eq_getElem Gs];obtain⟨a2,c2,e2,hi⟩:=hi;injection e2 with e1 e2 e3;subst e1 e3;obtain⟨g2,o2,rfl,_,Hv,hcell2⟩:=hi (by rw[ints,List.length_map];omega);exact Aem W g2 o2 b.ints.length ic i b.ints[i] Gs ((World.cell?_of_block (hb.block g2 Hv)).trans (hcell2 i _ (by simp[ints,Gs])))
   ·rw[List.getElem?_eq_none Gs];exact Aen W ia ic i Gs
  rw[if_neg h6];exact A90 i hg hc hl h1 h2 h3 h4 h5 h6
 ·rw[List.getElem?_eq_none hl];exact A93 i hl
end
end Go.Proofs.YtjdlndhfaaolaaaGreatDoor
