import Derived.Test.YtjdlndhfaaolaaaGreatDoorQ14
import Derived.Test.YtjdlndhfaaolaaaGreatDoorQ35
import Derived.Test.YtjdlndhfaaolaaaGreatDoorQ37
set_option maxHeartbeats 20000000
namespace Go.Proofs.YtjdlndhfaaolaaaGreatDoor
section
set_option maxRecDepth 100000
open Go.RowKit
open Go.Deep (BT)
structure Ev where
 a:Option Addr
 n:Nat
 c:Nat
 pc:Nat
 base:Int
variable {b o:Nat}{w:World}{cs:Array Value}{t:TypeId}{va:Option Addr}{vn vc:Nat}{xs:List Ev}
def Nd:Ev:=⟨none,0,0,0,0⟩
def Hv(x:Ev):List Value:=[.slice x.a x.n x.c,.int .i64 (x.pc:Nat),.int .i64 x.base]
theorem Ahs:(Tryz.prog.info? 165).map (fun i=>(i.zero,i.size,i.bytes))=some (some (.agg #[.slice none 0 0,.int .i64 0,.int .i64 0]),3,40):=by kernel_rfl
theorem V1(h:Dc 165 3 Hv b o w cs t va vn vc xs):Calls Tryz.prog 202 #[.pointer (some ⟨b,o,none⟩)] w fun e w'=>e=.returned (.int .i64 (xs.length:Nat))/\w'=w:=by
 have c:=Di h.blk h.cell;have lb:=A4 h.blk;have hv:vn=xs.length:=(C8 h.own).1;subst hv;clear h;go_enter Tryz.func202,Tryz.ntmps202;go_wp2;go_ret;exact⟨rfl,rfl⟩
theorem A4d(h:Dc 165 3 Hv b o w cs t va vn vc xs)(i:Nat)(hi:i<xs.length)(hb:xs.length<=1000000):Calls Tryz.prog 280 #[.pointer (some ⟨b,o,none⟩),.int .i64 (i:Nat)] w fun e w'=>e=.returned (.agg #[.slice (xs[i]).a (xs[i]).n (xs[i]).c,.int .i64 ((xs[i]).pc:Nat),.int .i64 (xs[i]).base])/\Below w.heap.size w w':=by
 have c:=Di h.blk h.cell;have lb:=A4 h.blk;have hv:vn=xs.length:=(C8 h.own).1;subst hv;obtain⟨g,rfl,hvn9,hcap,lg,hcell⟩:=Gj h.own (by omega);clear hvn9;have d0:=hcell (i*3+0) _ ((Cv (sz:=3) (fun _=>rfl) xs i 0 hi (by omega)).trans rfl);have d1:=hcell (i*3+1) _ ((Cv (sz:=3) (fun _=>rfl) xs i 1 hi (by omega)).trans rfl);have d2:=hcell (i*3+2) _ ((Cv (sz:=3) (fun _=>rfl) xs i 2 hi (by omega)).trans rfl);rw[Nat.add_zero]at d0;clear h hcell;generalize xs[i]=x at *;go_enter Tryz.func280,Tryz.ntmps280;go_wp2;refine bodyPost_ret (v:=.agg #[.slice x.a x.n x.c,.int .i64 (x.pc:Nat),.int .i64 x.base]) (by simp[results,Tryz.results280,go_sem]) rfl ⟨rfl,?_⟩;exact Below.alloc (Below.refl _ _) (Nat.le_refl _) _
theorem u5(h:Dc 165 3 Hv b o w cs t va vn vc xs)(i:Int)(hi:i<0\/(xs.length:Int)<=i):Calls Tryz.prog 280 #[.pointer (some ⟨b,o,none⟩),.int .i64 i] w fun e w'=>e=.returned (.agg #[.slice none 0 0,.int .i64 0,.int .i64 0])/\Below w.heap.size w w':=by
 have c:=Di h.blk h.cell;have lb:=A4 h.blk;have hv:vn=xs.length:=(C8 h.own).1;subst hv;clear h;by_cases h0:i<0
 ·clear hi;go_enter Tryz.func280,Tryz.ntmps280;go_wp2;refine bodyPost_ret (v:=.agg #[.slice none 0 0,.int .i64 0,.int .i64 0]) (by simp[results,Tryz.results280,go_sem]) rfl ⟨rfl,?_⟩;repeat (first|exact Below.refl _ _|refine Below.alloc ?_ (by simp) _|refine Below.setCell ?_ (by simp) _|refine Below.drew ?_)
 ·have h1:(xs.length:Int)<=i:=by omega
  clear hi;go_enter Tryz.func280,Tryz.ntmps280;go_wp2;refine bodyPost_ret (v:=.agg #[.slice none 0 0,.int .i64 0,.int .i64 0]) (by simp[results,Tryz.results280,go_sem]) rfl ⟨rfl,?_⟩;repeat (first|exact Below.refl _ _|refine Below.alloc ?_ (by simp) _|refine Below.setCell ?_ (by simp) _|refine Below.drew ?_)
theorem A4z(h:Dc 165 3 Hv b o w cs t va vn vc xs)(i:Int)(hb:xs.length<=1000000)(x:Ev)(hx:x=if i<0 then Nd else(xs[i.toNat]?).getD Nd):Calls Tryz.prog 280 #[.pointer (some ⟨b,o,none⟩),.int .i64 i] w fun e w'=>e=.returned (.agg #[.slice x.a x.n x.c,.int .i64 (x.pc:Nat),.int .i64 x.base])/\Below w.heap.size w w':=by
 by_cases h0:i<0
 ·rw[if_pos h0]at hx;subst hx;exact u5 h i (.inl h0)
 ·rw[if_neg h0]at hx;by_cases h1:i.toNat<xs.length
  ·rw[List.getElem?_eq_getElem h1]at hx;have:=A4d h i.toNat h1 hb;rw[show((i.toNat:Nat):Int)=i by omega]at this;rw[hx];exact this
  ·rw[List.getElem?_eq_none (by omega)]at hx;subst hx;exact u5 h i (.inr (by omega))
theorem Ajx(h:Dc 165 3 Hv b o w cs t va vn vc xs)(hn:xs.length<=900000)(u:Ev)(ho:o<cs.size):Calls Tryz.prog 203 #[.pointer (some ⟨b,o,none⟩),.agg #[.slice u.a u.n u.c,.int .i64 (u.pc:Nat),.int .i64 u.base]] w fun e w'=>e=.returned (.tuple #[])/\We 165 3 Hv b o w cs t va vn vc xs u w':=by
 have Gy:Dc 165 3 Hv b o (w.alloc (.cells #[.slice u.a u.n u.c,.int .i64 (u.pc:Nat),.int .i64 u.base] 165)) cs t va vn vc xs:=h.keep (fun g hg=>Below.heap_alloc _ _ _ hg);have Bi:Below w.heap.size w (w.alloc (.cells #[.slice u.a u.n u.c,.int .i64 (u.pc:Nat),.int .i64 u.base] 165)):=Below.alloc (Below.refl _ _) (Nat.le_refl _) _;have F3:=heap_alloc_new w (.cells #[.slice u.a u.n u.c,.int .i64 (u.pc:Nat),.int .i64 u.base] 165);have hlr:=Bs h.own;clear h;generalize hW:w.alloc (.cells #[.slice u.a u.n u.c,.int .i64 (u.pc:Nat),.int .i64 u.base] 165)=w0 at *;generalize hxb:w.heap.size=xb at *;have HW:=A0 hW;have HXb:=A0 hxb;have Ae:=A0 Bi;have hsz0:=Bi.size;clear hW Bi;have c:=Di Gy.blk Gy.cell;have lb:=A4 Gy.blk;have hv:vn=xs.length:=(C8 Gy.own).1;subst hv;have x0:=A2 F3 0 _ rfl;have x1:=A2 F3 1 _ rfl;have x2:=A2 F3 2 _ rfl;have lx:=A4 F3;have hown:w0.drew.ownsRow 0 165 3 (.slice va xs.length vc) xs.length (C6 Hv xs):=B3 Gy.own (fun _ _ _=>rfl);have HH:=A0 Gy;have HNe:=A0 Gy.ne;have HLr:=A0 hlr;clear Gy F3 hxb hlr;go_enter Tryz.func203,Tryz.ntmps203;go_wp2;rw[HW.o,HXb.o];go_region_law (refine Mr _ w0.heap.size #[.slice u.a u.n u.c,.int .i64 (u.pc:Nat),.int .i64 u.base] 165 (heap_alloc_new w0.drew _) rfl (.tmp 8) (.tmp 10) 161 rfl 0 3 40 _ Tryz.underlying161 Ahs rfl (by omega) (.slice va xs.length vc) xs.length (C6 Hv xs) rfl rfl (hown.alloc _) rfl (fun v hv=>by simp at hv;rcases hv with rfl|rfl|rfl <;> rfl) (by omega) (by omega) (Nat.zero_le _) ?_;intro g cap w1 F1 hgrow' hat' hg;have Fw:=Lx (World.grownBy_alloc w0.drew _ none) hgrow';have hgrow:w0.grownBy w1 (Value.slice va xs.length vc).ownBlock:=⟨Fw.os,Fw.tape,Fw.output,Fw.size,Fw.block⟩;clear Fw;have hat:(Value.slice va xs.length vc).ownBlock=some g\/w0.heap.size<=g:=hat'.imp id (fun e=>by rw[e];simp);have A1:=(hgrow.block b lb (fun e=>HNe.o e.symm)).trans HH.o.blk;have c1:=Di A1 HH.o.cell;have f1:=Bd A1;have Bt:=A4 A1;have A5:=A0 A1;have HOwn1:=A0 F1;have HGrow:=A0 hgrow;have HAt:=A0 hat;clear A1 F1 hgrow hat hgrow' hat')
 all_goals go_wp2
 all_goals go_end0
 all_goals
  have hgb:g≠b:=by
   rcases HAt.o with e|e
   ·intro e2;rw[e2]at e;exact HNe.o e
   ·omega
  refine⟨rfl,g,cap,⟨heap_set A5.o _,?_,?_,by simp only[Value.ownBlock,ne_eq,Option.some.injEq];exact hgb⟩,HAt.o.imp id (fun e=>by omega),⟨HGrow.o.os.trans Ae.o.os,HGrow.o.tape.trans Ae.o.tape,HGrow.o.output.trans Ae.o.output,by have:=HGrow.o.size;have:=HXb.o;simp[World.setCell];omega,fun k hk hkb hkr=>?_⟩⟩
  ·rw[Array.getElem?_setIfInBounds,if_pos rfl,if_pos ho]
  ·rw[List.length_append,Qq,Qa];exact B3 HOwn1.o (fun k hk _=>Below.heap_setCell _ _ _ _ (by simp only[Value.ownBlock,Option.some.injEq]at hk;show k≠b;omega))
  ·have hkx:=HXb.o;exact((Below.heap_setCell _ _ _ _ (by exact hkb)).trans (HGrow.o.block k (by omega) (fun e=>hkr e.symm))).trans (Ae.o.block k (by omega))
theorem Aah(h:Dc 165 3 Hv b o w cs t va vn vc xs)(m:Nat)(hm:m<=xs.length)(ho:o<cs.size):Calls Tryz.prog 249 #[.pointer (some ⟨b,o,none⟩),.int .i64 (m:Nat)] w fun e w'=>e=.returned (.tuple #[])/\Jl 165 3 Hv b o w cs t va vn vc xs m w':=by
 have c:=Di h.blk h.cell;have lb:=A4 h.blk;have hv:vn=xs.length:=(C8 h.own).1;subst hv;have fz:=Bd h.blk;have HH:=A0 h;have HNe:=A0 h.ne;by_cases he:m=xs.length
 ·subst he;clear h;go_enter Tryz.func249,Tryz.ntmps249;go_wp2;refine bodyPost_ret (v:=.tuple #[]) (by simp[results,Tryz.results249,go_sem]) rfl ⟨rfl,?_,Fm.refl _ _ _⟩;rw[N9 HH.o.cell,List.take_length];exact HH.o
 ·obtain⟨hl,⟨h2,h3⟩|⟨g,cap,cur,hv,_,hg,hcap',hmx,hsz,ht⟩⟩:=h.own
  ·omega
  ·injection hv with e1 e2 e3;subst e1 e3;have hgb:g≠b:=fun e=>h.ne (by rw[←e];rfl);have fg:=Bd hg;have lg:=A4 hg;have hzs:(.agg #[.slice none 0 0,.int .i64 0,.int .i64 0]:Value).cells.size=3:=rfl;have hmul:m*3+(xs.length-m)*3=xs.length*3:=by omega
   have hcs:∀j,j<(xs.length-m)*(.agg #[.slice none 0 0,.int .i64 0,.int .i64 0]:Value).cells.size->(w.cell? ⟨g,m*3+j,none⟩).isSome=true:=by
    intro j hj;rw[hzs]at hj;rw[cell_of_row w g (m*3+j) cur _ _ hg,Array.getElem?_eq_getElem (by omega)];rfl
   have hcl:∀ty,(Builtin.clear_ #[161] ty #[.slice (some ⟨g,m*3,none⟩) (xs.length-m) (vc-m)]).run Tryz.prog w=.ok (.tuple #[]) (w.setCells g (m*3) (Builtin.zeroCells (.agg #[.slice none 0 0,.int .i64 0,.int .i64 0]:Value).cells (xs.length-m)).toList):=
    fun ty=>Uw w 161 165 ty (.agg #[.slice none 0 0,.int .i64 0,.int .i64 0]) Tryz.underlying161 Tryz.zeroValue165 (by rw[hzs];omega) (fun v hv=>by simp[Value.cells]at hv;rcases hv with rfl|rfl|rfl <;> rfl) g (m*3) (xs.length-m) (vc-m) (by omega) hcs (fun j hj=>fg _)
   obtain⟨cur',k1,k2,k3⟩:=Of g 165 (0,0) (Builtin.zeroCells (.agg #[.slice none 0 0,.int .i64 0,.int .i64 0]:Value).cells (xs.length-m)).toList (m*3) cur w hg;obtain⟨f1,f2,f3,f4,f5⟩:=Lm g (Builtin.zeroCells (.agg #[.slice none 0 0,.int .i64 0,.int .i64 0]:Value).cells (xs.length-m)).toList (m*3) w;have A1:=(f5 b (fun e=>hgb e.symm)).trans h.blk;have Ht:=A0 k1;have HK3:=A0 (k3 (m*3) (Nat.le_refl _));have HF:=A0 (And.intro f1 (And.intro f2 (And.intro f3 (And.intro f4 f5))));have HT:=A0 ht;have HSz:=A0 (k2.trans hsz);have hlen9:=hcap';clear h hcs hg ht k1 k2 k3 f1 f2 f3 f5 hl hsz hzs hmul;have c1:=Di A1 HH.o.cell;have g1:=Bd A1;have Bt:=A4 A1;have A5:=A0 A1;clear A1 f4;generalize w.setCells g (m*3) (Builtin.zeroCells (.agg #[.slice none 0 0,.int .i64 0,.int .i64 0]:Value).cells (xs.length-m)).toList=w1 at *;go_enter Tryz.func249,Tryz.ntmps249;go_wp2;go_end0;obtain⟨p1,p2,p3,p4,p5⟩:=HF.o;have hset:∀k,k≠b->(w1.setCell ⟨b,o,none⟩ (.slice (some ⟨g,0,none⟩) m vc)).heap[k]?=w1.heap[k]?:=fun k hk=>Below.heap_setCell _ _ _ _ (by exact hk);refine⟨rfl,⟨heap_set A5.o _,?_,⟨?_,.inr ⟨g,vc,cur',?_,Nat.zero_le _,(hset g hgb).trans Ht.o,?_,hmx,HSz.o,?_⟩⟩,?_⟩,⟨p1,p2,p3,by simp[World.setCell];omega,fun k hk hkb hkr=>?_⟩⟩
   ·rw[Array.getElem?_setIfInBounds,if_pos rfl,if_pos ho]
   ·exact L7 (f:=Hv) (sz:=3) (fun _=>rfl) _
   ·rw[List.length_take,Nat.min_eq_left hm]
   ·rw[List.length_take,Nat.min_eq_left hm];omega
   ·rw[List.length_take,Nat.min_eq_left hm,HK3.o,←Us (sz:=3) (fun _=>rfl),←HT.o,List.take_take,Nat.min_eq_left (by omega)]
   ·simp only[Value.ownBlock,ne_eq,Option.some.injEq];exact hgb
   ·exact(hset k hkb).trans (p5 k (fun e=>hkr (by rw[e];rfl)))
theorem Afv(h:Dc 165 3 Hv b o w cs t va vn vc xs)(hb:xs.length<=1000000)(x:Ev)(hx:x=xs.getLastD Nd):Calls Tryz.prog 248 #[.pointer (some ⟨b,o,none⟩)] w fun e w'=>e=.returned (.agg #[.slice x.a x.n x.c,.int .i64 (x.pc:Nat),.int .i64 x.base])/\Below w.heap.size w w':=by
 have lb:=A4 h.blk;have HL:=A0 (V1 (h.keep (w':=w.alloc (.cells #[.slice none 0 0,.int .i64 0,.int .i64 0] 165)) (fun g hg=>Below.heap_alloc _ _ _ hg)));have HA:=A0 (A4z (h.keep (w':=w.alloc (.cells #[.slice none 0 0,.int .i64 0,.int .i64 0] 165)) (fun g hg=>Below.heap_alloc _ _ _ hg)) ((xs.length:Int)-1) hb x (by rw[hx];exact P5 _ xs));clear h hx;go_enter Tryz.func248,Tryz.ntmps248;go_wp2_with fail
 refine HL.o.mono ?_;rintro e w0 ⟨rfl,Cq⟩;subst Cq;go_wp2_with fail
 refine HA.o.mono ?_;rintro e w1 ⟨rfl,A1⟩;have hR:=Fq A1 (heap_alloc_new w (.cells #[.slice none 0 0,.int .i64 0,.int .i64 0] 165));have r0:=A2 hR 0 _ rfl;have r1:=A2 hR 1 _ rfl;have r2:=A2 hR 2 _ rfl;have fr:=Bd hR;have lr:=A4 hR;have A5:Hid (Below w.heap.size w w1):=(Below.alloc (Below.refl _ _) (Nat.le_refl _) _).trans (A1.mono (by simp));clear A1 hR HL HA;go_wp2;refine bodyPost_ret (v:=.agg #[.slice x.a x.n x.c,.int .i64 (x.pc:Nat),.int .i64 x.base]) (by simp[results,Tryz.results248,go_sem,r0,r1,r2]) rfl ⟨rfl,?_⟩;repeat (first|exact A5.o|refine Below.alloc ?_ (by simp) _|refine Below.setCell ?_ (by simp) _|refine Below.drew ?_)
theorem Agz(h:Dc 165 3 Hv b o w cs t va vn vc xs)(i:Int)(hi:i<0):Calls Tryz.prog 249 #[.pointer (some ⟨b,o,none⟩),.int .i64 i] w fun e w'=>e=.returned (.tuple #[])/\w'=w:=by
 have c:=Di h.blk h.cell;have lb:=A4 h.blk;have hv:vn=xs.length:=(C8 h.own).1;subst hv;clear h;go_enter Tryz.func249,Tryz.ntmps249;go_wp2;refine bodyPost_ret (v:=.tuple #[]) (by simp[results,Tryz.results249,go_sem]) rfl ⟨rfl,rfl⟩
theorem A7t(h:Dc 165 3 Hv b o w cs t va vn vc xs)(ho:o<cs.size):Calls Tryz.prog 249 #[.pointer (some ⟨b,o,none⟩),.int .i64 ((xs.length:Int)-1)] w fun e w'=>e=.returned (.tuple #[])/\Jl 165 3 Hv b o w cs t va vn vc xs (xs.length-1) w':=by
 by_cases h0:xs.length=0
 ·refine(Agz h _ (by omega)).mono ?_;rintro e w' ⟨rfl,rfl⟩;have hvn:vn=xs.length:=(C8 h.own).1;refine⟨rfl,?_,Fm.refl _ _ _⟩;have hx:xs=[]:=List.length_eq_zero_iff.1 h0;subst hx;simp only[List.length_nil]at hvn;subst hvn;show Dc _ _ _ b o w' (cs.setIfInBounds o (.slice va 0 vc)) t va 0 vc [];rw[N9 h.cell];exact h
 ·have:=Aah h (xs.length-1) (by omega) ho;rw[show(((xs.length-1:Nat)):Int)=(xs.length:Int)-1 by omega]at this;exact this
theorem Abp(h:Dc 165 3 Hv b o w cs t va vn vc xs)(hb:xs.length<=1000000)(ho:o<cs.size)(x:Ev)(hx:x=xs.getLastD Nd):Calls Tryz.prog 206 #[.pointer (some ⟨b,o,none⟩)] w fun e w'=>e=.returned (.agg #[.slice x.a x.n x.c,.int .i64 (x.pc:Nat),.int .i64 x.base])/\Jl 165 3 Hv b o w cs t va vn vc xs (xs.length-1) w':=by
 have lb:=A4 h.blk;have HKeep:=A0 (fun(W:World) (hW:Below w.heap.size w W)=>h.keep (w':=W) hW.block);have HT:=A0 (fun(W:World) (hs:Dc 165 3 Hv b o W cs t va vn vc xs)=>Afv hs hb x hx);have HL:=A0 (fun(W:World) (hs:Dc 165 3 Hv b o W cs t va vn vc xs)=>V1 hs);have HC:=A0 (fun(W:World) (hs:Dc 165 3 Hv b o W cs t va vn vc xs)=>A7t hs ho);have HRl:=A0 (Bs h.own);clear h hx;have Bi:Below w.heap.size w (w.alloc (.cells #[.slice none 0 0,.int .i64 0,.int .i64 0] 165)):=Below.alloc (Below.refl _ _) (Nat.le_refl _) _;have Ae:=A0 Bi;clear Bi;go_enter Tryz.func206,Tryz.ntmps206;go_wp2_with fail
 refine(HT.o _ (HKeep.o _ Ae.o)).mono ?_;rintro e w1 ⟨rfl,A1⟩;have hR1:=Fq A1 (heap_alloc_new w (.cells #[.slice none 0 0,.int .i64 0,.int .i64 0] 165));have A5:Hid (Below w.heap.size w w1):=Ae.o.trans (A1.mono (by simp));have F5:=A0 hR1;have Ea:=A4 hR1;clear A1 hR1;go_wp2_with fail
 have A8:Below w.heap.size w (w1.alloc (.cells #[.slice x.a x.n x.c,.int .i64 (x.pc:Nat),.int .i64 x.base] 165)):=Below.alloc A5.o (by omega) _;refine(HL.o _ (HKeep.o _ A8)).mono ?_;rintro e w2 ⟨rfl,G4⟩;have Ef:w2.heap[w.heap.size]?=some (.cells #[.slice none 0 0,.int .i64 0,.int .i64 0] 165 (0,0)):=by rw[G4];exact alloc_old F5.o
 have J8:w2.heap[w1.heap.size]?=some (.cells #[.slice x.a x.n x.c,.int .i64 (x.pc:Nat),.int .i64 x.base] 165 (0,0)):=by rw[G4];exact heap_alloc_new _ _
 have hB2:Below w.heap.size w w2:=by rw[G4];exact A8
 have C9:=A0 Ef;have I6:=A0 J8;have Aa:=A0 hB2;have F2:=A0 (HC.o _ (HKeep.o _ hB2));clear G4 A8 Ef J8 hB2;go_wp2_with fail
 refine F2.o.mono ?_;rintro e w3 ⟨rfl,Bx,hf3⟩;have hlw2:=A4 I6.o;have hrow:∀k,w.heap.size<=k->(Value.slice va vn vc).ownBlock≠some k:=fun k hk e=>by have:=HRl.o k e;omega
 have I3:=(hf3.block w.heap.size (A4 C9.o) (by omega) (hrow _ (Nat.le_refl _))).trans C9.o;have Ik:=(hf3.block w1.heap.size hlw2 (by omega) (hrow _ (by omega))).trans I6.o;have r0:=A2 I3 0 _ rfl;have q0:=A2 Ik 0 _ rfl;have r1:=A2 I3 1 _ rfl;have q1:=A2 Ik 1 _ rfl;have r2:=A2 I3 2 _ rfl;have q2:=A2 Ik 2 _ rfl;have fr:=Bd I3;have lr:=A4 I3;have lq:=A4 Ik;have Bh:=A0 Bx;have HF3:=A0 hf3;have HRow:=A0 hrow;clear Bx hf3 hrow I3 Ik hlw2;go_wp2;refine bodyPost_ret (v:=.agg #[.slice x.a x.n x.c,.int .i64 (x.pc:Nat),.int .i64 x.base]) (by simp[results,Tryz.results206,go_sem,r0,r1,r2]) rfl ⟨rfl,?_⟩;have hcut:=Jl.res ⟨Bh.o,HF3.o⟩ Aa.o;repeat (first|exact hcut|refine Jl.set ?_ lb HRl.o (Nat.le_refl _) _)
end
section
open Go.RowKit
open Go.Deep (BT)
structure Jh (D : Nat -> Prop) (w : World) (x : Ev) (f : Fr) : Prop where
 row:Co D w 251 8 (.slice x.a x.n x.c) f.steps.length (Eh f.steps)
 pc:x.pc=f.pc
 base:x.base=f.base
def Ka(D:Nat->Prop)(w:World):List Ev->List Fr->Prop
 | [],[]=>True
 | x::xs,f::fs=>Jh D w x f/\Ka D w xs fs
 | [],_::_=>False
 | _::_,[]=>False
theorem Jh.keep{D D':Nat->Prop}{w w':World}{x:Ev}{f:Fr}(h:Jh D w x f)(hk:∀g,D g->g<w.heap.size->w'.heap[g]?=w.heap[g]?/\D' g):Jh D' w' x f:=⟨h.row.keep hk,h.pc,h.base⟩
theorem Ka.keep{D D':Nat->Prop}{w w':World}(hk:∀g,D g->g<w.heap.size->w'.heap[g]?=w.heap[g]?/\D' g):∀{xs:List Ev} {fs:List Fr},Ka D w xs fs->Ka D' w' xs fs:=by
 intro xs;induction xs with
 | nil=>intro fs h;cases fs with
  | nil=>trivial
  | cons=>exact h.elim
 | cons x xs ih=>intro fs h;cases fs with
  | nil=>exact h.elim
  | cons f fs=>exact⟨h.1.keep hk,ih h.2⟩
theorem Ka.len{D:Nat->Prop}{w:World}:∀{xs:List Ev} {fs:List Fr},Ka D w xs fs->xs.length=fs.length:=by
 intro xs;induction xs with
 | nil=>intro fs h;cases fs with
  | nil=>rfl
  | cons=>exact h.elim
 | cons x xs ih=>intro fs h;cases fs with
  | nil=>exact h.elim
  | cons f fs=>simp only[List.length_cons];rw[ih h.2]
theorem Ka.app{D:Nat->Prop}{w:World}{x:Ev}{f:Fr}(hx:Jh D w x f):∀{xs:List Ev} {fs:List Fr},Ka D w xs fs->Ka D w (xs++[x]) (fs++[f]):=by
 intro xs;induction xs with
 | nil=>intro fs h;cases fs with
  | nil=>exact⟨hx,trivial⟩
  | cons=>exact h.elim
 | cons y xs ih=>intro fs h;cases fs with
  | nil=>exact h.elim
  | cons g fs=>exact⟨h.1,ih h.2⟩
abbrev AB:=Option Addr×Nat×Nat
def Vo(b:AB):Value:=.slice b.1 b.2.1 b.2.2
structure Sq (β : Nat -> Nat) (ρ : Nat -> Nat) (w : World) (ab : List AB) (arr : List (List PV)) : Prop where
 len:ab.length=arr.length
 at':∀i (h:i<ab.length) (h':i<arr.length),w.heap[β i]?=some (.cells #[Vo ab[i]] 356 (0,0))/\w.ownsRow 0 225 5 (Vo ab[i]) arr[i].length (C6 (Fc β) arr[i])/\ρ (β i)=7+2*i/\(∀g,(Vo ab[i]).ownBlock=some g->ρ g=8+2*i)
def Dy(n:Nat)(v:PV):Prop:=match v.r with
 | none=>v.k≠4
 | some i=>v.k=4/\i<n
def Ei(k:Kn):List Value:=[.bool k.kind,.bool k.whole,.int .i64 (k.like.k:Nat),.bool k.like.y,.int .i64 k.like.n,.string ⟨k.like.t.toArray⟩,.pointer none]
def Lh(D:Nat->Prop)(w:World)(p:Option Addr)(f:Option Form):Prop:=match f with
 | none=>p=none
 | some fo=>∃fb sa sn sc ka kn kc,p=some ⟨fb,0,none⟩/\D fb/\w.heap[fb]?=some (.cells #[.int .i64 (fo.slots:Nat),.slice sa sn sc,.slice ka kn kc] 381 (0,0))/\Co D w 251 8 (.slice sa sn sc) fo.steps.length (Eh fo.steps)/\Co D w 407 7 (.slice ka kn kc) fo.bet.length (C6 Ei fo.bet)
theorem Lh.keep{D D':Nat->Prop}{w w':World}{p:Option Addr}{f:Option Form}(h:Lh D w p f)(hk:∀g,D g->g<w.heap.size->w'.heap[g]?=w.heap[g]?/\D' g):Lh D' w' p f:=by
 unfold Lh at h ⊢;cases f with
 | none=>exact h
 | some fo=>
  obtain⟨fb,sa,sn,sc,ka,kn,kc,e1,e2,e3,e4,e5⟩:=h;exact⟨fb,sa,sn,sc,ka,kn,kc,e1,(hk fb e2 (A4 e3)).2,(hk fb e2 (A4 e3)).1.trans e3,e4.keep hk,e5.keep hk⟩
def I7(q:Option Addr×Gs):List Value:=[.int .i64 (q.2.calls:Nat),.pointer q.1,.int .i64 (q.2.fast:Nat),.int .i64 (q.2.drops:Nat)]
def Re(l:List UInt8):List Value:=[.string ⟨l.toArray⟩]
structure MC where
 mb:Nat
 pb:Nat
 P:Db
 ba:Option Addr
 bn:Nat
 bc:Nat
structure Oz where
 la:Option Addr
 ln:Nat
 lc:Nat
 ga:Option Addr
 gn:Nat
 gc:Nat
 va:Option Addr
 vn:Nat
 vc:Nat
 ca:Option Addr
 cn:Nat
 cc:Nat
 oa:Option Addr
 on:Nat
 oc:Nat
def MC.cells(C:MC)(s:Oz)(x:Ev)(fuel cells code line:Nat):Array Value:=#[.pointer (some ⟨C.pb,0,none⟩),.slice C.ba C.bn C.bc,.slice s.la s.ln s.lc,.slice s.ga s.gn s.gc,.slice s.va s.vn s.vc,.slice s.ca s.cn s.cc,.slice x.a x.n x.c,.int .i64 (x.pc:Nat),.int .i64 x.base,.int .i64 (fuel:Nat),.int .i64 (cells:Nat),.slice s.oa s.on s.oc,.int .i64 (code:Nat),.int .i64 (line:Nat)]
def dx(D X:Nat->Prop):Nat->Prop:=fun g=>D g\/X g
structure MC.Mv (C : MC) (D X : Nat -> Prop) (w : World) (m : MS) (ρ β : Nat -> Nat) (s : Oz) (x : Ev) (fv : List Ev) (ab : List AB) (lp : List (Option Addr × Gs)) : Prop where
 cell:w.heap[C.mb]?=some (.cells (C.cells s x m.fuel m.cells m.code m.line) 167 (0,0))
 prog:Jx D w C.pb C.P
 lots:w.ownsRow 0 172 4 (.slice s.la s.ln s.lc) lp.length (C6 I7 lp)
 loto:∀g,(Value.slice s.la s.ln s.lc).ownBlock=some g->ρ g=2
 lotm:m.lots=lp.map Prod.snd
 forms:∀q∈lp,Lh D w q.1 q.2.form
 gl:w.ownsRow 0 225 5 (.slice s.ga s.gn s.gc) m.gl.length (C6 (Fc β) m.gl)
 glo:∀g,(Value.slice s.ga s.gn s.gc).ownBlock=some g->ρ g=3
 vals:w.ownsRow 0 225 5 (.slice s.va s.vn s.vc) m.vals.length (C6 (Fc β) m.vals)
 valo:∀g,(Value.slice s.va s.vn s.vc).ownBlock=some g->ρ g=4
 calls:w.ownsRow 0 165 3 (.slice s.ca s.cn s.cc) fv.length (C6 Hv fv)
 callo:∀g,(Value.slice s.ca s.cn s.cc).ownBlock=some g->ρ g=5
 frs:Ka D w fv m.calls
 now:Jh D w x m.now
 out:w.ownsRow 0 9 1 (.slice s.oa s.on s.oc) m.out.length (C6 Re m.out)
 outo:∀g,(Value.slice s.oa s.on s.oc).ownBlock=some g->ρ g=6
 arr:Sq β ρ w ab m.arr
 prot:∀g,dx D X g->g<w.heap.size/\ρ g=0
 one:ρ C.mb=1/\∀g,ρ g=1->g=C.mb
 Bq:m.vals.length<=100000/\m.calls.length<=100/\m.out.length<=100
 vv:(∀v∈m.vals,Dy m.arr.length v)/\(∀v∈m.gl,Dy m.arr.length v)/\(∀l∈m.arr,∀v∈l,Dy m.arr.length v)
def MC.Ms(C:MC)(D X:Nat->Prop)(β:Nat->Nat)(w:World)(m:MS):Prop:=∃ρ s x fv ab lp,C.Mv D X w m ρ β s x fv ab lp
theorem Sq.keep{β ρ ρ':Nat->Nat}{w w':World}{ab:List AB}{arr:List (List PV)}(h:Sq β ρ w ab arr)(hk:∀g,g<w.heap.size->7<=ρ g->w'.heap[g]?=w.heap[g]?/\ρ' g=ρ g):Sq β ρ' w' ab arr:=by
 refine⟨h.len,fun i h1 h2=>?_⟩;obtain⟨k1,k2,k3,k4⟩:=h.at' i h1 h2;have q:=hk (β i) (A4 k1) (by omega);refine⟨q.1.trans k1,B3 k2 (fun g hg hl=>(hk g hl (by rw[k4 g hg];omega)).1),q.2.trans k3,fun g hg=>?_⟩;exact(hk g (Bs k2 g hg) (by rw[k4 g hg];omega)).2.trans (k4 g hg)
variable {C:MC} {D X:Nat->Prop} {w w':World} {m:MS} {ρ β:Nat->Nat} {s:Oz} {x:Ev} {fv:List Ev} {ab:List AB} {lp:List (Option Addr×Gs)}
theorem MC.Mv.Lz(h:C.Mv D X w m ρ β s x fv ab lp):Dc 225 5 (Fc β) C.mb 4 w (C.cells s x m.fuel m.cells m.code m.line) 167 s.va s.vn s.vc m.vals:=
 ⟨h.cell,rfl,h.vals,fun e=>by have:=h.valo _ e;rw[h.one.1]at this;omega⟩
theorem MC.Mv.M6(h:C.Mv D X w m ρ β s x fv ab lp):Dc 165 3 Hv C.mb 5 w (C.cells s x m.fuel m.cells m.code m.line) 167 s.ca s.cn s.cc fv:=
 ⟨h.cell,rfl,h.calls,fun e=>by have:=h.callo _ e;rw[h.one.1]at this;omega⟩
theorem MC.Mv.lo(h:C.Mv D X w m ρ β s x fv ab lp):C.mb<w.heap.size/\¬dx D X C.mb:=⟨A4 h.cell,fun hd=>by have:=(h.prot _ hd).2;rw[h.one.1]at this;cases this⟩
theorem MC.Mv.F0(h:C.Mv D X w m ρ β s x fv ab lp){c:Nat}(hc:Gg c ρ w w')(h0:c≠0):A3 (dx D X) w w':=hc.Bn h.prot h0
theorem MC.Mv.Q7(h:C.Mv D X w m ρ β s x fv ab lp)(hc:Gg 4 ρ w w'){va:Option Addr}{vn vc:Nat}{vs:List PV}{x':Ev}{now:Fr}{fuel cells code line:Nat}
  (hcell:w'.heap[C.mb]?=some (.cells (C.cells { s with va:=va,vn:=vn,vc:=vc } x' fuel cells code line) 167 (0,0)))
  (hv:w'.ownsRow 0 225 5 (.slice va vn vc) vs.length (C6 (Fc β) vs)) (hvo:∀g,(Value.slice va vn vc).ownBlock=some g->(Value.slice s.va s.vn s.vc).ownBlock=some g\/w.heap.size<=g) (hx:Jh D w x' now)
  (hn:vs.length<=100000) (hvv:∀v∈vs,Dy m.arr.length v):C.Mv D X w' { m with vals:=vs,now:=now,fuel:=fuel,cells:=cells,code:=code,line:=line } (Eu ρ w.heap.size 4) β { s with va:=va,vn:=vn,vc:=vc } x' fv ab lp:=by
 have hbd:=h.F0 hc (by omega);have hk:∀g,D g->g<w.heap.size->w'.heap[g]?=w.heap[g]?/\D g:=fun g hg _=>⟨hbd.block g (.inl hg),hg⟩;refine⟨hcell,h.prog.keep hk,B3 h.lots (fun g hg hl=>hc.block g hl (by rw[h.loto g hg];omega) (by rw[h.loto g hg];omega)),fun g hg=>by rw[Bk (Bs h.lots g hg)];exact h.loto g hg,h.lotm,fun q hq=>(h.forms q hq).keep hk,
  B3 h.gl (fun g hg hl=>hc.block g hl (by rw[h.glo g hg];omega) (by rw[h.glo g hg];omega)),fun g hg=>by rw[Bk (Bs h.gl g hg)];exact h.glo g hg,hv,fun g hg=>?_,
  B3 h.calls (fun g hg hl=>hc.block g hl (by rw[h.callo g hg];omega) (by rw[h.callo g hg];omega)),fun g hg=>by rw[Bk (Bs h.calls g hg)];exact h.callo g hg,h.frs.keep hk,hx.keep hk,
  B3 h.out (fun g hg hl=>hc.block g hl (by rw[h.outo g hg];omega) (by rw[h.outo g hg];omega)),fun g hg=>by rw[Bk (Bs h.out g hg)];exact h.outo g hg,h.arr.keep (fun g hl h7=>⟨hc.block g hl (by omega) (by omega),Bk hl⟩),
  fun g hg=>⟨Nat.lt_of_lt_of_le (h.prot g hg).1 hc.size,by rw[Bk (h.prot g hg).1];exact(h.prot g hg).2⟩,⟨by rw[Bk h.lo.1];exact h.one.1,fun g hg=>?_⟩,⟨hn,h.Bq.2⟩,⟨hvv,h.vv.2⟩⟩
 ·rcases hvo g hg with e|e
  ·rw[Bk (Bs h.vals g e)];exact h.valo g e
  ·exact Hw e
 ·by_cases hl:g<w.heap.size
  ·rw[Bk hl]at hg;exact h.one.2 g hg
  ·rw[Hw (by omega)]at hg;cases hg
theorem Rf{c:Nat}{mb:Nat}{row:Option Nat}(h:Fm mb row w w')(hone:ρ mb=1)(hr:∀g,row=some g->ρ g=c):Gg c ρ w w':=
 ⟨h.os,h.tape,h.output,h.size,fun k hk h1 h2=>h.block k hk (fun e=>h1 (by rw[e];exact hone)) (fun e=>h2 (hr k e))⟩
theorem j8{c:Nat}(h:Below w.heap.size w w'):Gg c ρ w w':=⟨h.os,h.tape,h.output,h.size,fun k hk _ _=>h.block k hk⟩
theorem MC.Ms.below(h:C.Ms D X β w m)(hb:Below w.heap.size w w'):C.Ms D X β w' m/\A3 (dx D X) w w':=by
 obtain⟨ρ,s,x,fv,ab,lp,h⟩:=h;exact⟨⟨_,_,_,_,_,_,h.Q7 (j8 hb) ((hb.block _ h.lo.1).trans h.cell) (Q2 h.vals hb) (fun g hg=>.inl hg) h.now h.Bq.1 h.vv.1⟩,h.F0 (c:=4) (j8 hb) (by omega)⟩
theorem MC.Ms.more(h:C.Ms D X β w m)(hb:Below w.heap.size w w'):C.Ms D (fun g=>X g\/(w.heap.size<=g/\g<w'.heap.size)) β w' m:=by
 obtain⟨ρ,s,x,fv,ab,lp,h⟩:=h;have hk:∀g,D g->g<w.heap.size->w'.heap[g]?=w.heap[g]?/\D g:=fun g hg hl=>⟨hb.block g hl,hg⟩;refine⟨Eu ρ w.heap.size 0,s,x,fv,ab,lp,(hb.block _ h.lo.1).trans h.cell,h.prog.keep hk,Q2 h.lots hb,fun g hg=>by rw[Bk (Bs h.lots g hg)];exact h.loto g hg,h.lotm,fun q hq=>(h.forms q hq).keep hk,Q2 h.gl hb,fun g hg=>by rw[Bk (Bs h.gl g hg)];exact h.glo g hg,Q2 h.vals hb,fun g hg=>by rw[Bk (Bs h.vals g hg)];exact h.valo g hg,Q2 h.calls hb,fun g hg=>by rw[Bk (Bs h.calls g hg)];exact h.callo g hg,h.frs.keep hk,h.now.keep hk,Q2 h.out hb,fun g hg=>by rw[Bk (Bs h.out g hg)];exact h.outo g hg,h.arr.keep (fun g hl _=>⟨hb.block g hl,Bk hl⟩),?_,⟨by rw[Bk h.lo.1];exact h.one.1,fun g hg=>?_⟩,h.Bq,h.vv⟩
 ·intro g hg;rcases hg with hg|hg|hg
  ·have:=h.prot g (.inl hg);exact⟨Nat.lt_of_lt_of_le this.1 hb.size,by rw[Bk this.1];exact this.2⟩
  ·have:=h.prot g (.inr hg);exact⟨Nat.lt_of_lt_of_le this.1 hb.size,by rw[Bk this.1];exact this.2⟩
  ·exact⟨hg.2,Hw hg.1⟩
 ·by_cases hl:g<w.heap.size
  ·rw[Bk hl]at hg;exact h.one.2 g hg
  ·rw[Hw (by omega)]at hg;cases hg
theorem MC.Ms.less(h:C.Ms D X β w m){X':Nat->Prop}(hX:∀g,X' g->X g)(hk:∀g,g<w.heap.size->(X g->D g)->w'.heap[g]?=w.heap[g]?)(hs:w'.heap.size=w.heap.size):C.Ms D X' β w' m:=by
 obtain⟨ρ,s,x,fv,ab,lp,h⟩:=h;have hz:∀g,g<w.heap.size->ρ g≠0->w'.heap[g]?=w.heap[g]?:=fun g hg h0=>hk g hg (fun hx=>absurd (h.prot g (.inr hx)).2 h0);have hkD:∀g,D g->g<w.heap.size->w'.heap[g]?=w.heap[g]?/\D g:=fun g hg hl=>⟨hk g hl (fun _=>hg),hg⟩;exact⟨ρ,s,x,fv,ab,lp,(hz _ h.lo.1 (by rw[h.one.1];omega)).trans h.cell,h.prog.keep hkD,B3 h.lots (fun g hg hl=>hz g hl (by rw[h.loto g hg];omega)),h.loto,h.lotm,fun q hq=>(h.forms q hq).keep hkD,B3 h.gl (fun g hg hl=>hz g hl (by rw[h.glo g hg];omega)),h.glo,B3 h.vals (fun g hg hl=>hz g hl (by rw[h.valo g hg];omega)),h.valo,B3 h.calls (fun g hg hl=>hz g hl (by rw[h.callo g hg];omega)),h.callo,h.frs.keep hkD,h.now.keep hkD,B3 h.out (fun g hg hl=>hz g hl (by rw[h.outo g hg];omega)),h.outo,h.arr.keep (fun g hl h7=>⟨hz g hl (by omega),rfl⟩),fun g hg=>by rw[hs];exact h.prot g (hg.imp id (hX g)),h.one,h.Bq,h.vv⟩
end
section
open Go.RowKit
open Go.Deep (BT)
variable {C:MC} {D X:Nat->Prop} {w w':World} {m:MS} {β:Nat->Nat}
def Bg(β:Nat->Nat)(v:PV):Value:=.agg #[.int .i64 (v.k:Nat),.bool v.y,.int .i64 v.n,.string ⟨v.t.toArray⟩,.pointer (Ca β v)]
def MP(C:MC)(D X:Nat->Prop)(β:Nat->Nat)(w:World)(m:MS)(r:Value)(e:Ending)(w':World):Prop:=e=.returned r/\C.Ms D X β w' m/\A3 (dx D X) w w'
theorem MC.Ms.len(h:C.Ms D X β w m):Calls Tryz.prog 98 #[.pointer (some ⟨C.mb,4,none⟩)] w fun e w'=>e=.returned (.int .i64 (m.vals.length:Nat))/\w'=w:=by
 obtain⟨ρ,s,x,fv,ab,lp,h⟩:=h;exact W9 h.Lz
theorem MC.Ms.Bq(h:C.Ms D X β w m):m.vals.length<=100000/\m.calls.length<=100/\m.out.length<=100:=by
 obtain⟨ρ,s,x,fv,ab,lp,h⟩:=h;exact h.Bq
theorem MC.Ms.B7(h:C.Ms D X β w m):C.mb<w.heap.size:=by
 obtain⟨ρ,s,x,fv,ab,lp,h⟩:=h;exact h.lo.1
theorem MC.Ms.at'(h:C.Ms D X β w m)(i:Int):Calls Tryz.prog 195 #[.pointer (some ⟨C.mb,4,none⟩),.int .i64 i] w (MP C D X β w m (Bg β (m.at' i))):=by
 obtain⟨ρ,s,x,fv,ab,lp,h'⟩:=h;refine(Vl h'.Lz i (by have:=h'.Bq.1;omega) (m.at' i) rfl).mono ?_;rintro e w1 ⟨rfl,hb⟩;exact⟨rfl,MC.Ms.below ⟨ρ,s,x,fv,ab,lp,h'⟩ hb⟩
theorem MC.Ms.top(h:C.Ms D X β w m):Calls Tryz.prog 200 #[.pointer (some ⟨C.mb,4,none⟩)] w (MP C D X β w m (Bg β m.top)):=by
 obtain⟨ρ,s,x,fv,ab,lp,h'⟩:=h;refine(Wv h'.Lz (by have:=h'.Bq.1;omega) m.top rfl).mono ?_;rintro e w1 ⟨rfl,hb⟩;exact⟨rfl,MC.Ms.below ⟨ρ,s,x,fv,ab,lp,h'⟩ hb⟩
theorem MC.Ms.push(h:C.Ms D X β w m)(v:PV)(hv:Dy m.arr.length v)(hn:m.vals.length+1<=100000):Calls Tryz.prog 99 #[.pointer (some ⟨C.mb,4,none⟩),Bg β v] w (MP C D X β w (m.push v) (.tuple #[])):=by
 obtain⟨ρ,s,x,fv,ab,lp,h⟩:=h;refine(Abz h.Lz (by omega) v (by simp[MC.cells])).mono ?_;rintro e w1 ⟨rfl,g,cap,hs,hat,hf⟩;have hc:Gg 4 ρ w w1:=Rf hf h.one.1 h.valo;refine⟨rfl,⟨_,{ s with va:=some ⟨g,0,none⟩,vn:=m.vals.length+1,vc:=cap },x,fv,ab,lp,h.Q7 hc ?_ hs.own ?_ h.now (by simp;omega) ?_⟩,h.F0 hc (by omega)⟩
 ·rw[hs.blk];simp[MC.cells]
 ·intro k hk;simp only[Value.ownBlock,Option.some.injEq]at hk;rw[←hk];exact hat
 ·intro u hu;simp only[List.mem_append,List.mem_singleton]at hu;rcases hu with hu|hu
  ·exact h.vv.1 u hu
  ·rw[hu];exact hv
theorem MC.Mv.Zv{ρ:Nat->Nat}{s:Oz}{x:Ev}{fv:List Ev}{ab:List AB}{lp:List (Option Addr×Gs)}(h:C.Mv D X w m ρ β s x fv ab lp){k:Nat}(hp:Jl 225 5 (Fc β) C.mb 4 w (C.cells s x m.fuel m.cells m.code m.line) 167 s.va s.vn s.vc m.vals k w'):C.Ms D X β w' { m with vals:=m.vals.take k }/\A3 (dx D X) w w':=by
 obtain⟨hs,hf⟩:=hp;have hc:Gg 4 ρ w w':=Rf hf h.one.1 h.valo;refine⟨⟨_,{ s with va:=s.va,vn:=k,vc:=s.vc },x,fv,ab,lp,h.Q7 hc ?_ hs.own (fun g hg=>.inl ((M9 _ _ _ _).trans hg)) h.now (by have:=h.Bq.1;simp;omega) (fun u hu=>h.vv.1 u (List.mem_of_mem_take hu))⟩,h.F0 hc (by omega)⟩;rw[hs.blk];simp[MC.cells]
theorem j5{α:Type}(l:List α):l.take (l.length-1)=l.dropLast:=by rw[List.dropLast_eq_take]
theorem MC.Ms.pop(h:C.Ms D X β w m):Calls Tryz.prog 197 #[.pointer (some ⟨C.mb,4,none⟩)] w (MP C D X β w m.pop (Bg β m.top)):=by
 obtain⟨ρ,s,x,fv,ab,lp,h⟩:=h;refine(A9w h.Lz (by have:=h.Bq.1;omega) (by simp[MC.cells]) m.top rfl).mono ?_;rintro e w1 ⟨rfl,hp⟩;have:=h.Zv hp;rw[j5]at this;exact⟨rfl,this⟩
theorem MC.Ms.cut(h:C.Ms D X β w m)(n:Int):Calls Tryz.prog 205 #[.pointer (some ⟨C.mb,4,none⟩),.int .i64 n] w (MP C D X β w (m.cut n) (.tuple #[])):=by
 obtain⟨ρ,s,x,fv,ab,lp,h⟩:=h;by_cases h0:n<0
 ·refine(A1p h.Lz n h0).mono ?_;rintro e w1 ⟨rfl,rfl⟩;refine⟨rfl,?_,A3.refl _ _⟩;have:m.cut n=m:=by unfold MS.cut;rw[if_pos h0]
  rw[this];exact⟨ρ,s,x,fv,ab,lp,h⟩
 ·have he:m.cut n={ m with vals:=m.vals.take n.toNat }:=by unfold MS.cut;rw[if_neg h0]
  rw[he];by_cases h1:n.toNat<=m.vals.length
  ·have:=Zg h.Lz n.toNat h1 (by simp[MC.cells]);rw[show((n.toNat:Nat):Int)=n by omega]at this;refine this.mono ?_;rintro e w1 ⟨rfl,hp⟩;exact⟨rfl,h.Zv hp⟩
  ·refine(Aba h.Lz n (by omega)).mono ?_;rintro e w1 ⟨rfl,rfl⟩;refine⟨rfl,?_,A3.refl _ _⟩;rw[List.take_of_length_le (by omega)];exact⟨ρ,s,x,fv,ab,lp,h⟩
theorem A4p{α:Type}{l:List α}{i:Nat}{u v:α}(h:v∈l.set i u):v∈l\/v=u:=List.mem_or_eq_of_mem_set h
theorem MC.Ms.put(h:C.Ms D X β w m)(i:Int)(v:PV)(hv:Dy m.arr.length v):Calls Tryz.prog 196 #[.pointer (some ⟨C.mb,4,none⟩),.int .i64 i,Bg β v] w (MP C D X β w (m.put i v) (.tuple #[])):=by
 obtain⟨ρ,s,x,fv,ab,lp,h'⟩:=h;by_cases h0:0<=i/\i.toNat<m.vals.length
 ·have:=A5j h'.Lz i.toNat h0.2 v;rw[show((i.toNat:Nat):Int)=i by omega]at this;refine this.mono ?_;rintro e w1 ⟨rfl,hs,hf⟩;have hc:Gg 4 ρ w w1:=Rf hf h'.one.1 h'.valo;have he:m.put i v={ m with vals:=m.vals.set i.toNat v }:=by unfold MS.put;rw[if_neg (by omega)]
  rw[he];refine⟨rfl,⟨_,s,x,fv,ab,lp,h'.Q7 hc ?_ hs.own (fun g hg=>.inl hg) h'.now (by have:=h'.Bq.1;simp;omega) (fun u hu=>(A4p hu).elim (h'.vv.1 u) (fun e=>by rw[e];exact hv))⟩,h'.F0 hc (by omega)⟩;exact hs.blk
 ·have he:m.put i v=m:=by
   unfold MS.put;by_cases h1:i<0
   ·rw[if_pos h1]
   ·rw[if_neg h1,List.set_eq_of_length_le (by omega)]
  rw[he];refine(Ai6 h'.Lz i (by omega) v).mono ?_;rintro e w1 ⟨rfl,hb⟩;exact⟨rfl,MC.Ms.below ⟨ρ,s,x,fv,ab,lp,h'⟩ hb⟩
end
section
set_option maxRecDepth 100000
open Go.RowKit
open Go.Deep (BT)
variable {C:MC} {D X:Nat->Prop} {w w':World} {m:MS} {ρ β:Nat->Nat} {s:Oz} {x:Ev} {fv:List Ev} {ab:List AB} {lp:List (Option Addr×Gs)}
def Ac(i:Ad):Value:=.agg #[.int .i64 (i.op:Nat),.int .i64 i.arg,.int .i64 (i.line:Nat),.int .i64 (i.v.k:Nat),.bool i.v.y,.int .i64 i.v.n,.string ⟨i.v.t.toArray⟩,.pointer none]
theorem MC.Mv.plain(h:C.Mv D X w m ρ β s x fv ab lp){x':Ev}{now:Fr}{fuel cells code line:Nat}(hx:Jh D w x' now)(hcell:w'.heap[C.mb]?=some (.cells (C.cells s x' fuel cells code line) 167 (0,0)))(hk:∀g,g<w.heap.size->g≠C.mb->w'.heap[g]?=w.heap[g]?)(hs:w.heap.size<=w'.heap.size)(ho:w'.os=w.os)(ht:w'.tape=w.tape)(hu:w'.output=w.output) :
  C.Ms D X β w' { m with now:=now,fuel:=fuel,cells:=cells,code:=code,line:=line }/\A3 (dx D X) w w':=by
 have hc:Gg 4 ρ w w':=⟨ho,ht,hu,hs,fun k hk' h1 _=>hk k hk' (fun e=>h1 (by rw[e];exact h.one.1))⟩;exact⟨⟨_,s,x',fv,ab,lp,h.Q7 hc hcell (B3 h.vals (fun g hg hl=>hk g hl (fun e=>by have:=h.valo g hg;rw[e,h.one.1]at this;omega))) (fun g hg=>.inl hg) hx h.Bq.1 h.vv.1⟩,h.F0 hc (by omega)⟩
theorem Sd{w:World}{b:Nat}{a0 a1 a2 a3 a4 a5 a6 a7 a8 a9 a10 a11 a12 a13:Value}{t:TypeId}(h:w.heap[b]?=some (.cells #[a0,a1,a2,a3,a4,a5,a6,a7,a8,a9,a10,a11,a12,a13] t (0,0))) :
  w.cell? ⟨b,0,none⟩=some a0/\w.cell? ⟨b,1,none⟩=some a1/\w.cell? ⟨b,2,none⟩=some a2/\w.cell? ⟨b,3,none⟩=some a3/\w.cell? ⟨b,4,none⟩=some a4/\w.cell? ⟨b,5,none⟩=some a5/\w.cell? ⟨b,6,none⟩=some a6/\w.cell? ⟨b,7,none⟩=some a7/\w.cell? ⟨b,8,none⟩=some a8/\w.cell? ⟨b,9,none⟩=some a9/\w.cell? ⟨b,10,none⟩=some a10/\w.cell? ⟨b,11,none⟩=some a11/\w.cell? ⟨b,12,none⟩=some a12/\w.cell? ⟨b,13,none⟩=some a13/\(∀o,w.frozen? ⟨b,o,none⟩=false)/\b<w.heap.size:=
 ⟨A2 h 0 _ rfl,A2 h 1 _ rfl,A2 h 2 _ rfl,A2 h 3 _ rfl,A2 h 4 _ rfl,A2 h 5 _ rfl,A2 h 6 _ rfl,A2 h 7 _ rfl,A2 h 8 _ rfl,A2 h 9 _ rfl,A2 h 10 _ rfl,A2 h 11 _ rfl,A2 h 12 _ rfl,A2 h 13 _ rfl,Bd h,A4 h⟩
theorem Jg(h:C.Ms D X β w m)(code:Nat)(i:Ad):Calls Tryz.prog 199 #[.pointer (some ⟨C.mb,0,none⟩),.int .i64 (code:Nat),Ac i] w (MP C D X β w (m.fail code i) (.tuple #[])):=by
 obtain⟨ρ,s,x,fv,ab,lp,h⟩:=h;obtain⟨c0,c1,c2,c3,c4,c5,c6,c7,c8,c9,c10,c11,c12,c13,fz,lb⟩:=Sd (show w.heap[C.mb]?=some (.cells #[_,_,_,_,_,_,_,_,_,_,_,_,_,_] _ (0,0)) from h.cell);have HH:=A0 h;clear h c0 c1 c2 c3 c4 c5 c6 c7 c8 c9 c10 c11;unfold Ac;go_enter Tryz.func199,Tryz.ntmps199;go_wp2;go_end0;have hcl:(((w.setCell ⟨C.mb,12,none⟩ (.int .i64 (code:Nat))).setCell ⟨C.mb,13,none⟩ (.int .i64 (i.line:Nat))).alloc (.cells #[.int .i64 (i.op:Nat),.int .i64 i.arg,.int .i64 (i.line:Nat),.int .i64 (i.v.k:Nat),.bool i.v.y,.int .i64 i.v.n,.string ⟨i.v.t.toArray⟩,.pointer none] 251)).heap[C.mb]?=some (.cells (C.cells s x (m.fuel) (m.cells) (code) (i.line)) 167 (0,0)):=by
  rw[Below.heap_alloc _ _ _ (by simp[World.setCell];omega),(heap_set (j:=13) (heap_set (j:=12) HH.o.cell (.int .i64 (code:Nat))) (.int .i64 (i.line:Nat)))];simp[MC.cells]
 have hkk:∀g,g<w.heap.size->g≠C.mb->(((w.setCell ⟨C.mb,12,none⟩ (.int .i64 (code:Nat))).setCell ⟨C.mb,13,none⟩ (.int .i64 (i.line:Nat))).alloc (.cells #[.int .i64 (i.op:Nat),.int .i64 i.arg,.int .i64 (i.line:Nat),.int .i64 (i.v.k:Nat),.bool i.v.y,.int .i64 i.v.n,.string ⟨i.v.t.toArray⟩,.pointer none] 251)).heap[g]?=w.heap[g]?:=by
  intro g hg hne;rw[Below.heap_alloc _ _ _ (by simp[World.setCell];omega),Below.heap_setCell _ _ _ _ (by exact hne),Below.heap_setCell _ _ _ _ (by exact hne)]
 have hpl:=HH.o.plain (now:=m.now) (fuel:=m.fuel) (cells:=m.cells) (code:=code) (line:=i.line) (x':=x) HH.o.now hcl hkk (by simp[World.setCell]) rfl rfl rfl;exact⟨rfl,hpl⟩
theorem Rw(h:C.Ms D X β w m)(i:Ad)(hf:m.fuel≠0)(hb:m.fuel<=100000):Calls Tryz.prog 198 #[.pointer (some ⟨C.mb,0,none⟩),Ac i] w (MP C D X β w { m with fuel:=m.fuel-1 } (.bool true)):=by
 obtain⟨ρ,s,x,fv,ab,lp,h⟩:=h;obtain⟨c0,c1,c2,c3,c4,c5,c6,c7,c8,c9,c10,c11,c12,c13,fz,lb⟩:=Sd (show w.heap[C.mb]?=some (.cells #[_,_,_,_,_,_,_,_,_,_,_,_,_,_] _ (0,0)) from h.cell);have HH:=A0 h;have t0:((m.fuel:Int)==0)=false:=by rw[beq_eq_false_iff_ne];omega
 have HFu:Hid (((m.fuel-1:Nat):Int)=(m.fuel:Int)-1):=by show _=_;omega
 clear h c0 c1 c2 c3 c4 c5 c6 c7 c8 c10 c11 c12 c13;unfold Ac;go_enter Tryz.func198,Tryz.ntmps198;go_wp2;go_ret;rw[←HFu.o];have hcl:((w.setCell ⟨C.mb,9,none⟩ (.int .i64 ((m.fuel-1:Nat):Nat))).alloc (.cells #[.int .i64 (i.op:Nat),.int .i64 i.arg,.int .i64 (i.line:Nat),.int .i64 (i.v.k:Nat),.bool i.v.y,.int .i64 i.v.n,.string ⟨i.v.t.toArray⟩,.pointer none] 251)).heap[C.mb]?=some (.cells (C.cells s x (m.fuel-1) (m.cells) (m.code) (m.line)) 167 (0,0)):=by
  rw[Below.heap_alloc _ _ _ (by simp[World.setCell];omega),(heap_set (j:=9) HH.o.cell (.int .i64 ((m.fuel-1:Nat):Nat)))];simp[MC.cells]
 have hkk:∀g,g<w.heap.size->g≠C.mb->((w.setCell ⟨C.mb,9,none⟩ (.int .i64 ((m.fuel-1:Nat):Nat))).alloc (.cells #[.int .i64 (i.op:Nat),.int .i64 i.arg,.int .i64 (i.line:Nat),.int .i64 (i.v.k:Nat),.bool i.v.y,.int .i64 i.v.n,.string ⟨i.v.t.toArray⟩,.pointer none] 251)).heap[g]?=w.heap[g]?:=by
  intro g hg hne;rw[Below.heap_alloc _ _ _ (by simp[World.setCell];omega),Below.heap_setCell _ _ _ _ (by exact hne)]
 have hpl:=HH.o.plain (now:=m.now) (fuel:=m.fuel-1) (cells:=m.cells) (code:=m.code) (line:=m.line) (x':=x) HH.o.now hcl hkk (by simp[World.setCell]) rfl rfl rfl;exact⟨rfl,hpl⟩
theorem Yy(h:C.Ms D X β w m)(i:Ad)(hf:m.fuel=0):Calls Tryz.prog 198 #[.pointer (some ⟨C.mb,0,none⟩),Ac i] w (MP C D X β w (m.fail 8 i) (.bool false)):=by
 have Bi:Below w.heap.size w (w.alloc (.cells #[.int .i64 (i.op:Nat),.int .i64 i.arg,.int .i64 (i.line:Nat),.int .i64 (i.v.k:Nat),.bool i.v.y,.int .i64 i.v.n,.string ⟨i.v.t.toArray⟩,.pointer none] 251)):=Below.alloc (Below.refl _ _) (Nat.le_refl _) _;obtain⟨h0,hd0⟩:=h.below Bi;have HF:=A0 (Jg h0 8 i);have Ae:=A0 hd0;obtain⟨ρ,s,x,fv,ab,lp,h⟩:=h;obtain⟨c0,c1,c2,c3,c4,c5,c6,c7,c8,c9,c10,c11,c12,c13,fz,lb⟩:=Sd (show w.heap[C.mb]?=some (.cells #[_,_,_,_,_,_,_,_,_,_,_,_,_,_] _ (0,0)) from h.cell);have HH:=A0 h;have t0:((m.fuel:Int)==0)=true:=by rw[hf];rfl
 have lx:=heap_alloc_new w (.cells #[.int .i64 (i.op:Nat),.int .i64 i.arg,.int .i64 (i.line:Nat),.int .i64 (i.v.k:Nat),.bool i.v.y,.int .i64 i.v.n,.string ⟨i.v.t.toArray⟩,.pointer none] 251);clear h c0 c1 c2 c3 c4 c5 c6 c7 c8 c10 c11 c12 c13 h0 hd0 Bi hf;unfold Ac at *;go_enter Tryz.func198,Tryz.ntmps198;go_wp2_with fail
 refine HF.o.mono ?_;rintro e w1 ⟨rfl,h1,h2⟩;have A9:=A0 h1;have A5:Hid (A3 (dx D X) w w1):=Ae.o.trans h2;clear h1 h2;go_wp2;go_ret;exact⟨rfl,A9.o,A5.o⟩
end
section
set_option maxRecDepth 100000
open Go.RowKit
open Go.Deep (BT)
variable {C:MC} {D X:Nat->Prop} {w w':World} {m:MS} {β:Nat->Nat}
theorem Tj(a0 a1 a2 a3 a4:Value)(w:World):(Instr.field 225 (.agg #[a0,a1,a2,a3,a4]) 0).run Tryz.prog w=.ok a0 w:=by kernel_rfl
theorem A27(a0 a1 a2 a3 a4:Value)(w:World):(Instr.field 225 (.agg #[a0,a1,a2,a3,a4]) 2).run Tryz.prog w=.ok a2 w:=by kernel_rfl
theorem Vx{w w':World}(h:Below w.drew.heap.size w.drew w'):Below w.heap.size w w':=⟨h.os,h.tape,h.output,h.size,h.block⟩
theorem Lg(h:C.Ms D X β w m)(n:Int)(hn:m.vals.length+1<=100000):Calls Tryz.prog 252 #[.pointer (some ⟨C.mb,0,none⟩),.int .i64 n] w (MP C D X β w (m.push (ofInt n)) (.tuple #[])):=by
 have lb:=h.B7;have HP:=A0 (fun(W:World) (hb:Below w.heap.size w W)=>((h.below hb).1.push (ofInt n) (by simp[Dy,ofInt]) hn));have HB:=A0 (fun(W:World) (hb:Below w.heap.size w W)=>(h.below hb).2);clear h;go_enter Tryz.func252,Tryz.ntmps252;go_wp2;go_region_law (first
  | (refine Fj rfl 99 _ _ rfl #[.pointer (some ⟨C.mb,4,none⟩),.agg #[.int .i64 2,.bool false,.int .i64 n,.string ⟨#[]⟩,.pointer none]] (by kernel_rfl) Bu.o ?_;rintro e w2 ⟨rfl,h2,h3⟩;refine⟨_,rfl,?_⟩;have Ak:=A0 h2;have Aa:Hid (A3 (dx D X) w w2):=A5.o.trans h3;clear h2 h3)
  | (refine Fj rfl 85 _ _ rfl #[.int .i64 n] (by kernel_rfl) (Vg n _) ?_;rintro e w1 ⟨rfl,hb1'⟩;refine⟨_,rfl,?_⟩;have A1:=Vx hb1';have Bu:=A0 (HP.o w1 A1);have A5:=A0 (HB.o w1 A1);have Bt:=A1.size;clear A1 hb1'))
 all_goals go_wp2
 all_goals go_end0
 all_goals exact⟨rfl,Ak.o,Aa.o⟩
theorem Ja(h:C.Ms D X β w m)(y:Bool)(hn:m.vals.length+1<=100000):Calls Tryz.prog 253 #[.pointer (some ⟨C.mb,0,none⟩),.bool y] w (MP C D X β w (m.push (ofBool y)) (.tuple #[])):=by
 have lb:=h.B7;have HP:=A0 (fun(W:World) (hb:Below w.heap.size w W)=>((h.below hb).1.push (ofBool y) (by simp[Dy,ofBool]) hn));have HB:=A0 (fun(W:World) (hb:Below w.heap.size w W)=>(h.below hb).2);clear h;go_enter Tryz.func253,Tryz.ntmps253;go_wp2;go_region_law (first
  | (refine Fj rfl 99 _ _ rfl #[.pointer (some ⟨C.mb,4,none⟩),.agg #[.int .i64 1,.bool y,.int .i64 0,.string ⟨#[]⟩,.pointer none]] (by kernel_rfl) Bu.o ?_;rintro e w2 ⟨rfl,h2,h3⟩;refine⟨_,rfl,?_⟩;have Ak:=A0 h2;have Aa:Hid (A3 (dx D X) w w2):=A5.o.trans h3;clear h2 h3)
  | (refine Fj rfl 87 _ _ rfl #[.bool y] (by kernel_rfl) (Up y _) ?_;rintro e w1 ⟨rfl,hb1'⟩;refine⟨_,rfl,?_⟩;have A1:=Vx hb1';have Bu:=A0 (HP.o w1 A1);have A5:=A0 (HB.o w1 A1);have Bt:=A1.size;clear A1 hb1'))
 all_goals go_wp2
 all_goals go_end0
 all_goals exact⟨rfl,Ak.o,Aa.o⟩
theorem J1(h:C.Ms D X β w m)(k:Nat):Calls Tryz.prog 250 #[.pointer (some ⟨C.mb,0,none⟩),.int .i64 (k:Nat)] w (MP C D X β w m (.bool (m.both k))):=by
 have lb:=h.B7;have HL:=A0 h.len;have hfew:=h.Bq.1;have HA1:=A0 (h.at' ((m.vals.length:Int)-1));have HA2:=A0 (fun(W:World) (hs:C.Ms D X β W m)=>hs.at' ((m.vals.length:Int)-1-1));have h2e:m.at' ((m.vals.length:Int)-1-1)=m.at' ((m.vals.length:Nat)-2):=by rw[show((m.vals.length:Nat):Int)-1-1=(m.vals.length:Nat)-2 by omega]
 rw[h2e]at HA2;clear h2e;have htop:m.at' ((m.vals.length:Int)-1)=m.top:=(P5 Ai m.vals).symm;rw[htop]at HA1;have vf0:=Tj;clear h htop;cases hq:(m.top.k==k)
 ·have t1:(((m.top.k:Nat):Int)==(k:Int))=false:=by rw[beq_eq_false_iff_ne]at hq ⊢;omega
  have HE:Hid (m.both k=false):=by show _=_;unfold MS.both;rw[hq];rfl
  clear hq;go_enter Tryz.func250,Tryz.ntmps250;go_wp2_with fail
  refine HL.o.mono ?_;rintro e w ⟨rfl,rfl⟩;go_wp2_with fail
  refine HA1.o.mono ?_;rintro e w1 ⟨rfl,h1,h2⟩;have A9:=A0 h1;have A5:=A0 h2;have Bt:=h1.B7;clear h1 h2;unfold Bg;go_wp2;go_ret;rw[HE.o];exact⟨rfl,A9.o,A5.o⟩
 ·cases En:((m.at' ((m.vals.length:Int)-2)).k==k)
  ·have t1:(((m.top.k:Nat):Int)==(k:Int))=true:=by rw[beq_iff_eq]at hq ⊢;omega
   have t2:((((m.at' ((m.vals.length:Int)-2)).k:Nat):Int)==(k:Int))=false:=by rw[beq_eq_false_iff_ne]at En ⊢;omega
   have HE:Hid (m.both k=false):=by show _=_;unfold MS.both;rw[hq,En];rfl
   clear hq En;generalize m.at' ((m.vals.length:Int)-2)=u at *;go_enter Tryz.func250,Tryz.ntmps250;go_wp2_with fail
   refine HL.o.mono ?_;rintro e w ⟨rfl,rfl⟩;go_wp2_with fail
   refine HA1.o.mono ?_;rintro e w1 ⟨rfl,h1,h2⟩;have A9:=A0 h1;have A5:=A0 h2;have Bt:=h1.B7;clear h1 h2;unfold Bg;go_wp2_with fail
   refine(HA2.o w1 A9.o).mono ?_;rintro e w2 ⟨rfl,h1,h2⟩;have Ak:=A0 h1;have Aa:Hid (A3 (dx D X) w w2):=A5.o.trans h2;clear h1 h2;unfold Bg;go_wp2;go_ret;rw[HE.o];exact⟨rfl,Ak.o,Aa.o⟩
  ·have t1:(((m.top.k:Nat):Int)==(k:Int))=true:=by rw[beq_iff_eq]at hq ⊢;omega
   have t2:((((m.at' ((m.vals.length:Int)-2)).k:Nat):Int)==(k:Int))=true:=by rw[beq_iff_eq]at En ⊢;omega
   have HE:Hid (m.both k=true):=by show _=_;unfold MS.both;rw[hq,En];rfl
   clear hq En;generalize m.at' ((m.vals.length:Int)-2)=u at *;go_enter Tryz.func250,Tryz.ntmps250;go_wp2_with fail
   refine HL.o.mono ?_;rintro e w ⟨rfl,rfl⟩;go_wp2_with fail
   refine HA1.o.mono ?_;rintro e w1 ⟨rfl,h1,h2⟩;have A9:=A0 h1;have A5:=A0 h2;have Bt:=h1.B7;clear h1 h2;unfold Bg;go_wp2_with fail
   refine(HA2.o w1 A9.o).mono ?_;rintro e w2 ⟨rfl,h1,h2⟩;have Ak:=A0 h1;have Aa:Hid (A3 (dx D X) w w2):=A5.o.trans h2;clear h1 h2;unfold Bg;go_wp2;go_ret;rw[HE.o];exact⟨rfl,Ak.o,Aa.o⟩
theorem MC.Ms.Am2(h:C.Ms D X β w m):∀g,dx D X g->g<w.heap.size:=by
 obtain⟨ρ,s,x,fv,ab,lp,h⟩:=h;exact fun g hg=>(h.prot g hg).1
theorem MC.Ms.Am8{Y:Nat->Prop}(h:C.Ms D (fun g=>X g\/Y g) β w m):C.Ms D X β w.drew m:=
 ((h.below (w':=w.drew) ⟨rfl,rfl,rfl,Nat.le_refl _,fun _ _=>rfl⟩).1).less (fun _ h=>.inl h) (fun _ _ _=>rfl) rfl
theorem Ry{w:World}{g:Nat}(a0 a1 a2 a3 a4:Value)(k:Nat)(h:k≠g):(((((w.setCell ⟨g,0,none⟩ a0).setCell ⟨g,1,none⟩ a1).setCell ⟨g,2,none⟩ a2).setCell ⟨g,3,none⟩ a3).setCell ⟨g,4,none⟩ a4).heap[k]?=w.heap[k]?:=by
 rw[Below.heap_setCell _ _ _ _ (by exact h),Below.heap_setCell _ _ _ _ (by exact h),Below.heap_setCell _ _ _ _ (by exact h),Below.heap_setCell _ _ _ _ (by exact h),Below.heap_setCell _ _ _ _ (by exact h)]
theorem Sb{E:Nat->Prop}{w:World}{g:Nat}(h:∀k,E k->k≠g)(a0 a1 a2 a3 a4:Value):A3 E w (((((w.setCell ⟨g,0,none⟩ a0).setCell ⟨g,1,none⟩ a1).setCell ⟨g,2,none⟩ a2).setCell ⟨g,3,none⟩ a3).setCell ⟨g,4,none⟩ a4):=
 ⟨by simp only[Pd],by simp only[Pk],by simp only[Pf],by simp[World.setCell],fun k hk=>Ry _ _ _ _ _ k (h k hk)⟩
theorem A0x{w:World}{g:Nat}{b0 b1 b2 b3 b4:Value}{t:TypeId}(h:w.heap[g]?=some (.cells #[b0,b1,b2,b3,b4] t (0,0)))(a0 a1 a2 a3 a4:Value):(((((w.setCell ⟨g,0,none⟩ a0).setCell ⟨g,1,none⟩ a1).setCell ⟨g,2,none⟩ a2).setCell ⟨g,3,none⟩ a3).setCell ⟨g,4,none⟩ a4).heap[g]?=some (.cells #[a0,a1,a2,a3,a4] t (0,0)):=by
 rw[heap_set (heap_set (heap_set (heap_set (heap_set h _) _) _) _) _];simp
theorem MC.Ms.Sm(h:C.Ms D X β w m){g:Nat}(hx:X g)(hd:¬D g)(a0 a1 a2 a3 a4:Value):C.Ms D X β (((((w.setCell ⟨g,0,none⟩ a0).setCell ⟨g,1,none⟩ a1).setCell ⟨g,2,none⟩ a2).setCell ⟨g,3,none⟩ a3).setCell ⟨g,4,none⟩ a4) m:=
 h.less (fun _ h=>h) (fun k _ hk=>Ry _ _ _ _ _ k (fun e=>hd (e ▸ hk (e ▸ hx)))) (by simp[World.setCell])
theorem Mj{w:World}{b:Nat}{a0 a1 a2 a3 a4:Value}{t:TypeId}(h:w.heap[b]?=some (.cells #[a0,a1,a2,a3,a4] t (0,0))):w.cell? ⟨b,0,none⟩=some a0/\w.cell? ⟨b,1,none⟩=some a1/\w.cell? ⟨b,2,none⟩=some a2/\w.cell? ⟨b,3,none⟩=some a3/\w.cell? ⟨b,4,none⟩=some a4/\(∀o,w.frozen? ⟨b,o,none⟩=false)/\b<w.heap.size:=
 ⟨A2 h 0 _ rfl,A2 h 1 _ rfl,A2 h 2 _ rfl,A2 h 3 _ rfl,A2 h 4 _ rfl,Bd h,A4 h⟩
theorem Fe(h:C.Ms D X β w m):Calls Tryz.prog 210 #[.pointer (some ⟨C.mb,0,none⟩)] w (MP C D X β w m.pop.pop (.tuple #[Bg β m.pop.top,Bg β m.top])):=by
 have lb:=h.B7;have HPr:=A0 h.Am2;obtain⟨w0,Cq⟩:∃w0,w0=(w.alloc (.cells #[.int .i64 0,.bool false,.int .i64 0,.string ⟨#[]⟩,.pointer none] 225)).alloc (.cells #[.int .i64 0,.bool false,.int .i64 0,.string ⟨#[]⟩,.pointer none] 225):=⟨_,rfl⟩;have Bi:Below w.heap.size w w0:=by rw[Cq];exact Below.alloc (Below.alloc (Below.refl _ _) (Nat.le_refl _) _) (by simp) _
 have Fp:w0.heap.size=w.heap.size+2:=by rw[Cq];simp
 have h0:=h.more Bi;have hR1:w0.heap[w.heap.size]?=some (.cells #[.int .i64 0,.bool false,.int .i64 0,.string ⟨#[]⟩,.pointer none] 225 (0,0)):=by rw[Cq,Below.heap_alloc _ _ _ (by simp)];exact heap_alloc_new w _
 have Ef:w0.heap[w.heap.size+1]?=some (.cells #[.int .i64 0,.bool false,.int .i64 0,.string ⟨#[]⟩,.pointer none] 225 (0,0)):=by
  have:=heap_alloc_new (w.alloc (.cells #[.int .i64 0,.bool false,.int .i64 0,.string ⟨#[]⟩,.pointer none] 225)) (.cells #[.int .i64 0,.bool false,.int .i64 0,.string ⟨#[]⟩,.pointer none] 225);rw[Cq];simpa using this
 have HP0:=A0 h0.pop;have Aq:=A0 Cq;have Ae:Hid (A3 (dx D X) w w0):=⟨Bi.os,Bi.tape,Bi.output,Bi.size,fun g hg=>Bi.block g (HPr.o g hg)⟩;have F5:=A0 hR1;have C9:=A0 Ef;have Av:=A0 Fp;have Et:dx D (fun g=>X g\/(w.heap.size<=g/\g<w0.heap.size)) w.heap.size:=.inr (.inr ⟨Nat.le_refl _,by omega⟩);have G3:dx D (fun g=>X g\/(w.heap.size<=g/\g<w0.heap.size)) (w.heap.size+1):=.inr (.inr ⟨by omega,by omega⟩);have Ir:=A0 Et;have HX2:=A0 G3;clear h Cq Bi h0 hR1 Ef Fp Et G3;go_enter Tryz.func210,Tryz.ntmps210;go_wp2_with fail
 rw[←Aq.o];refine HP0.o.mono ?_;rintro e w1 ⟨rfl,h1,A1⟩;have hq1:=(A1.block _ Ir.o).trans F5.o;have En:=(A1.block _ HX2.o).trans C9.o;obtain⟨p0,p1,p2,p3,p4,fp,lp⟩:=Mj hq1;obtain⟨r0,r1,r2,r3,r4,fr,lr⟩:=Mj En;have hnD1:¬D w.heap.size:=fun hd=>by have:=HPr.o _ (.inl hd);omega
 have hnD2:¬D (w.heap.size+1):=fun hd=>by have:=HPr.o _ (.inl hd);omega
 have HQ1:=A0 hq1;have Gz:=A0 En;have hxx:(fun g=>X g\/(w.heap.size<=g/\g<w0.heap.size)) (w.heap.size+1):=.inr ⟨by omega,by have:=Av.o;omega⟩;have hxy:(fun g=>X g\/(w.heap.size<=g/\g<w0.heap.size)) w.heap.size:=.inr ⟨by omega,by have:=Av.o;omega⟩;have HM1:=A0 (fun(a0 a1 a2 a3 a4:Value)=>(h1.Sm hxx hnD2 a0 a1 a2 a3 a4).pop);have A5:=A0 A1;have HXY:=A0 hxy;have HND1:=A0 hnD1;have HND2:=A0 hnD2;have HXX:=A0 hxx;clear h1 A1 hq1 En hnD1 hnD2 hxx hxy;unfold Bg;go_wp2_with fail
 refine(HM1.o _ _ _ _ _).mono ?_;rintro e w3 ⟨rfl,h3,Aj⟩;have hq1:=(Aj.block _ Ir.o).trans ((Ry _ _ _ _ _ _ (by omega)).trans HQ1.o);have En:=(Aj.block _ HX2.o).trans (A0x Gz.o _ _ _ _ _);obtain⟨w4,hw4⟩:∃w4,w4=(((((w3.setCell ⟨w.heap.size,0,none⟩ (.int .i64 (m.pop.top.k:Nat))).setCell ⟨w.heap.size,1,none⟩ (.bool m.pop.top.y)).setCell ⟨w.heap.size,2,none⟩ (.int .i64 m.pop.top.n)).setCell ⟨w.heap.size,3,none⟩ (.string ⟨m.pop.top.t.toArray⟩)).setCell ⟨w.heap.size,4,none⟩ (.pointer (Ca β m.pop.top))):=⟨_,rfl⟩;have Ah:w4.heap[w.heap.size]?=some (.cells #[.int .i64 (m.pop.top.k:Nat),.bool m.pop.top.y,.int .i64 m.pop.top.n,.string ⟨m.pop.top.t.toArray⟩,.pointer (Ca β m.pop.top)] 225 (0,0)):=by rw[hw4];exact A0x hq1 _ _ _ _ _
 have Au:w4.heap[w.heap.size+1]?=some (.cells #[.int .i64 (m.top.k:Nat),.bool m.top.y,.int .i64 m.top.n,.string ⟨m.top.t.toArray⟩,.pointer (Ca β m.top)] 225 (0,0)):=by rw[hw4];exact(Ry _ _ _ _ _ _ (by omega)).trans En
 have hm4:C.Ms D (fun g=>X g\/(w.heap.size<=g/\g<w0.heap.size)) β w4 m.pop.pop:=by rw[hw4];exact h3.Sm HXY.o HND1.o _ _ _ _ _
 have hne1:∀k,dx D X k->k≠w.heap.size:=fun k hk=>by have:=HPr.o k hk;omega
 have hne2:∀k,dx D X k->k≠w.heap.size+1:=fun k hk=>by have:=HPr.o k hk;omega
 have hb34:A3 (dx D X) w3 w4:=by rw[hw4];exact Sb hne1 _ _ _ _ _
 have hb13:A3 (dx D X) w1 w3:=A3.trans (Sb hne2 _ _ _ _ _) (A3.weak Aj (fun g hg=>hg.imp id .inl));have B4:A3 (dx D X) w w4:=Ae.o.trans (A3.trans (A3.weak A5.o (fun g hg=>hg.imp id .inl)) (hb13.trans hb34));have HNe1:=A0 hne1;have HNe2:=A0 hne2;clear hb34 hb13 hne1 hne2;obtain⟨u0,u1,u2,u3,u4,fu,lu⟩:=Mj hq1;have HW4:=A0 hw4;have HM4:=A0 hm4;have Ci:=A0 B4;have Fu:=A0 Ah;have I6:=A0 Au;clear h3 Aj hq1 En p0 p1 p2 p3 p4 fp lp r0 r1 r2 r3 r4 fr lr hw4 hm4 B4 Ah Au;unfold Bg;go_wp2;rw[←HW4.o];clear HW4 u0 u1 u2 u3 u4 fu lu;obtain⟨u0,u1,u2,u3,u4,fu,lu⟩:=Mj Fu.o;obtain⟨v0,v1,v2,v3,v4,fv,lv⟩:=Mj I6.o;go_region
 all_goals go_wp2
 all_goals refine bodyPost_ret (v:=.tuple #[.agg #[.int .i64 (m.pop.top.k:Nat),.bool m.pop.top.y,.int .i64 m.pop.top.n,.string ⟨m.pop.top.t.toArray⟩,.pointer (Ca β m.pop.top)],.agg #[.int .i64 (m.top.k:Nat),.bool m.top.y,.int .i64 m.top.n,.string ⟨m.top.t.toArray⟩,.pointer (Ca β m.top)]]) (by simp[results,Tryz.results210,go_sem,u0,u1,u2,u3,u4,v0,v1,v2,v3,v4]) rfl ?_
 all_goals
  have q1:=(HM4.o.Sm HXY.o HND1.o (.int .i64 (m.pop.top.k:Nat)) (.bool m.pop.top.y) (.int .i64 m.pop.top.n) (.string ⟨m.pop.top.t.toArray⟩) (.pointer (Ca β m.pop.top))).Sm HXX.o HND2.o (.int .i64 (m.top.k:Nat)) (.bool m.top.y) (.int .i64 m.top.n) (.string ⟨m.top.t.toArray⟩) (.pointer (Ca β m.top));have q2:=(Sb (w:=w4) HNe1.o (.int .i64 (m.pop.top.k:Nat)) (.bool m.pop.top.y) (.int .i64 m.pop.top.n) (.string ⟨m.pop.top.t.toArray⟩) (.pointer (Ca β m.pop.top))).trans (Sb HNe2.o (.int .i64 (m.top.k:Nat)) (.bool m.top.y) (.int .i64 m.top.n) (.string ⟨m.top.t.toArray⟩) (.pointer (Ca β m.top)));exact⟨rfl,q1.Am8,Ci.o.trans (q2.trans (E6 _ _ 1))⟩
def E9(X:Nat->Prop)(w:World):Nat->Prop:=fun g=>X g\/(w.heap.size<=g/\g<w.heap.size+1)
theorem MC.Ms.back(h:C.Ms D (E9 X w) β w' m):C.Ms D X β w' m:=h.less (fun _ h=>.inl h) (fun _ _ _=>rfl) rfl
theorem Ag{w1 w2:World}(h:A3 (dx D (E9 X w)) w1 w2):A3 (dx D X) w1 w2:=h.weak (fun _ hg=>hg.imp id .inl)
theorem MC.Ms.Jo(h:C.Ms D X β w m):C.Ms D X β w.drew m:=(h.below (w':=w.drew) ⟨rfl,rfl,rfl,Nat.le_refl _,fun _ _=>rfl⟩).1
theorem MC.Ms.enter(h:C.Ms D X β w m)(o:Obj):C.Ms D (E9 X w) β (w.alloc o) m/\A3 (dx D X) w (w.alloc o)/\dx D (E9 X w) w.heap.size:=by
 have hb:Below w.heap.size w (w.alloc o):=Below.alloc (Below.refl _ _) (Nat.le_refl _) _;refine⟨?_,(h.below hb).2,.inr (.inr ⟨Nat.le_refl _,by omega⟩)⟩;have:=h.more hb;rw[World.size_alloc]at this;exact this
theorem B9{w:World}{b:Nat}{a0 a1 a2 a3 a4 a5 a6 a7:Value}{t:TypeId}(h:w.heap[b]?=some (.cells #[a0,a1,a2,a3,a4,a5,a6,a7] t (0,0))):w.cell? ⟨b,0,none⟩=some a0/\w.cell? ⟨b,1,none⟩=some a1/\w.cell? ⟨b,2,none⟩=some a2/\w.cell? ⟨b,3,none⟩=some a3/\w.cell? ⟨b,4,none⟩=some a4/\w.cell? ⟨b,5,none⟩=some a5/\w.cell? ⟨b,6,none⟩=some a6/\w.cell? ⟨b,7,none⟩=some a7/\b<w.heap.size:=
 ⟨A2 h 0 _ rfl,A2 h 1 _ rfl,A2 h 2 _ rfl,A2 h 3 _ rfl,A2 h 4 _ rfl,A2 h 5 _ rfl,A2 h 6 _ rfl,A2 h 7 _ rfl,A4 h⟩
theorem MC.Ms.Ch(h:C.Ms D X β w m)(i:Ad):∃w0,Hid (w0=w.alloc (.cells #[.int .i64 (i.op:Nat),.int .i64 i.arg,.int .i64 (i.line:Nat),.int .i64 (i.v.k:Nat),.bool i.v.y,.int .i64 i.v.n,.string ⟨i.v.t.toArray⟩,.pointer none] 251))/\Hid (C.Ms D (E9 X w) β w0 m)/\Hid (A3 (dx D X) w w0)/\Hid (dx D (E9 X w) w.heap.size)/\Hid (w0.heap[w.heap.size]?=some (.cells #[.int .i64 (i.op:Nat),.int .i64 i.arg,.int .i64 (i.line:Nat),.int .i64 (i.v.k:Nat),.bool i.v.y,.int .i64 i.v.n,.string ⟨i.v.t.toArray⟩,.pointer none] 251 (0,0)))/\w0.cell? ⟨w.heap.size,0,none⟩=some (.int .i64 (i.op:Nat))/\w0.cell? ⟨w.heap.size,1,none⟩=some (.int .i64 i.arg)/\w0.cell? ⟨w.heap.size,2,none⟩=some (.int .i64 (i.line:Nat))/\w0.cell? ⟨w.heap.size,3,none⟩=some (.int .i64 (i.v.k:Nat))/\w0.cell? ⟨w.heap.size,4,none⟩=some (.bool i.v.y)/\w0.cell? ⟨w.heap.size,5,none⟩=some (.int .i64 i.v.n)/\w0.cell? ⟨w.heap.size,6,none⟩=some (.string ⟨i.v.t.toArray⟩)/\w0.cell? ⟨w.heap.size,7,none⟩=some (.pointer none)/\w.heap.size<w0.heap.size/\C.mb<w.heap.size/\C.mb<w0.heap.size:=by
 obtain⟨h0,Bi,F3⟩:=h.enter (.cells #[.int .i64 (i.op:Nat),.int .i64 i.arg,.int .i64 (i.line:Nat),.int .i64 (i.v.k:Nat),.bool i.v.y,.int .i64 i.v.n,.string ⟨i.v.t.toArray⟩,.pointer none] 251);have hi0:=heap_alloc_new w (.cells #[.int .i64 (i.op:Nat),.int .i64 i.arg,.int .i64 (i.line:Nat),.int .i64 (i.v.k:Nat),.bool i.v.y,.int .i64 i.v.n,.string ⟨i.v.t.toArray⟩,.pointer none] 251);obtain⟨n0,n1,n2,n3,n4,n5,n6,n7,ln⟩:=B9 hi0;exact⟨_,A0 rfl,A0 h0,A0 Bi,A0 F3,A0 hi0,n0,n1,n2,n3,n4,n5,n6,n7,ln,h.B7,h0.B7⟩
theorem aconst(h:C.Ms D X β w m)(i:Ad)(hr:i.v.r=none)(hk:i.v.k≠4)(hn:m.vals.length+1<=100000):Calls Tryz.prog 148 #[.pointer (some ⟨C.mb,0,none⟩),Ac i] w (MP C D X β w (m.push i.v) (.tuple #[])):=by
 obtain⟨w0,Aq,Av,Ae,As,Aw,n0,n1,n2,n3,n4,n5,n6,n7,ln,lb,Ce⟩:=h.Ch i;clear h;have HP:=A0 ((Av.o.Jo).push i.v (by unfold Dy;rw[hr];exact hk) hn);have hrf:Ca β i.v=none:=by unfold Ca;rw[hr]
 unfold Bg at HP;rw[hrf]at HP;clear hr hrf;unfold Ac;go_enter Tryz.func148,Tryz.ntmps148;go_wp2;rw[←Aq.o];refine Ji 5 (by kernel_rfl) (by kernel_rfl) ?_;simp only[List.take_succ_cons,List.take_zero,List.drop_succ_cons,List.drop_zero];iterate 5 (refine Fa (fun K' hK'=>?_);go_simp;refine hK' _ ?_;clear hK' K')
 refine Jk ?_;go_wp2_with fail
 refine(HP.o).mono ?_;rintro e w1 ⟨rfl,h1,k1⟩;have A9:=A0 h1.back;have A5:Hid (A3 (dx D X) w w1):=Ae.o.trans ((E6 _ w0 1).trans (Ag k1));clear h1 k1;go_wp2;go_end0;exact⟨rfl,A9.o,A5.o⟩
theorem A45(h:C.Ms D X β w m)(i:Ad):Calls Tryz.prog 153 #[.pointer (some ⟨C.mb,0,none⟩),Ac i] w (MP C D X β w (m.pop) (.tuple #[])):=by
 obtain⟨w0,Aq,Av,Ae,As,Aw,n0,n1,n2,n3,n4,n5,n6,n7,ln,lb,Ce⟩:=h.Ch i;clear h;have HP:=A0 Av.o.pop;unfold Ac;go_enter Tryz.func153,Tryz.ntmps153;go_wp2_with fail
 rw[←Aq.o];refine HP.o.mono ?_;rintro e w1 ⟨rfl,h1,k1⟩;have A9:=A0 h1.back;have A5:Hid (A3 (dx D X) w w1):=Ae.o.trans (Ag k1);clear h1 k1;unfold Bg;go_wp2;go_end0;exact⟨rfl,A9.o,A5.o⟩
theorem A78(h:C.Ms D X β w m)(i:Ad):Calls Tryz.prog 157 #[.pointer (some ⟨C.mb,0,none⟩),Ac i] w (MP C D X β w (if m.top.k=1 then m else m.fail 5 i) (.tuple #[])):=by
 obtain⟨w0,Aq,Av,Ae,As,Aw,n0,n1,n2,n3,n4,n5,n6,n7,ln,lb,Ce⟩:=h.Ch i;clear h;have HP:=A0 Av.o.top;have HF:=A0 (fun(W:World) (hs:C.Ms D (E9 X w) β W m)=>Jg hs 5 i);have vf0:=Tj;by_cases hk:m.top.k=1
 ·have t1:(((m.top.k:Nat):Int) !=1)=false:=by rw[hk];rfl
  rw[if_pos hk];clear hk;unfold Ac;go_enter Tryz.func157,Tryz.ntmps157;go_wp2_with fail
  rw[←Aq.o];refine HP.o.mono ?_;rintro e w1 ⟨rfl,h1,k1⟩;have A9:=A0 h1.back;have A5:Hid (A3 (dx D X) w w1):=Ae.o.trans (Ag k1);clear h1 k1;unfold Bg;go_wp2;go_end0;exact⟨rfl,A9.o,A5.o⟩
 ·have t1:(((m.top.k:Nat):Int) !=1)=true:=by rw[bne_iff_ne];omega
  rw[if_neg hk];clear hk;unfold Ac;go_enter Tryz.func157,Tryz.ntmps157;go_wp2_with fail
  rw[←Aq.o];refine HP.o.mono ?_;rintro e w1 ⟨rfl,h1,k1⟩;have Ab:=(k1.block _ As.o).trans Aw.o;have HF1:=A0 (HF.o w1 h1);have A5:Hid (A3 (dx D X) w w1):=Ae.o.trans (Ag k1);clear n0 n1 n2 n3 n4 n5 n6 n7 ln;obtain⟨n0,n1,n2,n3,n4,n5,n6,n7,ln⟩:=B9 Ab;clear h1 k1 Ab;unfold Bg;unfold Ac at HF1;go_wp2_with fail
  refine HF1.o.mono ?_;rintro e w2 ⟨rfl,h2,k2⟩;have Ak:=A0 h2.back;have Aa:Hid (A3 (dx D X) w w2):=A5.o.trans (Ag k2);clear h2 k2;go_wp2;go_end0;exact⟨rfl,Ak.o,Aa.o⟩
theorem Qd(h:C.Ms D X β w m)(i:Ad)(hb:m.both 2=true):Calls Tryz.prog 251 #[.pointer (some ⟨C.mb,0,none⟩),Ac i] w (MP C D X β w (m) (.bool true)):=by
 obtain⟨w0,Aq,Av,Ae,As,Aw,n0,n1,n2,n3,n4,n5,n6,n7,ln,lb,Ce⟩:=h.Ch i;clear h;have HP:=A0 (J1 Av.o 2);rw[hb]at HP;have HF:=A0 (fun(W:World) (hs:C.Ms D (E9 X w) β W m)=>Jg hs 5 i);clear hb;unfold Ac;go_enter Tryz.func251,Tryz.ntmps251;go_wp2_with fail
 rw[←Aq.o];refine HP.o.mono ?_;rintro e w1 ⟨rfl,h1,k1⟩;have A9:=A0 h1.back;have A5:Hid (A3 (dx D X) w w1):=Ae.o.trans (Ag k1);clear h1 k1 HF;go_wp2;go_ret;exact⟨rfl,A9.o,A5.o⟩
theorem Qv(h:C.Ms D X β w m)(i:Ad)(hb:m.both 2=false):Calls Tryz.prog 251 #[.pointer (some ⟨C.mb,0,none⟩),Ac i] w (MP C D X β w (m.fail 5 i) (.bool false)):=by
 obtain⟨w0,Aq,Av,Ae,As,Aw,n0,n1,n2,n3,n4,n5,n6,n7,ln,lb,Ce⟩:=h.Ch i;clear h;have HP:=A0 (J1 Av.o 2);rw[hb]at HP;have HF:=A0 (fun(W:World) (hs:C.Ms D (E9 X w) β W m)=>Jg hs 5 i);clear hb;unfold Ac;go_enter Tryz.func251,Tryz.ntmps251;go_wp2_with fail
 rw[←Aq.o];refine HP.o.mono ?_;rintro e w1 ⟨rfl,h1,k1⟩;have Ab:=(k1.block _ As.o).trans Aw.o;have HF1:=A0 (HF.o w1 h1);have A5:Hid (A3 (dx D X) w w1):=Ae.o.trans (Ag k1);clear n0 n1 n2 n3 n4 n5 n6 n7 ln;obtain⟨n0,n1,n2,n3,n4,n5,n6,n7,ln⟩:=B9 Ab;clear h1 k1 Ab;unfold Ac at HF1;go_wp2_with fail
 refine HF1.o.mono ?_;rintro e w2 ⟨rfl,h2,k2⟩;have Ak:=A0 h2.back;have Aa:Hid (A3 (dx D X) w w2):=A5.o.trans (Ag k2);clear h2 k2;go_wp2;go_ret;exact⟨rfl,Ak.o,Aa.o⟩
theorem A8y(h:C.Ms D X β w m)(i:Ad)(ho:i.op=16)(hn:m.vals.length+1<=100000):Calls Tryz.prog 214 #[.pointer (some ⟨C.mb,0,none⟩),Ac i] w (MP C D X β w (m.two fun a b m'=>m'.push (ofInt (wr (a.n-b.n)))) (.tuple #[])):=by
 obtain⟨w0,Aq,Av,Ae,As,Aw,n0,n1,n2,n3,n4,n5,n6,n7,ln,lb,Ce⟩:=h.Ch i;clear h;have HT:=A0 (Fe Av.o);have HP:=A0 (fun(W:World) (hs:C.Ms D (E9 X w) β W m.pop.pop)=>Lg hs (wr (m.pop.top.n-m.top.n)) (by simp[MS.pop];omega));have t0:((i.op:Int)==15)=false:=by rw[ho];rfl
 have t1:((i.op:Int)==16)=true:=by rw[ho];rfl
 unfold Bg at HT;clear ho;unfold Ac;go_enter Tryz.func214,Tryz.ntmps214;go_wp2_with fail
 rw[←Aq.o];refine HT.o.mono ?_;rintro e w1 ⟨rfl,h1,k1⟩;have Bt:=h1.B7;have A8:Below w1.heap.size w1 ((w1.alloc (.cells #[.int .i64 (m.pop.top.k:Nat),.bool m.pop.top.y,.int .i64 m.pop.top.n,.string ⟨m.pop.top.t.toArray⟩,.pointer (Ca β m.pop.top)] 225)).alloc (.cells #[.int .i64 (m.top.k:Nat),.bool m.top.y,.int .i64 m.top.n,.string ⟨m.top.t.toArray⟩,.pointer (Ca β m.top)] 225)):=Below.alloc (Below.alloc (Below.refl _ _) (Nat.le_refl _) _) (by simp) _;have Ay:=A0 (HP.o _ (h1.below A8).1);have Aa:Hid (A3 (dx D X) w ((w1.alloc (.cells #[.int .i64 (m.pop.top.k:Nat),.bool m.pop.top.y,.int .i64 m.pop.top.n,.string ⟨m.pop.top.t.toArray⟩,.pointer (Ca β m.pop.top)] 225)).alloc (.cells #[.int .i64 (m.top.k:Nat),.bool m.top.y,.int .i64 m.top.n,.string ⟨m.top.t.toArray⟩,.pointer (Ca β m.top)] 225))):=Ae.o.trans ((Ag k1).trans (Ag (h1.below A8).2));clear h1 k1 A8;go_wp2_with fail
 refine Ay.o.mono ?_;rintro e w3 ⟨rfl,h3,k3⟩;have Bh:=A0 h3.back;have At:Hid (A3 (dx D X) w w3):=Aa.o.trans (Ag k3);clear h3 k3;go_wp2;go_end0;exact⟨rfl,Bh.o,At.o⟩
theorem Akf(h:C.Ms D X β w m)(i:Ad)(ho:i.op=15)(hn:m.vals.length+1<=100000):Calls Tryz.prog 214 #[.pointer (some ⟨C.mb,0,none⟩),Ac i] w (MP C D X β w (m.ints i (fun a b m'=>m'.push (ofInt (wr (a-b))))) (.tuple #[])):=by
 obtain⟨w0,Aq,Av,Ae,As,Aw,n0,n1,n2,n3,n4,n5,n6,n7,ln,lb,Ce⟩:=h.Ch i;clear h;have HP:=A0 (fun(W:World) (hs:C.Ms D (E9 X w) β W m.pop.pop)=>Lg hs (wr (m.pop.top.n-m.top.n)) (by simp[MS.pop];omega));have t0:((i.op:Int)==15)=true:=by rw[ho];rfl
 have HTw:=A0 (fun(W:World) (hs:C.Ms D (E9 X w) β W m)=>Fe hs);unfold MS.ints;clear ho;cases hb:m.both 2
 ·rw[if_neg (by simp)];have HA:=A0 (Qv Av.o i hb);unfold Ac at HA;clear hb HP HTw;unfold Ac;go_enter Tryz.func214,Tryz.ntmps214;go_wp2_with fail
  rw[←Aq.o];refine HA.o.mono ?_;rintro e w1 ⟨rfl,h1,k1⟩;have A9:=A0 h1.back;have A5:Hid (A3 (dx D X) w w1):=Ae.o.trans (Ag k1);clear h1 k1;go_wp2;refine bodyPost_ret (v:=.tuple #[]) (by simp[results,Tryz.results214,go_sem]) rfl ?_;exact⟨rfl,A9.o,A5.o⟩
 ·rw[if_pos rfl];have HA:=A0 (Qd Av.o i hb);unfold Ac at HA;clear hb;unfold Ac;go_enter Tryz.func214,Tryz.ntmps214;go_wp2_with fail
  rw[←Aq.o];refine HA.o.mono ?_;rintro e w9 ⟨rfl,h9,k9⟩;have HTx:=A0 (HTw.o w9 h9);unfold Bg at HTx;have Cz:Hid (A3 (dx D X) w w9):=Ae.o.trans (Ag k9);have lb9:=h9.B7;clear h9 k9;go_wp2_with fail
  refine HTx.o.mono ?_;rintro e w1 ⟨rfl,h1,k1⟩;have Bt:=h1.B7;have A8:Below w1.heap.size w1 ((w1.alloc (.cells #[.int .i64 (m.pop.top.k:Nat),.bool m.pop.top.y,.int .i64 m.pop.top.n,.string ⟨m.pop.top.t.toArray⟩,.pointer (Ca β m.pop.top)] 225)).alloc (.cells #[.int .i64 (m.top.k:Nat),.bool m.top.y,.int .i64 m.top.n,.string ⟨m.top.t.toArray⟩,.pointer (Ca β m.top)] 225)):=Below.alloc (Below.alloc (Below.refl _ _) (Nat.le_refl _) _) (by simp) _;have Ay:=A0 (HP.o _ (h1.below A8).1);have Aa:Hid (A3 (dx D X) w ((w1.alloc (.cells #[.int .i64 (m.pop.top.k:Nat),.bool m.pop.top.y,.int .i64 m.pop.top.n,.string ⟨m.pop.top.t.toArray⟩,.pointer (Ca β m.pop.top)] 225)).alloc (.cells #[.int .i64 (m.top.k:Nat),.bool m.top.y,.int .i64 m.top.n,.string ⟨m.top.t.toArray⟩,.pointer (Ca β m.top)] 225))):=Cz.o.trans ((Ag k1).trans (Ag (h1.below A8).2));clear h1 k1 A8;go_wp2_with fail
  refine Ay.o.mono ?_;rintro e w3 ⟨rfl,h3,k3⟩;have Bh:=A0 h3.back;have At:Hid (A3 (dx D X) w w3):=Aa.o.trans (Ag k3);clear h3 k3;go_wp2;go_end0;exact⟨rfl,Bh.o,At.o⟩
theorem Aho(h:C.Ms D X β w m)(i:Ad)(ho:i.op=18)(hn:m.vals.length+1<=100000):Calls Tryz.prog 215 #[.pointer (some ⟨C.mb,0,none⟩),Ac i] w (MP C D X β w (m.two fun a b m'=>m'.push (ofInt (wr (a.n*b.n)))) (.tuple #[])):=by
 obtain⟨w0,Aq,Av,Ae,As,Aw,n0,n1,n2,n3,n4,n5,n6,n7,ln,lb,Ce⟩:=h.Ch i;clear h;have HT:=A0 (Fe Av.o);have HP:=A0 (fun(W:World) (hs:C.Ms D (E9 X w) β W m.pop.pop)=>Lg hs (wr (m.pop.top.n*m.top.n)) (by simp[MS.pop];omega));have t0:((i.op:Int)==17)=false:=by rw[ho];rfl
 have t1:((i.op:Int)==18)=true:=by rw[ho];rfl
 unfold Bg at HT;clear ho;unfold Ac;go_enter Tryz.func215,Tryz.ntmps215;go_wp2_with fail
 rw[←Aq.o];refine HT.o.mono ?_;rintro e w1 ⟨rfl,h1,k1⟩;have Bt:=h1.B7;have A8:Below w1.heap.size w1 ((w1.alloc (.cells #[.int .i64 (m.pop.top.k:Nat),.bool m.pop.top.y,.int .i64 m.pop.top.n,.string ⟨m.pop.top.t.toArray⟩,.pointer (Ca β m.pop.top)] 225)).alloc (.cells #[.int .i64 (m.top.k:Nat),.bool m.top.y,.int .i64 m.top.n,.string ⟨m.top.t.toArray⟩,.pointer (Ca β m.top)] 225)):=Below.alloc (Below.alloc (Below.refl _ _) (Nat.le_refl _) _) (by simp) _;have Ay:=A0 (HP.o _ (h1.below A8).1);have Aa:Hid (A3 (dx D X) w ((w1.alloc (.cells #[.int .i64 (m.pop.top.k:Nat),.bool m.pop.top.y,.int .i64 m.pop.top.n,.string ⟨m.pop.top.t.toArray⟩,.pointer (Ca β m.pop.top)] 225)).alloc (.cells #[.int .i64 (m.top.k:Nat),.bool m.top.y,.int .i64 m.top.n,.string ⟨m.top.t.toArray⟩,.pointer (Ca β m.top)] 225))):=Ae.o.trans ((Ag k1).trans (Ag (h1.below A8).2));clear h1 k1 A8;go_wp2_with fail
 refine Ay.o.mono ?_;rintro e w3 ⟨rfl,h3,k3⟩;have Bh:=A0 h3.back;have At:Hid (A3 (dx D X) w w3):=Aa.o.trans (Ag k3);clear h3 k3;go_wp2;go_end0;exact⟨rfl,Bh.o,At.o⟩
theorem A2w(h:C.Ms D X β w m)(i:Ad)(ho:i.op=17)(hn:m.vals.length+1<=100000):Calls Tryz.prog 215 #[.pointer (some ⟨C.mb,0,none⟩),Ac i] w (MP C D X β w (m.ints i (fun a b m'=>m'.push (ofInt (wr (a*b))))) (.tuple #[])):=by
 obtain⟨w0,Aq,Av,Ae,As,Aw,n0,n1,n2,n3,n4,n5,n6,n7,ln,lb,Ce⟩:=h.Ch i;clear h;have HP:=A0 (fun(W:World) (hs:C.Ms D (E9 X w) β W m.pop.pop)=>Lg hs (wr (m.pop.top.n*m.top.n)) (by simp[MS.pop];omega));have t0:((i.op:Int)==17)=true:=by rw[ho];rfl
 have HTw:=A0 (fun(W:World) (hs:C.Ms D (E9 X w) β W m)=>Fe hs);unfold MS.ints;clear ho;cases hb:m.both 2
 ·rw[if_neg (by simp)];have HA:=A0 (Qv Av.o i hb);unfold Ac at HA;clear hb HP HTw;unfold Ac;go_enter Tryz.func215,Tryz.ntmps215;go_wp2_with fail
  rw[←Aq.o];refine HA.o.mono ?_;rintro e w1 ⟨rfl,h1,k1⟩;have A9:=A0 h1.back;have A5:Hid (A3 (dx D X) w w1):=Ae.o.trans (Ag k1);clear h1 k1;go_wp2;refine bodyPost_ret (v:=.tuple #[]) (by simp[results,Tryz.results215,go_sem]) rfl ?_;exact⟨rfl,A9.o,A5.o⟩
 ·rw[if_pos rfl];have HA:=A0 (Qd Av.o i hb);unfold Ac at HA;clear hb;unfold Ac;go_enter Tryz.func215,Tryz.ntmps215;go_wp2_with fail
  rw[←Aq.o];refine HA.o.mono ?_;rintro e w9 ⟨rfl,h9,k9⟩;have HTx:=A0 (HTw.o w9 h9);unfold Bg at HTx;have Cz:Hid (A3 (dx D X) w w9):=Ae.o.trans (Ag k9);have lb9:=h9.B7;clear h9 k9;go_wp2_with fail
  refine HTx.o.mono ?_;rintro e w1 ⟨rfl,h1,k1⟩;have Bt:=h1.B7;have A8:Below w1.heap.size w1 ((w1.alloc (.cells #[.int .i64 (m.pop.top.k:Nat),.bool m.pop.top.y,.int .i64 m.pop.top.n,.string ⟨m.pop.top.t.toArray⟩,.pointer (Ca β m.pop.top)] 225)).alloc (.cells #[.int .i64 (m.top.k:Nat),.bool m.top.y,.int .i64 m.top.n,.string ⟨m.top.t.toArray⟩,.pointer (Ca β m.top)] 225)):=Below.alloc (Below.alloc (Below.refl _ _) (Nat.le_refl _) _) (by simp) _;have Ay:=A0 (HP.o _ (h1.below A8).1);have Aa:Hid (A3 (dx D X) w ((w1.alloc (.cells #[.int .i64 (m.pop.top.k:Nat),.bool m.pop.top.y,.int .i64 m.pop.top.n,.string ⟨m.pop.top.t.toArray⟩,.pointer (Ca β m.pop.top)] 225)).alloc (.cells #[.int .i64 (m.top.k:Nat),.bool m.top.y,.int .i64 m.top.n,.string ⟨m.top.t.toArray⟩,.pointer (Ca β m.top)] 225))):=Cz.o.trans ((Ag k1).trans (Ag (h1.below A8).2));clear h1 k1 A8;go_wp2_with fail
  refine Ay.o.mono ?_;rintro e w3 ⟨rfl,h3,k3⟩;have Bh:=A0 h3.back;have At:Hid (A3 (dx D X) w w3):=Aa.o.trans (Ag k3);clear h3 k3;go_wp2;go_end0;exact⟨rfl,Bh.o,At.o⟩
end
end Go.Proofs.YtjdlndhfaaolaaaGreatDoor
