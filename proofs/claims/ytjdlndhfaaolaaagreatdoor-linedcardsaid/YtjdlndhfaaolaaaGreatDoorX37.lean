import Derived.Test.YtjdlndhfaaolaaaGreatDoorX15
import Derived.Test.YtjdlndhfaaolaaaGreatDoorX35
import Derived.Test.YtjdlndhfaaolaaaGreatDoorX36
set_option maxHeartbeats 20000000
namespace Go.Proofs.YtjdlndhfaaolaaaGreatDoor
section
set_option maxRecDepth 100000
open Go.RowKit
open Go.Deep (BT)
structure Eo where
 a:Option Addr
 n:Nat
 c:Nat
 pc:Nat
 base:Int
def Np:Eo:=⟨none,0,0,0,0⟩
def Ic(x:Eo):List Value:=[.slice x.a x.n x.c,.int .i64 (x.pc:Nat),.int .i64 x.base]
theorem Adi:(Tryz.prog.info? 165).map (fun i=>(i.zero,i.size,i.bytes))=some (some (.agg #[.slice none 0 0,.int .i64 0,.int .i64 0]),3,40):=by kernel_rfl
variable {b o:Nat}{w:World}{cs:Array Value}{t:TypeId}{va:Option Addr}{vn vc:Nat}{xs:List Eo}
theorem Xh(h:E9 165 3 Ic b o w cs t va vn vc xs):Calls Tryz.prog 202 #[.pointer (some ⟨b,o,none⟩)] w fun e w'=>e=.returned (.int .i64 (xs.length:Nat))/\w'=w:=by
 have c:=Ea h.blk h.cell;have lb:=A6 h.blk;have hv:vn=xs.length:=(Cf h.own).1;subst hv;clear h;go_enter Tryz.func202,Tryz.ntmps202;exact z46a
theorem Ad2(h:E9 165 3 Ic b o w cs t va vn vc xs)(i:Nat)(hi:i<xs.length)(hb:xs.length<=1000000):Calls Tryz.prog 280 #[.pointer (some ⟨b,o,none⟩),.int .i64 (i:Nat)] w fun e w'=>e=.returned (.agg #[.slice (xs[i]).a (xs[i]).n (xs[i]).c,.int .i64 ((xs[i]).pc:Nat),.int .i64 (xs[i]).base])/\Below w.heap.size w w':=by
 have c:=Ea h.blk h.cell;have lb:=A6 h.blk;have hv:vn=xs.length:=(Cf h.own).1;subst hv;obtain⟨g,rfl,hvn9,hcap,lg,hcell⟩:=Hg h.own z4sa;clear hvn9;have d0:=hcell (i*3+0) _ ((G5 (sz:=3) (fun _=>rfl) xs i 0 hi z4sa).trans rfl);have d1:=hcell (i*3+1) _ ((G5 (sz:=3) (fun _=>rfl) xs i 1 hi z4sa).trans rfl);have d2:=hcell (i*3+2) _ ((G5 (sz:=3) (fun _=>rfl) xs i 2 hi z4sa).trans rfl);rw[Nat.add_zero]at d0;clear h hcell;generalize xs[i]=x at *;go_enter Tryz.func280,Tryz.ntmps280;go_wp2;refine bodyPost_ret (v:=.agg #[.slice x.a x.n x.c,.int .i64 (x.pc:Nat),.int .i64 x.base]) (by simp[results,Tryz.results280,go_sem]) rfl ⟨rfl,?_⟩;exact Below.alloc (Below.refl _ _) (Nat.le_refl _) _
theorem z22a {P:Prop} (h:P:=by
  clear hi;go_enter Tryz.func280,Tryz.ntmps280;go_wp2;refine bodyPost_ret (v:=.agg #[.slice none 0 0,.int .i64 0,.int .i64 0]) (by simp[results,Tryz.results280,go_sem]) rfl ⟨rfl,?_⟩;exact z0ua):P:=h
theorem A11(h:E9 165 3 Ic b o w cs t va vn vc xs)(i:Int)(hi:i<0\/(xs.length:Int)<=i):Calls Tryz.prog 280 #[.pointer (some ⟨b,o,none⟩),.int .i64 i] w fun e w'=>e=.returned (.agg #[.slice none 0 0,.int .i64 0,.int .i64 0])/\Below w.heap.size w w':=by
 have c:=Ea h.blk h.cell;have lb:=A6 h.blk;have hv:vn=xs.length:=(Cf h.own).1;subst hv;clear h;by_cases h0:i<0
 ·exact z22a
 ·have h1:(xs.length:Int)<=i:=by omega
  exact z22a
theorem Acy(h:E9 165 3 Ic b o w cs t va vn vc xs)(i:Int)(hb:xs.length<=1000000)(x:Eo)(hx:x=if i<0 then Np else(xs[i.toNat]?).getD Np):Calls Tryz.prog 280 #[.pointer (some ⟨b,o,none⟩),.int .i64 i] w fun e w'=>e=.returned (.agg #[.slice x.a x.n x.c,.int .i64 (x.pc:Nat),.int .i64 x.base])/\Below w.heap.size w w':=by
 by_cases h0:i<0
 ·rw[if_pos h0]at hx;subst hx;exact A11 h i (.inl h0)
 ·rw[if_neg h0]at hx;by_cases h1:i.toNat<xs.length
  ·rw[List.getElem?_eq_getElem h1]at hx;have:=Ad2 h i.toNat h1 hb;rw[show((i.toNat:Nat):Int)=i by omega]at this;rw[hx];exact this
  ·rw[List.getElem?_eq_none z4sa]at hx;subst hx;exact A11 h i (.inr z4sa)
theorem Ad4(h:E9 165 3 Ic b o w cs t va vn vc xs)(hn:xs.length<=900000)(u:Eo)(ho:o<cs.size):Calls Tryz.prog 203 #[.pointer (some ⟨b,o,none⟩),.agg #[.slice u.a u.n u.c,.int .i64 (u.pc:Nat),.int .i64 u.base]] w fun e w'=>e=.returned (.tuple #[])/\Zy 165 3 Ic b o w cs t va vn vc xs u w':=by
 have hS0:E9 165 3 Ic b o (w.alloc (.cells #[.slice u.a u.n u.c,.int .i64 (u.pc:Nat),.int .i64 u.base] 165)) cs t va vn vc xs:=h.keep (fun g hg=>Below.heap_alloc _ _ _ hg);have Bv:Below w.heap.size w (w.alloc (.cells #[.slice u.a u.n u.c,.int .i64 (u.pc:Nat),.int .i64 u.base] 165)):=Below.alloc (Below.refl _ _) (Nat.le_refl _) _;have Hf:=heap_alloc_new w (.cells #[.slice u.a u.n u.c,.int .i64 (u.pc:Nat),.int .i64 u.base] 165);have hlr:=Bg h.own;clear h;generalize hW:w.alloc (.cells #[.slice u.a u.n u.c,.int .i64 (u.pc:Nat),.int .i64 u.base] 165)=w0 at *;generalize hxb:w.heap.size=xb at *;have HW:=A0 hW;have HXb:=A0 hxb;have Ae:=A0 Bv;have hsz0:=Bv.size;clear hW Bv;have c:=Ea hS0.blk hS0.cell;have lb:=A6 hS0.blk;have hv:vn=xs.length:=(Cf hS0.own).1;subst hv;have x0:=A7 Hf 0 _ rfl;have x1:=A7 Hf 1 _ rfl;have x2:=A7 Hf 2 _ rfl;have lx:=A6 Hf;have hown:w0.drew.ownsRow 0 165 3 (.slice va xs.length vc) xs.length (C5 Ic xs):=B2 hS0.own (fun _ _ _=>rfl);have HH:=A0 hS0;have HNe:=A0 hS0.ne;have HLr:=A0 hlr;clear hS0 Hf hxb hlr;go_enter Tryz.func203,Tryz.ntmps203;go_wp2;rw[HW.o,HXb.o];go_region_law (refine Nw _ w0.heap.size #[.slice u.a u.n u.c,.int .i64 (u.pc:Nat),.int .i64 u.base] 165 (heap_alloc_new w0.drew _) rfl (.tmp 8) (.tmp 10) 161 rfl 0 3 40 _ Tryz.underlying161 Adi rfl z4sa (.slice va xs.length vc) xs.length (C5 Ic xs) rfl rfl (hown.alloc _) rfl (fun v hv=>by simp at hv;rcases hv with rfl|rfl|rfl <;> rfl) z4sa z4sa (Nat.zero_le _) ?_;intro g cap w1 Es hgrow' hat' hg;have Fw:=Md (World.grownBy_alloc w0.drew _ none) hgrow';have hgrow:w0.grownBy w1 (Value.slice va xs.length vc).ownBlock:=⟨Fw.os,Fw.tape,Fw.output,Fw.size,Fw.block⟩;clear Fw;have hat:(Value.slice va xs.length vc).ownBlock=some g\/w0.heap.size<=g:=hat'.imp id (fun e=>by rw[e];simp);have A1:=(hgrow.block b lb (fun e=>HNe.o e.symm)).trans HH.o.blk;have c1:=Ea A1 HH.o.cell;have f1:=Ci A1;have Bk:=A6 A1;have A4:=A0 A1;have HOwn1:=A0 Es;have HGrow:=A0 hgrow;have HAt:=A0 hat;clear A1 Es hgrow hat hgrow' hat')
 all_goals go_wp2
 all_goals go_end0
 all_goals
  exact z0ma
theorem Acz(h:E9 165 3 Ic b o w cs t va vn vc xs)(m:Nat)(hm:m<=xs.length)(ho:o<cs.size):Calls Tryz.prog 249 #[.pointer (some ⟨b,o,none⟩),.int .i64 (m:Nat)] w fun e w'=>e=.returned (.tuple #[])/\K1 165 3 Ic b o w cs t va vn vc xs m w':=by
 have c:=Ea h.blk h.cell;have lb:=A6 h.blk;have hv:vn=xs.length:=(Cf h.own).1;subst hv;have fz:=Ci h.blk;have HH:=A0 h;have HNe:=A0 h.ne;by_cases he:m=xs.length
 ·subst he;clear h;go_enter Tryz.func249,Tryz.ntmps249;go_wp2;refine bodyPost_ret (v:=.tuple #[]) (by simp[results,Tryz.results249,go_sem]) rfl ⟨rfl,?_,Ia.refl _ _ _⟩;exact z2aa
 ·obtain⟨hl,⟨h2,h3⟩|⟨g,cap,cur,hv,_,hg,hcap',hmx,hsz,ht⟩⟩:=h.own
  ·omega
  ·injection hv with e1 e2 e3;subst e1 e3;have hgb:g≠b:=fun e=>h.ne z5qa;have fg:=Ci hg;have lg:=A6 hg;have hzs:(.agg #[.slice none 0 0,.int .i64 0,.int .i64 0]:Value).cells.size=3:=rfl;have hmul:m*3+(xs.length-m)*3=xs.length*3:=by omega
   have hcs:∀j,j<(xs.length-m)*(.agg #[.slice none 0 0,.int .i64 0,.int .i64 0]:Value).cells.size->(w.cell? ⟨g,m*3+j,none⟩).isSome=true:=by
    intro j hj;rw[hzs]at hj;rw[cell_of_row w g (m*3+j) cur _ _ hg,Array.getElem?_eq_getElem z4sa];rfl
   have hcl:∀ty,(Builtin.clear_ #[161] ty #[.slice (some ⟨g,m*3,none⟩) (xs.length-m) (vc-m)]).run Tryz.prog w=.ok (.tuple #[]) (w.setCells g (m*3) (Builtin.zeroCells (.agg #[.slice none 0 0,.int .i64 0,.int .i64 0]:Value).cells (xs.length-m)).toList):=
    fun ty=>A3a w 161 165 ty (.agg #[.slice none 0 0,.int .i64 0,.int .i64 0]) Tryz.underlying161 Tryz.zeroValue165 (by rw[hzs];omega) (fun v hv=>by simp[Value.cells]at hv;rcases hv with rfl|rfl|rfl <;> rfl) g (m*3) (xs.length-m) (vc-m) z4sa hcs (fun j hj=>fg _)
   obtain⟨cur',k1,k2,k3⟩:=Qd g 165 (0,0) (Builtin.zeroCells (.agg #[.slice none 0 0,.int .i64 0,.int .i64 0]:Value).cells (xs.length-m)).toList (m*3) cur w hg;obtain⟨f1,f2,f3,f4,f5⟩:=N7 g (Builtin.zeroCells (.agg #[.slice none 0 0,.int .i64 0,.int .i64 0]:Value).cells (xs.length-m)).toList (m*3) w;have A1:=(f5 b (fun e=>hgb e.symm)).trans h.blk;have Iy:=A0 k1;have HK3:=A0 (k3 (m*3) (Nat.le_refl _));have HF:=A0 (And.intro f1 (And.intro f2 (And.intro f3 (And.intro f4 f5))));have HT:=A0 ht;have HSz:=A0 (k2.trans hsz);have hlen9:=hcap';clear h hcs hg ht k1 k2 k3 f1 f2 f3 f5 hl hsz hzs hmul;have c1:=Ea A1 HH.o.cell;have g1:=Ci A1;have Bk:=A6 A1;have A4:=A0 A1;clear A1 f4;generalize w.setCells g (m*3) (Builtin.zeroCells (.agg #[.slice none 0 0,.int .i64 0,.int .i64 0]:Value).cells (xs.length-m)).toList=w1 at *;go_enter Tryz.func249,Tryz.ntmps249;go_wp2;go_end0;obtain⟨p1,p2,p3,p4,p5⟩:=HF.o;have hset:∀k,k≠b->(w1.setCell ⟨b,o,none⟩ (.slice (some ⟨g,0,none⟩) m vc)).heap[k]?=w1.heap[k]?:=fun k hk=>Below.heap_setCell _ _ _ _ z6ga;refine⟨rfl,⟨heap_set A4.o _,?_,⟨?_,.inr ⟨g,vc,cur',?_,Nat.zero_le _,(hset g hgb).trans Iy.o,?_,hmx,HSz.o,?_⟩⟩,?_⟩,⟨p1,p2,p3,by simp[World.setCell];omega,fun k hk hkb hkr=>?_⟩⟩
   ·exact z28a
   ·exact N6 (f:=Ic) (sz:=3) (fun _=>rfl) _
   ·rw[List.length_take,Nat.min_eq_left hm]
   ·exact z4ja
   ·rw[List.length_take,Nat.min_eq_left hm,HK3.o,←A37 (sz:=3) (fun _=>rfl),←HT.o,List.take_take,Nat.min_eq_left z4sa]
   ·exact z3fa
   ·exact(hset k hkb).trans (p5 k (fun e=>hkr (by rw[e];rfl)))
theorem Ad5(h:E9 165 3 Ic b o w cs t va vn vc xs)(hb:xs.length<=1000000)(x:Eo)(hx:x=xs.getLastD Np):Calls Tryz.prog 248 #[.pointer (some ⟨b,o,none⟩)] w fun e w'=>e=.returned (.agg #[.slice x.a x.n x.c,.int .i64 (x.pc:Nat),.int .i64 x.base])/\Below w.heap.size w w':=by
 have lb:=A6 h.blk;have HL:=A0 (Xh (h.keep (w':=w.alloc (.cells #[.slice none 0 0,.int .i64 0,.int .i64 0] 165)) (fun g hg=>Below.heap_alloc _ _ _ hg)));have HA:=A0 (Acy (h.keep (w':=w.alloc (.cells #[.slice none 0 0,.int .i64 0,.int .i64 0] 165)) (fun g hg=>Below.heap_alloc _ _ _ hg)) ((xs.length:Int)-1) hb x (by rw[hx];exact Xu _ xs));clear h hx;go_enter Tryz.func248,Tryz.ntmps248;go_wp2_with fail
 refine HL.o.mono ?_;rintro e w0 ⟨rfl,Dz⟩;subst Dz;go_wp2_with fail
 refine HA.o.mono ?_;rintro e w1 ⟨rfl,A1⟩;have hR:=Fu A1 (heap_alloc_new w (.cells #[.slice none 0 0,.int .i64 0,.int .i64 0] 165));have r0:=A7 hR 0 _ rfl;have r1:=A7 hR 1 _ rfl;have r2:=A7 hR 2 _ rfl;have fr:=Ci hR;have lr:=A6 hR;have A4:Hid (Below w.heap.size w w1):=(Below.alloc (Below.refl _ _) (Nat.le_refl _) _).trans (A1.mono z4wa);clear A1 hR HL HA;go_wp2;refine bodyPost_ret (v:=.agg #[.slice x.a x.n x.c,.int .i64 (x.pc:Nat),.int .i64 x.base]) (by simp[results,Tryz.results248,go_sem,r0,r1,r2]) rfl ⟨rfl,?_⟩;exact z36a
theorem Ad0(h:E9 165 3 Ic b o w cs t va vn vc xs)(i:Int)(hi:i<0):Calls Tryz.prog 249 #[.pointer (some ⟨b,o,none⟩),.int .i64 i] w fun e w'=>e=.returned (.tuple #[])/\w'=w:=by
 have c:=Ea h.blk h.cell;have lb:=A6 h.blk;have hv:vn=xs.length:=(Cf h.own).1;subst hv;clear h;go_enter Tryz.func249,Tryz.ntmps249;go_wp2;refine bodyPost_ret (v:=.tuple #[]) (by simp[results,Tryz.results249,go_sem]) rfl ⟨rfl,rfl⟩
theorem Ad1(h:E9 165 3 Ic b o w cs t va vn vc xs)(ho:o<cs.size):Calls Tryz.prog 249 #[.pointer (some ⟨b,o,none⟩),.int .i64 ((xs.length:Int)-1)] w fun e w'=>e=.returned (.tuple #[])/\K1 165 3 Ic b o w cs t va vn vc xs (xs.length-1) w':=by
 by_cases h0:xs.length=0
 ·refine(Ad0 h _ z4sa).mono ?_;exact z1ka
 ·have:=Acz h (xs.length-1) z4sa ho;exact z4ma
theorem Ad3(h:E9 165 3 Ic b o w cs t va vn vc xs)(hb:xs.length<=1000000)(ho:o<cs.size)(x:Eo)(hx:x=xs.getLastD Np):Calls Tryz.prog 206 #[.pointer (some ⟨b,o,none⟩)] w fun e w'=>e=.returned (.agg #[.slice x.a x.n x.c,.int .i64 (x.pc:Nat),.int .i64 x.base])/\K1 165 3 Ic b o w cs t va vn vc xs (xs.length-1) w':=by
 have lb:=A6 h.blk;have HKeep:=A0 (fun(W:World) (hW:Below w.heap.size w W)=>h.keep (w':=W) hW.block);have HT:=A0 (fun(W:World) (hs:E9 165 3 Ic b o W cs t va vn vc xs)=>Ad5 hs hb x hx);have HL:=A0 (fun(W:World) (hs:E9 165 3 Ic b o W cs t va vn vc xs)=>Xh hs);have HC:=A0 (fun(W:World) (hs:E9 165 3 Ic b o W cs t va vn vc xs)=>Ad1 hs ho);have HRl:=A0 (Bg h.own);clear h hx;have Bv:Below w.heap.size w (w.alloc (.cells #[.slice none 0 0,.int .i64 0,.int .i64 0] 165)):=Below.alloc (Below.refl _ _) (Nat.le_refl _) _;have Ae:=A0 Bv;clear Bv;go_enter Tryz.func206,Tryz.ntmps206;go_wp2_with fail
 refine(HT.o _ (HKeep.o _ Ae.o)).mono ?_;rintro e w1 ⟨rfl,A1⟩;have hR1:=Fu A1 (heap_alloc_new w (.cells #[.slice none 0 0,.int .i64 0,.int .i64 0] 165));have A4:Hid (Below w.heap.size w w1):=Ae.o.trans (A1.mono z4wa);have Jj:=A0 hR1;have ls1:=A6 hR1;clear A1 hR1;go_wp2_with fail
 have A9:Below w.heap.size w (w1.alloc (.cells #[.slice x.a x.n x.c,.int .i64 (x.pc:Nat),.int .i64 x.base] 165)):=Below.alloc A4.o z4sa _;refine(HL.o _ (HKeep.o _ A9)).mono ?_;rintro e w2 ⟨rfl,Fx⟩;have Eg:w2.heap[w.heap.size]?=some (.cells #[.slice none 0 0,.int .i64 0,.int .i64 0] 165 (0,0)):=by rw[Fx];exact alloc_old Jj.o
 have Il:w2.heap[w1.heap.size]?=some (.cells #[.slice x.a x.n x.c,.int .i64 (x.pc:Nat),.int .i64 x.base] 165 (0,0)):=by rw[Fx];exact heap_alloc_new _ _
 have hB2:Below w.heap.size w w2:=by rw[Fx];exact A9
 have Dv:=A0 Eg;have HT2:=A0 Il;have Aa:=A0 hB2;have Ed:=A0 (HC.o _ (HKeep.o _ hB2));clear Fx A9 Eg Il hB2;go_wp2_with fail
 refine Ed.o.mono ?_;rintro e w3 ⟨rfl,C0,hf3⟩;have hlw2:=A6 HT2.o;have hrow:∀k,w.heap.size<=k->(Value.slice va vn vc).ownBlock≠some k:=fun k hk e=>by have:=HRl.o k e;omega
 have Ie:=(hf3.block w.heap.size (A6 Dv.o) z4sa (hrow _ (Nat.le_refl _))).trans Dv.o;have I2:=(hf3.block w1.heap.size hlw2 z4sa (hrow _ z4sa)).trans HT2.o;have r0:=A7 Ie 0 _ rfl;have q0:=A7 I2 0 _ rfl;have r1:=A7 Ie 1 _ rfl;have q1:=A7 I2 1 _ rfl;have r2:=A7 Ie 2 _ rfl;have q2:=A7 I2 2 _ rfl;have fr:=Ci Ie;have lr:=A6 Ie;have lq:=A6 I2;have Be:=A0 C0;have HF3:=A0 hf3;have HRow:=A0 hrow;clear C0 hf3 hrow Ie I2 hlw2;go_wp2;refine bodyPost_ret (v:=.agg #[.slice x.a x.n x.c,.int .i64 (x.pc:Nat),.int .i64 x.base]) (by simp[results,Tryz.results206,go_sem,r0,r1,r2]) rfl ⟨rfl,?_⟩;exact z3aa
end
section
open Go.RowKit
open Go.Deep (BT)
structure Jp (D : Nat -> Prop) (w : World) (x : Eo) (f : Fr) : Prop where
 row:Cr D w 251 8 (.slice x.a x.n x.c) f.steps.length (Ez f.steps)
 pc:x.pc=f.pc
 base:x.base=f.base
def Kh(D:Nat->Prop)(w:World):List Eo->List Fr->Prop
 | [],[]=>True
 | x::xs,f::fs=>Jp D w x f/\Kh D w xs fs
 | [],_::_=>False
 | _::_,[]=>False
theorem Jp.keep{D D':Nat->Prop}{w w':World}{x:Eo}{f:Fr}(h:Jp D w x f)(hk:∀g,D g->g<w.heap.size->w'.heap[g]?=w.heap[g]?/\D' g):Jp D' w' x f:=⟨h.row.keep hk,h.pc,h.base⟩
theorem Kh.keep{D D':Nat->Prop}{w w':World}(hk:∀g,D g->g<w.heap.size->w'.heap[g]?=w.heap[g]?/\D' g):∀{xs:List Eo} {fs:List Fr},Kh D w xs fs->Kh D' w' xs fs:=by
 intro xs;induction xs with
 | nil=>intro fs h;cases fs with
  | nil=>trivial
  | cons=>exact h.elim
 | cons x xs ih=>intro fs h;cases fs with
  | nil=>exact h.elim
  | cons f fs=>exact⟨h.1.keep hk,ih h.2⟩
theorem Kh.len{D:Nat->Prop}{w:World}:∀{xs:List Eo} {fs:List Fr},Kh D w xs fs->xs.length=fs.length:=by
 intro xs;induction xs with
 | nil=>intro fs h;cases fs with
  | nil=>rfl
  | cons=>exact h.elim
 | cons x xs ih=>intro fs h;cases fs with
  | nil=>exact h.elim
  | cons f fs=>simp only[List.length_cons];rw[ih h.2]
theorem Kh.app{D:Nat->Prop}{w:World}{x:Eo}{f:Fr}(hx:Jp D w x f):∀{xs:List Eo} {fs:List Fr},Kh D w xs fs->Kh D w (xs++[x]) (fs++[f]):=by
 intro xs;induction xs with
 | nil=>intro fs h;cases fs with
  | nil=>exact⟨hx,trivial⟩
  | cons=>exact h.elim
 | cons y xs ih=>intro fs h;cases fs with
  | nil=>exact h.elim
  | cons g fs=>exact⟨h.1,ih h.2⟩
abbrev AB:=Option Addr×Nat×Nat
def Kx(b:AB):Value:=.slice b.1 b.2.1 b.2.2
structure Ss (β : Nat -> Nat) (ρ : Nat -> Nat) (w : World) (ab : List AB) (arr : List (List PV)) : Prop where
 len:ab.length=arr.length
 at':∀i (h:i<ab.length) (h':i<arr.length),w.heap[β i]?=some (.cells #[Kx ab[i]] 356 (0,0))/\w.ownsRow 0 225 5 (Kx ab[i]) arr[i].length (C5 (By β) arr[i])/\ρ (β i)=7+2*i/\(∀g,(Kx ab[i]).ownBlock=some g->ρ g=8+2*i)
def Bs(n:Nat)(v:PV):Prop:=match v.r with
 | none=>v.k≠4
 | some i=>v.k=4/\i<n
def knC(k:Kn):List Value:=[.bool k.kind,.bool k.whole,.int .i64 (k.like.k:Nat),.bool k.like.y,.int .i64 k.like.n,.string ⟨k.like.t.toArray⟩,.pointer none]
def Mn(D:Nat->Prop)(w:World)(p:Option Addr)(f:Option Form):Prop:=match f with
 | none=>p=none
 | some fo=>∃fb sa sn sc ka kn kc,p=some ⟨fb,0,none⟩/\D fb/\w.heap[fb]?=some (.cells #[.int .i64 (fo.slots:Nat),.slice sa sn sc,.slice ka kn kc] 381 (0,0))/\Cr D w 251 8 (.slice sa sn sc) fo.steps.length (Ez fo.steps)/\Cr D w 407 7 (.slice ka kn kc) fo.bet.length (C5 knC fo.bet)
theorem Mn.keep{D D':Nat->Prop}{w w':World}{p:Option Addr}{f:Option Form}(h:Mn D w p f)(hk:∀g,D g->g<w.heap.size->w'.heap[g]?=w.heap[g]?/\D' g):Mn D' w' p f:=by
 unfold Mn at h ⊢;cases f with
 | none=>exact h
 | some fo=>
  obtain⟨fb,sa,sn,sc,ka,kn,kc,e1,e2,e3,e4,e5⟩:=h;exact⟨fb,sa,sn,sc,ka,kn,kc,e1,(hk fb e2 (A6 e3)).2,(hk fb e2 (A6 e3)).1.trans e3,e4.keep hk,e5.keep hk⟩
def L5(q:Option Addr×Fs):List Value:=[.int .i64 (q.2.calls:Nat),.pointer q.1,.int .i64 (q.2.fast:Nat),.int .i64 (q.2.drops:Nat)]
def Sj(l:List UInt8):List Value:=[.string ⟨l.toArray⟩]
structure MC where
 mb:Nat
 pb:Nat
 P:D5
 ba:Option Addr
 bn:Nat
 bc:Nat
structure O2 where
 la:Option Addr
 ln:Nat
 lc:Nat
 ga:Option Addr
 gn:Nat
 gc:Nat
 va:Option Addr
 vn:Nat
 vc:Nat
 ca:Option Addr
 cn:Nat
 cc:Nat
 oa:Option Addr
 on:Nat
 oc:Nat
def MC.cells(C:MC)(s:O2)(x:Eo)(fuel cells code line:Nat):Array Value:=#[.pointer (some ⟨C.pb,0,none⟩),.slice C.ba C.bn C.bc,.slice s.la s.ln s.lc,.slice s.ga s.gn s.gc,.slice s.va s.vn s.vc,.slice s.ca s.cn s.cc,.slice x.a x.n x.c,.int .i64 (x.pc:Nat),.int .i64 x.base,.int .i64 (fuel:Nat),.int .i64 (cells:Nat),.slice s.oa s.on s.oc,.int .i64 (code:Nat),.int .i64 (line:Nat)]
def dx(D X:Nat->Prop):Nat->Prop:=fun g=>D g\/X g
structure MC.Mv (C : MC) (D X : Nat -> Prop) (w : World) (m : MS) (ρ β : Nat -> Nat) (s : O2) (x : Eo) (fv : List Eo) (ab : List AB) (lp : List (Option Addr × Fs)) : Prop where
 cell:w.heap[C.mb]?=some (.cells (C.cells s x m.fuel m.cells m.code m.line) 167 (0,0))
 prog:Ki D w C.pb C.P
 lots:w.ownsRow 0 172 4 (.slice s.la s.ln s.lc) lp.length (C5 L5 lp)
 loto:∀g,(Value.slice s.la s.ln s.lc).ownBlock=some g->ρ g=2
 lotm:m.lots=lp.map Prod.snd
 forms:∀q∈lp,Mn D w q.1 q.2.form
 gl:w.ownsRow 0 225 5 (.slice s.ga s.gn s.gc) m.gl.length (C5 (By β) m.gl)
 glo:∀g,(Value.slice s.ga s.gn s.gc).ownBlock=some g->ρ g=3
 vals:w.ownsRow 0 225 5 (.slice s.va s.vn s.vc) m.vals.length (C5 (By β) m.vals)
 valo:∀g,(Value.slice s.va s.vn s.vc).ownBlock=some g->ρ g=4
 calls:w.ownsRow 0 165 3 (.slice s.ca s.cn s.cc) fv.length (C5 Ic fv)
 callo:∀g,(Value.slice s.ca s.cn s.cc).ownBlock=some g->ρ g=5
 frs:Kh D w fv m.calls
 now:Jp D w x m.now
 out:w.ownsRow 0 9 1 (.slice s.oa s.on s.oc) m.out.length (C5 Sj m.out)
 outo:∀g,(Value.slice s.oa s.on s.oc).ownBlock=some g->ρ g=6
 arr:Ss β ρ w ab m.arr
 prot:∀g,dx D X g->g<w.heap.size/\ρ g=0
 one:ρ C.mb=1/\∀g,ρ g=1->g=C.mb
 Bz:m.vals.length<=90000000000/\m.calls.length<=100/\m.out.length<=100
 vv:(∀v∈m.vals,Bs m.arr.length v)/\(∀v∈m.gl,Bs m.arr.length v)/\(∀l∈m.arr,∀v∈l,Bs m.arr.length v)
def MC.Ms(C:MC)(D X:Nat->Prop)(β:Nat->Nat)(w:World)(m:MS):Prop:=∃ρ s x fv ab lp,C.Mv D X w m ρ β s x fv ab lp
theorem Ss.keep{β ρ ρ':Nat->Nat}{w w':World}{ab:List AB}{arr:List (List PV)}(h:Ss β ρ w ab arr)(hk:∀g,g<w.heap.size->7<=ρ g->w'.heap[g]?=w.heap[g]?/\ρ' g=ρ g):Ss β ρ' w' ab arr:=by
 refine⟨h.len,fun i h1 h2=>?_⟩;obtain⟨k1,k2,k3,k4⟩:=h.at' i h1 h2;have q:=hk (β i) (A6 k1) z4sa;refine⟨q.1.trans k1,B2 k2 (fun g hg hl=>(hk g hl (by rw[k4 g hg];omega)).1),q.2.trans k3,fun g hg=>?_⟩;exact(hk g (Bg k2 g hg) (by rw[k4 g hg];omega)).2.trans (k4 g hg)
variable {C:MC} {D X:Nat->Prop} {w w':World} {m:MS} {ρ β:Nat->Nat} {s:O2} {x:Eo} {fv:List Eo} {ab:List AB} {lp:List (Option Addr×Fs)}
theorem MC.Mv.Mj(h:C.Mv D X w m ρ β s x fv ab lp):E9 225 5 (By β) C.mb 4 w (C.cells s x m.fuel m.cells m.code m.line) 167 s.va s.vn s.vc m.vals:=
 ⟨h.cell,rfl,h.vals,fun e=>by have:=h.valo _ e;rw[h.one.1]at this;omega⟩
theorem MC.Mv.Zc(h:C.Mv D X w m ρ β s x fv ab lp):E9 165 3 Ic C.mb 5 w (C.cells s x m.fuel m.cells m.code m.line) 167 s.ca s.cn s.cc fv:=
 ⟨h.cell,rfl,h.calls,fun e=>by have:=h.callo _ e;rw[h.one.1]at this;omega⟩
theorem MC.Mv.lo(h:C.Mv D X w m ρ β s x fv ab lp):C.mb<w.heap.size/\¬dx D X C.mb:=⟨A6 h.cell,fun hd=>by have:=(h.prot _ hd).2;rw[h.one.1]at this;cases this⟩
theorem MC.Mv.Gg(h:C.Mv D X w m ρ β s x fv ab lp){c:Nat}(hc:G7 c ρ w w')(h0:c≠0):A2 (dx D X) w w':=hc.Bf h.prot h0
theorem z53a {P:Prop} (h:P:=by rw[h.callo g hg];omega):P:=h
theorem z55a {P:Prop} (h:P:=by rw[h.outo g hg];omega):P:=h
theorem z56a {P:Prop} (h:P:=by rw[h.loto g hg];omega):P:=h
theorem z58a {P:Prop} (h:P:=by rw[h.glo g hg];omega):P:=h
theorem MC.Mv.Sf(h:C.Mv D X w m ρ β s x fv ab lp)(hc:G7 4 ρ w w'){va:Option Addr}{vn vc:Nat}{vs:List PV}{x':Eo}{now:Fr}{fuel cells code line:Nat}
  (hcell:w'.heap[C.mb]?=some (.cells (C.cells { s with va:=va,vn:=vn,vc:=vc } x' fuel cells code line) 167 (0,0)))
  (hv:w'.ownsRow 0 225 5 (.slice va vn vc) vs.length (C5 (By β) vs)) (hvo:∀g,(Value.slice va vn vc).ownBlock=some g->(Value.slice s.va s.vn s.vc).ownBlock=some g\/w.heap.size<=g) (hx:Jp D w x' now)
  (hn:vs.length<=90000000000) (hvv:∀v∈vs,Bs m.arr.length v):C.Mv D X w' { m with vals:=vs,now:=now,fuel:=fuel,cells:=cells,code:=code,line:=line } (Et ρ w.heap.size 4) β { s with va:=va,vn:=vn,vc:=vc } x' fv ab lp:=by
 have hbd:=h.Gg hc z4sa;have hk:∀g,D g->g<w.heap.size->w'.heap[g]?=w.heap[g]?/\D g:=fun g hg _=>⟨hbd.block g (.inl hg),hg⟩;refine⟨hcell,h.prog.keep hk,B2 h.lots (fun g hg hl=>hc.block g hl z56a z56a),fun g hg=>by rw[Bb (Bg h.lots g hg)];exact h.loto g hg,h.lotm,fun q hq=>(h.forms q hq).keep hk,
  B2 h.gl (fun g hg hl=>hc.block g hl z58a z58a),fun g hg=>by rw[Bb (Bg h.gl g hg)];exact h.glo g hg,hv,fun g hg=>?_,
  B2 h.calls (fun g hg hl=>hc.block g hl z53a z53a),fun g hg=>by rw[Bb (Bg h.calls g hg)];exact h.callo g hg,h.frs.keep hk,hx.keep hk,
  B2 h.out (fun g hg hl=>hc.block g hl z55a z55a),fun g hg=>by rw[Bb (Bg h.out g hg)];exact h.outo g hg,h.arr.keep (fun g hl h7=>⟨hc.block g hl z4sa z4sa,Bb hl⟩),
  fun g hg=>⟨Nat.lt_of_lt_of_le (h.prot g hg).1 hc.size,by rw[Bb (h.prot g hg).1];exact(h.prot g hg).2⟩,⟨by rw[Bb h.lo.1];exact h.one.1,fun g hg=>?_⟩,⟨hn,h.Bz.2⟩,⟨hvv,h.vv.2⟩⟩
 ·rcases hvo g hg with e|e
  ·rw[Bb (Bg h.vals g e)];exact h.valo g e
  ·exact Ho e
 ·exact z12a
theorem Ra{c:Nat}{mb:Nat}{row:Option Nat}(h:Ia mb row w w')(hone:ρ mb=1)(hr:∀g,row=some g->ρ g=c):G7 c ρ w w':=
 ⟨h.os,h.tape,h.output,h.size,fun k hk h1 h2=>h.block k hk (fun e=>h1 (by rw[e];exact hone)) (fun e=>h2 (hr k e))⟩
theorem o8{c:Nat}(h:Below w.heap.size w w'):G7 c ρ w w':=⟨h.os,h.tape,h.output,h.size,fun k hk _ _=>h.block k hk⟩
theorem MC.Ms.below(h:C.Ms D X β w m)(hb:Below w.heap.size w w'):C.Ms D X β w' m/\A2 (dx D X) w w':=by
 obtain⟨ρ,s,x,fv,ab,lp,h⟩:=h;exact⟨⟨_,_,_,_,_,_,h.Sf (o8 hb) ((hb.block _ h.lo.1).trans h.cell) (Lh h.vals hb) (fun g hg=>.inl hg) h.now h.Bz.1 h.vv.1⟩,h.Gg (c:=4) (o8 hb) z4sa⟩
theorem MC.Ms.more(h:C.Ms D X β w m)(hb:Below w.heap.size w w'):C.Ms D (fun g=>X g\/(w.heap.size<=g/\g<w'.heap.size)) β w' m:=by
 obtain⟨ρ,s,x,fv,ab,lp,h⟩:=h;have hk:∀g,D g->g<w.heap.size->w'.heap[g]?=w.heap[g]?/\D g:=fun g hg hl=>⟨hb.block g hl,hg⟩;refine⟨Et ρ w.heap.size 0,s,x,fv,ab,lp,(hb.block _ h.lo.1).trans h.cell,h.prog.keep hk,Lh h.lots hb,fun g hg=>by rw[Bb (Bg h.lots g hg)];exact h.loto g hg,h.lotm,fun q hq=>(h.forms q hq).keep hk,Lh h.gl hb,fun g hg=>by rw[Bb (Bg h.gl g hg)];exact h.glo g hg,Lh h.vals hb,fun g hg=>by rw[Bb (Bg h.vals g hg)];exact h.valo g hg,Lh h.calls hb,fun g hg=>by rw[Bb (Bg h.calls g hg)];exact h.callo g hg,h.frs.keep hk,h.now.keep hk,Lh h.out hb,fun g hg=>by rw[Bb (Bg h.out g hg)];exact h.outo g hg,h.arr.keep (fun g hl _=>⟨hb.block g hl,Bb hl⟩),?_,⟨by rw[Bb h.lo.1];exact h.one.1,fun g hg=>?_⟩,h.Bz,h.vv⟩
 ·intro g hg;rcases hg with hg|hg|hg
  ·have:=h.prot g (.inl hg);exact z2sa
  ·have:=h.prot g (.inr hg);exact z2sa
  ·exact⟨hg.2,Ho hg.1⟩
 ·exact z12a
theorem z54a {P:Prop} (h:P:=by rw[h.valo g hg];omega):P:=h
theorem MC.Ms.less(h:C.Ms D X β w m){X':Nat->Prop}(hX:∀g,X' g->X g)(hk:∀g,g<w.heap.size->(X g->D g)->w'.heap[g]?=w.heap[g]?)(hs:w'.heap.size=w.heap.size):C.Ms D X' β w' m:=by
 obtain⟨ρ,s,x,fv,ab,lp,h⟩:=h;have hz:∀g,g<w.heap.size->ρ g≠0->w'.heap[g]?=w.heap[g]?:=fun g hg h0=>hk g hg (fun hx=>absurd (h.prot g (.inr hx)).2 h0);have hkD:∀g,D g->g<w.heap.size->w'.heap[g]?=w.heap[g]?/\D g:=fun g hg hl=>⟨hk g hl (fun _=>hg),hg⟩;exact⟨ρ,s,x,fv,ab,lp,(hz _ h.lo.1 z5fa).trans h.cell,h.prog.keep hkD,B2 h.lots (fun g hg hl=>hz g hl z56a),h.loto,h.lotm,fun q hq=>(h.forms q hq).keep hkD,B2 h.gl (fun g hg hl=>hz g hl z58a),h.glo,B2 h.vals (fun g hg hl=>hz g hl z54a),h.valo,B2 h.calls (fun g hg hl=>hz g hl z53a),h.callo,h.frs.keep hkD,h.now.keep hkD,B2 h.out (fun g hg hl=>hz g hl z55a),h.outo,h.arr.keep (fun g hl h7=>⟨hz g hl z4sa,rfl⟩),fun g hg=>by rw[hs];exact h.prot g (hg.imp id (hX g)),h.one,h.Bz,h.vv⟩
end
section
open Go.RowKit
open Go.Deep (BT)
variable {C:MC} {D X:Nat->Prop} {w w':World} {m:MS} {β:Nat->Nat}
def B3(β:Nat->Nat)(v:PV):Value:=.agg #[.int .i64 (v.k:Nat),.bool v.y,.int .i64 v.n,.string ⟨v.t.toArray⟩,.pointer (B5 β v)]
def MP(C:MC)(D X:Nat->Prop)(β:Nat->Nat)(w:World)(m:MS)(r:Value)(e:Ending)(w':World):Prop:=e=.returned r/\C.Ms D X β w' m/\A2 (dx D X) w w'
theorem MC.Ms.len(h:C.Ms D X β w m):Calls Tryz.prog 98 #[.pointer (some ⟨C.mb,4,none⟩)] w fun e w'=>e=.returned (.int .i64 (m.vals.length:Nat))/\w'=w:=by
 obtain⟨ρ,s,x,fv,ab,lp,h⟩:=h;exact Zn h.Mj
theorem MC.Ms.Bz(h:C.Ms D X β w m):m.vals.length<=90000000000/\m.calls.length<=100/\m.out.length<=100:=by
 obtain⟨ρ,s,x,fv,ab,lp,h⟩:=h;exact h.Bz
theorem MC.Ms.At(h:C.Ms D X β w m):C.mb<w.heap.size:=by
 obtain⟨ρ,s,x,fv,ab,lp,h⟩:=h;exact h.lo.1
theorem z2pa {P:Prop} (h:P:=by
  rintro e w1 ⟨rfl,hb⟩;exact⟨rfl,MC.Ms.below ⟨ρ,s,x,fv,ab,lp,h'⟩ hb⟩):P:=h
theorem MC.Ms.at'(h:C.Ms D X β w m)(i:Int):Calls Tryz.prog 195 #[.pointer (some ⟨C.mb,4,none⟩),.int .i64 i] w (MP C D X β w m (B3 β (m.at' i))):=by
 obtain⟨ρ,s,x,fv,ab,lp,h'⟩:=h;refine(A4w h'.Mj i (by have:=h'.Bz.1;omega) (m.at' i) rfl).mono ?_;exact z2pa
theorem MC.Ms.top(h:C.Ms D X β w m):Calls Tryz.prog 200 #[.pointer (some ⟨C.mb,4,none⟩)] w (MP C D X β w m (B3 β m.top)):=by
 obtain⟨ρ,s,x,fv,ab,lp,h'⟩:=h;refine(A51 h'.Mj (by have:=h'.Bz.1;omega) m.top rfl).mono ?_;exact z2pa
theorem z4ka {P:Prop} (h:P:=by
  intro k hk;simp only[Value.ownBlock,Option.some.injEq]at hk;rw[←hk];exact hat):P:=h
theorem z5pa {P:Prop} (h:P:=by simp[MC.cells]):P:=h
theorem MC.Ms.push(h:C.Ms D X β w m)(v:PV)(hv:Bs m.arr.length v)(hn:m.vals.length+1<=90000000000):Calls Tryz.prog 99 #[.pointer (some ⟨C.mb,4,none⟩),B3 β v] w (MP C D X β w (m.push v) (.tuple #[])):=by
 obtain⟨ρ,s,x,fv,ab,lp,h⟩:=h;refine(An5 h.Mj z4sa v z5pa).mono ?_;rintro e w1 ⟨rfl,g,cap,hs,hat,hf⟩;have hc:G7 4 ρ w w1:=Ra hf h.one.1 h.valo;refine⟨rfl,⟨_,{ s with va:=some ⟨g,0,none⟩,vn:=m.vals.length+1,vc:=cap },x,fv,ab,lp,h.Sf hc ?_ hs.own ?_ h.now z4za ?_⟩,h.Gg hc z4sa⟩
 ·rw[hs.blk];simp[MC.cells]
 ·exact z4ka
 ·intro u hu;simp only[List.mem_append,List.mem_singleton]at hu;rcases hu with hu|hu
  ·exact h.vv.1 u hu
  ·rw[hu];exact hv
theorem MC.Mv.W0{ρ:Nat->Nat}{s:O2}{x:Eo}{fv:List Eo}{ab:List AB}{lp:List (Option Addr×Fs)}(h:C.Mv D X w m ρ β s x fv ab lp){k:Nat}(hp:K1 225 5 (By β) C.mb 4 w (C.cells s x m.fuel m.cells m.code m.line) 167 s.va s.vn s.vc m.vals k w'):C.Ms D X β w' { m with vals:=m.vals.take k }/\A2 (dx D X) w w':=by
 obtain⟨hs,hf⟩:=hp;have hc:G7 4 ρ w w':=Ra hf h.one.1 h.valo;refine⟨⟨_,{ s with va:=s.va,vn:=k,vc:=s.vc },x,fv,ab,lp,h.Sf hc ?_ hs.own (fun g hg=>.inl ((Nv _ _ _ _).trans hg)) h.now (by have:=h.Bz.1;simp;omega) (fun u hu=>h.vv.1 u (List.mem_of_mem_take hu))⟩,h.Gg hc z4sa⟩;rw[hs.blk];simp[MC.cells]
theorem Zf{α:Type}(l:List α):l.take (l.length-1)=l.dropLast:=by rw[List.dropLast_eq_take]
theorem MC.Ms.pop(h:C.Ms D X β w m):Calls Tryz.prog 197 #[.pointer (some ⟨C.mb,4,none⟩)] w (MP C D X β w m.pop (B3 β m.top)):=by
 obtain⟨ρ,s,x,fv,ab,lp,h⟩:=h;refine(A50 h.Mj (by have:=h.Bz.1;omega) z5pa m.top rfl).mono ?_;rintro e w1 ⟨rfl,hp⟩;have:=h.W0 hp;rw[Zf]at this;exact⟨rfl,this⟩
theorem MC.Ms.cut(h:C.Ms D X β w m)(n:Int):Calls Tryz.prog 205 #[.pointer (some ⟨C.mb,4,none⟩),.int .i64 n] w (MP C D X β w (m.cut n) (.tuple #[])):=by
 obtain⟨ρ,s,x,fv,ab,lp,h⟩:=h;by_cases h0:n<0
 ·refine(A4y h.Mj n h0).mono ?_;rintro e w1 ⟨rfl,rfl⟩;refine⟨rfl,?_,A2.refl _ _⟩;have:m.cut n=m:=by unfold MS.cut;rw[if_pos h0]
  rw[this];exact⟨ρ,s,x,fv,ab,lp,h⟩
 ·have he:m.cut n={ m with vals:=m.vals.take n.toNat }:=by unfold MS.cut;rw[if_neg h0]
  rw[he];by_cases h1:n.toNat<=m.vals.length
  ·have:=A4x h.Mj n.toNat h1 z5pa;rw[show((n.toNat:Nat):Int)=n by omega]at this;refine this.mono ?_;rintro e w1 ⟨rfl,hp⟩;exact⟨rfl,h.W0 hp⟩
  ·refine(An2 h.Mj n z4sa).mono ?_;rintro e w1 ⟨rfl,rfl⟩;refine⟨rfl,?_,A2.refl _ _⟩;rw[List.take_of_length_le z4sa];exact⟨ρ,s,x,fv,ab,lp,h⟩
theorem Af1{α:Type}{l:List α}{i:Nat}{u v:α}(h:v∈l.set i u):v∈l\/v=u:=List.mem_or_eq_of_mem_set h
theorem MC.Ms.put(h:C.Ms D X β w m)(i:Int)(v:PV)(hv:Bs m.arr.length v):Calls Tryz.prog 196 #[.pointer (some ⟨C.mb,4,none⟩),.int .i64 i,B3 β v] w (MP C D X β w (m.put i v) (.tuple #[])):=by
 obtain⟨ρ,s,x,fv,ab,lp,h'⟩:=h;by_cases h0:0<=i/\i.toNat<m.vals.length
 ·have:=An6 h'.Mj i.toNat h0.2 v;rw[show((i.toNat:Nat):Int)=i by omega]at this;refine this.mono ?_;rintro e w1 ⟨rfl,hs,hf⟩;have hc:G7 4 ρ w w1:=Ra hf h'.one.1 h'.valo;have he:m.put i v={ m with vals:=m.vals.set i.toNat v }:=by unfold MS.put;rw[if_neg z4sa]
  rw[he];refine⟨rfl,⟨_,s,x,fv,ab,lp,h'.Sf hc ?_ hs.own (fun g hg=>.inl hg) h'.now (by have:=h'.Bz.1;simp;omega) (fun u hu=>(Af1 hu).elim (h'.vv.1 u) (fun e=>by rw[e];exact hv))⟩,h'.Gg hc z4sa⟩;exact hs.blk
 ·have he:m.put i v=m:=by
   unfold MS.put;by_cases h1:i<0
   ·rw[if_pos h1]
   ·rw[if_neg h1,List.set_eq_of_length_le z4sa]
  rw[he];refine(An7 h'.Mj i z4sa v).mono ?_;exact z2pa
end
section
set_option maxRecDepth 100000
open Go.RowKit
open Go.Deep (BT)
variable {C:MC} {D X:Nat->Prop} {w w':World} {m:MS} {ρ β:Nat->Nat} {s:O2} {x:Eo} {fv:List Eo} {ab:List AB} {lp:List (Option Addr×Fs)}
def Ag(i:Af):Value:=.agg #[.int .i64 (i.op:Nat),.int .i64 i.arg,.int .i64 (i.line:Nat),.int .i64 (i.v.k:Nat),.bool i.v.y,.int .i64 i.v.n,.string ⟨i.v.t.toArray⟩,.pointer none]
theorem MC.Mv.plain(h:C.Mv D X w m ρ β s x fv ab lp){x':Eo}{now:Fr}{fuel cells code line:Nat}(hx:Jp D w x' now)(hcell:w'.heap[C.mb]?=some (.cells (C.cells s x' fuel cells code line) 167 (0,0)))(hk:∀g,g<w.heap.size->g≠C.mb->w'.heap[g]?=w.heap[g]?)(hs:w.heap.size<=w'.heap.size)(ho:w'.os=w.os)(ht:w'.tape=w.tape)(hu:w'.output=w.output) :
  C.Ms D X β w' { m with now:=now,fuel:=fuel,cells:=cells,code:=code,line:=line }/\A2 (dx D X) w w':=by
 have hc:G7 4 ρ w w':=⟨ho,ht,hu,hs,fun k hk' h1 _=>hk k hk' (fun e=>h1 (by rw[e];exact h.one.1))⟩;exact⟨⟨_,s,x',fv,ab,lp,h.Sf hc hcell (B2 h.vals (fun g hg hl=>hk g hl (fun e=>by have:=h.valo g hg;rw[e,h.one.1]at this;omega))) (fun g hg=>.inl hg) hx h.Bz.1 h.vv.1⟩,h.Gg hc z4sa⟩
theorem Q5{w:World}{b:Nat}{a0 a1 a2 a3 a4 a5 a6 a7 a8 a9 a10 a11 a12 a13:Value}{t:TypeId}(h:w.heap[b]?=some (.cells #[a0,a1,a2,a3,a4,a5,a6,a7,a8,a9,a10,a11,a12,a13] t (0,0))) :
  w.cell? ⟨b,0,none⟩=some a0/\w.cell? ⟨b,1,none⟩=some a1/\w.cell? ⟨b,2,none⟩=some a2/\w.cell? ⟨b,3,none⟩=some a3/\w.cell? ⟨b,4,none⟩=some a4/\w.cell? ⟨b,5,none⟩=some a5/\w.cell? ⟨b,6,none⟩=some a6/\w.cell? ⟨b,7,none⟩=some a7/\w.cell? ⟨b,8,none⟩=some a8/\w.cell? ⟨b,9,none⟩=some a9/\w.cell? ⟨b,10,none⟩=some a10/\w.cell? ⟨b,11,none⟩=some a11/\w.cell? ⟨b,12,none⟩=some a12/\w.cell? ⟨b,13,none⟩=some a13/\(∀o,w.frozen? ⟨b,o,none⟩=false)/\b<w.heap.size:=
 ⟨A7 h 0 _ rfl,A7 h 1 _ rfl,A7 h 2 _ rfl,A7 h 3 _ rfl,A7 h 4 _ rfl,A7 h 5 _ rfl,A7 h 6 _ rfl,A7 h 7 _ rfl,A7 h 8 _ rfl,A7 h 9 _ rfl,A7 h 10 _ rfl,A7 h 11 _ rfl,A7 h 12 _ rfl,A7 h 13 _ rfl,Ci h,A6 h⟩
theorem I6(h:C.Ms D X β w m)(code:Nat)(i:Af):Calls Tryz.prog 199 #[.pointer (some ⟨C.mb,0,none⟩),.int .i64 (code:Nat),Ag i] w (MP C D X β w (m.fail code i) (.tuple #[])):=by
 obtain⟨ρ,s,x,fv,ab,lp,h⟩:=h;obtain⟨c0,c1,c2,c3,c4,c5,c6,c7,c8,c9,c10,c11,c12,c13,fz,lb⟩:=Q5 (show w.heap[C.mb]?=some (.cells #[_,_,_,_,_,_,_,_,_,_,_,_,_,_] _ (0,0)) from h.cell);have HH:=A0 h;clear h c0 c1 c2 c3 c4 c5 c6 c7 c8 c9 c10 c11;unfold Ag;go_enter Tryz.func199,Tryz.ntmps199;go_wp2;go_end0;have hcl:(((w.setCell ⟨C.mb,12,none⟩ (.int .i64 (code:Nat))).setCell ⟨C.mb,13,none⟩ (.int .i64 (i.line:Nat))).alloc (.cells #[.int .i64 (i.op:Nat),.int .i64 i.arg,.int .i64 (i.line:Nat),.int .i64 (i.v.k:Nat),.bool i.v.y,.int .i64 i.v.n,.string ⟨i.v.t.toArray⟩,.pointer none] 251)).heap[C.mb]?=some (.cells (C.cells s x (m.fuel) (m.cells) (code) (i.line)) 167 (0,0)):=by
  rw[Below.heap_alloc _ _ _ z50a,(heap_set (j:=13) (heap_set (j:=12) HH.o.cell (.int .i64 (code:Nat))) (.int .i64 (i.line:Nat)))];simp[MC.cells]
 have hkk:∀g,g<w.heap.size->g≠C.mb->(((w.setCell ⟨C.mb,12,none⟩ (.int .i64 (code:Nat))).setCell ⟨C.mb,13,none⟩ (.int .i64 (i.line:Nat))).alloc (.cells #[.int .i64 (i.op:Nat),.int .i64 i.arg,.int .i64 (i.line:Nat),.int .i64 (i.v.k:Nat),.bool i.v.y,.int .i64 i.v.n,.string ⟨i.v.t.toArray⟩,.pointer none] 251)).heap[g]?=w.heap[g]?:=by
  intro g hg hne;rw[Below.heap_alloc _ _ _ z50a,Below.heap_setCell _ _ _ _ z5ha,Below.heap_setCell _ _ _ _ z5ha]
 have hpl:=HH.o.plain (now:=m.now) (fuel:=m.fuel) (cells:=m.cells) (code:=code) (line:=i.line) (x':=x) HH.o.now hcl hkk z57a rfl rfl rfl;exact⟨rfl,hpl⟩
theorem z1ua {P:Prop} (h:P:=by
  intro g hg hne;rw[Below.heap_alloc _ _ _ z50a,Below.heap_setCell _ _ _ _ z5ha]):P:=h
theorem Tx(h:C.Ms D X β w m)(i:Af)(hf:m.fuel≠0)(hb:m.fuel<=100000):Calls Tryz.prog 198 #[.pointer (some ⟨C.mb,0,none⟩),Ag i] w (MP C D X β w { m with fuel:=m.fuel-1 } (.bool true)):=by
 obtain⟨ρ,s,x,fv,ab,lp,h⟩:=h;obtain⟨c0,c1,c2,c3,c4,c5,c6,c7,c8,c9,c10,c11,c12,c13,fz,lb⟩:=Q5 (show w.heap[C.mb]?=some (.cells #[_,_,_,_,_,_,_,_,_,_,_,_,_,_] _ (0,0)) from h.cell);have HH:=A0 h;have t0:((m.fuel:Int)==0)=false:=by rw[beq_eq_false_iff_ne];omega
 have HFu:Hid (((m.fuel-1:Nat):Int)=(m.fuel:Int)-1):=by show _=_;omega
 clear h c0 c1 c2 c3 c4 c5 c6 c7 c8 c10 c11 c12 c13;unfold Ag;go_enter Tryz.func198,Tryz.ntmps198;go_wp2;go_ret;rw[←HFu.o];have hcl:((w.setCell ⟨C.mb,9,none⟩ (.int .i64 ((m.fuel-1:Nat):Nat))).alloc (.cells #[.int .i64 (i.op:Nat),.int .i64 i.arg,.int .i64 (i.line:Nat),.int .i64 (i.v.k:Nat),.bool i.v.y,.int .i64 i.v.n,.string ⟨i.v.t.toArray⟩,.pointer none] 251)).heap[C.mb]?=some (.cells (C.cells s x (m.fuel-1) (m.cells) (m.code) (m.line)) 167 (0,0)):=by
  rw[Below.heap_alloc _ _ _ z50a,(heap_set (j:=9) HH.o.cell (.int .i64 ((m.fuel-1:Nat):Nat)))];simp[MC.cells]
 have hkk:∀g,g<w.heap.size->g≠C.mb->((w.setCell ⟨C.mb,9,none⟩ (.int .i64 ((m.fuel-1:Nat):Nat))).alloc (.cells #[.int .i64 (i.op:Nat),.int .i64 i.arg,.int .i64 (i.line:Nat),.int .i64 (i.v.k:Nat),.bool i.v.y,.int .i64 i.v.n,.string ⟨i.v.t.toArray⟩,.pointer none] 251)).heap[g]?=w.heap[g]?:=by
  exact z1ua
 have hpl:=HH.o.plain (now:=m.now) (fuel:=m.fuel-1) (cells:=m.cells) (code:=m.code) (line:=m.line) (x':=x) HH.o.now hcl hkk z57a rfl rfl rfl;exact⟨rfl,hpl⟩
theorem z2ba {P:Prop} (h:P:=by
  go_wp2_with fail
  refine HF.o.mono ?_;rintro e w1 ⟨rfl,h1,h2⟩;have A8:=A0 h1;have A4:Hid (A2 (dx D X) w w1):=Ae.o.trans h2;clear h1 h2;go_wp2;go_ret;exact⟨rfl,A8.o,A4.o⟩):P:=h
theorem A23(h:C.Ms D X β w m)(i:Af)(hf:m.fuel=0):Calls Tryz.prog 198 #[.pointer (some ⟨C.mb,0,none⟩),Ag i] w (MP C D X β w (m.fail 8 i) (.bool false)):=by
 have Bv:Below w.heap.size w (w.alloc (.cells #[.int .i64 (i.op:Nat),.int .i64 i.arg,.int .i64 (i.line:Nat),.int .i64 (i.v.k:Nat),.bool i.v.y,.int .i64 i.v.n,.string ⟨i.v.t.toArray⟩,.pointer none] 251)):=Below.alloc (Below.refl _ _) (Nat.le_refl _) _;obtain⟨h0,hd0⟩:=h.below Bv;have HF:=A0 (I6 h0 8 i);have Ae:=A0 hd0;obtain⟨ρ,s,x,fv,ab,lp,h⟩:=h;obtain⟨c0,c1,c2,c3,c4,c5,c6,c7,c8,c9,c10,c11,c12,c13,fz,lb⟩:=Q5 (show w.heap[C.mb]?=some (.cells #[_,_,_,_,_,_,_,_,_,_,_,_,_,_] _ (0,0)) from h.cell);have HH:=A0 h;have t0:((m.fuel:Int)==0)=true:=by rw[hf];rfl
 have lx:=heap_alloc_new w (.cells #[.int .i64 (i.op:Nat),.int .i64 i.arg,.int .i64 (i.line:Nat),.int .i64 (i.v.k:Nat),.bool i.v.y,.int .i64 i.v.n,.string ⟨i.v.t.toArray⟩,.pointer none] 251);clear h c0 c1 c2 c3 c4 c5 c6 c7 c8 c10 c11 c12 c13 h0 hd0 Bv hf;unfold Ag at *;go_enter Tryz.func198,Tryz.ntmps198;exact z2ba
end
section
set_option maxRecDepth 100000
open Go.RowKit
open Go.Deep (BT)
variable {C:MC} {D X:Nat->Prop} {w w':World} {m:MS} {β:Nat->Nat}
theorem Qx(a0 a1 a2 a3 a4:Value)(w:World):(Instr.field 225 (.agg #[a0,a1,a2,a3,a4]) 0).run Tryz.prog w=.ok a0 w:=by kernel_rfl
theorem A4r(a0 a1 a2 a3 a4:Value)(w:World):(Instr.field 225 (.agg #[a0,a1,a2,a3,a4]) 2).run Tryz.prog w=.ok a2 w:=by kernel_rfl
theorem Q3{w w':World}(h:Below w.drew.heap.size w.drew w'):Below w.heap.size w w':=⟨h.os,h.tape,h.output,h.size,h.block⟩
theorem Oe(h:C.Ms D X β w m)(n:Int)(hn:m.vals.length+1<=90000000000):Calls Tryz.prog 252 #[.pointer (some ⟨C.mb,0,none⟩),.int .i64 n] w (MP C D X β w (m.push (ofInt n)) (.tuple #[])):=by
 have lb:=h.At;have HP:=A0 (fun(W:World) (hb:Below w.heap.size w W)=>((h.below hb).1.push (ofInt n) (by simp[Bs,ofInt]) hn));have HB:=A0 (fun(W:World) (hb:Below w.heap.size w W)=>(h.below hb).2);clear h;go_enter Tryz.func252,Tryz.ntmps252;go_wp2;go_region_law (first
  | (refine Fg rfl 99 _ _ rfl #[.pointer (some ⟨C.mb,4,none⟩),.agg #[.int .i64 2,.bool false,.int .i64 n,.string ⟨#[]⟩,.pointer none]] z4va Bo.o ?_;rintro e w2 ⟨rfl,h2,h3⟩;refine⟨_,rfl,?_⟩;have Ah:=A0 h2;have Aa:Hid (A2 (dx D X) w w2):=A4.o.trans h3;clear h2 h3)
  | (refine Fg rfl 85 _ _ rfl #[.int .i64 n] z4va (Y5 n _) ?_;rintro e w1 ⟨rfl,hb1'⟩;refine⟨_,rfl,?_⟩;have A1:=Q3 hb1';have Bo:=A0 (HP.o w1 A1);have A4:=A0 (HB.o w1 A1);have Bk:=A1.size;clear A1 hb1'))
 all_goals go_wp2
 all_goals go_end0
 all_goals exact⟨rfl,Ah.o,Aa.o⟩
theorem Kf(h:C.Ms D X β w m)(y:Bool)(hn:m.vals.length+1<=90000000000):Calls Tryz.prog 253 #[.pointer (some ⟨C.mb,0,none⟩),.bool y] w (MP C D X β w (m.push (ofBool y)) (.tuple #[])):=by
 have lb:=h.At;have HP:=A0 (fun(W:World) (hb:Below w.heap.size w W)=>((h.below hb).1.push (ofBool y) (by simp[Bs,ofBool]) hn));have HB:=A0 (fun(W:World) (hb:Below w.heap.size w W)=>(h.below hb).2);clear h;go_enter Tryz.func253,Tryz.ntmps253;go_wp2;go_region_law (first
  | (refine Fg rfl 99 _ _ rfl #[.pointer (some ⟨C.mb,4,none⟩),.agg #[.int .i64 1,.bool y,.int .i64 0,.string ⟨#[]⟩,.pointer none]] z4va Bo.o ?_;rintro e w2 ⟨rfl,h2,h3⟩;refine⟨_,rfl,?_⟩;have Ah:=A0 h2;have Aa:Hid (A2 (dx D X) w w2):=A4.o.trans h3;clear h2 h3)
  | (refine Fg rfl 87 _ _ rfl #[.bool y] z4va (Y4 y _) ?_;rintro e w1 ⟨rfl,hb1'⟩;refine⟨_,rfl,?_⟩;have A1:=Q3 hb1';have Bo:=A0 (HP.o w1 A1);have A4:=A0 (HB.o w1 A1);have Bk:=A1.size;clear A1 hb1'))
 all_goals go_wp2
 all_goals go_end0
 all_goals exact⟨rfl,Ah.o,Aa.o⟩
theorem z13a {P:Prop} (h:P:=by
  clear hq I3;generalize m.at' ((m.vals.length:Int)-2)=u at *;go_enter Tryz.func250,Tryz.ntmps250;go_wp2_with fail
  refine HL.o.mono ?_;rintro e w ⟨rfl,rfl⟩;go_wp2_with fail
  refine HA1.o.mono ?_;rintro e w1 ⟨rfl,h1,h2⟩;have A8:=A0 h1;have A4:=A0 h2;have Bk:=h1.At;clear h1 h2;unfold B3;go_wp2_with fail
  refine(HA2.o w1 A8.o).mono ?_;rintro e w2 ⟨rfl,h1,h2⟩;have Ah:=A0 h1;have Aa:Hid (A2 (dx D X) w w2):=A4.o.trans h2;clear h1 h2;unfold B3;go_wp2;go_ret;rw[HE.o];exact⟨rfl,Ah.o,Aa.o⟩):P:=h
theorem Jo(h:C.Ms D X β w m)(k:Nat):Calls Tryz.prog 250 #[.pointer (some ⟨C.mb,0,none⟩),.int .i64 (k:Nat)] w (MP C D X β w m (.bool (m.both k))):=by
 have lb:=h.At;have HL:=A0 h.len;have hfew:=h.Bz.1;have HA1:=A0 (h.at' ((m.vals.length:Int)-1));have HA2:=A0 (fun(W:World) (hs:C.Ms D X β W m)=>hs.at' ((m.vals.length:Int)-1-1));have h2e:m.at' ((m.vals.length:Int)-1-1)=m.at' ((m.vals.length:Nat)-2):=by rw[show((m.vals.length:Nat):Int)-1-1=(m.vals.length:Nat)-2 by omega]
 rw[h2e]at HA2;clear h2e;have htop:m.at' ((m.vals.length:Int)-1)=m.top:=(Xu Bp m.vals).symm;rw[htop]at HA1;have vf0:=Qx;clear h htop;cases hq:(m.top.k==k)
 ·have t1:(((m.top.k:Nat):Int)==(k:Int))=false:=by rw[beq_eq_false_iff_ne]at hq ⊢;omega
  have HE:Hid (m.both k=false):=by show _=_;unfold MS.both;rw[hq];rfl
  clear hq;go_enter Tryz.func250,Tryz.ntmps250;go_wp2_with fail
  refine HL.o.mono ?_;rintro e w ⟨rfl,rfl⟩;go_wp2_with fail
  refine HA1.o.mono ?_;rintro e w1 ⟨rfl,h1,h2⟩;have A8:=A0 h1;have A4:=A0 h2;have Bk:=h1.At;clear h1 h2;unfold B3;go_wp2;go_ret;rw[HE.o];exact z4ba
 ·cases I3:((m.at' ((m.vals.length:Int)-2)).k==k)
  ·have t1:(((m.top.k:Nat):Int)==(k:Int))=true:=by rw[beq_iff_eq]at hq ⊢;omega
   have t2:((((m.at' ((m.vals.length:Int)-2)).k:Nat):Int)==(k:Int))=false:=by rw[beq_eq_false_iff_ne]at I3 ⊢;omega
   have HE:Hid (m.both k=false):=by show _=_;unfold MS.both;rw[hq,I3];rfl
   exact z13a
  ·have t1:(((m.top.k:Nat):Int)==(k:Int))=true:=by rw[beq_iff_eq]at hq ⊢;omega
   have t2:((((m.at' ((m.vals.length:Int)-2)).k:Nat):Int)==(k:Int))=true:=by rw[beq_iff_eq]at I3 ⊢;omega
   have HE:Hid (m.both k=true):=by show _=_;unfold MS.both;rw[hq,I3];rfl
   exact z13a
theorem MC.Ms.Ah2(h:C.Ms D X β w m):∀g,dx D X g->g<w.heap.size:=by
 obtain⟨ρ,s,x,fv,ab,lp,h⟩:=h;exact fun g hg=>(h.prot g hg).1
theorem MC.Ms.Ab4{Y:Nat->Prop}(h:C.Ms D (fun g=>X g\/Y g) β w m):C.Ms D X β w.drew m:=
 ((h.below (w':=w.drew) ⟨rfl,rfl,rfl,Nat.le_refl _,fun _ _=>rfl⟩).1).less (fun _ h=>.inl h) (fun _ _ _=>rfl) rfl
theorem Uk{w:World}{g:Nat}(a0 a1 a2 a3 a4:Value)(k:Nat)(h:k≠g):(((((w.setCell ⟨g,0,none⟩ a0).setCell ⟨g,1,none⟩ a1).setCell ⟨g,2,none⟩ a2).setCell ⟨g,3,none⟩ a3).setCell ⟨g,4,none⟩ a4).heap[k]?=w.heap[k]?:=by
 rw[Below.heap_setCell _ _ _ _ (by exact h),Below.heap_setCell _ _ _ _ (by exact h),Below.heap_setCell _ _ _ _ (by exact h),Below.heap_setCell _ _ _ _ (by exact h),Below.heap_setCell _ _ _ _ (by exact h)]
theorem Uj{E:Nat->Prop}{w:World}{g:Nat}(h:∀k,E k->k≠g)(a0 a1 a2 a3 a4:Value):A2 E w (((((w.setCell ⟨g,0,none⟩ a0).setCell ⟨g,1,none⟩ a1).setCell ⟨g,2,none⟩ a2).setCell ⟨g,3,none⟩ a3).setCell ⟨g,4,none⟩ a4):=
 ⟨by simp only[Uf],by simp only[Uh],by simp only[Ug],by simp[World.setCell],fun k hk=>Uk _ _ _ _ _ k (h k hk)⟩
theorem A3j{w:World}{g:Nat}{b0 b1 b2 b3 b4:Value}{t:TypeId}(h:w.heap[g]?=some (.cells #[b0,b1,b2,b3,b4] t (0,0)))(a0 a1 a2 a3 a4:Value):(((((w.setCell ⟨g,0,none⟩ a0).setCell ⟨g,1,none⟩ a1).setCell ⟨g,2,none⟩ a2).setCell ⟨g,3,none⟩ a3).setCell ⟨g,4,none⟩ a4).heap[g]?=some (.cells #[a0,a1,a2,a3,a4] t (0,0)):=by
 rw[heap_set (heap_set (heap_set (heap_set (heap_set h _) _) _) _) _];simp
theorem MC.Ms.Ui(h:C.Ms D X β w m){g:Nat}(hx:X g)(hd:¬D g)(a0 a1 a2 a3 a4:Value):C.Ms D X β (((((w.setCell ⟨g,0,none⟩ a0).setCell ⟨g,1,none⟩ a1).setCell ⟨g,2,none⟩ a2).setCell ⟨g,3,none⟩ a3).setCell ⟨g,4,none⟩ a4) m:=
 h.less (fun _ h=>h) (fun k _ hk=>Uk _ _ _ _ _ k (fun e=>hd (e ▸ hk (e ▸ hx)))) z57a
theorem Nj{w:World}{b:Nat}{a0 a1 a2 a3 a4:Value}{t:TypeId}(h:w.heap[b]?=some (.cells #[a0,a1,a2,a3,a4] t (0,0))):w.cell? ⟨b,0,none⟩=some a0/\w.cell? ⟨b,1,none⟩=some a1/\w.cell? ⟨b,2,none⟩=some a2/\w.cell? ⟨b,3,none⟩=some a3/\w.cell? ⟨b,4,none⟩=some a4/\(∀o,w.frozen? ⟨b,o,none⟩=false)/\b<w.heap.size:=
 ⟨A7 h 0 _ rfl,A7 h 1 _ rfl,A7 h 2 _ rfl,A7 h 3 _ rfl,A7 h 4 _ rfl,Ci h,A6 h⟩
theorem Fe(h:C.Ms D X β w m):Calls Tryz.prog 210 #[.pointer (some ⟨C.mb,0,none⟩)] w (MP C D X β w m.pop.pop (.tuple #[B3 β m.pop.top,B3 β m.top])):=by
 have lb:=h.At;have HPr:=A0 h.Ah2;obtain⟨w0,Dz⟩:∃w0,w0=(w.alloc (.cells #[.int .i64 0,.bool false,.int .i64 0,.string ⟨#[]⟩,.pointer none] 225)).alloc (.cells #[.int .i64 0,.bool false,.int .i64 0,.string ⟨#[]⟩,.pointer none] 225):=⟨_,rfl⟩;have Bv:Below w.heap.size w w0:=by rw[Dz];exact Below.alloc (Below.alloc (Below.refl _ _) (Nat.le_refl _) _) z4wa _
 have J4:w0.heap.size=w.heap.size+2:=by rw[Dz];simp
 have h0:=h.more Bv;have hR1:w0.heap[w.heap.size]?=some (.cells #[.int .i64 0,.bool false,.int .i64 0,.string ⟨#[]⟩,.pointer none] 225 (0,0)):=by rw[Dz,Below.heap_alloc _ _ _ z4wa];exact heap_alloc_new w _
 have Eg:w0.heap[w.heap.size+1]?=some (.cells #[.int .i64 0,.bool false,.int .i64 0,.string ⟨#[]⟩,.pointer none] 225 (0,0)):=by
  have:=heap_alloc_new (w.alloc (.cells #[.int .i64 0,.bool false,.int .i64 0,.string ⟨#[]⟩,.pointer none] 225)) (.cells #[.int .i64 0,.bool false,.int .i64 0,.string ⟨#[]⟩,.pointer none] 225);rw[Dz];simpa using this
 have HP0:=A0 h0.pop;have Ap:=A0 Dz;have Ae:Hid (A2 (dx D X) w w0):=⟨Bv.os,Bv.tape,Bv.output,Bv.size,fun g hg=>Bv.block g (HPr.o g hg)⟩;have Jj:=A0 hR1;have Dv:=A0 Eg;have Aq:=A0 J4;have Dm:dx D (fun g=>X g\/(w.heap.size<=g/\g<w0.heap.size)) w.heap.size:=.inr (.inr ⟨Nat.le_refl _,by omega⟩);have Fc:dx D (fun g=>X g\/(w.heap.size<=g/\g<w0.heap.size)) (w.heap.size+1):=.inr (.inr ⟨by omega,by omega⟩);have Gz:=A0 Dm;have HX2:=A0 Fc;clear h Dz Bv h0 hR1 Eg J4 Dm Fc;go_enter Tryz.func210,Tryz.ntmps210;go_wp2_with fail
 rw[←Ap.o];refine HP0.o.mono ?_;rintro e w1 ⟨rfl,h1,A1⟩;have hq1:=(A1.block _ Gz.o).trans Jj.o;have I3:=(A1.block _ HX2.o).trans Dv.o;obtain⟨p0,p1,p2,p3,p4,fp,lp⟩:=Nj hq1;obtain⟨r0,r1,r2,r3,r4,fr,lr⟩:=Nj I3;have hnD1:¬D w.heap.size:=fun hd=>by have:=HPr.o _ (.inl hd);omega
 have hnD2:¬D (w.heap.size+1):=fun hd=>by have:=HPr.o _ (.inl hd);omega
 have HQ1:=A0 hq1;have HQ2:=A0 I3;have hxx:(fun g=>X g\/(w.heap.size<=g/\g<w0.heap.size)) (w.heap.size+1):=.inr ⟨by omega,by have:=Aq.o;omega⟩;have hxy:(fun g=>X g\/(w.heap.size<=g/\g<w0.heap.size)) w.heap.size:=.inr ⟨by omega,by have:=Aq.o;omega⟩;have HM1:=A0 (fun(a0 a1 a2 a3 a4:Value)=>(h1.Ui hxx hnD2 a0 a1 a2 a3 a4).pop);have A4:=A0 A1;have HXY:=A0 hxy;have HND1:=A0 hnD1;have HND2:=A0 hnD2;have HXX:=A0 hxx;clear h1 A1 hq1 I3 hnD1 hnD2 hxx hxy;unfold B3;go_wp2_with fail
 refine(HM1.o _ _ _ _ _).mono ?_;rintro e w3 ⟨rfl,h3,Ar⟩;have hq1:=(Ar.block _ Gz.o).trans ((Uk _ _ _ _ _ _ z4sa).trans HQ1.o);have I3:=(Ar.block _ HX2.o).trans (A3j HQ2.o _ _ _ _ _);obtain⟨w4,hw4⟩:∃w4,w4=(((((w3.setCell ⟨w.heap.size,0,none⟩ (.int .i64 (m.pop.top.k:Nat))).setCell ⟨w.heap.size,1,none⟩ (.bool m.pop.top.y)).setCell ⟨w.heap.size,2,none⟩ (.int .i64 m.pop.top.n)).setCell ⟨w.heap.size,3,none⟩ (.string ⟨m.pop.top.t.toArray⟩)).setCell ⟨w.heap.size,4,none⟩ (.pointer (B5 β m.pop.top))):=⟨_,rfl⟩;have Ai:w4.heap[w.heap.size]?=some (.cells #[.int .i64 (m.pop.top.k:Nat),.bool m.pop.top.y,.int .i64 m.pop.top.n,.string ⟨m.pop.top.t.toArray⟩,.pointer (B5 β m.pop.top)] 225 (0,0)):=by rw[hw4];exact A3j hq1 _ _ _ _ _
 have Az:w4.heap[w.heap.size+1]?=some (.cells #[.int .i64 (m.top.k:Nat),.bool m.top.y,.int .i64 m.top.n,.string ⟨m.top.t.toArray⟩,.pointer (B5 β m.top)] 225 (0,0)):=by rw[hw4];exact(Uk _ _ _ _ _ _ z4sa).trans I3
 have hm4:C.Ms D (fun g=>X g\/(w.heap.size<=g/\g<w0.heap.size)) β w4 m.pop.pop:=by rw[hw4];exact h3.Ui HXY.o HND1.o _ _ _ _ _
 have hne1:∀k,dx D X k->k≠w.heap.size:=fun k hk=>by have:=HPr.o k hk;omega
 have hne2:∀k,dx D X k->k≠w.heap.size+1:=fun k hk=>by have:=HPr.o k hk;omega
 have hb34:A2 (dx D X) w3 w4:=by rw[hw4];exact Uj hne1 _ _ _ _ _
 have hb13:A2 (dx D X) w1 w3:=A2.trans (Uj hne2 _ _ _ _ _) (A2.weak Ar (fun g hg=>hg.imp id .inl));have Bi:A2 (dx D X) w w4:=Ae.o.trans (A2.trans (A2.weak A4.o (fun g hg=>hg.imp id .inl)) (hb13.trans hb34));have HNe1:=A0 hne1;have HNe2:=A0 hne2;clear hb34 hb13 hne1 hne2;obtain⟨u0,u1,u2,u3,u4,fu,lu⟩:=Nj hq1;have HW4:=A0 hw4;have HM4:=A0 hm4;have Cs:=A0 Bi;have Gq:=A0 Ai;have HT2:=A0 Az;clear h3 Ar hq1 I3 p0 p1 p2 p3 p4 fp lp r0 r1 r2 r3 r4 fr lr hw4 hm4 Bi Ai Az;unfold B3;go_wp2;rw[←HW4.o];clear HW4 u0 u1 u2 u3 u4 fu lu;obtain⟨u0,u1,u2,u3,u4,fu,lu⟩:=Nj Gq.o;obtain⟨v0,v1,v2,v3,v4,fv,lv⟩:=Nj HT2.o;go_region
 all_goals go_wp2
 all_goals refine bodyPost_ret (v:=.tuple #[.agg #[.int .i64 (m.pop.top.k:Nat),.bool m.pop.top.y,.int .i64 m.pop.top.n,.string ⟨m.pop.top.t.toArray⟩,.pointer (B5 β m.pop.top)],.agg #[.int .i64 (m.top.k:Nat),.bool m.top.y,.int .i64 m.top.n,.string ⟨m.top.t.toArray⟩,.pointer (B5 β m.top)]]) (by simp[results,Tryz.results210,go_sem,u0,u1,u2,u3,u4,v0,v1,v2,v3,v4]) rfl ?_
 all_goals
  have q1:=(HM4.o.Ui HXY.o HND1.o (.int .i64 (m.pop.top.k:Nat)) (.bool m.pop.top.y) (.int .i64 m.pop.top.n) (.string ⟨m.pop.top.t.toArray⟩) (.pointer (B5 β m.pop.top))).Ui HXX.o HND2.o (.int .i64 (m.top.k:Nat)) (.bool m.top.y) (.int .i64 m.top.n) (.string ⟨m.top.t.toArray⟩) (.pointer (B5 β m.top));have q2:=(Uj (w:=w4) HNe1.o (.int .i64 (m.pop.top.k:Nat)) (.bool m.pop.top.y) (.int .i64 m.pop.top.n) (.string ⟨m.pop.top.t.toArray⟩) (.pointer (B5 β m.pop.top))).trans (Uj HNe2.o (.int .i64 (m.top.k:Nat)) (.bool m.top.y) (.int .i64 m.top.n) (.string ⟨m.top.t.toArray⟩) (.pointer (B5 β m.top)));exact⟨rfl,q1.Ab4,Cs.o.trans (q2.trans (Dk _ _ 1))⟩
def Cu(X:Nat->Prop)(w:World):Nat->Prop:=fun g=>X g\/(w.heap.size<=g/\g<w.heap.size+1)
theorem MC.Ms.back(h:C.Ms D (Cu X w) β w' m):C.Ms D X β w' m:=h.less (fun _ h=>.inl h) (fun _ _ _=>rfl) rfl
theorem Ac{w1 w2:World}(h:A2 (dx D (Cu X w)) w1 w2):A2 (dx D X) w1 w2:=h.weak (fun _ hg=>hg.imp id .inl)
theorem MC.Ms.Hy(h:C.Ms D X β w m):C.Ms D X β w.drew m:=(h.below (w':=w.drew) ⟨rfl,rfl,rfl,Nat.le_refl _,fun _ _=>rfl⟩).1
theorem MC.Ms.enter(h:C.Ms D X β w m)(o:Obj):C.Ms D (Cu X w) β (w.alloc o) m/\A2 (dx D X) w (w.alloc o)/\dx D (Cu X w) w.heap.size:=by
 have hb:Below w.heap.size w (w.alloc o):=Below.alloc (Below.refl _ _) (Nat.le_refl _) _;refine⟨?_,(h.below hb).2,.inr (.inr ⟨Nat.le_refl _,by omega⟩)⟩;have:=h.more hb;rw[World.size_alloc]at this;exact this
theorem Bj{w:World}{b:Nat}{a0 a1 a2 a3 a4 a5 a6 a7:Value}{t:TypeId}(h:w.heap[b]?=some (.cells #[a0,a1,a2,a3,a4,a5,a6,a7] t (0,0))):w.cell? ⟨b,0,none⟩=some a0/\w.cell? ⟨b,1,none⟩=some a1/\w.cell? ⟨b,2,none⟩=some a2/\w.cell? ⟨b,3,none⟩=some a3/\w.cell? ⟨b,4,none⟩=some a4/\w.cell? ⟨b,5,none⟩=some a5/\w.cell? ⟨b,6,none⟩=some a6/\w.cell? ⟨b,7,none⟩=some a7/\b<w.heap.size:=
 ⟨A7 h 0 _ rfl,A7 h 1 _ rfl,A7 h 2 _ rfl,A7 h 3 _ rfl,A7 h 4 _ rfl,A7 h 5 _ rfl,A7 h 6 _ rfl,A7 h 7 _ rfl,A6 h⟩
theorem MC.Ms.Ca(h:C.Ms D X β w m)(i:Af):∃w0,Hid (w0=w.alloc (.cells #[.int .i64 (i.op:Nat),.int .i64 i.arg,.int .i64 (i.line:Nat),.int .i64 (i.v.k:Nat),.bool i.v.y,.int .i64 i.v.n,.string ⟨i.v.t.toArray⟩,.pointer none] 251))/\Hid (C.Ms D (Cu X w) β w0 m)/\Hid (A2 (dx D X) w w0)/\Hid (dx D (Cu X w) w.heap.size)/\Hid (w0.heap[w.heap.size]?=some (.cells #[.int .i64 (i.op:Nat),.int .i64 i.arg,.int .i64 (i.line:Nat),.int .i64 (i.v.k:Nat),.bool i.v.y,.int .i64 i.v.n,.string ⟨i.v.t.toArray⟩,.pointer none] 251 (0,0)))/\w0.cell? ⟨w.heap.size,0,none⟩=some (.int .i64 (i.op:Nat))/\w0.cell? ⟨w.heap.size,1,none⟩=some (.int .i64 i.arg)/\w0.cell? ⟨w.heap.size,2,none⟩=some (.int .i64 (i.line:Nat))/\w0.cell? ⟨w.heap.size,3,none⟩=some (.int .i64 (i.v.k:Nat))/\w0.cell? ⟨w.heap.size,4,none⟩=some (.bool i.v.y)/\w0.cell? ⟨w.heap.size,5,none⟩=some (.int .i64 i.v.n)/\w0.cell? ⟨w.heap.size,6,none⟩=some (.string ⟨i.v.t.toArray⟩)/\w0.cell? ⟨w.heap.size,7,none⟩=some (.pointer none)/\w.heap.size<w0.heap.size/\C.mb<w.heap.size/\C.mb<w0.heap.size:=by
 obtain⟨h0,Bv,Hf⟩:=h.enter (.cells #[.int .i64 (i.op:Nat),.int .i64 i.arg,.int .i64 (i.line:Nat),.int .i64 (i.v.k:Nat),.bool i.v.y,.int .i64 i.v.n,.string ⟨i.v.t.toArray⟩,.pointer none] 251);have hi0:=heap_alloc_new w (.cells #[.int .i64 (i.op:Nat),.int .i64 i.arg,.int .i64 (i.line:Nat),.int .i64 (i.v.k:Nat),.bool i.v.y,.int .i64 i.v.n,.string ⟨i.v.t.toArray⟩,.pointer none] 251);obtain⟨n0,n1,n2,n3,n4,n5,n6,n7,ln⟩:=Bj hi0;exact⟨_,A0 rfl,A0 h0,A0 Bv,A0 Hf,A0 hi0,n0,n1,n2,n3,n4,n5,n6,n7,ln,h.At,h0.At⟩
theorem z1ta {P:Prop} (h:P:=by
  refine Jq ?_;go_wp2_with fail
  refine(HP.o).mono ?_;rintro e w1 ⟨rfl,h1,k1⟩;have A8:=A0 h1.back;have A4:Hid (A2 (dx D X) w w1):=Ae.o.trans ((Dk _ w0 1).trans (Ac k1));clear h1 k1;go_wp2;go_end0;exact⟨rfl,A8.o,A4.o⟩):P:=h
theorem aconst(h:C.Ms D X β w m)(i:Af)(hr:i.v.r=none)(hk:i.v.k≠4)(hn:m.vals.length+1<=90000000000):Calls Tryz.prog 148 #[.pointer (some ⟨C.mb,0,none⟩),Ag i] w (MP C D X β w (m.push i.v) (.tuple #[])):=by
 obtain⟨w0,Ap,Aq,Ae,Ao,As,n0,n1,n2,n3,n4,n5,n6,n7,ln,lb,C9⟩:=h.Ca i;clear h;have HP:=A0 ((Aq.o.Hy).push i.v (by unfold Bs;rw[hr];exact hk) hn);have hrf:B5 β i.v=none:=by unfold B5;rw[hr]
 unfold B3 at HP;rw[hrf]at HP;clear hr hrf;unfold Ag;go_enter Tryz.func148,Tryz.ntmps148;go_wp2;rw[←Ap.o];refine Jr 5 z4va z4va ?_;simp only[List.take_succ_cons,List.take_zero,List.drop_succ_cons,List.drop_zero];iterate 5 (refine F4 (fun K' hK'=>?_);go_simp;refine hK' _ ?_;clear hK' K')
 exact z1ta
theorem z1xa {P:Prop} (h:P:=by
  go_wp2_with fail
  rw[←Ap.o];refine HP.o.mono ?_;rintro e w1 ⟨rfl,h1,k1⟩;have A8:=A0 h1.back;have A4:Hid (A2 (dx D X) w w1):=Ae.o.trans (Ac k1);clear h1 k1;unfold B3;go_wp2;go_end0;exact⟨rfl,A8.o,A4.o⟩):P:=h
theorem A6z(h:C.Ms D X β w m)(i:Af):Calls Tryz.prog 153 #[.pointer (some ⟨C.mb,0,none⟩),Ag i] w (MP C D X β w (m.pop) (.tuple #[])):=by
 obtain⟨w0,Ap,Aq,Ae,Ao,As,n0,n1,n2,n3,n4,n5,n6,n7,ln,lb,C9⟩:=h.Ca i;clear h;have HP:=A0 Aq.o.pop;unfold Ag;go_enter Tryz.func153,Tryz.ntmps153;exact z1xa
theorem A67(h:C.Ms D X β w m)(i:Af):Calls Tryz.prog 157 #[.pointer (some ⟨C.mb,0,none⟩),Ag i] w (MP C D X β w (if m.top.k=1 then m else m.fail 5 i) (.tuple #[])):=by
 obtain⟨w0,Ap,Aq,Ae,Ao,As,n0,n1,n2,n3,n4,n5,n6,n7,ln,lb,C9⟩:=h.Ca i;clear h;have HP:=A0 Aq.o.top;have HF:=A0 (fun(W:World) (hs:C.Ms D (Cu X w) β W m)=>I6 hs 5 i);have vf0:=Qx;by_cases hk:m.top.k=1
 ·have t1:(((m.top.k:Nat):Int) !=1)=false:=by rw[hk];rfl
  rw[if_pos hk];clear hk;unfold Ag;go_enter Tryz.func157,Tryz.ntmps157;exact z1xa
 ·have t1:(((m.top.k:Nat):Int) !=1)=true:=by rw[bne_iff_ne];omega
  rw[if_neg hk];clear hk;unfold Ag;go_enter Tryz.func157,Tryz.ntmps157;go_wp2_with fail
  rw[←Ap.o];refine HP.o.mono ?_;rintro e w1 ⟨rfl,h1,k1⟩;have Ad:=(k1.block _ Ao.o).trans As.o;have HF1:=A0 (HF.o w1 h1);have A4:Hid (A2 (dx D X) w w1):=Ae.o.trans (Ac k1);clear n0 n1 n2 n3 n4 n5 n6 n7 ln;obtain⟨n0,n1,n2,n3,n4,n5,n6,n7,ln⟩:=Bj Ad;clear h1 k1 Ad;unfold B3;unfold Ag at HF1;go_wp2_with fail
  refine HF1.o.mono ?_;rintro e w2 ⟨rfl,h2,k2⟩;have Ah:=A0 h2.back;have Aa:Hid (A2 (dx D X) w w2):=A4.o.trans (Ac k2);clear h2 k2;go_wp2;go_end0;exact z4aa
theorem Ru(h:C.Ms D X β w m)(i:Af)(hb:m.both 2=true):Calls Tryz.prog 251 #[.pointer (some ⟨C.mb,0,none⟩),Ag i] w (MP C D X β w (m) (.bool true)):=by
 obtain⟨w0,Ap,Aq,Ae,Ao,As,n0,n1,n2,n3,n4,n5,n6,n7,ln,lb,C9⟩:=h.Ca i;clear h;have HP:=A0 (Jo Aq.o 2);rw[hb]at HP;have HF:=A0 (fun(W:World) (hs:C.Ms D (Cu X w) β W m)=>I6 hs 5 i);clear hb;unfold Ag;go_enter Tryz.func251,Tryz.ntmps251;go_wp2_with fail
 rw[←Ap.o];refine HP.o.mono ?_;rintro e w1 ⟨rfl,h1,k1⟩;have A8:=A0 h1.back;have A4:Hid (A2 (dx D X) w w1):=Ae.o.trans (Ac k1);clear h1 k1 HF;go_wp2;go_ret;exact z4ba
theorem Rt(h:C.Ms D X β w m)(i:Af)(hb:m.both 2=false):Calls Tryz.prog 251 #[.pointer (some ⟨C.mb,0,none⟩),Ag i] w (MP C D X β w (m.fail 5 i) (.bool false)):=by
 obtain⟨w0,Ap,Aq,Ae,Ao,As,n0,n1,n2,n3,n4,n5,n6,n7,ln,lb,C9⟩:=h.Ca i;clear h;have HP:=A0 (Jo Aq.o 2);rw[hb]at HP;have HF:=A0 (fun(W:World) (hs:C.Ms D (Cu X w) β W m)=>I6 hs 5 i);clear hb;unfold Ag;go_enter Tryz.func251,Tryz.ntmps251;go_wp2_with fail
 rw[←Ap.o];refine HP.o.mono ?_;rintro e w1 ⟨rfl,h1,k1⟩;have Ad:=(k1.block _ Ao.o).trans As.o;have HF1:=A0 (HF.o w1 h1);have A4:Hid (A2 (dx D X) w w1):=Ae.o.trans (Ac k1);clear n0 n1 n2 n3 n4 n5 n6 n7 ln;obtain⟨n0,n1,n2,n3,n4,n5,n6,n7,ln⟩:=Bj Ad;clear h1 k1 Ad;unfold Ag at HF1;go_wp2_with fail
 refine HF1.o.mono ?_;rintro e w2 ⟨rfl,h2,k2⟩;have Ah:=A0 h2.back;have Aa:Hid (A2 (dx D X) w w2):=A4.o.trans (Ac k2);clear h2 k2;go_wp2;go_ret;exact z4aa
theorem z51a {P:Prop} (h:P:=by simp[MS.pop];omega):P:=h
theorem Ap3(h:C.Ms D X β w m)(i:Af)(ho:i.op=16)(hn:m.vals.length+1<=90000000000):Calls Tryz.prog 214 #[.pointer (some ⟨C.mb,0,none⟩),Ag i] w (MP C D X β w (m.two fun a b m'=>m'.push (ofInt (wr (a.n-b.n)))) (.tuple #[])):=by
 obtain⟨w0,Ap,Aq,Ae,Ao,As,n0,n1,n2,n3,n4,n5,n6,n7,ln,lb,C9⟩:=h.Ca i;clear h;have HT:=A0 (Fe Aq.o);have HP:=A0 (fun(W:World) (hs:C.Ms D (Cu X w) β W m.pop.pop)=>Oe hs (wr (m.pop.top.n-m.top.n)) z51a);have t0:((i.op:Int)==15)=false:=by rw[ho];rfl
 have t1:((i.op:Int)==16)=true:=by rw[ho];rfl
 unfold B3 at HT;clear ho;unfold Ag;go_enter Tryz.func214,Tryz.ntmps214;go_wp2_with fail
 rw[←Ap.o];refine HT.o.mono ?_;rintro e w1 ⟨rfl,h1,k1⟩;have Bk:=h1.At;have A9:Below w1.heap.size w1 ((w1.alloc (.cells #[.int .i64 (m.pop.top.k:Nat),.bool m.pop.top.y,.int .i64 m.pop.top.n,.string ⟨m.pop.top.t.toArray⟩,.pointer (B5 β m.pop.top)] 225)).alloc (.cells #[.int .i64 (m.top.k:Nat),.bool m.top.y,.int .i64 m.top.n,.string ⟨m.top.t.toArray⟩,.pointer (B5 β m.top)] 225)):=Below.alloc (Below.alloc (Below.refl _ _) (Nat.le_refl _) _) z4wa _;have B4:=A0 (HP.o _ (h1.below A9).1);have Aa:Hid (A2 (dx D X) w ((w1.alloc (.cells #[.int .i64 (m.pop.top.k:Nat),.bool m.pop.top.y,.int .i64 m.pop.top.n,.string ⟨m.pop.top.t.toArray⟩,.pointer (B5 β m.pop.top)] 225)).alloc (.cells #[.int .i64 (m.top.k:Nat),.bool m.top.y,.int .i64 m.top.n,.string ⟨m.top.t.toArray⟩,.pointer (B5 β m.top)] 225))):=Ae.o.trans ((Ac k1).trans (Ac (h1.below A9).2));clear h1 k1 A9;go_wp2_with fail
 refine B4.o.mono ?_;rintro e w3 ⟨rfl,h3,k3⟩;have Be:=A0 h3.back;have Ay:Hid (A2 (dx D X) w w3):=Aa.o.trans (Ac k3);clear h3 k3;go_wp2;go_end0;exact z4qa
theorem z0da {P:Prop} (h:P:=by
  go_wp2_with fail
  rw[←Ap.o];refine HA.o.mono ?_;rintro e w9 ⟨rfl,h9,k9⟩;have HTx:=A0 (HTw.o w9 h9);unfold B3 at HTx;have Gx:Hid (A2 (dx D X) w w9):=Ae.o.trans (Ac k9);have lb9:=h9.At;clear h9 k9;go_wp2_with fail
  refine HTx.o.mono ?_;rintro e w1 ⟨rfl,h1,k1⟩;have Bk:=h1.At;have A9:Below w1.heap.size w1 ((w1.alloc (.cells #[.int .i64 (m.pop.top.k:Nat),.bool m.pop.top.y,.int .i64 m.pop.top.n,.string ⟨m.pop.top.t.toArray⟩,.pointer (B5 β m.pop.top)] 225)).alloc (.cells #[.int .i64 (m.top.k:Nat),.bool m.top.y,.int .i64 m.top.n,.string ⟨m.top.t.toArray⟩,.pointer (B5 β m.top)] 225)):=Below.alloc (Below.alloc (Below.refl _ _) (Nat.le_refl _) _) z4wa _;have B4:=A0 (HP.o _ (h1.below A9).1);have Aa:Hid (A2 (dx D X) w ((w1.alloc (.cells #[.int .i64 (m.pop.top.k:Nat),.bool m.pop.top.y,.int .i64 m.pop.top.n,.string ⟨m.pop.top.t.toArray⟩,.pointer (B5 β m.pop.top)] 225)).alloc (.cells #[.int .i64 (m.top.k:Nat),.bool m.top.y,.int .i64 m.top.n,.string ⟨m.top.t.toArray⟩,.pointer (B5 β m.top)] 225))):=Gx.o.trans ((Ac k1).trans (Ac (h1.below A9).2));clear h1 k1 A9;go_wp2_with fail
  refine B4.o.mono ?_;rintro e w3 ⟨rfl,h3,k3⟩;have Be:=A0 h3.back;have Ay:Hid (A2 (dx D X) w w3):=Aa.o.trans (Ac k3);clear h3 k3;go_wp2;go_end0;exact⟨rfl,Be.o,Ay.o⟩):P:=h
theorem A88(h:C.Ms D X β w m)(i:Af)(ho:i.op=15)(hn:m.vals.length+1<=90000000000):Calls Tryz.prog 214 #[.pointer (some ⟨C.mb,0,none⟩),Ag i] w (MP C D X β w (m.ints i (fun a b m'=>m'.push (ofInt (wr (a-b))))) (.tuple #[])):=by
 obtain⟨w0,Ap,Aq,Ae,Ao,As,n0,n1,n2,n3,n4,n5,n6,n7,ln,lb,C9⟩:=h.Ca i;clear h;have HP:=A0 (fun(W:World) (hs:C.Ms D (Cu X w) β W m.pop.pop)=>Oe hs (wr (m.pop.top.n-m.top.n)) z51a);have t0:((i.op:Int)==15)=true:=by rw[ho];rfl
 have HTw:=A0 (fun(W:World) (hs:C.Ms D (Cu X w) β W m)=>Fe hs);unfold MS.ints;clear ho;cases hb:m.both 2
 ·rw[if_neg z4wa];have HA:=A0 (Rt Aq.o i hb);unfold Ag at HA;clear hb HP HTw;unfold Ag;go_enter Tryz.func214,Tryz.ntmps214;go_wp2_with fail
  rw[←Ap.o];refine HA.o.mono ?_;rintro e w1 ⟨rfl,h1,k1⟩;have A8:=A0 h1.back;have A4:Hid (A2 (dx D X) w w1):=Ae.o.trans (Ac k1);clear h1 k1;go_wp2;refine bodyPost_ret (v:=.tuple #[]) (by simp[results,Tryz.results214,go_sem]) rfl ?_;exact z4ba
 ·rw[if_pos rfl];have HA:=A0 (Ru Aq.o i hb);unfold Ag at HA;clear hb;unfold Ag;go_enter Tryz.func214,Tryz.ntmps214;exact z0da
theorem A7k(h:C.Ms D X β w m)(i:Af)(ho:i.op=17)(hn:m.vals.length+1<=90000000000):Calls Tryz.prog 215 #[.pointer (some ⟨C.mb,0,none⟩),Ag i] w (MP C D X β w (m.ints i (fun a b m'=>m'.push (ofInt (wr (a*b))))) (.tuple #[])):=by
 obtain⟨w0,Ap,Aq,Ae,Ao,As,n0,n1,n2,n3,n4,n5,n6,n7,ln,lb,C9⟩:=h.Ca i;clear h;have HP:=A0 (fun(W:World) (hs:C.Ms D (Cu X w) β W m.pop.pop)=>Oe hs (wr (m.pop.top.n*m.top.n)) z51a);have t0:((i.op:Int)==17)=true:=by rw[ho];rfl
 have HTw:=A0 (fun(W:World) (hs:C.Ms D (Cu X w) β W m)=>Fe hs);unfold MS.ints;clear ho;cases hb:m.both 2
 ·rw[if_neg z4wa];have HA:=A0 (Rt Aq.o i hb);unfold Ag at HA;clear hb HP HTw;unfold Ag;go_enter Tryz.func215,Tryz.ntmps215;go_wp2_with fail
  rw[←Ap.o];refine HA.o.mono ?_;rintro e w1 ⟨rfl,h1,k1⟩;have A8:=A0 h1.back;have A4:Hid (A2 (dx D X) w w1):=Ae.o.trans (Ac k1);clear h1 k1;go_wp2;refine bodyPost_ret (v:=.tuple #[]) (by simp[results,Tryz.results215,go_sem]) rfl ?_;exact z4ba
 ·rw[if_pos rfl];have HA:=A0 (Ru Aq.o i hb);unfold Ag at HA;clear hb;unfold Ag;go_enter Tryz.func215,Tryz.ntmps215;exact z0da
end
end Go.Proofs.YtjdlndhfaaolaaaGreatDoor
