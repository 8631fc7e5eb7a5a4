import Derived.Test.YtjdlndhfaaolaaaGreatDoorV17
import Derived.Test.YtjdlndhfaaolaaaGreatDoorV18
set_option maxHeartbeats 20000000
namespace Go.Proofs.YtjdlndhfaaolaaaGreatDoor
section
open Go.RowKit
structure Fp (b : Nat) (row : Option Nat) (w w' : World) : Prop where
 os:w'.os=w.os
 tape:w'.tape=w.tape
 output:w'.output=w.output
 size:w.heap.size<=w'.heap.size
 block:∀k,k<w.heap.size->k≠b->row≠some k->w'.heap[k]?=w.heap[k]?
theorem Fp.refl(b:Nat)(row:Option Nat)(w:World):Fp b row w w:=⟨rfl,rfl,rfl,Nat.le_refl _,fun _ _ _ _=>rfl⟩
structure G2 (T : TypeId) (b o : Nat) (w : World) (cs : Array Value) (t : TypeId) (va : Option Addr) (vn vc : Nat) (xs : List Value) : Prop where
 blk:w.heap[b]?=some (.cells cs t (0,0))
 cell:cs[o]?=some (.slice va vn vc)
 own:w.ownsRow 0 T 1 (.slice va vn vc) xs.length xs
 ne:(Value.slice va vn vc).ownBlock≠some b
def Nq(T:TypeId)(b o:Nat)(w:World)(cs:Array Value)(t:TypeId)(va:Option Addr)(vn vc:Nat)(xs:List Value)(u:Value)(w':World):Prop:=
 ∃g cap,G2 T b o w' (cs.setIfInBounds o (.slice (some ⟨g,0,none⟩) (xs.length+1) cap)) t (some ⟨g,0,none⟩) (xs.length+1) cap (xs++[u])/\((Value.slice va vn vc).ownBlock=some g\/w.heap.size<=g)/\Fp b (Value.slice va vn vc).ownBlock w w'
def Ly(T:TypeId)(b o:Nat)(w:World)(cs:Array Value)(t:TypeId)(va:Option Addr)(vn vc:Nat)(xs:List Value)(m:Nat)(w':World):Prop:=
 G2 T b o w' (cs.setIfInBounds o (.slice va m vc)) t va m vc (xs.take m)/\Fp b (Value.slice va vn vc).ownBlock w w'
theorem O6{cs:Array Value}{o:Nat}{v:Value}(h:cs[o]?=some v):cs.setIfInBounds o v=cs:=by
 apply Array.ext_getElem?;intro i;rw[Array.getElem?_setIfInBounds];split
 ·rename_i e;subst e;rw[h];split
  ·rfl
  ·rename_i hn;rw[Array.getElem?_eq_none z4va]at h;cases h
 ·rfl
theorem Pr(g:Nat)(t:TypeId)(fr:Nat×Nat):∀(vs:List Value) (o:Nat) (cur:Array Value) (w:World),w.heap[g]?=some (.cells cur t fr)->
  ∃cur',(w.setCells g o vs).heap[g]?=some (.cells cur' t fr)/\cur'.size=cur.size/\∀m,m<=o->cur'.toList.take m=cur.toList.take m:=by
 intro vs;induction vs with
 | nil=>intro o cur w h;exact⟨cur,h,rfl,fun _ _=>rfl⟩
 | cons v r ih=>
  intro o cur w h;obtain⟨cur',h1,h2,h3⟩:=ih (o+1) _ _ (heap_set (j:=o) h v);refine⟨cur',h1,by rw[h2];simp,fun m hm=>?_⟩;rw[h3 m z4va];simp only[Array.toList_setIfInBounds];rw[List.take_set_of_le z4va]
theorem z58a {P:Prop} (h:P:=by simp[World.setCell]):P:=h
theorem Kv(g:Nat):∀(vs:List Value) (o:Nat) (w:World),(w.setCells g o vs).os=w.os/\(w.setCells g o vs).tape=w.tape/\(w.setCells g o vs).output=w.output/\(w.setCells g o vs).heap.size=w.heap.size/\∀k,k≠g->(w.setCells g o vs).heap[k]?=w.heap[k]?:=by
 intro vs;induction vs with
 | nil=>intro o w;exact⟨rfl,rfl,rfl,rfl,fun _ _=>rfl⟩
 | cons v r ih=>
  intro o w;obtain⟨h1,h2,h3,h4,h5⟩:=ih (o+1) (w.setCell ⟨g,o,none⟩ v);exact⟨h1,h2,h3,h4.trans z58a,fun k hk=>(h5 k hk).trans (Below.heap_setCell _ _ _ _ z5sa)⟩
theorem Dp{w:World}{b o:Nat}{cs:Array Value}{t:TypeId}{v:Value}(h:w.heap[b]?=some (.cells cs t (0,0)))(hc:cs[o]?=some v):w.cell? ⟨b,o,none⟩=some v:=A2 h o v hc
end
section
set_option maxRecDepth 100000
open Go.RowKit
variable {b o:Nat}{w:World}{cs:Array Value}{t:TypeId}{va:Option Addr}{vn vc:Nat}{xs:List Value}
theorem Aeg:(Tryz.prog.info? 255).map (fun i=>(i.zero,i.size,i.bytes))=some (some (.pointer none),1,8):=by kernel_rfl
theorem Rb(h:G2 9 b o w cs t va vn vc xs):Calls Tryz.prog 136 #[.pointer (some ⟨b,o,none⟩)] w fun e w'=>e=.returned (.int .i64 (xs.length:Nat))/\w'=w:=by
 have c:=Dp h.blk h.cell;have lb:=A5 h.blk;have hv:vn=xs.length:=(C9 h.own).1;subst hv;clear h;go_enter Tryz.func136,Tryz.ntmps136;exact z03a
theorem A3o(h:G2 9 b o w cs t va vn vc xs)(i:Nat)(hi:i<xs.length):Calls Tryz.prog 138 #[.pointer (some ⟨b,o,none⟩),.int .i64 (i:Nat)] w fun e w'=>e=.returned xs[i]/\w'=w:=by
 have c:=Dp h.blk h.cell;have lb:=A5 h.blk;have hv:vn=xs.length:=(C9 h.own).1;subst hv;obtain⟨g,rfl,_,hcap,lg,fz,hx,cg⟩:=P5 h.own i hi;clear h;generalize xs[i]=x at *;go_enter Tryz.func138,Tryz.ntmps138;exact z03a
theorem z1za {P:Prop} (h:P:=by
  rw[Array.getElem?_setIfInBounds,if_pos rfl,if_pos ho]):P:=h
theorem z3da {P:Prop} (h:P:=by
  exact B4 HOwn1.o (fun k hk _=>Below.heap_setCell _ _ _ _ (by simp only[Value.ownBlock,Option.some.injEq]at hk;show k≠b;omega))):P:=h
theorem z09a {P:Prop} (h:P:=by
  go_end0;have hgb:g≠b:=by
   rcases HAt.o with e|e
   ·intro e2;rw[e2]at e;exact HNe.o e
   ·omega
  refine⟨rfl,g,cap,⟨heap_set A4.o _,?_,?_,by simp only[Value.ownBlock,ne_eq,Option.some.injEq];exact hgb⟩,HAt.o.imp id (fun e=>by omega),⟨HGrow.o.os,HGrow.o.tape,HGrow.o.output,by simp[World.setCell];exact HGrow.o.size,fun k hk hkb hkr=>?_⟩⟩
  ·exact z1za
  ·rw[List.length_append];exact z3da
  ·exact(Below.heap_setCell _ _ _ _ (by exact hkb)).trans (HGrow.o.block k hk (fun e=>hkr e.symm))):P:=h
theorem V2(h:G2 9 b o w cs t va vn vc xs)(hn:xs.length<=900000)(u:ByteArray)(ho:o<cs.size):Calls Tryz.prog 137 #[.pointer (some ⟨b,o,none⟩),.string u] w fun e w'=>e=.returned (.tuple #[])/\Nq 9 b o w cs t va vn vc xs (.string u) w':=by
 have c:=Dp h.blk h.cell;have lb:=A5 h.blk;have fz:=Bd h.blk;have hv:vn=xs.length:=(C9 h.own).1;subst hv;have hown:=h.own;have HH:=A0 h;have HNe:=A0 h.ne;clear h;go_enter Tryz.func137,Tryz.ntmps137;go_wp2_with (at_builtin;refine Kj w #[.string u] 9 rfl (.tmp 8) (.tmp 10) 37 rfl 0 1 16 (.string ⟨#[]⟩) Tryz.underlying37 Xf rfl z4va (.slice va xs.length vc) xs.length xs rfl rfl hown rfl (fun v hv=>by simp at hv;rw[hv];rfl) z4va z4va (Nat.zero_le _) ?_;intro g cap w1 F0 hgrow hat hg;have A1:=(hgrow.block b lb (fun e=>HNe.o e.symm)).trans HH.o.blk;have c1:=Dp A1 HH.o.cell;have f1:=Bd A1;have Bj:=A5 A1;have A4:=A0 A1;have HOwn1:=A0 F0;have HGrow:=A0 hgrow;have HAt:=A0 hat;clear A1 F0 hgrow hat)
 exact z09a
theorem A42(h:G2 3 b o w cs t va vn vc xs):Calls Tryz.prog 243 #[.pointer (some ⟨b,o,none⟩)] w fun e w'=>e=.returned (.int .i64 (xs.length:Nat))/\w'=w:=by
 have c:=Dp h.blk h.cell;have lb:=A5 h.blk;have hv:vn=xs.length:=(C9 h.own).1;subst hv;clear h;go_enter Tryz.func243,Tryz.ntmps243;exact z03a
theorem Ak5(h:G2 3 b o w cs t va vn vc xs)(i:Nat)(hi:i<xs.length):Calls Tryz.prog 271 #[.pointer (some ⟨b,o,none⟩),.int .i64 (i:Nat)] w fun e w'=>e=.returned xs[i]/\w'=w:=by
 have c:=Dp h.blk h.cell;have lb:=A5 h.blk;have hv:vn=xs.length:=(C9 h.own).1;subst hv;obtain⟨g,rfl,_,hcap,lg,fz,hx,cg⟩:=P5 h.own i hi;clear h;generalize xs[i]=x at *;go_enter Tryz.func271,Tryz.ntmps271;exact z03a
theorem z1ra {P:Prop} (h:P:=by
  go_wp2_with fail
  refine HL.o.mono ?_;rintro e w' ⟨rfl,rfl⟩;go_wp2_with fail
  refine HA.o.mono ?_;rintro e w' ⟨rfl,rfl⟩;exact z03a):P:=h
theorem A48(h:G2 3 b o w cs t va vn vc xs)(hn:xs.length<=1000000)(n:Nat)(hi:n<xs.length)(h0:xs.length=n+1):Calls Tryz.prog 241 #[.pointer (some ⟨b,o,none⟩)] w fun e w'=>e=.returned (xs[n]'hi)/\w'=w:=by
 have HL:=A0 (A42 h);have HA:=A0 (Ak5 h n hi);rw[h0]at HL;have Di:n<=1000000:=by omega
 generalize hx:xs[n]'hi=x at HA ⊢;clear h h0 hx;go_enter Tryz.func241,Tryz.ntmps241;exact z1ra
theorem Ama(h:G2 3 b o w cs t va vn vc xs)(hn:xs.length<=900000)(u:Int)(ho:o<cs.size):Calls Tryz.prog 191 #[.pointer (some ⟨b,o,none⟩),.int .i64 u] w fun e w'=>e=.returned (.tuple #[])/\Nq 3 b o w cs t va vn vc xs (.int .i64 u) w':=by
 have c:=Dp h.blk h.cell;have lb:=A5 h.blk;have fz:=Bd h.blk;have hv:vn=xs.length:=(C9 h.own).1;subst hv;have hown:=h.own;have HH:=A0 h;have HNe:=A0 h.ne;clear h;go_enter Tryz.func191,Tryz.ntmps191;go_wp2_with (at_builtin;refine Kj w #[.int .i64 u] 3 rfl (.tmp 8) (.tmp 10) 34 rfl 0 1 8 (.int .i64 0) Tryz.underlying34 Xc rfl z4va (.slice va xs.length vc) xs.length xs rfl rfl hown rfl (fun v hv=>by simp at hv;rw[hv];rfl) z4va z4va (Nat.zero_le _) ?_;intro g cap w1 F0 hgrow hat hg;have A1:=(hgrow.block b lb (fun e=>HNe.o e.symm)).trans HH.o.blk;have c1:=Dp A1 HH.o.cell;have f1:=Bd A1;have Bj:=A5 A1;have A4:=A0 A1;have HOwn1:=A0 F0;have HGrow:=A0 hgrow;have HAt:=A0 hat;clear A1 F0 hgrow hat)
 exact z09a
theorem Yf(h:G2 255 b o w cs t va vn vc xs):Calls Tryz.prog 270 #[.pointer (some ⟨b,o,none⟩)] w fun e w'=>e=.returned (.int .i64 (xs.length:Nat))/\w'=w:=by
 have c:=Dp h.blk h.cell;have lb:=A5 h.blk;have hv:vn=xs.length:=(C9 h.own).1;subst hv;clear h;go_enter Tryz.func270,Tryz.ntmps270;exact z03a
theorem Ak7(h:G2 255 b o w cs t va vn vc xs)(i:Nat)(hi:i<xs.length):Calls Tryz.prog 286 #[.pointer (some ⟨b,o,none⟩),.int .i64 (i:Nat)] w fun e w'=>e=.returned xs[i]/\w'=w:=by
 have c:=Dp h.blk h.cell;have lb:=A5 h.blk;have hv:vn=xs.length:=(C9 h.own).1;subst hv;obtain⟨g,rfl,_,hcap,lg,fz,hx,cg⟩:=P5 h.own i hi;clear h;generalize xs[i]=x at *;go_enter Tryz.func286,Tryz.ntmps286;exact z03a
theorem Ami(h:G2 255 b o w cs t va vn vc xs)(hn:xs.length<=1000000)(n:Nat)(hi:n<xs.length)(h0:xs.length=n+1):Calls Tryz.prog 268 #[.pointer (some ⟨b,o,none⟩)] w fun e w'=>e=.returned (xs[n]'hi)/\w'=w:=by
 have HL:=A0 (Yf h);have HA:=A0 (Ak7 h n hi);rw[h0]at HL;have Di:n<=1000000:=by omega
 generalize hx:xs[n]'hi=x at HA ⊢;clear h h0 hx;go_enter Tryz.func268,Tryz.ntmps268;exact z1ra
theorem Amc(h:G2 255 b o w cs t va vn vc xs)(hn:xs.length<=900000)(u:Option Addr)(ho:o<cs.size):Calls Tryz.prog 237 #[.pointer (some ⟨b,o,none⟩),.pointer u] w fun e w'=>e=.returned (.tuple #[])/\Nq 255 b o w cs t va vn vc xs (.pointer u) w':=by
 have c:=Dp h.blk h.cell;have lb:=A5 h.blk;have fz:=Bd h.blk;have hv:vn=xs.length:=(C9 h.own).1;subst hv;have hown:=h.own;have HH:=A0 h;have HNe:=A0 h.ne;clear h;go_enter Tryz.func237,Tryz.ntmps237;go_wp2_with (at_builtin;refine Kj w #[.pointer u] 255 rfl (.tmp 8) (.tmp 10) 209 rfl 0 1 8 (.pointer none) Tryz.underlying209 Aeg rfl z4va (.slice va xs.length vc) xs.length xs rfl rfl hown rfl (fun v hv=>by simp at hv;rw[hv];rfl) z4va z4va (Nat.zero_le _) ?_;intro g cap w1 F0 hgrow hat hg;have A1:=(hgrow.block b lb (fun e=>HNe.o e.symm)).trans HH.o.blk;have c1:=Dp A1 HH.o.cell;have f1:=Bd A1;have Bj:=A5 A1;have A4:=A0 A1;have HOwn1:=A0 F0;have HGrow:=A0 hgrow;have HAt:=A0 hat;clear A1 F0 hgrow hat)
 exact z09a
theorem z2pa {P:Prop} (h:P:=by
  simp only[Value.ownBlock,ne_eq,Option.some.injEq];exact hgb):P:=h
theorem z3wa {P:Prop} (h:P:=by
  rw[List.length_take,Nat.min_eq_left hm]):P:=h
theorem z3ma {P:Prop} (h:P:=by
  rw[List.length_take,Nat.min_eq_left hm];omega):P:=h
theorem z06a {P:Prop} (h:P:=by
  go_wp2;go_end0;obtain⟨p1,p2,p3,p4,p5⟩:=HF.o;have hset:∀k,k≠b->(w1.setCell ⟨b,o,none⟩ (.slice (some ⟨g,0,none⟩) m vc)).heap[k]?=w1.heap[k]?:=fun k hk=>Below.heap_setCell _ _ _ _ z5sa;refine⟨rfl,⟨heap_set A4.o _,?_,⟨by simp,.inr ⟨g,vc,cur',?_,Nat.zero_le _,(hset g hgb).trans I3.o,?_,hmx,HSz.o,?_⟩⟩,?_⟩,⟨p1,p2,p3,by simp[World.setCell];omega,fun k hk hkb hkr=>?_⟩⟩
  ·exact z1za
  ·exact z3wa
  ·exact z3ma
  ·rw[List.length_take,Nat.min_eq_left hm,Nat.mul_one,HK3.o,←HT.o,List.take_take,Nat.mul_one,Nat.min_eq_left hm]
  ·exact z2pa
  ·exact(hset k hkb).trans (p5 k (fun e=>hkr (by rw[e];rfl)))):P:=h
theorem z25a {P:Prop} (h:P:=by
  rw[O6 HH.o.cell,List.take_length];exact HH.o):P:=h
theorem z1va {P:Prop} (h:P:=by
  intro j hj;rw[cell_of_row w g (m+j) cur _ _ hg,Array.getElem?_eq_getElem z4va];rfl):P:=h
theorem z5ra {P:Prop} (h:P:=by rw[←e];rfl):P:=h
theorem Ya(h:G2 9 b o w cs t va vn vc xs)(m:Nat)(hm:m<=xs.length)(ho:o<cs.size):Calls Tryz.prog 83 #[.pointer (some ⟨b,o,none⟩),.int .i64 (m:Nat)] w fun e w'=>e=.returned (.tuple #[])/\Ly 9 b o w cs t va vn vc xs m w':=by
 have c:=Dp h.blk h.cell;have lb:=A5 h.blk;have fz:=Bd h.blk;have hv:vn=xs.length:=(C9 h.own).1;subst hv;have HH:=A0 h;have HNe:=A0 h.ne;by_cases he:m=xs.length
 ·subst he;clear h;go_enter Tryz.func83,Tryz.ntmps83;go_wp2;refine bodyPost_ret (v:=.tuple #[]) (by simp[results,Tryz.results83,go_sem]) rfl ⟨rfl,?_,Fp.refl _ _ _⟩;exact z25a
 ·obtain⟨g,rfl,Gb,hcap,lg,fg,hx,cg⟩:=P5 h.own m z4va;obtain⟨hl,⟨h2,h3⟩|⟨g',cap,cur,hv,_,hg,hcap',hmx,hsz,ht⟩⟩:=h.own
  ·cases h2
  ·injection hv with e1 e2 e3;injection e1 with e1;injection e1 with e1;subst e1 e3;have hgb:g≠b:=fun e=>h.ne z5ra;have hcs:∀j,j<xs.length-m->(w.cell? ⟨g,m+j,none⟩).isSome=true:=by
    exact z1va
   have hcl:∀ty,(Builtin.clear_ #[37] ty #[.slice (some ⟨g,m,none⟩) (xs.length-m) (vc-m)]).run Tryz.prog w=.ok (.tuple #[]) (w.setCells g m (List.replicate (xs.length-m) (.string ⟨#[]⟩))):=
    fun ty=>Lib.run_clear_slice w 37 9 ty (.string ⟨#[]⟩) Tryz.underlying37 Tryz.zeroValue9 rfl rfl g m (xs.length-m) (vc-m) z4va hcs (fun j hj=>fg _)
   obtain⟨cur',k1,k2,k3⟩:=Pr g 9 (0,0) (List.replicate (xs.length-m) (.string ⟨#[]⟩)) m cur w hg;obtain⟨f1,f2,f3,f4,f5⟩:=Kv g (List.replicate (xs.length-m) (.string ⟨#[]⟩)) m w;have A1:=(f5 b (fun e=>hgb e.symm)).trans h.blk;have I3:=A0 k1;have HK3:=A0 (k3 m (Nat.le_refl _));have HF:=A0 (And.intro f1 (And.intro f2 (And.intro f3 (And.intro f4 f5))));have HT:=A0 ht;have HSz:=A0 (k2.trans hsz);clear h hcs hg ht k1 k2 k3 f1 f2 f3 f5 hl hsz;have c1:=Dp A1 HH.o.cell;have g1:=Bd A1;have Bj:=A5 A1;have A4:=A0 A1;clear A1 f4;generalize w.setCells g m (List.replicate (xs.length-m) (.string ⟨#[]⟩))=w1 at *;go_enter Tryz.func83,Tryz.ntmps83;exact z06a
theorem Akd(h:G2 3 b o w cs t va vn vc xs)(m:Nat)(hm:m<=xs.length)(ho:o<cs.size):Calls Tryz.prog 242 #[.pointer (some ⟨b,o,none⟩),.int .i64 (m:Nat)] w fun e w'=>e=.returned (.tuple #[])/\Ly 3 b o w cs t va vn vc xs m w':=by
 have c:=Dp h.blk h.cell;have lb:=A5 h.blk;have fz:=Bd h.blk;have hv:vn=xs.length:=(C9 h.own).1;subst hv;have HH:=A0 h;have HNe:=A0 h.ne;by_cases he:m=xs.length
 ·subst he;clear h;go_enter Tryz.func242,Tryz.ntmps242;go_wp2;refine bodyPost_ret (v:=.tuple #[]) (by simp[results,Tryz.results242,go_sem]) rfl ⟨rfl,?_,Fp.refl _ _ _⟩;exact z25a
 ·obtain⟨g,rfl,Gb,hcap,lg,fg,hx,cg⟩:=P5 h.own m z4va;obtain⟨hl,⟨h2,h3⟩|⟨g',cap,cur,hv,_,hg,hcap',hmx,hsz,ht⟩⟩:=h.own
  ·cases h2
  ·injection hv with e1 e2 e3;injection e1 with e1;injection e1 with e1;subst e1 e3;have hgb:g≠b:=fun e=>h.ne z5ra;have hcs:∀j,j<xs.length-m->(w.cell? ⟨g,m+j,none⟩).isSome=true:=by
    exact z1va
   have hcl:∀ty,(Builtin.clear_ #[34] ty #[.slice (some ⟨g,m,none⟩) (xs.length-m) (vc-m)]).run Tryz.prog w=.ok (.tuple #[]) (w.setCells g m (List.replicate (xs.length-m) (.int .i64 0))):=
    fun ty=>Lib.run_clear_slice w 34 3 ty (.int .i64 0) Tryz.underlying34 Tryz.zeroValue3 rfl rfl g m (xs.length-m) (vc-m) z4va hcs (fun j hj=>fg _)
   obtain⟨cur',k1,k2,k3⟩:=Pr g 3 (0,0) (List.replicate (xs.length-m) (.int .i64 0)) m cur w hg;obtain⟨f1,f2,f3,f4,f5⟩:=Kv g (List.replicate (xs.length-m) (.int .i64 0)) m w;have A1:=(f5 b (fun e=>hgb e.symm)).trans h.blk;have I3:=A0 k1;have HK3:=A0 (k3 m (Nat.le_refl _));have HF:=A0 (And.intro f1 (And.intro f2 (And.intro f3 (And.intro f4 f5))));have HT:=A0 ht;have HSz:=A0 (k2.trans hsz);clear h hcs hg ht k1 k2 k3 f1 f2 f3 f5 hl hsz;have c1:=Dp A1 HH.o.cell;have g1:=Bd A1;have Bj:=A5 A1;have A4:=A0 A1;clear A1 f4;generalize w.setCells g m (List.replicate (xs.length-m) (.int .i64 0))=w1 at *;go_enter Tryz.func242,Tryz.ntmps242;exact z06a
theorem z1aa {P:Prop} (h:P:=by
  go_wp2_with fail
  refine HT.o.mono ?_;rintro e w' ⟨rfl,rfl⟩;go_wp2_with fail
  refine HL.o.mono ?_;rintro e w' ⟨rfl,rfl⟩;go_wp2_with fail
  refine HC.o.mono ?_;rintro e w1 ⟨rfl,hc⟩;have Hq:=A0 hc;clear hc;go_wp2;go_ret;exact⟨rfl,Hq.o⟩):P:=h
theorem Am6(h:G2 3 b o w cs t va vn vc xs)(hn:xs.length<=1000000)(n:Nat)(hi:n<xs.length)(h0:xs.length=n+1)(ho:o<cs.size):Calls Tryz.prog 193 #[.pointer (some ⟨b,o,none⟩)] w fun e w'=>e=.returned (xs[n]'hi)/\Ly 3 b o w cs t va vn vc xs n w':=by
 have HT:=A0 (A48 h hn n hi h0);have HL:=A0 (A42 h);have HC:=A0 (Akd h n z4va ho);rw[h0]at HL;have Di:n<=1000000:=by omega
 generalize hx:xs[n]'hi=x at HT ⊢;clear h h0 hx;go_enter Tryz.func193,Tryz.ntmps193;exact z1aa
theorem Akf(h:G2 255 b o w cs t va vn vc xs)(m:Nat)(hm:m<=xs.length)(ho:o<cs.size):Calls Tryz.prog 269 #[.pointer (some ⟨b,o,none⟩),.int .i64 (m:Nat)] w fun e w'=>e=.returned (.tuple #[])/\Ly 255 b o w cs t va vn vc xs m w':=by
 have c:=Dp h.blk h.cell;have lb:=A5 h.blk;have fz:=Bd h.blk;have hv:vn=xs.length:=(C9 h.own).1;subst hv;have HH:=A0 h;have HNe:=A0 h.ne;by_cases he:m=xs.length
 ·subst he;clear h;go_enter Tryz.func269,Tryz.ntmps269;go_wp2;refine bodyPost_ret (v:=.tuple #[]) (by simp[results,Tryz.results269,go_sem]) rfl ⟨rfl,?_,Fp.refl _ _ _⟩;exact z25a
 ·obtain⟨g,rfl,Gb,hcap,lg,fg,hx,cg⟩:=P5 h.own m z4va;obtain⟨hl,⟨h2,h3⟩|⟨g',cap,cur,hv,_,hg,hcap',hmx,hsz,ht⟩⟩:=h.own
  ·cases h2
  ·injection hv with e1 e2 e3;injection e1 with e1;injection e1 with e1;subst e1 e3;have hgb:g≠b:=fun e=>h.ne z5ra;have hcs:∀j,j<xs.length-m->(w.cell? ⟨g,m+j,none⟩).isSome=true:=by
    exact z1va
   have hcl:∀ty,(Builtin.clear_ #[209] ty #[.slice (some ⟨g,m,none⟩) (xs.length-m) (vc-m)]).run Tryz.prog w=.ok (.tuple #[]) (w.setCells g m (List.replicate (xs.length-m) (.pointer none))):=
    fun ty=>Lib.run_clear_slice w 209 255 ty (.pointer none) Tryz.underlying209 Tryz.zeroValue255 rfl rfl g m (xs.length-m) (vc-m) z4va hcs (fun j hj=>fg _)
   obtain⟨cur',k1,k2,k3⟩:=Pr g 255 (0,0) (List.replicate (xs.length-m) (.pointer none)) m cur w hg;obtain⟨f1,f2,f3,f4,f5⟩:=Kv g (List.replicate (xs.length-m) (.pointer none)) m w;have A1:=(f5 b (fun e=>hgb e.symm)).trans h.blk;have I3:=A0 k1;have HK3:=A0 (k3 m (Nat.le_refl _));have HF:=A0 (And.intro f1 (And.intro f2 (And.intro f3 (And.intro f4 f5))));have HT:=A0 ht;have HSz:=A0 (k2.trans hsz);clear h hcs hg ht k1 k2 k3 f1 f2 f3 f5 hl hsz;have c1:=Dp A1 HH.o.cell;have g1:=Bd A1;have Bj:=A5 A1;have A4:=A0 A1;clear A1 f4;generalize w.setCells g m (List.replicate (xs.length-m) (.pointer none))=w1 at *;go_enter Tryz.func269,Tryz.ntmps269;exact z06a
theorem Am8(h:G2 255 b o w cs t va vn vc xs)(hn:xs.length<=1000000)(n:Nat)(hi:n<xs.length)(h0:xs.length=n+1)(ho:o<cs.size):Calls Tryz.prog 238 #[.pointer (some ⟨b,o,none⟩)] w fun e w'=>e=.returned (xs[n]'hi)/\Ly 255 b o w cs t va vn vc xs n w':=by
 have HT:=A0 (Ami h hn n hi h0);have HL:=A0 (Yf h);have HC:=A0 (Akf h n z4va ho);rw[h0]at HL;have Di:n<=1000000:=by omega
 generalize hx:xs[n]'hi=x at HT ⊢;clear h h0 hx;go_enter Tryz.func238,Tryz.ntmps238;exact z1aa
end
section
open Go.RowKit
open Go.Deep (BT)
def Df(ns:List Nm):List Value:=ns.map O4
def Da(bk:List Nat):List Value:=bk.map Pj
structure Hl (D : Nat -> Prop) (cb te : Nat) (w : World) (ns : List Nm) (bk : List Nat) (wh : Nat) (inn : Bool) (f : Ct) (rc : Nat) (fa : Option Addr) (fn fc : Nat) (na : Option Addr) (nn nc : Nat) (ba : Option Addr) (bn bc : Nat) (la : Option Addr) (ln lc : Nat) (ls : List Value) : Prop where
 cell:w.heap[cb]?=some (.cells #[.slice fa fn fc,.int .i64 (rc:Nat),.slice na nn nc,.slice ba bn bc,.slice la ln lc,.bool inn,.int .i64 (f.1:Nat),.int .i64 (f.2:Nat)] te (0,0))
 names:w.ownsRow 0 9 1 (.slice na nn nc) (Df ns).length (Df ns)
 blocks:w.ownsRow 0 3 1 (.slice ba bn bc) (Da bk).length (Da bk)
 loops:w.ownsRow 0 255 1 (.slice la ln lc) ls.length ls
 lsl:ls.length=wh
 Gv:¬D cb
 D5:∀g,(Value.slice na nn nc).ownBlock=some g->¬D g/\g≠cb/\(Value.slice ba bn bc).ownBlock≠some g/\(Value.slice la ln lc).ownBlock≠some g
 G6:∀g,(Value.slice ba bn bc).ownBlock=some g->¬D g/\g≠cb/\(Value.slice la ln lc).ownBlock≠some g
 J2:∀g,(Value.slice la ln lc).ownBlock=some g->¬D g/\g≠cb
 Br:ns.length<=800000/\bk.length<=800000/\wh<=800000/\rc<=800000
 lo:∀g,D g->g<w.heap.size
def F8(D:Nat->Prop)(cb te:Nat)(w:World)(ns:List Nm)(bk:List Nat)(wh:Nat)(inn:Bool)(f:Ct)(rc:Nat)(fa:Option Addr)(fn fc:Nat):Prop:=
 ∃na nn nc ba bn bc la ln lc ls,Hl D cb te w ns bk wh inn f rc fa fn fc na nn nc ba bn bc la ln lc ls
variable {D:Nat->Prop} {cb te:Nat} {w w':World} {ns:List Nm} {bk:List Nat} {wh:Nat} {inn:Bool} {f:Ct} {rc:Nat} {fa:Option Addr} {fn fc:Nat} {na:Option Addr} {nn nc:Nat} {ba:Option Addr} {bn bc:Nat} {la:Option Addr} {ln lc:Nat} {ls:List Value}
theorem Hl.keep(h:Hl D cb te w ns bk wh inn f rc fa fn fc na nn nc ba bn bc la ln lc ls)(hk:∀g,g<w.heap.size->w'.heap[g]?=w.heap[g]?)(hs:w.heap.size<=w'.heap.size):Hl D cb te w' ns bk wh inn f rc fa fn fc na nn nc ba bn bc la ln lc ls:=
 ⟨(hk cb (A5 h.cell)).trans h.cell,B4 h.names (fun g _ hl=>hk g hl),B4 h.blocks (fun g _ hl=>hk g hl),B4 h.loops (fun g _ hl=>hk g hl),h.lsl,h.Gv,h.D5,h.G6,h.J2,h.Br,fun g hg=>Nat.lt_of_lt_of_le (h.lo g hg) hs⟩
theorem F8.keep(h:F8 D cb te w ns bk wh inn f rc fa fn fc)(hk:∀g,g<w.heap.size->w'.heap[g]?=w.heap[g]?)(hs:w.heap.size<=w'.heap.size):F8 D cb te w' ns bk wh inn f rc fa fn fc:=by
 obtain⟨na,nn,nc,ba,bn,bc,la,ln,lc,ls,h⟩:=h;exact⟨na,nn,nc,ba,bn,bc,la,ln,lc,ls,h.keep hk hs⟩
theorem Hl.put(h:Hl D cb te w ns bk wh inn f rc fa fn fc na nn nc ba bn bc la ln lc ls)(inn':Bool)(f':Ct)(rc':Nat)(hrc:rc'<=800000)
  (hc:w'.heap[cb]?=some (.cells #[.slice fa fn fc,.int .i64 (rc':Nat),.slice na nn nc,.slice ba bn bc,.slice la ln lc,.bool inn',.int .i64 (f'.1:Nat),.int .i64 (f'.2:Nat)] te (0,0))) (hk:∀g,g<w.heap.size->g≠cb->w'.heap[g]?=w.heap[g]?) (hs:w.heap.size<=w'.heap.size):Hl D cb te w' ns bk wh inn' f' rc' fa fn fc na nn nc ba bn bc la ln lc ls:=
 ⟨hc,B4 h.names (fun g hg hl=>hk g hl (h.D5 g hg).2.1),B4 h.blocks (fun g hg hl=>hk g hl (h.G6 g hg).2.1),B4 h.loops (fun g hg hl=>hk g hl (h.J2 g hg).2),h.lsl,h.Gv,h.D5,h.G6,h.J2,⟨h.Br.1,h.Br.2.1,h.Br.2.2.1,hrc⟩,fun g hg=>Nat.lt_of_lt_of_le (h.lo g hg) hs⟩
theorem Hl.Ls(h:Hl D cb te w ns bk wh inn f rc fa fn fc na nn nc ba bn bc la ln lc ls):G2 9 cb 2 w #[.slice fa fn fc,.int .i64 (rc:Nat),.slice na nn nc,.slice ba bn bc,.slice la ln lc,.bool inn,.int .i64 (f.1:Nat),.int .i64 (f.2:Nat)] te na nn nc (Df ns):=
 ⟨h.cell,rfl,h.names,fun e=>(h.D5 _ e).2.1 rfl⟩
theorem Hl.Q5(h:Hl D cb te w ns bk wh inn f rc fa fn fc na nn nc ba bn bc la ln lc ls):G2 3 cb 3 w #[.slice fa fn fc,.int .i64 (rc:Nat),.slice na nn nc,.slice ba bn bc,.slice la ln lc,.bool inn,.int .i64 (f.1:Nat),.int .i64 (f.2:Nat)] te ba bn bc (Da bk):=
 ⟨h.cell,rfl,h.blocks,fun e=>(h.G6 _ e).2.1 rfl⟩
theorem Hl.Yj(h:Hl D cb te w ns bk wh inn f rc fa fn fc na nn nc ba bn bc la ln lc ls):G2 255 cb 4 w #[.slice fa fn fc,.int .i64 (rc:Nat),.slice na nn nc,.slice ba bn bc,.slice la ln lc,.bool inn,.int .i64 (f.1:Nat),.int .i64 (f.2:Nat)] te la ln lc ls:=
 ⟨h.cell,rfl,h.loops,fun e=>(h.J2 _ e).2 rfl⟩
theorem Fp.Bq{row:Option Nat}(h:Fp cb row w w')(h1:¬D cb)(h2:∀g,row=some g->¬D g)(hlo:∀g,D g->g<w.heap.size):A3 D w w':=
 ⟨h.os,h.tape,h.output,h.size,fun k hk=>h.block k (hlo k hk) (fun e=>h1 z5la) (fun e=>h2 k e hk)⟩
theorem Hl.Y3(h:Hl D cb te w ns bk wh inn f rc fa fn fc na nn nc ba bn bc la ln lc ls)(s:Nm)(hn:ns.length+1<=800000)
  (hp:Nq 9 cb 2 w #[.slice fa fn fc,.int .i64 (rc:Nat),.slice na nn nc,.slice ba bn bc,.slice la ln lc,.bool inn,.int .i64 (f.1:Nat),.int .i64 (f.2:Nat)] te na nn nc (Df ns) (O4 s) w'):F8 D cb te w' (ns++[s]) bk wh inn f rc fa fn fc/\A3 D w w':=by
 obtain⟨g,cap,hs,hat,hf⟩:=hp;have hD:¬D g/\g≠cb/\(Value.slice ba bn bc).ownBlock≠some g/\(Value.slice la ln lc).ownBlock≠some g:=by
  rcases hat with e|e
  ·exact h.D5 g e
  ·refine⟨fun hd=>by have:=h.lo g hd;omega,fun e2=>by have:=A5 h.cell;omega,fun e2=>?_,fun e2=>?_⟩
   ·have:=Bn h.blocks g e2;omega
   ·have:=Bn h.loops g e2;omega
 refine⟨⟨some ⟨g,0,none⟩,(Df ns).length+1,cap,ba,bn,bc,la,ln,lc,ls,?_⟩,hf.Bq h.Gv (fun g hg=>(h.D5 g hg).1) h.lo⟩;have hnm:Df (ns++[s])=Df ns++[O4 s]:=by simp[Df]
 refine⟨by simpa using hs.blk,by rw[hnm];exact hs.own,B4 h.blocks (fun k hk hl=>hf.block k hl (h.G6 k hk).2.1 (fun e=>(h.D5 k e).2.2.1 hk)),B4 h.loops (fun k hk hl=>hf.block k hl (h.J2 k hk).2 (fun e=>(h.D5 k e).2.2.2 hk)),h.lsl,h.Gv,?_,h.G6,h.J2,⟨by simpa using hn,h.Br.2⟩,fun g hg=>Nat.lt_of_lt_of_le (h.lo g hg) hf.size⟩;intro k hk;simp only[Value.ownBlock,Option.some.injEq]at hk;subst hk;exact hD
theorem Hl.Ai8(h:Hl D cb te w ns bk wh inn f rc fa fn fc na nn nc ba bn bc la ln lc ls)(p:Nat)(hn:bk.length+1<=800000)
  (hp:Nq 3 cb 3 w #[.slice fa fn fc,.int .i64 (rc:Nat),.slice na nn nc,.slice ba bn bc,.slice la ln lc,.bool inn,.int .i64 (f.1:Nat),.int .i64 (f.2:Nat)] te ba bn bc (Da bk) (Pj p) w'):F8 D cb te w' ns (bk++[p]) wh inn f rc fa fn fc/\A3 D w w':=by
 obtain⟨g,cap,hs,hat,hf⟩:=hp;have hD:¬D g/\g≠cb/\(Value.slice na nn nc).ownBlock≠some g/\(Value.slice la ln lc).ownBlock≠some g:=by
  rcases hat with e|e
  ·exact⟨(h.G6 g e).1,(h.G6 g e).2.1,fun e2=>(h.D5 g e2).2.2.1 e,(h.G6 g e).2.2⟩
  ·refine⟨fun hd=>by have:=h.lo g hd;omega,fun e2=>by have:=A5 h.cell;omega,fun e2=>?_,fun e2=>?_⟩
   ·have:=Bn h.names g e2;omega
   ·have:=Bn h.loops g e2;omega
 refine⟨⟨na,nn,nc,some ⟨g,0,none⟩,(Da bk).length+1,cap,la,ln,lc,ls,?_⟩,hf.Bq h.Gv (fun g hg=>(h.G6 g hg).1) h.lo⟩;have hnm:Da (bk++[p])=Da bk++[Pj p]:=by simp[Da]
 refine⟨by simpa using hs.blk,B4 h.names (fun k hk hl=>hf.block k hl (h.D5 k hk).2.1 (fun e=>(h.D5 k hk).2.2.1 e)),by rw[hnm];exact hs.own,B4 h.loops (fun k hk hl=>hf.block k hl (h.J2 k hk).2 (fun e=>(h.G6 k e).2.2 hk)),h.lsl,h.Gv,?_,?_,h.J2,⟨h.Br.1,by simpa using hn,h.Br.2.2⟩,fun g hg=>Nat.lt_of_lt_of_le (h.lo g hg) hf.size⟩
 ·intro k hk;refine⟨(h.D5 k hk).1,(h.D5 k hk).2.1,fun e=>?_,(h.D5 k hk).2.2.2⟩;simp only[Value.ownBlock,Option.some.injEq]at e;subst e;exact hD.2.2.1 hk
 ·intro k hk;simp only[Value.ownBlock,Option.some.injEq]at hk;subst hk;exact⟨hD.1,hD.2.1,hD.2.2.2⟩
theorem Hl.Y2(h:Hl D cb te w ns bk wh inn f rc fa fn fc na nn nc ba bn bc la ln lc ls)(u:Value)(hn:wh+1<=800000)
  (hp:Nq 255 cb 4 w #[.slice fa fn fc,.int .i64 (rc:Nat),.slice na nn nc,.slice ba bn bc,.slice la ln lc,.bool inn,.int .i64 (f.1:Nat),.int .i64 (f.2:Nat)] te la ln lc ls u w'):F8 D cb te w' ns bk (wh+1) inn f rc fa fn fc/\A3 D w w':=by
 obtain⟨g,cap,hs,hat,hf⟩:=hp;have hD:¬D g/\g≠cb/\(Value.slice na nn nc).ownBlock≠some g/\(Value.slice ba bn bc).ownBlock≠some g:=by
  rcases hat with e|e
  ·exact⟨(h.J2 g e).1,(h.J2 g e).2,fun e2=>(h.D5 g e2).2.2.2 e,fun e2=>(h.G6 g e2).2.2 e⟩
  ·refine⟨fun hd=>by have:=h.lo g hd;omega,fun e2=>by have:=A5 h.cell;omega,fun e2=>?_,fun e2=>?_⟩
   ·have:=Bn h.names g e2;omega
   ·have:=Bn h.blocks g e2;omega
 refine⟨⟨na,nn,nc,ba,bn,bc,some ⟨g,0,none⟩,ls.length+1,cap,ls++[u],?_⟩,hf.Bq h.Gv (fun g hg=>(h.J2 g hg).1) h.lo⟩;refine⟨by simpa using hs.blk,B4 h.names (fun k hk hl=>hf.block k hl (h.D5 k hk).2.1 (fun e=>(h.D5 k hk).2.2.2 e)),B4 h.blocks (fun k hk hl=>hf.block k hl (h.G6 k hk).2.1 (fun e=>(h.G6 k hk).2.2 e)),hs.own,by simp[h.lsl],h.Gv,?_,?_,?_,⟨h.Br.1,h.Br.2.1,hn,h.Br.2.2.2⟩,fun g hg=>Nat.lt_of_lt_of_le (h.lo g hg) hf.size⟩
 ·intro k hk;refine⟨(h.D5 k hk).1,(h.D5 k hk).2.1,(h.D5 k hk).2.2.1,fun e=>?_⟩;simp only[Value.ownBlock,Option.some.injEq]at e;subst e;exact hD.2.2.1 hk
 ·intro k hk;refine⟨(h.G6 k hk).1,(h.G6 k hk).2.1,fun e=>?_⟩;simp only[Value.ownBlock,Option.some.injEq]at e;subst e;exact hD.2.2.2 hk
 ·intro k hk;simp only[Value.ownBlock,Option.some.injEq]at hk;subst hk;exact⟨hD.1,hD.2.1⟩
theorem Hl.Abb(h:Hl D cb te w ns bk wh inn f rc fa fn fc na nn nc ba bn bc la ln lc ls)(m:Nat)
  (hp:Ly 9 cb 2 w #[.slice fa fn fc,.int .i64 (rc:Nat),.slice na nn nc,.slice ba bn bc,.slice la ln lc,.bool inn,.int .i64 (f.1:Nat),.int .i64 (f.2:Nat)] te na nn nc (Df ns) m w'):F8 D cb te w' (ns.take m) bk wh inn f rc fa fn fc/\A3 D w w':=by
 obtain⟨hs,hf⟩:=hp;refine⟨⟨na,m,nc,ba,bn,bc,la,ln,lc,ls,?_⟩,hf.Bq h.Gv (fun g hg=>(h.D5 g hg).1) h.lo⟩;have hnm:Df (ns.take m)=(Df ns).take m:=by simp[Df,List.map_take]
 have ho:∀g,(Value.slice na m nc).ownBlock=some g->(Value.slice na nn nc).ownBlock=some g:=fun g e=>(Mi _ _ _ _).trans e;refine⟨by simpa using hs.blk,by rw[hnm];exact hs.own,B4 h.blocks (fun k hk hl=>hf.block k hl (h.G6 k hk).2.1 (fun e=>(h.D5 k e).2.2.1 hk)),B4 h.loops (fun k hk hl=>hf.block k hl (h.J2 k hk).2 (fun e=>(h.D5 k e).2.2.2 hk)),h.lsl,h.Gv,fun k hk=>h.D5 k (ho k hk),h.G6,h.J2,⟨by have:=h.Br.1;simp;omega,h.Br.2⟩,fun g hg=>Nat.lt_of_lt_of_le (h.lo g hg) hf.size⟩
theorem Hl.Ab8(h:Hl D cb te w ns bk wh inn f rc fa fn fc na nn nc ba bn bc la ln lc ls)(m:Nat)
  (hp:Ly 3 cb 3 w #[.slice fa fn fc,.int .i64 (rc:Nat),.slice na nn nc,.slice ba bn bc,.slice la ln lc,.bool inn,.int .i64 (f.1:Nat),.int .i64 (f.2:Nat)] te ba bn bc (Da bk) m w'):F8 D cb te w' ns (bk.take m) wh inn f rc fa fn fc/\A3 D w w':=by
 obtain⟨hs,hf⟩:=hp;refine⟨⟨na,nn,nc,ba,m,bc,la,ln,lc,ls,?_⟩,hf.Bq h.Gv (fun g hg=>(h.G6 g hg).1) h.lo⟩;have hnm:Da (bk.take m)=(Da bk).take m:=by simp[Da,List.map_take]
 have ho:∀g,(Value.slice ba m bc).ownBlock=some g->(Value.slice ba bn bc).ownBlock=some g:=fun g e=>(Mi _ _ _ _).trans e;refine⟨by simpa using hs.blk,B4 h.names (fun k hk hl=>hf.block k hl (h.D5 k hk).2.1 (fun e=>(h.D5 k hk).2.2.1 e)),by rw[hnm];exact hs.own,B4 h.loops (fun k hk hl=>hf.block k hl (h.J2 k hk).2 (fun e=>(h.G6 k e).2.2 hk)),h.lsl,h.Gv,fun k hk=>⟨(h.D5 k hk).1,(h.D5 k hk).2.1,fun e=>(h.D5 k hk).2.2.1 (ho k e),(h.D5 k hk).2.2.2⟩,fun k hk=>h.G6 k (ho k hk),h.J2,⟨h.Br.1,by have:=h.Br.2.1;simp;omega,h.Br.2.2⟩,fun g hg=>Nat.lt_of_lt_of_le (h.lo g hg) hf.size⟩
theorem Hl.Aba(h:Hl D cb te w ns bk wh inn f rc fa fn fc na nn nc ba bn bc la ln lc ls)(m:Nat)(hm:m<=wh)
  (hp:Ly 255 cb 4 w #[.slice fa fn fc,.int .i64 (rc:Nat),.slice na nn nc,.slice ba bn bc,.slice la ln lc,.bool inn,.int .i64 (f.1:Nat),.int .i64 (f.2:Nat)] te la ln lc ls m w'):F8 D cb te w' ns bk m inn f rc fa fn fc/\A3 D w w':=by
 obtain⟨hs,hf⟩:=hp;refine⟨⟨na,nn,nc,ba,bn,bc,la,m,lc,ls.take m,?_⟩,hf.Bq h.Gv (fun g hg=>(h.J2 g hg).1) h.lo⟩;have ho:∀g,(Value.slice la m lc).ownBlock=some g->(Value.slice la ln lc).ownBlock=some g:=fun g e=>(Mi _ _ _ _).trans e;refine⟨by simpa using hs.blk,B4 h.names (fun k hk hl=>hf.block k hl (h.D5 k hk).2.1 (fun e=>(h.D5 k hk).2.2.2 e)),B4 h.blocks (fun k hk hl=>hf.block k hl (h.G6 k hk).2.1 (fun e=>(h.G6 k hk).2.2 e)),hs.own,by rw[List.length_take,h.lsl,Nat.min_eq_left hm],h.Gv,fun k hk=>⟨(h.D5 k hk).1,(h.D5 k hk).2.1,(h.D5 k hk).2.2.1,fun e=>(h.D5 k hk).2.2.2 (ho k e)⟩,fun k hk=>⟨(h.G6 k hk).1,(h.G6 k hk).2.1,fun e=>(h.G6 k hk).2.2 (ho k e)⟩,fun k hk=>h.J2 k (ho k hk),⟨h.Br.1,h.Br.2.1,by have:=h.Br.2.2.1;omega,h.Br.2.2.2⟩,fun g hg=>Nat.lt_of_lt_of_le (h.lo g hg) hf.size⟩
end
section
set_option maxRecDepth 100000
open Go.RowKit
open Go.Deep (BT)
variable {D:Nat->Prop}{cb te:Nat}{w:World}{ns:List Nm}{bk:List Nat}{wh:Nat}{inn:Bool}{f:Ct}{rc:Nat}{fa:Option Addr}{fn fc:Nat}
theorem Aqj{code line:Nat}{f:Ct}(h:f.1=0):Ed true code line f=(code,line):=by unfold Ed;rw[if_pos (by simp[h])]
theorem z5ma {P:Prop} (h:P:=by exact hne):P:=h
theorem Ol(h:F8 D cb te w ns bk wh inn f rc fa fn fc)(code line:Nat) :
  Calls Tryz.prog 264 #[.pointer (some ⟨cb,0,none⟩),.int .i64 (code:Nat),.int .i64 (line:Nat)] w fun e w'=>e=.returned (.tuple #[])/\F8 D cb te w' ns bk wh inn (Ed true code line f) rc fa fn fc/\A3 D w w':=by
 obtain⟨na,nn,nc,ba,bn,bc,la,ln,lc,ls,h⟩:=h;obtain⟨c0,c1,c2,c3,c4,c5,c6,c7,fz,lb⟩:=Nu h.cell;have HH:=A0 h;clear h;by_cases h0:f.1=0
 ·have HW:=A0 (Aqj (code:=code) (line:=line) h0);rw[h0]at c6;go_enter Tryz.func264,Tryz.ntmps264;go_wp2;go_end0;rw[HW.o];refine⟨rfl,⟨na,nn,nc,ba,bn,bc,la,ln,lc,ls,HH.o.put inn (code,line) rc HH.o.Br.2.2.2 ?_ (fun g _ hne=>by rw[Below.heap_setCell _ _ _ _ z5ma,Below.heap_setCell _ _ _ _ z5ma]) z58a⟩,A3.set (p:=⟨cb,7,none⟩) (A3.set (p:=⟨cb,6,none⟩) (A3.refl _ _) HH.o.Gv _) HH.o.Gv _⟩;have:=heap_set (j:=7) (heap_set (j:=6) HH.o.cell (.int .i64 (code:Nat))) (.int .i64 (line:Nat));simpa using this
 ·have HW:=A0 (Aqi true code line f h0);have t0:((f.1:Int)==0)=false:=by rw[beq_eq_false_iff_ne];omega
  clear h0;go_enter Tryz.func264,Tryz.ntmps264;go_wp2;go_end0;rw[HW.o];exact⟨rfl,⟨na,nn,nc,ba,bn,bc,la,ln,lc,ls,HH.o⟩,A3.refl _ _⟩
theorem P0(ns:List Nm):(Df ns).length=ns.length:=by simp[Df]
theorem W7(bk:List Nat):(Da bk).length=bk.length:=by simp[Da]
theorem U1(h:F8 D cb te w ns bk wh inn f rc fa fn fc)(hb:bk.length+1<=800000) :
  Calls Tryz.prog 133 #[.pointer (some ⟨cb,0,none⟩)] w fun e w'=>e=.returned (.tuple #[])/\F8 D cb te w' ns (bk++[ns.length]) wh inn f rc fa fn fc/\A3 D w w':=by
 obtain⟨na,nn,nc,ba,bn,bc,la,ln,lc,ls,h⟩:=h;have lb:=A5 h.cell;have HH:=A0 (h.keep (w':=w.drew) (fun _ _=>rfl) (Nat.le_refl _));have HL:=A0 (Rb HH.o.Ls);rw[P0]at HL;have HP:=A0 (Ama HH.o.Q5 (by rw[W7];omega) (ns.length:Nat) z50a);clear h;go_enter Tryz.func133,Tryz.ntmps133;go_wp2;go_region_law (first
  | (refine Eo rfl 136 _ _ rfl #[.pointer (some ⟨cb,2,none⟩)] (by kernel_rfl) HL.o ?_;rintro e w1 ⟨rfl,rfl⟩;refine⟨_,rfl,?_⟩)
  | (refine Eo rfl 191 _ _ rfl #[.pointer (some ⟨cb,3,none⟩),.int .i64 (ns.length:Nat)] (by kernel_rfl) HP.o ?_;rintro e w1 ⟨rfl,hp1⟩;refine⟨_,rfl,?_⟩))
 all_goals go_wp2
 all_goals go_end0
 all_goals obtain⟨k1,k2⟩:=HH.o.Ai8 ns.length hb hp1
 all_goals exact⟨rfl,k1,⟨k2.os,k2.tape,k2.output,k2.size,k2.block⟩⟩
theorem Ty{D:Nat->Prop}{cb te:Nat}{w:World}{ns:List Nm}{bk:List Nat}{p:Nat}{wh:Nat}{inn:Bool}{f:Ct}{rc:Nat}{fa:Option Addr}{fn fc:Nat}(h:F8 D cb te w ns (bk++[p]) wh inn f rc fa fn fc)(hp:p<=ns.length) :
  Calls Tryz.prog 135 #[.pointer (some ⟨cb,0,none⟩)] w fun e w'=>e=.returned (.tuple #[])/\F8 D cb te w' (ns.take p) bk wh inn f rc fa fn fc/\A3 D w w':=by
 obtain⟨na,nn,nc,ba,bn,bc,la,ln,lc,ls,h⟩:=h;have lb:=A5 h.cell;have HH:=A0 (h.keep (w':=w.drew) (fun _ _=>rfl) (Nat.le_refl _));have hl:(Da (bk++[p])).length=bk.length+1:=by rw[W7];simp
 have hf:=HH.o.Br;simp only[List.length_append,List.length_singleton]at hf;have HP:=A0 (Am6 HH.o.Q5 z4va bk.length z4va hl z50a);have hx:(Da (bk++[p]))[bk.length]'z4va=.int .i64 (p:Nat):=by simp[Da,Pj]
 rw[hx]at HP;clear h hl hx;go_enter Tryz.func135,Tryz.ntmps135;go_wp2;go_region_law (first
  | (refine Eo rfl 193 _ _ rfl #[.pointer (some ⟨cb,3,none⟩)] (by kernel_rfl) HP.o ?_;rintro e w1 ⟨rfl,hc1⟩;refine⟨_,rfl,?_⟩;obtain⟨k1,k2⟩:=HH.o.Ab8 bk.length hc1;rw[List.take_left]at k1;obtain⟨na1,nn1,nc1,ba1,bn1,bc1,la1,Io,lc1,E6,G5⟩:=k1;have HV1:=A0 G5;have HK2:=A0 k2;have Bj:=A5 G5.cell;have Hq:=A0 (Ya G5.Ls p (by rw[P0];exact hp) z50a);clear G5 k2 hc1)
  | (refine Eo rfl 83 _ _ rfl #[.pointer (some ⟨cb,2,none⟩),.int .i64 (p:Nat)] (by kernel_rfl) Hq.o ?_;rintro e w2 ⟨rfl,He⟩;refine⟨_,rfl,?_⟩))
 all_goals go_wp2
 all_goals go_end0
 all_goals obtain⟨k3,k4⟩:=HV1.o.Abb p He
 all_goals exact⟨rfl,k3,A3.trans ⟨HK2.o.os,HK2.o.tape,HK2.o.output,HK2.o.size,HK2.o.block⟩ k4⟩
theorem Abw{ns:List Nm}{i:Nat}(h:i<ns.length)(s:Nm):decide (s∈ns.drop i)=(decide (ns[i]=s)||decide (s∈ns.drop (i+1))):=by
 rw[List.drop_eq_getElem_cons h,Bool.eq_iff_iff];simp only[List.mem_cons,decide_eq_true_eq,Bool.or_eq_true];exact⟨fun h=>h.imp Eq.symm id,fun h=>h.imp Eq.symm id⟩
theorem j4(h:F8 D cb te w ns bk wh inn f rc fa fn fc)(s:Nm)(p:Nat)(hp:p<=ns.length) :
  Calls Tryz.prog 265 #[.pointer (some ⟨cb,0,none⟩),.string ⟨s.toArray⟩,.int .i64 (p:Nat)] w fun e w'=>e=.returned (.bool (decide (s∈ns.drop p)))/\w'=w:=by
 obtain⟨na,nn,nc,ba,bn,bc,la,ln,lc,ls,h⟩:=h;have lb:=A5 h.cell;have HL:=A0 (Rb h.Ls);rw[P0]at HL;have HA:=A0 (fun i hi=>A3o h.Ls i hi);have hfew:=h.Br.1;clear h;go_enter Tryz.func265,Tryz.ntmps265;go_wp2;go_loopg [7] (ns.length-p) (fun k v wr=>∃i:Nat,v=.int .i64 i/\i+k=ns.length/\decide (s∈ns.drop p)=decide (s∈ns.drop i)/\wr=w)
 case atStart=>exact⟨p,rfl,by omega,rfl,rfl⟩
 case round=>
  obtain⟨i,rfl,hik,hm,rfl⟩:=hrel;have HM:=A0 hm;clear hm;by_cases hlt:i<ns.length
  ·have HS:=A0 (Abw hlt s);have HA1:=A0 (HA.o i (by rw[P0];exact hlt));have hx:(Df ns)[i]'(by rw[P0];exact hlt)=.string ⟨ns[i].toArray⟩:=by simp[Df,O4]
   rw[hx]at HA1;clear hx;generalize ns[i]=x at *;have hlt':(i:Int)<(ns.length:Int):=by omega
   cases hq:(x==s)
   ·have HE:Hid (decide (s∈ns.drop p)=decide (s∈ns.drop (i+1))):=by
     show _=_;have:decide (x=s)=false:=by simpa using hq
     rw[HM.o,HS.o,this];rfl
    go_wp2_with fail
    refine HL.o.mono ?_;rintro e w' ⟨rfl,rfl⟩;go_wp2_with fail
    refine HA1.o.mono ?_;rintro e w' ⟨rfl,rfl⟩;go_wp2;go_roundg (gk-1)
    case measure=>omega
    case rel=>exact⟨i+1,rfl,by omega,HE.o,rfl⟩
   ·have HE:Hid (decide (s∈ns.drop p)=true):=by
     show _=_;have:decide (x=s)=true:=by simpa using hq
     rw[HM.o,HS.o,this];rfl
    go_wp2_with fail
    refine HL.o.mono ?_;rintro e w' ⟨rfl,rfl⟩;go_wp2_with fail
    refine HA1.o.mono ?_;rintro e w' ⟨rfl,rfl⟩;go_wp2;go_ret;exact⟨Sy HE.o.symm,rfl⟩
  ·have HE:Hid (decide (s∈ns.drop p)=false):=by
    show _=_;rw[HM.o,List.drop_eq_nil_of_le z4va];rfl
   go_wp2_with fail
   refine HL.o.mono ?_;rintro e w' ⟨rfl,rfl⟩;go_wp2;go_ret;exact⟨Sy HE.o.symm,rfl⟩
end
section
set_option maxRecDepth 100000
open Go.RowKit
open Go.Deep (BT)
variable {D:Nat->Prop}{w:World}{fns:List (Nm×Nat)}{fa:Option Addr}{fn fc:Nat}
theorem Qa(code line:Nat)(f:Ct):Ed false code line f=f:=by unfold Ed;rw[if_neg z50a]
theorem z3aa {P:Prop} (h:P:=by
  clear C6 Aj;go_wp2;go_end0;exact⟨rfl,Bc.o,Av.o⟩):P:=h
theorem z38a {P:Prop} (h:P:=by
  exact⟨rfl,Ai.o,Aa.o⟩):P:=h
theorem Wa{D:Nat->Prop}{cb te:Nat}{w:World}{outer cur:List Nm}{bl:List Nat}{wh:Nat}{inn:Bool}{f:Ct}{rc:Nat}{fa:Option Addr}{fn fc:Nat}(h:F8 D cb te w (outer++cur) (bl++[outer.length]) wh inn f rc fa fn fc)(line:Nat)(s:Nm) :
  Calls Tryz.prog 235 #[.pointer (some ⟨cb,0,none⟩),.agg #[.int .i64 (line:Nat),.string ⟨s.toArray⟩]] w fun e w'=>e=.returned (.tuple #[])/\F8 D cb te w' (outer++cur) (bl++[outer.length]) wh inn (Ed (decide (s∈cur)) 3 line f) rc fa fn fc/\A3 D w w':=by
 have hlo:∀g,D g->g<w.heap.size:=by obtain⟨_,_,_,_,_,_,_,_,_,_,h⟩:=h;exact h.lo
 have lb:cb<w.heap.size:=by obtain⟨_,_,_,_,_,_,_,_,_,_,h⟩:=h;exact A5 h.cell
 have h1:F8 D cb te (w.alloc (.cells #[.int .i64 (line:Nat),.string ⟨s.toArray⟩] 148)) (outer++cur) (bl++[outer.length]) wh inn f rc fa fn fc:=h.keep (fun g hg=>Below.heap_alloc _ _ _ hg) z50a;have A1:A3 D w (w.alloc (.cells #[.int .i64 (line:Nat),.string ⟨s.toArray⟩] 148)):=(A3.refl D w).alloc hlo _;have E1:=heap_alloc_new w (.cells #[.int .i64 (line:Nat),.string ⟨s.toArray⟩] 148);clear h;generalize hW:w.alloc (.cells #[.int .i64 (line:Nat),.string ⟨s.toArray⟩] 148)=w1 at *;have HW:=A0 hW;generalize hxb:w.heap.size=xb at *;have HXb:=A0 hxb;clear hW hxb;have A7:=A0 h1;have A4:=A0 A1;have I4:=A0 E1;have hdr:∀W:World,F8 D cb te W (outer++cur) (bl++[outer.length]) wh inn f rc fa fn fc->Calls Tryz.prog 241 #[.pointer (some ⟨cb,3,none⟩)] W fun e w'=>e=.returned (.int .i64 (outer.length:Nat))/\w'=W:=by
  intro W h;obtain⟨na,nn,nc,ba,bn,bc,la,ln,lc,ls,h⟩:=h;have hl:(Da (bl++[outer.length])).length=bl.length+1:=by rw[W7];simp
  have hf:=h.Br;simp only[List.length_append,List.length_singleton]at hf;have hp:=A48 h.Q5 z4va bl.length z4va hl;have hx:(Da (bl++[outer.length]))[bl.length]'z4va=.int .i64 (outer.length:Nat):=by simp[Da,Pj]
  rw[hx]at hp;exact hp
 have HTop:=A0 hdr;have HSeen:=A0 (fun(W:World) (h:F8 D cb te W (outer++cur) (bl++[outer.length]) wh inn f rc fa fn fc)=>j4 h s outer.length z50a);rw[List.drop_left]at HSeen;obtain⟨y0,y1,fy,ly⟩:=Iu E1;have Bj:cb<w1.heap.size:=by obtain⟨_,_,_,_,_,_,_,_,_,_,h⟩:=h1;exact A5 h.cell
 clear hdr h1 A1 E1;cases hq:decide (s∈cur)
 ·rw[hq]at HSeen;have HF:=A0 (Qa 3 line f);go_enter Tryz.func235,Tryz.ntmps235;go_wp2;rw[HW.o,HXb.o];go_quiet ((first|(go_at_call 241;exact Calls.quiet_of_same (HTop.o _ (A7.o.keep (fun _ _=>rfl) (Nat.le_refl _))))|(go_at_call 265;exact Calls.quiet_of_same (HSeen.o _ (A7.o.keep (fun _ _=>rfl) (Nat.le_refl _))))))
  have Ai:Hid (F8 D cb te (w1.drewN nq) (outer++cur) (bl++[outer.length]) wh inn f rc fa fn fc):=A7.o.keep (fun _ _=>rfl) (Nat.le_refl _);have Aa:Hid (A3 D w (w1.drewN nq)):=⟨A4.o.os,A4.o.tape,A4.o.output,A4.o.size,A4.o.block⟩;have HX2:Hid ((w1.drewN nq).heap[xb]?=_):=I4.o;go_wp2;go_end0;rw[HF.o];exact z38a
 ·rw[hq]at HSeen;go_enter Tryz.func235,Tryz.ntmps235;go_wp2;rw[HW.o,HXb.o];go_quiet ((first|(go_at_call 241;exact Calls.quiet_of_same (HTop.o _ (A7.o.keep (fun _ _=>rfl) (Nat.le_refl _))))|(go_at_call 265;exact Calls.quiet_of_same (HSeen.o _ (A7.o.keep (fun _ _=>rfl) (Nat.le_refl _))))))
  have Ai:Hid (F8 D cb te (w1.drewN nq) (outer++cur) (bl++[outer.length]) wh inn f rc fa fn fc):=A7.o.keep (fun _ _=>rfl) (Nat.le_refl _);have Aa:Hid (A3 D w (w1.drewN nq)):=⟨A4.o.os,A4.o.tape,A4.o.output,A4.o.size,A4.o.block⟩;have HX2:Hid ((w1.drewN nq).heap[xb]?=_):=I4.o;clear y0 y1 fy ly;generalize w1.drewN nq=w2 at *;obtain⟨y0,y1,fy,ly⟩:=Iu HX2.o;go_wp2_with fail
  refine(Ol Ai.o 3 line).mono ?_;rintro e w3 ⟨rfl,C6,Aj⟩;have Bc:=A0 C6;have Av:Hid (A3 D w w3):=Aa.o.trans Aj;exact z3aa
theorem b5{D:Nat->Prop}{cb te:Nat}{w:World}{ns:List Nm}{bk:List Nat}{wh:Nat}{inn:Bool}{f:Ct}{rc:Nat}{fa:Option Addr}{fn fc:Nat}(h:F8 D cb te w ns bk wh inn f rc fa fn fc)(line:Nat) :
  Calls Tryz.prog 240 #[.pointer (some ⟨cb,0,none⟩),.int .i64 (line:Nat)] w fun e w'=>e=.returned (.tuple #[])/\F8 D cb te w' ns bk wh inn (Ed (wh==0) 4 line f) rc fa fn fc/\A3 D w w':=by
 have HS:=A0 h;obtain⟨na,nn,nc,ba,bn,bc,la,ln,lc,ls,h⟩:=h;have lb:=A5 h.cell;have HL:=A0 (Yf h.Yj);rw[h.lsl]at HL;clear h;by_cases h0:wh=0
 ·subst h0;go_enter Tryz.func240,Tryz.ntmps240;go_wp2_with fail
  refine HL.o.mono ?_;rintro e w' ⟨rfl,rfl⟩;go_wp2_with fail
  refine(Ol HS.o 4 line).mono ?_;rintro e w3 ⟨rfl,C6,Aj⟩;have Bc:=A0 C6;have Av:=A0 Aj;exact z3aa
 ·have t0:((wh:Int)==0)=false:=by rw[beq_eq_false_iff_ne];omega
  have HF:Hid (Ed (wh==0) 4 line f=f):=by
   show _=_;rw[show(wh==0)=false by simpa using h0];exact Qa 4 line f
  clear h0;go_enter Tryz.func240,Tryz.ntmps240;go_wp2_with fail
  refine HL.o.mono ?_;rintro e w' ⟨rfl,rfl⟩;go_wp2;go_end0;rw[HF.o];exact⟨rfl,HS.o,A3.refl _ _⟩
structure Ic (D : Nat -> Prop) (w : World) (fns : List (Nm × Nat)) (fa : Option Addr) (fn fc : Nat) : Prop where
 len:fn=fns.length
 Br:fns.length<=100000
 cap:fn<=fc
 at':∀i (h:i<fns.length),∃g pb pa pc,fa=some ⟨g,0,none⟩/\D g/\g<w.heap.size/\w.cell? ⟨g,i,none⟩=some (.pointer (some ⟨pb,0,none⟩))/\D pb/\pb<w.heap.size/\w.cell? ⟨pb,1,none⟩=some (.string ⟨fns[i].1.toArray⟩)/\w.cell? ⟨pb,2,none⟩=some (.slice pa fns[i].2 pc)
theorem Ic.keep{D:Nat->Prop}{w w':World}{fns:List (Nm×Nat)}{fa:Option Addr}{fn fc:Nat}(h:Ic D w fns fa fn fc)(hb:A3 D w w'):Ic D w' fns fa fn fc:=by
 refine⟨h.len,h.Br,h.cap,fun i hi=>?_⟩;obtain⟨g,pb,pa,pc,e1,e2,e3,e4,e5,e6,e7,e8⟩:=h.at' i hi;exact⟨g,pb,pa,pc,e1,e2,Nat.lt_of_lt_of_le e3 hb.size,(World.cell?_of_block (hb.block g e2)).trans e4,e5,Nat.lt_of_lt_of_le e6 hb.size,(World.cell?_of_block (hb.block pb e5)).trans e7,(World.cell?_of_block (hb.block pb e5)).trans e8⟩
def Mt(w:World)(fns:List (Nm×Nat))(fa:Option Addr)(k:Nat)(s:Nm)(p:Option Addr):Prop:=
 (p=none/\∀j,j<k->∀h:j<fns.length,fns[j].1≠s)\/(∃i,∃h:i<fns.length,∃pb pa pc,i<k/\p=some ⟨pb,0,none⟩/\(∃g,fa=some ⟨g,0,none⟩/\w.cell? ⟨g,i,none⟩=some (.pointer (some ⟨pb,0,none⟩)))/\fns[i].1=s/\(∀j,j<i->∀h':j<fns.length,fns[j].1≠s)/\pb<w.heap.size/\w.cell? ⟨pb,2,none⟩=some (.slice pa fns[i].2 pc))
theorem z2ha {P:Prop} (h:P:=by
  go_wp2;go_roundg (gk-1)
  case measure=>omega
  case rel=>exact⟨i+1,rfl,by omega,HS.o HQ.o,rfl⟩):P:=h
theorem z46a {P:Prop} (h:P:=by
  intro hn j hj h' e;by_cases hjn:j=i
  ·subst hjn;exact hn e
  ·exact HNo.o j z4va h' e):P:=h
theorem Aal(h:Ic D w fns fa fn fc)(k:Nat)(hk:k<=fns.length)(s:Nm) :
  Calls Tryz.prog 263 #[.slice fa k fc,.string ⟨s.toArray⟩] w fun e w'=>∃p,e=.returned (.pointer p)/\Mt w fns fa k s p/\w'=w:=by
 have hfew:=h.Br;have hcap:=h.cap;have hlen:=h.len;have HH:=A0 h;clear h;go_enter Tryz.func263,Tryz.ntmps263;go_wp2;go_loopg [9] k (fun q v wr=>∃i:Nat,v=.int .i64 i/\i+q=k/\(∀j,j<i->∀h':j<fns.length,fns[j].1≠s)/\wr=w)
 case atStart=>exact⟨0,rfl,by omega,fun i hi=>by omega,rfl⟩
 case round=>
  obtain⟨i,rfl,hik,hno,rfl⟩:=hrel;have HNo:=A0 hno;clear hno;by_cases hlt:i<k
  ·have hlt2:i<fns.length:=by omega
   obtain⟨g,pb,pa,pc,rfl,_,lg,cg,_,lp,c1,c2⟩:=HH.o.at' i hlt2;have HI:Hid (fns[i].1=s->Mt wr fns (some ⟨g,0,none⟩) k s (some ⟨pb,0,none⟩)):=fun e=>.inr ⟨i,hlt2,pb,pa,pc,hlt,rfl,⟨g,rfl,cg⟩,e,HNo.o,lp,c2⟩;have HS:Hid (fns[i].1≠s->∀j,j<i+1->∀h':j<fns.length,fns[j].1≠s):=by
    exact z46a
   have hcap2:k<=fc:=by omega
   clear hlen hcap;generalize fns[i]=x at *;cases hq:(x.1==s)
   ·have HQ:Hid (x.1≠s):=by rw[beq_eq_false_iff_ne]at hq;exact hq
    exact z2ha
   ·have HQ:Hid (x.1=s):=A0 (by simpa using hq);go_wp2;go_ret;exact⟨_,rfl,HI.o HQ.o,rfl⟩
  ·have HT:Hid (Mt wr fns fa k s none):=.inl ⟨rfl,fun j hj h=>HNo.o j z4va h⟩;go_wp2;go_ret;exact⟨_,rfl,HT.o,rfl⟩
theorem Mt.unique{w:World}{fns:List (Nm×Nat)}{fa:Option Addr}{k:Nat}{s:Nm}{p q:Option Addr}(h1:Mt w fns fa k s p)(h2:Mt w fns fa k s q):p=q:=by
 rcases h1 with⟨e1,n1⟩|⟨i,hi,pb,pa,pc,hik,e1,⟨g,eg,c1⟩,es,n1,_,_⟩
 ·rcases h2 with⟨e2,_⟩|⟨j,hj,pb2,pa2,pc2,hjk,e2,_,es2,_⟩
  ·rw[e1,e2]
  ·exact absurd es2 (n1 j hjk hj)
 ·rcases h2 with⟨e2,n2⟩|⟨j,hj,pb2,pa2,pc2,hjk,e2,⟨g2,eg2,c2⟩,es2,n2,_,_⟩
  ·exact absurd es (n2 i hik hi)
  ·have hij:i=j:=by
    rcases Nat.lt_trichotomy i j with h|h|h
    ·exact absurd es (n2 i h hi)
    ·exact h
    ·exact absurd es2 (n1 j h hj)
   subst hij;rw[eg]at eg2;injection eg2 with eg2;injection eg2 with eg2;subst eg2;rw[c1]at c2;injection c2 with c2;injection c2 with c2;rw[e1,e2,c2]
theorem Ic.find(h:Ic D w fns fa fn fc)(s:Nm):∀k,k<=fns.length->∃p,Mt w fns fa k s p:=by
 intro k;induction k with
 | zero=>intro _;exact⟨none,.inl ⟨rfl,fun j hj=>by omega⟩⟩
 | succ k ih=>
  intro hk;obtain⟨p,hp⟩:=ih z4va;rcases hp with⟨rfl,hn⟩|⟨i,hi,pb,pa,pc,hik,r⟩
  ·by_cases e:(fns[k]'z4va).1=s
   ·obtain⟨g,pb,pa,pc,e1,_,_,e4,_,e6,_,e8⟩:=h.at' k z4va;exact⟨some ⟨pb,0,none⟩,.inr ⟨k,by omega,pb,pa,pc,by omega,rfl,⟨g,e1,e4⟩,e,fun j hj h'=>hn j hj h',e6,e8⟩⟩
   ·refine⟨none,.inl ⟨rfl,fun j hj h' e2=>?_⟩⟩;by_cases hjk:j=k
    ·subst hjk;exact e e2
    ·exact hn j z4va h' e2
  ·exact⟨p,.inr ⟨i,hi,pb,pa,pc,by omega,r⟩⟩
theorem b6(h:Ic D w fns fa fn fc)(k:Nat)(hk:k<=fns.length)(s:Nm)(p:Option Addr)(hp:Mt w fns fa k s p) :
  Calls Tryz.prog 263 #[.slice fa k fc,.string ⟨s.toArray⟩] w fun e w'=>e=.returned (.pointer p)/\w'=w:=
 (Aal h k hk s).mono fun e w' ⟨q,e1,e2,e3⟩=>⟨by rw[e1,hp.unique e2],e3⟩
end
section
set_option maxRecDepth 100000
open Go.RowKit
open Go.Deep (BT)
structure CC where
 cb:Nat
 te:Nat
 fns:List (Nm×Nat)
 fa:Option Addr
 fn:Nat
 fc:Nat
structure CC.St (K : CC) (D : Nat -> Prop) (w : World) (ns : List Nm) (bk : List Nat) (wh : Nat) (inn : Bool) (f : Ct) (rc : Nat) : Prop where
 st:F8 D K.cb K.te w ns bk wh inn f rc K.fa K.fn K.fc
 fr:Ic D w K.fns K.fa K.fn K.fc
variable {K:CC}{D:Nat->Prop}{w:World}{ns:List Nm}{bk:List Nat}{wh:Nat}{inn:Bool}{f:Ct}{rc:Nat}
theorem CC.St.lo(h:K.St D w ns bk wh inn f rc):(∀g,D g->g<w.heap.size)/\K.cb<w.heap.size/\¬D K.cb:=by
 obtain⟨_,_,_,_,_,_,_,_,_,_,h⟩:=h.st;exact⟨h.lo,A5 h.cell,h.Gv⟩
theorem CC.St.next{K:CC}{D:Nat->Prop}{w w':World}{ns ns':List Nm}{bk bk':List Nat}{wh wh':Nat}{inn inn':Bool}{f f':Ct}{rc rc':Nat}(h:K.St D w ns bk wh inn f rc)(hs:F8 D K.cb K.te w' ns' bk' wh' inn' f' rc' K.fa K.fn K.fc)(hb:A3 D w w'):K.St D w' ns' bk' wh' inn' f' rc':=⟨hs,h.fr.keep hb⟩
theorem CC.St.drewN(h:K.St D w ns bk wh inn f rc)(n:Nat):K.St D (w.drewN n) ns bk wh inn f rc:=
 h.next (h.st.keep (fun _ _=>rfl) (Nat.le_refl _)) ⟨rfl,rfl,rfl,Nat.le_refl _,fun _ _=>rfl⟩
theorem Dw(D:Nat->Prop)(w:World)(n:Nat):A3 D w (w.drewN n):=⟨rfl,rfl,rfl,Nat.le_refl _,fun _ _=>rfl⟩
theorem An.Bq{D:Nat->Prop}{w w':World}(hb:A3 D w w'){f:BT A6}{vs:List Value}(h:An D w f vs):An D w' f vs:=An.keep (fun g hg _=>⟨hb.block g hg,hg⟩) _ _ h
theorem Bs.Bq{D:Nat->Prop}{w w':World}(hb:A3 D w w'){l:A6}{v:Value}{ks:List Value}(h:Bs D w l v ks):Bs D w' l v ks:=Bs.keep (fun g hg _=>⟨hb.block g hg,hg⟩) h
theorem Cw.Bq{D:Nat->Prop}{w w':World}(hb:A3 D w w'){e:TypeId}{size:Nat}{v:Value}{n:Nat}{cs:List Value}(h:Cw D w e size v n cs):Cw D w' e size v n cs:=h.keep (fun g hg _=>⟨hb.block g hg,hg⟩)
theorem An.at'{D:Nat->Prop}{w:World}:∀(i:Nat) (f:BT A6) (vs:List Value),An D w f vs->i<Ax f->
  ∃x y l c r,Ca i f=.node x y l c r/\∃v ks,vs[i]?=some v/\Bs D w l v ks/\An D w c ks:=by
 intro i;induction i with
 | zero=>
  intro f vs h hi;cases f with
  | nil=>simp[Ax]at hi
  | node x y l c r=>
   obtain⟨v,ks,rest,rfl,h1,h2,h3⟩:=h;exact⟨x,y,l,c,r,rfl,v,ks,rfl,h1,h2⟩
 | succ i ih=>
  intro f vs h hi;cases f with
  | nil=>simp[Ax]at hi
  | node x y l c r=>
   obtain⟨v,ks,rest,rfl,h1,h2,h3⟩:=h;obtain⟨x',y',l',c',r',e,v',ks',k1,k2,k3⟩:=ih r rest h3 (by simp only[Ax]at hi;omega);exact⟨x',y',l',c',r',e,v',ks',k1,k2,k3⟩
def Fw(K:CC)(l:A6)(c:BT A6):Prop:=∀(D:Nat->Prop) (w:World) (outer cur:List Nm) (bk:List Nat) (wh:Nat) (inn:Bool) (f:Ct) (rc:Nat) (v:Value) (ks:List Value),
 K.St D w (outer++cur) bk wh inn f rc->Bs D w l v ks->An D w c ks->
 Calls Tryz.prog 236 #[.pointer (some ⟨K.cb,0,none⟩),v] w fun e w'=>e=.returned (.tuple #[])/\K.St D w' (outer++cur) bk wh inn (Bt K.fns (nd l c) outer cur wh inn f).2 rc/\A3 D w w'
def D6(P:A6->BT A6->Prop):BT A6->Prop
 | .nil=>True
 | .node _ _ l c r=>P l c/\D6 P r
theorem D6.at'{P:A6->BT A6->Prop}:∀(i:Nat) (f:BT A6),D6 P f->∀x y l c r,Ca i f=.node x y l c r->P l c:=by
 intro i;induction i with
 | zero=>intro f h x y l c r e;rw[show Ca 0 f=f from by cases f <;> rfl]at e;subst e;exact h.1
 | succ i ih=>
  intro f h x y l c r e;cases f with
  | nil=>rw[Ca]at e;cases e
  | node x' y' l' c' r'=>rw[Ca]at e;exact ih r' h.2 x y l c r e
theorem Wf.drop:∀(m i:Nat) (f:BT A6),Wf m f->Wf m (Ca i f):=by
 intro m i;induction i with
 | zero=>intro f h;exact h
 | succ i ih=>
  intro f h;cases f with
  | nil=>exact h
  | node x y l c r=>exact ih r h.1
theorem sens_xy'(fns:List (Nm×Nat))(x y:Nat)(l:A6)(c r:BT A6)(outer cur:List Nm)(wh:Nat)(inn:Bool)(f:Ct):Bt fns (.node x y l c r) outer cur wh inn f=Bt fns r outer (Bt fns (nd l c) outer cur wh inn f).1 wh inn (Bt fns (nd l c) outer cur wh inn f).2:=by
 rw[Akp];rfl
theorem Wf.Qw{x y:Nat}{l:A6}{c r:BT A6}(h:Wf 0 (.node x y l c r)):Wf 0 (nd l c):=⟨trivial,h.2⟩
theorem z1wa {P:Prop} (h:P:=by
  have:Ax (Ca i c)=0:=by rw[Po,←HLen.o];omega
  cases hd:Ca i c with
  | nil=>rfl
  | node x y l c r=>rw[hd]at this;simp[Ax]at this):P:=h
theorem z0qa {P:Prop} (h:P:=by
  have h0:Ca i c=.nil:=by
   exact z1wa
  have:=HSe.o;rw[h0]at this;exact this):P:=h
theorem z2va {P:Prop} (h:P:=by
  go_wp2;go_end0;rw[←HE.o];exact⟨rfl,HSt.o,HBel.o⟩):P:=h
theorem z5ga {P:Prop} (h:P:=by rw[←HLen.o];exact hlt):P:=h
theorem Zy(K:CC)(c:BT A6)(hok:D6 (Fw K) c)(hwf:Wf 0 c)(D:Nat->Prop)(w:World)(outer cur:List Nm)(bk:List Nat)(wh:Nat)(inn:Bool)(f:Ct)(rc:Nat)(va:Option Addr)(vn vc:Nat)(ks:List Value)
  (hst:K.St D w (outer++cur) bk wh inn f rc) (hown:Cw D w 150 1 (.slice va vn vc) ks.length ks) (hrep:An D w c ks) (hb:ks.length<=500000) :
  Calls Tryz.prog 267 #[.pointer (some ⟨K.cb,0,none⟩),.slice va vn vc] w fun e w'=>e=.returned (.tuple #[])/\K.St D w' (outer++cur) bk wh inn (Bt K.fns c outer cur wh inn f).2 rc/\A3 D w w':=by
 have hvn:vn=ks.length:=(C9 hown.1).1;subst hvn;have HSt0:=A0 hst;have HOwn:=A0 hown;have HRep:=A0 hrep;have hlen:=hrep.len;have HLen:=A0 hlen;clear hst hown hrep hlen;go_enter Tryz.func267,Tryz.ntmps267;go_wp2;go_loopg [8] ks.length (fun k v wr=>∃(i:Nat) (fl:Ct),v=.int .i64 i/\i+k=ks.length/\K.St D wr (outer++cur) bk wh inn fl rc/\(Bt K.fns (Ca i c) outer cur wh inn fl).2=(Bt K.fns c outer cur wh inn f).2/\A3 D w wr)
 case atStart=>exact⟨0,f,rfl,by omega,HSt0.o,rfl,A3.refl _ _⟩
 case round=>
  clear HSt0;obtain⟨i,fl,rfl,hik,hst,hse,hbel⟩:=hrel;have HSt:=A0 hst;have HSe:=A0 hse;have HBel:=A0 hbel;clear hst hse hbel;by_cases hlt:i<ks.length
  ·have hr:=HRep.o.Bq HBel.o;obtain⟨x,y,l,cc,r,hd,v,ks',hv,hn,hrk⟩:=An.at' i c ks hr z5ga;obtain⟨g,rfl,_,hcap,lg,hcell⟩:=Fo (HOwn.o.Bq HBel.o).1 z4va;have d0:=hcell i v hv;have hE:=A0 (hok.at' i c x y l cc r hd);have Cz:Wf 0 (nd l cc):=by have:=Wf.drop 0 i c hwf;rw[hd]at this;exact this.Qw
   have Ak:=sens_xy' K.fns x y l cc r outer cur wh inn fl;rw[Ku K.fns _ Cz]at Ak;have HNx:Hid ((Bt K.fns (Ca (i+1) c) outer cur wh inn (Bt K.fns (nd l cc) outer cur wh inn fl).2).2=(Bt K.fns c outer cur wh inn f).2):=by
    show _=_;rw[Om i c x y l cc r hd,←HSe.o,hd,Ak]
   have HC:=A0 (hE.out D wr outer cur bk wh inn fl rc v ks' HSt.o hn hrk);clear hr hd hv hn hrk hcell Cz Ak;go_wp2_with fail
   refine HC.o.mono ?_;rintro e w1 ⟨rfl,Ak,A1⟩;have A7:=A0 Ak;have A4:Hid (A3 D w w1):=HBel.o.trans A1;clear Ak A1;go_wp2;go_roundg (gk-1)
   case measure=>omega
   case rel=>exact⟨i+1,_,rfl,by omega,A7.o,HNx.o,A4.o⟩
  ·have HE:Hid (fl=(Bt K.fns c outer cur wh inn f).2):=by
    exact z0qa
   exact z2va
end
section
set_option maxRecDepth 100000
open Go.RowKit
open Go.Deep (BT)
theorem Adg{w:World}{fns:List (Nm×Nat)}{fa:Option Addr}{s:Nm}{p:Option Addr}(h:Mt w fns fa fns.length s p)(n:Nat) :
  (p=none/\Oj fns s n=true)\/(∃pb pa m pc,p=some ⟨pb,0,none⟩/\Oj fns s n=(m !=n)/\pb<w.heap.size/\w.cell? ⟨pb,2,none⟩=some (.slice pa m pc)):=by
 rcases h with⟨e,hn⟩|⟨i,hi,pb,pa,pc,_,e,_,es,hn,lp,c2⟩
 ·left;refine⟨e,?_⟩;unfold Oj;rw[Adf fns s (fun j hj=>hn j hj hj)]
 ·right;refine⟨pb,pa,fns[i].2,pc,e,?_,lp,c2⟩;unfold Oj;rw[Ade fns s i hi es hn]
theorem z11a {P:Prop} (h:P:=by
  generalize w1.drewN nq=w2 at *;have d0:=A2 HBlk2.o 0 _ rfl;have d2:=A2 HBlk2.o 2 _ rfl;have ld:=A5 HBlk2.o;go_wp2_with fail
  refine(Ol Ai.o.st 3 line).mono ?_;rintro e w3 ⟨rfl,C6,Aj⟩;have Bc:=A0 (Ai.o.next C6 Aj);have Av:Hid (A3 D w w3):=Aa.o.trans Aj;have HBlk3:=A0 ((Aj.block b hD).trans HBlk2.o);clear C6 Aj d0 d2 ld;have d2:=A2 HBlk3.o 2 _ rfl;have ld:=A5 HBlk3.o;go_wp2_with fail
  refine(HRun.o _ _ Bc.o Av.o).mono ?_;rintro e w4 ⟨rfl,Ff,B8⟩;have Er:=A0 Ff;have Cn:Hid (A3 D w w4):=Av.o.trans B8;clear Ff B8;go_wp2;go_end0;exact⟨rfl,Er.o,Cn.o⟩):P:=h
theorem z39a {P:Prop} (h:P:=by
  go_wp2;go_end0;exact⟨rfl,Er.o,Cn.o⟩):P:=h
theorem A9y(K:CC)(c:BT A6)(hok:D6 (Fw K) c)(hwf:Wf 0 c)(line:Nat)(s:Nm)(D:Nat->Prop)(w:World)(outer cur:List Nm)(bk:List Nat)(wh:Nat)(inn:Bool)(f:Ct)(rc:Nat)(b:Nat)(va:Option Addr)(vn vc:Nat)(ks:List Value)
  (hst:K.St D w (outer++cur) bk wh inn f rc) (hD:D b) (hblk:w.heap[b]?=some (.cells #[.int .i64 (line:Nat),.string ⟨s.toArray⟩,.slice va vn vc] 303 (0,0))) (hown:Cw D w 150 1 (.slice va vn vc) ks.length ks) (hrep:An D w c ks) (hb:ks.length<=500000) :
  Calls Tryz.prog 266 #[.pointer (some ⟨K.cb,0,none⟩),.pointer (some ⟨b,0,none⟩)] w fun e w'=>e=.returned (.tuple #[])/\K.St D w' (outer++cur) bk wh inn (Bt K.fns c outer cur wh inn (Ed (Oj K.fns s (Ax c)) 3 line f)).2 rc/\A3 D w w':=by
 obtain⟨hlo,lcb,hncb⟩:=hst.lo;have hvn:vn=ks.length:=(C9 hown.1).1;have hlen:=hrep.len;rw[←hlen];subst hvn;obtain⟨p,hp⟩:=hst.fr.find s K.fns.length (Nat.le_refl _);have hfl:=hst.fr.len;have HNm:=A0 (fun(n:Nat)=>b6 (hst.drewN n).fr K.fns.length (Nat.le_refl _) s p hp);have hfn:=Adg hp ks.length;have HSt:=A0 hst;have HOwn:=A0 hown;have HRep:=A0 hrep;have HBlk:=A0 hblk;obtain⟨na,nn,nc,ba,bn,bc,la,ln,lc,ls,hv⟩:=hst.st;obtain⟨c0,c1,c2,c3,c4,c5,c6,c7,fz,lb⟩:=Nu hv.cell;rw[hfl]at c0;have d0:=A2 hblk 0 _ rfl;have d1:=A2 hblk 1 _ rfl;have d2:=A2 hblk 2 _ rfl;have ld:=A5 hblk;clear hst hown hrep hblk hp hv hlen;have HRun:=A0 (fun(W:World) (g:Ct) (hs:K.St D W (outer++cur) bk wh inn g rc) (hbd:A3 D w W)=>Zy K c hok hwf D W outer cur bk wh inn g rc va ks.length vc ks hs (HOwn.o.Bq hbd) (HRep.o.Bq hbd) hb);rcases hfn with⟨rfl,hcb⟩|⟨pb,pa,m,pc,rfl,hcb,lpb,cp⟩
 ·rw[hcb];clear hcb hfl;go_enter Tryz.func266,Tryz.ntmps266;go_wp2;go_quiet ((go_at_call 263;exact Calls.quiet_of_same (HNm.o _)))
  have A7:=A0 (HSt.o.drewN nq);have A4:=A0 (Dw D w nq);have J8:Hid ((w.drewN nq).heap[b]?=_):=HBlk.o;clear c0 c1 c2 c3 c4 c5 c6 c7 fz lb d0 d1 d2 ld;generalize w.drewN nq=w1 at *;have d0:=A2 J8.o 0 _ rfl;have d1:=A2 J8.o 1 _ rfl;have d2:=A2 J8.o 2 _ rfl;have ld:=A5 J8.o;go_wp2;go_quiet (fail)
  have Ai:=A0 (A7.o.drewN nq);have Aa:Hid (A3 D w (w1.drewN nq)):=A4.o.trans (Dw D w1 nq);have HBlk2:Hid ((w1.drewN nq).heap[b]?=_):=J8.o;clear d0 d1 d2 ld;exact z11a
 ·rw[hcb];clear hfl;cases hm:(m !=ks.length)
  ·have tm:((m:Int) !=(ks.length:Int))=false:=by simp at hm ⊢;omega
   rw[Qa];clear hcb hm;go_enter Tryz.func266,Tryz.ntmps266;go_wp2;go_quiet ((go_at_call 263;exact Calls.quiet_of_same (HNm.o _)))
   have A7:=A0 (HSt.o.drewN nq);have A4:=A0 (Dw D w nq);have J8:Hid ((w.drewN nq).heap[b]?=_):=HBlk.o;have HCp:Hid ((w.drewN nq).cell? ⟨pb,2,none⟩=_):=cp;have lpb1:pb<(w.drewN nq).heap.size:=lpb;clear cp lpb;clear c0 c1 c2 c3 c4 c5 c6 c7 fz lb d0 d1 d2 ld;generalize w.drewN nq=w1 at *;have d0:=A2 J8.o 0 _ rfl;have d1:=A2 J8.o 1 _ rfl;have d2:=A2 J8.o 2 _ rfl;have ld:=A5 J8.o;have cp:=HCp.o;go_wp2;go_quiet (fail)
   have Ai:=A0 (A7.o.drewN nq);have Aa:Hid (A3 D w (w1.drewN nq)):=A4.o.trans (Dw D w1 nq);have HBlk2:Hid ((w1.drewN nq).heap[b]?=_):=J8.o;clear d0 d1 d2 ld cp lpb1 HCp;generalize w1.drewN nq=w2 at *;have d0:=A2 HBlk2.o 0 _ rfl;have d2:=A2 HBlk2.o 2 _ rfl;have ld:=A5 HBlk2.o;go_wp2_with fail
   refine(HRun.o _ _ Ai.o Aa.o).mono ?_;rintro e w4 ⟨rfl,Ff,B8⟩;have Er:=A0 Ff;have Cn:Hid (A3 D w w4):=Aa.o.trans B8;clear Ff B8;exact z39a
  ·have tm:((m:Int) !=(ks.length:Int))=true:=by simp at hm ⊢;omega
   clear hcb hm;go_enter Tryz.func266,Tryz.ntmps266;go_wp2;go_quiet ((go_at_call 263;exact Calls.quiet_of_same (HNm.o _)))
   have A7:=A0 (HSt.o.drewN nq);have A4:=A0 (Dw D w nq);have J8:Hid ((w.drewN nq).heap[b]?=_):=HBlk.o;have HCp:Hid ((w.drewN nq).cell? ⟨pb,2,none⟩=_):=cp;have lpb1:pb<(w.drewN nq).heap.size:=lpb;clear cp lpb;clear c0 c1 c2 c3 c4 c5 c6 c7 fz lb d0 d1 d2 ld;generalize w.drewN nq=w1 at *;have d0:=A2 J8.o 0 _ rfl;have d1:=A2 J8.o 1 _ rfl;have d2:=A2 J8.o 2 _ rfl;have ld:=A5 J8.o;have cp:=HCp.o;go_wp2;go_quiet (fail)
   have Ai:=A0 (A7.o.drewN nq);have Aa:Hid (A3 D w (w1.drewN nq)):=A4.o.trans (Dw D w1 nq);have HBlk2:Hid ((w1.drewN nq).heap[b]?=_):=J8.o;clear d0 d1 d2 ld cp lpb1 HCp;exact z11a
end
end Go.Proofs.YtjdlndhfaaolaaaGreatDoor
