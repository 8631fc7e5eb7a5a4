import Derived.Test.YtjdlndhfaaolaaaGreatDoorX20
set_option maxHeartbeats 20000000
namespace Go.Proofs.YtjdlndhfaaolaaaGreatDoor
section
open Go.RowKit
structure Ia (b : Nat) (row : Option Nat) (w w' : World) : Prop where
 os:w'.os=w.os
 tape:w'.tape=w.tape
 output:w'.output=w.output
 size:w.heap.size<=w'.heap.size
 block:∀k,k<w.heap.size->k≠b->row≠some k->w'.heap[k]?=w.heap[k]?
theorem Ia.refl(b:Nat)(row:Option Nat)(w:World):Ia b row w w:=⟨rfl,rfl,rfl,Nat.le_refl _,fun _ _ _ _=>rfl⟩
structure G0 (T : TypeId) (b o : Nat) (w : World) (cs : Array Value) (t : TypeId) (va : Option Addr) (vn vc : Nat) (xs : List Value) : Prop where
 blk:w.heap[b]?=some (.cells cs t (0,0))
 cell:cs[o]?=some (.slice va vn vc)
 own:w.ownsRow 0 T 1 (.slice va vn vc) xs.length xs
 ne:(Value.slice va vn vc).ownBlock≠some b
def Ng(T:TypeId)(b o:Nat)(w:World)(cs:Array Value)(t:TypeId)(va:Option Addr)(vn vc:Nat)(xs:List Value)(u:Value)(w':World):Prop:=
 ∃g cap,G0 T b o w' (cs.setIfInBounds o (.slice (some ⟨g,0,none⟩) (xs.length+1) cap)) t (some ⟨g,0,none⟩) (xs.length+1) cap (xs++[u])/\((Value.slice va vn vc).ownBlock=some g\/w.heap.size<=g)/\Ia b (Value.slice va vn vc).ownBlock w w'
def Ls(T:TypeId)(b o:Nat)(w:World)(cs:Array Value)(t:TypeId)(va:Option Addr)(vn vc:Nat)(xs:List Value)(m:Nat)(w':World):Prop:=
 G0 T b o w' (cs.setIfInBounds o (.slice va m vc)) t va m vc (xs.take m)/\Ia b (Value.slice va vn vc).ownBlock w w'
theorem Oo{cs:Array Value}{o:Nat}{v:Value}(h:cs[o]?=some v):cs.setIfInBounds o v=cs:=by
 apply Array.ext_getElem?;intro i;rw[Array.getElem?_setIfInBounds];split
 ·rename_i e;subst e;rw[h];split
  ·rfl
  ·rename_i hn;rw[Array.getElem?_eq_none z4sa]at h;cases h
 ·rfl
theorem Qd(g:Nat)(t:TypeId)(fr:Nat×Nat):∀(vs:List Value) (o:Nat) (cur:Array Value) (w:World),w.heap[g]?=some (.cells cur t fr)->
  ∃cur',(w.setCells g o vs).heap[g]?=some (.cells cur' t fr)/\cur'.size=cur.size/\∀m,m<=o->cur'.toList.take m=cur.toList.take m:=by
 intro vs;induction vs with
 | nil=>intro o cur w h;exact⟨cur,h,rfl,fun _ _=>rfl⟩
 | cons v r ih=>
  intro o cur w h;obtain⟨cur',h1,h2,h3⟩:=ih (o+1) _ _ (heap_set (j:=o) h v);refine⟨cur',h1,by rw[h2];simp,fun m hm=>?_⟩;rw[h3 m z4sa];simp only[Array.toList_setIfInBounds];rw[List.take_set_of_le z4sa]
theorem z57a {P:Prop} (h:P:=by simp[World.setCell]):P:=h
theorem N7(g:Nat):∀(vs:List Value) (o:Nat) (w:World),(w.setCells g o vs).os=w.os/\(w.setCells g o vs).tape=w.tape/\(w.setCells g o vs).output=w.output/\(w.setCells g o vs).heap.size=w.heap.size/\∀k,k≠g->(w.setCells g o vs).heap[k]?=w.heap[k]?:=by
 intro vs;induction vs with
 | nil=>intro o w;exact⟨rfl,rfl,rfl,rfl,fun _ _=>rfl⟩
 | cons v r ih=>
  intro o w;obtain⟨h1,h2,h3,h4,h5⟩:=ih (o+1) (w.setCell ⟨g,o,none⟩ v);exact⟨h1,h2,h3,h4.trans z57a,fun k hk=>(h5 k hk).trans (Below.heap_setCell _ _ _ _ z6ga)⟩
theorem Ea{w:World}{b o:Nat}{cs:Array Value}{t:TypeId}{v:Value}(h:w.heap[b]?=some (.cells cs t (0,0)))(hc:cs[o]?=some v):w.cell? ⟨b,o,none⟩=some v:=A7 h o v hc
end
section
set_option maxRecDepth 100000
open Go.RowKit
variable {b o:Nat}{w:World}{cs:Array Value}{t:TypeId}{va:Option Addr}{vn vc:Nat}{xs:List Value}
theorem Adm:(Tryz.prog.info? 255).map (fun i=>(i.zero,i.size,i.bytes))=some (some (.pointer none),1,8):=by kernel_rfl
theorem Qs(h:G0 9 b o w cs t va vn vc xs):Calls Tryz.prog 136 #[.pointer (some ⟨b,o,none⟩)] w fun e w'=>e=.returned (.int .i64 (xs.length:Nat))/\w'=w:=by
 have c:=Ea h.blk h.cell;have lb:=A6 h.blk;have hv:vn=xs.length:=(Cf h.own).1;subst hv;clear h;go_enter Tryz.func136,Tryz.ntmps136;exact z46a
theorem A3c(h:G0 9 b o w cs t va vn vc xs)(i:Nat)(hi:i<xs.length):Calls Tryz.prog 138 #[.pointer (some ⟨b,o,none⟩),.int .i64 (i:Nat)] w fun e w'=>e=.returned xs[i]/\w'=w:=by
 have c:=Ea h.blk h.cell;have lb:=A6 h.blk;have hv:vn=xs.length:=(Cf h.own).1;subst hv;obtain⟨g,rfl,_,hcap,lg,fz,hx,cg⟩:=Ol h.own i hi;clear h;generalize xs[i]=x at *;go_enter Tryz.func138,Tryz.ntmps138;exact z46a
theorem z2za {P:Prop} (h:P:=by
  exact B2 HOwn1.o (fun k hk _=>Below.heap_setCell _ _ _ _ (by simp only[Value.ownBlock,Option.some.injEq]at hk;show k≠b;omega))):P:=h
theorem z28a {P:Prop} (h:P:=by
  rw[Array.getElem?_setIfInBounds,if_pos rfl,if_pos ho]):P:=h
theorem z05a {P:Prop} (h:P:=by
  go_end0;have hgb:g≠b:=by
   rcases HAt.o with e|e
   ·intro e2;rw[e2]at e;exact HNe.o e
   ·omega
  refine⟨rfl,g,cap,⟨heap_set A4.o _,?_,?_,by simp only[Value.ownBlock,ne_eq,Option.some.injEq];exact hgb⟩,HAt.o.imp id (fun e=>by omega),⟨HGrow.o.os,HGrow.o.tape,HGrow.o.output,by simp[World.setCell];exact HGrow.o.size,fun k hk hkb hkr=>?_⟩⟩
  ·exact z28a
  ·rw[List.length_append];exact z2za
  ·exact(Below.heap_setCell _ _ _ _ (by exact hkb)).trans (HGrow.o.block k hk (fun e=>hkr e.symm))):P:=h
theorem Ur(h:G0 9 b o w cs t va vn vc xs)(hn:xs.length<=900000)(u:ByteArray)(ho:o<cs.size):Calls Tryz.prog 137 #[.pointer (some ⟨b,o,none⟩),.string u] w fun e w'=>e=.returned (.tuple #[])/\Ng 9 b o w cs t va vn vc xs (.string u) w':=by
 have c:=Ea h.blk h.cell;have lb:=A6 h.blk;have fz:=Ci h.blk;have hv:vn=xs.length:=(Cf h.own).1;subst hv;have hown:=h.own;have HH:=A0 h;have HNe:=A0 h.ne;clear h;go_enter Tryz.func137,Tryz.ntmps137;go_wp2_with (at_builtin;refine Ju w #[.string u] 9 rfl (.tmp 8) (.tmp 10) 37 rfl 0 1 16 (.string ⟨#[]⟩) Tryz.underlying37 Xq rfl z4sa (.slice va xs.length vc) xs.length xs rfl rfl hown rfl (fun v hv=>by simp at hv;rw[hv];rfl) z4sa z4sa (Nat.zero_le _) ?_;intro g cap w1 Es hgrow hat hg;have A1:=(hgrow.block b lb (fun e=>HNe.o e.symm)).trans HH.o.blk;have c1:=Ea A1 HH.o.cell;have f1:=Ci A1;have Bk:=A6 A1;have A4:=A0 A1;have HOwn1:=A0 Es;have HGrow:=A0 hgrow;have HAt:=A0 hat;clear A1 Es hgrow hat)
 exact z05a
theorem A41(h:G0 3 b o w cs t va vn vc xs):Calls Tryz.prog 243 #[.pointer (some ⟨b,o,none⟩)] w fun e w'=>e=.returned (.int .i64 (xs.length:Nat))/\w'=w:=by
 have c:=Ea h.blk h.cell;have lb:=A6 h.blk;have hv:vn=xs.length:=(Cf h.own).1;subst hv;clear h;go_enter Tryz.func243,Tryz.ntmps243;exact z46a
theorem Aii(h:G0 3 b o w cs t va vn vc xs)(i:Nat)(hi:i<xs.length):Calls Tryz.prog 271 #[.pointer (some ⟨b,o,none⟩),.int .i64 (i:Nat)] w fun e w'=>e=.returned xs[i]/\w'=w:=by
 have c:=Ea h.blk h.cell;have lb:=A6 h.blk;have hv:vn=xs.length:=(Cf h.own).1;subst hv;obtain⟨g,rfl,_,hcap,lg,fz,hx,cg⟩:=Ol h.own i hi;clear h;generalize xs[i]=x at *;go_enter Tryz.func271,Tryz.ntmps271;exact z46a
theorem z1ja {P:Prop} (h:P:=by
  go_wp2_with fail
  refine HL.o.mono ?_;rintro e w' ⟨rfl,rfl⟩;go_wp2_with fail
  refine HA.o.mono ?_;rintro e w' ⟨rfl,rfl⟩;go_wp2;go_ret;exact⟨rfl,rfl⟩):P:=h
theorem A47(h:G0 3 b o w cs t va vn vc xs)(hn:xs.length<=1000000)(n:Nat)(hi:n<xs.length)(h0:xs.length=n+1):Calls Tryz.prog 241 #[.pointer (some ⟨b,o,none⟩)] w fun e w'=>e=.returned (xs[n]'hi)/\w'=w:=by
 have HL:=A0 (A41 h);have HA:=A0 (Aii h n hi);rw[h0]at HL;have D7:n<=1000000:=by omega
 generalize hx:xs[n]'hi=x at HA ⊢;clear h h0 hx;go_enter Tryz.func241,Tryz.ntmps241;exact z1ja
theorem Ako(h:G0 3 b o w cs t va vn vc xs)(hn:xs.length<=900000)(u:Int)(ho:o<cs.size):Calls Tryz.prog 191 #[.pointer (some ⟨b,o,none⟩),.int .i64 u] w fun e w'=>e=.returned (.tuple #[])/\Ng 3 b o w cs t va vn vc xs (.int .i64 u) w':=by
 have c:=Ea h.blk h.cell;have lb:=A6 h.blk;have fz:=Ci h.blk;have hv:vn=xs.length:=(Cf h.own).1;subst hv;have hown:=h.own;have HH:=A0 h;have HNe:=A0 h.ne;clear h;go_enter Tryz.func191,Tryz.ntmps191;go_wp2_with (at_builtin;refine Ju w #[.int .i64 u] 3 rfl (.tmp 8) (.tmp 10) 34 rfl 0 1 8 (.int .i64 0) Tryz.underlying34 Xo rfl z4sa (.slice va xs.length vc) xs.length xs rfl rfl hown rfl (fun v hv=>by simp at hv;rw[hv];rfl) z4sa z4sa (Nat.zero_le _) ?_;intro g cap w1 Es hgrow hat hg;have A1:=(hgrow.block b lb (fun e=>HNe.o e.symm)).trans HH.o.blk;have c1:=Ea A1 HH.o.cell;have f1:=Ci A1;have Bk:=A6 A1;have A4:=A0 A1;have HOwn1:=A0 Es;have HGrow:=A0 hgrow;have HAt:=A0 hat;clear A1 Es hgrow hat)
 exact z05a
theorem Z6(h:G0 255 b o w cs t va vn vc xs):Calls Tryz.prog 270 #[.pointer (some ⟨b,o,none⟩)] w fun e w'=>e=.returned (.int .i64 (xs.length:Nat))/\w'=w:=by
 have c:=Ea h.blk h.cell;have lb:=A6 h.blk;have hv:vn=xs.length:=(Cf h.own).1;subst hv;clear h;go_enter Tryz.func270,Tryz.ntmps270;exact z46a
theorem Aik(h:G0 255 b o w cs t va vn vc xs)(i:Nat)(hi:i<xs.length):Calls Tryz.prog 286 #[.pointer (some ⟨b,o,none⟩),.int .i64 (i:Nat)] w fun e w'=>e=.returned xs[i]/\w'=w:=by
 have c:=Ea h.blk h.cell;have lb:=A6 h.blk;have hv:vn=xs.length:=(Cf h.own).1;subst hv;obtain⟨g,rfl,_,hcap,lg,fz,hx,cg⟩:=Ol h.own i hi;clear h;generalize xs[i]=x at *;go_enter Tryz.func286,Tryz.ntmps286;exact z46a
theorem Akw(h:G0 255 b o w cs t va vn vc xs)(hn:xs.length<=1000000)(n:Nat)(hi:n<xs.length)(h0:xs.length=n+1):Calls Tryz.prog 268 #[.pointer (some ⟨b,o,none⟩)] w fun e w'=>e=.returned (xs[n]'hi)/\w'=w:=by
 have HL:=A0 (Z6 h);have HA:=A0 (Aik h n hi);rw[h0]at HL;have D7:n<=1000000:=by omega
 generalize hx:xs[n]'hi=x at HA ⊢;clear h h0 hx;go_enter Tryz.func268,Tryz.ntmps268;exact z1ja
theorem Akq(h:G0 255 b o w cs t va vn vc xs)(hn:xs.length<=900000)(u:Option Addr)(ho:o<cs.size):Calls Tryz.prog 237 #[.pointer (some ⟨b,o,none⟩),.pointer u] w fun e w'=>e=.returned (.tuple #[])/\Ng 255 b o w cs t va vn vc xs (.pointer u) w':=by
 have c:=Ea h.blk h.cell;have lb:=A6 h.blk;have fz:=Ci h.blk;have hv:vn=xs.length:=(Cf h.own).1;subst hv;have hown:=h.own;have HH:=A0 h;have HNe:=A0 h.ne;clear h;go_enter Tryz.func237,Tryz.ntmps237;go_wp2_with (at_builtin;refine Ju w #[.pointer u] 255 rfl (.tmp 8) (.tmp 10) 209 rfl 0 1 8 (.pointer none) Tryz.underlying209 Adm rfl z4sa (.slice va xs.length vc) xs.length xs rfl rfl hown rfl (fun v hv=>by simp at hv;rw[hv];rfl) z4sa z4sa (Nat.zero_le _) ?_;intro g cap w1 Es hgrow hat hg;have A1:=(hgrow.block b lb (fun e=>HNe.o e.symm)).trans HH.o.blk;have c1:=Ea A1 HH.o.cell;have f1:=Ci A1;have Bk:=A6 A1;have A4:=A0 A1;have HOwn1:=A0 Es;have HGrow:=A0 hgrow;have HAt:=A0 hat;clear A1 Es hgrow hat)
 exact z05a
theorem z3fa {P:Prop} (h:P:=by
  simp only[Value.ownBlock,ne_eq,Option.some.injEq];exact hgb):P:=h
theorem z4ja {P:Prop} (h:P:=by
  rw[List.length_take,Nat.min_eq_left hm];omega):P:=h
theorem z03a {P:Prop} (h:P:=by
  go_wp2;go_end0;obtain⟨p1,p2,p3,p4,p5⟩:=HF.o;have hset:∀k,k≠b->(w1.setCell ⟨b,o,none⟩ (.slice (some ⟨g,0,none⟩) m vc)).heap[k]?=w1.heap[k]?:=fun k hk=>Below.heap_setCell _ _ _ _ z6ga;refine⟨rfl,⟨heap_set A4.o _,?_,⟨by simp,.inr ⟨g,vc,cur',?_,Nat.zero_le _,(hset g hgb).trans Iy.o,?_,hmx,HSz.o,?_⟩⟩,?_⟩,⟨p1,p2,p3,by simp[World.setCell];omega,fun k hk hkb hkr=>?_⟩⟩
  ·exact z28a
  ·rw[List.length_take,Nat.min_eq_left hm]
  ·exact z4ja
  ·rw[List.length_take,Nat.min_eq_left hm,Nat.mul_one,HK3.o,←HT.o,List.take_take,Nat.mul_one,Nat.min_eq_left hm]
  ·exact z3fa
  ·exact(hset k hkb).trans (p5 k (fun e=>hkr (by rw[e];rfl)))):P:=h
theorem z2aa {P:Prop} (h:P:=by
  rw[Oo HH.o.cell,List.take_length];exact HH.o):P:=h
theorem z1oa {P:Prop} (h:P:=by
  intro j hj;rw[cell_of_row w g (m+j) cur _ _ hg,Array.getElem?_eq_getElem z4sa];rfl):P:=h
theorem z5qa {P:Prop} (h:P:=by rw[←e];rfl):P:=h
theorem Z0(h:G0 9 b o w cs t va vn vc xs)(m:Nat)(hm:m<=xs.length)(ho:o<cs.size):Calls Tryz.prog 83 #[.pointer (some ⟨b,o,none⟩),.int .i64 (m:Nat)] w fun e w'=>e=.returned (.tuple #[])/\Ls 9 b o w cs t va vn vc xs m w':=by
 have c:=Ea h.blk h.cell;have lb:=A6 h.blk;have fz:=Ci h.blk;have hv:vn=xs.length:=(Cf h.own).1;subst hv;have HH:=A0 h;have HNe:=A0 h.ne;by_cases he:m=xs.length
 ·subst he;clear h;go_enter Tryz.func83,Tryz.ntmps83;go_wp2;refine bodyPost_ret (v:=.tuple #[]) (by simp[results,Tryz.results83,go_sem]) rfl ⟨rfl,?_,Ia.refl _ _ _⟩;exact z2aa
 ·obtain⟨g,rfl,hn0,hcap,lg,fg,hx,cg⟩:=Ol h.own m z4sa;obtain⟨hl,⟨h2,h3⟩|⟨g',cap,cur,hv,_,hg,hcap',hmx,hsz,ht⟩⟩:=h.own
  ·cases h2
  ·injection hv with e1 e2 e3;injection e1 with e1;injection e1 with e1;subst e1 e3;have hgb:g≠b:=fun e=>h.ne z5qa;have hcs:∀j,j<xs.length-m->(w.cell? ⟨g,m+j,none⟩).isSome=true:=by
    exact z1oa
   have hcl:∀ty,(Builtin.clear_ #[37] ty #[.slice (some ⟨g,m,none⟩) (xs.length-m) (vc-m)]).run Tryz.prog w=.ok (.tuple #[]) (w.setCells g m (List.replicate (xs.length-m) (.string ⟨#[]⟩))):=
    fun ty=>Lib.run_clear_slice w 37 9 ty (.string ⟨#[]⟩) Tryz.underlying37 Tryz.zeroValue9 rfl rfl g m (xs.length-m) (vc-m) z4sa hcs (fun j hj=>fg _)
   obtain⟨cur',k1,k2,k3⟩:=Qd g 9 (0,0) (List.replicate (xs.length-m) (.string ⟨#[]⟩)) m cur w hg;obtain⟨f1,f2,f3,f4,f5⟩:=N7 g (List.replicate (xs.length-m) (.string ⟨#[]⟩)) m w;have A1:=(f5 b (fun e=>hgb e.symm)).trans h.blk;have Iy:=A0 k1;have HK3:=A0 (k3 m (Nat.le_refl _));have HF:=A0 (And.intro f1 (And.intro f2 (And.intro f3 (And.intro f4 f5))));have HT:=A0 ht;have HSz:=A0 (k2.trans hsz);clear h hcs hg ht k1 k2 k3 f1 f2 f3 f5 hl hsz;have c1:=Ea A1 HH.o.cell;have g1:=Ci A1;have Bk:=A6 A1;have A4:=A0 A1;clear A1 f4;generalize w.setCells g m (List.replicate (xs.length-m) (.string ⟨#[]⟩))=w1 at *;go_enter Tryz.func83,Tryz.ntmps83;exact z03a
theorem Aip(h:G0 3 b o w cs t va vn vc xs)(m:Nat)(hm:m<=xs.length)(ho:o<cs.size):Calls Tryz.prog 242 #[.pointer (some ⟨b,o,none⟩),.int .i64 (m:Nat)] w fun e w'=>e=.returned (.tuple #[])/\Ls 3 b o w cs t va vn vc xs m w':=by
 have c:=Ea h.blk h.cell;have lb:=A6 h.blk;have fz:=Ci h.blk;have hv:vn=xs.length:=(Cf h.own).1;subst hv;have HH:=A0 h;have HNe:=A0 h.ne;by_cases he:m=xs.length
 ·subst he;clear h;go_enter Tryz.func242,Tryz.ntmps242;go_wp2;refine bodyPost_ret (v:=.tuple #[]) (by simp[results,Tryz.results242,go_sem]) rfl ⟨rfl,?_,Ia.refl _ _ _⟩;exact z2aa
 ·obtain⟨g,rfl,hn0,hcap,lg,fg,hx,cg⟩:=Ol h.own m z4sa;obtain⟨hl,⟨h2,h3⟩|⟨g',cap,cur,hv,_,hg,hcap',hmx,hsz,ht⟩⟩:=h.own
  ·cases h2
  ·injection hv with e1 e2 e3;injection e1 with e1;injection e1 with e1;subst e1 e3;have hgb:g≠b:=fun e=>h.ne z5qa;have hcs:∀j,j<xs.length-m->(w.cell? ⟨g,m+j,none⟩).isSome=true:=by
    exact z1oa
   have hcl:∀ty,(Builtin.clear_ #[34] ty #[.slice (some ⟨g,m,none⟩) (xs.length-m) (vc-m)]).run Tryz.prog w=.ok (.tuple #[]) (w.setCells g m (List.replicate (xs.length-m) (.int .i64 0))):=
    fun ty=>Lib.run_clear_slice w 34 3 ty (.int .i64 0) Tryz.underlying34 Tryz.zeroValue3 rfl rfl g m (xs.length-m) (vc-m) z4sa hcs (fun j hj=>fg _)
   obtain⟨cur',k1,k2,k3⟩:=Qd g 3 (0,0) (List.replicate (xs.length-m) (.int .i64 0)) m cur w hg;obtain⟨f1,f2,f3,f4,f5⟩:=N7 g (List.replicate (xs.length-m) (.int .i64 0)) m w;have A1:=(f5 b (fun e=>hgb e.symm)).trans h.blk;have Iy:=A0 k1;have HK3:=A0 (k3 m (Nat.le_refl _));have HF:=A0 (And.intro f1 (And.intro f2 (And.intro f3 (And.intro f4 f5))));have HT:=A0 ht;have HSz:=A0 (k2.trans hsz);clear h hcs hg ht k1 k2 k3 f1 f2 f3 f5 hl hsz;have c1:=Ea A1 HH.o.cell;have g1:=Ci A1;have Bk:=A6 A1;have A4:=A0 A1;clear A1 f4;generalize w.setCells g m (List.replicate (xs.length-m) (.int .i64 0))=w1 at *;go_enter Tryz.func242,Tryz.ntmps242;exact z03a
theorem z17a {P:Prop} (h:P:=by
  go_wp2_with fail
  refine HT.o.mono ?_;rintro e w' ⟨rfl,rfl⟩;go_wp2_with fail
  refine HL.o.mono ?_;rintro e w' ⟨rfl,rfl⟩;go_wp2_with fail
  refine HC.o.mono ?_;rintro e w1 ⟨rfl,hc⟩;have Gy:=A0 hc;clear hc;go_wp2;go_ret;exact⟨rfl,Gy.o⟩):P:=h
theorem Akk(h:G0 3 b o w cs t va vn vc xs)(hn:xs.length<=1000000)(n:Nat)(hi:n<xs.length)(h0:xs.length=n+1)(ho:o<cs.size):Calls Tryz.prog 193 #[.pointer (some ⟨b,o,none⟩)] w fun e w'=>e=.returned (xs[n]'hi)/\Ls 3 b o w cs t va vn vc xs n w':=by
 have HT:=A0 (A47 h hn n hi h0);have HL:=A0 (A41 h);have HC:=A0 (Aip h n z4sa ho);rw[h0]at HL;have D7:n<=1000000:=by omega
 generalize hx:xs[n]'hi=x at HT ⊢;clear h h0 hx;go_enter Tryz.func193,Tryz.ntmps193;exact z17a
theorem Air(h:G0 255 b o w cs t va vn vc xs)(m:Nat)(hm:m<=xs.length)(ho:o<cs.size):Calls Tryz.prog 269 #[.pointer (some ⟨b,o,none⟩),.int .i64 (m:Nat)] w fun e w'=>e=.returned (.tuple #[])/\Ls 255 b o w cs t va vn vc xs m w':=by
 have c:=Ea h.blk h.cell;have lb:=A6 h.blk;have fz:=Ci h.blk;have hv:vn=xs.length:=(Cf h.own).1;subst hv;have HH:=A0 h;have HNe:=A0 h.ne;by_cases he:m=xs.length
 ·subst he;clear h;go_enter Tryz.func269,Tryz.ntmps269;go_wp2;refine bodyPost_ret (v:=.tuple #[]) (by simp[results,Tryz.results269,go_sem]) rfl ⟨rfl,?_,Ia.refl _ _ _⟩;exact z2aa
 ·obtain⟨g,rfl,hn0,hcap,lg,fg,hx,cg⟩:=Ol h.own m z4sa;obtain⟨hl,⟨h2,h3⟩|⟨g',cap,cur,hv,_,hg,hcap',hmx,hsz,ht⟩⟩:=h.own
  ·cases h2
  ·injection hv with e1 e2 e3;injection e1 with e1;injection e1 with e1;subst e1 e3;have hgb:g≠b:=fun e=>h.ne z5qa;have hcs:∀j,j<xs.length-m->(w.cell? ⟨g,m+j,none⟩).isSome=true:=by
    exact z1oa
   have hcl:∀ty,(Builtin.clear_ #[209] ty #[.slice (some ⟨g,m,none⟩) (xs.length-m) (vc-m)]).run Tryz.prog w=.ok (.tuple #[]) (w.setCells g m (List.replicate (xs.length-m) (.pointer none))):=
    fun ty=>Lib.run_clear_slice w 209 255 ty (.pointer none) Tryz.underlying209 Tryz.zeroValue255 rfl rfl g m (xs.length-m) (vc-m) z4sa hcs (fun j hj=>fg _)
   obtain⟨cur',k1,k2,k3⟩:=Qd g 255 (0,0) (List.replicate (xs.length-m) (.pointer none)) m cur w hg;obtain⟨f1,f2,f3,f4,f5⟩:=N7 g (List.replicate (xs.length-m) (.pointer none)) m w;have A1:=(f5 b (fun e=>hgb e.symm)).trans h.blk;have Iy:=A0 k1;have HK3:=A0 (k3 m (Nat.le_refl _));have HF:=A0 (And.intro f1 (And.intro f2 (And.intro f3 (And.intro f4 f5))));have HT:=A0 ht;have HSz:=A0 (k2.trans hsz);clear h hcs hg ht k1 k2 k3 f1 f2 f3 f5 hl hsz;have c1:=Ea A1 HH.o.cell;have g1:=Ci A1;have Bk:=A6 A1;have A4:=A0 A1;clear A1 f4;generalize w.setCells g m (List.replicate (xs.length-m) (.pointer none))=w1 at *;go_enter Tryz.func269,Tryz.ntmps269;exact z03a
theorem Akm(h:G0 255 b o w cs t va vn vc xs)(hn:xs.length<=1000000)(n:Nat)(hi:n<xs.length)(h0:xs.length=n+1)(ho:o<cs.size):Calls Tryz.prog 238 #[.pointer (some ⟨b,o,none⟩)] w fun e w'=>e=.returned (xs[n]'hi)/\Ls 255 b o w cs t va vn vc xs n w':=by
 have HT:=A0 (Akw h hn n hi h0);have HL:=A0 (Z6 h);have HC:=A0 (Air h n z4sa ho);rw[h0]at HL;have D7:n<=1000000:=by omega
 generalize hx:xs[n]'hi=x at HT ⊢;clear h h0 hx;go_enter Tryz.func238,Tryz.ntmps238;exact z17a
end
section
open Go.RowKit
open Go.Deep (BT)
def Cz(ns:List Nm):List Value:=ns.map Ns
def Ct(bk:List Nat):List Value:=bk.map P4
structure Hp (D : Nat -> Prop) (cb te : Nat) (w : World) (ns : List Nm) (bk : List Nat) (wh : Nat) (inn : Bool) (f : C4) (rc : Nat) (fa : Option Addr) (fn fc : Nat) (na : Option Addr) (nn nc : Nat) (ba : Option Addr) (bn bc : Nat) (la : Option Addr) (ln lc : Nat) (ls : List Value) : Prop where
 cell:w.heap[cb]?=some (.cells #[.slice fa fn fc,.int .i64 (rc:Nat),.slice na nn nc,.slice ba bn bc,.slice la ln lc,.bool inn,.int .i64 (f.1:Nat),.int .i64 (f.2:Nat)] te (0,0))
 names:w.ownsRow 0 9 1 (.slice na nn nc) (Cz ns).length (Cz ns)
 blocks:w.ownsRow 0 3 1 (.slice ba bn bc) (Ct bk).length (Ct bk)
 loops:w.ownsRow 0 255 1 (.slice la ln lc) ls.length ls
 lsl:ls.length=wh
 Gu:¬D cb
 Cp:∀g,(Value.slice na nn nc).ownBlock=some g->¬D g/\g≠cb/\(Value.slice ba bn bc).ownBlock≠some g/\(Value.slice la ln lc).ownBlock≠some g
 G4:∀g,(Value.slice ba bn bc).ownBlock=some g->¬D g/\g≠cb/\(Value.slice la ln lc).ownBlock≠some g
 Jf:∀g,(Value.slice la ln lc).ownBlock=some g->¬D g/\g≠cb
 Bz:ns.length<=800000/\bk.length<=800000/\wh<=800000/\rc<=800000
 lo:∀g,D g->g<w.heap.size
def F1(D:Nat->Prop)(cb te:Nat)(w:World)(ns:List Nm)(bk:List Nat)(wh:Nat)(inn:Bool)(f:C4)(rc:Nat)(fa:Option Addr)(fn fc:Nat):Prop:=
 ∃na nn nc ba bn bc la ln lc ls,Hp D cb te w ns bk wh inn f rc fa fn fc na nn nc ba bn bc la ln lc ls
variable {D:Nat->Prop} {cb te:Nat} {w w':World} {ns:List Nm} {bk:List Nat} {wh:Nat} {inn:Bool} {f:C4} {rc:Nat} {fa:Option Addr} {fn fc:Nat} {na:Option Addr} {nn nc:Nat} {ba:Option Addr} {bn bc:Nat} {la:Option Addr} {ln lc:Nat} {ls:List Value}
theorem Hp.keep(h:Hp D cb te w ns bk wh inn f rc fa fn fc na nn nc ba bn bc la ln lc ls)(hk:∀g,g<w.heap.size->w'.heap[g]?=w.heap[g]?)(hs:w.heap.size<=w'.heap.size):Hp D cb te w' ns bk wh inn f rc fa fn fc na nn nc ba bn bc la ln lc ls:=
 ⟨(hk cb (A6 h.cell)).trans h.cell,B2 h.names (fun g _ hl=>hk g hl),B2 h.blocks (fun g _ hl=>hk g hl),B2 h.loops (fun g _ hl=>hk g hl),h.lsl,h.Gu,h.Cp,h.G4,h.Jf,h.Bz,fun g hg=>Nat.lt_of_lt_of_le (h.lo g hg) hs⟩
theorem F1.keep(h:F1 D cb te w ns bk wh inn f rc fa fn fc)(hk:∀g,g<w.heap.size->w'.heap[g]?=w.heap[g]?)(hs:w.heap.size<=w'.heap.size):F1 D cb te w' ns bk wh inn f rc fa fn fc:=by
 obtain⟨na,nn,nc,ba,bn,bc,la,ln,lc,ls,h⟩:=h;exact⟨na,nn,nc,ba,bn,bc,la,ln,lc,ls,h.keep hk hs⟩
theorem Hp.put(h:Hp D cb te w ns bk wh inn f rc fa fn fc na nn nc ba bn bc la ln lc ls)(inn':Bool)(f':C4)(rc':Nat)(hrc:rc'<=800000)
  (hc:w'.heap[cb]?=some (.cells #[.slice fa fn fc,.int .i64 (rc':Nat),.slice na nn nc,.slice ba bn bc,.slice la ln lc,.bool inn',.int .i64 (f'.1:Nat),.int .i64 (f'.2:Nat)] te (0,0))) (hk:∀g,g<w.heap.size->g≠cb->w'.heap[g]?=w.heap[g]?) (hs:w.heap.size<=w'.heap.size):Hp D cb te w' ns bk wh inn' f' rc' fa fn fc na nn nc ba bn bc la ln lc ls:=
 ⟨hc,B2 h.names (fun g hg hl=>hk g hl (h.Cp g hg).2.1),B2 h.blocks (fun g hg hl=>hk g hl (h.G4 g hg).2.1),B2 h.loops (fun g hg hl=>hk g hl (h.Jf g hg).2),h.lsl,h.Gu,h.Cp,h.G4,h.Jf,⟨h.Bz.1,h.Bz.2.1,h.Bz.2.2.1,hrc⟩,fun g hg=>Nat.lt_of_lt_of_le (h.lo g hg) hs⟩
theorem Hp.Lj(h:Hp D cb te w ns bk wh inn f rc fa fn fc na nn nc ba bn bc la ln lc ls):G0 9 cb 2 w #[.slice fa fn fc,.int .i64 (rc:Nat),.slice na nn nc,.slice ba bn bc,.slice la ln lc,.bool inn,.int .i64 (f.1:Nat),.int .i64 (f.2:Nat)] te na nn nc (Cz ns):=
 ⟨h.cell,rfl,h.names,fun e=>(h.Cp _ e).2.1 rfl⟩
theorem Hp.Pq(h:Hp D cb te w ns bk wh inn f rc fa fn fc na nn nc ba bn bc la ln lc ls):G0 3 cb 3 w #[.slice fa fn fc,.int .i64 (rc:Nat),.slice na nn nc,.slice ba bn bc,.slice la ln lc,.bool inn,.int .i64 (f.1:Nat),.int .i64 (f.2:Nat)] te ba bn bc (Ct bk):=
 ⟨h.cell,rfl,h.blocks,fun e=>(h.G4 _ e).2.1 rfl⟩
theorem Hp.Zd(h:Hp D cb te w ns bk wh inn f rc fa fn fc na nn nc ba bn bc la ln lc ls):G0 255 cb 4 w #[.slice fa fn fc,.int .i64 (rc:Nat),.slice na nn nc,.slice ba bn bc,.slice la ln lc,.bool inn,.int .i64 (f.1:Nat),.int .i64 (f.2:Nat)] te la ln lc ls:=
 ⟨h.cell,rfl,h.loops,fun e=>(h.Jf _ e).2 rfl⟩
theorem Ia.Bf{row:Option Nat}(h:Ia cb row w w')(h1:¬D cb)(h2:∀g,row=some g->¬D g)(hlo:∀g,D g->g<w.heap.size):A2 D w w':=
 ⟨h.os,h.tape,h.output,h.size,fun k hk=>h.block k (hlo k hk) (fun e=>h1 z5da) (fun e=>h2 k e hk)⟩
theorem Hp.Yu(h:Hp D cb te w ns bk wh inn f rc fa fn fc na nn nc ba bn bc la ln lc ls)(s:Nm)(hn:ns.length+1<=800000)
  (hp:Ng 9 cb 2 w #[.slice fa fn fc,.int .i64 (rc:Nat),.slice na nn nc,.slice ba bn bc,.slice la ln lc,.bool inn,.int .i64 (f.1:Nat),.int .i64 (f.2:Nat)] te na nn nc (Cz ns) (Ns s) w'):F1 D cb te w' (ns++[s]) bk wh inn f rc fa fn fc/\A2 D w w':=by
 obtain⟨g,cap,hs,hat,hf⟩:=hp;have hD:¬D g/\g≠cb/\(Value.slice ba bn bc).ownBlock≠some g/\(Value.slice la ln lc).ownBlock≠some g:=by
  rcases hat with e|e
  ·exact h.Cp g e
  ·refine⟨fun hd=>by have:=h.lo g hd;omega,fun e2=>by have:=A6 h.cell;omega,fun e2=>?_,fun e2=>?_⟩
   ·have:=Bg h.blocks g e2;omega
   ·have:=Bg h.loops g e2;omega
 refine⟨⟨some ⟨g,0,none⟩,(Cz ns).length+1,cap,ba,bn,bc,la,ln,lc,ls,?_⟩,hf.Bf h.Gu (fun g hg=>(h.Cp g hg).1) h.lo⟩;have hnm:Cz (ns++[s])=Cz ns++[Ns s]:=by simp[Cz]
 refine⟨by simpa using hs.blk,by rw[hnm];exact hs.own,B2 h.blocks (fun k hk hl=>hf.block k hl (h.G4 k hk).2.1 (fun e=>(h.Cp k e).2.2.1 hk)),B2 h.loops (fun k hk hl=>hf.block k hl (h.Jf k hk).2 (fun e=>(h.Cp k e).2.2.2 hk)),h.lsl,h.Gu,?_,h.G4,h.Jf,⟨by simpa using hn,h.Bz.2⟩,fun g hg=>Nat.lt_of_lt_of_le (h.lo g hg) hf.size⟩;intro k hk;simp only[Value.ownBlock,Option.some.injEq]at hk;subst hk;exact hD
theorem Hp.Ah8(h:Hp D cb te w ns bk wh inn f rc fa fn fc na nn nc ba bn bc la ln lc ls)(p:Nat)(hn:bk.length+1<=800000)
  (hp:Ng 3 cb 3 w #[.slice fa fn fc,.int .i64 (rc:Nat),.slice na nn nc,.slice ba bn bc,.slice la ln lc,.bool inn,.int .i64 (f.1:Nat),.int .i64 (f.2:Nat)] te ba bn bc (Ct bk) (P4 p) w'):F1 D cb te w' ns (bk++[p]) wh inn f rc fa fn fc/\A2 D w w':=by
 obtain⟨g,cap,hs,hat,hf⟩:=hp;have hD:¬D g/\g≠cb/\(Value.slice na nn nc).ownBlock≠some g/\(Value.slice la ln lc).ownBlock≠some g:=by
  rcases hat with e|e
  ·exact⟨(h.G4 g e).1,(h.G4 g e).2.1,fun e2=>(h.Cp g e2).2.2.1 e,(h.G4 g e).2.2⟩
  ·refine⟨fun hd=>by have:=h.lo g hd;omega,fun e2=>by have:=A6 h.cell;omega,fun e2=>?_,fun e2=>?_⟩
   ·have:=Bg h.names g e2;omega
   ·have:=Bg h.loops g e2;omega
 refine⟨⟨na,nn,nc,some ⟨g,0,none⟩,(Ct bk).length+1,cap,la,ln,lc,ls,?_⟩,hf.Bf h.Gu (fun g hg=>(h.G4 g hg).1) h.lo⟩;have hnm:Ct (bk++[p])=Ct bk++[P4 p]:=by simp[Ct]
 refine⟨by simpa using hs.blk,B2 h.names (fun k hk hl=>hf.block k hl (h.Cp k hk).2.1 (fun e=>(h.Cp k hk).2.2.1 e)),by rw[hnm];exact hs.own,B2 h.loops (fun k hk hl=>hf.block k hl (h.Jf k hk).2 (fun e=>(h.G4 k e).2.2 hk)),h.lsl,h.Gu,?_,?_,h.Jf,⟨h.Bz.1,by simpa using hn,h.Bz.2.2⟩,fun g hg=>Nat.lt_of_lt_of_le (h.lo g hg) hf.size⟩
 ·intro k hk;refine⟨(h.Cp k hk).1,(h.Cp k hk).2.1,fun e=>?_,(h.Cp k hk).2.2.2⟩;simp only[Value.ownBlock,Option.some.injEq]at e;subst e;exact hD.2.2.1 hk
 ·intro k hk;simp only[Value.ownBlock,Option.some.injEq]at hk;subst hk;exact⟨hD.1,hD.2.1,hD.2.2.2⟩
theorem Hp.Yt(h:Hp D cb te w ns bk wh inn f rc fa fn fc na nn nc ba bn bc la ln lc ls)(u:Value)(hn:wh+1<=800000)
  (hp:Ng 255 cb 4 w #[.slice fa fn fc,.int .i64 (rc:Nat),.slice na nn nc,.slice ba bn bc,.slice la ln lc,.bool inn,.int .i64 (f.1:Nat),.int .i64 (f.2:Nat)] te la ln lc ls u w'):F1 D cb te w' ns bk (wh+1) inn f rc fa fn fc/\A2 D w w':=by
 obtain⟨g,cap,hs,hat,hf⟩:=hp;have hD:¬D g/\g≠cb/\(Value.slice na nn nc).ownBlock≠some g/\(Value.slice ba bn bc).ownBlock≠some g:=by
  rcases hat with e|e
  ·exact⟨(h.Jf g e).1,(h.Jf g e).2,fun e2=>(h.Cp g e2).2.2.2 e,fun e2=>(h.G4 g e2).2.2 e⟩
  ·refine⟨fun hd=>by have:=h.lo g hd;omega,fun e2=>by have:=A6 h.cell;omega,fun e2=>?_,fun e2=>?_⟩
   ·have:=Bg h.names g e2;omega
   ·have:=Bg h.blocks g e2;omega
 refine⟨⟨na,nn,nc,ba,bn,bc,some ⟨g,0,none⟩,ls.length+1,cap,ls++[u],?_⟩,hf.Bf h.Gu (fun g hg=>(h.Jf g hg).1) h.lo⟩;refine⟨by simpa using hs.blk,B2 h.names (fun k hk hl=>hf.block k hl (h.Cp k hk).2.1 (fun e=>(h.Cp k hk).2.2.2 e)),B2 h.blocks (fun k hk hl=>hf.block k hl (h.G4 k hk).2.1 (fun e=>(h.G4 k hk).2.2 e)),hs.own,by simp[h.lsl],h.Gu,?_,?_,?_,⟨h.Bz.1,h.Bz.2.1,hn,h.Bz.2.2.2⟩,fun g hg=>Nat.lt_of_lt_of_le (h.lo g hg) hf.size⟩
 ·intro k hk;refine⟨(h.Cp k hk).1,(h.Cp k hk).2.1,(h.Cp k hk).2.2.1,fun e=>?_⟩;simp only[Value.ownBlock,Option.some.injEq]at e;subst e;exact hD.2.2.1 hk
 ·intro k hk;refine⟨(h.G4 k hk).1,(h.G4 k hk).2.1,fun e=>?_⟩;simp only[Value.ownBlock,Option.some.injEq]at e;subst e;exact hD.2.2.2 hk
 ·intro k hk;simp only[Value.ownBlock,Option.some.injEq]at hk;subst hk;exact⟨hD.1,hD.2.1⟩
theorem Hp.Aas(h:Hp D cb te w ns bk wh inn f rc fa fn fc na nn nc ba bn bc la ln lc ls)(m:Nat)
  (hp:Ls 9 cb 2 w #[.slice fa fn fc,.int .i64 (rc:Nat),.slice na nn nc,.slice ba bn bc,.slice la ln lc,.bool inn,.int .i64 (f.1:Nat),.int .i64 (f.2:Nat)] te na nn nc (Cz ns) m w'):F1 D cb te w' (ns.take m) bk wh inn f rc fa fn fc/\A2 D w w':=by
 obtain⟨hs,hf⟩:=hp;refine⟨⟨na,m,nc,ba,bn,bc,la,ln,lc,ls,?_⟩,hf.Bf h.Gu (fun g hg=>(h.Cp g hg).1) h.lo⟩;have hnm:Cz (ns.take m)=(Cz ns).take m:=by simp[Cz,List.map_take]
 have ho:∀g,(Value.slice na m nc).ownBlock=some g->(Value.slice na nn nc).ownBlock=some g:=fun g e=>(Nv _ _ _ _).trans e;refine⟨by simpa using hs.blk,by rw[hnm];exact hs.own,B2 h.blocks (fun k hk hl=>hf.block k hl (h.G4 k hk).2.1 (fun e=>(h.Cp k e).2.2.1 hk)),B2 h.loops (fun k hk hl=>hf.block k hl (h.Jf k hk).2 (fun e=>(h.Cp k e).2.2.2 hk)),h.lsl,h.Gu,fun k hk=>h.Cp k (ho k hk),h.G4,h.Jf,⟨by have:=h.Bz.1;simp;omega,h.Bz.2⟩,fun g hg=>Nat.lt_of_lt_of_le (h.lo g hg) hf.size⟩
theorem Hp.Aap(h:Hp D cb te w ns bk wh inn f rc fa fn fc na nn nc ba bn bc la ln lc ls)(m:Nat)
  (hp:Ls 3 cb 3 w #[.slice fa fn fc,.int .i64 (rc:Nat),.slice na nn nc,.slice ba bn bc,.slice la ln lc,.bool inn,.int .i64 (f.1:Nat),.int .i64 (f.2:Nat)] te ba bn bc (Ct bk) m w'):F1 D cb te w' ns (bk.take m) wh inn f rc fa fn fc/\A2 D w w':=by
 obtain⟨hs,hf⟩:=hp;refine⟨⟨na,nn,nc,ba,m,bc,la,ln,lc,ls,?_⟩,hf.Bf h.Gu (fun g hg=>(h.G4 g hg).1) h.lo⟩;have hnm:Ct (bk.take m)=(Ct bk).take m:=by simp[Ct,List.map_take]
 have ho:∀g,(Value.slice ba m bc).ownBlock=some g->(Value.slice ba bn bc).ownBlock=some g:=fun g e=>(Nv _ _ _ _).trans e;refine⟨by simpa using hs.blk,B2 h.names (fun k hk hl=>hf.block k hl (h.Cp k hk).2.1 (fun e=>(h.Cp k hk).2.2.1 e)),by rw[hnm];exact hs.own,B2 h.loops (fun k hk hl=>hf.block k hl (h.Jf k hk).2 (fun e=>(h.G4 k e).2.2 hk)),h.lsl,h.Gu,fun k hk=>⟨(h.Cp k hk).1,(h.Cp k hk).2.1,fun e=>(h.Cp k hk).2.2.1 (ho k e),(h.Cp k hk).2.2.2⟩,fun k hk=>h.G4 k (ho k hk),h.Jf,⟨h.Bz.1,by have:=h.Bz.2.1;simp;omega,h.Bz.2.2⟩,fun g hg=>Nat.lt_of_lt_of_le (h.lo g hg) hf.size⟩
theorem Hp.Aar(h:Hp D cb te w ns bk wh inn f rc fa fn fc na nn nc ba bn bc la ln lc ls)(m:Nat)(hm:m<=wh)
  (hp:Ls 255 cb 4 w #[.slice fa fn fc,.int .i64 (rc:Nat),.slice na nn nc,.slice ba bn bc,.slice la ln lc,.bool inn,.int .i64 (f.1:Nat),.int .i64 (f.2:Nat)] te la ln lc ls m w'):F1 D cb te w' ns bk m inn f rc fa fn fc/\A2 D w w':=by
 obtain⟨hs,hf⟩:=hp;refine⟨⟨na,nn,nc,ba,bn,bc,la,m,lc,ls.take m,?_⟩,hf.Bf h.Gu (fun g hg=>(h.Jf g hg).1) h.lo⟩;have ho:∀g,(Value.slice la m lc).ownBlock=some g->(Value.slice la ln lc).ownBlock=some g:=fun g e=>(Nv _ _ _ _).trans e;refine⟨by simpa using hs.blk,B2 h.names (fun k hk hl=>hf.block k hl (h.Cp k hk).2.1 (fun e=>(h.Cp k hk).2.2.2 e)),B2 h.blocks (fun k hk hl=>hf.block k hl (h.G4 k hk).2.1 (fun e=>(h.G4 k hk).2.2 e)),hs.own,by rw[List.length_take,h.lsl,Nat.min_eq_left hm],h.Gu,fun k hk=>⟨(h.Cp k hk).1,(h.Cp k hk).2.1,(h.Cp k hk).2.2.1,fun e=>(h.Cp k hk).2.2.2 (ho k e)⟩,fun k hk=>⟨(h.G4 k hk).1,(h.G4 k hk).2.1,fun e=>(h.G4 k hk).2.2 (ho k e)⟩,fun k hk=>h.Jf k (ho k hk),⟨h.Bz.1,h.Bz.2.1,by have:=h.Bz.2.2.1;omega,h.Bz.2.2.2⟩,fun g hg=>Nat.lt_of_lt_of_le (h.lo g hg) hf.size⟩
end
section
set_option maxRecDepth 100000
open Go.RowKit
open Go.Deep (BT)
variable {D:Nat->Prop}{cb te:Nat}{w:World}{ns:List Nm}{bk:List Nat}{wh:Nat}{inn:Bool}{f:C4}{rc:Nat}{fa:Option Addr}{fn fc:Nat}
theorem Anv{code line:Nat}{f:C4}(h:f.1=0):Cy true code line f=(code,line):=by unfold Cy;rw[if_pos (by simp[h])]
theorem z5ha {P:Prop} (h:P:=by exact hne):P:=h
theorem O7(h:F1 D cb te w ns bk wh inn f rc fa fn fc)(code line:Nat) :
  Calls Tryz.prog 264 #[.pointer (some ⟨cb,0,none⟩),.int .i64 (code:Nat),.int .i64 (line:Nat)] w fun e w'=>e=.returned (.tuple #[])/\F1 D cb te w' ns bk wh inn (Cy true code line f) rc fa fn fc/\A2 D w w':=by
 obtain⟨na,nn,nc,ba,bn,bc,la,ln,lc,ls,h⟩:=h;obtain⟨c0,c1,c2,c3,c4,c5,c6,c7,fz,lb⟩:=Nk h.cell;have HH:=A0 h;clear h;by_cases h0:f.1=0
 ·have HW:=A0 (Anv (code:=code) (line:=line) h0);rw[h0]at c6;go_enter Tryz.func264,Tryz.ntmps264;go_wp2;go_end0;rw[HW.o];refine⟨rfl,⟨na,nn,nc,ba,bn,bc,la,ln,lc,ls,HH.o.put inn (code,line) rc HH.o.Bz.2.2.2 ?_ (fun g _ hne=>by rw[Below.heap_setCell _ _ _ _ z5ha,Below.heap_setCell _ _ _ _ z5ha]) z57a⟩,A2.set (p:=⟨cb,7,none⟩) (A2.set (p:=⟨cb,6,none⟩) (A2.refl _ _) HH.o.Gu _) HH.o.Gu _⟩;have:=heap_set (j:=7) (heap_set (j:=6) HH.o.cell (.int .i64 (code:Nat))) (.int .i64 (line:Nat));simpa using this
 ·have HW:=A0 (Anu true code line f h0);have t0:((f.1:Int)==0)=false:=by rw[beq_eq_false_iff_ne];omega
  clear h0;go_enter Tryz.func264,Tryz.ntmps264;go_wp2;go_end0;rw[HW.o];exact⟨rfl,⟨na,nn,nc,ba,bn,bc,la,ln,lc,ls,HH.o⟩,A2.refl _ _⟩
theorem Og(ns:List Nm):(Cz ns).length=ns.length:=by simp[Cz]
theorem Vv(bk:List Nat):(Ct bk).length=bk.length:=by simp[Ct]
theorem Tb(h:F1 D cb te w ns bk wh inn f rc fa fn fc)(hb:bk.length+1<=800000) :
  Calls Tryz.prog 133 #[.pointer (some ⟨cb,0,none⟩)] w fun e w'=>e=.returned (.tuple #[])/\F1 D cb te w' ns (bk++[ns.length]) wh inn f rc fa fn fc/\A2 D w w':=by
 obtain⟨na,nn,nc,ba,bn,bc,la,ln,lc,ls,h⟩:=h;have lb:=A6 h.cell;have HH:=A0 (h.keep (w':=w.drew) (fun _ _=>rfl) (Nat.le_refl _));have HL:=A0 (Qs HH.o.Lj);rw[Og]at HL;have HP:=A0 (Ako HH.o.Pq (by rw[Vv];omega) (ns.length:Nat) z4wa);clear h;go_enter Tryz.func133,Tryz.ntmps133;go_wp2;go_region_law (first
  | (refine Fg rfl 136 _ _ rfl #[.pointer (some ⟨cb,2,none⟩)] (by kernel_rfl) HL.o ?_;rintro e w1 ⟨rfl,rfl⟩;refine⟨_,rfl,?_⟩)
  | (refine Fg rfl 191 _ _ rfl #[.pointer (some ⟨cb,3,none⟩),.int .i64 (ns.length:Nat)] (by kernel_rfl) HP.o ?_;rintro e w1 ⟨rfl,hp1⟩;refine⟨_,rfl,?_⟩))
 all_goals go_wp2
 all_goals go_end0
 all_goals obtain⟨k1,k2⟩:=HH.o.Ah8 ns.length hb hp1
 all_goals exact⟨rfl,k1,⟨k2.os,k2.tape,k2.output,k2.size,k2.block⟩⟩
theorem T9{D:Nat->Prop}{cb te:Nat}{w:World}{ns:List Nm}{bk:List Nat}{p:Nat}{wh:Nat}{inn:Bool}{f:C4}{rc:Nat}{fa:Option Addr}{fn fc:Nat}(h:F1 D cb te w ns (bk++[p]) wh inn f rc fa fn fc)(hp:p<=ns.length) :
  Calls Tryz.prog 135 #[.pointer (some ⟨cb,0,none⟩)] w fun e w'=>e=.returned (.tuple #[])/\F1 D cb te w' (ns.take p) bk wh inn f rc fa fn fc/\A2 D w w':=by
 obtain⟨na,nn,nc,ba,bn,bc,la,ln,lc,ls,h⟩:=h;have lb:=A6 h.cell;have HH:=A0 (h.keep (w':=w.drew) (fun _ _=>rfl) (Nat.le_refl _));have hl:(Ct (bk++[p])).length=bk.length+1:=by rw[Vv];simp
 have hf:=HH.o.Bz;simp only[List.length_append,List.length_singleton]at hf;have HP:=A0 (Akk HH.o.Pq z4sa bk.length z4sa hl z4wa);have hx:(Ct (bk++[p]))[bk.length]'z4sa=.int .i64 (p:Nat):=by simp[Ct,P4]
 rw[hx]at HP;clear h hl hx;go_enter Tryz.func135,Tryz.ntmps135;go_wp2;go_region_law (first
  | (refine Fg rfl 193 _ _ rfl #[.pointer (some ⟨cb,3,none⟩)] (by kernel_rfl) HP.o ?_;rintro e w1 ⟨rfl,hc1⟩;refine⟨_,rfl,?_⟩;obtain⟨k1,k2⟩:=HH.o.Aap bk.length hc1;rw[List.take_left]at k1;obtain⟨na1,nn1,nc1,ba1,bn1,bc1,la1,Is,lc1,ls1,G3⟩:=k1;have HV1:=A0 G3;have HK2:=A0 k2;have Bk:=A6 G3.cell;have Gy:=A0 (Z0 G3.Lj p (by rw[Og];exact hp) z4wa);clear G3 k2 hc1)
  | (refine Fg rfl 83 _ _ rfl #[.pointer (some ⟨cb,2,none⟩),.int .i64 (p:Nat)] (by kernel_rfl) Gy.o ?_;rintro e w2 ⟨rfl,hc2⟩;refine⟨_,rfl,?_⟩))
 all_goals go_wp2
 all_goals go_end0
 all_goals obtain⟨k3,k4⟩:=HV1.o.Aas p hc2
 all_goals exact⟨rfl,k3,A2.trans ⟨HK2.o.os,HK2.o.tape,HK2.o.output,HK2.o.size,HK2.o.block⟩ k4⟩
theorem Ab5{ns:List Nm}{i:Nat}(h:i<ns.length)(s:Nm):decide (s∈ns.drop i)=(decide (ns[i]=s)||decide (s∈ns.drop (i+1))):=by
 rw[List.drop_eq_getElem_cons h,Bool.eq_iff_iff];simp only[List.mem_cons,decide_eq_true_eq,Bool.or_eq_true];exact⟨fun h=>h.imp Eq.symm id,fun h=>h.imp Eq.symm id⟩
theorem r8(h:F1 D cb te w ns bk wh inn f rc fa fn fc)(s:Nm)(p:Nat)(hp:p<=ns.length) :
  Calls Tryz.prog 265 #[.pointer (some ⟨cb,0,none⟩),.string ⟨s.toArray⟩,.int .i64 (p:Nat)] w fun e w'=>e=.returned (.bool (decide (s∈ns.drop p)))/\w'=w:=by
 obtain⟨na,nn,nc,ba,bn,bc,la,ln,lc,ls,h⟩:=h;have lb:=A6 h.cell;have HL:=A0 (Qs h.Lj);rw[Og]at HL;have HA:=A0 (fun i hi=>A3c h.Lj i hi);have hfew:=h.Bz.1;clear h;go_enter Tryz.func265,Tryz.ntmps265;go_wp2;go_loopg [7] (ns.length-p) (fun k v wr=>∃i:Nat,v=.int .i64 i/\i+k=ns.length/\decide (s∈ns.drop p)=decide (s∈ns.drop i)/\wr=w)
 case atStart=>exact⟨p,rfl,by omega,rfl,rfl⟩
 case round=>
  obtain⟨i,rfl,hik,hm,rfl⟩:=hrel;have HM:=A0 hm;clear hm;by_cases hlt:i<ns.length
  ·have HS:=A0 (Ab5 hlt s);have HA1:=A0 (HA.o i (by rw[Og];exact hlt));have hx:(Cz ns)[i]'(by rw[Og];exact hlt)=.string ⟨ns[i].toArray⟩:=by simp[Cz,Ns]
   rw[hx]at HA1;clear hx;generalize ns[i]=x at *;have hlt':(i:Int)<(ns.length:Int):=by omega
   cases hq:(x==s)
   ·have HE:Hid (decide (s∈ns.drop p)=decide (s∈ns.drop (i+1))):=by
     show _=_;have:decide (x=s)=false:=by simpa using hq
     rw[HM.o,HS.o,this];rfl
    go_wp2_with fail
    refine HL.o.mono ?_;rintro e w' ⟨rfl,rfl⟩;go_wp2_with fail
    refine HA1.o.mono ?_;rintro e w' ⟨rfl,rfl⟩;go_wp2;go_roundg (gk-1)
    case measure=>omega
    case rel=>exact⟨i+1,rfl,by omega,HE.o,rfl⟩
   ·have HE:Hid (decide (s∈ns.drop p)=true):=by
     show _=_;have:decide (x=s)=true:=by simpa using hq
     rw[HM.o,HS.o,this];rfl
    go_wp2_with fail
    refine HL.o.mono ?_;rintro e w' ⟨rfl,rfl⟩;go_wp2_with fail
    refine HA1.o.mono ?_;rintro e w' ⟨rfl,rfl⟩;go_wp2;go_ret;exact⟨S9 HE.o.symm,rfl⟩
  ·have HE:Hid (decide (s∈ns.drop p)=false):=by
    show _=_;rw[HM.o,List.drop_eq_nil_of_le z4sa];rfl
   go_wp2_with fail
   refine HL.o.mono ?_;rintro e w' ⟨rfl,rfl⟩;go_wp2;go_ret;exact⟨S9 HE.o.symm,rfl⟩
end
section
set_option maxRecDepth 100000
open Go.RowKit
open Go.Deep (BT)
variable {D:Nat->Prop}{w:World}{fns:List (Nm×Nat)}{fa:Option Addr}{fn fc:Nat}
theorem Pv(code line:Nat)(f:C4):Cy false code line f=f:=by unfold Cy;rw[if_neg z4wa]
theorem z2wa {P:Prop} (h:P:=by
  clear C0 Ar;go_wp2;go_end0;exact⟨rfl,Be.o,Ay.o⟩):P:=h
theorem z4aa {P:Prop} (h:P:=by
  exact⟨rfl,Ah.o,Aa.o⟩):P:=h
theorem Vy{D:Nat->Prop}{cb te:Nat}{w:World}{outer cur:List Nm}{bl:List Nat}{wh:Nat}{inn:Bool}{f:C4}{rc:Nat}{fa:Option Addr}{fn fc:Nat}(h:F1 D cb te w (outer++cur) (bl++[outer.length]) wh inn f rc fa fn fc)(line:Nat)(s:Nm) :
  Calls Tryz.prog 235 #[.pointer (some ⟨cb,0,none⟩),.agg #[.int .i64 (line:Nat),.string ⟨s.toArray⟩]] w fun e w'=>e=.returned (.tuple #[])/\F1 D cb te w' (outer++cur) (bl++[outer.length]) wh inn (Cy (decide (s∈cur)) 3 line f) rc fa fn fc/\A2 D w w':=by
 have hlo:∀g,D g->g<w.heap.size:=by obtain⟨_,_,_,_,_,_,_,_,_,_,h⟩:=h;exact h.lo
 have lb:cb<w.heap.size:=by obtain⟨_,_,_,_,_,_,_,_,_,_,h⟩:=h;exact A6 h.cell
 have h1:F1 D cb te (w.alloc (.cells #[.int .i64 (line:Nat),.string ⟨s.toArray⟩] 148)) (outer++cur) (bl++[outer.length]) wh inn f rc fa fn fc:=h.keep (fun g hg=>Below.heap_alloc _ _ _ hg) z4wa;have A1:A2 D w (w.alloc (.cells #[.int .i64 (line:Nat),.string ⟨s.toArray⟩] 148)):=(A2.refl D w).alloc hlo _;have Dm:=heap_alloc_new w (.cells #[.int .i64 (line:Nat),.string ⟨s.toArray⟩] 148);clear h;generalize hW:w.alloc (.cells #[.int .i64 (line:Nat),.string ⟨s.toArray⟩] 148)=w1 at *;have HW:=A0 hW;generalize hxb:w.heap.size=xb at *;have HXb:=A0 hxb;clear hW hxb;have A8:=A0 h1;have A4:=A0 A1;have Gz:=A0 Dm;have hdr:∀W:World,F1 D cb te W (outer++cur) (bl++[outer.length]) wh inn f rc fa fn fc->Calls Tryz.prog 241 #[.pointer (some ⟨cb,3,none⟩)] W fun e w'=>e=.returned (.int .i64 (outer.length:Nat))/\w'=W:=by
  intro W h;obtain⟨na,nn,nc,ba,bn,bc,la,ln,lc,ls,h⟩:=h;have hl:(Ct (bl++[outer.length])).length=bl.length+1:=by rw[Vv];simp
  have hf:=h.Bz;simp only[List.length_append,List.length_singleton]at hf;have hp:=A47 h.Pq z4sa bl.length z4sa hl;have hx:(Ct (bl++[outer.length]))[bl.length]'z4sa=.int .i64 (outer.length:Nat):=by simp[Ct,P4]
  rw[hx]at hp;exact hp
 have HTop:=A0 hdr;have HSeen:=A0 (fun(W:World) (h:F1 D cb te W (outer++cur) (bl++[outer.length]) wh inn f rc fa fn fc)=>r8 h s outer.length z4wa);rw[List.drop_left]at HSeen;obtain⟨y0,y1,fy,ly⟩:=Ja Dm;have Bk:cb<w1.heap.size:=by obtain⟨_,_,_,_,_,_,_,_,_,_,h⟩:=h1;exact A6 h.cell
 clear hdr h1 A1 Dm;cases hq:decide (s∈cur)
 ·rw[hq]at HSeen;have HF:=A0 (Pv 3 line f);go_enter Tryz.func235,Tryz.ntmps235;go_wp2;rw[HW.o,HXb.o];go_quiet ((first|(go_at_call 241;exact Calls.quiet_of_same (HTop.o _ (A8.o.keep (fun _ _=>rfl) (Nat.le_refl _))))|(go_at_call 265;exact Calls.quiet_of_same (HSeen.o _ (A8.o.keep (fun _ _=>rfl) (Nat.le_refl _))))))
  have Ah:Hid (F1 D cb te (w1.drewN nq) (outer++cur) (bl++[outer.length]) wh inn f rc fa fn fc):=A8.o.keep (fun _ _=>rfl) (Nat.le_refl _);have Aa:Hid (A2 D w (w1.drewN nq)):=⟨A4.o.os,A4.o.tape,A4.o.output,A4.o.size,A4.o.block⟩;have HX2:Hid ((w1.drewN nq).heap[xb]?=_):=Gz.o;go_wp2;go_end0;rw[HF.o];exact z4aa
 ·rw[hq]at HSeen;go_enter Tryz.func235,Tryz.ntmps235;go_wp2;rw[HW.o,HXb.o];go_quiet ((first|(go_at_call 241;exact Calls.quiet_of_same (HTop.o _ (A8.o.keep (fun _ _=>rfl) (Nat.le_refl _))))|(go_at_call 265;exact Calls.quiet_of_same (HSeen.o _ (A8.o.keep (fun _ _=>rfl) (Nat.le_refl _))))))
  have Ah:Hid (F1 D cb te (w1.drewN nq) (outer++cur) (bl++[outer.length]) wh inn f rc fa fn fc):=A8.o.keep (fun _ _=>rfl) (Nat.le_refl _);have Aa:Hid (A2 D w (w1.drewN nq)):=⟨A4.o.os,A4.o.tape,A4.o.output,A4.o.size,A4.o.block⟩;have HX2:Hid ((w1.drewN nq).heap[xb]?=_):=Gz.o;clear y0 y1 fy ly;generalize w1.drewN nq=w2 at *;obtain⟨y0,y1,fy,ly⟩:=Ja HX2.o;go_wp2_with fail
  refine(O7 Ah.o 3 line).mono ?_;rintro e w3 ⟨rfl,C0,Ar⟩;have Be:=A0 C0;have Ay:Hid (A2 D w w3):=Aa.o.trans Ar;exact z2wa
theorem o9{D:Nat->Prop}{cb te:Nat}{w:World}{ns:List Nm}{bk:List Nat}{wh:Nat}{inn:Bool}{f:C4}{rc:Nat}{fa:Option Addr}{fn fc:Nat}(h:F1 D cb te w ns bk wh inn f rc fa fn fc)(line:Nat) :
  Calls Tryz.prog 240 #[.pointer (some ⟨cb,0,none⟩),.int .i64 (line:Nat)] w fun e w'=>e=.returned (.tuple #[])/\F1 D cb te w' ns bk wh inn (Cy (wh==0) 4 line f) rc fa fn fc/\A2 D w w':=by
 have HS:=A0 h;obtain⟨na,nn,nc,ba,bn,bc,la,ln,lc,ls,h⟩:=h;have lb:=A6 h.cell;have HL:=A0 (Z6 h.Zd);rw[h.lsl]at HL;clear h;by_cases h0:wh=0
 ·subst h0;go_enter Tryz.func240,Tryz.ntmps240;go_wp2_with fail
  refine HL.o.mono ?_;rintro e w' ⟨rfl,rfl⟩;go_wp2_with fail
  refine(O7 HS.o 4 line).mono ?_;rintro e w3 ⟨rfl,C0,Ar⟩;have Be:=A0 C0;have Ay:=A0 Ar;exact z2wa
 ·have t0:((wh:Int)==0)=false:=by rw[beq_eq_false_iff_ne];omega
  have HF:Hid (Cy (wh==0) 4 line f=f):=by
   show _=_;rw[show(wh==0)=false by simpa using h0];exact Pv 4 line f
  clear h0;go_enter Tryz.func240,Tryz.ntmps240;go_wp2_with fail
  refine HL.o.mono ?_;rintro e w' ⟨rfl,rfl⟩;go_wp2;go_end0;rw[HF.o];exact⟨rfl,HS.o,A2.refl _ _⟩
structure Ik (D : Nat -> Prop) (w : World) (fns : List (Nm × Nat)) (fa : Option Addr) (fn fc : Nat) : Prop where
 len:fn=fns.length
 Bz:fns.length<=100000
 cap:fn<=fc
 at':∀i (h:i<fns.length),∃g pb pa pc,fa=some ⟨g,0,none⟩/\D g/\g<w.heap.size/\w.cell? ⟨g,i,none⟩=some (.pointer (some ⟨pb,0,none⟩))/\D pb/\pb<w.heap.size/\w.cell? ⟨pb,1,none⟩=some (.string ⟨fns[i].1.toArray⟩)/\w.cell? ⟨pb,2,none⟩=some (.slice pa fns[i].2 pc)
theorem Ik.keep{D:Nat->Prop}{w w':World}{fns:List (Nm×Nat)}{fa:Option Addr}{fn fc:Nat}(h:Ik D w fns fa fn fc)(hb:A2 D w w'):Ik D w' fns fa fn fc:=by
 refine⟨h.len,h.Bz,h.cap,fun i hi=>?_⟩;obtain⟨g,pb,pa,pc,e1,e2,e3,e4,e5,e6,e7,e8⟩:=h.at' i hi;exact⟨g,pb,pa,pc,e1,e2,Nat.lt_of_lt_of_le e3 hb.size,(World.cell?_of_block (hb.block g e2)).trans e4,e5,Nat.lt_of_lt_of_le e6 hb.size,(World.cell?_of_block (hb.block pb e5)).trans e7,(World.cell?_of_block (hb.block pb e5)).trans e8⟩
def Mp(w:World)(fns:List (Nm×Nat))(fa:Option Addr)(k:Nat)(s:Nm)(p:Option Addr):Prop:=
 (p=none/\∀j,j<k->∀h:j<fns.length,fns[j].1≠s)\/(∃i,∃h:i<fns.length,∃pb pa pc,i<k/\p=some ⟨pb,0,none⟩/\(∃g,fa=some ⟨g,0,none⟩/\w.cell? ⟨g,i,none⟩=some (.pointer (some ⟨pb,0,none⟩)))/\fns[i].1=s/\(∀j,j<i->∀h':j<fns.length,fns[j].1≠s)/\pb<w.heap.size/\w.cell? ⟨pb,2,none⟩=some (.slice pa fns[i].2 pc))
theorem z3xa {P:Prop} (h:P:=by
  intro hn j hj h' e;by_cases hjn:j=i
  ·subst hjn;exact hn e
  ·exact HNo.o j z4sa h' e):P:=h
theorem z29a {P:Prop} (h:P:=by
  go_wp2;go_roundg (gk-1)
  case measure=>omega
  case rel=>exact⟨i+1,rfl,by omega,HS.o HQ.o,rfl⟩):P:=h
theorem Aa2(h:Ik D w fns fa fn fc)(k:Nat)(hk:k<=fns.length)(s:Nm) :
  Calls Tryz.prog 263 #[.slice fa k fc,.string ⟨s.toArray⟩] w fun e w'=>∃p,e=.returned (.pointer p)/\Mp w fns fa k s p/\w'=w:=by
 have hfew:=h.Bz;have hcap:=h.cap;have hlen:=h.len;have HH:=A0 h;clear h;go_enter Tryz.func263,Tryz.ntmps263;go_wp2;go_loopg [9] k (fun q v wr=>∃i:Nat,v=.int .i64 i/\i+q=k/\(∀j,j<i->∀h':j<fns.length,fns[j].1≠s)/\wr=w)
 case atStart=>exact⟨0,rfl,by omega,fun i hi=>by omega,rfl⟩
 case round=>
  obtain⟨i,rfl,hik,hno,rfl⟩:=hrel;have HNo:=A0 hno;clear hno;by_cases hlt:i<k
  ·have hlt2:i<fns.length:=by omega
   obtain⟨g,pb,pa,pc,rfl,_,lg,cg,_,lp,c1,c2⟩:=HH.o.at' i hlt2;have HI:Hid (fns[i].1=s->Mp wr fns (some ⟨g,0,none⟩) k s (some ⟨pb,0,none⟩)):=fun e=>.inr ⟨i,hlt2,pb,pa,pc,hlt,rfl,⟨g,rfl,cg⟩,e,HNo.o,lp,c2⟩;have HS:Hid (fns[i].1≠s->∀j,j<i+1->∀h':j<fns.length,fns[j].1≠s):=by
    exact z3xa
   have hcap2:k<=fc:=by omega
   clear hlen hcap;generalize fns[i]=x at *;cases hq:(x.1==s)
   ·have HQ:Hid (x.1≠s):=by rw[beq_eq_false_iff_ne]at hq;exact hq
    exact z29a
   ·have HQ:Hid (x.1=s):=A0 (by simpa using hq);go_wp2;go_ret;exact⟨_,rfl,HI.o HQ.o,rfl⟩
  ·have HT:Hid (Mp wr fns fa k s none):=.inl ⟨rfl,fun j hj h=>HNo.o j z4sa h⟩;go_wp2;go_ret;exact⟨_,rfl,HT.o,rfl⟩
theorem Mp.unique{w:World}{fns:List (Nm×Nat)}{fa:Option Addr}{k:Nat}{s:Nm}{p q:Option Addr}(h1:Mp w fns fa k s p)(h2:Mp w fns fa k s q):p=q:=by
 rcases h1 with⟨e1,n1⟩|⟨i,hi,pb,pa,pc,hik,e1,⟨g,eg,c1⟩,es,n1,_,_⟩
 ·rcases h2 with⟨e2,_⟩|⟨j,hj,pb2,pa2,pc2,hjk,e2,_,es2,_⟩
  ·rw[e1,e2]
  ·exact absurd es2 (n1 j hjk hj)
 ·rcases h2 with⟨e2,n2⟩|⟨j,hj,pb2,pa2,pc2,hjk,e2,⟨g2,eg2,c2⟩,es2,n2,_,_⟩
  ·exact absurd es (n2 i hik hi)
  ·have hij:i=j:=by
    rcases Nat.lt_trichotomy i j with h|h|h
    ·exact absurd es (n2 i h hi)
    ·exact h
    ·exact absurd es2 (n1 j h hj)
   subst hij;rw[eg]at eg2;injection eg2 with eg2;injection eg2 with eg2;subst eg2;rw[c1]at c2;injection c2 with c2;injection c2 with c2;rw[e1,e2,c2]
theorem Ik.find(h:Ik D w fns fa fn fc)(s:Nm):∀k,k<=fns.length->∃p,Mp w fns fa k s p:=by
 intro k;induction k with
 | zero=>intro _;exact⟨none,.inl ⟨rfl,fun j hj=>by omega⟩⟩
 | succ k ih=>
  intro hk;obtain⟨p,hp⟩:=ih z4sa;rcases hp with⟨rfl,hn⟩|⟨i,hi,pb,pa,pc,hik,r⟩
  ·by_cases e:(fns[k]'z4sa).1=s
   ·obtain⟨g,pb,pa,pc,e1,_,_,e4,_,e6,_,e8⟩:=h.at' k z4sa;exact⟨some ⟨pb,0,none⟩,.inr ⟨k,by omega,pb,pa,pc,by omega,rfl,⟨g,e1,e4⟩,e,fun j hj h'=>hn j hj h',e6,e8⟩⟩
   ·refine⟨none,.inl ⟨rfl,fun j hj h' e2=>?_⟩⟩;by_cases hjk:j=k
    ·subst hjk;exact e e2
    ·exact hn j z4sa h' e2
  ·exact⟨p,.inr ⟨i,hi,pb,pa,pc,by omega,r⟩⟩
theorem p7(h:Ik D w fns fa fn fc)(k:Nat)(hk:k<=fns.length)(s:Nm)(p:Option Addr)(hp:Mp w fns fa k s p) :
  Calls Tryz.prog 263 #[.slice fa k fc,.string ⟨s.toArray⟩] w fun e w'=>e=.returned (.pointer p)/\w'=w:=
 (Aa2 h k hk s).mono fun e w' ⟨q,e1,e2,e3⟩=>⟨by rw[e1,hp.unique e2],e3⟩
end
section
set_option maxRecDepth 100000
open Go.RowKit
open Go.Deep (BT)
structure CC where
 cb:Nat
 te:Nat
 fns:List (Nm×Nat)
 fa:Option Addr
 fn:Nat
 fc:Nat
structure CC.St (K : CC) (D : Nat -> Prop) (w : World) (ns : List Nm) (bk : List Nat) (wh : Nat) (inn : Bool) (f : C4) (rc : Nat) : Prop where
 st:F1 D K.cb K.te w ns bk wh inn f rc K.fa K.fn K.fc
 fr:Ik D w K.fns K.fa K.fn K.fc
variable {K:CC}{D:Nat->Prop}{w:World}{ns:List Nm}{bk:List Nat}{wh:Nat}{inn:Bool}{f:C4}{rc:Nat}
theorem CC.St.lo(h:K.St D w ns bk wh inn f rc):(∀g,D g->g<w.heap.size)/\K.cb<w.heap.size/\¬D K.cb:=by
 obtain⟨_,_,_,_,_,_,_,_,_,_,h⟩:=h.st;exact⟨h.lo,A6 h.cell,h.Gu⟩
theorem CC.St.next{K:CC}{D:Nat->Prop}{w w':World}{ns ns':List Nm}{bk bk':List Nat}{wh wh':Nat}{inn inn':Bool}{f f':C4}{rc rc':Nat}(h:K.St D w ns bk wh inn f rc)(hs:F1 D K.cb K.te w' ns' bk' wh' inn' f' rc' K.fa K.fn K.fc)(hb:A2 D w w'):K.St D w' ns' bk' wh' inn' f' rc':=⟨hs,h.fr.keep hb⟩
theorem CC.St.drewN(h:K.St D w ns bk wh inn f rc)(n:Nat):K.St D (w.drewN n) ns bk wh inn f rc:=
 h.next (h.st.keep (fun _ _=>rfl) (Nat.le_refl _)) ⟨rfl,rfl,rfl,Nat.le_refl _,fun _ _=>rfl⟩
theorem Dk(D:Nat->Prop)(w:World)(n:Nat):A2 D w (w.drewN n):=⟨rfl,rfl,rfl,Nat.le_refl _,fun _ _=>rfl⟩
theorem Al.Bf{D:Nat->Prop}{w w':World}(hb:A2 D w w'){f:BT A3}{vs:List Value}(h:Al D w f vs):Al D w' f vs:=Al.keep (fun g hg _=>⟨hb.block g hg,hg⟩) _ _ h
theorem Bh.Bf{D:Nat->Prop}{w w':World}(hb:A2 D w w'){l:A3}{v:Value}{ks:List Value}(h:Bh D w l v ks):Bh D w' l v ks:=Bh.keep (fun g hg _=>⟨hb.block g hg,hg⟩) h
theorem Cr.Bf{D:Nat->Prop}{w w':World}(hb:A2 D w w'){e:TypeId}{size:Nat}{v:Value}{n:Nat}{cs:List Value}(h:Cr D w e size v n cs):Cr D w' e size v n cs:=h.keep (fun g hg _=>⟨hb.block g hg,hg⟩)
theorem Al.at'{D:Nat->Prop}{w:World}:∀(i:Nat) (f:BT A3) (vs:List Value),Al D w f vs->i<Ak f->
  ∃x y l c r,C2 i f=.node x y l c r/\∃v ks,vs[i]?=some v/\Bh D w l v ks/\Al D w c ks:=by
 intro i;induction i with
 | zero=>
  intro f vs h hi;cases f with
  | nil=>simp[Ak]at hi
  | node x y l c r=>
   obtain⟨v,ks,rest,rfl,h1,h2,h3⟩:=h;exact⟨x,y,l,c,r,rfl,v,ks,rfl,h1,h2⟩
 | succ i ih=>
  intro f vs h hi;cases f with
  | nil=>simp[Ak]at hi
  | node x y l c r=>
   obtain⟨v,ks,rest,rfl,h1,h2,h3⟩:=h;obtain⟨x',y',l',c',r',e,v',ks',k1,k2,k3⟩:=ih r rest h3 (by simp only[Ak]at hi;omega);exact⟨x',y',l',c',r',e,v',ks',k1,k2,k3⟩
def Fq(K:CC)(l:A3)(c:BT A3):Prop:=∀(D:Nat->Prop) (w:World) (outer cur:List Nm) (bk:List Nat) (wh:Nat) (inn:Bool) (f:C4) (rc:Nat) (v:Value) (ks:List Value),
 K.St D w (outer++cur) bk wh inn f rc->Bh D w l v ks->Al D w c ks->
 Calls Tryz.prog 236 #[.pointer (some ⟨K.cb,0,none⟩),v] w fun e w'=>e=.returned (.tuple #[])/\K.St D w' (outer++cur) bk wh inn (Ba K.fns (nd l c) outer cur wh inn f).2 rc/\A2 D w w'
def Cq(P:A3->BT A3->Prop):BT A3->Prop
 | .nil=>True
 | .node _ _ l c r=>P l c/\Cq P r
theorem Cq.at'{P:A3->BT A3->Prop}:∀(i:Nat) (f:BT A3),Cq P f->∀x y l c r,C2 i f=.node x y l c r->P l c:=by
 intro i;induction i with
 | zero=>intro f h x y l c r e;rw[show C2 0 f=f from by cases f <;> rfl]at e;subst e;exact h.1
 | succ i ih=>
  intro f h x y l c r e;cases f with
  | nil=>rw[C2]at e;cases e
  | node x' y' l' c' r'=>rw[C2]at e;exact ih r' h.2 x y l c r e
theorem Wf.drop:∀(m i:Nat) (f:BT A3),Wf m f->Wf m (C2 i f):=by
 intro m i;induction i with
 | zero=>intro f h;exact h
 | succ i ih=>
  intro f h;cases f with
  | nil=>exact h
  | node x y l c r=>exact ih r h.1
theorem sens_xy'(fns:List (Nm×Nat))(x y:Nat)(l:A3)(c r:BT A3)(outer cur:List Nm)(wh:Nat)(inn:Bool)(f:C4):Ba fns (.node x y l c r) outer cur wh inn f=Ba fns r outer (Ba fns (nd l c) outer cur wh inn f).1 wh inn (Ba fns (nd l c) outer cur wh inn f).2:=by
 rw[Aiy];rfl
theorem Wf.Qk{x y:Nat}{l:A3}{c r:BT A3}(h:Wf 0 (.node x y l c r)):Wf 0 (nd l c):=⟨trivial,h.2⟩
theorem z1qa {P:Prop} (h:P:=by
  have:Ak (C2 i c)=0:=by rw[P8,←HLen.o];omega
  cases hd:C2 i c with
  | nil=>rfl
  | node x y l c r=>rw[hd]at this;simp[Ak]at this):P:=h
theorem z0pa {P:Prop} (h:P:=by
  have h0:C2 i c=.nil:=by
   exact z1qa
  have:=HSe.o;rw[h0]at this;exact this):P:=h
theorem z2qa {P:Prop} (h:P:=by
  go_wp2;go_end0;rw[←HE.o];exact⟨rfl,HSt.o,HBel.o⟩):P:=h
theorem z5ca {P:Prop} (h:P:=by rw[←HLen.o];exact hlt):P:=h
theorem o7(K:CC)(c:BT A3)(hok:Cq (Fq K) c)(hwf:Wf 0 c)(D:Nat->Prop)(w:World)(outer cur:List Nm)(bk:List Nat)(wh:Nat)(inn:Bool)(f:C4)(rc:Nat)(va:Option Addr)(vn vc:Nat)(ks:List Value)
  (hst:K.St D w (outer++cur) bk wh inn f rc) (hown:Cr D w 150 1 (.slice va vn vc) ks.length ks) (hrep:Al D w c ks) (hb:ks.length<=500000) :
  Calls Tryz.prog 267 #[.pointer (some ⟨K.cb,0,none⟩),.slice va vn vc] w fun e w'=>e=.returned (.tuple #[])/\K.St D w' (outer++cur) bk wh inn (Ba K.fns c outer cur wh inn f).2 rc/\A2 D w w':=by
 have hvn:vn=ks.length:=(Cf hown.1).1;subst hvn;have HSt0:=A0 hst;have HOwn:=A0 hown;have HRep:=A0 hrep;have hlen:=hrep.len;have HLen:=A0 hlen;clear hst hown hrep hlen;go_enter Tryz.func267,Tryz.ntmps267;go_wp2;go_loopg [8] ks.length (fun k v wr=>∃(i:Nat) (fl:C4),v=.int .i64 i/\i+k=ks.length/\K.St D wr (outer++cur) bk wh inn fl rc/\(Ba K.fns (C2 i c) outer cur wh inn fl).2=(Ba K.fns c outer cur wh inn f).2/\A2 D w wr)
 case atStart=>exact⟨0,f,rfl,by omega,HSt0.o,rfl,A2.refl _ _⟩
 case round=>
  clear HSt0;obtain⟨i,fl,rfl,hik,hst,hse,hbel⟩:=hrel;have HSt:=A0 hst;have HSe:=A0 hse;have HBel:=A0 hbel;clear hst hse hbel;by_cases hlt:i<ks.length
  ·have hr:=HRep.o.Bf HBel.o;obtain⟨x,y,l,cc,r,hd,v,ks',hv,hn,hrk⟩:=Al.at' i c ks hr z5ca;obtain⟨g,rfl,_,hcap,lg,hcell⟩:=Hg (HOwn.o.Bf HBel.o).1 z4sa;have d0:=hcell i v hv;have hE:=A0 (hok.at' i c x y l cc r hd);have Dz:Wf 0 (nd l cc):=by have:=Wf.drop 0 i c hwf;rw[hd]at this;exact this.Qk
   have Ai:=sens_xy' K.fns x y l cc r outer cur wh inn fl;rw[Kr K.fns _ Dz]at Ai;have HNx:Hid ((Ba K.fns (C2 (i+1) c) outer cur wh inn (Ba K.fns (nd l cc) outer cur wh inn fl).2).2=(Ba K.fns c outer cur wh inn f).2):=by
    show _=_;rw[O8 i c x y l cc r hd,←HSe.o,hd,Ai]
   have HC:=A0 (hE.out D wr outer cur bk wh inn fl rc v ks' HSt.o hn hrk);clear hr hd hv hn hrk hcell Dz Ai;go_wp2_with fail
   refine HC.o.mono ?_;rintro e w1 ⟨rfl,Ai,A1⟩;have A8:=A0 Ai;have A4:Hid (A2 D w w1):=HBel.o.trans A1;clear Ai A1;go_wp2;go_roundg (gk-1)
   case measure=>omega
   case rel=>exact⟨i+1,_,rfl,by omega,A8.o,HNx.o,A4.o⟩
  ·have HE:Hid (fl=(Ba K.fns c outer cur wh inn f).2):=by
    exact z0pa
   exact z2qa
end
section
set_option maxRecDepth 100000
open Go.RowKit
open Go.Deep (BT)
theorem Acp{w:World}{fns:List (Nm×Nat)}{fa:Option Addr}{s:Nm}{p:Option Addr}(h:Mp w fns fa fns.length s p)(n:Nat) :
  (p=none/\Ma fns s n=true)\/(∃pb pa m pc,p=some ⟨pb,0,none⟩/\Ma fns s n=(m !=n)/\pb<w.heap.size/\w.cell? ⟨pb,2,none⟩=some (.slice pa m pc)):=by
 rcases h with⟨e,hn⟩|⟨i,hi,pb,pa,pc,_,e,_,es,hn,lp,c2⟩
 ·left;refine⟨e,?_⟩;unfold Ma;rw[Aco fns s (fun j hj=>hn j hj hj)]
 ·right;refine⟨pb,pa,fns[i].2,pc,e,?_,lp,c2⟩;unfold Ma;rw[Acn fns s i hi es hn]
theorem z0ya {P:Prop} (h:P:=by
  generalize w1.drewN nq=w2 at *;have d0:=A7 HBlk2.o 0 _ rfl;have d2:=A7 HBlk2.o 2 _ rfl;have ld:=A6 HBlk2.o;go_wp2_with fail
  refine(O7 Ah.o.st 3 line).mono ?_;rintro e w3 ⟨rfl,C0,Ar⟩;have Be:=A0 (Ah.o.next C0 Ar);have Ay:Hid (A2 D w w3):=Aa.o.trans Ar;have HBlk3:=A0 ((Ar.block b hD).trans HBlk2.o);clear C0 Ar d0 d2 ld;have d2:=A7 HBlk3.o 2 _ rfl;have ld:=A6 HBlk3.o;go_wp2_with fail
  refine(HRun.o _ _ Be.o Ay.o).mono ?_;rintro e w4 ⟨rfl,F6,Bi⟩;have El:=A0 F6;have Cs:Hid (A2 D w w4):=Ay.o.trans Bi;clear F6 Bi;go_wp2;go_end0;exact⟨rfl,El.o,Cs.o⟩):P:=h
theorem z49a {P:Prop} (h:P:=by
  go_wp2;go_end0;exact⟨rfl,El.o,Cs.o⟩):P:=h
theorem A9f(K:CC)(c:BT A3)(hok:Cq (Fq K) c)(hwf:Wf 0 c)(line:Nat)(s:Nm)(D:Nat->Prop)(w:World)(outer cur:List Nm)(bk:List Nat)(wh:Nat)(inn:Bool)(f:C4)(rc:Nat)(b:Nat)(va:Option Addr)(vn vc:Nat)(ks:List Value)
  (hst:K.St D w (outer++cur) bk wh inn f rc) (hD:D b) (hblk:w.heap[b]?=some (.cells #[.int .i64 (line:Nat),.string ⟨s.toArray⟩,.slice va vn vc] 303 (0,0))) (hown:Cr D w 150 1 (.slice va vn vc) ks.length ks) (hrep:Al D w c ks) (hb:ks.length<=500000) :
  Calls Tryz.prog 266 #[.pointer (some ⟨K.cb,0,none⟩),.pointer (some ⟨b,0,none⟩)] w fun e w'=>e=.returned (.tuple #[])/\K.St D w' (outer++cur) bk wh inn (Ba K.fns c outer cur wh inn (Cy (Ma K.fns s (Ak c)) 3 line f)).2 rc/\A2 D w w':=by
 obtain⟨hlo,lcb,hncb⟩:=hst.lo;have hvn:vn=ks.length:=(Cf hown.1).1;have hlen:=hrep.len;rw[←hlen];subst hvn;obtain⟨p,hp⟩:=hst.fr.find s K.fns.length (Nat.le_refl _);have hfl:=hst.fr.len;have HNm:=A0 (fun(n:Nat)=>p7 (hst.drewN n).fr K.fns.length (Nat.le_refl _) s p hp);have hfn:=Acp hp ks.length;have HSt:=A0 hst;have HOwn:=A0 hown;have HRep:=A0 hrep;have HBlk:=A0 hblk;obtain⟨na,nn,nc,ba,bn,bc,la,ln,lc,ls,hv⟩:=hst.st;obtain⟨c0,c1,c2,c3,c4,c5,c6,c7,fz,lb⟩:=Nk hv.cell;rw[hfl]at c0;have d0:=A7 hblk 0 _ rfl;have d1:=A7 hblk 1 _ rfl;have d2:=A7 hblk 2 _ rfl;have ld:=A6 hblk;clear hst hown hrep hblk hp hv hlen;have HRun:=A0 (fun(W:World) (g:C4) (hs:K.St D W (outer++cur) bk wh inn g rc) (hbd:A2 D w W)=>o7 K c hok hwf D W outer cur bk wh inn g rc va ks.length vc ks hs (HOwn.o.Bf hbd) (HRep.o.Bf hbd) hb);rcases hfn with⟨rfl,hcb⟩|⟨pb,pa,m,pc,rfl,hcb,lpb,cp⟩
 ·rw[hcb];clear hcb hfl;go_enter Tryz.func266,Tryz.ntmps266;go_wp2;go_quiet ((go_at_call 263;exact Calls.quiet_of_same (HNm.o _)))
  have A8:=A0 (HSt.o.drewN nq);have A4:=A0 (Dk D w nq);have Ji:Hid ((w.drewN nq).heap[b]?=_):=HBlk.o;clear c0 c1 c2 c3 c4 c5 c6 c7 fz lb d0 d1 d2 ld;generalize w.drewN nq=w1 at *;have d0:=A7 Ji.o 0 _ rfl;have d1:=A7 Ji.o 1 _ rfl;have d2:=A7 Ji.o 2 _ rfl;have ld:=A6 Ji.o;go_wp2;go_quiet (fail)
  have Ah:=A0 (A8.o.drewN nq);have Aa:Hid (A2 D w (w1.drewN nq)):=A4.o.trans (Dk D w1 nq);have HBlk2:Hid ((w1.drewN nq).heap[b]?=_):=Ji.o;clear d0 d1 d2 ld;exact z0ya
 ·rw[hcb];clear hfl;cases hm:(m !=ks.length)
  ·have tm:((m:Int) !=(ks.length:Int))=false:=by simp at hm ⊢;omega
   rw[Pv];clear hcb hm;go_enter Tryz.func266,Tryz.ntmps266;go_wp2;go_quiet ((go_at_call 263;exact Calls.quiet_of_same (HNm.o _)))
   have A8:=A0 (HSt.o.drewN nq);have A4:=A0 (Dk D w nq);have Ji:Hid ((w.drewN nq).heap[b]?=_):=HBlk.o;have HCp:Hid ((w.drewN nq).cell? ⟨pb,2,none⟩=_):=cp;have lpb1:pb<(w.drewN nq).heap.size:=lpb;clear cp lpb;clear c0 c1 c2 c3 c4 c5 c6 c7 fz lb d0 d1 d2 ld;generalize w.drewN nq=w1 at *;have d0:=A7 Ji.o 0 _ rfl;have d1:=A7 Ji.o 1 _ rfl;have d2:=A7 Ji.o 2 _ rfl;have ld:=A6 Ji.o;have cp:=HCp.o;go_wp2;go_quiet (fail)
   have Ah:=A0 (A8.o.drewN nq);have Aa:Hid (A2 D w (w1.drewN nq)):=A4.o.trans (Dk D w1 nq);have HBlk2:Hid ((w1.drewN nq).heap[b]?=_):=Ji.o;clear d0 d1 d2 ld cp lpb1 HCp;generalize w1.drewN nq=w2 at *;have d0:=A7 HBlk2.o 0 _ rfl;have d2:=A7 HBlk2.o 2 _ rfl;have ld:=A6 HBlk2.o;go_wp2_with fail
   refine(HRun.o _ _ Ah.o Aa.o).mono ?_;rintro e w4 ⟨rfl,F6,Bi⟩;have El:=A0 F6;have Cs:Hid (A2 D w w4):=Aa.o.trans Bi;clear F6 Bi;exact z49a
  ·have tm:((m:Int) !=(ks.length:Int))=true:=by simp at hm ⊢;omega
   clear hcb hm;go_enter Tryz.func266,Tryz.ntmps266;go_wp2;go_quiet ((go_at_call 263;exact Calls.quiet_of_same (HNm.o _)))
   have A8:=A0 (HSt.o.drewN nq);have A4:=A0 (Dk D w nq);have Ji:Hid ((w.drewN nq).heap[b]?=_):=HBlk.o;have HCp:Hid ((w.drewN nq).cell? ⟨pb,2,none⟩=_):=cp;have lpb1:pb<(w.drewN nq).heap.size:=lpb;clear cp lpb;clear c0 c1 c2 c3 c4 c5 c6 c7 fz lb d0 d1 d2 ld;generalize w.drewN nq=w1 at *;have d0:=A7 Ji.o 0 _ rfl;have d1:=A7 Ji.o 1 _ rfl;have d2:=A7 Ji.o 2 _ rfl;have ld:=A6 Ji.o;have cp:=HCp.o;go_wp2;go_quiet (fail)
   have Ah:=A0 (A8.o.drewN nq);have Aa:Hid (A2 D w (w1.drewN nq)):=A4.o.trans (Dk D w1 nq);have HBlk2:Hid ((w1.drewN nq).heap[b]?=_):=Ji.o;clear d0 d1 d2 ld cp lpb1 HCp;exact z0ya
def Ko(fns:List (Nm×Nat))(l:A3)(n:Nat)(outer cur:List Nm)(wh:Nat)(inn:Bool)(f:C4):C4:=
 if l.kd=6\/l.kd=28 then Cy (!decide (l.s∈outer++cur)) 3 l.line f
 else if l.kd=7 then Cy (Ma fns l.s n) 3 l.line f
 else if l.kd=25\/l.kd=26 then Cy (wh==0) 4 l.line f
 else if l.kd=24 then Cy (!inn) 4 l.line f
 else f
theorem J5(fns:List (Nm×Nat))(l:A3)(c:BT A3)(h1:l.kd≠31)(h2:l.kd≠32)(h3:l.kd≠21)(outer cur:List Nm)(wh:Nat)(inn:Bool)(f:C4):Ba fns (nd l c) outer cur wh inn f=Ba fns c outer cur wh inn (Ko fns l (Ak c) outer cur wh inn f):=by
 rw[nd,Ba,if_neg h1,if_neg h2,if_neg h3,Ba];rfl
theorem Kp{fns:List (Nm×Nat)}{l:A3}{n:Nat}{outer cur:List Nm}{wh:Nat}{inn:Bool}{f:C4}(h:l.kd≠6/\l.kd≠28/\l.kd≠7/\l.kd≠25/\l.kd≠26/\l.kd≠24):Ko fns l n outer cur wh inn f=f:=by
 unfold Ko;rw[if_neg z4sa,if_neg z4sa,if_neg z4sa,if_neg z4sa]
theorem Al.nil'{D:Nat->Prop}{w:World}{c:BT A3}(h:Al D w c []):c=.nil:=by
 cases c with
 | nil=>rfl
 | node x y l c r=>obtain⟨v,ks,rest,e,_⟩:=h;cases e
theorem Al.cons'{D:Nat->Prop}{w:World}{c:BT A3}{a:Value}{vs:List Value}(h:Al D w c (a::vs)):∃x y l c1 r ks,c=.node x y l c1 r/\Bh D w l a ks/\Al D w c1 ks/\Al D w r vs:=by
 cases c with
 | nil=>rw[Al]at h;cases h
 | node x y l c1 r=>
  obtain⟨v,ks,rest,e,h1,h2,h3⟩:=h;injection e with e1 e2;subst e1 e2;exact⟨x,y,l,c1,r,ks,rfl,h1,h2,h3⟩
theorem Jx(fns:List (Nm×Nat))(x y:Nat)(l:A3)(c:BT A3)(outer cur:List Nm)(wh:Nat)(inn:Bool)(f:C4):Ba fns (.node x y l c .nil) outer cur wh inn f=Ba fns (nd l c) outer cur wh inn f:=by
 rw[sens_xy',Ba]
theorem z4da {P:Prop} (h:P:=by
  go_wp2;go_end0;exact⟨rfl,HSt.o,A2.refl _ _⟩):P:=h
theorem z52a {P:Prop} (h:P:=by rcases hp with h|h|h|h <;> rw[h] <;> decide):P:=h
theorem A9k(K:CC)(l:A3)(c:BT A3)(hk:l.kd=1\/l.kd=2\/l.kd=3\/l.kd=4\/l.kd=5):Fq K l c:=by
 intro D w outer cur bk wh inn f rc v ks hst hn hr;unfold Bh at hn;rw[if_neg z4sa]at hn;obtain⟨b,cs,rfl,hD,hb,hl⟩:=hn;rw[J5 K.fns l c z4sa z4sa z4sa,Kp z4sa];have hks:ks=[]:=by
  unfold Cm at hl;rcases hk with h|h|h|h|h <;> (simp only[h]at hl;exact hl.2)
 subst hks;rw[hr.nil',Ba];have HSt:=A0 hst;have hp:Cc l.kd=220\/Cc l.kd=229\/Cc l.kd=233\/Cc l.kd=237:=by
  rcases hk with h|h|h|h|h <;> (rw[h];decide)
 have hm:∀T e,Tryz.prog.underlying T=some (.pointer e)->(Tryz.prog.info? T).map (·.zero)=some (some (.pointer none))->Cc l.kd≠T->∀(v:Value) (w:World),(Instr.typeAssert (.iface (Cc l.kd) v) 150 T true).run Tryz.prog w=.ok (.tuple #[.pointer none,.bool false]) w:=fun T e h1 h2 h3 v w=>B6 h1 h2 h3 v w;have D4:=hm 238 _ Tryz.underlying238 (by kernel_rfl) z52a;have Dp:=hm 301 _ Tryz.underlying301 (by kernel_rfl) z52a;have Ej:=hm 241 _ Tryz.underlying241 (by kernel_rfl) z52a;have F9:=hm 296 _ Tryz.underlying296 (by kernel_rfl) z52a;have G6:=hm 304 _ Tryz.underlying304 (by kernel_rfl) z52a;have I7:=hm 307 _ Tryz.underlying307 (by kernel_rfl) z52a;have Jg:=hm 310 _ Tryz.underlying310 (by kernel_rfl) z52a;have ta7:=hm 244 _ Tryz.underlying244 (by kernel_rfl) z52a;have ta8:=hm 248 _ Tryz.underlying248 (by kernel_rfl) z52a;clear hm hp hst hl hb hk;generalize Cc l.kd=t at *;go_enter Tryz.func236,Tryz.ntmps236;exact z4da
theorem o6(K:CC)(l:A3)(c:BT A3)(hk:l.kd=6):Fq K l c:=by
 intro D w outer cur bk wh inn f rc v ks hst hn hr;obtain⟨hlo,lcb,hncb⟩:=hst.lo;unfold Bh at hn;rw[if_neg z4sa]at hn;obtain⟨b,cs,rfl,hD,hb,hl⟩:=hn;have e1:Cc l.kd=238:=by rw[hk];rfl
 have e2:D8 l.kd=240:=by rw[hk];rfl
 rw[e1];rw[e2]at hb;rw[J5 K.fns l c z4sa z4sa z4sa];unfold Cm at hl;simp only[hk]at hl;obtain⟨rfl,rfl⟩:=hl;rw[hr.nil',Ba];have hp:Ko K.fns l (Ak BT.nil) outer cur wh inn f=Cy (!decide (l.s∈outer++cur)) 3 l.line f:=by unfold Ko;rw[if_pos (.inl hk)]
 rw[hp];have HSt:=A0 hst;have hsn:=r8 hst.st l.s 0 (Nat.zero_le _);rw[List.drop_zero]at hsn;have HSn:=A0 hsn;have d0:w.cell? ⟨b,0,none⟩=some (.int .i64 (l.line:Nat)):=A7 hb 0 _ rfl;have d1:w.cell? ⟨b,1,none⟩=some (.string ⟨l.s.toArray⟩):=A7 hb 1 _ rfl;have ld:=A6 hb;have D4:=fun(v:Value) (w:World)=>Ds (P:=Tryz.prog) (xT:=150) Tryz.underlying238 v w;clear hst hsn hb hp e1 e2 hk hr;unfold C3;cases hq:decide (l.s∈outer++cur)
 ·rw[hq]at HSn;go_enter Tryz.func236,Tryz.ntmps236;go_wp2_with fail
  refine HSn.o.mono ?_;rintro e w' ⟨rfl,rfl⟩;go_wp2_with fail
  refine(O7 HSt.o.st 3 l.line).mono ?_;rintro e w3 ⟨rfl,C0,Ar⟩;have Be:=A0 (HSt.o.next C0 Ar);have Ay:=A0 Ar;exact z2wa
 ·rw[hq]at HSn;rw[show(!true)=false from rfl,Pv];go_enter Tryz.func236,Tryz.ntmps236;go_wp2_with fail
  refine HSn.o.mono ?_;rintro e w' ⟨rfl,rfl⟩;exact z4da
theorem z10a {P:Prop} (h:P:=by
  unfold C3;go_enter Tryz.func236,Tryz.ntmps236;go_wp2_with fail
  refine HC.o.mono ?_;rintro e w1 ⟨rfl,Ai,A1⟩;have A8:=A0 Ai;have A4:=A0 A1;clear Ai A1;go_wp2;go_end0;exact⟨rfl,A8.o,A4.o⟩):P:=h
theorem A9j(K:CC)(l:A3)(c:BT A3)(hk:l.kd=8)(ih:Cq (Fq K) c):Fq K l c:=by
 intro D w outer cur bk wh inn f rc v ks hst hn hr;obtain⟨hlo,lcb,hncb⟩:=hst.lo;unfold Bh at hn;rw[if_neg z4sa]at hn;obtain⟨b,cs,rfl,hD,hb,hl⟩:=hn;have e1:Cc l.kd=241:=by rw[hk];rfl
 have e2:D8 l.kd=243:=by rw[hk];rfl
 rw[e1];rw[e2]at hb;rw[J5 K.fns l c z4sa z4sa z4sa];unfold Cm at hl;simp only[hk]at hl;obtain⟨a,rfl,rfl⟩:=hl;obtain⟨x1,y1,l1,c1,r1,Cx,rfl,B9,B8,hz⟩:=hr.cons';obtain rfl:=hz.nil';rw[Kp z4sa,Jx];have HC:=A0 (ih.1 D w outer cur bk wh inn f rc a Cx hst B9 B8);have d0:=A7 hb 0 a rfl;have ld:=A6 hb;have D4:=fun(v:Value) (w:World)=>B6 (P:=Tryz.prog) (t:=241) (T:=238) (xT:=150) (z:=.pointer none) Tryz.underlying238 (by kernel_rfl) z4ta v w;have Dp:=fun(v:Value) (w:World)=>B6 (P:=Tryz.prog) (t:=241) (T:=301) (xT:=150) (z:=.pointer none) Tryz.underlying301 (by kernel_rfl) z4ta v w;have Ej:=fun(v:Value) (w:World)=>Ds (P:=Tryz.prog) (xT:=150) Tryz.underlying241 v w;clear hst hb e1 e2 hk hr B9 B8 hz ih;exact z10a
theorem A9l(K:CC)(l:A3)(c:BT A3)(hk:l.kd=10)(ih:Cq (Fq K) c):Fq K l c:=by
 intro D w outer cur bk wh inn f rc v ks hst hn hr;obtain⟨hlo,lcb,hncb⟩:=hst.lo;unfold Bh at hn;rw[if_neg z4sa]at hn;obtain⟨b,cs,rfl,hD,hb,hl⟩:=hn;have e1:Cc l.kd=304:=by rw[hk];rfl
 have e2:D8 l.kd=306:=by rw[hk];rfl
 rw[e1];rw[e2]at hb;rw[J5 K.fns l c z4sa z4sa z4sa];unfold Cm at hl;simp only[hk]at hl;obtain⟨a,rfl,rfl⟩:=hl;obtain⟨x1,y1,l1,c1,r1,Cx,rfl,B9,B8,hz⟩:=hr.cons';obtain rfl:=hz.nil';rw[Kp z4sa,Jx];have HC:=A0 (ih.1 D w outer cur bk wh inn f rc a Cx hst B9 B8);have d0:=A7 hb 1 a rfl;have ld:=A6 hb;have D4:=fun(v:Value) (w:World)=>B6 (P:=Tryz.prog) (t:=304) (T:=238) (xT:=150) (z:=.pointer none) Tryz.underlying238 (by kernel_rfl) z4ta v w;have Dp:=fun(v:Value) (w:World)=>B6 (P:=Tryz.prog) (t:=304) (T:=301) (xT:=150) (z:=.pointer none) Tryz.underlying301 (by kernel_rfl) z4ta v w;have Ej:=fun(v:Value) (w:World)=>B6 (P:=Tryz.prog) (t:=304) (T:=241) (xT:=150) (z:=.pointer none) Tryz.underlying241 (by kernel_rfl) z4ta v w;have F9:=fun(v:Value) (w:World)=>B6 (P:=Tryz.prog) (t:=304) (T:=296) (xT:=150) (z:=.pointer none) Tryz.underlying296 (by kernel_rfl) z4ta v w;have G6:=fun(v:Value) (w:World)=>Ds (P:=Tryz.prog) (xT:=150) Tryz.underlying304 v w;clear hst hb e1 e2 hk hr B9 B8 hz ih;exact z10a
theorem z06a {P:Prop} (h:P:=by
  intro D w outer cur bk wh inn f rc v ks hst hn hr;obtain⟨hlo,lcb,hncb⟩:=hst.lo;unfold Bh at hn;rw[if_neg z4sa]at hn;obtain⟨b,cs,rfl,hD,hb,hl⟩:=hn;have e1:Cc l.kd=244:=by rw[hk];rfl
  have e2:D8 l.kd=246:=by rw[hk];rfl
  rw[e1];rw[e2]at hb;rw[J5 K.fns l c z4sa z4sa z4sa];unfold Cm at hl;simp only[hk]at hl;obtain⟨a,rfl,rfl⟩:=hl;obtain⟨x1,y1,l1,c1,r1,Cx,rfl,B9,B8,hz⟩:=hr.cons';obtain rfl:=hz.nil';rw[Kp z4sa,Jx];have HC:=A0 (ih.1 D w outer cur bk wh inn f rc a Cx hst B9 B8);have d0:=A7 hb 2 a rfl;have ld:=A6 hb;have D4:=fun(v:Value) (w:World)=>B6 (P:=Tryz.prog) (t:=244) (T:=238) (xT:=150) (z:=.pointer none) Tryz.underlying238 (by kernel_rfl) z4ta v w;have Dp:=fun(v:Value) (w:World)=>B6 (P:=Tryz.prog) (t:=244) (T:=301) (xT:=150) (z:=.pointer none) Tryz.underlying301 (by kernel_rfl) z4ta v w;have Ej:=fun(v:Value) (w:World)=>B6 (P:=Tryz.prog) (t:=244) (T:=241) (xT:=150) (z:=.pointer none) Tryz.underlying241 (by kernel_rfl) z4ta v w;have F9:=fun(v:Value) (w:World)=>B6 (P:=Tryz.prog) (t:=244) (T:=296) (xT:=150) (z:=.pointer none) Tryz.underlying296 (by kernel_rfl) z4ta v w;have G6:=fun(v:Value) (w:World)=>B6 (P:=Tryz.prog) (t:=244) (T:=304) (xT:=150) (z:=.pointer none) Tryz.underlying304 (by kernel_rfl) z4ta v w;have I7:=fun(v:Value) (w:World)=>B6 (P:=Tryz.prog) (t:=244) (T:=307) (xT:=150) (z:=.pointer none) Tryz.underlying307 (by kernel_rfl) z4ta v w;have Jg:=fun(v:Value) (w:World)=>B6 (P:=Tryz.prog) (t:=244) (T:=310) (xT:=150) (z:=.pointer none) Tryz.underlying310 (by kernel_rfl) z4ta v w;have ta7:=fun(v:Value) (w:World)=>Ds (P:=Tryz.prog) (xT:=150) Tryz.underlying244 v w;clear hst hb e1 e2 hk hr B9 B8 hz ih;unfold C3;go_enter Tryz.func236,Tryz.ntmps236;go_wp2_with fail
  refine HC.o.mono ?_;rintro e w1 ⟨rfl,Ai,A1⟩;have A8:=A0 Ai;have A4:=A0 A1;clear Ai A1;go_wp2;go_end0;exact⟨rfl,A8.o,A4.o⟩):P:=h
theorem A9o(K:CC)(l:A3)(c:BT A3)(hk:l.kd=13)(ih:Cq (Fq K) c):Fq K l c:=by
 exact z06a
theorem A9n(K:CC)(l:A3)(c:BT A3)(hk:l.kd=14)(ih:Cq (Fq K) c):Fq K l c:=by
 exact z06a
theorem z0xa {P:Prop} (h:P:=by
  have Aa:Hid (A2 D w w2):=A4.o.trans A9;clear Az A9;go_wp2;go_end0;exact⟨rfl,Ah.o,Aa.o⟩):P:=h
theorem z45a {P:Prop} (h:P:=by
  clear hst hb e1 e2 hk hr B9 B8 hz ih hwf hc0 D7 Bm Bw;unfold C3;go_enter Tryz.func236,Tryz.ntmps236;go_wp2_with fail
  refine HC.o.mono ?_;rintro e w1 ⟨rfl,Ai,A1⟩;have A8:=A0 Ai;have A4:=A0 A1;have Bd:=(A1.block b hD).trans HBk.o;have d1:=A7 Bd 2 a2 rfl;have ld1:=A6 Bd;clear Ai A1 d0 ld Bd;go_wp2_with fail
  refine(Ed.o _ _ A8.o A4.o).mono ?_;rintro e w2 ⟨rfl,Az,A9⟩;have Ah:=A0 Az;exact z0xa):P:=h
theorem A9p(K:CC)(l:A3)(c:BT A3)(hk:l.kd=11)(ih:Cq (Fq K) c)(hwf:Wf 0 c):Fq K l c:=by
 intro D w outer cur bk wh inn f rc v ks hst hn hr;obtain⟨hlo,lcb,hncb⟩:=hst.lo;unfold Bh at hn;rw[if_neg z4sa]at hn;obtain⟨b,cs,rfl,hD,hb,hl⟩:=hn;have e1:Cc l.kd=307:=by rw[hk];rfl
 have e2:D8 l.kd=309:=by rw[hk];rfl
 rw[e1];rw[e2]at hb;rw[J5 K.fns l c z4sa z4sa z4sa];unfold Cm at hl;simp only[hk]at hl;obtain⟨a1,a2,rfl,rfl⟩:=hl;obtain⟨x1,y1,l1,c1,r1,Cx,rfl,B9,B8,hz⟩:=hr.cons';obtain⟨x2,y2,l2,c2,r2,Gl,rfl,D7,Bm,Bw⟩:=hz.cons';obtain rfl:=Bw.nil';have hc0:=Kr K.fns _ hwf.Qk outer cur wh inn f;rw[Kp z4sa,sens_xy',hc0,Jx];have HC:=A0 (ih.1 D w outer cur bk wh inn f rc a1 Cx hst B9 B8);have Ed:=A0 (fun W g (hs:K.St D W (outer++cur) bk wh inn g rc) (hbd:A2 D w W)=>ih.2.1 D W outer cur bk wh inn g rc a2 Gl hs (D7.Bf hbd) (Bm.Bf hbd));have d0:=A7 hb 1 a1 rfl;have ld:=A6 hb;have HBk:=A0 hb;have D4:=fun(v:Value) (w:World)=>B6 (P:=Tryz.prog) (t:=307) (T:=238) (xT:=150) (z:=.pointer none) Tryz.underlying238 (by kernel_rfl) z4ta v w;have Dp:=fun(v:Value) (w:World)=>B6 (P:=Tryz.prog) (t:=307) (T:=301) (xT:=150) (z:=.pointer none) Tryz.underlying301 (by kernel_rfl) z4ta v w;have Ej:=fun(v:Value) (w:World)=>B6 (P:=Tryz.prog) (t:=307) (T:=241) (xT:=150) (z:=.pointer none) Tryz.underlying241 (by kernel_rfl) z4ta v w;have F9:=fun(v:Value) (w:World)=>B6 (P:=Tryz.prog) (t:=307) (T:=296) (xT:=150) (z:=.pointer none) Tryz.underlying296 (by kernel_rfl) z4ta v w;have G6:=fun(v:Value) (w:World)=>B6 (P:=Tryz.prog) (t:=307) (T:=304) (xT:=150) (z:=.pointer none) Tryz.underlying304 (by kernel_rfl) z4ta v w;have I7:=fun(v:Value) (w:World)=>Ds (P:=Tryz.prog) (xT:=150) Tryz.underlying307 v w;exact z45a
theorem o5(K:CC)(l:A3)(c:BT A3)(hk:l.kd=12)(ih:Cq (Fq K) c)(hwf:Wf 0 c):Fq K l c:=by
 intro D w outer cur bk wh inn f rc v ks hst hn hr;obtain⟨hlo,lcb,hncb⟩:=hst.lo;unfold Bh at hn;rw[if_neg z4sa]at hn;obtain⟨b,cs,rfl,hD,hb,hl⟩:=hn;have e1:Cc l.kd=310:=by rw[hk];rfl
 have e2:D8 l.kd=312:=by rw[hk];rfl
 rw[e1];rw[e2]at hb;rw[J5 K.fns l c z4sa z4sa z4sa];unfold Cm at hl;simp only[hk]at hl;obtain⟨a1,a2,rfl,rfl⟩:=hl;obtain⟨x1,y1,l1,c1,r1,Cx,rfl,B9,B8,hz⟩:=hr.cons';obtain⟨x2,y2,l2,c2,r2,Gl,rfl,D7,Bm,Bw⟩:=hz.cons';obtain rfl:=Bw.nil';have hc0:=Kr K.fns _ hwf.Qk outer cur wh inn f;rw[Kp z4sa,sens_xy',hc0,Jx];have HC:=A0 (ih.1 D w outer cur bk wh inn f rc a1 Cx hst B9 B8);have Ed:=A0 (fun W g (hs:K.St D W (outer++cur) bk wh inn g rc) (hbd:A2 D w W)=>ih.2.1 D W outer cur bk wh inn g rc a2 Gl hs (D7.Bf hbd) (Bm.Bf hbd));have d0:=A7 hb 1 a1 rfl;have ld:=A6 hb;have HBk:=A0 hb;have D4:=fun(v:Value) (w:World)=>B6 (P:=Tryz.prog) (t:=310) (T:=238) (xT:=150) (z:=.pointer none) Tryz.underlying238 (by kernel_rfl) z4ta v w;have Dp:=fun(v:Value) (w:World)=>B6 (P:=Tryz.prog) (t:=310) (T:=301) (xT:=150) (z:=.pointer none) Tryz.underlying301 (by kernel_rfl) z4ta v w;have Ej:=fun(v:Value) (w:World)=>B6 (P:=Tryz.prog) (t:=310) (T:=241) (xT:=150) (z:=.pointer none) Tryz.underlying241 (by kernel_rfl) z4ta v w;have F9:=fun(v:Value) (w:World)=>B6 (P:=Tryz.prog) (t:=310) (T:=296) (xT:=150) (z:=.pointer none) Tryz.underlying296 (by kernel_rfl) z4ta v w;have G6:=fun(v:Value) (w:World)=>B6 (P:=Tryz.prog) (t:=310) (T:=304) (xT:=150) (z:=.pointer none) Tryz.underlying304 (by kernel_rfl) z4ta v w;have I7:=fun(v:Value) (w:World)=>B6 (P:=Tryz.prog) (t:=310) (T:=307) (xT:=150) (z:=.pointer none) Tryz.underlying307 (by kernel_rfl) z4ta v w;have Jg:=fun(v:Value) (w:World)=>Ds (P:=Tryz.prog) (xT:=150) Tryz.underlying310 v w;exact z45a
end
end Go.Proofs.YtjdlndhfaaolaaaGreatDoor
