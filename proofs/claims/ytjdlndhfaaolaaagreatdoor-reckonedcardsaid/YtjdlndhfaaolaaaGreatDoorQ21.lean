import Derived.Test.YtjdlndhfaaolaaaGreatDoorQ20
set_option maxHeartbeats 20000000
namespace Go.Proofs.YtjdlndhfaaolaaaGreatDoor
section
open Go.RowKit
structure Fm (b : Nat) (row : Option Nat) (w w' : World) : Prop where
 os:w'.os=w.os
 tape:w'.tape=w.tape
 output:w'.output=w.output
 size:w.heap.size<=w'.heap.size
 block:∀k,k<w.heap.size->k≠b->row≠some k->w'.heap[k]?=w.heap[k]?
theorem Fm.refl(b:Nat)(row:Option Nat)(w:World):Fm b row w w:=⟨rfl,rfl,rfl,Nat.le_refl _,fun _ _ _ _=>rfl⟩
structure G0 (T : TypeId) (b o : Nat) (w : World) (cs : Array Value) (t : TypeId) (va : Option Addr) (vn vc : Nat) (xs : List Value) : Prop where
 blk:w.heap[b]?=some (.cells cs t (0,0))
 cell:cs[o]?=some (.slice va vn vc)
 own:w.ownsRow 0 T 1 (.slice va vn vc) xs.length xs
 ne:(Value.slice va vn vc).ownBlock≠some b
def Mu(T:TypeId)(b o:Nat)(w:World)(cs:Array Value)(t:TypeId)(va:Option Addr)(vn vc:Nat)(xs:List Value)(u:Value)(w':World):Prop:=
 ∃g cap,G0 T b o w' (cs.setIfInBounds o (.slice (some ⟨g,0,none⟩) (xs.length+1) cap)) t (some ⟨g,0,none⟩) (xs.length+1) cap (xs++[u])/\((Value.slice va vn vc).ownBlock=some g\/w.heap.size<=g)/\Fm b (Value.slice va vn vc).ownBlock w w'
def Li(T:TypeId)(b o:Nat)(w:World)(cs:Array Value)(t:TypeId)(va:Option Addr)(vn vc:Nat)(xs:List Value)(m:Nat)(w':World):Prop:=
 G0 T b o w' (cs.setIfInBounds o (.slice va m vc)) t va m vc (xs.take m)/\Fm b (Value.slice va vn vc).ownBlock w w'
theorem N9{cs:Array Value}{o:Nat}{v:Value}(h:cs[o]?=some v):cs.setIfInBounds o v=cs:=by
 apply Array.ext_getElem?;intro i;rw[Array.getElem?_setIfInBounds];split
 ·rename_i e;subst e;rw[h];split
  ·rfl
  ·rename_i hn;rw[Array.getElem?_eq_none (by omega)]at h;cases h
 ·rfl
theorem Of(g:Nat)(t:TypeId)(fr:Nat×Nat):∀(vs:List Value) (o:Nat) (cur:Array Value) (w:World),w.heap[g]?=some (.cells cur t fr)->
  ∃cur',(w.setCells g o vs).heap[g]?=some (.cells cur' t fr)/\cur'.size=cur.size/\∀m,m<=o->cur'.toList.take m=cur.toList.take m:=by
 intro vs;induction vs with
 | nil=>intro o cur w h;exact⟨cur,h,rfl,fun _ _=>rfl⟩
 | cons v r ih=>
  intro o cur w h;obtain⟨cur',h1,h2,h3⟩:=ih (o+1) _ _ (heap_set (j:=o) h v);refine⟨cur',h1,by rw[h2];simp,fun m hm=>?_⟩;rw[h3 m (by omega)];simp only[Array.toList_setIfInBounds];rw[List.take_set_of_le (by omega)]
theorem Lm(g:Nat):∀(vs:List Value) (o:Nat) (w:World),(w.setCells g o vs).os=w.os/\(w.setCells g o vs).tape=w.tape/\(w.setCells g o vs).output=w.output/\(w.setCells g o vs).heap.size=w.heap.size/\∀k,k≠g->(w.setCells g o vs).heap[k]?=w.heap[k]?:=by
 intro vs;induction vs with
 | nil=>intro o w;exact⟨rfl,rfl,rfl,rfl,fun _ _=>rfl⟩
 | cons v r ih=>
  intro o w;obtain⟨h1,h2,h3,h4,h5⟩:=ih (o+1) (w.setCell ⟨g,o,none⟩ v);exact⟨h1,h2,h3,h4.trans (by simp[World.setCell]),fun k hk=>(h5 k hk).trans (Below.heap_setCell _ _ _ _ (by exact hk))⟩
theorem Di{w:World}{b o:Nat}{cs:Array Value}{t:TypeId}{v:Value}(h:w.heap[b]?=some (.cells cs t (0,0)))(hc:cs[o]?=some v):w.cell? ⟨b,o,none⟩=some v:=A2 h o v hc
end
section
set_option maxRecDepth 100000
open Go.RowKit
variable {b o:Nat}{w:World}{cs:Array Value}{t:TypeId}{va:Option Addr}{vn vc:Nat}{xs:List Value}
theorem A3f:(Tryz.prog.info? 255).map (fun i=>(i.zero,i.size,i.bytes))=some (some (.pointer none),1,8):=by kernel_rfl
theorem Pp(h:G0 9 b o w cs t va vn vc xs):Calls Tryz.prog 136 #[.pointer (some ⟨b,o,none⟩)] w fun e w'=>e=.returned (.int .i64 (xs.length:Nat))/\w'=w:=by
 have c:=Di h.blk h.cell;have lb:=A4 h.blk;have hv:vn=xs.length:=(C8 h.own).1;subst hv;clear h;go_enter Tryz.func136,Tryz.ntmps136;go_wp2;go_ret;exact⟨rfl,rfl⟩
theorem j6(h:G0 9 b o w cs t va vn vc xs)(i:Nat)(hi:i<xs.length):Calls Tryz.prog 138 #[.pointer (some ⟨b,o,none⟩),.int .i64 (i:Nat)] w fun e w'=>e=.returned xs[i]/\w'=w:=by
 have c:=Di h.blk h.cell;have lb:=A4 h.blk;have hv:vn=xs.length:=(C8 h.own).1;subst hv;obtain⟨g,rfl,_,hcap,lg,fz,hx,cg⟩:=Nj h.own i hi;clear h;generalize xs[i]=x at *;go_enter Tryz.func138,Tryz.ntmps138;go_wp2;go_ret;exact⟨rfl,rfl⟩
theorem Tb(h:G0 9 b o w cs t va vn vc xs)(hn:xs.length<=900000)(u:ByteArray)(ho:o<cs.size):Calls Tryz.prog 137 #[.pointer (some ⟨b,o,none⟩),.string u] w fun e w'=>e=.returned (.tuple #[])/\Mu 9 b o w cs t va vn vc xs (.string u) w':=by
 have c:=Di h.blk h.cell;have lb:=A4 h.blk;have fz:=Bd h.blk;have hv:vn=xs.length:=(C8 h.own).1;subst hv;have hown:=h.own;have HH:=A0 h;have HNe:=A0 h.ne;clear h;go_enter Tryz.func137,Tryz.ntmps137;go_wp2_with (at_builtin;refine K5 w #[.string u] 9 rfl (.tmp 8) (.tmp 10) 37 rfl 0 1 16 (.string ⟨#[]⟩) Tryz.underlying37 Si rfl (by omega) (.slice va xs.length vc) xs.length xs rfl rfl hown rfl (fun v hv=>by simp at hv;rw[hv];rfl) (by omega) (by omega) (Nat.zero_le _) ?_;intro g cap w1 F1 hgrow hat hg;have A1:=(hgrow.block b lb (fun e=>HNe.o e.symm)).trans HH.o.blk;have c1:=Di A1 HH.o.cell;have f1:=Bd A1;have Bt:=A4 A1;have A5:=A0 A1;have HOwn1:=A0 F1;have HGrow:=A0 hgrow;have HAt:=A0 hat;clear A1 F1 hgrow hat)
 go_end0;have hgb:g≠b:=by
  rcases HAt.o with e|e
  ·intro e2;rw[e2]at e;exact HNe.o e
  ·omega
 refine⟨rfl,g,cap,⟨heap_set A5.o _,?_,?_,by simp only[Value.ownBlock,ne_eq,Option.some.injEq];exact hgb⟩,HAt.o.imp id (fun e=>by omega),⟨HGrow.o.os,HGrow.o.tape,HGrow.o.output,by simp[World.setCell];exact HGrow.o.size,fun k hk hkb hkr=>?_⟩⟩
 ·rw[Array.getElem?_setIfInBounds,if_pos rfl,if_pos ho]
 ·rw[List.length_append];exact B3 HOwn1.o (fun k hk _=>Below.heap_setCell _ _ _ _ (by simp only[Value.ownBlock,Option.some.injEq]at hk;show k≠b;omega))
 ·exact(Below.heap_setCell _ _ _ _ (by exact hkb)).trans (HGrow.o.block k hk (fun e=>hkr e.symm))
theorem A0e(h:G0 3 b o w cs t va vn vc xs):Calls Tryz.prog 243 #[.pointer (some ⟨b,o,none⟩)] w fun e w'=>e=.returned (.int .i64 (xs.length:Nat))/\w'=w:=by
 have c:=Di h.blk h.cell;have lb:=A4 h.blk;have hv:vn=xs.length:=(C8 h.own).1;subst hv;clear h;go_enter Tryz.func243,Tryz.ntmps243;go_wp2;go_ret;exact⟨rfl,rfl⟩
theorem Abm(h:G0 3 b o w cs t va vn vc xs)(i:Nat)(hi:i<xs.length):Calls Tryz.prog 271 #[.pointer (some ⟨b,o,none⟩),.int .i64 (i:Nat)] w fun e w'=>e=.returned xs[i]/\w'=w:=by
 have c:=Di h.blk h.cell;have lb:=A4 h.blk;have hv:vn=xs.length:=(C8 h.own).1;subst hv;obtain⟨g,rfl,_,hcap,lg,fz,hx,cg⟩:=Nj h.own i hi;clear h;generalize xs[i]=x at *;go_enter Tryz.func271,Tryz.ntmps271;go_wp2;go_ret;exact⟨rfl,rfl⟩
theorem x7(h:G0 3 b o w cs t va vn vc xs)(hn:xs.length<=1000000)(n:Nat)(hi:n<xs.length)(h0:xs.length=n+1):Calls Tryz.prog 241 #[.pointer (some ⟨b,o,none⟩)] w fun e w'=>e=.returned (xs[n]'hi)/\w'=w:=by
 have HL:=A0 (A0e h);have HA:=A0 (Abm h n hi);rw[h0]at HL;have Dh:n<=1000000:=by omega
 generalize hx:xs[n]'hi=x at HA ⊢;clear h h0 hx;go_enter Tryz.func241,Tryz.ntmps241;go_wp2_with fail
 refine HL.o.mono ?_;rintro e w' ⟨rfl,rfl⟩;go_wp2_with fail
 refine HA.o.mono ?_;rintro e w' ⟨rfl,rfl⟩;go_wp2;go_ret;exact⟨rfl,rfl⟩
theorem Abj(h:G0 3 b o w cs t va vn vc xs)(hn:xs.length<=900000)(u:Int)(ho:o<cs.size):Calls Tryz.prog 191 #[.pointer (some ⟨b,o,none⟩),.int .i64 u] w fun e w'=>e=.returned (.tuple #[])/\Mu 3 b o w cs t va vn vc xs (.int .i64 u) w':=by
 have c:=Di h.blk h.cell;have lb:=A4 h.blk;have fz:=Bd h.blk;have hv:vn=xs.length:=(C8 h.own).1;subst hv;have hown:=h.own;have HH:=A0 h;have HNe:=A0 h.ne;clear h;go_enter Tryz.func191,Tryz.ntmps191;go_wp2_with (at_builtin;refine K5 w #[.int .i64 u] 3 rfl (.tmp 8) (.tmp 10) 34 rfl 0 1 8 (.int .i64 0) Tryz.underlying34 Vm rfl (by omega) (.slice va xs.length vc) xs.length xs rfl rfl hown rfl (fun v hv=>by simp at hv;rw[hv];rfl) (by omega) (by omega) (Nat.zero_le _) ?_;intro g cap w1 F1 hgrow hat hg;have A1:=(hgrow.block b lb (fun e=>HNe.o e.symm)).trans HH.o.blk;have c1:=Di A1 HH.o.cell;have f1:=Bd A1;have Bt:=A4 A1;have A5:=A0 A1;have HOwn1:=A0 F1;have HGrow:=A0 hgrow;have HAt:=A0 hat;clear A1 F1 hgrow hat)
 go_end0;have hgb:g≠b:=by
  rcases HAt.o with e|e
  ·intro e2;rw[e2]at e;exact HNe.o e
  ·omega
 refine⟨rfl,g,cap,⟨heap_set A5.o _,?_,?_,by simp only[Value.ownBlock,ne_eq,Option.some.injEq];exact hgb⟩,HAt.o.imp id (fun e=>by omega),⟨HGrow.o.os,HGrow.o.tape,HGrow.o.output,by simp[World.setCell];exact HGrow.o.size,fun k hk hkb hkr=>?_⟩⟩
 ·rw[Array.getElem?_setIfInBounds,if_pos rfl,if_pos ho]
 ·rw[List.length_append];exact B3 HOwn1.o (fun k hk _=>Below.heap_setCell _ _ _ _ (by simp only[Value.ownBlock,Option.some.injEq]at hk;show k≠b;omega))
 ·exact(Below.heap_setCell _ _ _ _ (by exact hkb)).trans (HGrow.o.block k hk (fun e=>hkr e.symm))
theorem Wa(h:G0 255 b o w cs t va vn vc xs):Calls Tryz.prog 270 #[.pointer (some ⟨b,o,none⟩)] w fun e w'=>e=.returned (.int .i64 (xs.length:Nat))/\w'=w:=by
 have c:=Di h.blk h.cell;have lb:=A4 h.blk;have hv:vn=xs.length:=(C8 h.own).1;subst hv;clear h;go_enter Tryz.func270,Tryz.ntmps270;go_wp2;go_ret;exact⟨rfl,rfl⟩
theorem A7e(h:G0 255 b o w cs t va vn vc xs)(i:Nat)(hi:i<xs.length):Calls Tryz.prog 286 #[.pointer (some ⟨b,o,none⟩),.int .i64 (i:Nat)] w fun e w'=>e=.returned xs[i]/\w'=w:=by
 have c:=Di h.blk h.cell;have lb:=A4 h.blk;have hv:vn=xs.length:=(C8 h.own).1;subst hv;obtain⟨g,rfl,_,hcap,lg,fz,hx,cg⟩:=Nj h.own i hi;clear h;generalize xs[i]=x at *;go_enter Tryz.func286,Tryz.ntmps286;go_wp2;go_ret;exact⟨rfl,rfl⟩
theorem Acp(h:G0 255 b o w cs t va vn vc xs)(hn:xs.length<=1000000)(n:Nat)(hi:n<xs.length)(h0:xs.length=n+1):Calls Tryz.prog 268 #[.pointer (some ⟨b,o,none⟩)] w fun e w'=>e=.returned (xs[n]'hi)/\w'=w:=by
 have HL:=A0 (Wa h);have HA:=A0 (A7e h n hi);rw[h0]at HL;have Dh:n<=1000000:=by omega
 generalize hx:xs[n]'hi=x at HA ⊢;clear h h0 hx;go_enter Tryz.func268,Tryz.ntmps268;go_wp2_with fail
 refine HL.o.mono ?_;rintro e w' ⟨rfl,rfl⟩;go_wp2_with fail
 refine HA.o.mono ?_;rintro e w' ⟨rfl,rfl⟩;go_wp2;go_ret;exact⟨rfl,rfl⟩
theorem A6q(h:G0 255 b o w cs t va vn vc xs)(hn:xs.length<=900000)(u:Option Addr)(ho:o<cs.size):Calls Tryz.prog 237 #[.pointer (some ⟨b,o,none⟩),.pointer u] w fun e w'=>e=.returned (.tuple #[])/\Mu 255 b o w cs t va vn vc xs (.pointer u) w':=by
 have c:=Di h.blk h.cell;have lb:=A4 h.blk;have fz:=Bd h.blk;have hv:vn=xs.length:=(C8 h.own).1;subst hv;have hown:=h.own;have HH:=A0 h;have HNe:=A0 h.ne;clear h;go_enter Tryz.func237,Tryz.ntmps237;go_wp2_with (at_builtin;refine K5 w #[.pointer u] 255 rfl (.tmp 8) (.tmp 10) 209 rfl 0 1 8 (.pointer none) Tryz.underlying209 A3f rfl (by omega) (.slice va xs.length vc) xs.length xs rfl rfl hown rfl (fun v hv=>by simp at hv;rw[hv];rfl) (by omega) (by omega) (Nat.zero_le _) ?_;intro g cap w1 F1 hgrow hat hg;have A1:=(hgrow.block b lb (fun e=>HNe.o e.symm)).trans HH.o.blk;have c1:=Di A1 HH.o.cell;have f1:=Bd A1;have Bt:=A4 A1;have A5:=A0 A1;have HOwn1:=A0 F1;have HGrow:=A0 hgrow;have HAt:=A0 hat;clear A1 F1 hgrow hat)
 go_end0;have hgb:g≠b:=by
  rcases HAt.o with e|e
  ·intro e2;rw[e2]at e;exact HNe.o e
  ·omega
 refine⟨rfl,g,cap,⟨heap_set A5.o _,?_,?_,by simp only[Value.ownBlock,ne_eq,Option.some.injEq];exact hgb⟩,HAt.o.imp id (fun e=>by omega),⟨HGrow.o.os,HGrow.o.tape,HGrow.o.output,by simp[World.setCell];exact HGrow.o.size,fun k hk hkb hkr=>?_⟩⟩
 ·rw[Array.getElem?_setIfInBounds,if_pos rfl,if_pos ho]
 ·rw[List.length_append];exact B3 HOwn1.o (fun k hk _=>Below.heap_setCell _ _ _ _ (by simp only[Value.ownBlock,Option.some.injEq]at hk;show k≠b;omega))
 ·exact(Below.heap_setCell _ _ _ _ (by exact hkb)).trans (HGrow.o.block k hk (fun e=>hkr e.symm))
theorem Uy(h:G0 9 b o w cs t va vn vc xs)(m:Nat)(hm:m<=xs.length)(ho:o<cs.size):Calls Tryz.prog 83 #[.pointer (some ⟨b,o,none⟩),.int .i64 (m:Nat)] w fun e w'=>e=.returned (.tuple #[])/\Li 9 b o w cs t va vn vc xs m w':=by
 have c:=Di h.blk h.cell;have lb:=A4 h.blk;have fz:=Bd h.blk;have hv:vn=xs.length:=(C8 h.own).1;subst hv;have HH:=A0 h;have HNe:=A0 h.ne;by_cases he:m=xs.length
 ·subst he;clear h;go_enter Tryz.func83,Tryz.ntmps83;go_wp2;refine bodyPost_ret (v:=.tuple #[]) (by simp[results,Tryz.results83,go_sem]) rfl ⟨rfl,?_,Fm.refl _ _ _⟩;rw[N9 HH.o.cell,List.take_length];exact HH.o
 ·obtain⟨g,rfl,Hh,hcap,lg,fg,hx,cg⟩:=Nj h.own m (by omega);obtain⟨hl,⟨h2,h3⟩|⟨g',cap,cur,hv,_,hg,hcap',hmx,hsz,ht⟩⟩:=h.own
  ·cases h2
  ·injection hv with e1 e2 e3;injection e1 with e1;injection e1 with e1;subst e1 e3;have hgb:g≠b:=fun e=>h.ne (by rw[←e];rfl);have hcs:∀j,j<xs.length-m->(w.cell? ⟨g,m+j,none⟩).isSome=true:=by
    intro j hj;rw[cell_of_row w g (m+j) cur _ _ hg,Array.getElem?_eq_getElem (by omega)];rfl
   have hcl:∀ty,(Builtin.clear_ #[37] ty #[.slice (some ⟨g,m,none⟩) (xs.length-m) (vc-m)]).run Tryz.prog w=.ok (.tuple #[]) (w.setCells g m (List.replicate (xs.length-m) (.string ⟨#[]⟩))):=
    fun ty=>Lib.run_clear_slice w 37 9 ty (.string ⟨#[]⟩) Tryz.underlying37 Tryz.zeroValue9 rfl rfl g m (xs.length-m) (vc-m) (by omega) hcs (fun j hj=>fg _)
   obtain⟨cur',k1,k2,k3⟩:=Of g 9 (0,0) (List.replicate (xs.length-m) (.string ⟨#[]⟩)) m cur w hg;obtain⟨f1,f2,f3,f4,f5⟩:=Lm g (List.replicate (xs.length-m) (.string ⟨#[]⟩)) m w;have A1:=(f5 b (fun e=>hgb e.symm)).trans h.blk;have Ht:=A0 k1;have HK3:=A0 (k3 m (Nat.le_refl _));have HF:=A0 (And.intro f1 (And.intro f2 (And.intro f3 (And.intro f4 f5))));have HT:=A0 ht;have HSz:=A0 (k2.trans hsz);clear h hcs hg ht k1 k2 k3 f1 f2 f3 f5 hl hsz;have c1:=Di A1 HH.o.cell;have g1:=Bd A1;have Bt:=A4 A1;have A5:=A0 A1;clear A1 f4;generalize w.setCells g m (List.replicate (xs.length-m) (.string ⟨#[]⟩))=w1 at *;go_enter Tryz.func83,Tryz.ntmps83;go_wp2;go_end0;obtain⟨p1,p2,p3,p4,p5⟩:=HF.o;have hset:∀k,k≠b->(w1.setCell ⟨b,o,none⟩ (.slice (some ⟨g,0,none⟩) m vc)).heap[k]?=w1.heap[k]?:=fun k hk=>Below.heap_setCell _ _ _ _ (by exact hk);refine⟨rfl,⟨heap_set A5.o _,?_,⟨by simp,.inr ⟨g,vc,cur',?_,Nat.zero_le _,(hset g hgb).trans Ht.o,?_,hmx,HSz.o,?_⟩⟩,?_⟩,⟨p1,p2,p3,by simp[World.setCell];omega,fun k hk hkb hkr=>?_⟩⟩
   ·rw[Array.getElem?_setIfInBounds,if_pos rfl,if_pos ho]
   ·rw[List.length_take,Nat.min_eq_left hm]
   ·rw[List.length_take,Nat.min_eq_left hm];omega
   ·rw[List.length_take,Nat.min_eq_left hm,Nat.mul_one,HK3.o,←HT.o,List.take_take,Nat.mul_one,Nat.min_eq_left hm]
   ·simp only[Value.ownBlock,ne_eq,Option.some.injEq];exact hgb
   ·exact(hset k hkb).trans (p5 k (fun e=>hkr (by rw[e];rfl)))
theorem An3(h:G0 3 b o w cs t va vn vc xs)(m:Nat)(hm:m<=xs.length)(ho:o<cs.size):Calls Tryz.prog 242 #[.pointer (some ⟨b,o,none⟩),.int .i64 (m:Nat)] w fun e w'=>e=.returned (.tuple #[])/\Li 3 b o w cs t va vn vc xs m w':=by
 have c:=Di h.blk h.cell;have lb:=A4 h.blk;have fz:=Bd h.blk;have hv:vn=xs.length:=(C8 h.own).1;subst hv;have HH:=A0 h;have HNe:=A0 h.ne;by_cases he:m=xs.length
 ·subst he;clear h;go_enter Tryz.func242,Tryz.ntmps242;go_wp2;refine bodyPost_ret (v:=.tuple #[]) (by simp[results,Tryz.results242,go_sem]) rfl ⟨rfl,?_,Fm.refl _ _ _⟩;rw[N9 HH.o.cell,List.take_length];exact HH.o
 ·obtain⟨g,rfl,Hh,hcap,lg,fg,hx,cg⟩:=Nj h.own m (by omega);obtain⟨hl,⟨h2,h3⟩|⟨g',cap,cur,hv,_,hg,hcap',hmx,hsz,ht⟩⟩:=h.own
  ·cases h2
  ·injection hv with e1 e2 e3;injection e1 with e1;injection e1 with e1;subst e1 e3;have hgb:g≠b:=fun e=>h.ne (by rw[←e];rfl);have hcs:∀j,j<xs.length-m->(w.cell? ⟨g,m+j,none⟩).isSome=true:=by
    intro j hj;rw[cell_of_row w g (m+j) cur _ _ hg,Array.getElem?_eq_getElem (by omega)];rfl
   have hcl:∀ty,(Builtin.clear_ #[34] ty #[.slice (some ⟨g,m,none⟩) (xs.length-m) (vc-m)]).run Tryz.prog w=.ok (.tuple #[]) (w.setCells g m (List.replicate (xs.length-m) (.int .i64 0))):=
    fun ty=>Lib.run_clear_slice w 34 3 ty (.int .i64 0) Tryz.underlying34 Tryz.zeroValue3 rfl rfl g m (xs.length-m) (vc-m) (by omega) hcs (fun j hj=>fg _)
   obtain⟨cur',k1,k2,k3⟩:=Of g 3 (0,0) (List.replicate (xs.length-m) (.int .i64 0)) m cur w hg;obtain⟨f1,f2,f3,f4,f5⟩:=Lm g (List.replicate (xs.length-m) (.int .i64 0)) m w;have A1:=(f5 b (fun e=>hgb e.symm)).trans h.blk;have Ht:=A0 k1;have HK3:=A0 (k3 m (Nat.le_refl _));have HF:=A0 (And.intro f1 (And.intro f2 (And.intro f3 (And.intro f4 f5))));have HT:=A0 ht;have HSz:=A0 (k2.trans hsz);clear h hcs hg ht k1 k2 k3 f1 f2 f3 f5 hl hsz;have c1:=Di A1 HH.o.cell;have g1:=Bd A1;have Bt:=A4 A1;have A5:=A0 A1;clear A1 f4;generalize w.setCells g m (List.replicate (xs.length-m) (.int .i64 0))=w1 at *;go_enter Tryz.func242,Tryz.ntmps242;go_wp2;go_end0;obtain⟨p1,p2,p3,p4,p5⟩:=HF.o;have hset:∀k,k≠b->(w1.setCell ⟨b,o,none⟩ (.slice (some ⟨g,0,none⟩) m vc)).heap[k]?=w1.heap[k]?:=fun k hk=>Below.heap_setCell _ _ _ _ (by exact hk);refine⟨rfl,⟨heap_set A5.o _,?_,⟨by simp,.inr ⟨g,vc,cur',?_,Nat.zero_le _,(hset g hgb).trans Ht.o,?_,hmx,HSz.o,?_⟩⟩,?_⟩,⟨p1,p2,p3,by simp[World.setCell];omega,fun k hk hkb hkr=>?_⟩⟩
   ·rw[Array.getElem?_setIfInBounds,if_pos rfl,if_pos ho]
   ·rw[List.length_take,Nat.min_eq_left hm]
   ·rw[List.length_take,Nat.min_eq_left hm];omega
   ·rw[List.length_take,Nat.min_eq_left hm,Nat.mul_one,HK3.o,←HT.o,List.take_take,Nat.mul_one,Nat.min_eq_left hm]
   ·simp only[Value.ownBlock,ne_eq,Option.some.injEq];exact hgb
   ·exact(hset k hkb).trans (p5 k (fun e=>hkr (by rw[e];rfl)))
theorem Ain(h:G0 3 b o w cs t va vn vc xs)(hn:xs.length<=1000000)(n:Nat)(hi:n<xs.length)(h0:xs.length=n+1)(ho:o<cs.size):Calls Tryz.prog 193 #[.pointer (some ⟨b,o,none⟩)] w fun e w'=>e=.returned (xs[n]'hi)/\Li 3 b o w cs t va vn vc xs n w':=by
 have HT:=A0 (x7 h hn n hi h0);have HL:=A0 (A0e h);have HC:=A0 (An3 h n (by omega) ho);rw[h0]at HL;have Dh:n<=1000000:=by omega
 generalize hx:xs[n]'hi=x at HT ⊢;clear h h0 hx;go_enter Tryz.func193,Tryz.ntmps193;go_wp2_with fail
 refine HT.o.mono ?_;rintro e w' ⟨rfl,rfl⟩;go_wp2_with fail
 refine HL.o.mono ?_;rintro e w' ⟨rfl,rfl⟩;go_wp2_with fail
 refine HC.o.mono ?_;rintro e w1 ⟨rfl,hc⟩;have I8:=A0 hc;clear hc;go_wp2;go_ret;exact⟨rfl,I8.o⟩
theorem A6o(h:G0 255 b o w cs t va vn vc xs)(m:Nat)(hm:m<=xs.length)(ho:o<cs.size):Calls Tryz.prog 269 #[.pointer (some ⟨b,o,none⟩),.int .i64 (m:Nat)] w fun e w'=>e=.returned (.tuple #[])/\Li 255 b o w cs t va vn vc xs m w':=by
 have c:=Di h.blk h.cell;have lb:=A4 h.blk;have fz:=Bd h.blk;have hv:vn=xs.length:=(C8 h.own).1;subst hv;have HH:=A0 h;have HNe:=A0 h.ne;by_cases he:m=xs.length
 ·subst he;clear h;go_enter Tryz.func269,Tryz.ntmps269;go_wp2;refine bodyPost_ret (v:=.tuple #[]) (by simp[results,Tryz.results269,go_sem]) rfl ⟨rfl,?_,Fm.refl _ _ _⟩;rw[N9 HH.o.cell,List.take_length];exact HH.o
 ·obtain⟨g,rfl,Hh,hcap,lg,fg,hx,cg⟩:=Nj h.own m (by omega);obtain⟨hl,⟨h2,h3⟩|⟨g',cap,cur,hv,_,hg,hcap',hmx,hsz,ht⟩⟩:=h.own
  ·cases h2
  ·injection hv with e1 e2 e3;injection e1 with e1;injection e1 with e1;subst e1 e3;have hgb:g≠b:=fun e=>h.ne (by rw[←e];rfl);have hcs:∀j,j<xs.length-m->(w.cell? ⟨g,m+j,none⟩).isSome=true:=by
    intro j hj;rw[cell_of_row w g (m+j) cur _ _ hg,Array.getElem?_eq_getElem (by omega)];rfl
   have hcl:∀ty,(Builtin.clear_ #[209] ty #[.slice (some ⟨g,m,none⟩) (xs.length-m) (vc-m)]).run Tryz.prog w=.ok (.tuple #[]) (w.setCells g m (List.replicate (xs.length-m) (.pointer none))):=
    fun ty=>Lib.run_clear_slice w 209 255 ty (.pointer none) Tryz.underlying209 Tryz.zeroValue255 rfl rfl g m (xs.length-m) (vc-m) (by omega) hcs (fun j hj=>fg _)
   obtain⟨cur',k1,k2,k3⟩:=Of g 255 (0,0) (List.replicate (xs.length-m) (.pointer none)) m cur w hg;obtain⟨f1,f2,f3,f4,f5⟩:=Lm g (List.replicate (xs.length-m) (.pointer none)) m w;have A1:=(f5 b (fun e=>hgb e.symm)).trans h.blk;have Ht:=A0 k1;have HK3:=A0 (k3 m (Nat.le_refl _));have HF:=A0 (And.intro f1 (And.intro f2 (And.intro f3 (And.intro f4 f5))));have HT:=A0 ht;have HSz:=A0 (k2.trans hsz);clear h hcs hg ht k1 k2 k3 f1 f2 f3 f5 hl hsz;have c1:=Di A1 HH.o.cell;have g1:=Bd A1;have Bt:=A4 A1;have A5:=A0 A1;clear A1 f4;generalize w.setCells g m (List.replicate (xs.length-m) (.pointer none))=w1 at *;go_enter Tryz.func269,Tryz.ntmps269;go_wp2;go_end0;obtain⟨p1,p2,p3,p4,p5⟩:=HF.o;have hset:∀k,k≠b->(w1.setCell ⟨b,o,none⟩ (.slice (some ⟨g,0,none⟩) m vc)).heap[k]?=w1.heap[k]?:=fun k hk=>Below.heap_setCell _ _ _ _ (by exact hk);refine⟨rfl,⟨heap_set A5.o _,?_,⟨by simp,.inr ⟨g,vc,cur',?_,Nat.zero_le _,(hset g hgb).trans Ht.o,?_,hmx,HSz.o,?_⟩⟩,?_⟩,⟨p1,p2,p3,by simp[World.setCell];omega,fun k hk hkb hkr=>?_⟩⟩
   ·rw[Array.getElem?_setIfInBounds,if_pos rfl,if_pos ho]
   ·rw[List.length_take,Nat.min_eq_left hm]
   ·rw[List.length_take,Nat.min_eq_left hm];omega
   ·rw[List.length_take,Nat.min_eq_left hm,Nat.mul_one,HK3.o,←HT.o,List.take_take,Nat.mul_one,Nat.min_eq_left hm]
   ·simp only[Value.ownBlock,ne_eq,Option.some.injEq];exact hgb
   ·exact(hset k hkb).trans (p5 k (fun e=>hkr (by rw[e];rfl)))
theorem Aaz(h:G0 255 b o w cs t va vn vc xs)(hn:xs.length<=1000000)(n:Nat)(hi:n<xs.length)(h0:xs.length=n+1)(ho:o<cs.size):Calls Tryz.prog 238 #[.pointer (some ⟨b,o,none⟩)] w fun e w'=>e=.returned (xs[n]'hi)/\Li 255 b o w cs t va vn vc xs n w':=by
 have HT:=A0 (Acp h hn n hi h0);have HL:=A0 (Wa h);have HC:=A0 (A6o h n (by omega) ho);rw[h0]at HL;have Dh:n<=1000000:=by omega
 generalize hx:xs[n]'hi=x at HT ⊢;clear h h0 hx;go_enter Tryz.func238,Tryz.ntmps238;go_wp2_with fail
 refine HT.o.mono ?_;rintro e w' ⟨rfl,rfl⟩;go_wp2_with fail
 refine HL.o.mono ?_;rintro e w' ⟨rfl,rfl⟩;go_wp2_with fail
 refine HC.o.mono ?_;rintro e w1 ⟨rfl,hc⟩;have I8:=A0 hc;clear hc;go_wp2;go_ret;exact⟨rfl,I8.o⟩
end
section
open Go.RowKit
open Go.Deep (BT)
def Da(ns:List Nm):List Value:=ns.map N1
def D1(bk:List Nat):List Value:=bk.map Oj
structure Hl (D : Nat -> Prop) (cb te : Nat) (w : World) (ns : List Nm) (bk : List Nat) (wh : Nat) (inn : Bool) (f : Cn) (rc : Nat) (fa : Option Addr) (fn fc : Nat) (na : Option Addr) (nn nc : Nat) (ba : Option Addr) (bn bc : Nat) (la : Option Addr) (ln lc : Nat) (ls : List Value) : Prop where
 cell:w.heap[cb]?=some (.cells #[.slice fa fn fc,.int .i64 (rc:Nat),.slice na nn nc,.slice ba bn bc,.slice la ln lc,.bool inn,.int .i64 (f.1:Nat),.int .i64 (f.2:Nat)] te (0,0))
 names:w.ownsRow 0 9 1 (.slice na nn nc) (Da ns).length (Da ns)
 blocks:w.ownsRow 0 3 1 (.slice ba bn bc) (D1 bk).length (D1 bk)
 loops:w.ownsRow 0 255 1 (.slice la ln lc) ls.length ls
 lsl:ls.length=wh
 Gp:¬D cb
 Cu:∀g,(Value.slice na nn nc).ownBlock=some g->¬D g/\g≠cb/\(Value.slice ba bn bc).ownBlock≠some g/\(Value.slice la ln lc).ownBlock≠some g
 G5:∀g,(Value.slice ba bn bc).ownBlock=some g->¬D g/\g≠cb/\(Value.slice la ln lc).ownBlock≠some g
 Iz:∀g,(Value.slice la ln lc).ownBlock=some g->¬D g/\g≠cb
 Bq:ns.length<=800000/\bk.length<=800000/\wh<=800000/\rc<=800000
 lo:∀g,D g->g<w.heap.size
def Ew(D:Nat->Prop)(cb te:Nat)(w:World)(ns:List Nm)(bk:List Nat)(wh:Nat)(inn:Bool)(f:Cn)(rc:Nat)(fa:Option Addr)(fn fc:Nat):Prop:=
 ∃na nn nc ba bn bc la ln lc ls,Hl D cb te w ns bk wh inn f rc fa fn fc na nn nc ba bn bc la ln lc ls
variable {D:Nat->Prop} {cb te:Nat} {w w':World} {ns:List Nm} {bk:List Nat} {wh:Nat} {inn:Bool} {f:Cn} {rc:Nat} {fa:Option Addr} {fn fc:Nat} {na:Option Addr} {nn nc:Nat} {ba:Option Addr} {bn bc:Nat} {la:Option Addr} {ln lc:Nat} {ls:List Value}
theorem Hl.keep(h:Hl D cb te w ns bk wh inn f rc fa fn fc na nn nc ba bn bc la ln lc ls)(hk:∀g,g<w.heap.size->w'.heap[g]?=w.heap[g]?)(hs:w.heap.size<=w'.heap.size):Hl D cb te w' ns bk wh inn f rc fa fn fc na nn nc ba bn bc la ln lc ls:=
 ⟨(hk cb (A4 h.cell)).trans h.cell,B3 h.names (fun g _ hl=>hk g hl),B3 h.blocks (fun g _ hl=>hk g hl),B3 h.loops (fun g _ hl=>hk g hl),h.lsl,h.Gp,h.Cu,h.G5,h.Iz,h.Bq,fun g hg=>Nat.lt_of_lt_of_le (h.lo g hg) hs⟩
theorem Ew.keep(h:Ew D cb te w ns bk wh inn f rc fa fn fc)(hk:∀g,g<w.heap.size->w'.heap[g]?=w.heap[g]?)(hs:w.heap.size<=w'.heap.size):Ew D cb te w' ns bk wh inn f rc fa fn fc:=by
 obtain⟨na,nn,nc,ba,bn,bc,la,ln,lc,ls,h⟩:=h;exact⟨na,nn,nc,ba,bn,bc,la,ln,lc,ls,h.keep hk hs⟩
theorem Hl.put(h:Hl D cb te w ns bk wh inn f rc fa fn fc na nn nc ba bn bc la ln lc ls)(inn':Bool)(f':Cn)(rc':Nat)(hrc:rc'<=800000)
  (hc:w'.heap[cb]?=some (.cells #[.slice fa fn fc,.int .i64 (rc':Nat),.slice na nn nc,.slice ba bn bc,.slice la ln lc,.bool inn',.int .i64 (f'.1:Nat),.int .i64 (f'.2:Nat)] te (0,0))) (hk:∀g,g<w.heap.size->g≠cb->w'.heap[g]?=w.heap[g]?) (hs:w.heap.size<=w'.heap.size):Hl D cb te w' ns bk wh inn' f' rc' fa fn fc na nn nc ba bn bc la ln lc ls:=
 ⟨hc,B3 h.names (fun g hg hl=>hk g hl (h.Cu g hg).2.1),B3 h.blocks (fun g hg hl=>hk g hl (h.G5 g hg).2.1),B3 h.loops (fun g hg hl=>hk g hl (h.Iz g hg).2),h.lsl,h.Gp,h.Cu,h.G5,h.Iz,⟨h.Bq.1,h.Bq.2.1,h.Bq.2.2.1,hrc⟩,fun g hg=>Nat.lt_of_lt_of_le (h.lo g hg) hs⟩
theorem Hl.L8(h:Hl D cb te w ns bk wh inn f rc fa fn fc na nn nc ba bn bc la ln lc ls):G0 9 cb 2 w #[.slice fa fn fc,.int .i64 (rc:Nat),.slice na nn nc,.slice ba bn bc,.slice la ln lc,.bool inn,.int .i64 (f.1:Nat),.int .i64 (f.2:Nat)] te na nn nc (Da ns):=
 ⟨h.cell,rfl,h.names,fun e=>(h.Cu _ e).2.1 rfl⟩
theorem Hl.Ol(h:Hl D cb te w ns bk wh inn f rc fa fn fc na nn nc ba bn bc la ln lc ls):G0 3 cb 3 w #[.slice fa fn fc,.int .i64 (rc:Nat),.slice na nn nc,.slice ba bn bc,.slice la ln lc,.bool inn,.int .i64 (f.1:Nat),.int .i64 (f.2:Nat)] te ba bn bc (D1 bk):=
 ⟨h.cell,rfl,h.blocks,fun e=>(h.G5 _ e).2.1 rfl⟩
theorem Hl.W4(h:Hl D cb te w ns bk wh inn f rc fa fn fc na nn nc ba bn bc la ln lc ls):G0 255 cb 4 w #[.slice fa fn fc,.int .i64 (rc:Nat),.slice na nn nc,.slice ba bn bc,.slice la ln lc,.bool inn,.int .i64 (f.1:Nat),.int .i64 (f.2:Nat)] te la ln lc ls:=
 ⟨h.cell,rfl,h.loops,fun e=>(h.Iz _ e).2 rfl⟩
theorem Fm.Bn{row:Option Nat}(h:Fm cb row w w')(h1:¬D cb)(h2:∀g,row=some g->¬D g)(hlo:∀g,D g->g<w.heap.size):A3 D w w':=
 ⟨h.os,h.tape,h.output,h.size,fun k hk=>h.block k (hlo k hk) (fun e=>h1 (by rw[←e];exact hk)) (fun e=>h2 k e hk)⟩
theorem Hl.V0(h:Hl D cb te w ns bk wh inn f rc fa fn fc na nn nc ba bn bc la ln lc ls)(s:Nm)(hn:ns.length+1<=800000)
  (hp:Mu 9 cb 2 w #[.slice fa fn fc,.int .i64 (rc:Nat),.slice na nn nc,.slice ba bn bc,.slice la ln lc,.bool inn,.int .i64 (f.1:Nat),.int .i64 (f.2:Nat)] te na nn nc (Da ns) (N1 s) w'):Ew D cb te w' (ns++[s]) bk wh inn f rc fa fn fc/\A3 D w w':=by
 obtain⟨g,cap,hs,hat,hf⟩:=hp;have hD:¬D g/\g≠cb/\(Value.slice ba bn bc).ownBlock≠some g/\(Value.slice la ln lc).ownBlock≠some g:=by
  rcases hat with e|e
  ·exact h.Cu g e
  ·refine⟨fun hd=>by have:=h.lo g hd;omega,fun e2=>by have:=A4 h.cell;omega,fun e2=>?_,fun e2=>?_⟩
   ·have:=Bs h.blocks g e2;omega
   ·have:=Bs h.loops g e2;omega
 refine⟨⟨some ⟨g,0,none⟩,(Da ns).length+1,cap,ba,bn,bc,la,ln,lc,ls,?_⟩,hf.Bn h.Gp (fun g hg=>(h.Cu g hg).1) h.lo⟩;have hnm:Da (ns++[s])=Da ns++[N1 s]:=by simp[Da]
 refine⟨by simpa using hs.blk,by rw[hnm];exact hs.own,B3 h.blocks (fun k hk hl=>hf.block k hl (h.G5 k hk).2.1 (fun e=>(h.Cu k e).2.2.1 hk)),B3 h.loops (fun k hk hl=>hf.block k hl (h.Iz k hk).2 (fun e=>(h.Cu k e).2.2.2 hk)),h.lsl,h.Gp,?_,h.G5,h.Iz,⟨by simpa using hn,h.Bq.2⟩,fun g hg=>Nat.lt_of_lt_of_le (h.lo g hg) hf.size⟩;intro k hk;simp only[Value.ownBlock,Option.some.injEq]at hk;subst hk;exact hD
theorem Hl.A3w(h:Hl D cb te w ns bk wh inn f rc fa fn fc na nn nc ba bn bc la ln lc ls)(p:Nat)(hn:bk.length+1<=800000)
  (hp:Mu 3 cb 3 w #[.slice fa fn fc,.int .i64 (rc:Nat),.slice na nn nc,.slice ba bn bc,.slice la ln lc,.bool inn,.int .i64 (f.1:Nat),.int .i64 (f.2:Nat)] te ba bn bc (D1 bk) (Oj p) w'):Ew D cb te w' ns (bk++[p]) wh inn f rc fa fn fc/\A3 D w w':=by
 obtain⟨g,cap,hs,hat,hf⟩:=hp;have hD:¬D g/\g≠cb/\(Value.slice na nn nc).ownBlock≠some g/\(Value.slice la ln lc).ownBlock≠some g:=by
  rcases hat with e|e
  ·exact⟨(h.G5 g e).1,(h.G5 g e).2.1,fun e2=>(h.Cu g e2).2.2.1 e,(h.G5 g e).2.2⟩
  ·refine⟨fun hd=>by have:=h.lo g hd;omega,fun e2=>by have:=A4 h.cell;omega,fun e2=>?_,fun e2=>?_⟩
   ·have:=Bs h.names g e2;omega
   ·have:=Bs h.loops g e2;omega
 refine⟨⟨na,nn,nc,some ⟨g,0,none⟩,(D1 bk).length+1,cap,la,ln,lc,ls,?_⟩,hf.Bn h.Gp (fun g hg=>(h.G5 g hg).1) h.lo⟩;have hnm:D1 (bk++[p])=D1 bk++[Oj p]:=by simp[D1]
 refine⟨by simpa using hs.blk,B3 h.names (fun k hk hl=>hf.block k hl (h.Cu k hk).2.1 (fun e=>(h.Cu k hk).2.2.1 e)),by rw[hnm];exact hs.own,B3 h.loops (fun k hk hl=>hf.block k hl (h.Iz k hk).2 (fun e=>(h.G5 k e).2.2 hk)),h.lsl,h.Gp,?_,?_,h.Iz,⟨h.Bq.1,by simpa using hn,h.Bq.2.2⟩,fun g hg=>Nat.lt_of_lt_of_le (h.lo g hg) hf.size⟩
 ·intro k hk;refine⟨(h.Cu k hk).1,(h.Cu k hk).2.1,fun e=>?_,(h.Cu k hk).2.2.2⟩;simp only[Value.ownBlock,Option.some.injEq]at e;subst e;exact hD.2.2.1 hk
 ·intro k hk;simp only[Value.ownBlock,Option.some.injEq]at hk;subst hk;exact⟨hD.1,hD.2.1,hD.2.2.2⟩
theorem Hl.Vi(h:Hl D cb te w ns bk wh inn f rc fa fn fc na nn nc ba bn bc la ln lc ls)(u:Value)(hn:wh+1<=800000)
  (hp:Mu 255 cb 4 w #[.slice fa fn fc,.int .i64 (rc:Nat),.slice na nn nc,.slice ba bn bc,.slice la ln lc,.bool inn,.int .i64 (f.1:Nat),.int .i64 (f.2:Nat)] te la ln lc ls u w'):Ew D cb te w' ns bk (wh+1) inn f rc fa fn fc/\A3 D w w':=by
 obtain⟨g,cap,hs,hat,hf⟩:=hp;have hD:¬D g/\g≠cb/\(Value.slice na nn nc).ownBlock≠some g/\(Value.slice ba bn bc).ownBlock≠some g:=by
  rcases hat with e|e
  ·exact⟨(h.Iz g e).1,(h.Iz g e).2,fun e2=>(h.Cu g e2).2.2.2 e,fun e2=>(h.G5 g e2).2.2 e⟩
  ·refine⟨fun hd=>by have:=h.lo g hd;omega,fun e2=>by have:=A4 h.cell;omega,fun e2=>?_,fun e2=>?_⟩
   ·have:=Bs h.names g e2;omega
   ·have:=Bs h.blocks g e2;omega
 refine⟨⟨na,nn,nc,ba,bn,bc,some ⟨g,0,none⟩,ls.length+1,cap,ls++[u],?_⟩,hf.Bn h.Gp (fun g hg=>(h.Iz g hg).1) h.lo⟩;refine⟨by simpa using hs.blk,B3 h.names (fun k hk hl=>hf.block k hl (h.Cu k hk).2.1 (fun e=>(h.Cu k hk).2.2.2 e)),B3 h.blocks (fun k hk hl=>hf.block k hl (h.G5 k hk).2.1 (fun e=>(h.G5 k hk).2.2 e)),hs.own,by simp[h.lsl],h.Gp,?_,?_,?_,⟨h.Bq.1,h.Bq.2.1,hn,h.Bq.2.2.2⟩,fun g hg=>Nat.lt_of_lt_of_le (h.lo g hg) hf.size⟩
 ·intro k hk;refine⟨(h.Cu k hk).1,(h.Cu k hk).2.1,(h.Cu k hk).2.2.1,fun e=>?_⟩;simp only[Value.ownBlock,Option.some.injEq]at e;subst e;exact hD.2.2.1 hk
 ·intro k hk;refine⟨(h.G5 k hk).1,(h.G5 k hk).2.1,fun e=>?_⟩;simp only[Value.ownBlock,Option.some.injEq]at e;subst e;exact hD.2.2.2 hk
 ·intro k hk;simp only[Value.ownBlock,Option.some.injEq]at hk;subst hk;exact⟨hD.1,hD.2.1⟩
theorem Hl.A92(h:Hl D cb te w ns bk wh inn f rc fa fn fc na nn nc ba bn bc la ln lc ls)(m:Nat)
  (hp:Li 9 cb 2 w #[.slice fa fn fc,.int .i64 (rc:Nat),.slice na nn nc,.slice ba bn bc,.slice la ln lc,.bool inn,.int .i64 (f.1:Nat),.int .i64 (f.2:Nat)] te na nn nc (Da ns) m w'):Ew D cb te w' (ns.take m) bk wh inn f rc fa fn fc/\A3 D w w':=by
 obtain⟨hs,hf⟩:=hp;refine⟨⟨na,m,nc,ba,bn,bc,la,ln,lc,ls,?_⟩,hf.Bn h.Gp (fun g hg=>(h.Cu g hg).1) h.lo⟩;have hnm:Da (ns.take m)=(Da ns).take m:=by simp[Da,List.map_take]
 have ho:∀g,(Value.slice na m nc).ownBlock=some g->(Value.slice na nn nc).ownBlock=some g:=fun g e=>(M9 _ _ _ _).trans e;refine⟨by simpa using hs.blk,by rw[hnm];exact hs.own,B3 h.blocks (fun k hk hl=>hf.block k hl (h.G5 k hk).2.1 (fun e=>(h.Cu k e).2.2.1 hk)),B3 h.loops (fun k hk hl=>hf.block k hl (h.Iz k hk).2 (fun e=>(h.Cu k e).2.2.2 hk)),h.lsl,h.Gp,fun k hk=>h.Cu k (ho k hk),h.G5,h.Iz,⟨by have:=h.Bq.1;simp;omega,h.Bq.2⟩,fun g hg=>Nat.lt_of_lt_of_le (h.lo g hg) hf.size⟩
theorem Hl.A6l(h:Hl D cb te w ns bk wh inn f rc fa fn fc na nn nc ba bn bc la ln lc ls)(m:Nat)
  (hp:Li 3 cb 3 w #[.slice fa fn fc,.int .i64 (rc:Nat),.slice na nn nc,.slice ba bn bc,.slice la ln lc,.bool inn,.int .i64 (f.1:Nat),.int .i64 (f.2:Nat)] te ba bn bc (D1 bk) m w'):Ew D cb te w' ns (bk.take m) wh inn f rc fa fn fc/\A3 D w w':=by
 obtain⟨hs,hf⟩:=hp;refine⟨⟨na,nn,nc,ba,m,bc,la,ln,lc,ls,?_⟩,hf.Bn h.Gp (fun g hg=>(h.G5 g hg).1) h.lo⟩;have hnm:D1 (bk.take m)=(D1 bk).take m:=by simp[D1,List.map_take]
 have ho:∀g,(Value.slice ba m bc).ownBlock=some g->(Value.slice ba bn bc).ownBlock=some g:=fun g e=>(M9 _ _ _ _).trans e;refine⟨by simpa using hs.blk,B3 h.names (fun k hk hl=>hf.block k hl (h.Cu k hk).2.1 (fun e=>(h.Cu k hk).2.2.1 e)),by rw[hnm];exact hs.own,B3 h.loops (fun k hk hl=>hf.block k hl (h.Iz k hk).2 (fun e=>(h.G5 k e).2.2 hk)),h.lsl,h.Gp,fun k hk=>⟨(h.Cu k hk).1,(h.Cu k hk).2.1,fun e=>(h.Cu k hk).2.2.1 (ho k e),(h.Cu k hk).2.2.2⟩,fun k hk=>h.G5 k (ho k hk),h.Iz,⟨h.Bq.1,by have:=h.Bq.2.1;simp;omega,h.Bq.2.2⟩,fun g hg=>Nat.lt_of_lt_of_le (h.lo g hg) hf.size⟩
theorem Hl.A3t(h:Hl D cb te w ns bk wh inn f rc fa fn fc na nn nc ba bn bc la ln lc ls)(m:Nat)(hm:m<=wh)
  (hp:Li 255 cb 4 w #[.slice fa fn fc,.int .i64 (rc:Nat),.slice na nn nc,.slice ba bn bc,.slice la ln lc,.bool inn,.int .i64 (f.1:Nat),.int .i64 (f.2:Nat)] te la ln lc ls m w'):Ew D cb te w' ns bk m inn f rc fa fn fc/\A3 D w w':=by
 obtain⟨hs,hf⟩:=hp;refine⟨⟨na,nn,nc,ba,bn,bc,la,m,lc,ls.take m,?_⟩,hf.Bn h.Gp (fun g hg=>(h.Iz g hg).1) h.lo⟩;have ho:∀g,(Value.slice la m lc).ownBlock=some g->(Value.slice la ln lc).ownBlock=some g:=fun g e=>(M9 _ _ _ _).trans e;refine⟨by simpa using hs.blk,B3 h.names (fun k hk hl=>hf.block k hl (h.Cu k hk).2.1 (fun e=>(h.Cu k hk).2.2.2 e)),B3 h.blocks (fun k hk hl=>hf.block k hl (h.G5 k hk).2.1 (fun e=>(h.G5 k hk).2.2 e)),hs.own,by rw[List.length_take,h.lsl,Nat.min_eq_left hm],h.Gp,fun k hk=>⟨(h.Cu k hk).1,(h.Cu k hk).2.1,(h.Cu k hk).2.2.1,fun e=>(h.Cu k hk).2.2.2 (ho k e)⟩,fun k hk=>⟨(h.G5 k hk).1,(h.G5 k hk).2.1,fun e=>(h.G5 k hk).2.2 (ho k e)⟩,fun k hk=>h.Iz k (ho k hk),⟨h.Bq.1,h.Bq.2.1,by have:=h.Bq.2.2.1;omega,h.Bq.2.2.2⟩,fun g hg=>Nat.lt_of_lt_of_le (h.lo g hg) hf.size⟩
end
section
set_option maxRecDepth 100000
open Go.RowKit
open Go.Deep (BT)
variable {D:Nat->Prop}{cb te:Nat}{w:World}{ns:List Nm}{bk:List Nat}{wh:Nat}{inn:Bool}{f:Cn}{rc:Nat}{fa:Option Addr}{fn fc:Nat}
theorem A35{code line:Nat}{f:Cn}(h:f.1=0):E2 true code line f=(code,line):=by unfold E2;rw[if_pos (by simp[h])]
theorem O7(h:Ew D cb te w ns bk wh inn f rc fa fn fc)(code line:Nat) :
  Calls Tryz.prog 264 #[.pointer (some ⟨cb,0,none⟩),.int .i64 (code:Nat),.int .i64 (line:Nat)] w fun e w'=>e=.returned (.tuple #[])/\Ew D cb te w' ns bk wh inn (E2 true code line f) rc fa fn fc/\A3 D w w':=by
 obtain⟨na,nn,nc,ba,bn,bc,la,ln,lc,ls,h⟩:=h;obtain⟨c0,c1,c2,c3,c4,c5,c6,c7,fz,lb⟩:=N6 h.cell;have HH:=A0 h;clear h;by_cases h0:f.1=0
 ·have HW:=A0 (A35 (code:=code) (line:=line) h0);rw[h0]at c6;go_enter Tryz.func264,Tryz.ntmps264;go_wp2;go_end0;rw[HW.o];refine⟨rfl,⟨na,nn,nc,ba,bn,bc,la,ln,lc,ls,HH.o.put inn (code,line) rc HH.o.Bq.2.2.2 ?_ (fun g _ hne=>by rw[Below.heap_setCell _ _ _ _ (by exact hne),Below.heap_setCell _ _ _ _ (by exact hne)]) (by simp[World.setCell])⟩,A3.set (p:=⟨cb,7,none⟩) (A3.set (p:=⟨cb,6,none⟩) (A3.refl _ _) HH.o.Gp _) HH.o.Gp _⟩;have:=heap_set (j:=7) (heap_set (j:=6) HH.o.cell (.int .i64 (code:Nat))) (.int .i64 (line:Nat));simpa using this
 ·have HW:=A0 (Ahz true code line f h0);have t0:((f.1:Int)==0)=false:=by rw[beq_eq_false_iff_ne];omega
  clear h0;go_enter Tryz.func264,Tryz.ntmps264;go_wp2;go_end0;rw[HW.o];exact⟨rfl,⟨na,nn,nc,ba,bn,bc,la,ln,lc,ls,HH.o⟩,A3.refl _ _⟩
theorem Nr(ns:List Nm):(Da ns).length=ns.length:=by simp[Da]
theorem Wi(bk:List Nat):(D1 bk).length=bk.length:=by simp[D1]
theorem Rg(h:Ew D cb te w ns bk wh inn f rc fa fn fc)(hb:bk.length+1<=800000) :
  Calls Tryz.prog 133 #[.pointer (some ⟨cb,0,none⟩)] w fun e w'=>e=.returned (.tuple #[])/\Ew D cb te w' ns (bk++[ns.length]) wh inn f rc fa fn fc/\A3 D w w':=by
 obtain⟨na,nn,nc,ba,bn,bc,la,ln,lc,ls,h⟩:=h;have lb:=A4 h.cell;have HH:=A0 (h.keep (w':=w.drew) (fun _ _=>rfl) (Nat.le_refl _));have HL:=A0 (Pp HH.o.L8);rw[Nr]at HL;have HP:=A0 (Abj HH.o.Ol (by rw[Wi];omega) (ns.length:Nat) (by simp));clear h;go_enter Tryz.func133,Tryz.ntmps133;go_wp2;go_region_law (first
  | (refine Fj rfl 136 _ _ rfl #[.pointer (some ⟨cb,2,none⟩)] (by kernel_rfl) HL.o ?_;rintro e w1 ⟨rfl,rfl⟩;refine⟨_,rfl,?_⟩)
  | (refine Fj rfl 191 _ _ rfl #[.pointer (some ⟨cb,3,none⟩),.int .i64 (ns.length:Nat)] (by kernel_rfl) HP.o ?_;rintro e w1 ⟨rfl,hp1⟩;refine⟨_,rfl,?_⟩))
 all_goals go_wp2
 all_goals go_end0
 all_goals obtain⟨k1,k2⟩:=HH.o.A3w ns.length hb hp1
 all_goals exact⟨rfl,k1,⟨k2.os,k2.tape,k2.output,k2.size,k2.block⟩⟩
theorem Tm{D:Nat->Prop}{cb te:Nat}{w:World}{ns:List Nm}{bk:List Nat}{p:Nat}{wh:Nat}{inn:Bool}{f:Cn}{rc:Nat}{fa:Option Addr}{fn fc:Nat}(h:Ew D cb te w ns (bk++[p]) wh inn f rc fa fn fc)(hp:p<=ns.length) :
  Calls Tryz.prog 135 #[.pointer (some ⟨cb,0,none⟩)] w fun e w'=>e=.returned (.tuple #[])/\Ew D cb te w' (ns.take p) bk wh inn f rc fa fn fc/\A3 D w w':=by
 obtain⟨na,nn,nc,ba,bn,bc,la,ln,lc,ls,h⟩:=h;have lb:=A4 h.cell;have HH:=A0 (h.keep (w':=w.drew) (fun _ _=>rfl) (Nat.le_refl _));have hl:(D1 (bk++[p])).length=bk.length+1:=by rw[Wi];simp
 have hf:=HH.o.Bq;simp only[List.length_append,List.length_singleton]at hf;have HP:=A0 (Ain HH.o.Ol (by omega) bk.length (by omega) hl (by simp));have hx:(D1 (bk++[p]))[bk.length]'(by omega)=.int .i64 (p:Nat):=by simp[D1,Oj]
 rw[hx]at HP;clear h hl hx;go_enter Tryz.func135,Tryz.ntmps135;go_wp2;go_region_law (first
  | (refine Fj rfl 193 _ _ rfl #[.pointer (some ⟨cb,3,none⟩)] (by kernel_rfl) HP.o ?_;rintro e w1 ⟨rfl,hc1⟩;refine⟨_,rfl,?_⟩;obtain⟨k1,k2⟩:=HH.o.A6l bk.length hc1;rw[List.take_left]at k1;obtain⟨na1,nn1,nc1,ba1,bn1,bc1,la1,J5,lc1,Ea,hv1⟩:=k1;have HV1:=A0 hv1;have HK2:=A0 k2;have Bt:=A4 hv1.cell;have I8:=A0 (Uy hv1.L8 p (by rw[Nr];exact hp) (by simp));clear hv1 k2 hc1)
  | (refine Fj rfl 83 _ _ rfl #[.pointer (some ⟨cb,2,none⟩),.int .i64 (p:Nat)] (by kernel_rfl) I8.o ?_;rintro e w2 ⟨rfl,hc2⟩;refine⟨_,rfl,?_⟩))
 all_goals go_wp2
 all_goals go_end0
 all_goals obtain⟨k3,k4⟩:=HV1.o.A92 p hc2
 all_goals exact⟨rfl,k3,A3.trans ⟨HK2.o.os,HK2.o.tape,HK2.o.output,HK2.o.size,HK2.o.block⟩ k4⟩
theorem Abi{ns:List Nm}{i:Nat}(h:i<ns.length)(s:Nm):decide (s∈ns.drop i)=(decide (ns[i]=s)||decide (s∈ns.drop (i+1))):=by
 rw[List.drop_eq_getElem_cons h,Bool.eq_iff_iff];simp only[List.mem_cons,decide_eq_true_eq,Bool.or_eq_true];exact⟨fun h=>h.imp Eq.symm id,fun h=>h.imp Eq.symm id⟩
theorem Y9(h:Ew D cb te w ns bk wh inn f rc fa fn fc)(s:Nm)(p:Nat)(hp:p<=ns.length) :
  Calls Tryz.prog 265 #[.pointer (some ⟨cb,0,none⟩),.string ⟨s.toArray⟩,.int .i64 (p:Nat)] w fun e w'=>e=.returned (.bool (decide (s∈ns.drop p)))/\w'=w:=by
 obtain⟨na,nn,nc,ba,bn,bc,la,ln,lc,ls,h⟩:=h;have lb:=A4 h.cell;have HL:=A0 (Pp h.L8);rw[Nr]at HL;have HA:=A0 (fun i hi=>j6 h.L8 i hi);have hfew:=h.Bq.1;clear h;go_enter Tryz.func265,Tryz.ntmps265;go_wp2;go_loopg [7] (ns.length-p) (fun k v wr=>∃i:Nat,v=.int .i64 i/\i+k=ns.length/\decide (s∈ns.drop p)=decide (s∈ns.drop i)/\wr=w)
 case atStart=>exact⟨p,rfl,by omega,rfl,rfl⟩
 case round=>
  obtain⟨i,rfl,hik,hm,rfl⟩:=hrel;have HM:=A0 hm;clear hm;by_cases hlt:i<ns.length
  ·have HS:=A0 (Abi hlt s);have HA1:=A0 (HA.o i (by rw[Nr];exact hlt));have hx:(Da ns)[i]'(by rw[Nr];exact hlt)=.string ⟨ns[i].toArray⟩:=by simp[Da,N1]
   rw[hx]at HA1;clear hx;generalize ns[i]=x at *;have hlt':(i:Int)<(ns.length:Int):=by omega
   cases hq:(x==s)
   ·have HE:Hid (decide (s∈ns.drop p)=decide (s∈ns.drop (i+1))):=by
     show _=_;have:decide (x=s)=false:=by simpa using hq
     rw[HM.o,HS.o,this];rfl
    go_wp2_with fail
    refine HL.o.mono ?_;rintro e w' ⟨rfl,rfl⟩;go_wp2_with fail
    refine HA1.o.mono ?_;rintro e w' ⟨rfl,rfl⟩;go_wp2;go_roundg (gk-1)
    case measure=>omega
    case rel=>exact⟨i+1,rfl,by omega,HE.o,rfl⟩
   ·have HE:Hid (decide (s∈ns.drop p)=true):=by
     show _=_;have:decide (x=s)=true:=by simpa using hq
     rw[HM.o,HS.o,this];rfl
    go_wp2_with fail
    refine HL.o.mono ?_;rintro e w' ⟨rfl,rfl⟩;go_wp2_with fail
    refine HA1.o.mono ?_;rintro e w' ⟨rfl,rfl⟩;go_wp2;go_ret;exact⟨Qi HE.o.symm,rfl⟩
  ·have HE:Hid (decide (s∈ns.drop p)=false):=by
    show _=_;rw[HM.o,List.drop_eq_nil_of_le (by omega)];rfl
   go_wp2_with fail
   refine HL.o.mono ?_;rintro e w' ⟨rfl,rfl⟩;go_wp2;go_ret;exact⟨Qi HE.o.symm,rfl⟩
end
section
set_option maxRecDepth 100000
open Go.RowKit
open Go.Deep (BT)
variable {D:Nat->Prop}{w:World}{fns:List (Nm×Nat)}{fa:Option Addr}{fn fc:Nat}
theorem Oy(code line:Nat)(f:Cn):E2 false code line f=f:=by unfold E2;rw[if_neg (by simp)]
theorem Ur{D:Nat->Prop}{cb te:Nat}{w:World}{outer cur:List Nm}{bl:List Nat}{wh:Nat}{inn:Bool}{f:Cn}{rc:Nat}{fa:Option Addr}{fn fc:Nat}(h:Ew D cb te w (outer++cur) (bl++[outer.length]) wh inn f rc fa fn fc)(line:Nat)(s:Nm) :
  Calls Tryz.prog 235 #[.pointer (some ⟨cb,0,none⟩),.agg #[.int .i64 (line:Nat),.string ⟨s.toArray⟩]] w fun e w'=>e=.returned (.tuple #[])/\Ew D cb te w' (outer++cur) (bl++[outer.length]) wh inn (E2 (decide (s∈cur)) 3 line f) rc fa fn fc/\A3 D w w':=by
 have hlo:∀g,D g->g<w.heap.size:=by obtain⟨_,_,_,_,_,_,_,_,_,_,h⟩:=h;exact h.lo
 have lb:cb<w.heap.size:=by obtain⟨_,_,_,_,_,_,_,_,_,_,h⟩:=h;exact A4 h.cell
 have h1:Ew D cb te (w.alloc (.cells #[.int .i64 (line:Nat),.string ⟨s.toArray⟩] 148)) (outer++cur) (bl++[outer.length]) wh inn f rc fa fn fc:=h.keep (fun g hg=>Below.heap_alloc _ _ _ hg) (by simp);have A1:A3 D w (w.alloc (.cells #[.int .i64 (line:Nat),.string ⟨s.toArray⟩] 148)):=(A3.refl D w).alloc hlo _;have Et:=heap_alloc_new w (.cells #[.int .i64 (line:Nat),.string ⟨s.toArray⟩] 148);clear h;generalize hW:w.alloc (.cells #[.int .i64 (line:Nat),.string ⟨s.toArray⟩] 148)=w1 at *;have HW:=A0 hW;generalize hxb:w.heap.size=xb at *;have HXb:=A0 hxb;clear hW hxb;have A9:=A0 h1;have A5:=A0 A1;have Ir:=A0 Et;have hdr:∀W:World,Ew D cb te W (outer++cur) (bl++[outer.length]) wh inn f rc fa fn fc->Calls Tryz.prog 241 #[.pointer (some ⟨cb,3,none⟩)] W fun e w'=>e=.returned (.int .i64 (outer.length:Nat))/\w'=W:=by
  intro W h;obtain⟨na,nn,nc,ba,bn,bc,la,ln,lc,ls,h⟩:=h;have hl:(D1 (bl++[outer.length])).length=bl.length+1:=by rw[Wi];simp
  have hf:=h.Bq;simp only[List.length_append,List.length_singleton]at hf;have hp:=x7 h.Ol (by omega) bl.length (by omega) hl;have hx:(D1 (bl++[outer.length]))[bl.length]'(by omega)=.int .i64 (outer.length:Nat):=by simp[D1,Oj]
  rw[hx]at hp;exact hp
 have HTop:=A0 hdr;have HSeen:=A0 (fun(W:World) (h:Ew D cb te W (outer++cur) (bl++[outer.length]) wh inn f rc fa fn fc)=>Y9 h s outer.length (by simp));rw[List.drop_left]at HSeen;obtain⟨y0,y1,fy,ly⟩:=Io Et;have Bt:cb<w1.heap.size:=by obtain⟨_,_,_,_,_,_,_,_,_,_,h⟩:=h1;exact A4 h.cell
 clear hdr h1 A1 Et;cases hq:decide (s∈cur)
 ·rw[hq]at HSeen;have HF:=A0 (Oy 3 line f);go_enter Tryz.func235,Tryz.ntmps235;go_wp2;rw[HW.o,HXb.o];go_quiet ((first|(go_at_call 241;exact Calls.quiet_of_same (HTop.o _ (A9.o.keep (fun _ _=>rfl) (Nat.le_refl _))))|(go_at_call 265;exact Calls.quiet_of_same (HSeen.o _ (A9.o.keep (fun _ _=>rfl) (Nat.le_refl _))))))
  have Ak:Hid (Ew D cb te (w1.drewN nq) (outer++cur) (bl++[outer.length]) wh inn f rc fa fn fc):=A9.o.keep (fun _ _=>rfl) (Nat.le_refl _);have Aa:Hid (A3 D w (w1.drewN nq)):=⟨A5.o.os,A5.o.tape,A5.o.output,A5.o.size,A5.o.block⟩;have HX2:Hid ((w1.drewN nq).heap[xb]?=_):=Ir.o;go_wp2;go_end0;rw[HF.o];exact⟨rfl,Ak.o,Aa.o⟩
 ·rw[hq]at HSeen;go_enter Tryz.func235,Tryz.ntmps235;go_wp2;rw[HW.o,HXb.o];go_quiet ((first|(go_at_call 241;exact Calls.quiet_of_same (HTop.o _ (A9.o.keep (fun _ _=>rfl) (Nat.le_refl _))))|(go_at_call 265;exact Calls.quiet_of_same (HSeen.o _ (A9.o.keep (fun _ _=>rfl) (Nat.le_refl _))))))
  have Ak:Hid (Ew D cb te (w1.drewN nq) (outer++cur) (bl++[outer.length]) wh inn f rc fa fn fc):=A9.o.keep (fun _ _=>rfl) (Nat.le_refl _);have Aa:Hid (A3 D w (w1.drewN nq)):=⟨A5.o.os,A5.o.tape,A5.o.output,A5.o.size,A5.o.block⟩;have HX2:Hid ((w1.drewN nq).heap[xb]?=_):=Ir.o;clear y0 y1 fy ly;generalize w1.drewN nq=w2 at *;obtain⟨y0,y1,fy,ly⟩:=Io HX2.o;go_wp2_with fail
  refine(O7 Ak.o 3 line).mono ?_;rintro e w3 ⟨rfl,Bx,Aj⟩;have Bh:=A0 Bx;have At:Hid (A3 D w w3):=Aa.o.trans Aj;clear Bx Aj;go_wp2;go_end0;exact⟨rfl,Bh.o,At.o⟩
theorem s7{D:Nat->Prop}{cb te:Nat}{w:World}{ns:List Nm}{bk:List Nat}{wh:Nat}{inn:Bool}{f:Cn}{rc:Nat}{fa:Option Addr}{fn fc:Nat}(h:Ew D cb te w ns bk wh inn f rc fa fn fc)(line:Nat) :
  Calls Tryz.prog 240 #[.pointer (some ⟨cb,0,none⟩),.int .i64 (line:Nat)] w fun e w'=>e=.returned (.tuple #[])/\Ew D cb te w' ns bk wh inn (E2 (wh==0) 4 line f) rc fa fn fc/\A3 D w w':=by
 have HS:=A0 h;obtain⟨na,nn,nc,ba,bn,bc,la,ln,lc,ls,h⟩:=h;have lb:=A4 h.cell;have HL:=A0 (Wa h.W4);rw[h.lsl]at HL;clear h;by_cases h0:wh=0
 ·subst h0;go_enter Tryz.func240,Tryz.ntmps240;go_wp2_with fail
  refine HL.o.mono ?_;rintro e w' ⟨rfl,rfl⟩;go_wp2_with fail
  refine(O7 HS.o 4 line).mono ?_;rintro e w3 ⟨rfl,Bx,Aj⟩;have Bh:=A0 Bx;have At:=A0 Aj;clear Bx Aj;go_wp2;go_end0;exact⟨rfl,Bh.o,At.o⟩
 ·have t0:((wh:Int)==0)=false:=by rw[beq_eq_false_iff_ne];omega
  have HF:Hid (E2 (wh==0) 4 line f=f):=by
   show _=_;rw[show(wh==0)=false by simpa using h0];exact Oy 4 line f
  clear h0;go_enter Tryz.func240,Tryz.ntmps240;go_wp2_with fail
  refine HL.o.mono ?_;rintro e w' ⟨rfl,rfl⟩;go_wp2;go_end0;rw[HF.o];exact⟨rfl,HS.o,A3.refl _ _⟩
structure Ih (D : Nat -> Prop) (w : World) (fns : List (Nm × Nat)) (fa : Option Addr) (fn fc : Nat) : Prop where
 len:fn=fns.length
 Bq:fns.length<=100000
 cap:fn<=fc
 at':∀i (h:i<fns.length),∃g pb pa pc,fa=some ⟨g,0,none⟩/\D g/\g<w.heap.size/\w.cell? ⟨g,i,none⟩=some (.pointer (some ⟨pb,0,none⟩))/\D pb/\pb<w.heap.size/\w.cell? ⟨pb,1,none⟩=some (.string ⟨fns[i].1.toArray⟩)/\w.cell? ⟨pb,2,none⟩=some (.slice pa fns[i].2 pc)
theorem Ih.keep{D:Nat->Prop}{w w':World}{fns:List (Nm×Nat)}{fa:Option Addr}{fn fc:Nat}(h:Ih D w fns fa fn fc)(hb:A3 D w w'):Ih D w' fns fa fn fc:=by
 refine⟨h.len,h.Bq,h.cap,fun i hi=>?_⟩;obtain⟨g,pb,pa,pc,e1,e2,e3,e4,e5,e6,e7,e8⟩:=h.at' i hi;exact⟨g,pb,pa,pc,e1,e2,Nat.lt_of_lt_of_le e3 hb.size,(World.cell?_of_block (hb.block g e2)).trans e4,e5,Nat.lt_of_lt_of_le e6 hb.size,(World.cell?_of_block (hb.block pb e5)).trans e7,(World.cell?_of_block (hb.block pb e5)).trans e8⟩
def Mg(w:World)(fns:List (Nm×Nat))(fa:Option Addr)(k:Nat)(s:Nm)(p:Option Addr):Prop:=
 (p=none/\∀j,j<k->∀h:j<fns.length,fns[j].1≠s)\/(∃i,∃h:i<fns.length,∃pb pa pc,i<k/\p=some ⟨pb,0,none⟩/\(∃g,fa=some ⟨g,0,none⟩/\w.cell? ⟨g,i,none⟩=some (.pointer (some ⟨pb,0,none⟩)))/\fns[i].1=s/\(∀j,j<i->∀h':j<fns.length,fns[j].1≠s)/\pb<w.heap.size/\w.cell? ⟨pb,2,none⟩=some (.slice pa fns[i].2 pc))
theorem A9p(h:Ih D w fns fa fn fc)(k:Nat)(hk:k<=fns.length)(s:Nm) :
  Calls Tryz.prog 263 #[.slice fa k fc,.string ⟨s.toArray⟩] w fun e w'=>∃p,e=.returned (.pointer p)/\Mg w fns fa k s p/\w'=w:=by
 have hfew:=h.Bq;have hcap:=h.cap;have hlen:=h.len;have HH:=A0 h;clear h;go_enter Tryz.func263,Tryz.ntmps263;go_wp2;go_loopg [9] k (fun q v wr=>∃i:Nat,v=.int .i64 i/\i+q=k/\(∀j,j<i->∀h':j<fns.length,fns[j].1≠s)/\wr=w)
 case atStart=>exact⟨0,rfl,by omega,fun i hi=>by omega,rfl⟩
 case round=>
  obtain⟨i,rfl,hik,hno,rfl⟩:=hrel;have HNo:=A0 hno;clear hno;by_cases hlt:i<k
  ·have hlt2:i<fns.length:=by omega
   obtain⟨g,pb,pa,pc,rfl,_,lg,cg,_,lp,c1,c2⟩:=HH.o.at' i hlt2;have HI:Hid (fns[i].1=s->Mg wr fns (some ⟨g,0,none⟩) k s (some ⟨pb,0,none⟩)):=fun e=>.inr ⟨i,hlt2,pb,pa,pc,hlt,rfl,⟨g,rfl,cg⟩,e,HNo.o,lp,c2⟩;have HS:Hid (fns[i].1≠s->∀j,j<i+1->∀h':j<fns.length,fns[j].1≠s):=by
    intro hn j hj h' e;by_cases hjn:j=i
    ·subst hjn;exact hn e
    ·exact HNo.o j (by omega) h' e
   have hcap2:k<=fc:=by omega
   clear hlen hcap;generalize fns[i]=x at *;cases hq:(x.1==s)
   ·have HQ:Hid (x.1≠s):=by rw[beq_eq_false_iff_ne]at hq;exact hq
    go_wp2;go_roundg (gk-1)
    case measure=>omega
    case rel=>exact⟨i+1,rfl,by omega,HS.o HQ.o,rfl⟩
   ·have HQ:Hid (x.1=s):=A0 (by simpa using hq);go_wp2;go_ret;exact⟨_,rfl,HI.o HQ.o,rfl⟩
  ·have HT:Hid (Mg wr fns fa k s none):=.inl ⟨rfl,fun j hj h=>HNo.o j (by omega) h⟩;go_wp2;go_ret;exact⟨_,rfl,HT.o,rfl⟩
theorem Mg.unique{w:World}{fns:List (Nm×Nat)}{fa:Option Addr}{k:Nat}{s:Nm}{p q:Option Addr}(h1:Mg w fns fa k s p)(h2:Mg w fns fa k s q):p=q:=by
 rcases h1 with⟨e1,n1⟩|⟨i,hi,pb,pa,pc,hik,e1,⟨g,eg,c1⟩,es,n1,_,_⟩
 ·rcases h2 with⟨e2,_⟩|⟨j,hj,pb2,pa2,pc2,hjk,e2,_,es2,_⟩
  ·rw[e1,e2]
  ·exact absurd es2 (n1 j hjk hj)
 ·rcases h2 with⟨e2,n2⟩|⟨j,hj,pb2,pa2,pc2,hjk,e2,⟨g2,eg2,c2⟩,es2,n2,_,_⟩
  ·exact absurd es (n2 i hik hi)
  ·have hij:i=j:=by
    rcases Nat.lt_trichotomy i j with h|h|h
    ·exact absurd es (n2 i h hi)
    ·exact h
    ·exact absurd es2 (n1 j h hj)
   subst hij;rw[eg]at eg2;injection eg2 with eg2;injection eg2 with eg2;subst eg2;rw[c1]at c2;injection c2 with c2;injection c2 with c2;rw[e1,e2,c2]
theorem Ih.find(h:Ih D w fns fa fn fc)(s:Nm):∀k,k<=fns.length->∃p,Mg w fns fa k s p:=by
 intro k;induction k with
 | zero=>intro _;exact⟨none,.inl ⟨rfl,fun j hj=>by omega⟩⟩
 | succ k ih=>
  intro hk;obtain⟨p,hp⟩:=ih (by omega);rcases hp with⟨rfl,hn⟩|⟨i,hi,pb,pa,pc,hik,r⟩
  ·by_cases e:(fns[k]'(by omega)).1=s
   ·obtain⟨g,pb,pa,pc,e1,_,_,e4,_,e6,_,e8⟩:=h.at' k (by omega);exact⟨some ⟨pb,0,none⟩,.inr ⟨k,by omega,pb,pa,pc,by omega,rfl,⟨g,e1,e4⟩,e,fun j hj h'=>hn j hj h',e6,e8⟩⟩
   ·refine⟨none,.inl ⟨rfl,fun j hj h' e2=>?_⟩⟩;by_cases hjk:j=k
    ·subst hjk;exact e e2
    ·exact hn j (by omega) h' e2
  ·exact⟨p,.inr ⟨i,hi,pb,pa,pc,by omega,r⟩⟩
theorem Yj(h:Ih D w fns fa fn fc)(k:Nat)(hk:k<=fns.length)(s:Nm)(p:Option Addr)(hp:Mg w fns fa k s p) :
  Calls Tryz.prog 263 #[.slice fa k fc,.string ⟨s.toArray⟩] w fun e w'=>e=.returned (.pointer p)/\w'=w:=
 (A9p h k hk s).mono fun e w' ⟨q,e1,e2,e3⟩=>⟨by rw[e1,hp.unique e2],e3⟩
end
section
set_option maxRecDepth 100000
open Go.RowKit
open Go.Deep (BT)
structure CC where
 cb:Nat
 te:Nat
 fns:List (Nm×Nat)
 fa:Option Addr
 fn:Nat
 fc:Nat
variable {K:CC}{D:Nat->Prop}{w:World}{ns:List Nm}{bk:List Nat}{wh:Nat}{inn:Bool}{f:Cn}{rc:Nat}
structure CC.St (K : CC) (D : Nat -> Prop) (w : World) (ns : List Nm) (bk : List Nat) (wh : Nat) (inn : Bool) (f : Cn) (rc : Nat) : Prop where
 st:Ew D K.cb K.te w ns bk wh inn f rc K.fa K.fn K.fc
 fr:Ih D w K.fns K.fa K.fn K.fc
theorem CC.St.lo(h:K.St D w ns bk wh inn f rc):(∀g,D g->g<w.heap.size)/\K.cb<w.heap.size/\¬D K.cb:=by
 obtain⟨_,_,_,_,_,_,_,_,_,_,h⟩:=h.st;exact⟨h.lo,A4 h.cell,h.Gp⟩
theorem CC.St.next{K:CC}{D:Nat->Prop}{w w':World}{ns ns':List Nm}{bk bk':List Nat}{wh wh':Nat}{inn inn':Bool}{f f':Cn}{rc rc':Nat}(h:K.St D w ns bk wh inn f rc)(hs:Ew D K.cb K.te w' ns' bk' wh' inn' f' rc' K.fa K.fn K.fc)(hb:A3 D w w'):K.St D w' ns' bk' wh' inn' f' rc':=⟨hs,h.fr.keep hb⟩
theorem CC.St.drewN(h:K.St D w ns bk wh inn f rc)(n:Nat):K.St D (w.drewN n) ns bk wh inn f rc:=
 h.next (h.st.keep (fun _ _=>rfl) (Nat.le_refl _)) ⟨rfl,rfl,rfl,Nat.le_refl _,fun _ _=>rfl⟩
theorem E6(D:Nat->Prop)(w:World)(n:Nat):A3 D w (w.drewN n):=⟨rfl,rfl,rfl,Nat.le_refl _,fun _ _=>rfl⟩
theorem Al.Bn{D:Nat->Prop}{w w':World}(hb:A3 D w w'){f:BT A6}{vs:List Value}(h:Al D w f vs):Al D w' f vs:=Al.keep (fun g hg _=>⟨hb.block g hg,hg⟩) _ _ h
theorem Bo.Bn{D:Nat->Prop}{w w':World}(hb:A3 D w w'){l:A6}{v:Value}{ks:List Value}(h:Bo D w l v ks):Bo D w' l v ks:=Bo.keep (fun g hg _=>⟨hb.block g hg,hg⟩) h
theorem Co.Bn{D:Nat->Prop}{w w':World}(hb:A3 D w w'){e:TypeId}{size:Nat}{v:Value}{n:Nat}{cs:List Value}(h:Co D w e size v n cs):Co D w' e size v n cs:=h.keep (fun g hg _=>⟨hb.block g hg,hg⟩)
theorem Al.at'{D:Nat->Prop}{w:World}:∀(i:Nat) (f:BT A6) (vs:List Value),Al D w f vs->i<Ar f->
  ∃x y l c r,C3 i f=.node x y l c r/\∃v ks,vs[i]?=some v/\Bo D w l v ks/\Al D w c ks:=by
 intro i;induction i with
 | zero=>
  intro f vs h hi;cases f with
  | nil=>simp[Ar]at hi
  | node x y l c r=>
   obtain⟨v,ks,rest,rfl,h1,h2,h3⟩:=h;exact⟨x,y,l,c,r,rfl,v,ks,rfl,h1,h2⟩
 | succ i ih=>
  intro f vs h hi;cases f with
  | nil=>simp[Ar]at hi
  | node x y l c r=>
   obtain⟨v,ks,rest,rfl,h1,h2,h3⟩:=h;obtain⟨x',y',l',c',r',e,v',ks',k1,k2,k3⟩:=ih r rest h3 (by simp only[Ar]at hi;omega);exact⟨x',y',l',c',r',e,v',ks',k1,k2,k3⟩
def Fx(K:CC)(l:A6)(c:BT A6):Prop:=∀(D:Nat->Prop) (w:World) (outer cur:List Nm) (bk:List Nat) (wh:Nat) (inn:Bool) (f:Cn) (rc:Nat) (v:Value) (ks:List Value),
 K.St D w (outer++cur) bk wh inn f rc->Bo D w l v ks->Al D w c ks->
 Calls Tryz.prog 236 #[.pointer (some ⟨K.cb,0,none⟩),v] w fun e w'=>e=.returned (.tuple #[])/\K.St D w' (outer++cur) bk wh inn (Bp K.fns (nd l c) outer cur wh inn f).2 rc/\A3 D w w'
def Cx(P:A6->BT A6->Prop):BT A6->Prop
 | .nil=>True
 | .node _ _ l c r=>P l c/\Cx P r
theorem Cx.at'{P:A6->BT A6->Prop}:∀(i:Nat) (f:BT A6),Cx P f->∀x y l c r,C3 i f=.node x y l c r->P l c:=by
 intro i;induction i with
 | zero=>intro f h x y l c r e;rw[show C3 0 f=f from by cases f <;> rfl]at e;subst e;exact h.1
 | succ i ih=>
  intro f h x y l c r e;cases f with
  | nil=>rw[C3]at e;cases e
  | node x' y' l' c' r'=>rw[C3]at e;exact ih r' h.2 x y l c r e
theorem Wf.drop:∀(m i:Nat) (f:BT A6),Wf m f->Wf m (C3 i f):=by
 intro m i;induction i with
 | zero=>intro f h;exact h
 | succ i ih=>
  intro f h;cases f with
  | nil=>exact h
  | node x y l c r=>exact ih r h.1
theorem sens_xy'(fns:List (Nm×Nat))(x y:Nat)(l:A6)(c r:BT A6)(outer cur:List Nm)(wh:Nat)(inn:Bool)(f:Cn):Bp fns (.node x y l c r) outer cur wh inn f=Bp fns r outer (Bp fns (nd l c) outer cur wh inn f).1 wh inn (Bp fns (nd l c) outer cur wh inn f).2:=by
 rw[A4e];rfl
theorem Wf.Ph{x y:Nat}{l:A6}{c r:BT A6}(h:Wf 0 (.node x y l c r)):Wf 0 (nd l c):=⟨trivial,h.2⟩
theorem X6(K:CC)(c:BT A6)(hok:Cx (Fx K) c)(hwf:Wf 0 c)(D:Nat->Prop)(w:World)(outer cur:List Nm)(bk:List Nat)(wh:Nat)(inn:Bool)(f:Cn)(rc:Nat)(va:Option Addr)(vn vc:Nat)(ks:List Value)
  (hst:K.St D w (outer++cur) bk wh inn f rc) (hown:Co D w 150 1 (.slice va vn vc) ks.length ks) (hrep:Al D w c ks) (hb:ks.length<=500000) :
  Calls Tryz.prog 267 #[.pointer (some ⟨K.cb,0,none⟩),.slice va vn vc] w fun e w'=>e=.returned (.tuple #[])/\K.St D w' (outer++cur) bk wh inn (Bp K.fns c outer cur wh inn f).2 rc/\A3 D w w':=by
 have hvn:vn=ks.length:=(C8 hown.1).1;subst hvn;have HSt0:=A0 hst;have HOwn:=A0 hown;have HRep:=A0 hrep;have hlen:=hrep.len;have HLen:=A0 hlen;clear hst hown hrep hlen;go_enter Tryz.func267,Tryz.ntmps267;go_wp2;go_loopg [8] ks.length (fun k v wr=>∃(i:Nat) (fl:Cn),v=.int .i64 i/\i+k=ks.length/\K.St D wr (outer++cur) bk wh inn fl rc/\(Bp K.fns (C3 i c) outer cur wh inn fl).2=(Bp K.fns c outer cur wh inn f).2/\A3 D w wr)
 case atStart=>exact⟨0,f,rfl,by omega,HSt0.o,rfl,A3.refl _ _⟩
 case round=>
  clear HSt0;obtain⟨i,fl,rfl,hik,hst,hse,hbel⟩:=hrel;have HSt:=A0 hst;have HSe:=A0 hse;have HBel:=A0 hbel;clear hst hse hbel;by_cases hlt:i<ks.length
  ·have hr:=HRep.o.Bn HBel.o;obtain⟨x,y,l,cc,r,hd,v,ks',hv,hn,hrk⟩:=Al.at' i c ks hr (by rw[←HLen.o];exact hlt);obtain⟨g,rfl,_,hcap,lg,hcell⟩:=Gj (HOwn.o.Bn HBel.o).1 (by omega);have d0:=hcell i v hv;have hE:=A0 (hok.at' i c x y l cc r hd);have Cq:Wf 0 (nd l cc):=by have:=Wf.drop 0 i c hwf;rw[hd]at this;exact this.Ph
   have Ah:=sens_xy' K.fns x y l cc r outer cur wh inn fl;rw[Kc K.fns _ Cq]at Ah;have HNx:Hid ((Bp K.fns (C3 (i+1) c) outer cur wh inn (Bp K.fns (nd l cc) outer cur wh inn fl).2).2=(Bp K.fns c outer cur wh inn f).2):=by
    show _=_;rw[Nu i c x y l cc r hd,←HSe.o,hd,Ah]
   have HC:=A0 (hE.out D wr outer cur bk wh inn fl rc v ks' HSt.o hn hrk);clear hr hd hv hn hrk hcell Cq Ah;go_wp2_with fail
   refine HC.o.mono ?_;rintro e w1 ⟨rfl,Ah,A1⟩;have A9:=A0 Ah;have A5:Hid (A3 D w w1):=HBel.o.trans A1;clear Ah A1;go_wp2;go_roundg (gk-1)
   case measure=>omega
   case rel=>exact⟨i+1,_,rfl,by omega,A9.o,HNx.o,A5.o⟩
  ·have HE:Hid (fl=(Bp K.fns c outer cur wh inn f).2):=by
    have h0:C3 i c=.nil:=by
     have:Ar (C3 i c)=0:=by rw[Ok,←HLen.o];omega
     cases hd:C3 i c with
     | nil=>rfl
     | node x y l c r=>rw[hd]at this;simp[Ar]at this
    have:=HSe.o;rw[h0]at this;exact this
   go_wp2;go_end0;rw[←HE.o];exact⟨rfl,HSt.o,HBel.o⟩
end
section
set_option maxRecDepth 100000
open Go.RowKit
open Go.Deep (BT)
theorem A8d{w:World}{fns:List (Nm×Nat)}{fa:Option Addr}{s:Nm}{p:Option Addr}(h:Mg w fns fa fns.length s p)(n:Nat) :
  (p=none/\Nn fns s n=true)\/(∃pb pa m pc,p=some ⟨pb,0,none⟩/\Nn fns s n=(m !=n)/\pb<w.heap.size/\w.cell? ⟨pb,2,none⟩=some (.slice pa m pc)):=by
 rcases h with⟨e,hn⟩|⟨i,hi,pb,pa,pc,_,e,_,es,hn,lp,c2⟩
 ·left;refine⟨e,?_⟩;unfold Nn;rw[Aj9 fns s (fun j hj=>hn j hj hj)]
 ·right;refine⟨pb,pa,fns[i].2,pc,e,?_,lp,c2⟩;unfold Nn;rw[An9 fns s i hi es hn]
theorem Ach(K:CC)(c:BT A6)(hok:Cx (Fx K) c)(hwf:Wf 0 c)(line:Nat)(s:Nm)(D:Nat->Prop)(w:World)(outer cur:List Nm)(bk:List Nat)(wh:Nat)(inn:Bool)(f:Cn)(rc:Nat)(b:Nat)(va:Option Addr)(vn vc:Nat)(ks:List Value)
  (hst:K.St D w (outer++cur) bk wh inn f rc) (hD:D b) (hblk:w.heap[b]?=some (.cells #[.int .i64 (line:Nat),.string ⟨s.toArray⟩,.slice va vn vc] 303 (0,0))) (hown:Co D w 150 1 (.slice va vn vc) ks.length ks) (hrep:Al D w c ks) (hb:ks.length<=500000) :
  Calls Tryz.prog 266 #[.pointer (some ⟨K.cb,0,none⟩),.pointer (some ⟨b,0,none⟩)] w fun e w'=>e=.returned (.tuple #[])/\K.St D w' (outer++cur) bk wh inn (Bp K.fns c outer cur wh inn (E2 (Nn K.fns s (Ar c)) 3 line f)).2 rc/\A3 D w w':=by
 obtain⟨hlo,lcb,hncb⟩:=hst.lo;have hvn:vn=ks.length:=(C8 hown.1).1;have hlen:=hrep.len;rw[←hlen];subst hvn;obtain⟨p,hp⟩:=hst.fr.find s K.fns.length (Nat.le_refl _);have hfl:=hst.fr.len;have HNm:=A0 (fun(n:Nat)=>Yj (hst.drewN n).fr K.fns.length (Nat.le_refl _) s p hp);have hfn:=A8d hp ks.length;have HSt:=A0 hst;have HOwn:=A0 hown;have HRep:=A0 hrep;have HBlk:=A0 hblk;obtain⟨na,nn,nc,ba,bn,bc,la,ln,lc,ls,hv⟩:=hst.st;obtain⟨c0,c1,c2,c3,c4,c5,c6,c7,fz,lb⟩:=N6 hv.cell;rw[hfl]at c0;have d0:=A2 hblk 0 _ rfl;have d1:=A2 hblk 1 _ rfl;have d2:=A2 hblk 2 _ rfl;have ld:=A4 hblk;clear hst hown hrep hblk hp hv hlen;have HRun:=A0 (fun(W:World) (g:Cn) (hs:K.St D W (outer++cur) bk wh inn g rc) (hbd:A3 D w W)=>X6 K c hok hwf D W outer cur bk wh inn g rc va ks.length vc ks hs (HOwn.o.Bn hbd) (HRep.o.Bn hbd) hb);rcases hfn with⟨rfl,hcb⟩|⟨pb,pa,m,pc,rfl,hcb,lpb,cp⟩
 ·rw[hcb];clear hcb hfl;go_enter Tryz.func266,Tryz.ntmps266;go_wp2;go_quiet ((go_at_call 263;exact Calls.quiet_of_same (HNm.o _)))
  have A9:=A0 (HSt.o.drewN nq);have A5:=A0 (E6 D w nq);have J6:Hid ((w.drewN nq).heap[b]?=_):=HBlk.o;clear c0 c1 c2 c3 c4 c5 c6 c7 fz lb d0 d1 d2 ld;generalize w.drewN nq=w1 at *;have d0:=A2 J6.o 0 _ rfl;have d1:=A2 J6.o 1 _ rfl;have d2:=A2 J6.o 2 _ rfl;have ld:=A4 J6.o;go_wp2;go_quiet (fail)
  have Ak:=A0 (A9.o.drewN nq);have Aa:Hid (A3 D w (w1.drewN nq)):=A5.o.trans (E6 D w1 nq);have HBlk2:Hid ((w1.drewN nq).heap[b]?=_):=J6.o;clear d0 d1 d2 ld;generalize w1.drewN nq=w2 at *;have d0:=A2 HBlk2.o 0 _ rfl;have d2:=A2 HBlk2.o 2 _ rfl;have ld:=A4 HBlk2.o;go_wp2_with fail
  refine(O7 Ak.o.st 3 line).mono ?_;rintro e w3 ⟨rfl,Bx,Aj⟩;have Bh:=A0 (Ak.o.next Bx Aj);have At:Hid (A3 D w w3):=Aa.o.trans Aj;have HBlk3:=A0 ((Aj.block b hD).trans HBlk2.o);clear Bx Aj d0 d2 ld;have d2:=A2 HBlk3.o 2 _ rfl;have ld:=A4 HBlk3.o;go_wp2_with fail
  refine(HRun.o _ _ Bh.o At.o).mono ?_;rintro e w4 ⟨rfl,F6,B4⟩;have Ep:=A0 F6;have Ci:Hid (A3 D w w4):=At.o.trans B4;clear F6 B4;go_wp2;go_end0;exact⟨rfl,Ep.o,Ci.o⟩
 ·rw[hcb];clear hfl;cases hm:(m !=ks.length)
  ·have tm:((m:Int) !=(ks.length:Int))=false:=by simp at hm ⊢;omega
   rw[Oy];clear hcb hm;go_enter Tryz.func266,Tryz.ntmps266;go_wp2;go_quiet ((go_at_call 263;exact Calls.quiet_of_same (HNm.o _)))
   have A9:=A0 (HSt.o.drewN nq);have A5:=A0 (E6 D w nq);have J6:Hid ((w.drewN nq).heap[b]?=_):=HBlk.o;have HCp:Hid ((w.drewN nq).cell? ⟨pb,2,none⟩=_):=cp;have lpb1:pb<(w.drewN nq).heap.size:=lpb;clear cp lpb;clear c0 c1 c2 c3 c4 c5 c6 c7 fz lb d0 d1 d2 ld;generalize w.drewN nq=w1 at *;have d0:=A2 J6.o 0 _ rfl;have d1:=A2 J6.o 1 _ rfl;have d2:=A2 J6.o 2 _ rfl;have ld:=A4 J6.o;have cp:=HCp.o;go_wp2;go_quiet (fail)
   have Ak:=A0 (A9.o.drewN nq);have Aa:Hid (A3 D w (w1.drewN nq)):=A5.o.trans (E6 D w1 nq);have HBlk2:Hid ((w1.drewN nq).heap[b]?=_):=J6.o;clear d0 d1 d2 ld cp lpb1 HCp;generalize w1.drewN nq=w2 at *;have d0:=A2 HBlk2.o 0 _ rfl;have d2:=A2 HBlk2.o 2 _ rfl;have ld:=A4 HBlk2.o;go_wp2_with fail
   refine(HRun.o _ _ Ak.o Aa.o).mono ?_;rintro e w4 ⟨rfl,F6,B4⟩;have Ep:=A0 F6;have Ci:Hid (A3 D w w4):=Aa.o.trans B4;clear F6 B4;go_wp2;go_end0;exact⟨rfl,Ep.o,Ci.o⟩
  ·have tm:((m:Int) !=(ks.length:Int))=true:=by simp at hm ⊢;omega
   clear hcb hm;go_enter Tryz.func266,Tryz.ntmps266;go_wp2;go_quiet ((go_at_call 263;exact Calls.quiet_of_same (HNm.o _)))
   have A9:=A0 (HSt.o.drewN nq);have A5:=A0 (E6 D w nq);have J6:Hid ((w.drewN nq).heap[b]?=_):=HBlk.o;have HCp:Hid ((w.drewN nq).cell? ⟨pb,2,none⟩=_):=cp;have lpb1:pb<(w.drewN nq).heap.size:=lpb;clear cp lpb;clear c0 c1 c2 c3 c4 c5 c6 c7 fz lb d0 d1 d2 ld;generalize w.drewN nq=w1 at *;have d0:=A2 J6.o 0 _ rfl;have d1:=A2 J6.o 1 _ rfl;have d2:=A2 J6.o 2 _ rfl;have ld:=A4 J6.o;have cp:=HCp.o;go_wp2;go_quiet (fail)
   have Ak:=A0 (A9.o.drewN nq);have Aa:Hid (A3 D w (w1.drewN nq)):=A5.o.trans (E6 D w1 nq);have HBlk2:Hid ((w1.drewN nq).heap[b]?=_):=J6.o;clear d0 d1 d2 ld cp lpb1 HCp;generalize w1.drewN nq=w2 at *;have d0:=A2 HBlk2.o 0 _ rfl;have d2:=A2 HBlk2.o 2 _ rfl;have ld:=A4 HBlk2.o;go_wp2_with fail
   refine(O7 Ak.o.st 3 line).mono ?_;rintro e w3 ⟨rfl,Bx,Aj⟩;have Bh:=A0 (Ak.o.next Bx Aj);have At:Hid (A3 D w w3):=Aa.o.trans Aj;have HBlk3:=A0 ((Aj.block b hD).trans HBlk2.o);clear Bx Aj d0 d2 ld;have d2:=A2 HBlk3.o 2 _ rfl;have ld:=A4 HBlk3.o;go_wp2_with fail
   refine(HRun.o _ _ Bh.o At.o).mono ?_;rintro e w4 ⟨rfl,F6,B4⟩;have Ep:=A0 F6;have Ci:Hid (A3 D w w4):=At.o.trans B4;clear F6 B4;go_wp2;go_end0;exact⟨rfl,Ep.o,Ci.o⟩
end
end Go.Proofs.YtjdlndhfaaolaaaGreatDoor
