import Derived.Test.YtjdlndhfaaolaaaGreatDoorR21
import Derived.Test.YtjdlndhfaaolaaaGreatDoorR33
set_option maxHeartbeats 20000000
namespace Go.Proofs.YtjdlndhfaaolaaaGreatDoor
section
open Go.RowKit
structure Mq (b : Nat) (row : Option Nat) (w w' : World) : Prop where
 os:w'.os=w.os
 tape:w'.tape=w.tape
 output:w'.output=w.output
 size:w.heap.size<=w'.heap.size
 block:∀k,k<w.heap.size->k≠b->row≠some k->w'.heap[k]?=w.heap[k]?
theorem Mq.refl(b:Nat)(row:Option Nat)(w:World):Mq b row w w:=⟨rfl,rfl,rfl,Nat.le_refl _,fun _ _ _ _=>rfl⟩
structure Gl (T : TypeId) (b o : Nat) (w : World) (cs : Array Value) (t : TypeId) (va : Option Addr) (vn vc : Nat) (xs : List Value) : Prop where
 blk:w.heap[b]?=some (.cells cs t (0,0))
 cell:cs[o]?=some (.slice va vn vc)
 own:w.ownsRow 0 T 1 (.slice va vn vc) xs.length xs
 ne:(Value.slice va vn vc).ownBlock≠some b
def O4(T:TypeId)(b o:Nat)(w:World)(cs:Array Value)(t:TypeId)(va:Option Addr)(vn vc:Nat)(xs:List Value)(u:Value)(w':World):Prop:=
 ∃g cap,Gl T b o w' (cs.setIfInBounds o (.slice (some ⟨g,0,none⟩) (xs.length+1) cap)) t (some ⟨g,0,none⟩) (xs.length+1) cap (xs++[u])/\((Value.slice va vn vc).ownBlock=some g\/w.heap.size<=g)/\Mq b (Value.slice va vn vc).ownBlock w w'
def Mn(T:TypeId)(b o:Nat)(w:World)(cs:Array Value)(t:TypeId)(va:Option Addr)(vn vc:Nat)(xs:List Value)(m:Nat)(w':World):Prop:=
 Gl T b o w' (cs.setIfInBounds o (.slice va m vc)) t va m vc (xs.take m)/\Mq b (Value.slice va vn vc).ownBlock w w'
theorem Tx{cs:Array Value}{o:Nat}{v:Value}(h:cs[o]?=some v):cs.setIfInBounds o v=cs:=by
 apply Array.ext_getElem?;intro i;rw[Array.getElem?_setIfInBounds];split
 ·rename_i e;subst e;rw[h];split
  ·rfl
  ·rename_i hn;rw[Array.getElem?_eq_none (by omega)]at h;cases h
 ·rfl
theorem T3(g:Nat)(t:TypeId)(fr:Nat×Nat):∀(vs:List Value) (o:Nat) (cur:Array Value) (w:World),w.heap[g]?=some (.cells cur t fr)->
  ∃cur',(w.setCells g o vs).heap[g]?=some (.cells cur' t fr)/\cur'.size=cur.size/\∀m,m<=o->cur'.toList.take m=cur.toList.take m:=by
 intro vs;induction vs with
 | nil=>intro o cur w h;exact⟨cur,h,rfl,fun _ _=>rfl⟩
 | cons v r ih=>
  intro o cur w h;obtain⟨cur',h1,h2,h3⟩:=ih (o+1) _ _ (heap_set (j:=o) h v);refine⟨cur',h1,by rw[h2];simp,fun m hm=>?_⟩;rw[h3 m (by omega)];simp only[Array.toList_setIfInBounds];rw[List.take_set_of_le (by omega)]
theorem Tw(g:Nat):∀(vs:List Value) (o:Nat) (w:World),(w.setCells g o vs).os=w.os/\(w.setCells g o vs).tape=w.tape/\(w.setCells g o vs).output=w.output/\(w.setCells g o vs).heap.size=w.heap.size/\∀k,k≠g->(w.setCells g o vs).heap[k]?=w.heap[k]?:=by
 intro vs;induction vs with
 | nil=>intro o w;exact⟨rfl,rfl,rfl,rfl,fun _ _=>rfl⟩
 | cons v r ih=>
  intro o w;obtain⟨h1,h2,h3,h4,h5⟩:=ih (o+1) (w.setCell ⟨g,o,none⟩ v);exact⟨h1,h2,h3,h4.trans (by simp[World.setCell]),fun k hk=>(h5 k hk).trans (Below.heap_setCell _ _ _ _ (by exact hk))⟩
theorem J3{w:World}{b o:Nat}{cs:Array Value}{t:TypeId}{v:Value}(h:w.heap[b]?=some (.cells cs t (0,0)))(hc:cs[o]?=some v):w.cell? ⟨b,o,none⟩=some v:=Ac h o v hc
end
section
set_option maxRecDepth 100000
open Go.RowKit
variable {b o:Nat}{w:World}{cs:Array Value}{t:TypeId}{va:Option Addr}{vn vc:Nat}{xs:List Value}
theorem A67:(Tryz.prog.info? 255).map (fun i=>(i.zero,i.size,i.bytes))=some (some (.pointer none),1,8):=by kernel_rfl
theorem R8(h:Gl 9 b o w cs t va vn vc xs):Calls Tryz.prog 136 #[.pointer (some ⟨b,o,none⟩)] w fun e w'=>e=.returned (.int .i64 (xs.length:Nat))/\w'=w:=by
 have c:=J3 h.blk h.cell;have lb:=A5 h.blk;have hv:vn=xs.length:=(C9 h.own).1;subst hv;clear h;go_enter Tryz.func136,Tryz.ntmps136;go_wp2;go_ret;exact⟨rfl,rfl⟩
theorem o3(h:Gl 9 b o w cs t va vn vc xs)(i:Nat)(hi:i<xs.length):Calls Tryz.prog 138 #[.pointer (some ⟨b,o,none⟩),.int .i64 (i:Nat)] w fun e w'=>e=.returned xs[i]/\w'=w:=by
 have c:=J3 h.blk h.cell;have lb:=A5 h.blk;have hv:vn=xs.length:=(C9 h.own).1;subst hv;obtain⟨g,rfl,_,hcap,lg,fz,hx,cg⟩:=Nd h.own i hi;clear h;generalize xs[i]=x at *;go_enter Tryz.func138,Tryz.ntmps138;go_wp2;go_ret;exact⟨rfl,rfl⟩
theorem U0(h:Gl 9 b o w cs t va vn vc xs)(hn:xs.length<=900000)(u:ByteArray)(ho:o<cs.size):Calls Tryz.prog 137 #[.pointer (some ⟨b,o,none⟩),.string u] w fun e w'=>e=.returned (.tuple #[])/\O4 9 b o w cs t va vn vc xs (.string u) w':=by
 have c:=J3 h.blk h.cell;have lb:=A5 h.blk;have fz:=Ce h.blk;have hv:vn=xs.length:=(C9 h.own).1;subst hv;have hown:=h.own;have HH:=A0 h;have HNe:=A0 h.ne;clear h;go_enter Tryz.func137,Tryz.ntmps137;go_wp2_with (at_builtin;refine F1 w #[.string u] 9 rfl (.tmp 8) (.tmp 10) 37 rfl 0 1 16 (.string ⟨#[]⟩) Tryz.underlying37 Rq rfl (by omega) (.slice va xs.length vc) xs.length xs rfl rfl hown rfl (fun v hv=>by simp at hv;rw[hv];rfl) (by omega) (by omega) (Nat.zero_le _) ?_;intro g cap w1 E1 hgrow hat hg;have A3:=(hgrow.block b lb (fun e=>HNe.o e.symm)).trans HH.o.blk;have c1:=J3 A3 HH.o.cell;have f1:=Ce A3;have F7:=A5 A3;have Ab:=A0 A3;have HOwn1:=A0 E1;have HGrow:=A0 hgrow;have HAt:=A0 hat;clear A3 E1 hgrow hat)
 go_end0;have hgb:g≠b:=by
  rcases HAt.o with e|e
  ·intro e2;rw[e2]at e;exact HNe.o e
  ·omega
 refine⟨rfl,g,cap,⟨heap_set Ab.o _,?_,?_,by simp only[Value.ownBlock,ne_eq,Option.some.injEq];exact hgb⟩,HAt.o.imp id (fun e=>by omega),⟨HGrow.o.os,HGrow.o.tape,HGrow.o.output,by simp[World.setCell];exact HGrow.o.size,fun k hk hkb hkr=>?_⟩⟩
 ·rw[Array.getElem?_setIfInBounds,if_pos rfl,if_pos ho]
 ·rw[List.length_append];exact Bb HOwn1.o (fun k hk _=>Below.heap_setCell _ _ _ _ (by simp only[Value.ownBlock,Option.some.injEq]at hk;show k≠b;omega))
 ·exact(Below.heap_setCell _ _ _ _ (by exact hkb)).trans (HGrow.o.block k hk (fun e=>hkr e.symm))
theorem r8(h:Gl 3 b o w cs t va vn vc xs):Calls Tryz.prog 243 #[.pointer (some ⟨b,o,none⟩)] w fun e w'=>e=.returned (.int .i64 (xs.length:Nat))/\w'=w:=by
 have c:=J3 h.blk h.cell;have lb:=A5 h.blk;have hv:vn=xs.length:=(C9 h.own).1;subst hv;clear h;go_enter Tryz.func243,Tryz.ntmps243;go_wp2;go_ret;exact⟨rfl,rfl⟩
theorem Aae(h:Gl 3 b o w cs t va vn vc xs)(i:Nat)(hi:i<xs.length):Calls Tryz.prog 271 #[.pointer (some ⟨b,o,none⟩),.int .i64 (i:Nat)] w fun e w'=>e=.returned xs[i]/\w'=w:=by
 have c:=J3 h.blk h.cell;have lb:=A5 h.blk;have hv:vn=xs.length:=(C9 h.own).1;subst hv;obtain⟨g,rfl,_,hcap,lg,fz,hx,cg⟩:=Nd h.own i hi;clear h;generalize xs[i]=x at *;go_enter Tryz.func271,Tryz.ntmps271;go_wp2;go_ret;exact⟨rfl,rfl⟩
theorem y8(h:Gl 3 b o w cs t va vn vc xs)(hn:xs.length<=1000000)(n:Nat)(hi:n<xs.length)(h0:xs.length=n+1):Calls Tryz.prog 241 #[.pointer (some ⟨b,o,none⟩)] w fun e w'=>e=.returned (xs[n]'hi)/\w'=w:=by
 have HL:=A0 (r8 h);have HA:=A0 (Aae h n hi);rw[h0]at HL;have D9:n<=1000000:=by omega
 generalize hx:xs[n]'hi=x at HA ⊢;clear h h0 hx;go_enter Tryz.func241,Tryz.ntmps241;go_wp2_with fail
 refine HL.o.mono ?_;rintro e w' ⟨rfl,rfl⟩;go_wp2_with fail
 refine HA.o.mono ?_;rintro e w' ⟨rfl,rfl⟩;go_wp2;go_ret;exact⟨rfl,rfl⟩
theorem Ac3(h:Gl 3 b o w cs t va vn vc xs)(hn:xs.length<=900000)(u:Int)(ho:o<cs.size):Calls Tryz.prog 191 #[.pointer (some ⟨b,o,none⟩),.int .i64 u] w fun e w'=>e=.returned (.tuple #[])/\O4 3 b o w cs t va vn vc xs (.int .i64 u) w':=by
 have c:=J3 h.blk h.cell;have lb:=A5 h.blk;have fz:=Ce h.blk;have hv:vn=xs.length:=(C9 h.own).1;subst hv;have hown:=h.own;have HH:=A0 h;have HNe:=A0 h.ne;clear h;go_enter Tryz.func191,Tryz.ntmps191;go_wp2_with (at_builtin;refine F1 w #[.int .i64 u] 3 rfl (.tmp 8) (.tmp 10) 34 rfl 0 1 8 (.int .i64 0) Tryz.underlying34 V6 rfl (by omega) (.slice va xs.length vc) xs.length xs rfl rfl hown rfl (fun v hv=>by simp at hv;rw[hv];rfl) (by omega) (by omega) (Nat.zero_le _) ?_;intro g cap w1 E1 hgrow hat hg;have A3:=(hgrow.block b lb (fun e=>HNe.o e.symm)).trans HH.o.blk;have c1:=J3 A3 HH.o.cell;have f1:=Ce A3;have F7:=A5 A3;have Ab:=A0 A3;have HOwn1:=A0 E1;have HGrow:=A0 hgrow;have HAt:=A0 hat;clear A3 E1 hgrow hat)
 go_end0;have hgb:g≠b:=by
  rcases HAt.o with e|e
  ·intro e2;rw[e2]at e;exact HNe.o e
  ·omega
 refine⟨rfl,g,cap,⟨heap_set Ab.o _,?_,?_,by simp only[Value.ownBlock,ne_eq,Option.some.injEq];exact hgb⟩,HAt.o.imp id (fun e=>by omega),⟨HGrow.o.os,HGrow.o.tape,HGrow.o.output,by simp[World.setCell];exact HGrow.o.size,fun k hk hkb hkr=>?_⟩⟩
 ·rw[Array.getElem?_setIfInBounds,if_pos rfl,if_pos ho]
 ·rw[List.length_append];exact Bb HOwn1.o (fun k hk _=>Below.heap_setCell _ _ _ _ (by simp only[Value.ownBlock,Option.some.injEq]at hk;show k≠b;omega))
 ·exact(Below.heap_setCell _ _ _ _ (by exact hkb)).trans (HGrow.o.block k hk (fun e=>hkr e.symm))
theorem Wb(h:Gl 255 b o w cs t va vn vc xs):Calls Tryz.prog 270 #[.pointer (some ⟨b,o,none⟩)] w fun e w'=>e=.returned (.int .i64 (xs.length:Nat))/\w'=w:=by
 have c:=J3 h.blk h.cell;have lb:=A5 h.blk;have hv:vn=xs.length:=(C9 h.own).1;subst hv;clear h;go_enter Tryz.func270,Tryz.ntmps270;go_wp2;go_ret;exact⟨rfl,rfl⟩
theorem Aag(h:Gl 255 b o w cs t va vn vc xs)(i:Nat)(hi:i<xs.length):Calls Tryz.prog 286 #[.pointer (some ⟨b,o,none⟩),.int .i64 (i:Nat)] w fun e w'=>e=.returned xs[i]/\w'=w:=by
 have c:=J3 h.blk h.cell;have lb:=A5 h.blk;have hv:vn=xs.length:=(C9 h.own).1;subst hv;obtain⟨g,rfl,_,hcap,lg,fz,hx,cg⟩:=Nd h.own i hi;clear h;generalize xs[i]=x at *;go_enter Tryz.func286,Tryz.ntmps286;go_wp2;go_ret;exact⟨rfl,rfl⟩
theorem Acm(h:Gl 255 b o w cs t va vn vc xs)(hn:xs.length<=1000000)(n:Nat)(hi:n<xs.length)(h0:xs.length=n+1):Calls Tryz.prog 268 #[.pointer (some ⟨b,o,none⟩)] w fun e w'=>e=.returned (xs[n]'hi)/\w'=w:=by
 have HL:=A0 (Wb h);have HA:=A0 (Aag h n hi);rw[h0]at HL;have D9:n<=1000000:=by omega
 generalize hx:xs[n]'hi=x at HA ⊢;clear h h0 hx;go_enter Tryz.func268,Tryz.ntmps268;go_wp2_with fail
 refine HL.o.mono ?_;rintro e w' ⟨rfl,rfl⟩;go_wp2_with fail
 refine HA.o.mono ?_;rintro e w' ⟨rfl,rfl⟩;go_wp2;go_ret;exact⟨rfl,rfl⟩
theorem Ac5(h:Gl 255 b o w cs t va vn vc xs)(hn:xs.length<=900000)(u:Option Addr)(ho:o<cs.size):Calls Tryz.prog 237 #[.pointer (some ⟨b,o,none⟩),.pointer u] w fun e w'=>e=.returned (.tuple #[])/\O4 255 b o w cs t va vn vc xs (.pointer u) w':=by
 have c:=J3 h.blk h.cell;have lb:=A5 h.blk;have fz:=Ce h.blk;have hv:vn=xs.length:=(C9 h.own).1;subst hv;have hown:=h.own;have HH:=A0 h;have HNe:=A0 h.ne;clear h;go_enter Tryz.func237,Tryz.ntmps237;go_wp2_with (at_builtin;refine F1 w #[.pointer u] 255 rfl (.tmp 8) (.tmp 10) 209 rfl 0 1 8 (.pointer none) Tryz.underlying209 A67 rfl (by omega) (.slice va xs.length vc) xs.length xs rfl rfl hown rfl (fun v hv=>by simp at hv;rw[hv];rfl) (by omega) (by omega) (Nat.zero_le _) ?_;intro g cap w1 E1 hgrow hat hg;have A3:=(hgrow.block b lb (fun e=>HNe.o e.symm)).trans HH.o.blk;have c1:=J3 A3 HH.o.cell;have f1:=Ce A3;have F7:=A5 A3;have Ab:=A0 A3;have HOwn1:=A0 E1;have HGrow:=A0 hgrow;have HAt:=A0 hat;clear A3 E1 hgrow hat)
 go_end0;have hgb:g≠b:=by
  rcases HAt.o with e|e
  ·intro e2;rw[e2]at e;exact HNe.o e
  ·omega
 refine⟨rfl,g,cap,⟨heap_set Ab.o _,?_,?_,by simp only[Value.ownBlock,ne_eq,Option.some.injEq];exact hgb⟩,HAt.o.imp id (fun e=>by omega),⟨HGrow.o.os,HGrow.o.tape,HGrow.o.output,by simp[World.setCell];exact HGrow.o.size,fun k hk hkb hkr=>?_⟩⟩
 ·rw[Array.getElem?_setIfInBounds,if_pos rfl,if_pos ho]
 ·rw[List.length_append];exact Bb HOwn1.o (fun k hk _=>Below.heap_setCell _ _ _ _ (by simp only[Value.ownBlock,Option.some.injEq]at hk;show k≠b;omega))
 ·exact(Below.heap_setCell _ _ _ _ (by exact hkb)).trans (HGrow.o.block k hk (fun e=>hkr e.symm))
theorem W4(h:Gl 9 b o w cs t va vn vc xs)(m:Nat)(hm:m<=xs.length)(ho:o<cs.size):Calls Tryz.prog 83 #[.pointer (some ⟨b,o,none⟩),.int .i64 (m:Nat)] w fun e w'=>e=.returned (.tuple #[])/\Mn 9 b o w cs t va vn vc xs m w':=by
 have c:=J3 h.blk h.cell;have lb:=A5 h.blk;have fz:=Ce h.blk;have hv:vn=xs.length:=(C9 h.own).1;subst hv;have HH:=A0 h;have HNe:=A0 h.ne;by_cases he:m=xs.length
 ·subst he;clear h;go_enter Tryz.func83,Tryz.ntmps83;go_wp2;refine bodyPost_ret (v:=.tuple #[]) (by simp[results,Tryz.results83,go_sem]) rfl ⟨rfl,?_,Mq.refl _ _ _⟩;rw[Tx HH.o.cell,List.take_length];exact HH.o
 ·obtain⟨g,rfl,hn0,hcap,lg,fg,hx,cg⟩:=Nd h.own m (by omega);obtain⟨hl,⟨h2,h3⟩|⟨g',cap,cur,hv,_,hg,hcap',hmx,hsz,ht⟩⟩:=h.own
  ·cases h2
  ·injection hv with e1 e2 e3;injection e1 with e1;injection e1 with e1;subst e1 e3;have hgb:g≠b:=fun e=>h.ne (by rw[←e];rfl);have hcs:∀j,j<xs.length-m->(w.cell? ⟨g,m+j,none⟩).isSome=true:=by
    intro j hj;rw[cell_of_row w g (m+j) cur _ _ hg,Array.getElem?_eq_getElem (by omega)];rfl
   have hcl:∀ty,(Builtin.clear_ #[37] ty #[.slice (some ⟨g,m,none⟩) (xs.length-m) (vc-m)]).run Tryz.prog w=.ok (.tuple #[]) (w.setCells g m (List.replicate (xs.length-m) (.string ⟨#[]⟩))):=
    fun ty=>Lib.run_clear_slice w 37 9 ty (.string ⟨#[]⟩) Tryz.underlying37 Tryz.zeroValue9 rfl rfl g m (xs.length-m) (vc-m) (by omega) hcs (fun j hj=>fg _)
   obtain⟨cur',k1,k2,k3⟩:=T3 g 9 (0,0) (List.replicate (xs.length-m) (.string ⟨#[]⟩)) m cur w hg;obtain⟨f1,f2,f3,f4,f5⟩:=Tw g (List.replicate (xs.length-m) (.string ⟨#[]⟩)) m w;have A3:=(f5 b (fun e=>hgb e.symm)).trans h.blk;have HK1:=A0 k1;have HK3:=A0 (k3 m (Nat.le_refl _));have HF:=A0 (And.intro f1 (And.intro f2 (And.intro f3 (And.intro f4 f5))));have HT:=A0 ht;have HSz:=A0 (k2.trans hsz);clear h hcs hg ht k1 k2 k3 f1 f2 f3 f5 hl hsz;have c1:=J3 A3 HH.o.cell;have g1:=Ce A3;have F7:=A5 A3;have Ab:=A0 A3;clear A3 f4;generalize w.setCells g m (List.replicate (xs.length-m) (.string ⟨#[]⟩))=w1 at *;go_enter Tryz.func83,Tryz.ntmps83;go_wp2;go_end0;obtain⟨p1,p2,p3,p4,p5⟩:=HF.o;have hset:∀k,k≠b->(w1.setCell ⟨b,o,none⟩ (.slice (some ⟨g,0,none⟩) m vc)).heap[k]?=w1.heap[k]?:=fun k hk=>Below.heap_setCell _ _ _ _ (by exact hk);refine⟨rfl,⟨heap_set Ab.o _,?_,⟨by simp,.inr ⟨g,vc,cur',?_,Nat.zero_le _,(hset g hgb).trans HK1.o,?_,hmx,HSz.o,?_⟩⟩,?_⟩,⟨p1,p2,p3,by simp[World.setCell];omega,fun k hk hkb hkr=>?_⟩⟩
   ·rw[Array.getElem?_setIfInBounds,if_pos rfl,if_pos ho]
   ·rw[List.length_take,Nat.min_eq_left hm]
   ·rw[List.length_take,Nat.min_eq_left hm];omega
   ·rw[List.length_take,Nat.min_eq_left hm,Nat.mul_one,HK3.o,←HT.o,List.take_take,Nat.mul_one,Nat.min_eq_left hm]
   ·simp only[Value.ownBlock,ne_eq,Option.some.injEq];exact hgb
   ·exact(hset k hkb).trans (p5 k (fun e=>hkr (by rw[e];rfl)))
theorem Aao(h:Gl 3 b o w cs t va vn vc xs)(m:Nat)(hm:m<=xs.length)(ho:o<cs.size):Calls Tryz.prog 242 #[.pointer (some ⟨b,o,none⟩),.int .i64 (m:Nat)] w fun e w'=>e=.returned (.tuple #[])/\Mn 3 b o w cs t va vn vc xs m w':=by
 have c:=J3 h.blk h.cell;have lb:=A5 h.blk;have fz:=Ce h.blk;have hv:vn=xs.length:=(C9 h.own).1;subst hv;have HH:=A0 h;have HNe:=A0 h.ne;by_cases he:m=xs.length
 ·subst he;clear h;go_enter Tryz.func242,Tryz.ntmps242;go_wp2;refine bodyPost_ret (v:=.tuple #[]) (by simp[results,Tryz.results242,go_sem]) rfl ⟨rfl,?_,Mq.refl _ _ _⟩;rw[Tx HH.o.cell,List.take_length];exact HH.o
 ·obtain⟨g,rfl,hn0,hcap,lg,fg,hx,cg⟩:=Nd h.own m (by omega);obtain⟨hl,⟨h2,h3⟩|⟨g',cap,cur,hv,_,hg,hcap',hmx,hsz,ht⟩⟩:=h.own
  ·cases h2
  ·injection hv with e1 e2 e3;injection e1 with e1;injection e1 with e1;subst e1 e3;have hgb:g≠b:=fun e=>h.ne (by rw[←e];rfl);have hcs:∀j,j<xs.length-m->(w.cell? ⟨g,m+j,none⟩).isSome=true:=by
    intro j hj;rw[cell_of_row w g (m+j) cur _ _ hg,Array.getElem?_eq_getElem (by omega)];rfl
   have hcl:∀ty,(Builtin.clear_ #[34] ty #[.slice (some ⟨g,m,none⟩) (xs.length-m) (vc-m)]).run Tryz.prog w=.ok (.tuple #[]) (w.setCells g m (List.replicate (xs.length-m) (.int .i64 0))):=
    fun ty=>Lib.run_clear_slice w 34 3 ty (.int .i64 0) Tryz.underlying34 Tryz.zeroValue3 rfl rfl g m (xs.length-m) (vc-m) (by omega) hcs (fun j hj=>fg _)
   obtain⟨cur',k1,k2,k3⟩:=T3 g 3 (0,0) (List.replicate (xs.length-m) (.int .i64 0)) m cur w hg;obtain⟨f1,f2,f3,f4,f5⟩:=Tw g (List.replicate (xs.length-m) (.int .i64 0)) m w;have A3:=(f5 b (fun e=>hgb e.symm)).trans h.blk;have HK1:=A0 k1;have HK3:=A0 (k3 m (Nat.le_refl _));have HF:=A0 (And.intro f1 (And.intro f2 (And.intro f3 (And.intro f4 f5))));have HT:=A0 ht;have HSz:=A0 (k2.trans hsz);clear h hcs hg ht k1 k2 k3 f1 f2 f3 f5 hl hsz;have c1:=J3 A3 HH.o.cell;have g1:=Ce A3;have F7:=A5 A3;have Ab:=A0 A3;clear A3 f4;generalize w.setCells g m (List.replicate (xs.length-m) (.int .i64 0))=w1 at *;go_enter Tryz.func242,Tryz.ntmps242;go_wp2;go_end0;obtain⟨p1,p2,p3,p4,p5⟩:=HF.o;have hset:∀k,k≠b->(w1.setCell ⟨b,o,none⟩ (.slice (some ⟨g,0,none⟩) m vc)).heap[k]?=w1.heap[k]?:=fun k hk=>Below.heap_setCell _ _ _ _ (by exact hk);refine⟨rfl,⟨heap_set Ab.o _,?_,⟨by simp,.inr ⟨g,vc,cur',?_,Nat.zero_le _,(hset g hgb).trans HK1.o,?_,hmx,HSz.o,?_⟩⟩,?_⟩,⟨p1,p2,p3,by simp[World.setCell];omega,fun k hk hkb hkr=>?_⟩⟩
   ·rw[Array.getElem?_setIfInBounds,if_pos rfl,if_pos ho]
   ·rw[List.length_take,Nat.min_eq_left hm]
   ·rw[List.length_take,Nat.min_eq_left hm];omega
   ·rw[List.length_take,Nat.min_eq_left hm,Nat.mul_one,HK3.o,←HT.o,List.take_take,Nat.mul_one,Nat.min_eq_left hm]
   ·simp only[Value.ownBlock,ne_eq,Option.some.injEq];exact hgb
   ·exact(hset k hkb).trans (p5 k (fun e=>hkr (by rw[e];rfl)))
theorem Abz(h:Gl 3 b o w cs t va vn vc xs)(hn:xs.length<=1000000)(n:Nat)(hi:n<xs.length)(h0:xs.length=n+1)(ho:o<cs.size):Calls Tryz.prog 193 #[.pointer (some ⟨b,o,none⟩)] w fun e w'=>e=.returned (xs[n]'hi)/\Mn 3 b o w cs t va vn vc xs n w':=by
 have HT:=A0 (y8 h hn n hi h0);have HL:=A0 (r8 h);have HC:=A0 (Aao h n (by omega) ho);rw[h0]at HL;have D9:n<=1000000:=by omega
 generalize hx:xs[n]'hi=x at HT ⊢;clear h h0 hx;go_enter Tryz.func193,Tryz.ntmps193;go_wp2_with fail
 refine HT.o.mono ?_;rintro e w' ⟨rfl,rfl⟩;go_wp2_with fail
 refine HL.o.mono ?_;rintro e w' ⟨rfl,rfl⟩;go_wp2_with fail
 refine HC.o.mono ?_;rintro e w1 ⟨rfl,hc⟩;have I3:=A0 hc;clear hc;go_wp2;go_ret;exact⟨rfl,I3.o⟩
theorem Aaq(h:Gl 255 b o w cs t va vn vc xs)(m:Nat)(hm:m<=xs.length)(ho:o<cs.size):Calls Tryz.prog 269 #[.pointer (some ⟨b,o,none⟩),.int .i64 (m:Nat)] w fun e w'=>e=.returned (.tuple #[])/\Mn 255 b o w cs t va vn vc xs m w':=by
 have c:=J3 h.blk h.cell;have lb:=A5 h.blk;have fz:=Ce h.blk;have hv:vn=xs.length:=(C9 h.own).1;subst hv;have HH:=A0 h;have HNe:=A0 h.ne;by_cases he:m=xs.length
 ·subst he;clear h;go_enter Tryz.func269,Tryz.ntmps269;go_wp2;refine bodyPost_ret (v:=.tuple #[]) (by simp[results,Tryz.results269,go_sem]) rfl ⟨rfl,?_,Mq.refl _ _ _⟩;rw[Tx HH.o.cell,List.take_length];exact HH.o
 ·obtain⟨g,rfl,hn0,hcap,lg,fg,hx,cg⟩:=Nd h.own m (by omega);obtain⟨hl,⟨h2,h3⟩|⟨g',cap,cur,hv,_,hg,hcap',hmx,hsz,ht⟩⟩:=h.own
  ·cases h2
  ·injection hv with e1 e2 e3;injection e1 with e1;injection e1 with e1;subst e1 e3;have hgb:g≠b:=fun e=>h.ne (by rw[←e];rfl);have hcs:∀j,j<xs.length-m->(w.cell? ⟨g,m+j,none⟩).isSome=true:=by
    intro j hj;rw[cell_of_row w g (m+j) cur _ _ hg,Array.getElem?_eq_getElem (by omega)];rfl
   have hcl:∀ty,(Builtin.clear_ #[209] ty #[.slice (some ⟨g,m,none⟩) (xs.length-m) (vc-m)]).run Tryz.prog w=.ok (.tuple #[]) (w.setCells g m (List.replicate (xs.length-m) (.pointer none))):=
    fun ty=>Lib.run_clear_slice w 209 255 ty (.pointer none) Tryz.underlying209 Tryz.zeroValue255 rfl rfl g m (xs.length-m) (vc-m) (by omega) hcs (fun j hj=>fg _)
   obtain⟨cur',k1,k2,k3⟩:=T3 g 255 (0,0) (List.replicate (xs.length-m) (.pointer none)) m cur w hg;obtain⟨f1,f2,f3,f4,f5⟩:=Tw g (List.replicate (xs.length-m) (.pointer none)) m w;have A3:=(f5 b (fun e=>hgb e.symm)).trans h.blk;have HK1:=A0 k1;have HK3:=A0 (k3 m (Nat.le_refl _));have HF:=A0 (And.intro f1 (And.intro f2 (And.intro f3 (And.intro f4 f5))));have HT:=A0 ht;have HSz:=A0 (k2.trans hsz);clear h hcs hg ht k1 k2 k3 f1 f2 f3 f5 hl hsz;have c1:=J3 A3 HH.o.cell;have g1:=Ce A3;have F7:=A5 A3;have Ab:=A0 A3;clear A3 f4;generalize w.setCells g m (List.replicate (xs.length-m) (.pointer none))=w1 at *;go_enter Tryz.func269,Tryz.ntmps269;go_wp2;go_end0;obtain⟨p1,p2,p3,p4,p5⟩:=HF.o;have hset:∀k,k≠b->(w1.setCell ⟨b,o,none⟩ (.slice (some ⟨g,0,none⟩) m vc)).heap[k]?=w1.heap[k]?:=fun k hk=>Below.heap_setCell _ _ _ _ (by exact hk);refine⟨rfl,⟨heap_set Ab.o _,?_,⟨by simp,.inr ⟨g,vc,cur',?_,Nat.zero_le _,(hset g hgb).trans HK1.o,?_,hmx,HSz.o,?_⟩⟩,?_⟩,⟨p1,p2,p3,by simp[World.setCell];omega,fun k hk hkb hkr=>?_⟩⟩
   ·rw[Array.getElem?_setIfInBounds,if_pos rfl,if_pos ho]
   ·rw[List.length_take,Nat.min_eq_left hm]
   ·rw[List.length_take,Nat.min_eq_left hm];omega
   ·rw[List.length_take,Nat.min_eq_left hm,Nat.mul_one,HK3.o,←HT.o,List.take_take,Nat.mul_one,Nat.min_eq_left hm]
   ·simp only[Value.ownBlock,ne_eq,Option.some.injEq];exact hgb
   ·exact(hset k hkb).trans (p5 k (fun e=>hkr (by rw[e];rfl)))
theorem Ac1(h:Gl 255 b o w cs t va vn vc xs)(hn:xs.length<=1000000)(n:Nat)(hi:n<xs.length)(h0:xs.length=n+1)(ho:o<cs.size):Calls Tryz.prog 238 #[.pointer (some ⟨b,o,none⟩)] w fun e w'=>e=.returned (xs[n]'hi)/\Mn 255 b o w cs t va vn vc xs n w':=by
 have HT:=A0 (Acm h hn n hi h0);have HL:=A0 (Wb h);have HC:=A0 (Aaq h n (by omega) ho);rw[h0]at HL;have D9:n<=1000000:=by omega
 generalize hx:xs[n]'hi=x at HT ⊢;clear h h0 hx;go_enter Tryz.func238,Tryz.ntmps238;go_wp2_with fail
 refine HT.o.mono ?_;rintro e w' ⟨rfl,rfl⟩;go_wp2_with fail
 refine HL.o.mono ?_;rintro e w' ⟨rfl,rfl⟩;go_wp2_with fail
 refine HC.o.mono ?_;rintro e w1 ⟨rfl,hc⟩;have I3:=A0 hc;clear hc;go_wp2;go_ret;exact⟨rfl,I3.o⟩
end
section
open Go.RowKit
open Go.Deep (BT)
def D3(ns:List Nm):List Value:=ns.map Lr
def Cr(bk:List Nat):List Value:=bk.map N1
structure Ij (D : Nat -> Prop) (cb te : Nat) (w : World) (ns : List Nm) (bk : List Nat) (wh : Nat) (inn : Bool) (f : B3) (rc : Nat) (fa : Option Addr) (fn fc : Nat) (na : Option Addr) (nn nc : Nat) (ba : Option Addr) (bn bc : Nat) (la : Option Addr) (ln lc : Nat) (ls : List Value) : Prop where
 cell:w.heap[cb]?=some (.cells #[.slice fa fn fc,.int .i64 (rc:Nat),.slice na nn nc,.slice ba bn bc,.slice la ln lc,.bool inn,.int .i64 (f.1:Nat),.int .i64 (f.2:Nat)] te (0,0))
 names:w.ownsRow 0 9 1 (.slice na nn nc) (D3 ns).length (D3 ns)
 blocks:w.ownsRow 0 3 1 (.slice ba bn bc) (Cr bk).length (Cr bk)
 loops:w.ownsRow 0 255 1 (.slice la ln lc) ls.length ls
 lsl:ls.length=wh
 Di:¬D cb
 C5:∀g,(Value.slice na nn nc).ownBlock=some g->¬D g/\g≠cb/\(Value.slice ba bn bc).ownBlock≠some g/\(Value.slice la ln lc).ownBlock≠some g
 Ed:∀g,(Value.slice ba bn bc).ownBlock=some g->¬D g/\g≠cb/\(Value.slice la ln lc).ownBlock≠some g
 K8:∀g,(Value.slice la ln lc).ownBlock=some g->¬D g/\g≠cb
 few:ns.length<=800000/\bk.length<=800000/\wh<=800000/\rc<=800000
 lo:∀g,D g->g<w.heap.size
def F8(D:Nat->Prop)(cb te:Nat)(w:World)(ns:List Nm)(bk:List Nat)(wh:Nat)(inn:Bool)(f:B3)(rc:Nat)(fa:Option Addr)(fn fc:Nat):Prop:=
 ∃na nn nc ba bn bc la ln lc ls,Ij D cb te w ns bk wh inn f rc fa fn fc na nn nc ba bn bc la ln lc ls
variable {D:Nat->Prop} {cb te:Nat} {w w':World} {ns:List Nm} {bk:List Nat} {wh:Nat} {inn:Bool} {f:B3} {rc:Nat} {fa:Option Addr} {fn fc:Nat} {na:Option Addr} {nn nc:Nat} {ba:Option Addr} {bn bc:Nat} {la:Option Addr} {ln lc:Nat} {ls:List Value}
theorem Ij.keep(h:Ij D cb te w ns bk wh inn f rc fa fn fc na nn nc ba bn bc la ln lc ls)(hk:∀g,g<w.heap.size->w'.heap[g]?=w.heap[g]?)(hs:w.heap.size<=w'.heap.size):Ij D cb te w' ns bk wh inn f rc fa fn fc na nn nc ba bn bc la ln lc ls:=
 ⟨(hk cb (A5 h.cell)).trans h.cell,Bb h.names (fun g _ hl=>hk g hl),Bb h.blocks (fun g _ hl=>hk g hl),Bb h.loops (fun g _ hl=>hk g hl),h.lsl,h.Di,h.C5,h.Ed,h.K8,h.few,fun g hg=>Nat.lt_of_lt_of_le (h.lo g hg) hs⟩
theorem F8.keep(h:F8 D cb te w ns bk wh inn f rc fa fn fc)(hk:∀g,g<w.heap.size->w'.heap[g]?=w.heap[g]?)(hs:w.heap.size<=w'.heap.size):F8 D cb te w' ns bk wh inn f rc fa fn fc:=by
 obtain⟨na,nn,nc,ba,bn,bc,la,ln,lc,ls,h⟩:=h;exact⟨na,nn,nc,ba,bn,bc,la,ln,lc,ls,h.keep hk hs⟩
theorem Ij.put(h:Ij D cb te w ns bk wh inn f rc fa fn fc na nn nc ba bn bc la ln lc ls)(inn':Bool)(f':B3)(rc':Nat)(hrc:rc'<=800000)
  (hc:w'.heap[cb]?=some (.cells #[.slice fa fn fc,.int .i64 (rc':Nat),.slice na nn nc,.slice ba bn bc,.slice la ln lc,.bool inn',.int .i64 (f'.1:Nat),.int .i64 (f'.2:Nat)] te (0,0))) (hk:∀g,g<w.heap.size->g≠cb->w'.heap[g]?=w.heap[g]?) (hs:w.heap.size<=w'.heap.size):Ij D cb te w' ns bk wh inn' f' rc' fa fn fc na nn nc ba bn bc la ln lc ls:=
 ⟨hc,Bb h.names (fun g hg hl=>hk g hl (h.C5 g hg).2.1),Bb h.blocks (fun g hg hl=>hk g hl (h.Ed g hg).2.1),Bb h.loops (fun g hg hl=>hk g hl (h.K8 g hg).2),h.lsl,h.Di,h.C5,h.Ed,h.K8,⟨h.few.1,h.few.2.1,h.few.2.2.1,hrc⟩,fun g hg=>Nat.lt_of_lt_of_le (h.lo g hg) hs⟩
theorem Ij.Mj(h:Ij D cb te w ns bk wh inn f rc fa fn fc na nn nc ba bn bc la ln lc ls):Gl 9 cb 2 w #[.slice fa fn fc,.int .i64 (rc:Nat),.slice na nn nc,.slice ba bn bc,.slice la ln lc,.bool inn,.int .i64 (f.1:Nat),.int .i64 (f.2:Nat)] te na nn nc (D3 ns):=
 ⟨h.cell,rfl,h.names,fun e=>(h.C5 _ e).2.1 rfl⟩
theorem Ij.Qb(h:Ij D cb te w ns bk wh inn f rc fa fn fc na nn nc ba bn bc la ln lc ls):Gl 3 cb 3 w #[.slice fa fn fc,.int .i64 (rc:Nat),.slice na nn nc,.slice ba bn bc,.slice la ln lc,.bool inn,.int .i64 (f.1:Nat),.int .i64 (f.2:Nat)] te ba bn bc (Cr bk):=
 ⟨h.cell,rfl,h.blocks,fun e=>(h.Ed _ e).2.1 rfl⟩
theorem Ij.We(h:Ij D cb te w ns bk wh inn f rc fa fn fc na nn nc ba bn bc la ln lc ls):Gl 255 cb 4 w #[.slice fa fn fc,.int .i64 (rc:Nat),.slice na nn nc,.slice ba bn bc,.slice la ln lc,.bool inn,.int .i64 (f.1:Nat),.int .i64 (f.2:Nat)] te la ln lc ls:=
 ⟨h.cell,rfl,h.loops,fun e=>(h.K8 _ e).2 rfl⟩
theorem Mq.Be{row:Option Nat}(h:Mq cb row w w')(h1:¬D cb)(h2:∀g,row=some g->¬D g)(hlo:∀g,D g->g<w.heap.size):A4 D w w':=
 ⟨h.os,h.tape,h.output,h.size,fun k hk=>h.block k (hlo k hk) (fun e=>h1 (by rw[←e];exact hk)) (fun e=>h2 k e hk)⟩
theorem Ij.Vw(h:Ij D cb te w ns bk wh inn f rc fa fn fc na nn nc ba bn bc la ln lc ls)(s:Nm)(hn:ns.length+1<=800000)
  (hp:O4 9 cb 2 w #[.slice fa fn fc,.int .i64 (rc:Nat),.slice na nn nc,.slice ba bn bc,.slice la ln lc,.bool inn,.int .i64 (f.1:Nat),.int .i64 (f.2:Nat)] te na nn nc (D3 ns) (Lr s) w'):F8 D cb te w' (ns++[s]) bk wh inn f rc fa fn fc/\A4 D w w':=by
 obtain⟨g,cap,hs,hat,hf⟩:=hp;have hD:¬D g/\g≠cb/\(Value.slice ba bn bc).ownBlock≠some g/\(Value.slice la ln lc).ownBlock≠some g:=by
  rcases hat with e|e
  ·exact h.C5 g e
  ·refine⟨fun hd=>by have:=h.lo g hd;omega,fun e2=>by have:=A5 h.cell;omega,fun e2=>?_,fun e2=>?_⟩
   ·have:=Ca h.blocks g e2;omega
   ·have:=Ca h.loops g e2;omega
 refine⟨⟨some ⟨g,0,none⟩,(D3 ns).length+1,cap,ba,bn,bc,la,ln,lc,ls,?_⟩,hf.Be h.Di (fun g hg=>(h.C5 g hg).1) h.lo⟩;have hnm:D3 (ns++[s])=D3 ns++[Lr s]:=by simp[D3]
 refine⟨by simpa using hs.blk,by rw[hnm];exact hs.own,Bb h.blocks (fun k hk hl=>hf.block k hl (h.Ed k hk).2.1 (fun e=>(h.C5 k e).2.2.1 hk)),Bb h.loops (fun k hk hl=>hf.block k hl (h.K8 k hk).2 (fun e=>(h.C5 k e).2.2.2 hk)),h.lsl,h.Di,?_,h.Ed,h.K8,⟨by simpa using hn,h.few.2⟩,fun g hg=>Nat.lt_of_lt_of_le (h.lo g hg) hf.size⟩;intro k hk;simp only[Value.ownBlock,Option.some.injEq]at hk;subst hk;exact hD
theorem Ij.A95(h:Ij D cb te w ns bk wh inn f rc fa fn fc na nn nc ba bn bc la ln lc ls)(p:Nat)(hn:bk.length+1<=800000)
  (hp:O4 3 cb 3 w #[.slice fa fn fc,.int .i64 (rc:Nat),.slice na nn nc,.slice ba bn bc,.slice la ln lc,.bool inn,.int .i64 (f.1:Nat),.int .i64 (f.2:Nat)] te ba bn bc (Cr bk) (N1 p) w'):F8 D cb te w' ns (bk++[p]) wh inn f rc fa fn fc/\A4 D w w':=by
 obtain⟨g,cap,hs,hat,hf⟩:=hp;have hD:¬D g/\g≠cb/\(Value.slice na nn nc).ownBlock≠some g/\(Value.slice la ln lc).ownBlock≠some g:=by
  rcases hat with e|e
  ·exact⟨(h.Ed g e).1,(h.Ed g e).2.1,fun e2=>(h.C5 g e2).2.2.1 e,(h.Ed g e).2.2⟩
  ·refine⟨fun hd=>by have:=h.lo g hd;omega,fun e2=>by have:=A5 h.cell;omega,fun e2=>?_,fun e2=>?_⟩
   ·have:=Ca h.names g e2;omega
   ·have:=Ca h.loops g e2;omega
 refine⟨⟨na,nn,nc,some ⟨g,0,none⟩,(Cr bk).length+1,cap,la,ln,lc,ls,?_⟩,hf.Be h.Di (fun g hg=>(h.Ed g hg).1) h.lo⟩;have hnm:Cr (bk++[p])=Cr bk++[N1 p]:=by simp[Cr]
 refine⟨by simpa using hs.blk,Bb h.names (fun k hk hl=>hf.block k hl (h.C5 k hk).2.1 (fun e=>(h.C5 k hk).2.2.1 e)),by rw[hnm];exact hs.own,Bb h.loops (fun k hk hl=>hf.block k hl (h.K8 k hk).2 (fun e=>(h.Ed k e).2.2 hk)),h.lsl,h.Di,?_,?_,h.K8,⟨h.few.1,by simpa using hn,h.few.2.2⟩,fun g hg=>Nat.lt_of_lt_of_le (h.lo g hg) hf.size⟩
 ·intro k hk;refine⟨(h.C5 k hk).1,(h.C5 k hk).2.1,fun e=>?_,(h.C5 k hk).2.2.2⟩;simp only[Value.ownBlock,Option.some.injEq]at e;subst e;exact hD.2.2.1 hk
 ·intro k hk;simp only[Value.ownBlock,Option.some.injEq]at hk;subst hk;exact⟨hD.1,hD.2.1,hD.2.2.2⟩
theorem Ij.Vv(h:Ij D cb te w ns bk wh inn f rc fa fn fc na nn nc ba bn bc la ln lc ls)(u:Value)(hn:wh+1<=800000)
  (hp:O4 255 cb 4 w #[.slice fa fn fc,.int .i64 (rc:Nat),.slice na nn nc,.slice ba bn bc,.slice la ln lc,.bool inn,.int .i64 (f.1:Nat),.int .i64 (f.2:Nat)] te la ln lc ls u w'):F8 D cb te w' ns bk (wh+1) inn f rc fa fn fc/\A4 D w w':=by
 obtain⟨g,cap,hs,hat,hf⟩:=hp;have hD:¬D g/\g≠cb/\(Value.slice na nn nc).ownBlock≠some g/\(Value.slice ba bn bc).ownBlock≠some g:=by
  rcases hat with e|e
  ·exact⟨(h.K8 g e).1,(h.K8 g e).2,fun e2=>(h.C5 g e2).2.2.2 e,fun e2=>(h.Ed g e2).2.2 e⟩
  ·refine⟨fun hd=>by have:=h.lo g hd;omega,fun e2=>by have:=A5 h.cell;omega,fun e2=>?_,fun e2=>?_⟩
   ·have:=Ca h.names g e2;omega
   ·have:=Ca h.blocks g e2;omega
 refine⟨⟨na,nn,nc,ba,bn,bc,some ⟨g,0,none⟩,ls.length+1,cap,ls++[u],?_⟩,hf.Be h.Di (fun g hg=>(h.K8 g hg).1) h.lo⟩;refine⟨by simpa using hs.blk,Bb h.names (fun k hk hl=>hf.block k hl (h.C5 k hk).2.1 (fun e=>(h.C5 k hk).2.2.2 e)),Bb h.blocks (fun k hk hl=>hf.block k hl (h.Ed k hk).2.1 (fun e=>(h.Ed k hk).2.2 e)),hs.own,by simp[h.lsl],h.Di,?_,?_,?_,⟨h.few.1,h.few.2.1,hn,h.few.2.2.2⟩,fun g hg=>Nat.lt_of_lt_of_le (h.lo g hg) hf.size⟩
 ·intro k hk;refine⟨(h.C5 k hk).1,(h.C5 k hk).2.1,(h.C5 k hk).2.2.1,fun e=>?_⟩;simp only[Value.ownBlock,Option.some.injEq]at e;subst e;exact hD.2.2.1 hk
 ·intro k hk;refine⟨(h.Ed k hk).1,(h.Ed k hk).2.1,fun e=>?_⟩;simp only[Value.ownBlock,Option.some.injEq]at e;subst e;exact hD.2.2.2 hk
 ·intro k hk;simp only[Value.ownBlock,Option.some.injEq]at hk;subst hk;exact⟨hD.1,hD.2.1⟩
theorem Ij.A4c(h:Ij D cb te w ns bk wh inn f rc fa fn fc na nn nc ba bn bc la ln lc ls)(m:Nat)
  (hp:Mn 9 cb 2 w #[.slice fa fn fc,.int .i64 (rc:Nat),.slice na nn nc,.slice ba bn bc,.slice la ln lc,.bool inn,.int .i64 (f.1:Nat),.int .i64 (f.2:Nat)] te na nn nc (D3 ns) m w'):F8 D cb te w' (ns.take m) bk wh inn f rc fa fn fc/\A4 D w w':=by
 obtain⟨hs,hf⟩:=hp;refine⟨⟨na,m,nc,ba,bn,bc,la,ln,lc,ls,?_⟩,hf.Be h.Di (fun g hg=>(h.C5 g hg).1) h.lo⟩;have hnm:D3 (ns.take m)=(D3 ns).take m:=by simp[D3,List.map_take]
 have ho:∀g,(Value.slice na m nc).ownBlock=some g->(Value.slice na nn nc).ownBlock=some g:=fun g e=>(P2 _ _ _ _).trans e;refine⟨by simpa using hs.blk,by rw[hnm];exact hs.own,Bb h.blocks (fun k hk hl=>hf.block k hl (h.Ed k hk).2.1 (fun e=>(h.C5 k e).2.2.1 hk)),Bb h.loops (fun k hk hl=>hf.block k hl (h.K8 k hk).2 (fun e=>(h.C5 k e).2.2.2 hk)),h.lsl,h.Di,fun k hk=>h.C5 k (ho k hk),h.Ed,h.K8,⟨by have:=h.few.1;simp;omega,h.few.2⟩,fun g hg=>Nat.lt_of_lt_of_le (h.lo g hg) hf.size⟩
theorem Ij.A4a(h:Ij D cb te w ns bk wh inn f rc fa fn fc na nn nc ba bn bc la ln lc ls)(m:Nat)
  (hp:Mn 3 cb 3 w #[.slice fa fn fc,.int .i64 (rc:Nat),.slice na nn nc,.slice ba bn bc,.slice la ln lc,.bool inn,.int .i64 (f.1:Nat),.int .i64 (f.2:Nat)] te ba bn bc (Cr bk) m w'):F8 D cb te w' ns (bk.take m) wh inn f rc fa fn fc/\A4 D w w':=by
 obtain⟨hs,hf⟩:=hp;refine⟨⟨na,nn,nc,ba,m,bc,la,ln,lc,ls,?_⟩,hf.Be h.Di (fun g hg=>(h.Ed g hg).1) h.lo⟩;have hnm:Cr (bk.take m)=(Cr bk).take m:=by simp[Cr,List.map_take]
 have ho:∀g,(Value.slice ba m bc).ownBlock=some g->(Value.slice ba bn bc).ownBlock=some g:=fun g e=>(P2 _ _ _ _).trans e;refine⟨by simpa using hs.blk,Bb h.names (fun k hk hl=>hf.block k hl (h.C5 k hk).2.1 (fun e=>(h.C5 k hk).2.2.1 e)),by rw[hnm];exact hs.own,Bb h.loops (fun k hk hl=>hf.block k hl (h.K8 k hk).2 (fun e=>(h.Ed k e).2.2 hk)),h.lsl,h.Di,fun k hk=>⟨(h.C5 k hk).1,(h.C5 k hk).2.1,fun e=>(h.C5 k hk).2.2.1 (ho k e),(h.C5 k hk).2.2.2⟩,fun k hk=>h.Ed k (ho k hk),h.K8,⟨h.few.1,by have:=h.few.2.1;simp;omega,h.few.2.2⟩,fun g hg=>Nat.lt_of_lt_of_le (h.lo g hg) hf.size⟩
theorem Ij.A4b(h:Ij D cb te w ns bk wh inn f rc fa fn fc na nn nc ba bn bc la ln lc ls)(m:Nat)(hm:m<=wh)
  (hp:Mn 255 cb 4 w #[.slice fa fn fc,.int .i64 (rc:Nat),.slice na nn nc,.slice ba bn bc,.slice la ln lc,.bool inn,.int .i64 (f.1:Nat),.int .i64 (f.2:Nat)] te la ln lc ls m w'):F8 D cb te w' ns bk m inn f rc fa fn fc/\A4 D w w':=by
 obtain⟨hs,hf⟩:=hp;refine⟨⟨na,nn,nc,ba,bn,bc,la,m,lc,ls.take m,?_⟩,hf.Be h.Di (fun g hg=>(h.K8 g hg).1) h.lo⟩;have ho:∀g,(Value.slice la m lc).ownBlock=some g->(Value.slice la ln lc).ownBlock=some g:=fun g e=>(P2 _ _ _ _).trans e;refine⟨by simpa using hs.blk,Bb h.names (fun k hk hl=>hf.block k hl (h.C5 k hk).2.1 (fun e=>(h.C5 k hk).2.2.2 e)),Bb h.blocks (fun k hk hl=>hf.block k hl (h.Ed k hk).2.1 (fun e=>(h.Ed k hk).2.2 e)),hs.own,by rw[List.length_take,h.lsl,Nat.min_eq_left hm],h.Di,fun k hk=>⟨(h.C5 k hk).1,(h.C5 k hk).2.1,(h.C5 k hk).2.2.1,fun e=>(h.C5 k hk).2.2.2 (ho k e)⟩,fun k hk=>⟨(h.Ed k hk).1,(h.Ed k hk).2.1,fun e=>(h.Ed k hk).2.2 (ho k e)⟩,fun k hk=>h.K8 k (ho k hk),⟨h.few.1,h.few.2.1,by have:=h.few.2.2.1;omega,h.few.2.2.2⟩,fun g hg=>Nat.lt_of_lt_of_le (h.lo g hg) hf.size⟩
end
section
set_option maxRecDepth 100000
open Go.RowKit
open Go.Deep (BT)
variable {D:Nat->Prop}{cb te:Nat}{w:World}{ns:List Nm}{bk:List Nat}{wh:Nat}{inn:Bool}{f:B3}{rc:Nat}{fa:Option Addr}{fn fc:Nat}
theorem Ae1{code line:Nat}{f:B3}(h:f.1=0):Bu true code line f=(code,line):=by unfold Bu;rw[if_pos (by simp[h])]
theorem Om(h:F8 D cb te w ns bk wh inn f rc fa fn fc)(code line:Nat) :
  Calls Tryz.prog 264 #[.pointer (some ⟨cb,0,none⟩),.int .i64 (code:Nat),.int .i64 (line:Nat)] w fun e w'=>e=.returned (.tuple #[])/\F8 D cb te w' ns bk wh inn (Bu true code line f) rc fa fn fc/\A4 D w w':=by
 obtain⟨na,nn,nc,ba,bn,bc,la,ln,lc,ls,h⟩:=h;obtain⟨c0,c1,c2,c3,c4,c5,c6,c7,fz,lb⟩:=Gn h.cell;have HH:=A0 h;clear h;by_cases h0:f.1=0
 ·have HW:=A0 (Ae1 (code:=code) (line:=line) h0);rw[h0]at c6;go_enter Tryz.func264,Tryz.ntmps264;go_wp2;go_end0;rw[HW.o];refine⟨rfl,⟨na,nn,nc,ba,bn,bc,la,ln,lc,ls,HH.o.put inn (code,line) rc HH.o.few.2.2.2 ?_ (fun g _ hne=>by rw[Below.heap_setCell _ _ _ _ (by exact hne),Below.heap_setCell _ _ _ _ (by exact hne)]) (by simp[World.setCell])⟩,A4.set (p:=⟨cb,7,none⟩) (A4.set (p:=⟨cb,6,none⟩) (A4.refl _ _) HH.o.Di _) HH.o.Di _⟩;have:=heap_set (j:=7) (heap_set (j:=6) HH.o.cell (.int .i64 (code:Nat))) (.int .i64 (line:Nat));simpa using this
 ·have HW:=A0 (A0f true code line f h0);have t0:((f.1:Int)==0)=false:=by rw[beq_eq_false_iff_ne];omega
  clear h0;go_enter Tryz.func264,Tryz.ntmps264;go_wp2;go_end0;rw[HW.o];exact⟨rfl,⟨na,nn,nc,ba,bn,bc,la,ln,lc,ls,HH.o⟩,A4.refl _ _⟩
theorem Ox(ns:List Nm):(D3 ns).length=ns.length:=by simp[D3]
theorem Us(bk:List Nat):(Cr bk).length=bk.length:=by simp[Cr]
theorem Sw(h:F8 D cb te w ns bk wh inn f rc fa fn fc)(hb:bk.length+1<=800000) :
  Calls Tryz.prog 133 #[.pointer (some ⟨cb,0,none⟩)] w fun e w'=>e=.returned (.tuple #[])/\F8 D cb te w' ns (bk++[ns.length]) wh inn f rc fa fn fc/\A4 D w w':=by
 obtain⟨na,nn,nc,ba,bn,bc,la,ln,lc,ls,h⟩:=h;have lb:=A5 h.cell;have HH:=A0 (h.keep (w':=w.drew) (fun _ _=>rfl) (Nat.le_refl _));have HL:=A0 (R8 HH.o.Mj);rw[Ox]at HL;have HP:=A0 (Ac3 HH.o.Qb (by rw[Us];omega) (ns.length:Nat) (by simp));clear h;go_enter Tryz.func133,Tryz.ntmps133;go_wp2;go_region_law (first
  | (refine Nf rfl 136 _ _ rfl #[.pointer (some ⟨cb,2,none⟩)] (by kernel_rfl) HL.o ?_;rintro e w1 ⟨rfl,rfl⟩;refine⟨_,rfl,?_⟩)
  | (refine Nf rfl 191 _ _ rfl #[.pointer (some ⟨cb,3,none⟩),.int .i64 (ns.length:Nat)] (by kernel_rfl) HP.o ?_;rintro e w1 ⟨rfl,By⟩;refine⟨_,rfl,?_⟩))
 all_goals go_wp2
 all_goals go_end0
 all_goals obtain⟨k1,k2⟩:=HH.o.A95 ns.length hb By
 all_goals exact⟨rfl,k1,⟨k2.os,k2.tape,k2.output,k2.size,k2.block⟩⟩
theorem Su{D:Nat->Prop}{cb te:Nat}{w:World}{ns:List Nm}{bk:List Nat}{p:Nat}{wh:Nat}{inn:Bool}{f:B3}{rc:Nat}{fa:Option Addr}{fn fc:Nat}(h:F8 D cb te w ns (bk++[p]) wh inn f rc fa fn fc)(hp:p<=ns.length) :
  Calls Tryz.prog 135 #[.pointer (some ⟨cb,0,none⟩)] w fun e w'=>e=.returned (.tuple #[])/\F8 D cb te w' (ns.take p) bk wh inn f rc fa fn fc/\A4 D w w':=by
 obtain⟨na,nn,nc,ba,bn,bc,la,ln,lc,ls,h⟩:=h;have lb:=A5 h.cell;have HH:=A0 (h.keep (w':=w.drew) (fun _ _=>rfl) (Nat.le_refl _));have hl:(Cr (bk++[p])).length=bk.length+1:=by rw[Us];simp
 have hf:=HH.o.few;simp only[List.length_append,List.length_singleton]at hf;have HP:=A0 (Abz HH.o.Qb (by omega) bk.length (by omega) hl (by simp));have hx:(Cr (bk++[p]))[bk.length]'(by omega)=.int .i64 (p:Nat):=by simp[Cr,N1]
 rw[hx]at HP;clear h hl hx;go_enter Tryz.func135,Tryz.ntmps135;go_wp2;go_region_law (first
  | (refine Nf rfl 193 _ _ rfl #[.pointer (some ⟨cb,3,none⟩)] (by kernel_rfl) HP.o ?_;rintro e w1 ⟨rfl,hc1⟩;refine⟨_,rfl,?_⟩;obtain⟨k1,k2⟩:=HH.o.A4a bk.length hc1;rw[List.take_left]at k1;obtain⟨na1,nn1,nc1,ba1,bn1,bc1,la1,Jp,lc1,ls1,hv1⟩:=k1;have HV1:=A0 hv1;have Im:=A0 k2;have F7:=A5 hv1.cell;have I3:=A0 (W4 hv1.Mj p (by rw[Ox];exact hp) (by simp));clear hv1 k2 hc1)
  | (refine Nf rfl 83 _ _ rfl #[.pointer (some ⟨cb,2,none⟩),.int .i64 (p:Nat)] (by kernel_rfl) I3.o ?_;rintro e w2 ⟨rfl,hc2⟩;refine⟨_,rfl,?_⟩))
 all_goals go_wp2
 all_goals go_end0
 all_goals obtain⟨k3,k4⟩:=HV1.o.A4c p hc2
 all_goals exact⟨rfl,k3,A4.trans ⟨Im.o.os,Im.o.tape,Im.o.output,Im.o.size,Im.o.block⟩ k4⟩
theorem A4t{ns:List Nm}{i:Nat}(h:i<ns.length)(s:Nm):decide (s∈ns.drop i)=(decide (ns[i]=s)||decide (s∈ns.drop (i+1))):=by
 rw[List.drop_eq_getElem_cons h,Bool.eq_iff_iff];simp only[List.mem_cons,decide_eq_true_eq,Bool.or_eq_true];exact⟨fun h=>h.imp Eq.symm id,fun h=>h.imp Eq.symm id⟩
theorem Xe(h:F8 D cb te w ns bk wh inn f rc fa fn fc)(s:Nm)(p:Nat)(hp:p<=ns.length) :
  Calls Tryz.prog 265 #[.pointer (some ⟨cb,0,none⟩),.string ⟨s.toArray⟩,.int .i64 (p:Nat)] w fun e w'=>e=.returned (.bool (decide (s∈ns.drop p)))/\w'=w:=by
 obtain⟨na,nn,nc,ba,bn,bc,la,ln,lc,ls,h⟩:=h;have lb:=A5 h.cell;have HL:=A0 (R8 h.Mj);rw[Ox]at HL;have HA:=A0 (fun i hi=>o3 h.Mj i hi);have hfew:=h.few.1;clear h;go_enter Tryz.func265,Tryz.ntmps265;go_wp2;go_loopg [7] (ns.length-p) (fun k v wr=>∃i:Nat,v=.int .i64 i/\i+k=ns.length/\decide (s∈ns.drop p)=decide (s∈ns.drop i)/\wr=w)
 case atStart=>exact⟨p,rfl,by omega,rfl,rfl⟩
 case round=>
  obtain⟨i,rfl,hik,hm,rfl⟩:=hrel;have HM:=A0 hm;clear hm;by_cases hlt:i<ns.length
  ·have HS:=A0 (A4t hlt s);have HA1:=A0 (HA.o i (by rw[Ox];exact hlt));have hx:(D3 ns)[i]'(by rw[Ox];exact hlt)=.string ⟨ns[i].toArray⟩:=by simp[D3,Lr]
   rw[hx]at HA1;clear hx;generalize ns[i]=x at *;have hlt':(i:Int)<(ns.length:Int):=by omega
   cases hq:(x==s)
   ·have HE:Hid (decide (s∈ns.drop p)=decide (s∈ns.drop (i+1))):=by
     show _=_;have:decide (x=s)=false:=by simpa using hq
     rw[HM.o,HS.o,this];rfl
    go_wp2_with fail
    refine HL.o.mono ?_;rintro e w' ⟨rfl,rfl⟩;go_wp2_with fail
    refine HA1.o.mono ?_;rintro e w' ⟨rfl,rfl⟩;go_wp2;go_roundg (gk-1)
    case measure=>omega
    case rel=>exact⟨i+1,rfl,by omega,HE.o,rfl⟩
   ·have HE:Hid (decide (s∈ns.drop p)=true):=by
     show _=_;have:decide (x=s)=true:=by simpa using hq
     rw[HM.o,HS.o,this];rfl
    go_wp2_with fail
    refine HL.o.mono ?_;rintro e w' ⟨rfl,rfl⟩;go_wp2_with fail
    refine HA1.o.mono ?_;rintro e w' ⟨rfl,rfl⟩;go_wp2;go_ret;exact⟨Nu HE.o.symm,rfl⟩
  ·have HE:Hid (decide (s∈ns.drop p)=false):=by
    show _=_;rw[HM.o,List.drop_eq_nil_of_le (by omega)];rfl
   go_wp2_with fail
   refine HL.o.mono ?_;rintro e w' ⟨rfl,rfl⟩;go_wp2;go_ret;exact⟨Nu HE.o.symm,rfl⟩
end
section
set_option maxRecDepth 100000
open Go.RowKit
open Go.Deep (BT)
variable {D:Nat->Prop}{w:World}{fns:List (Nm×Nat)}{fa:Option Addr}{fn fc:Nat}
theorem Qd(code line:Nat)(f:B3):Bu false code line f=f:=by unfold Bu;rw[if_neg (by simp)]
theorem Uv{D:Nat->Prop}{cb te:Nat}{w:World}{outer cur:List Nm}{bl:List Nat}{wh:Nat}{inn:Bool}{f:B3}{rc:Nat}{fa:Option Addr}{fn fc:Nat}(h:F8 D cb te w (outer++cur) (bl++[outer.length]) wh inn f rc fa fn fc)(line:Nat)(s:Nm) :
  Calls Tryz.prog 235 #[.pointer (some ⟨cb,0,none⟩),.agg #[.int .i64 (line:Nat),.string ⟨s.toArray⟩]] w fun e w'=>e=.returned (.tuple #[])/\F8 D cb te w' (outer++cur) (bl++[outer.length]) wh inn (Bu (decide (s∈cur)) 3 line f) rc fa fn fc/\A4 D w w':=by
 have hlo:∀g,D g->g<w.heap.size:=by obtain⟨_,_,_,_,_,_,_,_,_,_,h⟩:=h;exact h.lo
 have lb:cb<w.heap.size:=by obtain⟨_,_,_,_,_,_,_,_,_,_,h⟩:=h;exact A5 h.cell
 have h1:F8 D cb te (w.alloc (.cells #[.int .i64 (line:Nat),.string ⟨s.toArray⟩] 148)) (outer++cur) (bl++[outer.length]) wh inn f rc fa fn fc:=h.keep (fun g hg=>Below.heap_alloc _ _ _ hg) (by simp);have A3:A4 D w (w.alloc (.cells #[.int .i64 (line:Nat),.string ⟨s.toArray⟩] 148)):=(A4.refl D w).alloc hlo _;have G0:=heap_alloc_new w (.cells #[.int .i64 (line:Nat),.string ⟨s.toArray⟩] 148);clear h;generalize hW:w.alloc (.cells #[.int .i64 (line:Nat),.string ⟨s.toArray⟩] 148)=w1 at *;have HW:=A0 hW;generalize hxb:w.heap.size=xb at *;have HXb:=A0 hxb;clear hW hxb;have Aq:=A0 h1;have Ab:=A0 A3;have Ea:=A0 G0;have hdr:∀W:World,F8 D cb te W (outer++cur) (bl++[outer.length]) wh inn f rc fa fn fc->Calls Tryz.prog 241 #[.pointer (some ⟨cb,3,none⟩)] W fun e w'=>e=.returned (.int .i64 (outer.length:Nat))/\w'=W:=by
  intro W h;obtain⟨na,nn,nc,ba,bn,bc,la,ln,lc,ls,h⟩:=h;have hl:(Cr (bl++[outer.length])).length=bl.length+1:=by rw[Us];simp
  have hf:=h.few;simp only[List.length_append,List.length_singleton]at hf;have hp:=y8 h.Qb (by omega) bl.length (by omega) hl;have hx:(Cr (bl++[outer.length]))[bl.length]'(by omega)=.int .i64 (outer.length:Nat):=by simp[Cr,N1]
  rw[hx]at hp;exact hp
 have HTop:=A0 hdr;have HSeen:=A0 (fun(W:World) (h:F8 D cb te W (outer++cur) (bl++[outer.length]) wh inn f rc fa fn fc)=>Xe h s outer.length (by simp));rw[List.drop_left]at HSeen;obtain⟨y0,y1,fy,ly⟩:=J2 G0;have F7:cb<w1.heap.size:=by obtain⟨_,_,_,_,_,_,_,_,_,_,h⟩:=h1;exact A5 h.cell
 clear hdr h1 A3 G0;cases hq:decide (s∈cur)
 ·rw[hq]at HSeen;have HF:=A0 (Qd 3 line f);go_enter Tryz.func235,Tryz.ntmps235;go_wp2;rw[HW.o,HXb.o];go_quiet ((first|(go_at_call 241;exact Calls.quiet_of_same (HTop.o _ (Aq.o.keep (fun _ _=>rfl) (Nat.le_refl _))))|(go_at_call 265;exact Calls.quiet_of_same (HSeen.o _ (Aq.o.keep (fun _ _=>rfl) (Nat.le_refl _))))))
  have Bi:Hid (F8 D cb te (w1.drewN nq) (outer++cur) (bl++[outer.length]) wh inn f rc fa fn fc):=Aq.o.keep (fun _ _=>rfl) (Nat.le_refl _);have Ai:Hid (A4 D w (w1.drewN nq)):=⟨Ab.o.os,Ab.o.tape,Ab.o.output,Ab.o.size,Ab.o.block⟩;have Jg:Hid ((w1.drewN nq).heap[xb]?=_):=Ea.o;go_wp2;go_end0;rw[HF.o];exact⟨rfl,Bi.o,Ai.o⟩
 ·rw[hq]at HSeen;go_enter Tryz.func235,Tryz.ntmps235;go_wp2;rw[HW.o,HXb.o];go_quiet ((first|(go_at_call 241;exact Calls.quiet_of_same (HTop.o _ (Aq.o.keep (fun _ _=>rfl) (Nat.le_refl _))))|(go_at_call 265;exact Calls.quiet_of_same (HSeen.o _ (Aq.o.keep (fun _ _=>rfl) (Nat.le_refl _))))))
  have Bi:Hid (F8 D cb te (w1.drewN nq) (outer++cur) (bl++[outer.length]) wh inn f rc fa fn fc):=Aq.o.keep (fun _ _=>rfl) (Nat.le_refl _);have Ai:Hid (A4 D w (w1.drewN nq)):=⟨Ab.o.os,Ab.o.tape,Ab.o.output,Ab.o.size,Ab.o.block⟩;have Jg:Hid ((w1.drewN nq).heap[xb]?=_):=Ea.o;clear y0 y1 fy ly;generalize w1.drewN nq=w2 at *;obtain⟨y0,y1,fy,ly⟩:=J2 Jg.o;go_wp2_with fail
  refine(Om Bi.o 3 line).mono ?_;rintro e w3 ⟨rfl,At,Ar⟩;have Df:=A0 At;have B4:Hid (A4 D w w3):=Ai.o.trans Ar;clear At Ar;go_wp2;go_end0;exact⟨rfl,Df.o,B4.o⟩
theorem X8{D:Nat->Prop}{cb te:Nat}{w:World}{ns:List Nm}{bk:List Nat}{wh:Nat}{inn:Bool}{f:B3}{rc:Nat}{fa:Option Addr}{fn fc:Nat}(h:F8 D cb te w ns bk wh inn f rc fa fn fc)(line:Nat) :
  Calls Tryz.prog 240 #[.pointer (some ⟨cb,0,none⟩),.int .i64 (line:Nat)] w fun e w'=>e=.returned (.tuple #[])/\F8 D cb te w' ns bk wh inn (Bu (wh==0) 4 line f) rc fa fn fc/\A4 D w w':=by
 have HS:=A0 h;obtain⟨na,nn,nc,ba,bn,bc,la,ln,lc,ls,h⟩:=h;have lb:=A5 h.cell;have HL:=A0 (Wb h.We);rw[h.lsl]at HL;clear h;by_cases h0:wh=0
 ·subst h0;go_enter Tryz.func240,Tryz.ntmps240;go_wp2_with fail
  refine HL.o.mono ?_;rintro e w' ⟨rfl,rfl⟩;go_wp2_with fail
  refine(Om HS.o 4 line).mono ?_;rintro e w3 ⟨rfl,At,Ar⟩;have Df:=A0 At;have B4:=A0 Ar;clear At Ar;go_wp2;go_end0;exact⟨rfl,Df.o,B4.o⟩
 ·have t0:((wh:Int)==0)=false:=by rw[beq_eq_false_iff_ne];omega
  have HF:Hid (Bu (wh==0) 4 line f=f):=by
   show _=_;rw[show(wh==0)=false by simpa using h0];exact Qd 4 line f
  clear h0;go_enter Tryz.func240,Tryz.ntmps240;go_wp2_with fail
  refine HL.o.mono ?_;rintro e w' ⟨rfl,rfl⟩;go_wp2;go_end0;rw[HF.o];exact⟨rfl,HS.o,A4.refl _ _⟩
structure Je (D : Nat -> Prop) (w : World) (fns : List (Nm × Nat)) (fa : Option Addr) (fn fc : Nat) : Prop where
 len:fn=fns.length
 few:fns.length<=100000
 cap:fn<=fc
 at':∀i (h:i<fns.length),∃g pb pa pc,fa=some ⟨g,0,none⟩/\D g/\g<w.heap.size/\w.cell? ⟨g,i,none⟩=some (.pointer (some ⟨pb,0,none⟩))/\D pb/\pb<w.heap.size/\w.cell? ⟨pb,1,none⟩=some (.string ⟨fns[i].1.toArray⟩)/\w.cell? ⟨pb,2,none⟩=some (.slice pa fns[i].2 pc)
theorem Je.keep{D:Nat->Prop}{w w':World}{fns:List (Nm×Nat)}{fa:Option Addr}{fn fc:Nat}(h:Je D w fns fa fn fc)(hb:A4 D w w'):Je D w' fns fa fn fc:=by
 refine⟨h.len,h.few,h.cap,fun i hi=>?_⟩;obtain⟨g,pb,pa,pc,e1,e2,e3,e4,e5,e6,e7,e8⟩:=h.at' i hi;exact⟨g,pb,pa,pc,e1,e2,Nat.lt_of_lt_of_le e3 hb.size,(World.cell?_of_block (hb.block g e2)).trans e4,e5,Nat.lt_of_lt_of_le e6 hb.size,(World.cell?_of_block (hb.block pb e5)).trans e7,(World.cell?_of_block (hb.block pb e5)).trans e8⟩
def Nh(w:World)(fns:List (Nm×Nat))(fa:Option Addr)(k:Nat)(s:Nm)(p:Option Addr):Prop:=
 (p=none/\∀j,j<k->∀h:j<fns.length,fns[j].1≠s)\/(∃i,∃h:i<fns.length,∃pb pa pc,i<k/\p=some ⟨pb,0,none⟩/\(∃g,fa=some ⟨g,0,none⟩/\w.cell? ⟨g,i,none⟩=some (.pointer (some ⟨pb,0,none⟩)))/\fns[i].1=s/\(∀j,j<i->∀h':j<fns.length,fns[j].1≠s)/\pb<w.heap.size/\w.cell? ⟨pb,2,none⟩=some (.slice pa fns[i].2 pc))
theorem A3i(h:Je D w fns fa fn fc)(k:Nat)(hk:k<=fns.length)(s:Nm) :
  Calls Tryz.prog 263 #[.slice fa k fc,.string ⟨s.toArray⟩] w fun e w'=>∃p,e=.returned (.pointer p)/\Nh w fns fa k s p/\w'=w:=by
 have hfew:=h.few;have hcap:=h.cap;have hlen:=h.len;have HH:=A0 h;clear h;go_enter Tryz.func263,Tryz.ntmps263;go_wp2;go_loopg [9] k (fun q v wr=>∃i:Nat,v=.int .i64 i/\i+q=k/\(∀j,j<i->∀h':j<fns.length,fns[j].1≠s)/\wr=w)
 case atStart=>exact⟨0,rfl,by omega,fun i hi=>by omega,rfl⟩
 case round=>
  obtain⟨i,rfl,hik,hno,rfl⟩:=hrel;have HNo:=A0 hno;clear hno;by_cases hlt:i<k
  ·have hlt2:i<fns.length:=by omega
   obtain⟨g,pb,pa,pc,rfl,_,lg,cg,_,lp,c1,c2⟩:=HH.o.at' i hlt2;have HI:Hid (fns[i].1=s->Nh wr fns (some ⟨g,0,none⟩) k s (some ⟨pb,0,none⟩)):=fun e=>.inr ⟨i,hlt2,pb,pa,pc,hlt,rfl,⟨g,rfl,cg⟩,e,HNo.o,lp,c2⟩;have HS:Hid (fns[i].1≠s->∀j,j<i+1->∀h':j<fns.length,fns[j].1≠s):=by
    intro hn j hj h' e;by_cases hjn:j=i
    ·subst hjn;exact hn e
    ·exact HNo.o j (by omega) h' e
   have hcap2:k<=fc:=by omega
   clear hlen hcap;generalize fns[i]=x at *;cases hq:(x.1==s)
   ·have HQ:Hid (x.1≠s):=by rw[beq_eq_false_iff_ne]at hq;exact hq
    go_wp2;go_roundg (gk-1)
    case measure=>omega
    case rel=>exact⟨i+1,rfl,by omega,HS.o HQ.o,rfl⟩
   ·have HQ:Hid (x.1=s):=A0 (by simpa using hq);go_wp2;go_ret;exact⟨_,rfl,HI.o HQ.o,rfl⟩
  ·have HT:Hid (Nh wr fns fa k s none):=.inl ⟨rfl,fun j hj h=>HNo.o j (by omega) h⟩;go_wp2;go_ret;exact⟨_,rfl,HT.o,rfl⟩
theorem Nh.unique{w:World}{fns:List (Nm×Nat)}{fa:Option Addr}{k:Nat}{s:Nm}{p q:Option Addr}(h1:Nh w fns fa k s p)(h2:Nh w fns fa k s q):p=q:=by
 rcases h1 with⟨e1,n1⟩|⟨i,hi,pb,pa,pc,hik,e1,⟨g,eg,c1⟩,es,n1,_,_⟩
 ·rcases h2 with⟨e2,_⟩|⟨j,hj,pb2,Eg,Eh,hjk,e2,_,es2,_⟩
  ·rw[e1,e2]
  ·exact absurd es2 (n1 j hjk hj)
 ·rcases h2 with⟨e2,n2⟩|⟨j,hj,pb2,Eg,Eh,hjk,e2,⟨g2,eg2,c2⟩,es2,n2,_,_⟩
  ·exact absurd es (n2 i hik hi)
  ·have hij:i=j:=by
    rcases Nat.lt_trichotomy i j with h|h|h
    ·exact absurd es (n2 i h hi)
    ·exact h
    ·exact absurd es2 (n1 j h hj)
   subst hij;rw[eg]at eg2;injection eg2 with eg2;injection eg2 with eg2;subst eg2;rw[c1]at c2;injection c2 with c2;injection c2 with c2;rw[e1,e2,c2]
theorem Je.find(h:Je D w fns fa fn fc)(s:Nm):∀k,k<=fns.length->∃p,Nh w fns fa k s p:=by
 intro k;induction k with
 | zero=>intro _;exact⟨none,.inl ⟨rfl,fun j hj=>by omega⟩⟩
 | succ k ih=>
  intro hk;obtain⟨p,hp⟩:=ih (by omega);rcases hp with⟨rfl,hn⟩|⟨i,hi,pb,pa,pc,hik,r⟩
  ·by_cases e:(fns[k]'(by omega)).1=s
   ·obtain⟨g,pb,pa,pc,e1,_,_,e4,_,e6,_,e8⟩:=h.at' k (by omega);exact⟨some ⟨pb,0,none⟩,.inr ⟨k,by omega,pb,pa,pc,by omega,rfl,⟨g,e1,e4⟩,e,fun j hj h'=>hn j hj h',e6,e8⟩⟩
   ·refine⟨none,.inl ⟨rfl,fun j hj h' e2=>?_⟩⟩;by_cases hjk:j=k
    ·subst hjk;exact e e2
    ·exact hn j (by omega) h' e2
  ·exact⟨p,.inr ⟨i,hi,pb,pa,pc,by omega,r⟩⟩
theorem X9(h:Je D w fns fa fn fc)(k:Nat)(hk:k<=fns.length)(s:Nm)(p:Option Addr)(hp:Nh w fns fa k s p) :
  Calls Tryz.prog 263 #[.slice fa k fc,.string ⟨s.toArray⟩] w fun e w'=>e=.returned (.pointer p)/\w'=w:=
 (A3i h k hk s).mono fun e w' ⟨q,e1,e2,e3⟩=>⟨by rw[e1,hp.unique e2],e3⟩
end
section
set_option maxRecDepth 100000
open Go.RowKit
open Go.Deep (BT)
structure CC where
 cb:Nat
 te:Nat
 fns:List (Nm×Nat)
 fa:Option Addr
 fn:Nat
 fc:Nat
structure CC.St (K : CC) (D : Nat -> Prop) (w : World) (ns : List Nm) (bk : List Nat) (wh : Nat) (inn : Bool) (f : B3) (rc : Nat) : Prop where
 st:F8 D K.cb K.te w ns bk wh inn f rc K.fa K.fn K.fc
 fr:Je D w K.fns K.fa K.fn K.fc
variable {K:CC}{D:Nat->Prop}{w:World}{ns:List Nm}{bk:List Nat}{wh:Nat}{inn:Bool}{f:B3}{rc:Nat}
theorem CC.St.lo(h:K.St D w ns bk wh inn f rc):(∀g,D g->g<w.heap.size)/\K.cb<w.heap.size/\¬D K.cb:=by
 obtain⟨_,_,_,_,_,_,_,_,_,_,h⟩:=h.st;exact⟨h.lo,A5 h.cell,h.Di⟩
theorem CC.St.next{K:CC}{D:Nat->Prop}{w w':World}{ns ns':List Nm}{bk bk':List Nat}{wh wh':Nat}{inn inn':Bool}{f f':B3}{rc rc':Nat}(h:K.St D w ns bk wh inn f rc)(hs:F8 D K.cb K.te w' ns' bk' wh' inn' f' rc' K.fa K.fn K.fc)(hb:A4 D w w'):K.St D w' ns' bk' wh' inn' f' rc':=⟨hs,h.fr.keep hb⟩
theorem CC.St.drewN(h:K.St D w ns bk wh inn f rc)(n:Nat):K.St D (w.drewN n) ns bk wh inn f rc:=
 h.next (h.st.keep (fun _ _=>rfl) (Nat.le_refl _)) ⟨rfl,rfl,rfl,Nat.le_refl _,fun _ _=>rfl⟩
theorem Hi(D:Nat->Prop)(w:World)(n:Nat):A4 D w (w.drewN n):=⟨rfl,rfl,rfl,Nat.le_refl _,fun _ _=>rfl⟩
theorem Aj.Be{D:Nat->Prop}{w w':World}(hb:A4 D w w'){f:BT A2}{vs:List Value}(h:Aj D w f vs):Aj D w' f vs:=Aj.keep (fun g hg _=>⟨hb.block g hg,hg⟩) _ _ h
theorem Ba.Be{D:Nat->Prop}{w w':World}(hb:A4 D w w'){l:A2}{v:Value}{ks:List Value}(h:Ba D w l v ks):Ba D w' l v ks:=Ba.keep (fun g hg _=>⟨hb.block g hg,hg⟩) h
theorem C1.Be{D:Nat->Prop}{w w':World}(hb:A4 D w w'){e:TypeId}{size:Nat}{v:Value}{n:Nat}{cs:List Value}(h:C1 D w e size v n cs):C1 D w' e size v n cs:=h.keep (fun g hg _=>⟨hb.block g hg,hg⟩)
theorem Aj.at'{D:Nat->Prop}{w:World}:∀(i:Nat) (f:BT A2) (vs:List Value),Aj D w f vs->i<A8 f->
  ∃x y l c r,Au i f=.node x y l c r/\∃v ks,vs[i]?=some v/\Ba D w l v ks/\Aj D w c ks:=by
 intro i;induction i with
 | zero=>
  intro f vs h hi;cases f with
  | nil=>simp[A8]at hi
  | node x y l c r=>
   obtain⟨v,ks,rest,rfl,h1,h2,h3⟩:=h;exact⟨x,y,l,c,r,rfl,v,ks,rfl,h1,h2⟩
 | succ i ih=>
  intro f vs h hi;cases f with
  | nil=>simp[A8]at hi
  | node x y l c r=>
   obtain⟨v,ks,rest,rfl,h1,h2,h3⟩:=h;obtain⟨x',y',l',c',r',e,v',ks',k1,k2,k3⟩:=ih r rest h3 (by simp only[A8]at hi;omega);exact⟨x',y',l',c',r',e,v',ks',k1,k2,k3⟩
def Gf(K:CC)(l:A2)(c:BT A2):Prop:=∀(D:Nat->Prop) (w:World) (outer cur:List Nm) (bk:List Nat) (wh:Nat) (inn:Bool) (f:B3) (rc:Nat) (v:Value) (ks:List Value),
 K.St D w (outer++cur) bk wh inn f rc->Ba D w l v ks->Aj D w c ks->
 Calls Tryz.prog 236 #[.pointer (some ⟨K.cb,0,none⟩),v] w fun e w'=>e=.returned (.tuple #[])/\K.St D w' (outer++cur) bk wh inn (Ag K.fns (nd l c) outer cur wh inn f).2 rc/\A4 D w w'
def Co(P:A2->BT A2->Prop):BT A2->Prop
 | .nil=>True
 | .node _ _ l c r=>P l c/\Co P r
theorem Co.at'{P:A2->BT A2->Prop}:∀(i:Nat) (f:BT A2),Co P f->∀x y l c r,Au i f=.node x y l c r->P l c:=by
 intro i;induction i with
 | zero=>intro f h x y l c r e;rw[show Au 0 f=f from by cases f <;> rfl]at e;subst e;exact h.1
 | succ i ih=>
  intro f h x y l c r e;cases f with
  | nil=>rw[Au]at e;cases e
  | node x' y' l' c' r'=>rw[Au]at e;exact ih r' h.2 x y l c r e
theorem Wf.drop:∀(m i:Nat) (f:BT A2),Wf m f->Wf m (Au i f):=by
 intro m i;induction i with
 | zero=>intro f h;exact h
 | succ i ih=>
  intro f h;cases f with
  | nil=>exact h
  | node x y l c r=>exact ih r h.1
theorem sens_xy'(fns:List (Nm×Nat))(x y:Nat)(l:A2)(c r:BT A2)(outer cur:List Nm)(wh:Nat)(inn:Bool)(f:B3):Ag fns (.node x y l c r) outer cur wh inn f=Ag fns r outer (Ag fns (nd l c) outer cur wh inn f).1 wh inn (Ag fns (nd l c) outer cur wh inn f).2:=by
 rw[Sb];rfl
theorem Wf.Qw{x y:Nat}{l:A2}{c r:BT A2}(h:Wf 0 (.node x y l c r)):Wf 0 (nd l c):=⟨trivial,h.2⟩
theorem X7(K:CC)(c:BT A2)(hok:Co (Gf K) c)(hwf:Wf 0 c)(D:Nat->Prop)(w:World)(outer cur:List Nm)(bk:List Nat)(wh:Nat)(inn:Bool)(f:B3)(rc:Nat)(va:Option Addr)(vn vc:Nat)(ks:List Value)
  (hst:K.St D w (outer++cur) bk wh inn f rc) (hown:C1 D w 150 1 (.slice va vn vc) ks.length ks) (hrep:Aj D w c ks) (hb:ks.length<=500000) :
  Calls Tryz.prog 267 #[.pointer (some ⟨K.cb,0,none⟩),.slice va vn vc] w fun e w'=>e=.returned (.tuple #[])/\K.St D w' (outer++cur) bk wh inn (Ag K.fns c outer cur wh inn f).2 rc/\A4 D w w':=by
 have hvn:vn=ks.length:=(C9 hown.1).1;subst hvn;have Dk:=A0 hst;have HOwn:=A0 hown;have HRep:=A0 hrep;have hlen:=hrep.len;have HLen:=A0 hlen;clear hst hown hrep hlen;go_enter Tryz.func267,Tryz.ntmps267;go_wp2;go_loopg [8] ks.length (fun k v wr=>∃(i:Nat) (fl:B3),v=.int .i64 i/\i+k=ks.length/\K.St D wr (outer++cur) bk wh inn fl rc/\(Ag K.fns (Au i c) outer cur wh inn fl).2=(Ag K.fns c outer cur wh inn f).2/\A4 D w wr)
 case atStart=>exact⟨0,f,rfl,by omega,Dk.o,rfl,A4.refl _ _⟩
 case round=>
  clear Dk;obtain⟨i,fl,rfl,hik,hst,hse,hbel⟩:=hrel;have HSt:=A0 hst;have HSe:=A0 hse;have HBel:=A0 hbel;clear hst hse hbel;by_cases hlt:i<ks.length
  ·have hr:=HRep.o.Be HBel.o;obtain⟨x,y,l,cc,r,hd,v,ks',hv,hn,hrk⟩:=Aj.at' i c ks hr (by rw[←HLen.o];exact hlt);obtain⟨g,rfl,_,hcap,lg,hcell⟩:=Fs (HOwn.o.Be HBel.o).1 (by omega);have d0:=hcell i v hv;have hE:=A0 (hok.at' i c x y l cc r hd);have hw0:Wf 0 (nd l cc):=by have:=Wf.drop 0 i c hwf;rw[hd]at this;exact this.Qw
   have Ad:=sens_xy' K.fns x y l cc r outer cur wh inn fl;rw[Lx K.fns _ hw0]at Ad;have HNx:Hid ((Ag K.fns (Au (i+1) c) outer cur wh inn (Ag K.fns (nd l cc) outer cur wh inn fl).2).2=(Ag K.fns c outer cur wh inn f).2):=by
    show _=_;rw[Ko i c x y l cc r hd,←HSe.o,hd,Ad]
   have HC:=A0 (hE.out D wr outer cur bk wh inn fl rc v ks' HSt.o hn hrk);clear hr hd hv hn hrk hcell hw0 Ad;go_wp2_with fail
   refine HC.o.mono ?_;rintro e w1 ⟨rfl,Ad,A3⟩;have Aq:=A0 Ad;have Ab:Hid (A4 D w w1):=HBel.o.trans A3;clear Ad A3;go_wp2;go_roundg (gk-1)
   case measure=>omega
   case rel=>exact⟨i+1,_,rfl,by omega,Aq.o,HNx.o,Ab.o⟩
  ·have HE:Hid (fl=(Ag K.fns c outer cur wh inn f).2):=by
    have h0:Au i c=.nil:=by
     have:A8 (Au i c)=0:=by rw[L4,←HLen.o];omega
     cases hd:Au i c with
     | nil=>rfl
     | node x y l c r=>rw[hd]at this;simp[A8]at this
    have:=HSe.o;rw[h0]at this;exact this
   go_wp2;go_end0;rw[←HE.o];exact⟨rfl,HSt.o,HBel.o⟩
end
section
set_option maxRecDepth 100000
open Go.RowKit
open Go.Deep (BT)
theorem A5p{w:World}{fns:List (Nm×Nat)}{fa:Option Addr}{s:Nm}{p:Option Addr}(h:Nh w fns fa fns.length s p)(n:Nat) :
  (p=none/\Ky fns s n=true)\/(∃pb pa m pc,p=some ⟨pb,0,none⟩/\Ky fns s n=(m !=n)/\pb<w.heap.size/\w.cell? ⟨pb,2,none⟩=some (.slice pa m pc)):=by
 rcases h with⟨e,hn⟩|⟨i,hi,pb,pa,pc,_,e,_,es,hn,lp,c2⟩
 ·left;refine⟨e,?_⟩;unfold Ky;rw[Ys fns s (fun j hj=>hn j hj hj)]
 ·right;refine⟨pb,pa,fns[i].2,pc,e,?_,lp,c2⟩;unfold Ky;rw[Yr fns s i hi es hn]
theorem A33(K:CC)(c:BT A2)(hok:Co (Gf K) c)(hwf:Wf 0 c)(line:Nat)(s:Nm)(D:Nat->Prop)(w:World)(outer cur:List Nm)(bk:List Nat)(wh:Nat)(inn:Bool)(f:B3)(rc:Nat)(b:Nat)(va:Option Addr)(vn vc:Nat)(ks:List Value)
  (hst:K.St D w (outer++cur) bk wh inn f rc) (hD:D b) (hblk:w.heap[b]?=some (.cells #[.int .i64 (line:Nat),.string ⟨s.toArray⟩,.slice va vn vc] 303 (0,0))) (hown:C1 D w 150 1 (.slice va vn vc) ks.length ks) (hrep:Aj D w c ks) (hb:ks.length<=500000) :
  Calls Tryz.prog 266 #[.pointer (some ⟨K.cb,0,none⟩),.pointer (some ⟨b,0,none⟩)] w fun e w'=>e=.returned (.tuple #[])/\K.St D w' (outer++cur) bk wh inn (Ag K.fns c outer cur wh inn (Bu (Ky K.fns s (A8 c)) 3 line f)).2 rc/\A4 D w w':=by
 obtain⟨hlo,lcb,hncb⟩:=hst.lo;have hvn:vn=ks.length:=(C9 hown.1).1;have hlen:=hrep.len;rw[←hlen];subst hvn;obtain⟨p,hp⟩:=hst.fr.find s K.fns.length (Nat.le_refl _);have hfl:=hst.fr.len;have HNm:=A0 (fun(n:Nat)=>X9 (hst.drewN n).fr K.fns.length (Nat.le_refl _) s p hp);have hfn:=A5p hp ks.length;have HSt:=A0 hst;have HOwn:=A0 hown;have HRep:=A0 hrep;have HBlk:=A0 hblk;obtain⟨na,nn,nc,ba,bn,bc,la,ln,lc,ls,hv⟩:=hst.st;obtain⟨c0,c1,c2,c3,c4,c5,c6,c7,fz,lb⟩:=Gn hv.cell;rw[hfl]at c0;have d0:=Ac hblk 0 _ rfl;have d1:=Ac hblk 1 _ rfl;have d2:=Ac hblk 2 _ rfl;have ld:=A5 hblk;clear hst hown hrep hblk hp hv hlen;have HRun:=A0 (fun(W:World) (g:B3) (hs:K.St D W (outer++cur) bk wh inn g rc) (hbd:A4 D w W)=>X7 K c hok hwf D W outer cur bk wh inn g rc va ks.length vc ks hs (HOwn.o.Be hbd) (HRep.o.Be hbd) hb);rcases hfn with⟨rfl,hcb⟩|⟨pb,pa,m,pc,rfl,hcb,lpb,cp⟩
 ·rw[hcb];clear hcb hfl;go_enter Tryz.func266,Tryz.ntmps266;go_wp2;go_quiet ((go_at_call 263;exact Calls.quiet_of_same (HNm.o _)))
  have Aq:=A0 (HSt.o.drewN nq);have Ab:=A0 (Hi D w nq);have Ki:Hid ((w.drewN nq).heap[b]?=_):=HBlk.o;clear c0 c1 c2 c3 c4 c5 c6 c7 fz lb d0 d1 d2 ld;generalize w.drewN nq=w1 at *;have d0:=Ac Ki.o 0 _ rfl;have d1:=Ac Ki.o 1 _ rfl;have d2:=Ac Ki.o 2 _ rfl;have ld:=A5 Ki.o;go_wp2;go_quiet (fail)
  have Bi:=A0 (Aq.o.drewN nq);have Ai:Hid (A4 D w (w1.drewN nq)):=Ab.o.trans (Hi D w1 nq);have HBlk2:Hid ((w1.drewN nq).heap[b]?=_):=Ki.o;clear d0 d1 d2 ld;generalize w1.drewN nq=w2 at *;have d0:=Ac HBlk2.o 0 _ rfl;have d2:=Ac HBlk2.o 2 _ rfl;have ld:=A5 HBlk2.o;go_wp2_with fail
  refine(Om Bi.o.st 3 line).mono ?_;rintro e w3 ⟨rfl,At,Ar⟩;have Df:=A0 (Bi.o.next At Ar);have B4:Hid (A4 D w w3):=Ai.o.trans Ar;have HBlk3:=A0 ((Ar.block b hD).trans HBlk2.o);clear At Ar d0 d2 ld;have d2:=Ac HBlk3.o 2 _ rfl;have ld:=A5 HBlk3.o;go_wp2_with fail
  refine(HRun.o _ _ Df.o B4.o).mono ?_;rintro e w4 ⟨rfl,Dx,Bc⟩;have Ia:=A0 Dx;have Dm:Hid (A4 D w w4):=B4.o.trans Bc;clear Dx Bc;go_wp2;go_end0;exact⟨rfl,Ia.o,Dm.o⟩
 ·rw[hcb];clear hfl;cases hm:(m !=ks.length)
  ·have tm:((m:Int) !=(ks.length:Int))=false:=by simp at hm ⊢;omega
   rw[Qd];clear hcb hm;go_enter Tryz.func266,Tryz.ntmps266;go_wp2;go_quiet ((go_at_call 263;exact Calls.quiet_of_same (HNm.o _)))
   have Aq:=A0 (HSt.o.drewN nq);have Ab:=A0 (Hi D w nq);have Ki:Hid ((w.drewN nq).heap[b]?=_):=HBlk.o;have HCp:Hid ((w.drewN nq).cell? ⟨pb,2,none⟩=_):=cp;have lpb1:pb<(w.drewN nq).heap.size:=lpb;clear cp lpb;clear c0 c1 c2 c3 c4 c5 c6 c7 fz lb d0 d1 d2 ld;generalize w.drewN nq=w1 at *;have d0:=Ac Ki.o 0 _ rfl;have d1:=Ac Ki.o 1 _ rfl;have d2:=Ac Ki.o 2 _ rfl;have ld:=A5 Ki.o;have cp:=HCp.o;go_wp2;go_quiet (fail)
   have Bi:=A0 (Aq.o.drewN nq);have Ai:Hid (A4 D w (w1.drewN nq)):=Ab.o.trans (Hi D w1 nq);have HBlk2:Hid ((w1.drewN nq).heap[b]?=_):=Ki.o;clear d0 d1 d2 ld cp lpb1 HCp;generalize w1.drewN nq=w2 at *;have d0:=Ac HBlk2.o 0 _ rfl;have d2:=Ac HBlk2.o 2 _ rfl;have ld:=A5 HBlk2.o;go_wp2_with fail
   refine(HRun.o _ _ Bi.o Ai.o).mono ?_;rintro e w4 ⟨rfl,Dx,Bc⟩;have Ia:=A0 Dx;have Dm:Hid (A4 D w w4):=Ai.o.trans Bc;clear Dx Bc;go_wp2;go_end0;exact⟨rfl,Ia.o,Dm.o⟩
  ·have tm:((m:Int) !=(ks.length:Int))=true:=by simp at hm ⊢;omega
   clear hcb hm;go_enter Tryz.func266,Tryz.ntmps266;go_wp2;go_quiet ((go_at_call 263;exact Calls.quiet_of_same (HNm.o _)))
   have Aq:=A0 (HSt.o.drewN nq);have Ab:=A0 (Hi D w nq);have Ki:Hid ((w.drewN nq).heap[b]?=_):=HBlk.o;have HCp:Hid ((w.drewN nq).cell? ⟨pb,2,none⟩=_):=cp;have lpb1:pb<(w.drewN nq).heap.size:=lpb;clear cp lpb;clear c0 c1 c2 c3 c4 c5 c6 c7 fz lb d0 d1 d2 ld;generalize w.drewN nq=w1 at *;have d0:=Ac Ki.o 0 _ rfl;have d1:=Ac Ki.o 1 _ rfl;have d2:=Ac Ki.o 2 _ rfl;have ld:=A5 Ki.o;have cp:=HCp.o;go_wp2;go_quiet (fail)
   have Bi:=A0 (Aq.o.drewN nq);have Ai:Hid (A4 D w (w1.drewN nq)):=Ab.o.trans (Hi D w1 nq);have HBlk2:Hid ((w1.drewN nq).heap[b]?=_):=Ki.o;clear d0 d1 d2 ld cp lpb1 HCp;generalize w1.drewN nq=w2 at *;have d0:=Ac HBlk2.o 0 _ rfl;have d2:=Ac HBlk2.o 2 _ rfl;have ld:=A5 HBlk2.o;go_wp2_with fail
   refine(Om Bi.o.st 3 line).mono ?_;rintro e w3 ⟨rfl,At,Ar⟩;have Df:=A0 (Bi.o.next At Ar);have B4:Hid (A4 D w w3):=Ai.o.trans Ar;have HBlk3:=A0 ((Ar.block b hD).trans HBlk2.o);clear At Ar d0 d2 ld;have d2:=Ac HBlk3.o 2 _ rfl;have ld:=A5 HBlk3.o;go_wp2_with fail
   refine(HRun.o _ _ Df.o B4.o).mono ?_;rintro e w4 ⟨rfl,Dx,Bc⟩;have Ia:=A0 Dx;have Dm:Hid (A4 D w w4):=B4.o.trans Bc;clear Dx Bc;go_wp2;go_end0;exact⟨rfl,Ia.o,Dm.o⟩
def Lt(fns:List (Nm×Nat))(l:A2)(n:Nat)(outer cur:List Nm)(wh:Nat)(inn:Bool)(f:B3):B3:=
 if l.kd=6\/l.kd=28 then Bu (!decide (l.s∈outer++cur)) 3 l.line f
 else if l.kd=7 then Bu (Ky fns l.s n) 3 l.line f
 else if l.kd=25\/l.kd=26 then Bu (wh==0) 4 l.line f
 else if l.kd=24 then Bu (!inn) 4 l.line f
 else f
theorem K1(fns:List (Nm×Nat))(l:A2)(c:BT A2)(h1:l.kd≠31)(h2:l.kd≠32)(h3:l.kd≠21)(outer cur:List Nm)(wh:Nat)(inn:Bool)(f:B3):Ag fns (nd l c) outer cur wh inn f=Ag fns c outer cur wh inn (Lt fns l (A8 c) outer cur wh inn f):=by
 rw[nd,Ag,if_neg h1,if_neg h2,if_neg h3,Ag];rfl
theorem Lu{fns:List (Nm×Nat)}{l:A2}{n:Nat}{outer cur:List Nm}{wh:Nat}{inn:Bool}{f:B3}(h:l.kd≠6/\l.kd≠28/\l.kd≠7/\l.kd≠25/\l.kd≠26/\l.kd≠24):Lt fns l n outer cur wh inn f=f:=by
 unfold Lt;rw[if_neg (by omega),if_neg (by omega),if_neg (by omega),if_neg (by omega)]
theorem Aj.nil'{D:Nat->Prop}{w:World}{c:BT A2}(h:Aj D w c []):c=.nil:=by
 cases c with
 | nil=>rfl
 | node x y l c r=>obtain⟨v,ks,rest,e,_⟩:=h;cases e
theorem Aj.cons'{D:Nat->Prop}{w:World}{c:BT A2}{a:Value}{vs:List Value}(h:Aj D w c (a::vs)):∃x y l c1 r ks,c=.node x y l c1 r/\Ba D w l a ks/\Aj D w c1 ks/\Aj D w r vs:=by
 cases c with
 | nil=>rw[Aj]at h;cases h
 | node x y l c1 r=>
  obtain⟨v,ks,rest,e,h1,h2,h3⟩:=h;injection e with e1 e2;subst e1 e2;exact⟨x,y,l,c1,r,ks,rfl,h1,h2,h3⟩
theorem L5(fns:List (Nm×Nat))(x y:Nat)(l:A2)(c:BT A2)(outer cur:List Nm)(wh:Nat)(inn:Bool)(f:B3):Ag fns (.node x y l c .nil) outer cur wh inn f=Ag fns (nd l c) outer cur wh inn f:=by
 rw[sens_xy',Ag]
theorem A38(K:CC)(l:A2)(c:BT A2)(hk:l.kd=1\/l.kd=2\/l.kd=3\/l.kd=4\/l.kd=5):Gf K l c:=by
 intro D w outer cur bk wh inn f rc v ks hst hn hr;unfold Ba at hn;rw[if_neg (by omega)]at hn;obtain⟨b,cs,rfl,hD,hb,hl⟩:=hn;rw[K1 K.fns l c (by omega) (by omega) (by omega),Lu (by omega)];have hks:ks=[]:=by
  unfold Ck at hl;rcases hk with h|h|h|h|h <;> (simp only[h]at hl;exact hl.2)
 subst hks;rw[hr.nil',Ag];have HSt:=A0 hst;have hp:C3 l.kd=220\/C3 l.kd=229\/C3 l.kd=233\/C3 l.kd=237:=by
  rcases hk with h|h|h|h|h <;> (rw[h];decide)
 have hm:∀T e,Tryz.prog.underlying T=some (.pointer e)->(Tryz.prog.info? T).map (·.zero)=some (some (.pointer none))->C3 l.kd≠T->∀(v:Value) (w:World),(Instr.typeAssert (.iface (C3 l.kd) v) 150 T true).run Tryz.prog w=.ok (.tuple #[.pointer none,.bool false]) w:=fun T e h1 h2 h3 v w=>Az h1 h2 h3 v w;have D4:=hm 238 _ Tryz.underlying238 (by kernel_rfl) (by rcases hp with h|h|h|h <;> rw[h] <;> decide);have Dt:=hm 301 _ Tryz.underlying301 (by kernel_rfl) (by rcases hp with h|h|h|h <;> rw[h] <;> decide);have Er:=hm 241 _ Tryz.underlying241 (by kernel_rfl) (by rcases hp with h|h|h|h <;> rw[h] <;> decide);have Fm:=hm 296 _ Tryz.underlying296 (by kernel_rfl) (by rcases hp with h|h|h|h <;> rw[h] <;> decide);have Gs:=hm 304 _ Tryz.underlying304 (by kernel_rfl) (by rcases hp with h|h|h|h <;> rw[h] <;> decide);have Iy:=hm 307 _ Tryz.underlying307 (by kernel_rfl) (by rcases hp with h|h|h|h <;> rw[h] <;> decide);have Kh:=hm 310 _ Tryz.underlying310 (by kernel_rfl) (by rcases hp with h|h|h|h <;> rw[h] <;> decide);have ta7:=hm 244 _ Tryz.underlying244 (by kernel_rfl) (by rcases hp with h|h|h|h <;> rw[h] <;> decide);have ta8:=hm 248 _ Tryz.underlying248 (by kernel_rfl) (by rcases hp with h|h|h|h <;> rw[h] <;> decide);clear hm hp hst hl hb hk;generalize C3 l.kd=t at *;go_enter Tryz.func236,Tryz.ntmps236;go_wp2;go_end0;exact⟨rfl,HSt.o,A4.refl _ _⟩
theorem X6(K:CC)(l:A2)(c:BT A2)(hk:l.kd=6):Gf K l c:=by
 intro D w outer cur bk wh inn f rc v ks hst hn hr;obtain⟨hlo,lcb,hncb⟩:=hst.lo;unfold Ba at hn;rw[if_neg (by omega)]at hn;obtain⟨b,cs,rfl,hD,hb,hl⟩:=hn;have e1:C3 l.kd=238:=by rw[hk];rfl
 have e2:Db l.kd=240:=by rw[hk];rfl
 rw[e1];rw[e2]at hb;rw[K1 K.fns l c (by omega) (by omega) (by omega)];unfold Ck at hl;simp only[hk]at hl;obtain⟨rfl,rfl⟩:=hl;rw[hr.nil',Ag];have hp:Lt K.fns l (A8 BT.nil) outer cur wh inn f=Bu (!decide (l.s∈outer++cur)) 3 l.line f:=by unfold Lt;rw[if_pos (.inl hk)]
 rw[hp];have HSt:=A0 hst;have hsn:=Xe hst.st l.s 0 (Nat.zero_le _);rw[List.drop_zero]at hsn;have HSn:=A0 hsn;have d0:w.cell? ⟨b,0,none⟩=some (.int .i64 (l.line:Nat)):=Ac hb 0 _ rfl;have d1:w.cell? ⟨b,1,none⟩=some (.string ⟨l.s.toArray⟩):=Ac hb 1 _ rfl;have ld:=A5 hb;have D4:=fun(v:Value) (w:World)=>Dz (P:=Tryz.prog) (xT:=150) Tryz.underlying238 v w;clear hst hsn hb hp e1 e2 hk hr;unfold Bx;cases hq:decide (l.s∈outer++cur)
 ·rw[hq]at HSn;go_enter Tryz.func236,Tryz.ntmps236;go_wp2_with fail
  refine HSn.o.mono ?_;rintro e w' ⟨rfl,rfl⟩;go_wp2_with fail
  refine(Om HSt.o.st 3 l.line).mono ?_;rintro e w3 ⟨rfl,At,Ar⟩;have Df:=A0 (HSt.o.next At Ar);have B4:=A0 Ar;clear At Ar;go_wp2;go_end0;exact⟨rfl,Df.o,B4.o⟩
 ·rw[hq]at HSn;rw[show(!true)=false from rfl,Qd];go_enter Tryz.func236,Tryz.ntmps236;go_wp2_with fail
  refine HSn.o.mono ?_;rintro e w' ⟨rfl,rfl⟩;go_wp2;go_end0;exact⟨rfl,HSt.o,A4.refl _ _⟩
theorem A37(K:CC)(l:A2)(c:BT A2)(hk:l.kd=8)(ih:Co (Gf K) c):Gf K l c:=by
 intro D w outer cur bk wh inn f rc v ks hst hn hr;obtain⟨hlo,lcb,hncb⟩:=hst.lo;unfold Ba at hn;rw[if_neg (by omega)]at hn;obtain⟨b,cs,rfl,hD,hb,hl⟩:=hn;have e1:C3 l.kd=241:=by rw[hk];rfl
 have e2:Db l.kd=243:=by rw[hk];rfl
 rw[e1];rw[e2]at hb;rw[K1 K.fns l c (by omega) (by omega) (by omega)];unfold Ck at hl;simp only[hk]at hl;obtain⟨a,rfl,rfl⟩:=hl;obtain⟨x1,y1,l1,c1,r1,Cx,rfl,B1,B0,hz⟩:=hr.cons';obtain rfl:=hz.nil';rw[Lu (by omega),L5];have HC:=A0 (ih.1 D w outer cur bk wh inn f rc a Cx hst B1 B0);have d0:=Ac hb 0 a rfl;have ld:=A5 hb;have D4:=fun(v:Value) (w:World)=>Az (P:=Tryz.prog) (t:=241) (T:=238) (xT:=150) (z:=.pointer none) Tryz.underlying238 (by kernel_rfl) (by decide) v w;have Dt:=fun(v:Value) (w:World)=>Az (P:=Tryz.prog) (t:=241) (T:=301) (xT:=150) (z:=.pointer none) Tryz.underlying301 (by kernel_rfl) (by decide) v w;have Er:=fun(v:Value) (w:World)=>Dz (P:=Tryz.prog) (xT:=150) Tryz.underlying241 v w;clear hst hb e1 e2 hk hr B1 B0 hz ih;unfold Bx;go_enter Tryz.func236,Tryz.ntmps236;go_wp2_with fail
 refine HC.o.mono ?_;rintro e w1 ⟨rfl,Ad,A3⟩;have Aq:=A0 Ad;have Ab:=A0 A3;clear Ad A3;go_wp2;go_end0;exact⟨rfl,Aq.o,Ab.o⟩
theorem A39(K:CC)(l:A2)(c:BT A2)(hk:l.kd=10)(ih:Co (Gf K) c):Gf K l c:=by
 intro D w outer cur bk wh inn f rc v ks hst hn hr;obtain⟨hlo,lcb,hncb⟩:=hst.lo;unfold Ba at hn;rw[if_neg (by omega)]at hn;obtain⟨b,cs,rfl,hD,hb,hl⟩:=hn;have e1:C3 l.kd=304:=by rw[hk];rfl
 have e2:Db l.kd=306:=by rw[hk];rfl
 rw[e1];rw[e2]at hb;rw[K1 K.fns l c (by omega) (by omega) (by omega)];unfold Ck at hl;simp only[hk]at hl;obtain⟨a,rfl,rfl⟩:=hl;obtain⟨x1,y1,l1,c1,r1,Cx,rfl,B1,B0,hz⟩:=hr.cons';obtain rfl:=hz.nil';rw[Lu (by omega),L5];have HC:=A0 (ih.1 D w outer cur bk wh inn f rc a Cx hst B1 B0);have d0:=Ac hb 1 a rfl;have ld:=A5 hb;have D4:=fun(v:Value) (w:World)=>Az (P:=Tryz.prog) (t:=304) (T:=238) (xT:=150) (z:=.pointer none) Tryz.underlying238 (by kernel_rfl) (by decide) v w;have Dt:=fun(v:Value) (w:World)=>Az (P:=Tryz.prog) (t:=304) (T:=301) (xT:=150) (z:=.pointer none) Tryz.underlying301 (by kernel_rfl) (by decide) v w;have Er:=fun(v:Value) (w:World)=>Az (P:=Tryz.prog) (t:=304) (T:=241) (xT:=150) (z:=.pointer none) Tryz.underlying241 (by kernel_rfl) (by decide) v w;have Fm:=fun(v:Value) (w:World)=>Az (P:=Tryz.prog) (t:=304) (T:=296) (xT:=150) (z:=.pointer none) Tryz.underlying296 (by kernel_rfl) (by decide) v w;have Gs:=fun(v:Value) (w:World)=>Dz (P:=Tryz.prog) (xT:=150) Tryz.underlying304 v w;clear hst hb e1 e2 hk hr B1 B0 hz ih;unfold Bx;go_enter Tryz.func236,Tryz.ntmps236;go_wp2_with fail
 refine HC.o.mono ?_;rintro e w1 ⟨rfl,Ad,A3⟩;have Aq:=A0 Ad;have Ab:=A0 A3;clear Ad A3;go_wp2;go_end0;exact⟨rfl,Aq.o,Ab.o⟩
theorem A3c(K:CC)(l:A2)(c:BT A2)(hk:l.kd=13)(ih:Co (Gf K) c):Gf K l c:=by
 intro D w outer cur bk wh inn f rc v ks hst hn hr;obtain⟨hlo,lcb,hncb⟩:=hst.lo;unfold Ba at hn;rw[if_neg (by omega)]at hn;obtain⟨b,cs,rfl,hD,hb,hl⟩:=hn;have e1:C3 l.kd=244:=by rw[hk];rfl
 have e2:Db l.kd=246:=by rw[hk];rfl
 rw[e1];rw[e2]at hb;rw[K1 K.fns l c (by omega) (by omega) (by omega)];unfold Ck at hl;simp only[hk]at hl;obtain⟨a,rfl,rfl⟩:=hl;obtain⟨x1,y1,l1,c1,r1,Cx,rfl,B1,B0,hz⟩:=hr.cons';obtain rfl:=hz.nil';rw[Lu (by omega),L5];have HC:=A0 (ih.1 D w outer cur bk wh inn f rc a Cx hst B1 B0);have d0:=Ac hb 2 a rfl;have ld:=A5 hb;have D4:=fun(v:Value) (w:World)=>Az (P:=Tryz.prog) (t:=244) (T:=238) (xT:=150) (z:=.pointer none) Tryz.underlying238 (by kernel_rfl) (by decide) v w;have Dt:=fun(v:Value) (w:World)=>Az (P:=Tryz.prog) (t:=244) (T:=301) (xT:=150) (z:=.pointer none) Tryz.underlying301 (by kernel_rfl) (by decide) v w;have Er:=fun(v:Value) (w:World)=>Az (P:=Tryz.prog) (t:=244) (T:=241) (xT:=150) (z:=.pointer none) Tryz.underlying241 (by kernel_rfl) (by decide) v w;have Fm:=fun(v:Value) (w:World)=>Az (P:=Tryz.prog) (t:=244) (T:=296) (xT:=150) (z:=.pointer none) Tryz.underlying296 (by kernel_rfl) (by decide) v w;have Gs:=fun(v:Value) (w:World)=>Az (P:=Tryz.prog) (t:=244) (T:=304) (xT:=150) (z:=.pointer none) Tryz.underlying304 (by kernel_rfl) (by decide) v w;have Iy:=fun(v:Value) (w:World)=>Az (P:=Tryz.prog) (t:=244) (T:=307) (xT:=150) (z:=.pointer none) Tryz.underlying307 (by kernel_rfl) (by decide) v w;have Kh:=fun(v:Value) (w:World)=>Az (P:=Tryz.prog) (t:=244) (T:=310) (xT:=150) (z:=.pointer none) Tryz.underlying310 (by kernel_rfl) (by decide) v w;have ta7:=fun(v:Value) (w:World)=>Dz (P:=Tryz.prog) (xT:=150) Tryz.underlying244 v w;clear hst hb e1 e2 hk hr B1 B0 hz ih;unfold Bx;go_enter Tryz.func236,Tryz.ntmps236;go_wp2_with fail
 refine HC.o.mono ?_;rintro e w1 ⟨rfl,Ad,A3⟩;have Aq:=A0 Ad;have Ab:=A0 A3;clear Ad A3;go_wp2;go_end0;exact⟨rfl,Aq.o,Ab.o⟩
theorem A3b(K:CC)(l:A2)(c:BT A2)(hk:l.kd=14)(ih:Co (Gf K) c):Gf K l c:=by
 intro D w outer cur bk wh inn f rc v ks hst hn hr;obtain⟨hlo,lcb,hncb⟩:=hst.lo;unfold Ba at hn;rw[if_neg (by omega)]at hn;obtain⟨b,cs,rfl,hD,hb,hl⟩:=hn;have e1:C3 l.kd=244:=by rw[hk];rfl
 have e2:Db l.kd=246:=by rw[hk];rfl
 rw[e1];rw[e2]at hb;rw[K1 K.fns l c (by omega) (by omega) (by omega)];unfold Ck at hl;simp only[hk]at hl;obtain⟨a,rfl,rfl⟩:=hl;obtain⟨x1,y1,l1,c1,r1,Cx,rfl,B1,B0,hz⟩:=hr.cons';obtain rfl:=hz.nil';rw[Lu (by omega),L5];have HC:=A0 (ih.1 D w outer cur bk wh inn f rc a Cx hst B1 B0);have d0:=Ac hb 2 a rfl;have ld:=A5 hb;have D4:=fun(v:Value) (w:World)=>Az (P:=Tryz.prog) (t:=244) (T:=238) (xT:=150) (z:=.pointer none) Tryz.underlying238 (by kernel_rfl) (by decide) v w;have Dt:=fun(v:Value) (w:World)=>Az (P:=Tryz.prog) (t:=244) (T:=301) (xT:=150) (z:=.pointer none) Tryz.underlying301 (by kernel_rfl) (by decide) v w;have Er:=fun(v:Value) (w:World)=>Az (P:=Tryz.prog) (t:=244) (T:=241) (xT:=150) (z:=.pointer none) Tryz.underlying241 (by kernel_rfl) (by decide) v w;have Fm:=fun(v:Value) (w:World)=>Az (P:=Tryz.prog) (t:=244) (T:=296) (xT:=150) (z:=.pointer none) Tryz.underlying296 (by kernel_rfl) (by decide) v w;have Gs:=fun(v:Value) (w:World)=>Az (P:=Tryz.prog) (t:=244) (T:=304) (xT:=150) (z:=.pointer none) Tryz.underlying304 (by kernel_rfl) (by decide) v w;have Iy:=fun(v:Value) (w:World)=>Az (P:=Tryz.prog) (t:=244) (T:=307) (xT:=150) (z:=.pointer none) Tryz.underlying307 (by kernel_rfl) (by decide) v w;have Kh:=fun(v:Value) (w:World)=>Az (P:=Tryz.prog) (t:=244) (T:=310) (xT:=150) (z:=.pointer none) Tryz.underlying310 (by kernel_rfl) (by decide) v w;have ta7:=fun(v:Value) (w:World)=>Dz (P:=Tryz.prog) (xT:=150) Tryz.underlying244 v w;clear hst hb e1 e2 hk hr B1 B0 hz ih;unfold Bx;go_enter Tryz.func236,Tryz.ntmps236;go_wp2_with fail
 refine HC.o.mono ?_;rintro e w1 ⟨rfl,Ad,A3⟩;have Aq:=A0 Ad;have Ab:=A0 A3;clear Ad A3;go_wp2;go_end0;exact⟨rfl,Aq.o,Ab.o⟩
theorem A3d(K:CC)(l:A2)(c:BT A2)(hk:l.kd=11)(ih:Co (Gf K) c)(hwf:Wf 0 c):Gf K l c:=by
 intro D w outer cur bk wh inn f rc v ks hst hn hr;obtain⟨hlo,lcb,hncb⟩:=hst.lo;unfold Ba at hn;rw[if_neg (by omega)]at hn;obtain⟨b,cs,rfl,hD,hb,hl⟩:=hn;have e1:C3 l.kd=307:=by rw[hk];rfl
 have e2:Db l.kd=309:=by rw[hk];rfl
 rw[e1];rw[e2]at hb;rw[K1 K.fns l c (by omega) (by omega) (by omega)];unfold Ck at hl;simp only[hk]at hl;obtain⟨a1,a2,rfl,rfl⟩:=hl;obtain⟨x1,y1,l1,c1,r1,Cx,rfl,B1,B0,hz⟩:=hr.cons';obtain⟨x2,y2,l2,c2,r2,Ho,rfl,D9,Bt,Bv⟩:=hz.cons';obtain rfl:=Bv.nil';have hc0:=Lx K.fns _ hwf.Qw outer cur wh inn f;rw[Lu (by omega),sens_xy',hc0,L5];have HC:=A0 (ih.1 D w outer cur bk wh inn f rc a1 Cx hst B1 B0);have E8:=A0 (fun W g (hs:K.St D W (outer++cur) bk wh inn g rc) (hbd:A4 D w W)=>ih.2.1 D W outer cur bk wh inn g rc a2 Ho hs (D9.Be hbd) (Bt.Be hbd));have d0:=Ac hb 1 a1 rfl;have ld:=A5 hb;have HBk:=A0 hb;have D4:=fun(v:Value) (w:World)=>Az (P:=Tryz.prog) (t:=307) (T:=238) (xT:=150) (z:=.pointer none) Tryz.underlying238 (by kernel_rfl) (by decide) v w;have Dt:=fun(v:Value) (w:World)=>Az (P:=Tryz.prog) (t:=307) (T:=301) (xT:=150) (z:=.pointer none) Tryz.underlying301 (by kernel_rfl) (by decide) v w;have Er:=fun(v:Value) (w:World)=>Az (P:=Tryz.prog) (t:=307) (T:=241) (xT:=150) (z:=.pointer none) Tryz.underlying241 (by kernel_rfl) (by decide) v w;have Fm:=fun(v:Value) (w:World)=>Az (P:=Tryz.prog) (t:=307) (T:=296) (xT:=150) (z:=.pointer none) Tryz.underlying296 (by kernel_rfl) (by decide) v w;have Gs:=fun(v:Value) (w:World)=>Az (P:=Tryz.prog) (t:=307) (T:=304) (xT:=150) (z:=.pointer none) Tryz.underlying304 (by kernel_rfl) (by decide) v w;have Iy:=fun(v:Value) (w:World)=>Dz (P:=Tryz.prog) (xT:=150) Tryz.underlying307 v w;clear hst hb e1 e2 hk hr B1 B0 hz ih hwf hc0 D9 Bt Bv;unfold Bx;go_enter Tryz.func236,Tryz.ntmps236;go_wp2_with fail
 refine HC.o.mono ?_;rintro e w1 ⟨rfl,Ad,A3⟩;have Aq:=A0 Ad;have Ab:=A0 A3;have B7:=(A3.block b hD).trans HBk.o;have d1:=Ac B7 2 a2 rfl;have ld1:=A5 B7;clear Ad A3 d0 ld B7;go_wp2_with fail
 refine(E8.o _ _ Aq.o Ab.o).mono ?_;rintro e w2 ⟨rfl,Av,A9⟩;have Bi:=A0 Av;have Ai:Hid (A4 D w w2):=Ab.o.trans A9;clear Av A9;go_wp2;go_end0;exact⟨rfl,Bi.o,Ai.o⟩
theorem X5(K:CC)(l:A2)(c:BT A2)(hk:l.kd=12)(ih:Co (Gf K) c)(hwf:Wf 0 c):Gf K l c:=by
 intro D w outer cur bk wh inn f rc v ks hst hn hr;obtain⟨hlo,lcb,hncb⟩:=hst.lo;unfold Ba at hn;rw[if_neg (by omega)]at hn;obtain⟨b,cs,rfl,hD,hb,hl⟩:=hn;have e1:C3 l.kd=310:=by rw[hk];rfl
 have e2:Db l.kd=312:=by rw[hk];rfl
 rw[e1];rw[e2]at hb;rw[K1 K.fns l c (by omega) (by omega) (by omega)];unfold Ck at hl;simp only[hk]at hl;obtain⟨a1,a2,rfl,rfl⟩:=hl;obtain⟨x1,y1,l1,c1,r1,Cx,rfl,B1,B0,hz⟩:=hr.cons';obtain⟨x2,y2,l2,c2,r2,Ho,rfl,D9,Bt,Bv⟩:=hz.cons';obtain rfl:=Bv.nil';have hc0:=Lx K.fns _ hwf.Qw outer cur wh inn f;rw[Lu (by omega),sens_xy',hc0,L5];have HC:=A0 (ih.1 D w outer cur bk wh inn f rc a1 Cx hst B1 B0);have E8:=A0 (fun W g (hs:K.St D W (outer++cur) bk wh inn g rc) (hbd:A4 D w W)=>ih.2.1 D W outer cur bk wh inn g rc a2 Ho hs (D9.Be hbd) (Bt.Be hbd));have d0:=Ac hb 1 a1 rfl;have ld:=A5 hb;have HBk:=A0 hb;have D4:=fun(v:Value) (w:World)=>Az (P:=Tryz.prog) (t:=310) (T:=238) (xT:=150) (z:=.pointer none) Tryz.underlying238 (by kernel_rfl) (by decide) v w;have Dt:=fun(v:Value) (w:World)=>Az (P:=Tryz.prog) (t:=310) (T:=301) (xT:=150) (z:=.pointer none) Tryz.underlying301 (by kernel_rfl) (by decide) v w;have Er:=fun(v:Value) (w:World)=>Az (P:=Tryz.prog) (t:=310) (T:=241) (xT:=150) (z:=.pointer none) Tryz.underlying241 (by kernel_rfl) (by decide) v w;have Fm:=fun(v:Value) (w:World)=>Az (P:=Tryz.prog) (t:=310) (T:=296) (xT:=150) (z:=.pointer none) Tryz.underlying296 (by kernel_rfl) (by decide) v w;have Gs:=fun(v:Value) (w:World)=>Az (P:=Tryz.prog) (t:=310) (T:=304) (xT:=150) (z:=.pointer none) Tryz.underlying304 (by kernel_rfl) (by decide) v w;have Iy:=fun(v:Value) (w:World)=>Az (P:=Tryz.prog) (t:=310) (T:=307) (xT:=150) (z:=.pointer none) Tryz.underlying307 (by kernel_rfl) (by decide) v w;have Kh:=fun(v:Value) (w:World)=>Dz (P:=Tryz.prog) (xT:=150) Tryz.underlying310 v w;clear hst hb e1 e2 hk hr B1 B0 hz ih hwf hc0 D9 Bt Bv;unfold Bx;go_enter Tryz.func236,Tryz.ntmps236;go_wp2_with fail
 refine HC.o.mono ?_;rintro e w1 ⟨rfl,Ad,A3⟩;have Aq:=A0 Ad;have Ab:=A0 A3;have B7:=(A3.block b hD).trans HBk.o;have d1:=Ac B7 2 a2 rfl;have ld1:=A5 B7;clear Ad A3 d0 ld B7;go_wp2_with fail
 refine(E8.o _ _ Aq.o Ab.o).mono ?_;rintro e w2 ⟨rfl,Av,A9⟩;have Bi:=A0 Av;have Ai:Hid (A4 D w w2):=Ab.o.trans A9;clear Av A9;go_wp2;go_end0;exact⟨rfl,Bi.o,Ai.o⟩
end
end Go.Proofs.YtjdlndhfaaolaaaGreatDoor
