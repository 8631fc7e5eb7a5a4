import Derived.Test.YtjdlndhfaaolaaaGreatDoorT19
set_option maxHeartbeats 20000000
namespace Go.Proofs.YtjdlndhfaaolaaaGreatDoor
section
open Go.RowKit
structure Ft (b : Nat) (row : Option Nat) (w w' : World) : Prop where
 os:w'.os=w.os
 tape:w'.tape=w.tape
 output:w'.output=w.output
 size:w.heap.size<=w'.heap.size
 block:∀k,k<w.heap.size->k≠b->row≠some k->w'.heap[k]?=w.heap[k]?
theorem Ft.refl(b:Nat)(row:Option Nat)(w:World):Ft b row w w:=⟨rfl,rfl,rfl,Nat.le_refl _,fun _ _ _ _=>rfl⟩
structure G4 (T : TypeId) (b o : Nat) (w : World) (cs : Array Value) (t : TypeId) (va : Option Addr) (vn vc : Nat) (xs : List Value) : Prop where
 blk:w.heap[b]?=some (.cells cs t (0,0))
 cell:cs[o]?=some (.slice va vn vc)
 own:w.ownsRow 0 T 1 (.slice va vn vc) xs.length xs
 ne:(Value.slice va vn vc).ownBlock≠some b
def Ng(T:TypeId)(b o:Nat)(w:World)(cs:Array Value)(t:TypeId)(va:Option Addr)(vn vc:Nat)(xs:List Value)(u:Value)(w':World):Prop:=
 ∃g cap,G4 T b o w' (cs.setIfInBounds o (.slice (some ⟨g,0,none⟩) (xs.length+1) cap)) t (some ⟨g,0,none⟩) (xs.length+1) cap (xs++[u])/\((Value.slice va vn vc).ownBlock=some g\/w.heap.size<=g)/\Ft b (Value.slice va vn vc).ownBlock w w'
def Lr(T:TypeId)(b o:Nat)(w:World)(cs:Array Value)(t:TypeId)(va:Option Addr)(vn vc:Nat)(xs:List Value)(m:Nat)(w':World):Prop:=
 G4 T b o w' (cs.setIfInBounds o (.slice va m vc)) t va m vc (xs.take m)/\Ft b (Value.slice va vn vc).ownBlock w w'
theorem Ny{cs:Array Value}{o:Nat}{v:Value}(h:cs[o]?=some v):cs.setIfInBounds o v=cs:=by
 apply Array.ext_getElem?;intro i;rw[Array.getElem?_setIfInBounds];split
 ·rename_i e;subst e;rw[h];split
  ·rfl
  ·rename_i hn;rw[Array.getElem?_eq_none z51a]at h;cases h
 ·rfl
theorem P9(g:Nat)(t:TypeId)(fr:Nat×Nat):∀(vs:List Value) (o:Nat) (cur:Array Value) (w:World),w.heap[g]?=some (.cells cur t fr)->
  ∃cur',(w.setCells g o vs).heap[g]?=some (.cells cur' t fr)/\cur'.size=cur.size/\∀m,m<=o->cur'.toList.take m=cur.toList.take m:=by
 intro vs;induction vs with
 | nil=>intro o cur w h;exact⟨cur,h,rfl,fun _ _=>rfl⟩
 | cons v r ih=>
  intro o cur w h;obtain⟨cur',h1,h2,h3⟩:=ih (o+1) _ _ (heap_set (j:=o) h v);refine⟨cur',h1,by rw[h2];simp,fun m hm=>?_⟩;rw[h3 m z51a];simp only[Array.toList_setIfInBounds];rw[List.take_set_of_le z51a]
theorem z5fa {P:Prop} (h:P:=by simp[World.setCell]):P:=h
theorem Kk(g:Nat):∀(vs:List Value) (o:Nat) (w:World),(w.setCells g o vs).os=w.os/\(w.setCells g o vs).tape=w.tape/\(w.setCells g o vs).output=w.output/\(w.setCells g o vs).heap.size=w.heap.size/\∀k,k≠g->(w.setCells g o vs).heap[k]?=w.heap[k]?:=by
 intro vs;induction vs with
 | nil=>intro o w;exact⟨rfl,rfl,rfl,rfl,fun _ _=>rfl⟩
 | cons v r ih=>
  intro o w;obtain⟨h1,h2,h3,h4,h5⟩:=ih (o+1) (w.setCell ⟨g,o,none⟩ v);exact⟨h1,h2,h3,h4.trans z5fa,fun k hk=>(h5 k hk).trans (Below.heap_setCell _ _ _ _ z5za)⟩
theorem Dq{w:World}{b o:Nat}{cs:Array Value}{t:TypeId}{v:Value}(h:w.heap[b]?=some (.cells cs t (0,0)))(hc:cs[o]?=some v):w.cell? ⟨b,o,none⟩=some v:=A2 h o v hc
end
section
set_option maxRecDepth 100000
open Go.RowKit
variable {b o:Nat}{w:World}{cs:Array Value}{t:TypeId}{va:Option Addr}{vn vc:Nat}{xs:List Value}
theorem Ae2:(Tryz.prog.info? 255).map (fun i=>(i.zero,i.size,i.bytes))=some (some (.pointer none),1,8):=by kernel_rfl
theorem Qv(h:G4 9 b o w cs t va vn vc xs):Calls Tryz.prog 136 #[.pointer (some ⟨b,o,none⟩)] w fun e w'=>e=.returned (.int .i64 (xs.length:Nat))/\w'=w:=by
 have c:=Dq h.blk h.cell;have lb:=A5 h.blk;have hv:vn=xs.length:=(Cg h.own).1;subst hv;clear h;go_enter Tryz.func136,Tryz.ntmps136;exact z0xa
theorem A3j(h:G4 9 b o w cs t va vn vc xs)(i:Nat)(hi:i<xs.length):Calls Tryz.prog 138 #[.pointer (some ⟨b,o,none⟩),.int .i64 (i:Nat)] w fun e w'=>e=.returned xs[i]/\w'=w:=by
 have c:=Dq h.blk h.cell;have lb:=A5 h.blk;have hv:vn=xs.length:=(Cg h.own).1;subst hv;obtain⟨g,rfl,_,hcap,lg,fz,hx,cg⟩:=Oo h.own i hi;clear h;generalize xs[i]=x at *;go_enter Tryz.func138,Tryz.ntmps138;exact z0xa
theorem z1za {P:Prop} (h:P:=by
  rw[Array.getElem?_setIfInBounds,if_pos rfl,if_pos ho]):P:=h
theorem z3fa {P:Prop} (h:P:=by
  exact B8 HOwn1.o (fun k hk _=>Below.heap_setCell _ _ _ _ (by simp only[Value.ownBlock,Option.some.injEq]at hk;show k≠b;omega))):P:=h
theorem z08a {P:Prop} (h:P:=by
  go_end0;have hgb:g≠b:=by
   rcases HAt.o with e|e
   ·intro e2;rw[e2]at e;exact HNe.o e
   ·omega
  refine⟨rfl,g,cap,⟨heap_set A4.o _,?_,?_,by simp only[Value.ownBlock,ne_eq,Option.some.injEq];exact hgb⟩,HAt.o.imp id (fun e=>by omega),⟨HGrow.o.os,HGrow.o.tape,HGrow.o.output,by simp[World.setCell];exact HGrow.o.size,fun k hk hkb hkr=>?_⟩⟩
  ·exact z1za
  ·rw[List.length_append];exact z3fa
  ·exact(Below.heap_setCell _ _ _ _ (by exact hkb)).trans (HGrow.o.block k hk (fun e=>hkr e.symm))):P:=h
theorem Uw(h:G4 9 b o w cs t va vn vc xs)(hn:xs.length<=900000)(u:ByteArray)(ho:o<cs.size):Calls Tryz.prog 137 #[.pointer (some ⟨b,o,none⟩),.string u] w fun e w'=>e=.returned (.tuple #[])/\Ng 9 b o w cs t va vn vc xs (.string u) w':=by
 have c:=Dq h.blk h.cell;have lb:=A5 h.blk;have fz:=Bh h.blk;have hv:vn=xs.length:=(Cg h.own).1;subst hv;have hown:=h.own;have HH:=A0 h;have HNe:=A0 h.ne;clear h;go_enter Tryz.func137,Tryz.ntmps137;go_wp2_with (at_builtin;refine Kb w #[.string u] 9 rfl (.tmp 8) (.tmp 10) 37 rfl 0 1 16 (.string ⟨#[]⟩) Tryz.underlying37 Wz rfl z51a (.slice va xs.length vc) xs.length xs rfl rfl hown rfl (fun v hv=>by simp at hv;rw[hv];rfl) z51a z51a (Nat.zero_le _) ?_;intro g cap w1 F0 hgrow hat hg;have A1:=(hgrow.block b lb (fun e=>HNe.o e.symm)).trans HH.o.blk;have c1:=Dq A1 HH.o.cell;have f1:=Bh A1;have Bp:=A5 A1;have A4:=A0 A1;have HOwn1:=A0 F0;have HGrow:=A0 hgrow;have HAt:=A0 hat;clear A1 F0 hgrow hat)
 exact z08a
theorem A3x(h:G4 3 b o w cs t va vn vc xs):Calls Tryz.prog 243 #[.pointer (some ⟨b,o,none⟩)] w fun e w'=>e=.returned (.int .i64 (xs.length:Nat))/\w'=w:=by
 have c:=Dq h.blk h.cell;have lb:=A5 h.blk;have hv:vn=xs.length:=(Cg h.own).1;subst hv;clear h;go_enter Tryz.func243,Tryz.ntmps243;exact z0xa
theorem Ajr(h:G4 3 b o w cs t va vn vc xs)(i:Nat)(hi:i<xs.length):Calls Tryz.prog 271 #[.pointer (some ⟨b,o,none⟩),.int .i64 (i:Nat)] w fun e w'=>e=.returned xs[i]/\w'=w:=by
 have c:=Dq h.blk h.cell;have lb:=A5 h.blk;have hv:vn=xs.length:=(Cg h.own).1;subst hv;obtain⟨g,rfl,_,hcap,lg,fz,hx,cg⟩:=Oo h.own i hi;clear h;generalize xs[i]=x at *;go_enter Tryz.func271,Tryz.ntmps271;exact z0xa
theorem z38a {P:Prop} (h:P:=by
  go_wp2_with fail
  refine HL.o.mono ?_;rintro e w' ⟨rfl,rfl⟩;go_wp2_with fail
  refine HA.o.mono ?_;rintro e w' ⟨rfl,rfl⟩;exact z0xa):P:=h
theorem A44(h:G4 3 b o w cs t va vn vc xs)(hn:xs.length<=1000000)(n:Nat)(hi:n<xs.length)(h0:xs.length=n+1):Calls Tryz.prog 241 #[.pointer (some ⟨b,o,none⟩)] w fun e w'=>e=.returned (xs[n]'hi)/\w'=w:=by
 have HL:=A0 (A3x h);have HA:=A0 (Ajr h n hi);rw[h0]at HL;have Dm:n<=1000000:=by omega
 generalize hx:xs[n]'hi=x at HA ⊢;clear h h0 hx;go_enter Tryz.func241,Tryz.ntmps241;exact z38a
theorem Ama(h:G4 3 b o w cs t va vn vc xs)(hn:xs.length<=900000)(u:Int)(ho:o<cs.size):Calls Tryz.prog 191 #[.pointer (some ⟨b,o,none⟩),.int .i64 u] w fun e w'=>e=.returned (.tuple #[])/\Ng 3 b o w cs t va vn vc xs (.int .i64 u) w':=by
 have c:=Dq h.blk h.cell;have lb:=A5 h.blk;have fz:=Bh h.blk;have hv:vn=xs.length:=(Cg h.own).1;subst hv;have hown:=h.own;have HH:=A0 h;have HNe:=A0 h.ne;clear h;go_enter Tryz.func191,Tryz.ntmps191;go_wp2_with (at_builtin;refine Kb w #[.int .i64 u] 3 rfl (.tmp 8) (.tmp 10) 34 rfl 0 1 8 (.int .i64 0) Tryz.underlying34 Ww rfl z51a (.slice va xs.length vc) xs.length xs rfl rfl hown rfl (fun v hv=>by simp at hv;rw[hv];rfl) z51a z51a (Nat.zero_le _) ?_;intro g cap w1 F0 hgrow hat hg;have A1:=(hgrow.block b lb (fun e=>HNe.o e.symm)).trans HH.o.blk;have c1:=Dq A1 HH.o.cell;have f1:=Bh A1;have Bp:=A5 A1;have A4:=A0 A1;have HOwn1:=A0 F0;have HGrow:=A0 hgrow;have HAt:=A0 hat;clear A1 F0 hgrow hat)
 exact z08a
theorem Y7(h:G4 255 b o w cs t va vn vc xs):Calls Tryz.prog 270 #[.pointer (some ⟨b,o,none⟩)] w fun e w'=>e=.returned (.int .i64 (xs.length:Nat))/\w'=w:=by
 have c:=Dq h.blk h.cell;have lb:=A5 h.blk;have hv:vn=xs.length:=(Cg h.own).1;subst hv;clear h;go_enter Tryz.func270,Tryz.ntmps270;exact z0xa
theorem Ajt(h:G4 255 b o w cs t va vn vc xs)(i:Nat)(hi:i<xs.length):Calls Tryz.prog 286 #[.pointer (some ⟨b,o,none⟩),.int .i64 (i:Nat)] w fun e w'=>e=.returned xs[i]/\w'=w:=by
 have c:=Dq h.blk h.cell;have lb:=A5 h.blk;have hv:vn=xs.length:=(Cg h.own).1;subst hv;obtain⟨g,rfl,_,hcap,lg,fz,hx,cg⟩:=Oo h.own i hi;clear h;generalize xs[i]=x at *;go_enter Tryz.func286,Tryz.ntmps286;exact z0xa
theorem Amk(h:G4 255 b o w cs t va vn vc xs)(hn:xs.length<=1000000)(n:Nat)(hi:n<xs.length)(h0:xs.length=n+1):Calls Tryz.prog 268 #[.pointer (some ⟨b,o,none⟩)] w fun e w'=>e=.returned (xs[n]'hi)/\w'=w:=by
 have HL:=A0 (Y7 h);have HA:=A0 (Ajt h n hi);rw[h0]at HL;have Dm:n<=1000000:=by omega
 generalize hx:xs[n]'hi=x at HA ⊢;clear h h0 hx;go_enter Tryz.func268,Tryz.ntmps268;exact z38a
theorem Amc(h:G4 255 b o w cs t va vn vc xs)(hn:xs.length<=900000)(u:Option Addr)(ho:o<cs.size):Calls Tryz.prog 237 #[.pointer (some ⟨b,o,none⟩),.pointer u] w fun e w'=>e=.returned (.tuple #[])/\Ng 255 b o w cs t va vn vc xs (.pointer u) w':=by
 have c:=Dq h.blk h.cell;have lb:=A5 h.blk;have fz:=Bh h.blk;have hv:vn=xs.length:=(Cg h.own).1;subst hv;have hown:=h.own;have HH:=A0 h;have HNe:=A0 h.ne;clear h;go_enter Tryz.func237,Tryz.ntmps237;go_wp2_with (at_builtin;refine Kb w #[.pointer u] 255 rfl (.tmp 8) (.tmp 10) 209 rfl 0 1 8 (.pointer none) Tryz.underlying209 Ae2 rfl z51a (.slice va xs.length vc) xs.length xs rfl rfl hown rfl (fun v hv=>by simp at hv;rw[hv];rfl) z51a z51a (Nat.zero_le _) ?_;intro g cap w1 F0 hgrow hat hg;have A1:=(hgrow.block b lb (fun e=>HNe.o e.symm)).trans HH.o.blk;have c1:=Dq A1 HH.o.cell;have f1:=Bh A1;have Bp:=A5 A1;have A4:=A0 A1;have HOwn1:=A0 F0;have HGrow:=A0 hgrow;have HAt:=A0 hat;clear A1 F0 hgrow hat)
 exact z08a
theorem z2pa {P:Prop} (h:P:=by
  simp only[Value.ownBlock,ne_eq,Option.some.injEq];exact hgb):P:=h
theorem z40a {P:Prop} (h:P:=by
  rw[List.length_take,Nat.min_eq_left hm]):P:=h
theorem z3oa {P:Prop} (h:P:=by
  rw[List.length_take,Nat.min_eq_left hm];omega):P:=h
theorem z05a {P:Prop} (h:P:=by
  go_wp2;go_end0;obtain⟨p1,p2,p3,p4,p5⟩:=HF.o;have hset:∀k,k≠b->(w1.setCell ⟨b,o,none⟩ (.slice (some ⟨g,0,none⟩) m vc)).heap[k]?=w1.heap[k]?:=fun k hk=>Below.heap_setCell _ _ _ _ z5za;refine⟨rfl,⟨heap_set A4.o _,?_,⟨by simp,.inr ⟨g,vc,cur',?_,Nat.zero_le _,(hset g hgb).trans Hz.o,?_,hmx,HSz.o,?_⟩⟩,?_⟩,⟨p1,p2,p3,by simp[World.setCell];omega,fun k hk hkb hkr=>?_⟩⟩
  ·exact z1za
  ·exact z40a
  ·exact z3oa
  ·rw[List.length_take,Nat.min_eq_left hm,Nat.mul_one,HK3.o,<-HT.o,List.take_take,Nat.mul_one,Nat.min_eq_left hm]
  ·exact z2pa
  ·exact(hset k hkb).trans (p5 k (fun e=>hkr (by rw[e];rfl)))):P:=h
theorem z25a {P:Prop} (h:P:=by
  rw[Ny HH.o.cell,List.take_length];exact HH.o):P:=h
theorem z1va {P:Prop} (h:P:=by
  intro j hj;rw[cell_of_row w g (m+j) cur _ _ hg,Array.getElem?_eq_getElem z51a];rfl):P:=h
theorem z5xa {P:Prop} (h:P:=by rw[<-e];rfl):P:=h
theorem Y2(h:G4 9 b o w cs t va vn vc xs)(m:Nat)(hm:m<=xs.length)(ho:o<cs.size):Calls Tryz.prog 83 #[.pointer (some ⟨b,o,none⟩),.int .i64 (m:Nat)] w fun e w'=>e=.returned (.tuple #[])/\Lr 9 b o w cs t va vn vc xs m w':=by
 have c:=Dq h.blk h.cell;have lb:=A5 h.blk;have fz:=Bh h.blk;have hv:vn=xs.length:=(Cg h.own).1;subst hv;have HH:=A0 h;have HNe:=A0 h.ne;by_cases he:m=xs.length
 ·subst he;clear h;go_enter Tryz.func83,Tryz.ntmps83;go_wp2;refine bodyPost_ret (v:=.tuple #[]) (by simp[results,Tryz.results83,go_sem]) rfl ⟨rfl,?_,Ft.refl _ _ _⟩;exact z25a
 ·obtain⟨g,rfl,Gc,hcap,lg,fg,hx,cg⟩:=Oo h.own m z51a;obtain⟨hl,⟨h2,h3⟩|⟨g',cap,cur,hv,_,hg,hcap',hmx,hsz,ht⟩⟩:=h.own
  ·cases h2
  ·injection hv with e1 e2 e3;injection e1 with e1;injection e1 with e1;subst e1 e3;have hgb:g≠b:=fun e=>h.ne z5xa;have hcs:∀j,j<xs.length-m->(w.cell? ⟨g,m+j,none⟩).isSome=true:=by
    exact z1va
   have hcl:∀ty,(Builtin.clear_ #[37] ty #[.slice (some ⟨g,m,none⟩) (xs.length-m) (vc-m)]).run Tryz.prog w=.ok (.tuple #[]) (w.setCells g m (List.replicate (xs.length-m) (.string ⟨#[]⟩))):=
    fun ty=>Lib.run_clear_slice w 37 9 ty (.string ⟨#[]⟩) Tryz.underlying37 Tryz.zeroValue9 rfl rfl g m (xs.length-m) (vc-m) z51a hcs (fun j hj=>fg _)
   obtain⟨cur',k1,k2,k3⟩:=P9 g 9 (0,0) (List.replicate (xs.length-m) (.string ⟨#[]⟩)) m cur w hg;obtain⟨f1,f2,f3,f4,f5⟩:=Kk g (List.replicate (xs.length-m) (.string ⟨#[]⟩)) m w;have A1:=(f5 b (fun e=>hgb e.symm)).trans h.blk;have Hz:=A0 k1;have HK3:=A0 (k3 m (Nat.le_refl _));have HF:=A0 (And.intro f1 (And.intro f2 (And.intro f3 (And.intro f4 f5))));have HT:=A0 ht;have HSz:=A0 (k2.trans hsz);clear h hcs hg ht k1 k2 k3 f1 f2 f3 f5 hl hsz;have c1:=Dq A1 HH.o.cell;have g1:=Bh A1;have Bp:=A5 A1;have A4:=A0 A1;clear A1 f4;generalize w.setCells g m (List.replicate (xs.length-m) (.string ⟨#[]⟩))=w1 at *;go_enter Tryz.func83,Tryz.ntmps83;exact z05a
theorem Ajy(h:G4 3 b o w cs t va vn vc xs)(m:Nat)(hm:m<=xs.length)(ho:o<cs.size):Calls Tryz.prog 242 #[.pointer (some ⟨b,o,none⟩),.int .i64 (m:Nat)] w fun e w'=>e=.returned (.tuple #[])/\Lr 3 b o w cs t va vn vc xs m w':=by
 have c:=Dq h.blk h.cell;have lb:=A5 h.blk;have fz:=Bh h.blk;have hv:vn=xs.length:=(Cg h.own).1;subst hv;have HH:=A0 h;have HNe:=A0 h.ne;by_cases he:m=xs.length
 ·subst he;clear h;go_enter Tryz.func242,Tryz.ntmps242;go_wp2;refine bodyPost_ret (v:=.tuple #[]) (by simp[results,Tryz.results242,go_sem]) rfl ⟨rfl,?_,Ft.refl _ _ _⟩;exact z25a
 ·obtain⟨g,rfl,Gc,hcap,lg,fg,hx,cg⟩:=Oo h.own m z51a;obtain⟨hl,⟨h2,h3⟩|⟨g',cap,cur,hv,_,hg,hcap',hmx,hsz,ht⟩⟩:=h.own
  ·cases h2
  ·injection hv with e1 e2 e3;injection e1 with e1;injection e1 with e1;subst e1 e3;have hgb:g≠b:=fun e=>h.ne z5xa;have hcs:∀j,j<xs.length-m->(w.cell? ⟨g,m+j,none⟩).isSome=true:=by
    exact z1va
   have hcl:∀ty,(Builtin.clear_ #[34] ty #[.slice (some ⟨g,m,none⟩) (xs.length-m) (vc-m)]).run Tryz.prog w=.ok (.tuple #[]) (w.setCells g m (List.replicate (xs.length-m) (.int .i64 0))):=
    fun ty=>Lib.run_clear_slice w 34 3 ty (.int .i64 0) Tryz.underlying34 Tryz.zeroValue3 rfl rfl g m (xs.length-m) (vc-m) z51a hcs (fun j hj=>fg _)
   obtain⟨cur',k1,k2,k3⟩:=P9 g 3 (0,0) (List.replicate (xs.length-m) (.int .i64 0)) m cur w hg;obtain⟨f1,f2,f3,f4,f5⟩:=Kk g (List.replicate (xs.length-m) (.int .i64 0)) m w;have A1:=(f5 b (fun e=>hgb e.symm)).trans h.blk;have Hz:=A0 k1;have HK3:=A0 (k3 m (Nat.le_refl _));have HF:=A0 (And.intro f1 (And.intro f2 (And.intro f3 (And.intro f4 f5))));have HT:=A0 ht;have HSz:=A0 (k2.trans hsz);clear h hcs hg ht k1 k2 k3 f1 f2 f3 f5 hl hsz;have c1:=Dq A1 HH.o.cell;have g1:=Bh A1;have Bp:=A5 A1;have A4:=A0 A1;clear A1 f4;generalize w.setCells g m (List.replicate (xs.length-m) (.int .i64 0))=w1 at *;go_enter Tryz.func242,Tryz.ntmps242;exact z05a
theorem z1ca {P:Prop} (h:P:=by
  go_wp2_with fail
  refine HT.o.mono ?_;rintro e w' ⟨rfl,rfl⟩;go_wp2_with fail
  refine HL.o.mono ?_;rintro e w' ⟨rfl,rfl⟩;go_wp2_with fail
  refine HC.o.mono ?_;rintro e w1 ⟨rfl,hc⟩;have Ia:=A0 hc;clear hc;go_wp2;go_ret;exact⟨rfl,Ia.o⟩):P:=h
theorem Am6(h:G4 3 b o w cs t va vn vc xs)(hn:xs.length<=1000000)(n:Nat)(hi:n<xs.length)(h0:xs.length=n+1)(ho:o<cs.size):Calls Tryz.prog 193 #[.pointer (some ⟨b,o,none⟩)] w fun e w'=>e=.returned (xs[n]'hi)/\Lr 3 b o w cs t va vn vc xs n w':=by
 have HT:=A0 (A44 h hn n hi h0);have HL:=A0 (A3x h);have HC:=A0 (Ajy h n z51a ho);rw[h0]at HL;have Dm:n<=1000000:=by omega
 generalize hx:xs[n]'hi=x at HT ⊢;clear h h0 hx;go_enter Tryz.func193,Tryz.ntmps193;exact z1ca
theorem Ak0(h:G4 255 b o w cs t va vn vc xs)(m:Nat)(hm:m<=xs.length)(ho:o<cs.size):Calls Tryz.prog 269 #[.pointer (some ⟨b,o,none⟩),.int .i64 (m:Nat)] w fun e w'=>e=.returned (.tuple #[])/\Lr 255 b o w cs t va vn vc xs m w':=by
 have c:=Dq h.blk h.cell;have lb:=A5 h.blk;have fz:=Bh h.blk;have hv:vn=xs.length:=(Cg h.own).1;subst hv;have HH:=A0 h;have HNe:=A0 h.ne;by_cases he:m=xs.length
 ·subst he;clear h;go_enter Tryz.func269,Tryz.ntmps269;go_wp2;refine bodyPost_ret (v:=.tuple #[]) (by simp[results,Tryz.results269,go_sem]) rfl ⟨rfl,?_,Ft.refl _ _ _⟩;exact z25a
 ·obtain⟨g,rfl,Gc,hcap,lg,fg,hx,cg⟩:=Oo h.own m z51a;obtain⟨hl,⟨h2,h3⟩|⟨g',cap,cur,hv,_,hg,hcap',hmx,hsz,ht⟩⟩:=h.own
  ·cases h2
  ·injection hv with e1 e2 e3;injection e1 with e1;injection e1 with e1;subst e1 e3;have hgb:g≠b:=fun e=>h.ne z5xa;have hcs:∀j,j<xs.length-m->(w.cell? ⟨g,m+j,none⟩).isSome=true:=by
    exact z1va
   have hcl:∀ty,(Builtin.clear_ #[209] ty #[.slice (some ⟨g,m,none⟩) (xs.length-m) (vc-m)]).run Tryz.prog w=.ok (.tuple #[]) (w.setCells g m (List.replicate (xs.length-m) (.pointer none))):=
    fun ty=>Lib.run_clear_slice w 209 255 ty (.pointer none) Tryz.underlying209 Tryz.zeroValue255 rfl rfl g m (xs.length-m) (vc-m) z51a hcs (fun j hj=>fg _)
   obtain⟨cur',k1,k2,k3⟩:=P9 g 255 (0,0) (List.replicate (xs.length-m) (.pointer none)) m cur w hg;obtain⟨f1,f2,f3,f4,f5⟩:=Kk g (List.replicate (xs.length-m) (.pointer none)) m w;have A1:=(f5 b (fun e=>hgb e.symm)).trans h.blk;have Hz:=A0 k1;have HK3:=A0 (k3 m (Nat.le_refl _));have HF:=A0 (And.intro f1 (And.intro f2 (And.intro f3 (And.intro f4 f5))));have HT:=A0 ht;have HSz:=A0 (k2.trans hsz);clear h hcs hg ht k1 k2 k3 f1 f2 f3 f5 hl hsz;have c1:=Dq A1 HH.o.cell;have g1:=Bh A1;have Bp:=A5 A1;have A4:=A0 A1;clear A1 f4;generalize w.setCells g m (List.replicate (xs.length-m) (.pointer none))=w1 at *;go_enter Tryz.func269,Tryz.ntmps269;exact z05a
theorem Am8(h:G4 255 b o w cs t va vn vc xs)(hn:xs.length<=1000000)(n:Nat)(hi:n<xs.length)(h0:xs.length=n+1)(ho:o<cs.size):Calls Tryz.prog 238 #[.pointer (some ⟨b,o,none⟩)] w fun e w'=>e=.returned (xs[n]'hi)/\Lr 255 b o w cs t va vn vc xs n w':=by
 have HT:=A0 (Amk h hn n hi h0);have HL:=A0 (Y7 h);have HC:=A0 (Ak0 h n z51a ho);rw[h0]at HL;have Dm:n<=1000000:=by omega
 generalize hx:xs[n]'hi=x at HT ⊢;clear h h0 hx;go_enter Tryz.func238,Tryz.ntmps238;exact z1ca
end
section
open Go.RowKit
open Go.Deep (BT)
def Dg(ns:List Nm):List Value:=ns.map Nv
def Db(bk:List Nat):List Value:=bk.map P3
structure Hj (D : Nat -> Prop) (cb te : Nat) (w : World) (ns : List Nm) (bk : List Nat) (wh : Nat) (inn : Bool) (f : Cw) (rc : Nat) (fa : Option Addr) (fn fc : Nat) (na : Option Addr) (nn nc : Nat) (ba : Option Addr) (bn bc : Nat) (la : Option Addr) (ln lc : Nat) (ls : List Value) : Prop where
 cell:w.heap[cb]?=some (.cells #[.slice fa fn fc,.int .i64 (rc:Nat),.slice na nn nc,.slice ba bn bc,.slice la ln lc,.bool inn,.int .i64 (f.1:Nat),.int .i64 (f.2:Nat)] te (0,0))
 names:w.ownsRow 0 9 1 (.slice na nn nc) (Dg ns).length (Dg ns)
 blocks:w.ownsRow 0 3 1 (.slice ba bn bc) (Db bk).length (Db bk)
 loops:w.ownsRow 0 255 1 (.slice la ln lc) ls.length ls
 lsl:ls.length=wh
 Gv:¬D cb
 D7:∀g,(Value.slice na nn nc).ownBlock=some g->¬D g/\g≠cb/\(Value.slice ba bn bc).ownBlock≠some g/\(Value.slice la ln lc).ownBlock≠some g
 G7:∀g,(Value.slice ba bn bc).ownBlock=some g->¬D g/\g≠cb/\(Value.slice la ln lc).ownBlock≠some g
 J0:∀g,(Value.slice la ln lc).ownBlock=some g->¬D g/\g≠cb
 Bw:ns.length<=800000/\bk.length<=800000/\wh<=800000/\rc<=800000
 lo:∀g,D g->g<w.heap.size
def Fa(D:Nat->Prop)(cb te:Nat)(w:World)(ns:List Nm)(bk:List Nat)(wh:Nat)(inn:Bool)(f:Cw)(rc:Nat)(fa:Option Addr)(fn fc:Nat):Prop:=
 ∃na nn nc ba bn bc la ln lc ls,Hj D cb te w ns bk wh inn f rc fa fn fc na nn nc ba bn bc la ln lc ls
variable {D:Nat->Prop} {cb te:Nat} {w w':World} {ns:List Nm} {bk:List Nat} {wh:Nat} {inn:Bool} {f:Cw} {rc:Nat} {fa:Option Addr} {fn fc:Nat} {na:Option Addr} {nn nc:Nat} {ba:Option Addr} {bn bc:Nat} {la:Option Addr} {ln lc:Nat} {ls:List Value}
theorem Hj.keep(h:Hj D cb te w ns bk wh inn f rc fa fn fc na nn nc ba bn bc la ln lc ls)(hk:∀g,g<w.heap.size->w'.heap[g]?=w.heap[g]?)(hs:w.heap.size<=w'.heap.size):Hj D cb te w' ns bk wh inn f rc fa fn fc na nn nc ba bn bc la ln lc ls:=
 ⟨(hk cb (A5 h.cell)).trans h.cell,B8 h.names (fun g _ hl=>hk g hl),B8 h.blocks (fun g _ hl=>hk g hl),B8 h.loops (fun g _ hl=>hk g hl),h.lsl,h.Gv,h.D7,h.G7,h.J0,h.Bw,fun g hg=>Nat.lt_of_lt_of_le (h.lo g hg) hs⟩
theorem Fa.keep(h:Fa D cb te w ns bk wh inn f rc fa fn fc)(hk:∀g,g<w.heap.size->w'.heap[g]?=w.heap[g]?)(hs:w.heap.size<=w'.heap.size):Fa D cb te w' ns bk wh inn f rc fa fn fc:=by
 obtain⟨na,nn,nc,ba,bn,bc,la,ln,lc,ls,h⟩:=h;exact⟨na,nn,nc,ba,bn,bc,la,ln,lc,ls,h.keep hk hs⟩
theorem Hj.put(h:Hj D cb te w ns bk wh inn f rc fa fn fc na nn nc ba bn bc la ln lc ls)(inn':Bool)(f':Cw)(rc':Nat)(hrc:rc'<=800000)
  (hc:w'.heap[cb]?=some (.cells #[.slice fa fn fc,.int .i64 (rc':Nat),.slice na nn nc,.slice ba bn bc,.slice la ln lc,.bool inn',.int .i64 (f'.1:Nat),.int .i64 (f'.2:Nat)] te (0,0))) (hk:∀g,g<w.heap.size->g≠cb->w'.heap[g]?=w.heap[g]?) (hs:w.heap.size<=w'.heap.size):Hj D cb te w' ns bk wh inn' f' rc' fa fn fc na nn nc ba bn bc la ln lc ls:=
 ⟨hc,B8 h.names (fun g hg hl=>hk g hl (h.D7 g hg).2.1),B8 h.blocks (fun g hg hl=>hk g hl (h.G7 g hg).2.1),B8 h.loops (fun g hg hl=>hk g hl (h.J0 g hg).2),h.lsl,h.Gv,h.D7,h.G7,h.J0,⟨h.Bw.1,h.Bw.2.1,h.Bw.2.2.1,hrc⟩,fun g hg=>Nat.lt_of_lt_of_le (h.lo g hg) hs⟩
theorem Hj.Ll(h:Hj D cb te w ns bk wh inn f rc fa fn fc na nn nc ba bn bc la ln lc ls):G4 9 cb 2 w #[.slice fa fn fc,.int .i64 (rc:Nat),.slice na nn nc,.slice ba bn bc,.slice la ln lc,.bool inn,.int .i64 (f.1:Nat),.int .i64 (f.2:Nat)] te na nn nc (Dg ns):=
 ⟨h.cell,rfl,h.names,fun e=>(h.D7 _ e).2.1 rfl⟩
theorem Hj.Pp(h:Hj D cb te w ns bk wh inn f rc fa fn fc na nn nc ba bn bc la ln lc ls):G4 3 cb 3 w #[.slice fa fn fc,.int .i64 (rc:Nat),.slice na nn nc,.slice ba bn bc,.slice la ln lc,.bool inn,.int .i64 (f.1:Nat),.int .i64 (f.2:Nat)] te ba bn bc (Db bk):=
 ⟨h.cell,rfl,h.blocks,fun e=>(h.G7 _ e).2.1 rfl⟩
theorem Hj.Yb(h:Hj D cb te w ns bk wh inn f rc fa fn fc na nn nc ba bn bc la ln lc ls):G4 255 cb 4 w #[.slice fa fn fc,.int .i64 (rc:Nat),.slice na nn nc,.slice ba bn bc,.slice la ln lc,.bool inn,.int .i64 (f.1:Nat),.int .i64 (f.2:Nat)] te la ln lc ls:=
 ⟨h.cell,rfl,h.loops,fun e=>(h.J0 _ e).2 rfl⟩
theorem Ft.Bv{row:Option Nat}(h:Ft cb row w w')(h1:¬D cb)(h2:∀g,row=some g->¬D g)(hlo:∀g,D g->g<w.heap.size):A3 D w w':=
 ⟨h.os,h.tape,h.output,h.size,fun k hk=>h.block k (hlo k hk) (fun e=>h1 z5ra) (fun e=>h2 k e hk)⟩
theorem Hj.Xr(h:Hj D cb te w ns bk wh inn f rc fa fn fc na nn nc ba bn bc la ln lc ls)(s:Nm)(hn:ns.length+1<=800000)
  (hp:Ng 9 cb 2 w #[.slice fa fn fc,.int .i64 (rc:Nat),.slice na nn nc,.slice ba bn bc,.slice la ln lc,.bool inn,.int .i64 (f.1:Nat),.int .i64 (f.2:Nat)] te na nn nc (Dg ns) (Nv s) w'):Fa D cb te w' (ns++[s]) bk wh inn f rc fa fn fc/\A3 D w w':=by
 obtain⟨g,cap,hs,hat,hf⟩:=hp;have hD:¬D g/\g≠cb/\(Value.slice ba bn bc).ownBlock≠some g/\(Value.slice la ln lc).ownBlock≠some g:=by
  rcases hat with e|e
  ·exact h.D7 g e
  ·refine⟨fun hd=>by have:=h.lo g hd;omega,fun e2=>by have:=A5 h.cell;omega,fun e2=>?_,fun e2=>?_⟩
   ·have:=Bs h.blocks g e2;omega
   ·have:=Bs h.loops g e2;omega
 refine⟨⟨some ⟨g,0,none⟩,(Dg ns).length+1,cap,ba,bn,bc,la,ln,lc,ls,?_⟩,hf.Bv h.Gv (fun g hg=>(h.D7 g hg).1) h.lo⟩;have hnm:Dg (ns++[s])=Dg ns++[Nv s]:=by simp[Dg]
 refine⟨by simpa using hs.blk,by rw[hnm];exact hs.own,B8 h.blocks (fun k hk hl=>hf.block k hl (h.G7 k hk).2.1 (fun e=>(h.D7 k e).2.2.1 hk)),B8 h.loops (fun k hk hl=>hf.block k hl (h.J0 k hk).2 (fun e=>(h.D7 k e).2.2.2 hk)),h.lsl,h.Gv,?_,h.G7,h.J0,⟨by simpa using hn,h.Bw.2⟩,fun g hg=>Nat.lt_of_lt_of_le (h.lo g hg) hf.size⟩;intro k hk;simp only[Value.ownBlock,Option.some.injEq]at hk;subst hk;exact hD
theorem Hj.Ai4(h:Hj D cb te w ns bk wh inn f rc fa fn fc na nn nc ba bn bc la ln lc ls)(p:Nat)(hn:bk.length+1<=800000)
  (hp:Ng 3 cb 3 w #[.slice fa fn fc,.int .i64 (rc:Nat),.slice na nn nc,.slice ba bn bc,.slice la ln lc,.bool inn,.int .i64 (f.1:Nat),.int .i64 (f.2:Nat)] te ba bn bc (Db bk) (P3 p) w'):Fa D cb te w' ns (bk++[p]) wh inn f rc fa fn fc/\A3 D w w':=by
 obtain⟨g,cap,hs,hat,hf⟩:=hp;have hD:¬D g/\g≠cb/\(Value.slice na nn nc).ownBlock≠some g/\(Value.slice la ln lc).ownBlock≠some g:=by
  rcases hat with e|e
  ·exact⟨(h.G7 g e).1,(h.G7 g e).2.1,fun e2=>(h.D7 g e2).2.2.1 e,(h.G7 g e).2.2⟩
  ·refine⟨fun hd=>by have:=h.lo g hd;omega,fun e2=>by have:=A5 h.cell;omega,fun e2=>?_,fun e2=>?_⟩
   ·have:=Bs h.names g e2;omega
   ·have:=Bs h.loops g e2;omega
 refine⟨⟨na,nn,nc,some ⟨g,0,none⟩,(Db bk).length+1,cap,la,ln,lc,ls,?_⟩,hf.Bv h.Gv (fun g hg=>(h.G7 g hg).1) h.lo⟩;have hnm:Db (bk++[p])=Db bk++[P3 p]:=by simp[Db]
 refine⟨by simpa using hs.blk,B8 h.names (fun k hk hl=>hf.block k hl (h.D7 k hk).2.1 (fun e=>(h.D7 k hk).2.2.1 e)),by rw[hnm];exact hs.own,B8 h.loops (fun k hk hl=>hf.block k hl (h.J0 k hk).2 (fun e=>(h.G7 k e).2.2 hk)),h.lsl,h.Gv,?_,?_,h.J0,⟨h.Bw.1,by simpa using hn,h.Bw.2.2⟩,fun g hg=>Nat.lt_of_lt_of_le (h.lo g hg) hf.size⟩
 ·intro k hk;refine⟨(h.D7 k hk).1,(h.D7 k hk).2.1,fun e=>?_,(h.D7 k hk).2.2.2⟩;simp only[Value.ownBlock,Option.some.injEq]at e;subst e;exact hD.2.2.1 hk
 ·intro k hk;simp only[Value.ownBlock,Option.some.injEq]at hk;subst hk;exact⟨hD.1,hD.2.1,hD.2.2.2⟩
theorem Hj.Xq(h:Hj D cb te w ns bk wh inn f rc fa fn fc na nn nc ba bn bc la ln lc ls)(u:Value)(hn:wh+1<=800000)
  (hp:Ng 255 cb 4 w #[.slice fa fn fc,.int .i64 (rc:Nat),.slice na nn nc,.slice ba bn bc,.slice la ln lc,.bool inn,.int .i64 (f.1:Nat),.int .i64 (f.2:Nat)] te la ln lc ls u w'):Fa D cb te w' ns bk (wh+1) inn f rc fa fn fc/\A3 D w w':=by
 obtain⟨g,cap,hs,hat,hf⟩:=hp;have hD:¬D g/\g≠cb/\(Value.slice na nn nc).ownBlock≠some g/\(Value.slice ba bn bc).ownBlock≠some g:=by
  rcases hat with e|e
  ·exact⟨(h.J0 g e).1,(h.J0 g e).2,fun e2=>(h.D7 g e2).2.2.2 e,fun e2=>(h.G7 g e2).2.2 e⟩
  ·refine⟨fun hd=>by have:=h.lo g hd;omega,fun e2=>by have:=A5 h.cell;omega,fun e2=>?_,fun e2=>?_⟩
   ·have:=Bs h.names g e2;omega
   ·have:=Bs h.blocks g e2;omega
 refine⟨⟨na,nn,nc,ba,bn,bc,some ⟨g,0,none⟩,ls.length+1,cap,ls++[u],?_⟩,hf.Bv h.Gv (fun g hg=>(h.J0 g hg).1) h.lo⟩;refine⟨by simpa using hs.blk,B8 h.names (fun k hk hl=>hf.block k hl (h.D7 k hk).2.1 (fun e=>(h.D7 k hk).2.2.2 e)),B8 h.blocks (fun k hk hl=>hf.block k hl (h.G7 k hk).2.1 (fun e=>(h.G7 k hk).2.2 e)),hs.own,by simp[h.lsl],h.Gv,?_,?_,?_,⟨h.Bw.1,h.Bw.2.1,hn,h.Bw.2.2.2⟩,fun g hg=>Nat.lt_of_lt_of_le (h.lo g hg) hf.size⟩
 ·intro k hk;refine⟨(h.D7 k hk).1,(h.D7 k hk).2.1,(h.D7 k hk).2.2.1,fun e=>?_⟩;simp only[Value.ownBlock,Option.some.injEq]at e;subst e;exact hD.2.2.1 hk
 ·intro k hk;refine⟨(h.G7 k hk).1,(h.G7 k hk).2.1,fun e=>?_⟩;simp only[Value.ownBlock,Option.some.injEq]at e;subst e;exact hD.2.2.2 hk
 ·intro k hk;simp only[Value.ownBlock,Option.some.injEq]at hk;subst hk;exact⟨hD.1,hD.2.1⟩
theorem Hj.Ab3(h:Hj D cb te w ns bk wh inn f rc fa fn fc na nn nc ba bn bc la ln lc ls)(m:Nat)
  (hp:Lr 9 cb 2 w #[.slice fa fn fc,.int .i64 (rc:Nat),.slice na nn nc,.slice ba bn bc,.slice la ln lc,.bool inn,.int .i64 (f.1:Nat),.int .i64 (f.2:Nat)] te na nn nc (Dg ns) m w'):Fa D cb te w' (ns.take m) bk wh inn f rc fa fn fc/\A3 D w w':=by
 obtain⟨hs,hf⟩:=hp;refine⟨⟨na,m,nc,ba,bn,bc,la,ln,lc,ls,?_⟩,hf.Bv h.Gv (fun g hg=>(h.D7 g hg).1) h.lo⟩;have hnm:Dg (ns.take m)=(Dg ns).take m:=by simp[Dg,List.map_take]
 have ho:∀g,(Value.slice na m nc).ownBlock=some g->(Value.slice na nn nc).ownBlock=some g:=fun g e=>(Mb _ _ _ _).trans e;refine⟨by simpa using hs.blk,by rw[hnm];exact hs.own,B8 h.blocks (fun k hk hl=>hf.block k hl (h.G7 k hk).2.1 (fun e=>(h.D7 k e).2.2.1 hk)),B8 h.loops (fun k hk hl=>hf.block k hl (h.J0 k hk).2 (fun e=>(h.D7 k e).2.2.2 hk)),h.lsl,h.Gv,fun k hk=>h.D7 k (ho k hk),h.G7,h.J0,⟨by have:=h.Bw.1;simp;omega,h.Bw.2⟩,fun g hg=>Nat.lt_of_lt_of_le (h.lo g hg) hf.size⟩
theorem Hj.Ab0(h:Hj D cb te w ns bk wh inn f rc fa fn fc na nn nc ba bn bc la ln lc ls)(m:Nat)
  (hp:Lr 3 cb 3 w #[.slice fa fn fc,.int .i64 (rc:Nat),.slice na nn nc,.slice ba bn bc,.slice la ln lc,.bool inn,.int .i64 (f.1:Nat),.int .i64 (f.2:Nat)] te ba bn bc (Db bk) m w'):Fa D cb te w' ns (bk.take m) wh inn f rc fa fn fc/\A3 D w w':=by
 obtain⟨hs,hf⟩:=hp;refine⟨⟨na,nn,nc,ba,m,bc,la,ln,lc,ls,?_⟩,hf.Bv h.Gv (fun g hg=>(h.G7 g hg).1) h.lo⟩;have hnm:Db (bk.take m)=(Db bk).take m:=by simp[Db,List.map_take]
 have ho:∀g,(Value.slice ba m bc).ownBlock=some g->(Value.slice ba bn bc).ownBlock=some g:=fun g e=>(Mb _ _ _ _).trans e;refine⟨by simpa using hs.blk,B8 h.names (fun k hk hl=>hf.block k hl (h.D7 k hk).2.1 (fun e=>(h.D7 k hk).2.2.1 e)),by rw[hnm];exact hs.own,B8 h.loops (fun k hk hl=>hf.block k hl (h.J0 k hk).2 (fun e=>(h.G7 k e).2.2 hk)),h.lsl,h.Gv,fun k hk=>⟨(h.D7 k hk).1,(h.D7 k hk).2.1,fun e=>(h.D7 k hk).2.2.1 (ho k e),(h.D7 k hk).2.2.2⟩,fun k hk=>h.G7 k (ho k hk),h.J0,⟨h.Bw.1,by have:=h.Bw.2.1;simp;omega,h.Bw.2.2⟩,fun g hg=>Nat.lt_of_lt_of_le (h.lo g hg) hf.size⟩
theorem Hj.Ab2(h:Hj D cb te w ns bk wh inn f rc fa fn fc na nn nc ba bn bc la ln lc ls)(m:Nat)(hm:m<=wh)
  (hp:Lr 255 cb 4 w #[.slice fa fn fc,.int .i64 (rc:Nat),.slice na nn nc,.slice ba bn bc,.slice la ln lc,.bool inn,.int .i64 (f.1:Nat),.int .i64 (f.2:Nat)] te la ln lc ls m w'):Fa D cb te w' ns bk m inn f rc fa fn fc/\A3 D w w':=by
 obtain⟨hs,hf⟩:=hp;refine⟨⟨na,nn,nc,ba,bn,bc,la,m,lc,ls.take m,?_⟩,hf.Bv h.Gv (fun g hg=>(h.J0 g hg).1) h.lo⟩;have ho:∀g,(Value.slice la m lc).ownBlock=some g->(Value.slice la ln lc).ownBlock=some g:=fun g e=>(Mb _ _ _ _).trans e;refine⟨by simpa using hs.blk,B8 h.names (fun k hk hl=>hf.block k hl (h.D7 k hk).2.1 (fun e=>(h.D7 k hk).2.2.2 e)),B8 h.blocks (fun k hk hl=>hf.block k hl (h.G7 k hk).2.1 (fun e=>(h.G7 k hk).2.2 e)),hs.own,by rw[List.length_take,h.lsl,Nat.min_eq_left hm],h.Gv,fun k hk=>⟨(h.D7 k hk).1,(h.D7 k hk).2.1,(h.D7 k hk).2.2.1,fun e=>(h.D7 k hk).2.2.2 (ho k e)⟩,fun k hk=>⟨(h.G7 k hk).1,(h.G7 k hk).2.1,fun e=>(h.G7 k hk).2.2 (ho k e)⟩,fun k hk=>h.J0 k (ho k hk),⟨h.Bw.1,h.Bw.2.1,by have:=h.Bw.2.2.1;omega,h.Bw.2.2.2⟩,fun g hg=>Nat.lt_of_lt_of_le (h.lo g hg) hf.size⟩
end
section
set_option maxRecDepth 100000
open Go.RowKit
open Go.Deep (BT)
variable {D:Nat->Prop}{cb te:Nat}{w:World}{ns:List Nm}{bk:List Nat}{wh:Nat}{inn:Bool}{f:Cw}{rc:Nat}{fa:Option Addr}{fn fc:Nat}
theorem Aq5{code line:Nat}{f:Cw}(h:f.1=0):Ed true code line f=(code,line):=by unfold Ed;rw[if_pos (by simp[h])]
theorem z5sa {P:Prop} (h:P:=by exact hne):P:=h
theorem Oa(h:Fa D cb te w ns bk wh inn f rc fa fn fc)(code line:Nat) :
  Calls Tryz.prog 264 #[.pointer (some ⟨cb,0,none⟩),.int .i64 (code:Nat),.int .i64 (line:Nat)] w fun e w'=>e=.returned (.tuple #[])/\Fa D cb te w' ns bk wh inn (Ed true code line f) rc fa fn fc/\A3 D w w':=by
 obtain⟨na,nn,nc,ba,bn,bc,la,ln,lc,ls,h⟩:=h;obtain⟨c0,c1,c2,c3,c4,c5,c6,c7,fz,lb⟩:=Nl h.cell;have HH:=A0 h;clear h;by_cases h0:f.1=0
 ·have HW:=A0 (Aq5 (code:=code) (line:=line) h0);rw[h0]at c6;go_enter Tryz.func264,Tryz.ntmps264;go_wp2;go_end0;rw[HW.o];refine⟨rfl,⟨na,nn,nc,ba,bn,bc,la,ln,lc,ls,HH.o.put inn (code,line) rc HH.o.Bw.2.2.2 ?_ (fun g _ hne=>by rw[Below.heap_setCell _ _ _ _ z5sa,Below.heap_setCell _ _ _ _ z5sa]) z5fa⟩,A3.set (p:=⟨cb,7,none⟩) (A3.set (p:=⟨cb,6,none⟩) (A3.refl _ _) HH.o.Gv _) HH.o.Gv _⟩;have:=heap_set (j:=7) (heap_set (j:=6) HH.o.cell (.int .i64 (code:Nat))) (.int .i64 (line:Nat));simpa using this
 ·have HW:=A0 (Aq4 true code line f h0);have t0:((f.1:Int)==0)=false:=by rw[beq_eq_false_iff_ne];omega
  clear h0;go_enter Tryz.func264,Tryz.ntmps264;go_wp2;go_end0;rw[HW.o];exact⟨rfl,⟨na,nn,nc,ba,bn,bc,la,ln,lc,ls,HH.o⟩,A3.refl _ _⟩
theorem Ok(ns:List Nm):(Dg ns).length=ns.length:=by simp[Dg]
theorem Vu(bk:List Nat):(Db bk).length=bk.length:=by simp[Db]
theorem Tl(h:Fa D cb te w ns bk wh inn f rc fa fn fc)(hb:bk.length+1<=800000) :
  Calls Tryz.prog 133 #[.pointer (some ⟨cb,0,none⟩)] w fun e w'=>e=.returned (.tuple #[])/\Fa D cb te w' ns (bk++[ns.length]) wh inn f rc fa fn fc/\A3 D w w':=by
 obtain⟨na,nn,nc,ba,bn,bc,la,ln,lc,ls,h⟩:=h;have lb:=A5 h.cell;have HH:=A0 (h.keep (w':=w.drew) (fun _ _=>rfl) (Nat.le_refl _));have HL:=A0 (Qv HH.o.Ll);rw[Ok]at HL;have HP:=A0 (Ama HH.o.Pp (by rw[Vu];omega) (ns.length:Nat) z56a);clear h;go_enter Tryz.func133,Tryz.ntmps133;go_wp2;go_region_law (first
  | (refine F2 rfl 136 _ _ rfl #[.pointer (some ⟨cb,2,none⟩)] (by kernel_rfl) HL.o ?_;rintro e w1 ⟨rfl,rfl⟩;refine⟨_,rfl,?_⟩)
  | (refine F2 rfl 191 _ _ rfl #[.pointer (some ⟨cb,3,none⟩),.int .i64 (ns.length:Nat)] (by kernel_rfl) HP.o ?_;rintro e w1 ⟨rfl,hp1⟩;refine⟨_,rfl,?_⟩))
 all_goals go_wp2
 all_goals go_end0
 all_goals obtain⟨k1,k2⟩:=HH.o.Ai4 ns.length hb hp1
 all_goals exact⟨rfl,k1,⟨k2.os,k2.tape,k2.output,k2.size,k2.block⟩⟩
theorem Th{D:Nat->Prop}{cb te:Nat}{w:World}{ns:List Nm}{bk:List Nat}{p:Nat}{wh:Nat}{inn:Bool}{f:Cw}{rc:Nat}{fa:Option Addr}{fn fc:Nat}(h:Fa D cb te w ns (bk++[p]) wh inn f rc fa fn fc)(hp:p<=ns.length) :
  Calls Tryz.prog 135 #[.pointer (some ⟨cb,0,none⟩)] w fun e w'=>e=.returned (.tuple #[])/\Fa D cb te w' (ns.take p) bk wh inn f rc fa fn fc/\A3 D w w':=by
 obtain⟨na,nn,nc,ba,bn,bc,la,ln,lc,ls,h⟩:=h;have lb:=A5 h.cell;have HH:=A0 (h.keep (w':=w.drew) (fun _ _=>rfl) (Nat.le_refl _));have hl:(Db (bk++[p])).length=bk.length+1:=by rw[Vu];simp
 have hf:=HH.o.Bw;simp only[List.length_append,List.length_singleton]at hf;have HP:=A0 (Am6 HH.o.Pp z51a bk.length z51a hl z56a);have hx:(Db (bk++[p]))[bk.length]'z51a=.int .i64 (p:Nat):=by simp[Db,P3]
 rw[hx]at HP;clear h hl hx;go_enter Tryz.func135,Tryz.ntmps135;go_wp2;go_region_law (first
  | (refine F2 rfl 193 _ _ rfl #[.pointer (some ⟨cb,3,none⟩)] (by kernel_rfl) HP.o ?_;rintro e w1 ⟨rfl,hc1⟩;refine⟨_,rfl,?_⟩;obtain⟨k1,k2⟩:=HH.o.Ab0 bk.length hc1;rw[List.take_left]at k1;obtain⟨na1,nn1,nc1,ba1,bn1,bc1,la1,Il,lc1,E5,G6⟩:=k1;have HV1:=A0 G6;have HK2:=A0 k2;have Bp:=A5 G6.cell;have Ia:=A0 (Y2 G6.Ll p (by rw[Ok];exact hp) z56a);clear G6 k2 hc1)
  | (refine F2 rfl 83 _ _ rfl #[.pointer (some ⟨cb,2,none⟩),.int .i64 (p:Nat)] (by kernel_rfl) Ia.o ?_;rintro e w2 ⟨rfl,hc2⟩;refine⟨_,rfl,?_⟩))
 all_goals go_wp2
 all_goals go_end0
 all_goals obtain⟨k3,k4⟩:=HV1.o.Ab3 p hc2
 all_goals exact⟨rfl,k3,A3.trans ⟨HK2.o.os,HK2.o.tape,HK2.o.output,HK2.o.size,HK2.o.block⟩ k4⟩
theorem Abn{ns:List Nm}{i:Nat}(h:i<ns.length)(s:Nm):decide (s∈ns.drop i)=(decide (ns[i]=s)||decide (s∈ns.drop (i+1))):=by
 rw[List.drop_eq_getElem_cons h,Bool.eq_iff_iff];simp only[List.mem_cons,decide_eq_true_eq,Bool.or_eq_true];exact⟨fun h=>h.imp Eq.symm id,fun h=>h.imp Eq.symm id⟩
theorem Zt(h:Fa D cb te w ns bk wh inn f rc fa fn fc)(s:Nm)(p:Nat)(hp:p<=ns.length) :
  Calls Tryz.prog 265 #[.pointer (some ⟨cb,0,none⟩),.string ⟨s.toArray⟩,.int .i64 (p:Nat)] w fun e w'=>e=.returned (.bool (decide (s∈ns.drop p)))/\w'=w:=by
 obtain⟨na,nn,nc,ba,bn,bc,la,ln,lc,ls,h⟩:=h;have lb:=A5 h.cell;have HL:=A0 (Qv h.Ll);rw[Ok]at HL;have HA:=A0 (fun i hi=>A3j h.Ll i hi);have hfew:=h.Bw.1;clear h;go_enter Tryz.func265,Tryz.ntmps265;go_wp2;go_loopg [7] (ns.length-p) (fun k v wr=>∃i:Nat,v=.int .i64 i/\i+k=ns.length/\decide (s∈ns.drop p)=decide (s∈ns.drop i)/\wr=w)
 case atStart=>exact⟨p,rfl,by omega,rfl,rfl⟩
 case round=>
  obtain⟨i,rfl,hik,hm,rfl⟩:=hrel;have HM:=A0 hm;clear hm;by_cases hlt:i<ns.length
  ·have HS:=A0 (Abn hlt s);have HA1:=A0 (HA.o i (by rw[Ok];exact hlt));have hx:(Dg ns)[i]'(by rw[Ok];exact hlt)=.string ⟨ns[i].toArray⟩:=by simp[Dg,Nv]
   rw[hx]at HA1;clear hx;generalize ns[i]=x at *;have hlt':(i:Int)<(ns.length:Int):=by omega
   cases hq:(x==s)
   ·have HE:Hid (decide (s∈ns.drop p)=decide (s∈ns.drop (i+1))):=by
     show _=_;have:decide (x=s)=false:=by simpa using hq
     rw[HM.o,HS.o,this];rfl
    go_wp2_with fail
    refine HL.o.mono ?_;rintro e w' ⟨rfl,rfl⟩;go_wp2_with fail
    refine HA1.o.mono ?_;rintro e w' ⟨rfl,rfl⟩;go_wp2;go_roundg (gk-1)
    case measure=>omega
    case rel=>exact⟨i+1,rfl,by omega,HE.o,rfl⟩
   ·have HE:Hid (decide (s∈ns.drop p)=true):=by
     show _=_;have:decide (x=s)=true:=by simpa using hq
     rw[HM.o,HS.o,this];rfl
    go_wp2_with fail
    refine HL.o.mono ?_;rintro e w' ⟨rfl,rfl⟩;go_wp2_with fail
    refine HA1.o.mono ?_;rintro e w' ⟨rfl,rfl⟩;go_wp2;go_ret;exact⟨Sa HE.o.symm,rfl⟩
  ·have HE:Hid (decide (s∈ns.drop p)=false):=by
    show _=_;rw[HM.o,List.drop_eq_nil_of_le z51a];rfl
   go_wp2_with fail
   refine HL.o.mono ?_;rintro e w' ⟨rfl,rfl⟩;go_wp2;go_ret;exact⟨Sa HE.o.symm,rfl⟩
end
section
set_option maxRecDepth 100000
open Go.RowKit
open Go.Deep (BT)
variable {D:Nat->Prop}{w:World}{fns:List (Nm×Nat)}{fa:Option Addr}{fn fc:Nat}
theorem Pu(code line:Nat)(f:Cw):Ed false code line f=f:=by unfold Ed;rw[if_neg z56a]
theorem z27a {P:Prop} (h:P:=by
  go_wp2;go_end0;exact⟨rfl,Bg.o,Ay.o⟩):P:=h
theorem z3ba {P:Prop} (h:P:=by
  exact⟨rfl,Aj.o,Aa.o⟩):P:=h
theorem Vx{D:Nat->Prop}{cb te:Nat}{w:World}{outer cur:List Nm}{bl:List Nat}{wh:Nat}{inn:Bool}{f:Cw}{rc:Nat}{fa:Option Addr}{fn fc:Nat}(h:Fa D cb te w (outer++cur) (bl++[outer.length]) wh inn f rc fa fn fc)(line:Nat)(s:Nm) :
  Calls Tryz.prog 235 #[.pointer (some ⟨cb,0,none⟩),.agg #[.int .i64 (line:Nat),.string ⟨s.toArray⟩]] w fun e w'=>e=.returned (.tuple #[])/\Fa D cb te w' (outer++cur) (bl++[outer.length]) wh inn (Ed (decide (s∈cur)) 3 line f) rc fa fn fc/\A3 D w w':=by
 have hlo:∀g,D g->g<w.heap.size:=by obtain⟨_,_,_,_,_,_,_,_,_,_,h⟩:=h;exact h.lo
 have lb:cb<w.heap.size:=by obtain⟨_,_,_,_,_,_,_,_,_,_,h⟩:=h;exact A5 h.cell
 have h1:Fa D cb te (w.alloc (.cells #[.int .i64 (line:Nat),.string ⟨s.toArray⟩] 148)) (outer++cur) (bl++[outer.length]) wh inn f rc fa fn fc:=h.keep (fun g hg=>Below.heap_alloc _ _ _ hg) z56a;have A1:A3 D w (w.alloc (.cells #[.int .i64 (line:Nat),.string ⟨s.toArray⟩] 148)):=(A3.refl D w).alloc hlo _;have E1:=heap_alloc_new w (.cells #[.int .i64 (line:Nat),.string ⟨s.toArray⟩] 148);clear h;generalize hW:w.alloc (.cells #[.int .i64 (line:Nat),.string ⟨s.toArray⟩] 148)=w1 at *;have HW:=A0 hW;generalize hxb:w.heap.size=xb at *;have HXb:=A0 hxb;clear hW hxb;have A7:=A0 h1;have A4:=A0 A1;have I0:=A0 E1;have hdr:∀W:World,Fa D cb te W (outer++cur) (bl++[outer.length]) wh inn f rc fa fn fc->Calls Tryz.prog 241 #[.pointer (some ⟨cb,3,none⟩)] W fun e w'=>e=.returned (.int .i64 (outer.length:Nat))/\w'=W:=by
  intro W h;obtain⟨na,nn,nc,ba,bn,bc,la,ln,lc,ls,h⟩:=h;have hl:(Db (bl++[outer.length])).length=bl.length+1:=by rw[Vu];simp
  have hf:=h.Bw;simp only[List.length_append,List.length_singleton]at hf;have hp:=A44 h.Pp z51a bl.length z51a hl;have hx:(Db (bl++[outer.length]))[bl.length]'z51a=.int .i64 (outer.length:Nat):=by simp[Db,P3]
  rw[hx]at hp;exact hp
 have HTop:=A0 hdr;have HSeen:=A0 (fun(W:World) (h:Fa D cb te W (outer++cur) (bl++[outer.length]) wh inn f rc fa fn fc)=>Zt h s outer.length z56a);rw[List.drop_left]at HSeen;obtain⟨y0,y1,fy,ly⟩:=Is E1;have Bp:cb<w1.heap.size:=by obtain⟨_,_,_,_,_,_,_,_,_,_,h⟩:=h1;exact A5 h.cell
 clear hdr h1 A1 E1;cases hq:decide (s∈cur)
 ·rw[hq]at HSeen;have HF:=A0 (Pu 3 line f);go_enter Tryz.func235,Tryz.ntmps235;go_wp2;rw[HW.o,HXb.o];go_quiet ((first|(go_at_call 241;exact Calls.quiet_of_same (HTop.o _ (A7.o.keep (fun _ _=>rfl) (Nat.le_refl _))))|(go_at_call 265;exact Calls.quiet_of_same (HSeen.o _ (A7.o.keep (fun _ _=>rfl) (Nat.le_refl _))))))
  have Aj:Hid (Fa D cb te (w1.drewN nq) (outer++cur) (bl++[outer.length]) wh inn f rc fa fn fc):=A7.o.keep (fun _ _=>rfl) (Nat.le_refl _);have Aa:Hid (A3 D w (w1.drewN nq)):=⟨A4.o.os,A4.o.tape,A4.o.output,A4.o.size,A4.o.block⟩;have HX2:Hid ((w1.drewN nq).heap[xb]?=_):=I0.o;go_wp2;go_end0;rw[HF.o];exact z3ba
 ·rw[hq]at HSeen;go_enter Tryz.func235,Tryz.ntmps235;go_wp2;rw[HW.o,HXb.o];go_quiet ((first|(go_at_call 241;exact Calls.quiet_of_same (HTop.o _ (A7.o.keep (fun _ _=>rfl) (Nat.le_refl _))))|(go_at_call 265;exact Calls.quiet_of_same (HSeen.o _ (A7.o.keep (fun _ _=>rfl) (Nat.le_refl _))))))
  have Aj:Hid (Fa D cb te (w1.drewN nq) (outer++cur) (bl++[outer.length]) wh inn f rc fa fn fc):=A7.o.keep (fun _ _=>rfl) (Nat.le_refl _);have Aa:Hid (A3 D w (w1.drewN nq)):=⟨A4.o.os,A4.o.tape,A4.o.output,A4.o.size,A4.o.block⟩;have HX2:Hid ((w1.drewN nq).heap[xb]?=_):=I0.o;clear y0 y1 fy ly;generalize w1.drewN nq=w2 at *;obtain⟨y0,y1,fy,ly⟩:=Is HX2.o;go_wp2_with fail
  refine(Oa Aj.o 3 line).mono ?_;rintro e w3 ⟨rfl,Ca,Ak⟩;have Bg:=A0 Ca;have Ay:Hid (A3 D w w3):=Aa.o.trans Ak;clear Ca Ak;exact z27a
theorem Zp{D:Nat->Prop}{cb te:Nat}{w:World}{ns:List Nm}{bk:List Nat}{wh:Nat}{inn:Bool}{f:Cw}{rc:Nat}{fa:Option Addr}{fn fc:Nat}(h:Fa D cb te w ns bk wh inn f rc fa fn fc)(line:Nat) :
  Calls Tryz.prog 240 #[.pointer (some ⟨cb,0,none⟩),.int .i64 (line:Nat)] w fun e w'=>e=.returned (.tuple #[])/\Fa D cb te w' ns bk wh inn (Ed (wh==0) 4 line f) rc fa fn fc/\A3 D w w':=by
 have HS:=A0 h;obtain⟨na,nn,nc,ba,bn,bc,la,ln,lc,ls,h⟩:=h;have lb:=A5 h.cell;have HL:=A0 (Y7 h.Yb);rw[h.lsl]at HL;clear h;by_cases h0:wh=0
 ·subst h0;go_enter Tryz.func240,Tryz.ntmps240;go_wp2_with fail
  refine HL.o.mono ?_;rintro e w' ⟨rfl,rfl⟩;go_wp2_with fail
  refine(Oa HS.o 4 line).mono ?_;rintro e w3 ⟨rfl,Ca,Ak⟩;have Bg:=A0 Ca;have Ay:=A0 Ak;clear Ca Ak;exact z27a
 ·have t0:((wh:Int)==0)=false:=by rw[beq_eq_false_iff_ne];omega
  have HF:Hid (Ed (wh==0) 4 line f=f):=by
   show _=_;rw[show(wh==0)=false by simpa using h0];exact Pu 4 line f
  clear h0;go_enter Tryz.func240,Tryz.ntmps240;go_wp2_with fail
  refine HL.o.mono ?_;rintro e w' ⟨rfl,rfl⟩;go_wp2;go_end0;rw[HF.o];exact⟨rfl,HS.o,A3.refl _ _⟩
structure I7 (D : Nat -> Prop) (w : World) (fns : List (Nm × Nat)) (fa : Option Addr) (fn fc : Nat) : Prop where
 len:fn=fns.length
 Bw:fns.length<=100000
 cap:fn<=fc
 at':∀i (h:i<fns.length),∃g pb pa pc,fa=some ⟨g,0,none⟩/\D g/\g<w.heap.size/\w.cell? ⟨g,i,none⟩=some (.pointer (some ⟨pb,0,none⟩))/\D pb/\pb<w.heap.size/\w.cell? ⟨pb,1,none⟩=some (.string ⟨fns[i].1.toArray⟩)/\w.cell? ⟨pb,2,none⟩=some (.slice pa fns[i].2 pc)
theorem I7.keep{D:Nat->Prop}{w w':World}{fns:List (Nm×Nat)}{fa:Option Addr}{fn fc:Nat}(h:I7 D w fns fa fn fc)(hb:A3 D w w'):I7 D w' fns fa fn fc:=by
 refine⟨h.len,h.Bw,h.cap,fun i hi=>?_⟩;obtain⟨g,pb,pa,pc,e1,e2,e3,e4,e5,e6,e7,e8⟩:=h.at' i hi;exact⟨g,pb,pa,pc,e1,e2,Nat.lt_of_lt_of_le e3 hb.size,(World.cell?_of_block (hb.block g e2)).trans e4,e5,Nat.lt_of_lt_of_le e6 hb.size,(World.cell?_of_block (hb.block pb e5)).trans e7,(World.cell?_of_block (hb.block pb e5)).trans e8⟩
def Mo(w:World)(fns:List (Nm×Nat))(fa:Option Addr)(k:Nat)(s:Nm)(p:Option Addr):Prop:=
 (p=none/\∀j,j<k->∀h:j<fns.length,fns[j].1≠s)\/(∃i,∃h:i<fns.length,∃pb pa pc,i<k/\p=some ⟨pb,0,none⟩/\(∃g,fa=some ⟨g,0,none⟩/\w.cell? ⟨g,i,none⟩=some (.pointer (some ⟨pb,0,none⟩)))/\fns[i].1=s/\(∀j,j<i->∀h':j<fns.length,fns[j].1≠s)/\pb<w.heap.size/\w.cell? ⟨pb,2,none⟩=some (.slice pa fns[i].2 pc))
theorem z2ia {P:Prop} (h:P:=by
  go_wp2;go_roundg (gk-1)
  case measure=>omega
  case rel=>exact⟨i+1,rfl,by omega,HS.o HQ.o,rfl⟩):P:=h
theorem z4ba {P:Prop} (h:P:=by
  intro hn j hj h' e;by_cases hjn:j=i
  ·subst hjn;exact hn e
  ·exact HNo.o j z51a h' e):P:=h
theorem Aad(h:I7 D w fns fa fn fc)(k:Nat)(hk:k<=fns.length)(s:Nm) :
  Calls Tryz.prog 263 #[.slice fa k fc,.string ⟨s.toArray⟩] w fun e w'=>∃p,e=.returned (.pointer p)/\Mo w fns fa k s p/\w'=w:=by
 have hfew:=h.Bw;have hcap:=h.cap;have hlen:=h.len;have HH:=A0 h;clear h;go_enter Tryz.func263,Tryz.ntmps263;go_wp2;go_loopg [9] k (fun q v wr=>∃i:Nat,v=.int .i64 i/\i+q=k/\(∀j,j<i->∀h':j<fns.length,fns[j].1≠s)/\wr=w)
 case atStart=>exact⟨0,rfl,by omega,fun i hi=>by omega,rfl⟩
 case round=>
  obtain⟨i,rfl,hik,hno,rfl⟩:=hrel;have HNo:=A0 hno;clear hno;by_cases hlt:i<k
  ·have hlt2:i<fns.length:=by omega
   obtain⟨g,pb,pa,pc,rfl,_,lg,cg,_,lp,c1,c2⟩:=HH.o.at' i hlt2;have HI:Hid (fns[i].1=s->Mo wr fns (some ⟨g,0,none⟩) k s (some ⟨pb,0,none⟩)):=fun e=>.inr ⟨i,hlt2,pb,pa,pc,hlt,rfl,⟨g,rfl,cg⟩,e,HNo.o,lp,c2⟩;have HS:Hid (fns[i].1≠s->∀j,j<i+1->∀h':j<fns.length,fns[j].1≠s):=by
    exact z4ba
   have hcap2:k<=fc:=by omega
   clear hlen hcap;generalize fns[i]=x at *;cases hq:(x.1==s)
   ·have HQ:Hid (x.1≠s):=by rw[beq_eq_false_iff_ne]at hq;exact hq
    exact z2ia
   ·have HQ:Hid (x.1=s):=A0 (by simpa using hq);go_wp2;go_ret;exact⟨_,rfl,HI.o HQ.o,rfl⟩
  ·have HT:Hid (Mo wr fns fa k s none):=.inl ⟨rfl,fun j hj h=>HNo.o j z51a h⟩;go_wp2;go_ret;exact⟨_,rfl,HT.o,rfl⟩
theorem Mo.unique{w:World}{fns:List (Nm×Nat)}{fa:Option Addr}{k:Nat}{s:Nm}{p q:Option Addr}(h1:Mo w fns fa k s p)(h2:Mo w fns fa k s q):p=q:=by
 rcases h1 with⟨e1,n1⟩|⟨i,hi,pb,pa,pc,hik,e1,⟨g,eg,c1⟩,es,n1,_,_⟩
 ·rcases h2 with⟨e2,_⟩|⟨j,hj,pb2,pa2,pc2,hjk,e2,_,es2,_⟩
  ·rw[e1,e2]
  ·exact absurd es2 (n1 j hjk hj)
 ·rcases h2 with⟨e2,n2⟩|⟨j,hj,pb2,pa2,pc2,hjk,e2,⟨g2,eg2,c2⟩,es2,n2,_,_⟩
  ·exact absurd es (n2 i hik hi)
  ·have hij:i=j:=by
    rcases Nat.lt_trichotomy i j with h|h|h
    ·exact absurd es (n2 i h hi)
    ·exact h
    ·exact absurd es2 (n1 j h hj)
   subst hij;rw[eg]at eg2;injection eg2 with eg2;injection eg2 with eg2;subst eg2;rw[c1]at c2;injection c2 with c2;injection c2 with c2;rw[e1,e2,c2]
theorem I7.find(h:I7 D w fns fa fn fc)(s:Nm):∀k,k<=fns.length->∃p,Mo w fns fa k s p:=by
 intro k;induction k with
 | zero=>intro _;exact⟨none,.inl ⟨rfl,fun j hj=>by omega⟩⟩
 | succ k ih=>
  intro hk;obtain⟨p,hp⟩:=ih z51a;rcases hp with⟨rfl,hn⟩|⟨i,hi,pb,pa,pc,hik,r⟩
  ·by_cases e:(fns[k]'z51a).1=s
   ·obtain⟨g,pb,pa,pc,e1,_,_,e4,_,e6,_,e8⟩:=h.at' k z51a;exact⟨some ⟨pb,0,none⟩,.inr ⟨k,by omega,pb,pa,pc,by omega,rfl,⟨g,e1,e4⟩,e,fun j hj h'=>hn j hj h',e6,e8⟩⟩
   ·refine⟨none,.inl ⟨rfl,fun j hj h' e2=>?_⟩⟩;by_cases hjk:j=k
    ·subst hjk;exact e e2
    ·exact hn j z51a h' e2
  ·exact⟨p,.inr ⟨i,hi,pb,pa,pc,by omega,r⟩⟩
theorem Zq(h:I7 D w fns fa fn fc)(k:Nat)(hk:k<=fns.length)(s:Nm)(p:Option Addr)(hp:Mo w fns fa k s p) :
  Calls Tryz.prog 263 #[.slice fa k fc,.string ⟨s.toArray⟩] w fun e w'=>e=.returned (.pointer p)/\w'=w:=
 (Aad h k hk s).mono fun e w' ⟨q,e1,e2,e3⟩=>⟨by rw[e1,hp.unique e2],e3⟩
end
section
set_option maxRecDepth 100000
open Go.RowKit
open Go.Deep (BT)
structure CC where
 cb:Nat
 te:Nat
 fns:List (Nm×Nat)
 fa:Option Addr
 fn:Nat
 fc:Nat
structure CC.St (K : CC) (D : Nat -> Prop) (w : World) (ns : List Nm) (bk : List Nat) (wh : Nat) (inn : Bool) (f : Cw) (rc : Nat) : Prop where
 st:Fa D K.cb K.te w ns bk wh inn f rc K.fa K.fn K.fc
 fr:I7 D w K.fns K.fa K.fn K.fc
variable {K:CC}{D:Nat->Prop}{w:World}{ns:List Nm}{bk:List Nat}{wh:Nat}{inn:Bool}{f:Cw}{rc:Nat}
theorem CC.St.lo(h:K.St D w ns bk wh inn f rc):(∀g,D g->g<w.heap.size)/\K.cb<w.heap.size/\¬D K.cb:=by
 obtain⟨_,_,_,_,_,_,_,_,_,_,h⟩:=h.st;exact⟨h.lo,A5 h.cell,h.Gv⟩
theorem CC.St.next{K:CC}{D:Nat->Prop}{w w':World}{ns ns':List Nm}{bk bk':List Nat}{wh wh':Nat}{inn inn':Bool}{f f':Cw}{rc rc':Nat}(h:K.St D w ns bk wh inn f rc)(hs:Fa D K.cb K.te w' ns' bk' wh' inn' f' rc' K.fa K.fn K.fc)(hb:A3 D w w'):K.St D w' ns' bk' wh' inn' f' rc':=⟨hs,h.fr.keep hb⟩
theorem CC.St.drewN(h:K.St D w ns bk wh inn f rc)(n:Nat):K.St D (w.drewN n) ns bk wh inn f rc:=
 h.next (h.st.keep (fun _ _=>rfl) (Nat.le_refl _)) ⟨rfl,rfl,rfl,Nat.le_refl _,fun _ _=>rfl⟩
theorem Dv(D:Nat->Prop)(w:World)(n:Nat):A3 D w (w.drewN n):=⟨rfl,rfl,rfl,Nat.le_refl _,fun _ _=>rfl⟩
theorem Ao.Bv{D:Nat->Prop}{w w':World}(hb:A3 D w w'){f:BT A6}{vs:List Value}(h:Ao D w f vs):Ao D w' f vs:=Ao.keep (fun g hg _=>⟨hb.block g hg,hg⟩) _ _ h
theorem Bx.Bv{D:Nat->Prop}{w w':World}(hb:A3 D w w'){l:A6}{v:Value}{ks:List Value}(h:Bx D w l v ks):Bx D w' l v ks:=Bx.keep (fun g hg _=>⟨hb.block g hg,hg⟩) h
theorem Cz.Bv{D:Nat->Prop}{w w':World}(hb:A3 D w w'){e:TypeId}{size:Nat}{v:Value}{n:Nat}{cs:List Value}(h:Cz D w e size v n cs):Cz D w' e size v n cs:=h.keep (fun g hg _=>⟨hb.block g hg,hg⟩)
theorem Ao.at'{D:Nat->Prop}{w:World}:∀(i:Nat) (f:BT A6) (vs:List Value),Ao D w f vs->i<Az f->
  ∃x y l c r,Cd i f=.node x y l c r/\∃v ks,vs[i]?=some v/\Bx D w l v ks/\Ao D w c ks:=by
 intro i;induction i with
 | zero=>
  intro f vs h hi;cases f with
  | nil=>simp[Az]at hi
  | node x y l c r=>
   obtain⟨v,ks,rest,rfl,h1,h2,h3⟩:=h;exact⟨x,y,l,c,r,rfl,v,ks,rfl,h1,h2⟩
 | succ i ih=>
  intro f vs h hi;cases f with
  | nil=>simp[Az]at hi
  | node x y l c r=>
   obtain⟨v,ks,rest,rfl,h1,h2,h3⟩:=h;obtain⟨x',y',l',c',r',e,v',ks',k1,k2,k3⟩:=ih r rest h3 (by simp only[Az]at hi;omega);exact⟨x',y',l',c',r',e,v',ks',k1,k2,k3⟩
def Fz(K:CC)(l:A6)(c:BT A6):Prop:=∀(D:Nat->Prop) (w:World) (outer cur:List Nm) (bk:List Nat) (wh:Nat) (inn:Bool) (f:Cw) (rc:Nat) (v:Value) (ks:List Value),
 K.St D w (outer++cur) bk wh inn f rc->Bx D w l v ks->Ao D w c ks->
 Calls Tryz.prog 236 #[.pointer (some ⟨K.cb,0,none⟩),v] w fun e w'=>e=.returned (.tuple #[])/\K.St D w' (outer++cur) bk wh inn (By K.fns (nd l c) outer cur wh inn f).2 rc/\A3 D w w'
def D8(P:A6->BT A6->Prop):BT A6->Prop
 | .nil=>True
 | .node _ _ l c r=>P l c/\D8 P r
theorem D8.at'{P:A6->BT A6->Prop}:∀(i:Nat) (f:BT A6),D8 P f->∀x y l c r,Cd i f=.node x y l c r->P l c:=by
 intro i;induction i with
 | zero=>intro f h x y l c r e;rw[show Cd 0 f=f from by cases f <;> rfl]at e;subst e;exact h.1
 | succ i ih=>
  intro f h x y l c r e;cases f with
  | nil=>rw[Cd]at e;cases e
  | node x' y' l' c' r'=>rw[Cd]at e;exact ih r' h.2 x y l c r e
theorem Wf.drop:∀(m i:Nat) (f:BT A6),Wf m f->Wf m (Cd i f):=by
 intro m i;induction i with
 | zero=>intro f h;exact h
 | succ i ih=>
  intro f h;cases f with
  | nil=>exact h
  | node x y l c r=>exact ih r h.1
theorem sens_xy'(fns:List (Nm×Nat))(x y:Nat)(l:A6)(c r:BT A6)(outer cur:List Nm)(wh:Nat)(inn:Bool)(f:Cw):By fns (.node x y l c r) outer cur wh inn f=By fns r outer (By fns (nd l c) outer cur wh inn f).1 wh inn (By fns (nd l c) outer cur wh inn f).2:=by
 rw[Aki];rfl
theorem Wf.Qh{x y:Nat}{l:A6}{c r:BT A6}(h:Wf 0 (.node x y l c r)):Wf 0 (nd l c):=⟨trivial,h.2⟩
theorem z1wa {P:Prop} (h:P:=by
  have:Az (Cd i c)=0:=by rw[P7,<-HLen.o];omega
  cases hd:Cd i c with
  | nil=>rfl
  | node x y l c r=>rw[hd]at this;simp[Az]at this):P:=h
theorem z0sa {P:Prop} (h:P:=by
  have h0:Cd i c=.nil:=by
   exact z1wa
  have:=HSe.o;rw[h0]at this;exact this):P:=h
theorem z2wa {P:Prop} (h:P:=by
  go_wp2;go_end0;rw[<-HE.o];exact⟨rfl,HSt.o,HBel.o⟩):P:=h
theorem z5na {P:Prop} (h:P:=by rw[<-HLen.o];exact hlt):P:=h
theorem Zn(K:CC)(c:BT A6)(hok:D8 (Fz K) c)(hwf:Wf 0 c)(D:Nat->Prop)(w:World)(outer cur:List Nm)(bk:List Nat)(wh:Nat)(inn:Bool)(f:Cw)(rc:Nat)(va:Option Addr)(vn vc:Nat)(ks:List Value)
  (hst:K.St D w (outer++cur) bk wh inn f rc) (hown:Cz D w 150 1 (.slice va vn vc) ks.length ks) (hrep:Ao D w c ks) (hb:ks.length<=500000) :
  Calls Tryz.prog 267 #[.pointer (some ⟨K.cb,0,none⟩),.slice va vn vc] w fun e w'=>e=.returned (.tuple #[])/\K.St D w' (outer++cur) bk wh inn (By K.fns c outer cur wh inn f).2 rc/\A3 D w w':=by
 have hvn:vn=ks.length:=(Cg hown.1).1;subst hvn;have HSt0:=A0 hst;have HOwn:=A0 hown;have HRep:=A0 hrep;have hlen:=hrep.len;have HLen:=A0 hlen;clear hst hown hrep hlen;go_enter Tryz.func267,Tryz.ntmps267;go_wp2;go_loopg [8] ks.length (fun k v wr=>∃(i:Nat) (fl:Cw),v=.int .i64 i/\i+k=ks.length/\K.St D wr (outer++cur) bk wh inn fl rc/\(By K.fns (Cd i c) outer cur wh inn fl).2=(By K.fns c outer cur wh inn f).2/\A3 D w wr)
 case atStart=>exact⟨0,f,rfl,by omega,HSt0.o,rfl,A3.refl _ _⟩
 case round=>
  clear HSt0;obtain⟨i,fl,rfl,hik,hst,hse,hbel⟩:=hrel;have HSt:=A0 hst;have HSe:=A0 hse;have HBel:=A0 hbel;clear hst hse hbel;by_cases hlt:i<ks.length
  ·have hr:=HRep.o.Bv HBel.o;obtain⟨x,y,l,cc,r,hd,v,ks',hv,hn,hrk⟩:=Ao.at' i c ks hr z5na;obtain⟨g,rfl,_,hcap,lg,hcell⟩:=G2 (HOwn.o.Bv HBel.o).1 z51a;have d0:=hcell i v hv;have hE:=A0 (hok.at' i c x y l cc r hd);have D5:Wf 0 (nd l cc):=by have:=Wf.drop 0 i c hwf;rw[hd]at this;exact this.Qh
   have Al:=sens_xy' K.fns x y l cc r outer cur wh inn fl;rw[Kj K.fns _ D5]at Al;have HNx:Hid ((By K.fns (Cd (i+1) c) outer cur wh inn (By K.fns (nd l cc) outer cur wh inn fl).2).2=(By K.fns c outer cur wh inn f).2):=by
    show _=_;rw[Oc i c x y l cc r hd,<-HSe.o,hd,Al]
   have HC:=A0 (hE.out D wr outer cur bk wh inn fl rc v ks' HSt.o hn hrk);clear hr hd hv hn hrk hcell D5 Al;go_wp2_with fail
   refine HC.o.mono ?_;rintro e w1 ⟨rfl,Al,A1⟩;have A7:=A0 Al;have A4:Hid (A3 D w w1):=HBel.o.trans A1;clear Al A1;go_wp2;go_roundg (gk-1)
   case measure=>omega
   case rel=>exact⟨i+1,_,rfl,by omega,A7.o,HNx.o,A4.o⟩
  ·have HE:Hid (fl=(By K.fns c outer cur wh inn f).2):=by
    exact z0sa
   exact z2wa
end
end Go.Proofs.YtjdlndhfaaolaaaGreatDoor
