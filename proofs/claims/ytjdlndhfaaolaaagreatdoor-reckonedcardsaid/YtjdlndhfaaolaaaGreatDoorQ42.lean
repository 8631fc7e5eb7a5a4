import Derived.Test.YtjdlndhfaaolaaaGreatDoorQ39
set_option maxHeartbeats 20000000
namespace Go.Proofs.YtjdlndhfaaolaaaGreatDoor
section
set_option maxRecDepth 100000
open Go.RowKit
open Go.Deep (BT)
variable {b o:Nat}{w:World}{cs:Array Value}{t:TypeId}{va:Option Addr}{vn vc:Nat}{xs:List Kn}
theorem Vh:(Tryz.prog.info? 407).map (fun i=>(i.zero,i.size,i.bytes))=some (some (.agg #[.bool false,.bool false,.int .i64 0,.bool false,.int .i64 0,.string ⟨#[]⟩,.pointer none]),7,56):=by kernel_rfl
theorem Qs(h:Dc 407 7 Ei b o w cs t va vn vc xs):Calls Tryz.prog 305 #[.pointer (some ⟨b,o,none⟩)] w fun e w'=>e=.returned (.int .i64 (xs.length:Nat))/\w'=w:=by
 have c:=Di h.blk h.cell;have lb:=A4 h.blk;have hv:vn=xs.length:=(C8 h.own).1;subst hv;clear h;go_enter Tryz.func305,Tryz.ntmps305;go_wp2;go_ret;exact⟨rfl,rfl⟩
theorem A4j(h:Dc 407 7 Ei b o w cs t va vn vc xs)(i:Nat)(hi:i<xs.length)(hb:xs.length<=1000000):Calls Tryz.prog 318 #[.pointer (some ⟨b,o,none⟩),.int .i64 (i:Nat)] w fun e w'=>e=.returned (.agg #[.bool (xs[i]).kind,.bool (xs[i]).whole,.int .i64 ((xs[i]).like.k:Nat),.bool (xs[i]).like.y,.int .i64 (xs[i]).like.n,.string ⟨(xs[i]).like.t.toArray⟩,.pointer none])/\Below w.heap.size w w':=by
 have c:=Di h.blk h.cell;have lb:=A4 h.blk;have hv:vn=xs.length:=(C8 h.own).1;subst hv;obtain⟨g,rfl,hvn9,hcap,lg,hcell⟩:=Gj h.own (by omega);clear hvn9;have d0:=hcell (i*7+0) _ ((Cv (sz:=7) (fun _=>rfl) xs i 0 hi (by omega)).trans rfl);have d1:=hcell (i*7+1) _ ((Cv (sz:=7) (fun _=>rfl) xs i 1 hi (by omega)).trans rfl);have d2:=hcell (i*7+2) _ ((Cv (sz:=7) (fun _=>rfl) xs i 2 hi (by omega)).trans rfl);have d3:=hcell (i*7+3) _ ((Cv (sz:=7) (fun _=>rfl) xs i 3 hi (by omega)).trans rfl);have d4:=hcell (i*7+4) _ ((Cv (sz:=7) (fun _=>rfl) xs i 4 hi (by omega)).trans rfl);have d5:=hcell (i*7+5) _ ((Cv (sz:=7) (fun _=>rfl) xs i 5 hi (by omega)).trans rfl);have d6:=hcell (i*7+6) _ ((Cv (sz:=7) (fun _=>rfl) xs i 6 hi (by omega)).trans rfl);rw[Nat.add_zero]at d0;clear h hcell;generalize xs[i]=x at *;go_enter Tryz.func318,Tryz.ntmps318;go_wp2;refine bodyPost_ret (v:=.agg #[.bool x.kind,.bool x.whole,.int .i64 (x.like.k:Nat),.bool x.like.y,.int .i64 x.like.n,.string ⟨x.like.t.toArray⟩,.pointer none]) (by simp[results,Tryz.results318,go_sem]) rfl ⟨rfl,?_⟩;exact Below.alloc (Below.refl _ _) (Nat.le_refl _) _
theorem A10(h:Dc 407 7 Ei b o w cs t va vn vc xs)(i:Int)(hi:i<0\/(xs.length:Int)<=i):Calls Tryz.prog 318 #[.pointer (some ⟨b,o,none⟩),.int .i64 i] w fun e w'=>e=.returned (.agg #[.bool false,.bool false,.int .i64 0,.bool false,.int .i64 0,.string ⟨#[]⟩,.pointer none])/\Below w.heap.size w w':=by
 have c:=Di h.blk h.cell;have lb:=A4 h.blk;have hv:vn=xs.length:=(C8 h.own).1;subst hv;clear h;by_cases h0:i<0
 ·clear hi;go_enter Tryz.func318,Tryz.ntmps318;go_wp2;refine bodyPost_ret (v:=.agg #[.bool false,.bool false,.int .i64 0,.bool false,.int .i64 0,.string ⟨#[]⟩,.pointer none]) (by simp[results,Tryz.results318,go_sem]) rfl ⟨rfl,?_⟩;repeat (first|exact Below.refl _ _|refine Below.alloc ?_ (by simp) _|refine Below.setCell ?_ (by simp) _|refine Below.drew ?_)
 ·have h1:(xs.length:Int)<=i:=by omega
  clear hi;go_enter Tryz.func318,Tryz.ntmps318;go_wp2;refine bodyPost_ret (v:=.agg #[.bool false,.bool false,.int .i64 0,.bool false,.int .i64 0,.string ⟨#[]⟩,.pointer none]) (by simp[results,Tryz.results318,go_sem]) rfl ⟨rfl,?_⟩;repeat (first|exact Below.refl _ _|refine Below.alloc ?_ (by simp) _|refine Below.setCell ?_ (by simp) _|refine Below.drew ?_)
theorem Ot(h:Dc 407 7 Ei b o w cs t va vn vc xs)(i:Int)(hb:xs.length<=1000000)(x:Kn)(hx:x=if i<0 then Ds else(xs[i.toNat]?).getD Ds):Calls Tryz.prog 318 #[.pointer (some ⟨b,o,none⟩),.int .i64 i] w fun e w'=>e=.returned (.agg #[.bool x.kind,.bool x.whole,.int .i64 (x.like.k:Nat),.bool x.like.y,.int .i64 x.like.n,.string ⟨x.like.t.toArray⟩,.pointer none])/\Below w.heap.size w w':=by
 by_cases h0:i<0
 ·rw[if_pos h0]at hx;subst hx;exact A10 h i (.inl h0)
 ·rw[if_neg h0]at hx;by_cases h1:i.toNat<xs.length
  ·rw[List.getElem?_eq_getElem h1]at hx;have:=A4j h i.toNat h1 hb;rw[show((i.toNat:Nat):Int)=i by omega]at this;rw[hx];exact this
  ·rw[List.getElem?_eq_none (by omega)]at hx;subst hx;exact A10 h i (.inr (by omega))
theorem Ac3(h:Dc 407 7 Ei b o w cs t va vn vc xs)(hn:xs.length<=900000)(u:Kn)(ho:o<cs.size):Calls Tryz.prog 307 #[.pointer (some ⟨b,o,none⟩),.agg #[.bool u.kind,.bool u.whole,.int .i64 (u.like.k:Nat),.bool u.like.y,.int .i64 u.like.n,.string ⟨u.like.t.toArray⟩,.pointer none]] w fun e w'=>e=.returned (.tuple #[])/\We 407 7 Ei b o w cs t va vn vc xs u w':=by
 have Gy:Dc 407 7 Ei b o (w.alloc (.cells #[.bool u.kind,.bool u.whole,.int .i64 (u.like.k:Nat),.bool u.like.y,.int .i64 u.like.n,.string ⟨u.like.t.toArray⟩,.pointer none] 407)) cs t va vn vc xs:=h.keep (fun g hg=>Below.heap_alloc _ _ _ hg);have Bi:Below w.heap.size w (w.alloc (.cells #[.bool u.kind,.bool u.whole,.int .i64 (u.like.k:Nat),.bool u.like.y,.int .i64 u.like.n,.string ⟨u.like.t.toArray⟩,.pointer none] 407)):=Below.alloc (Below.refl _ _) (Nat.le_refl _) _;have F3:=heap_alloc_new w (.cells #[.bool u.kind,.bool u.whole,.int .i64 (u.like.k:Nat),.bool u.like.y,.int .i64 u.like.n,.string ⟨u.like.t.toArray⟩,.pointer none] 407);have hlr:=Bs h.own;clear h;generalize hW:w.alloc (.cells #[.bool u.kind,.bool u.whole,.int .i64 (u.like.k:Nat),.bool u.like.y,.int .i64 u.like.n,.string ⟨u.like.t.toArray⟩,.pointer none] 407)=w0 at *;generalize hxb:w.heap.size=xb at *;have HW:=A0 hW;have HXb:=A0 hxb;have Ae:=A0 Bi;have hsz0:=Bi.size;clear hW Bi;have c:=Di Gy.blk Gy.cell;have lb:=A4 Gy.blk;have hv:vn=xs.length:=(C8 Gy.own).1;subst hv;have x0:=A2 F3 0 _ rfl;have x1:=A2 F3 1 _ rfl;have x2:=A2 F3 2 _ rfl;have x3:=A2 F3 3 _ rfl;have x4:=A2 F3 4 _ rfl;have x5:=A2 F3 5 _ rfl;have x6:=A2 F3 6 _ rfl;have lx:=A4 F3;have hown:w0.drew.ownsRow 0 407 7 (.slice va xs.length vc) xs.length (C6 Ei xs):=B3 Gy.own (fun _ _ _=>rfl);have HH:=A0 Gy;have HNe:=A0 Gy.ne;have HLr:=A0 hlr;clear Gy F3 hxb hlr;go_enter Tryz.func307,Tryz.ntmps307;go_wp2;rw[HW.o,HXb.o];go_region_law (refine Mr _ w0.heap.size #[.bool u.kind,.bool u.whole,.int .i64 (u.like.k:Nat),.bool u.like.y,.int .i64 u.like.n,.string ⟨u.like.t.toArray⟩,.pointer none] 407 (heap_alloc_new w0.drew _) rfl (.tmp 8) (.tmp 10) 379 rfl 0 7 56 _ Tryz.underlying379 Vh rfl (by omega) (.slice va xs.length vc) xs.length (C6 Ei xs) rfl rfl (hown.alloc _) rfl (fun v hv=>by simp at hv;rcases hv with rfl|rfl|rfl|rfl|rfl|rfl|rfl <;> rfl) (by omega) (by omega) (Nat.zero_le _) ?_;intro g cap w1 F1 hgrow' hat' hg;have Fw:=Lx (World.grownBy_alloc w0.drew _ none) hgrow';have hgrow:w0.grownBy w1 (Value.slice va xs.length vc).ownBlock:=⟨Fw.os,Fw.tape,Fw.output,Fw.size,Fw.block⟩;clear Fw;have hat:(Value.slice va xs.length vc).ownBlock=some g\/w0.heap.size<=g:=hat'.imp id (fun e=>by rw[e];simp);have A1:=(hgrow.block b lb (fun e=>HNe.o e.symm)).trans HH.o.blk;have c1:=Di A1 HH.o.cell;have f1:=Bd A1;have Bt:=A4 A1;have A5:=A0 A1;have HOwn1:=A0 F1;have HGrow:=A0 hgrow;have HAt:=A0 hat;clear A1 F1 hgrow hat hgrow' hat')
 all_goals go_wp2
 all_goals go_end0
 all_goals
  have hgb:g≠b:=by
   rcases HAt.o with e|e
   ·intro e2;rw[e2]at e;exact HNe.o e
   ·omega
  refine⟨rfl,g,cap,⟨heap_set A5.o _,?_,?_,by simp only[Value.ownBlock,ne_eq,Option.some.injEq];exact hgb⟩,HAt.o.imp id (fun e=>by omega),⟨HGrow.o.os.trans Ae.o.os,HGrow.o.tape.trans Ae.o.tape,HGrow.o.output.trans Ae.o.output,by have:=HGrow.o.size;have:=HXb.o;simp[World.setCell];omega,fun k hk hkb hkr=>?_⟩⟩
  ·rw[Array.getElem?_setIfInBounds,if_pos rfl,if_pos ho]
  ·rw[List.length_append,Qq,Qa];exact B3 HOwn1.o (fun k hk _=>Below.heap_setCell _ _ _ _ (by simp only[Value.ownBlock,Option.some.injEq]at hk;show k≠b;omega))
  ·have hkx:=HXb.o;exact((Below.heap_setCell _ _ _ _ (by exact hkb)).trans (HGrow.o.block k (by omega) (fun e=>hkr e.symm))).trans (Ae.o.block k (by omega))
theorem Aao(h:Dc 407 7 Ei b o w cs t va vn vc xs)(m:Nat)(hm:m<=xs.length)(ho:o<cs.size):Calls Tryz.prog 304 #[.pointer (some ⟨b,o,none⟩),.int .i64 (m:Nat)] w fun e w'=>e=.returned (.tuple #[])/\Jl 407 7 Ei b o w cs t va vn vc xs m w':=by
 have c:=Di h.blk h.cell;have lb:=A4 h.blk;have hv:vn=xs.length:=(C8 h.own).1;subst hv;have fz:=Bd h.blk;have HH:=A0 h;have HNe:=A0 h.ne;by_cases he:m=xs.length
 ·subst he;clear h;go_enter Tryz.func304,Tryz.ntmps304;go_wp2;refine bodyPost_ret (v:=.tuple #[]) (by simp[results,Tryz.results304,go_sem]) rfl ⟨rfl,?_,Fm.refl _ _ _⟩;rw[N9 HH.o.cell,List.take_length];exact HH.o
 ·obtain⟨hl,⟨h2,h3⟩|⟨g,cap,cur,hv,_,hg,hcap',hmx,hsz,ht⟩⟩:=h.own
  ·omega
  ·injection hv with e1 e2 e3;subst e1 e3;have hgb:g≠b:=fun e=>h.ne (by rw[←e];rfl);have fg:=Bd hg;have lg:=A4 hg;have hzs:(.agg #[.bool false,.bool false,.int .i64 0,.bool false,.int .i64 0,.string ⟨#[]⟩,.pointer none]:Value).cells.size=7:=rfl;have hmul:m*7+(xs.length-m)*7=xs.length*7:=by omega
   have hcs:∀j,j<(xs.length-m)*(.agg #[.bool false,.bool false,.int .i64 0,.bool false,.int .i64 0,.string ⟨#[]⟩,.pointer none]:Value).cells.size->(w.cell? ⟨g,m*7+j,none⟩).isSome=true:=by
    intro j hj;rw[hzs]at hj;rw[cell_of_row w g (m*7+j) cur _ _ hg,Array.getElem?_eq_getElem (by omega)];rfl
   have hcl:∀ty,(Builtin.clear_ #[379] ty #[.slice (some ⟨g,m*7,none⟩) (xs.length-m) (vc-m)]).run Tryz.prog w=.ok (.tuple #[]) (w.setCells g (m*7) (Builtin.zeroCells (.agg #[.bool false,.bool false,.int .i64 0,.bool false,.int .i64 0,.string ⟨#[]⟩,.pointer none]:Value).cells (xs.length-m)).toList):=
    fun ty=>Uw w 379 407 ty (.agg #[.bool false,.bool false,.int .i64 0,.bool false,.int .i64 0,.string ⟨#[]⟩,.pointer none]) Tryz.underlying379 Tryz.zeroValue407 (by rw[hzs];omega) (fun v hv=>by simp[Value.cells]at hv;rcases hv with rfl|rfl|rfl|rfl|rfl|rfl|rfl <;> rfl) g (m*7) (xs.length-m) (vc-m) (by omega) hcs (fun j hj=>fg _)
   obtain⟨cur',k1,k2,k3⟩:=Of g 407 (0,0) (Builtin.zeroCells (.agg #[.bool false,.bool false,.int .i64 0,.bool false,.int .i64 0,.string ⟨#[]⟩,.pointer none]:Value).cells (xs.length-m)).toList (m*7) cur w hg;obtain⟨f1,f2,f3,f4,f5⟩:=Lm g (Builtin.zeroCells (.agg #[.bool false,.bool false,.int .i64 0,.bool false,.int .i64 0,.string ⟨#[]⟩,.pointer none]:Value).cells (xs.length-m)).toList (m*7) w;have A1:=(f5 b (fun e=>hgb e.symm)).trans h.blk;have Ht:=A0 k1;have HK3:=A0 (k3 (m*7) (Nat.le_refl _));have HF:=A0 (And.intro f1 (And.intro f2 (And.intro f3 (And.intro f4 f5))));have HT:=A0 ht;have HSz:=A0 (k2.trans hsz);have hlen9:=hcap';clear h hcs hg ht k1 k2 k3 f1 f2 f3 f5 hl hsz hzs hmul;have c1:=Di A1 HH.o.cell;have g1:=Bd A1;have Bt:=A4 A1;have A5:=A0 A1;clear A1 f4;generalize w.setCells g (m*7) (Builtin.zeroCells (.agg #[.bool false,.bool false,.int .i64 0,.bool false,.int .i64 0,.string ⟨#[]⟩,.pointer none]:Value).cells (xs.length-m)).toList=w1 at *;go_enter Tryz.func304,Tryz.ntmps304;go_wp2;go_end0;obtain⟨p1,p2,p3,p4,p5⟩:=HF.o;have hset:∀k,k≠b->(w1.setCell ⟨b,o,none⟩ (.slice (some ⟨g,0,none⟩) m vc)).heap[k]?=w1.heap[k]?:=fun k hk=>Below.heap_setCell _ _ _ _ (by exact hk);refine⟨rfl,⟨heap_set A5.o _,?_,⟨?_,.inr ⟨g,vc,cur',?_,Nat.zero_le _,(hset g hgb).trans Ht.o,?_,hmx,HSz.o,?_⟩⟩,?_⟩,⟨p1,p2,p3,by simp[World.setCell];omega,fun k hk hkb hkr=>?_⟩⟩
   ·rw[Array.getElem?_setIfInBounds,if_pos rfl,if_pos ho]
   ·exact L7 (f:=Ei) (sz:=7) (fun _=>rfl) _
   ·rw[List.length_take,Nat.min_eq_left hm]
   ·rw[List.length_take,Nat.min_eq_left hm];omega
   ·rw[List.length_take,Nat.min_eq_left hm,HK3.o,←Us (sz:=7) (fun _=>rfl),←HT.o,List.take_take,Nat.min_eq_left (by omega)]
   ·simp only[Value.ownBlock,ne_eq,Option.some.injEq];exact hgb
   ·exact(hset k hkb).trans (p5 k (fun e=>hkr (by rw[e];rfl)))
theorem A89(h:Dc 407 7 Ei b o w cs t va vn vc xs)(i:Int)(hi:i<0):Calls Tryz.prog 304 #[.pointer (some ⟨b,o,none⟩),.int .i64 i] w fun e w'=>e=.returned (.tuple #[])/\w'=w:=by
 have c:=Di h.blk h.cell;have lb:=A4 h.blk;have hv:vn=xs.length:=(C8 h.own).1;subst hv;clear h;go_enter Tryz.func304,Tryz.ntmps304;go_wp2;refine bodyPost_ret (v:=.tuple #[]) (by simp[results,Tryz.results304,go_sem]) rfl ⟨rfl,rfl⟩
theorem Alq(h:Dc 407 7 Ei b o w cs t va vn vc xs)(i:Int)(hi:(xs.length:Int)<=i):Calls Tryz.prog 304 #[.pointer (some ⟨b,o,none⟩),.int .i64 i] w fun e w'=>e=.returned (.tuple #[])/\w'=w:=by
 have c:=Di h.blk h.cell;have lb:=A4 h.blk;have hv:vn=xs.length:=(C8 h.own).1;subst hv;clear h;have h0:¬i<0:=by omega
 go_enter Tryz.func304,Tryz.ntmps304;go_wp2;refine bodyPost_ret (v:=.tuple #[]) (by simp[results,Tryz.results304,go_sem]) rfl ⟨rfl,rfl⟩
end
section
set_option maxRecDepth 100000
open Go.RowKit
open Go.Deep (BT)
def B5(x:Kn):Value:=.agg #[.bool x.kind,.bool x.whole,.int .i64 (x.like.k:Nat),.bool x.like.y,.int .i64 x.like.n,.string ⟨x.like.t.toArray⟩,.pointer none]
theorem Lw(k:Nat)(w:World):Calls Tryz.prog 289 #[.int .i64 (k:Nat)] w fun e w'=>e=.returned (B5 (D4 k))/\Below w.heap.size w w':=by
 go_enter Tryz.func289,Tryz.ntmps289;go_wp2;refine bodyPost_ret (v:=.agg #[.bool true,.bool false,.int .i64 (k:Nat),.bool false,.int .i64 0,.string ⟨#[]⟩,.pointer none]) (by simp[results,Tryz.results289,go_sem]) rfl ⟨rfl,?_⟩;repeat (first|exact Below.refl _ _|refine Below.alloc ?_ (by simp) _|refine Below.setCell ?_ (by simp) _|refine Below.drew ?_)
theorem Wl(v:PV)(w:World):Calls Tryz.prog 290 #[.agg #[.int .i64 (v.k:Nat),.bool v.y,.int .i64 v.n,.string ⟨v.t.toArray⟩,.pointer none]] w fun e w'=>e=.returned (B5 (I0 v))/\Below w.heap.size w w':=by
 go_enter Tryz.func290,Tryz.ntmps290;go_wp2;refine bodyPost_ret (v:=.agg #[.bool true,.bool true,.int .i64 (v.k:Nat),.bool v.y,.int .i64 v.n,.string ⟨v.t.toArray⟩,.pointer none]) (by simp[results,Tryz.results290,go_sem]) rfl ⟨rfl,?_⟩;repeat (first|exact Below.refl _ _|refine Below.alloc ?_ (by simp) _|refine Below.setCell ?_ (by simp) _|refine Below.drew ?_)
theorem cast_eq(a b:Nat):(((a:Nat):Int)==((b:Nat):Int))=(a==b):=by
 by_cases h:a=b
 ·rw[h];simp
 ·have h1:(a==b)=false:=by simp[h]
  rw[h1,beq_eq_false_iff_ne];omega
theorem Ls(x:Kn)(kd:Nat)(w:World):Calls Tryz.prog 301 #[B5 x,.int .i64 (kd:Nat)] w fun e w'=>e=.returned (.bool (x.sure kd))/\Below w.heap.size w w':=by
 have hq:=cast_eq x.like.k kd;unfold Kn.sure B5;generalize (x.like.k==kd)=q at *;cases hk:x.kind
 ·go_enter Tryz.func301,Tryz.ntmps301;go_wp2;go_ret;refine⟨rfl,?_⟩;repeat (first|exact Below.refl _ _|refine Below.alloc ?_ (by simp) _|refine Below.setCell ?_ (by simp) _|refine Below.drew ?_)
 ·go_enter Tryz.func301,Tryz.ntmps301;go_wp2;go_ret;refine⟨rfl,?_⟩;repeat (first|exact Below.refl _ _|refine Below.alloc ?_ (by simp) _|refine Below.setCell ?_ (by simp) _|refine Below.drew ?_)
theorem Agx{n:Nat}(w:World)(sa:Option Addr)(sc:Nat)(i:Nat)(hi:n<=i):Calls Tryz.prog 291 #[.slice sa n sc,.int .i64 (i:Nat)] w fun e w'=>e=.returned (.int .i64 0)/\w'=w:=by
 have t0:decide (((n:Nat):Int)<=((i:Nat):Int))=true:=by rw[decide_eq_true_eq];omega
 go_enter Tryz.func291,Tryz.ntmps291;go_wp2;go_ret;exact⟨rfl,rfl⟩
theorem Aeo(w:World)(g o n sc:Nat)(i:Nat)(x:Int)(hi:i<n)(hc:w.cell? ⟨g,o+i,none⟩=some (.int .i64 x)):Calls Tryz.prog 291 #[.slice (some ⟨g,o,none⟩) n sc,.int .i64 (i:Nat)] w fun e w'=>e=.returned (.int .i64 x)/\w'=w:=by
 have t0:¬((n:Nat):Int)<=((i:Nat):Int):=by omega
 go_enter Tryz.func291,Tryz.ntmps291;go_wp2;go_ret;exact⟨rfl,rfl⟩
theorem Qy(o:Nat)(w:World):Calls Tryz.prog 302 #[.int .i64 (o:Nat)] w fun e w'=>e=.returned (.int .i64 (Gb o:Nat))/\w'=w:=by
 by_cases h12:o=12
 ·have e:Gb o=13:=by rw[h12];rfl
  rw[e,h12];go_enter Tryz.func302,Tryz.ntmps302;go_wp2;go_ret;exact⟨rfl,rfl⟩
 by_cases h15:o=15
 ·have e:Gb o=16:=by rw[h15];rfl
  rw[e,h15];go_enter Tryz.func302,Tryz.ntmps302;go_wp2;go_ret;exact⟨rfl,rfl⟩
 by_cases h17:o=17
 ·have e:Gb o=18:=by rw[h17];rfl
  rw[e,h17];go_enter Tryz.func302,Tryz.ntmps302;go_wp2;go_ret;exact⟨rfl,rfl⟩
 by_cases h19:o=19
 ·have e:Gb o=20:=by rw[h19];rfl
  rw[e,h19];go_enter Tryz.func302,Tryz.ntmps302;go_wp2;go_ret;exact⟨rfl,rfl⟩
 by_cases h21:o=21
 ·have e:Gb o=22:=by rw[h21];rfl
  rw[e,h21];go_enter Tryz.func302,Tryz.ntmps302;go_wp2;go_ret;exact⟨rfl,rfl⟩
 by_cases h28:o=28
 ·have e:Gb o=32:=by rw[h28];rfl
  rw[e,h28];go_enter Tryz.func302,Tryz.ntmps302;go_wp2;go_ret;exact⟨rfl,rfl⟩
 by_cases h29:o=29
 ·have e:Gb o=33:=by rw[h29];rfl
  rw[e,h29];go_enter Tryz.func302,Tryz.ntmps302;go_wp2;go_ret;exact⟨rfl,rfl⟩
 by_cases h30:o=30
 ·have e:Gb o=34:=by rw[h30];rfl
  rw[e,h30];go_enter Tryz.func302,Tryz.ntmps302;go_wp2;go_ret;exact⟨rfl,rfl⟩
 by_cases h31:o=31
 ·have e:Gb o=35:=by rw[h31];rfl
  rw[e,h31];go_enter Tryz.func302,Tryz.ntmps302;go_wp2;go_ret;exact⟨rfl,rfl⟩
 have e:Gb o=o:=by unfold Gb;simp only[if_neg h12,if_neg h15,if_neg h17,if_neg h19,if_neg h21,if_neg h28,if_neg h29,if_neg h30,if_neg h31]
 rw[e];have t12:(((o:Nat):Int)==12)=false:=by rw[beq_eq_false_iff_ne];omega
 have t15:(((o:Nat):Int)==15)=false:=by rw[beq_eq_false_iff_ne];omega
 have t17:(((o:Nat):Int)==17)=false:=by rw[beq_eq_false_iff_ne];omega
 have t19:(((o:Nat):Int)==19)=false:=by rw[beq_eq_false_iff_ne];omega
 have t21:(((o:Nat):Int)==21)=false:=by rw[beq_eq_false_iff_ne];omega
 have t28:(((o:Nat):Int)==28)=false:=by rw[beq_eq_false_iff_ne];omega
 have t29:(((o:Nat):Int)==29)=false:=by rw[beq_eq_false_iff_ne];omega
 have t30:(((o:Nat):Int)==30)=false:=by rw[beq_eq_false_iff_ne];omega
 have t31:(((o:Nat):Int)==31)=false:=by rw[beq_eq_false_iff_ne];omega
 clear e h12 h15 h17 h19 h21 h28 h29 h30 h31;go_enter Tryz.func302,Tryz.ntmps302;go_wp2;go_ret;exact⟨rfl,rfl⟩
theorem P6(β:Nat->Nat)(v:PV)(d:Nat)(w:World):(Op.equalIn (d+1) 223 (.pointer (Ca β v)) (.pointer none)).run Tryz.prog w=.ok (v.r==none) w:=by
 have hp:Tryz.prog.underlying 223=some (.pointer 356):=by kernel_rfl
 unfold Ca;cases hr:v.r with
 | none=>simp[Op.equalIn,run_underlying hp]
 | some y=>simp[Op.equalIn,run_underlying hp]
theorem Ab2(x:Kn)(v:PV)(β:Nat->Nat)(w:World)(hw:x.whole=true)(hk:(v.k==x.like.k)=true)(hy:(v.y==x.like.y)=true)(hn:(v.n==x.like.n)=true)(ht:(v.t==x.like.t)=true)(hr:(v.r==none)=true):Calls Tryz.prog 294 #[B5 x,Bg β v] w fun e w'=>e=.returned (.bool true)/\Below w.heap.size w w':=by
 have tk:((v.k:Int)==(x.like.k:Int))=(v.k==x.like.k):=cast_eq _ _;rw[hk]at tk;clear hk;have ht2:=Vk v.t x.like.t;rw[ht]at ht2;have hqe:=fun(W:World)=>P6 β v 9998 W;rw[hr]at hqe;unfold B5 Bg;go_enter Tryz.func294,Tryz.ntmps294;go_wp2;go_ret;refine⟨rfl,?_⟩;repeat (first|exact Below.refl _ _|refine Below.alloc ?_ (by simp) _|refine Below.setCell ?_ (by simp) _|refine Below.drew ?_)
theorem Adl(x:Kn)(v:PV)(β:Nat->Nat)(w:World)(hw:x.whole=true)(hk:(v.k==x.like.k)=false):Calls Tryz.prog 294 #[B5 x,Bg β v] w fun e w'=>e=.returned (.bool false)/\Below w.heap.size w w':=by
 have tk:((v.k:Int)==(x.like.k:Int))=(v.k==x.like.k):=cast_eq _ _;rw[hk]at tk;clear hk;have hqe:=fun(W:World)=>P6 β v 9998 W;unfold B5 Bg;go_enter Tryz.func294,Tryz.ntmps294;go_wp2;go_ret;refine⟨rfl,?_⟩;repeat (first|exact Below.refl _ _|refine Below.alloc ?_ (by simp) _|refine Below.setCell ?_ (by simp) _|refine Below.drew ?_)
theorem Ajw(x:Kn)(v:PV)(β:Nat->Nat)(w:World)(hw:x.whole=true)(hk:(v.k==x.like.k)=true)(hy:(v.y==x.like.y)=false):Calls Tryz.prog 294 #[B5 x,Bg β v] w fun e w'=>e=.returned (.bool false)/\Below w.heap.size w w':=by
 have tk:((v.k:Int)==(x.like.k:Int))=(v.k==x.like.k):=cast_eq _ _;rw[hk]at tk;clear hk;have hqe:=fun(W:World)=>P6 β v 9998 W;unfold B5 Bg;go_enter Tryz.func294,Tryz.ntmps294;go_wp2;go_ret;refine⟨rfl,?_⟩;repeat (first|exact Below.refl _ _|refine Below.alloc ?_ (by simp) _|refine Below.setCell ?_ (by simp) _|refine Below.drew ?_)
theorem Ae0(x:Kn)(v:PV)(β:Nat->Nat)(w:World)(hw:x.whole=true)(hk:(v.k==x.like.k)=true)(hy:(v.y==x.like.y)=true)(hn:(v.n==x.like.n)=false):Calls Tryz.prog 294 #[B5 x,Bg β v] w fun e w'=>e=.returned (.bool false)/\Below w.heap.size w w':=by
 have tk:((v.k:Int)==(x.like.k:Int))=(v.k==x.like.k):=cast_eq _ _;rw[hk]at tk;clear hk;have hqe:=fun(W:World)=>P6 β v 9998 W;unfold B5 Bg;go_enter Tryz.func294,Tryz.ntmps294;go_wp2;go_ret;refine⟨rfl,?_⟩;repeat (first|exact Below.refl _ _|refine Below.alloc ?_ (by simp) _|refine Below.setCell ?_ (by simp) _|refine Below.drew ?_)
theorem A61(x:Kn)(v:PV)(β:Nat->Nat)(w:World)(hw:x.whole=true)(hk:(v.k==x.like.k)=true)(hy:(v.y==x.like.y)=true)(hn:(v.n==x.like.n)=true)(ht:(v.t==x.like.t)=false):Calls Tryz.prog 294 #[B5 x,Bg β v] w fun e w'=>e=.returned (.bool false)/\Below w.heap.size w w':=by
 have tk:((v.k:Int)==(x.like.k:Int))=(v.k==x.like.k):=cast_eq _ _;rw[hk]at tk;clear hk;have ht2:=Vk v.t x.like.t;rw[ht]at ht2;have hqe:=fun(W:World)=>P6 β v 9998 W;unfold B5 Bg;go_enter Tryz.func294,Tryz.ntmps294;go_wp2;go_ret;refine⟨rfl,?_⟩;repeat (first|exact Below.refl _ _|refine Below.alloc ?_ (by simp) _|refine Below.setCell ?_ (by simp) _|refine Below.drew ?_)
theorem Ah7(x:Kn)(v:PV)(β:Nat->Nat)(w:World)(hw:x.whole=true)(hk:(v.k==x.like.k)=true)(hy:(v.y==x.like.y)=true)(hn:(v.n==x.like.n)=true)(ht:(v.t==x.like.t)=true)(hr:(v.r==none)=false):Calls Tryz.prog 294 #[B5 x,Bg β v] w fun e w'=>e=.returned (.bool false)/\Below w.heap.size w w':=by
 have tk:((v.k:Int)==(x.like.k:Int))=(v.k==x.like.k):=cast_eq _ _;rw[hk]at tk;clear hk;have ht2:=Vk v.t x.like.t;rw[ht]at ht2;have hqe:=fun(W:World)=>P6 β v 9998 W;rw[hr]at hqe;unfold B5 Bg;go_enter Tryz.func294,Tryz.ntmps294;go_wp2;go_ret;refine⟨rfl,?_⟩;repeat (first|exact Below.refl _ _|refine Below.alloc ?_ (by simp) _|refine Below.setCell ?_ (by simp) _|refine Below.drew ?_)
theorem A8w(x:Kn)(v:PV)(β:Nat->Nat)(w:World)(hw:x.whole=false):Calls Tryz.prog 294 #[B5 x,Bg β v] w fun e w'=>e=.returned (.bool (!x.kind||v.k==x.like.k))/\Below w.heap.size w w':=by
 have hq:=cast_eq v.k x.like.k;generalize (v.k==x.like.k)=q at *;unfold B5 Bg;cases hk:x.kind
 ·go_enter Tryz.func294,Tryz.ntmps294;go_wp2;go_ret;refine⟨rfl,?_⟩;repeat (first|exact Below.refl _ _|refine Below.alloc ?_ (by simp) _|refine Below.setCell ?_ (by simp) _|refine Below.drew ?_)
 ·go_enter Tryz.func294,Tryz.ntmps294;go_wp2;go_ret;refine⟨rfl,?_⟩;repeat (first|exact Below.refl _ _|refine Below.alloc ?_ (by simp) _|refine Below.setCell ?_ (by simp) _|refine Below.drew ?_)
theorem Abx(x:Kn)(hx:x.like.r=none)(v:PV)(β:Nat->Nat)(w:World):Calls Tryz.prog 294 #[B5 x,Bg β v] w fun e w'=>e=.returned (.bool (x.is v))/\Below w.heap.size w w':=by
 unfold Kn.is;cases hw:x.whole
 ·exact A8w x v β w hw
 ·simp only[if_true];unfold PV.same;rw[hx];cases hk:(v.k==x.like.k)
  ·simp only[Bool.false_and];exact Adl x v β w hw hk
  cases hy:(v.y==x.like.y)
  ·simp only[Bool.true_and,Bool.false_and];exact Ajw x v β w hw hk hy
  cases hn:(v.n==x.like.n)
  ·simp only[Bool.true_and,Bool.false_and];exact Ae0 x v β w hw hk hy hn
  cases ht:(v.t==x.like.t)
  ·simp only[Bool.true_and,Bool.false_and];exact A61 x v β w hw hk hy hn ht
  cases hr:(v.r==none)
  ·simp only[Bool.true_and];exact Ah7 x v β w hw hk hy hn ht hr
  ·simp only[Bool.true_and];exact Ab2 x v β w hw hk hy hn ht hr
theorem A6d{w:World}{fb:Nat}{sl st:Value}{n:Nat}{ka:Option Addr}{kc:Nat}(h:w.heap[fb]?=some (.cells #[sl,st,.slice ka n kc] 381 (0,0))):Calls Tryz.prog 278 #[.pointer (some ⟨fb,0,none⟩)] w fun e w'=>e=.returned (.int .i64 (n:Nat))/\w'=w:=by
 have c2:=A2 h 2 _ rfl;have lb:=A4 h;clear h;go_enter Tryz.func278,Tryz.ntmps278;go_wp2;go_ret;exact⟨rfl,rfl⟩
theorem A70{w:World}{fb:Nat}{sl st:Value}{n:Nat}{ka:Option Addr}{kc:Nat}{ks:List Kn}(h:w.heap[fb]?=some (.cells #[sl,st,.slice ka n kc] 381 (0,0)))(ho:w.ownsRow 0 407 7 (.slice ka n kc) ks.length (C6 Ei ks))(hk:∀x∈ks,x.like.r=none)(i:Nat)(hi:i<ks.length)(hl:ks.length<=10000)(v:PV)(β:Nat->Nat) :
  Calls Tryz.prog 279 #[.pointer (some ⟨fb,0,none⟩),.int .i64 (i:Nat),Bg β v] w fun e w'=>e=.returned (.bool (ks[i].is v))/\Below w.heap.size w w':=by
 have hv0:=heap_alloc_new w (.cells #[.int .i64 (v.k:Nat),.bool v.y,.int .i64 v.n,.string ⟨v.t.toArray⟩,.pointer (Ca β v)] 225);have h0:=alloc_old (o':=.cells #[.int .i64 (v.k:Nat),.bool v.y,.int .i64 v.n,.string ⟨v.t.toArray⟩,.pointer (Ca β v)] 225) h;have ho0:(w.alloc (.cells #[.int .i64 (v.k:Nat),.bool v.y,.int .i64 v.n,.string ⟨v.t.toArray⟩,.pointer (Ca β v)] 225)).ownsRow 0 407 7 (.slice ka n kc) ks.length (C6 Ei ks):=B3 ho (fun k _ hl=>Below.heap_alloc _ _ _ hl);have Bi:Below w.heap.size w (w.alloc (.cells #[.int .i64 (v.k:Nat),.bool v.y,.int .i64 v.n,.string ⟨v.t.toArray⟩,.pointer (Ca β v)] 225)):=Below.alloc (Below.refl _ _) (Nat.le_refl _) _;obtain⟨w0,Cq⟩:∃w0,w0=w.alloc (.cells #[.int .i64 (v.k:Nat),.bool v.y,.int .i64 v.n,.string ⟨v.t.toArray⟩,.pointer (Ca β v)] 225):=⟨_,rfl⟩;rw[←Cq]at hv0 h0 ho0 Bi;clear h ho;have c2:=A2 h0 2 _ rfl;have lb:=A4 h0;obtain⟨p0,p1,p2,p3,p4,fp,lp⟩:=Mj hv0;have hvn:n=ks.length:=(C8 ho0).1;subst hvn;obtain⟨g,rfl,hvn9,hcap,lg,hcell⟩:=Gj ho0 (by omega);clear hvn9;have d0:=hcell (i*7+0) _ ((Cv (sz:=7) (fun _=>rfl) ks i 0 hi (by omega)).trans rfl);have d1:=hcell (i*7+1) _ ((Cv (sz:=7) (fun _=>rfl) ks i 1 hi (by omega)).trans rfl);have d2:=hcell (i*7+2) _ ((Cv (sz:=7) (fun _=>rfl) ks i 2 hi (by omega)).trans rfl);have d3:=hcell (i*7+3) _ ((Cv (sz:=7) (fun _=>rfl) ks i 3 hi (by omega)).trans rfl);have d4:=hcell (i*7+4) _ ((Cv (sz:=7) (fun _=>rfl) ks i 4 hi (by omega)).trans rfl);have d5:=hcell (i*7+5) _ ((Cv (sz:=7) (fun _=>rfl) ks i 5 hi (by omega)).trans rfl);have d6:=hcell (i*7+6) _ ((Cv (sz:=7) (fun _=>rfl) ks i 6 hi (by omega)).trans rfl);rw[Nat.add_zero]at d0;have HI:=A0 (fun(W:World)=>Abx ks[i] (hk _ (List.getElem_mem hi)) v β W);have Ae:=A0 Bi;have ls0:=Bi.size;have Aq:=A0 Cq;clear h0 hcell ho0 hk Bi hv0 Cq;generalize ks[i]=x at *;unfold B5 at HI;unfold Bg at *;go_enter Tryz.func279,Tryz.ntmps279;go_wp2;rw[←Aq.o];refine Ji 8 (by kernel_rfl) (by kernel_rfl) ?_;simp only[List.take_succ_cons,List.take_zero,List.drop_succ_cons,List.drop_zero];iterate 8 (refine Fa (fun K' hK'=>?_);go_simp;refine hK' _ ?_;clear hK' K')
 refine Jk ?_;go_wp2_with fail
 refine(HI.o _).mono ?_;rintro e w1 ⟨rfl,A1⟩;have A5:Hid (Below w.heap.size w w1):=Ae.o.trans (Below.trans (b:=w0.drew) ⟨rfl,rfl,rfl,Nat.le_refl _,fun _ _=>rfl⟩ (A1.mono ls0));clear A1;go_wp2;go_ret;exact⟨rfl,A5.o⟩
theorem Qz{b o:Nat}{w:World}{cs:Array Value}{t:TypeId}{va:Option Addr}{vn vc:Nat}{xs:List Kn}(h:Dc 407 7 Ei b o w cs t va vn vc xs)(hb:xs.length<=1000000)(x:Kn)(hx:x=xs.getLastD Ds):Calls Tryz.prog 300 #[.pointer (some ⟨b,o,none⟩)] w fun e w'=>e=.returned (.agg #[.bool x.kind,.bool x.whole,.int .i64 (x.like.k:Nat),.bool x.like.y,.int .i64 x.like.n,.string ⟨x.like.t.toArray⟩,.pointer none])/\Below w.heap.size w w':=by
 have lb:=A4 h.blk;have HL:=A0 (Qs (h.keep (w':=w.alloc (.cells #[.bool false,.bool false,.int .i64 0,.bool false,.int .i64 0,.string ⟨#[]⟩,.pointer none] 407)) (fun g hg=>Below.heap_alloc _ _ _ hg)));have HA:=A0 (Ot (h.keep (w':=w.alloc (.cells #[.bool false,.bool false,.int .i64 0,.bool false,.int .i64 0,.string ⟨#[]⟩,.pointer none] 407)) (fun g hg=>Below.heap_alloc _ _ _ hg)) ((xs.length:Int)-1) hb x (by rw[hx];exact P5 _ xs));clear h hx;go_enter Tryz.func300,Tryz.ntmps300;go_wp2_with fail
 refine HL.o.mono ?_;rintro e w0 ⟨rfl,Cq⟩;subst Cq;go_wp2_with fail
 refine HA.o.mono ?_;rintro e w1 ⟨rfl,A1⟩;have hR:=Fq A1 (heap_alloc_new w (.cells #[.bool false,.bool false,.int .i64 0,.bool false,.int .i64 0,.string ⟨#[]⟩,.pointer none] 407));have r0:=A2 hR 0 _ rfl;have r1:=A2 hR 1 _ rfl;have r2:=A2 hR 2 _ rfl;have r3:=A2 hR 3 _ rfl;have r4:=A2 hR 4 _ rfl;have r5:=A2 hR 5 _ rfl;have r6:=A2 hR 6 _ rfl;have fr:=Bd hR;have lr:=A4 hR;have A5:Hid (Below w.heap.size w w1):=(Below.alloc (Below.refl _ _) (Nat.le_refl _) _).trans (A1.mono (by simp));clear A1 hR HL HA;go_wp2;refine bodyPost_ret (v:=.agg #[.bool x.kind,.bool x.whole,.int .i64 (x.like.k:Nat),.bool x.like.y,.int .i64 x.like.n,.string ⟨x.like.t.toArray⟩,.pointer none]) (by simp[results,Tryz.results300,go_sem,r0,r1,r2,r3,r4,r5,r6]) rfl ⟨rfl,?_⟩;iterate 7 refine Below.setCell ?_ (by simp) _
 exact A5.o
structure E1 (D : Nat -> Prop) (kb pb : Nat) (P : Db) (ps : List Kn) (pa : Option Addr) (pc : Nat) (w : World) (ab : List Kn) (va : Option Addr) (vc : Nat) : Prop where
 st:Dc 407 7 Ei kb 2 w #[.pointer (some ⟨pb,0,none⟩),.slice pa ps.length pc,.slice va ab.length vc] 414 va ab.length vc ab
 par:Co D w 407 7 (.slice pa ps.length pc) ps.length (C6 Ei ps)
 prog:Jx D w pb P
 nd:¬D kb/\∀g,(Value.slice va ab.length vc).ownBlock=some g->¬D g
 lo:∀g,D g->g<w.heap.size
 Bq:ab.length<=100000/\ps.length<=1000
variable {D:Nat->Prop} {kb pb:Nat} {P:Db} {ps:List Kn} {pa:Option Addr} {pc:Nat} {w w':World} {ab:List Kn} {va:Option Addr} {vc:Nat}
theorem E1.below(h:E1 D kb pb P ps pa pc w ab va vc)(hb:Below w.heap.size w w'):E1 D kb pb P ps pa pc w' ab va vc:=
 ⟨h.st.keep hb.block,h.par.keep (fun g hg hl=>⟨hb.block g hl,hg⟩),h.prog.keep (fun g hg hl=>⟨hb.block g hl,hg⟩),h.nd,fun g hg=>Nat.lt_of_lt_of_le (h.lo g hg) hb.size,h.Bq⟩
def KP(w:World)(r:Value)(e:Ending)(w':World):Prop:=e=.returned r/\Below w.heap.size w w'
theorem S0{a b:World}{B:Nat}(h:Below B a b)(n:Nat):Below B a (b.drewN n):=⟨h.os,h.tape,h.output,h.size,h.block⟩
theorem Ix{w W:World}(hb:Below w.heap.size w W){b:Nat}(hk:w.heap.size<=b)(c0 c1 c2 c3 c4 c5 c6:Value):Below w.heap.size w (((((((W.setCell ⟨b,0,none⟩ c0).setCell ⟨b,1,none⟩ c1).setCell ⟨b,2,none⟩ c2).setCell ⟨b,3,none⟩ c3).setCell ⟨b,4,none⟩ c4).setCell ⟨b,5,none⟩ c5).setCell ⟨b,6,none⟩ c6):=by
 iterate 7 refine Below.setCell ?_ hk _
 exact hb
theorem Jn(w:World)(o:Obj):Below w.heap.size w (w.alloc o):=Below.alloc (Below.refl _ _) (Nat.le_refl _) _
theorem A2b(h:E1 D kb pb P ps pa pc w ab va vc)(i:Ad)(hn:¬(i.op=1/\i.arg<(ps.length:Nat))):Calls Tryz.prog 298 #[.pointer (some ⟨kb,0,none⟩),Ac i] w (KP w (B5 Ds)):=by
 have c1:=A2 h.st.blk 1 _ rfl;have lb:=A4 h.st.blk;clear h;unfold Ac;by_cases ho:i.op=1
 ·have t0:((i.op:Int)==1)=true:=by rw[ho];rfl
  have t1:¬i.arg<((ps.length:Nat):Int):=fun q=>hn ⟨ho,q⟩;clear hn ho;go_enter Tryz.func298,Tryz.ntmps298;go_wp2;go_quiet (fail)
  go_wp2;refine bodyPost_ret (v:=B5 Ds) (by simp[results,Tryz.results298,go_sem,B5,Ds,Ai]) rfl ⟨rfl,?_⟩;exact Ix (S0 (Below.alloc (Below.alloc (Below.refl _ _) (Nat.le_refl _) _) (by simp) _) _) (by omega) _ _ _ _ _ _ _
 ·have t0:((i.op:Int)==1)=false:=by rw[beq_eq_false_iff_ne];omega
  clear hn ho;go_enter Tryz.func298,Tryz.ntmps298;go_wp2;go_quiet (fail)
  go_wp2;refine bodyPost_ret (v:=B5 Ds) (by simp[results,Tryz.results298,go_sem,B5,Ds,Ai]) rfl ⟨rfl,?_⟩;exact Ix (S0 (Below.alloc (Below.alloc (Below.refl _ _) (Nat.le_refl _) _) (by simp) _) _) (by omega) _ _ _ _ _ _ _
theorem Aaa(h:E1 D kb pb P ps pa pc w ab va vc)(i:Ad)(ho:i.op=1)(j:Nat)(hj:i.arg=(j:Nat))(hl:j<ps.length):Calls Tryz.prog 298 #[.pointer (some ⟨kb,0,none⟩),Ac i] w (KP w (B5 ps[j])):=by
 have c1:=A2 h.st.blk 1 _ rfl;have lb:=A4 h.st.blk;have hfew:=h.Bq.2;have t0:((i.op:Int)==1)=true:=by rw[ho];rfl
 have t1:((j:Nat):Int)<((ps.length:Nat):Int):=by omega
 obtain⟨g,rfl,hvn9,hcap,lg,hcell⟩:=Gj h.par.1 (by omega);clear hvn9;have d0:=hcell (j*7+0) _ ((Cv (sz:=7) (fun _=>rfl) ps j 0 hl (by omega)).trans rfl);have d1:=hcell (j*7+1) _ ((Cv (sz:=7) (fun _=>rfl) ps j 1 hl (by omega)).trans rfl);have d2:=hcell (j*7+2) _ ((Cv (sz:=7) (fun _=>rfl) ps j 2 hl (by omega)).trans rfl);have d3:=hcell (j*7+3) _ ((Cv (sz:=7) (fun _=>rfl) ps j 3 hl (by omega)).trans rfl);have d4:=hcell (j*7+4) _ ((Cv (sz:=7) (fun _=>rfl) ps j 4 hl (by omega)).trans rfl);have d5:=hcell (j*7+5) _ ((Cv (sz:=7) (fun _=>rfl) ps j 5 hl (by omega)).trans rfl);have d6:=hcell (j*7+6) _ ((Cv (sz:=7) (fun _=>rfl) ps j 6 hl (by omega)).trans rfl);rw[Nat.add_zero]at d0;clear h hcell ho;generalize ps[j]=x at *;unfold Ac;rw[hj];go_enter Tryz.func298,Tryz.ntmps298;go_wp2;go_quiet (fail)
 go_wp2;obtain⟨w5,J3⟩:∃w5,w5=(((w.alloc (.cells #[.int .i64 (i.op:Nat),.int .i64 (j:Nat),.int .i64 (i.line:Nat),.int .i64 (i.v.k:Nat),.bool i.v.y,.int .i64 i.v.n,.string ⟨i.v.t.toArray⟩,.pointer none] 251)).alloc (.cells #[.bool false,.bool false,.int .i64 0,.bool false,.int .i64 0,.string ⟨#[]⟩,.pointer none] 407)).drewN nq):=⟨_,rfl⟩;rw[←J3];have Cc:Below w.heap.size w w5:=by rw[J3];exact S0 (Below.alloc (Below.alloc (Below.refl _ _) (Nat.le_refl _) _) (by simp) _) _
 have q1:w5.heap[w.heap.size]?=some (.cells #[.int .i64 (i.op:Nat),.int .i64 (j:Nat),.int .i64 (i.line:Nat),.int .i64 (i.v.k:Nat),.bool i.v.y,.int .i64 i.v.n,.string ⟨i.v.t.toArray⟩,.pointer none] 251 (0,0)):=by rw[J3];exact alloc_old (heap_alloc_new w _)
 have q2:w5.heap[w.heap.size+1]?=some (.cells #[.bool false,.bool false,.int .i64 0,.bool false,.int .i64 0,.string ⟨#[]⟩,.pointer none] 407 (0,0)):=by
  rw[J3,show w.heap.size+1=(w.alloc (.cells #[.int .i64 (i.op:Nat),.int .i64 (j:Nat),.int .i64 (i.line:Nat),.int .i64 (i.v.k:Nat),.bool i.v.y,.int .i64 i.v.n,.string ⟨i.v.t.toArray⟩,.pointer none] 251)).heap.size by simp];exact heap_alloc_new (w.alloc (.cells #[.int .i64 (i.op:Nat),.int .i64 (j:Nat),.int .i64 (i.line:Nat),.int .i64 (i.v.k:Nat),.bool i.v.y,.int .i64 i.v.n,.string ⟨i.v.t.toArray⟩,.pointer none] 251)) (.cells #[.bool false,.bool false,.int .i64 0,.bool false,.int .i64 0,.string ⟨#[]⟩,.pointer none] 407)
 have Dn:=A0 Cc;have hc5:∀(k o:Nat),k<w.heap.size->w5.cell? ⟨k,o,none⟩=w.cell? ⟨k,o,none⟩:=fun k o hk=>World.cell?_of_block (Cc.block k hk);rw[←hc5 _ _ lb]at c1;rw[←hc5 _ _ lg]at d0 d1 d2 d3 d4 d5 d6;obtain⟨n0,n1,n2,n3,n4,n5,n6,n7,ln⟩:=B9 q1;have r0:=A2 q2 0 _ rfl;have r1:=A2 q2 1 _ rfl;have r2:=A2 q2 2 _ rfl;have r3:=A2 q2 3 _ rfl;have r4:=A2 q2 4 _ rfl;have r5:=A2 q2 5 _ rfl;have r6:=A2 q2 6 _ rfl;have fr:=Bd q2;have lr:=A4 q2;have lb5:=Nat.lt_of_lt_of_le lb Cc.size;have lg5:=Nat.lt_of_lt_of_le lg Cc.size;clear J3 q1 q2 hc5 Cc;refine Ji 8 (by kernel_rfl) (by kernel_rfl) ?_;simp only[List.take_succ_cons,List.take_zero,List.drop_succ_cons,List.drop_zero];iterate 8 (refine Fa (fun K' hK'=>?_);go_simp;refine hK' _ ?_;clear hK' K')
 refine Jk ?_;go_wp2;refine bodyPost_ret (v:=B5 x) (by simp[results,Tryz.results298,go_sem,B5,r0,r1,r2,r3,r4,r5,r6]) rfl ⟨rfl,?_⟩;exact Below.drew (Ix Dn.o (by omega) _ _ _ _ _ _ _)
theorem Lj(h:E1 D kb pb P ps pa pc w ab va vc)(i:Ad)(ha:0<=i.arg):Calls Tryz.prog 298 #[.pointer (some ⟨kb,0,none⟩),Ac i] w (KP w (B5 (Ff ps i))):=by
 unfold Ff;by_cases ho:i.op=1
 ·rw[if_pos ho];by_cases hl:i.arg.toNat<ps.length
  ·rw[List.getElem?_eq_getElem hl];exact Aaa h i ho i.arg.toNat (by omega) hl
  ·rw[List.getElem?_eq_none (by omega)];exact A2b h i (fun q=>hl (by omega))
 ·rw[if_neg ho];exact A2b h i (fun q=>ho q.1)
theorem V9(ab:List Kn):Dx ab=if((ab.length:Int)-1)<0 then Ds else(ab[((ab.length:Int)-1).toNat]?).getD Ds:=P5 _ ab
theorem W0(ab:List Kn):Kl ab=if((ab.length:Int)-1-1)<0 then Ds else(ab[((ab.length:Int)-1-1).toNat]?).getD Ds:=by
 unfold Kl;rw[P5];by_cases h:ab.length<=1
 ·rw[if_pos (by simp;omega),if_pos (by omega)]
 ·rw[if_neg (by simp;omega),if_neg (by omega)];rw[List.length_dropLast,List.getElem?_dropLast];rw[if_pos (by omega)];congr 3
  omega
theorem Ku(h:E1 D kb pb P ps pa pc w ab va vc)(kd:Nat):Calls Tryz.prog 299 #[.pointer (some ⟨kb,0,none⟩),.int .i64 (kd:Nat)] w (KP w (.bool (F9 ab kd))):=by
 have lb:=A4 h.st.blk;have hfew:=h.Bq.1;have HL:=A0 (Qs h.st);have HA:=A0 (Ot h.st ((ab.length:Int)-1) (by omega) (Dx ab) (V9 ab));have HM:=A0 h;clear h;unfold F9;cases hx:(Dx ab).sure kd
 ·go_enter Tryz.func299,Tryz.ntmps299;go_wp2_with fail
  refine HL.o.mono ?_;rintro e w1 ⟨rfl,Fs⟩;rw[Fs];clear Fs w1;go_wp2_with fail
  refine HA.o.mono ?_;rintro e w1 ⟨rfl,A1⟩;have A9:=A0 (fun(W:World)=>Ls (Dx ab) kd W);rw[hx]at A9;have A5:=A0 A1;have HM1:=A0 (HM.o.below A1);have Bt:kb<w1.heap.size:=Nat.lt_of_lt_of_le lb A1.size;clear A1;unfold B5 at A9;generalize Dx ab=x at *;go_wp2_with fail
  refine(A9.o _).mono ?_;rintro e w2 ⟨rfl,A8⟩;have Aa:Hid (Below w.heap.size w w2):=A5.o.trans (A8.mono A5.o.size);have HM2:=A0 (HM1.o.below A8);have Ek:kb<w2.heap.size:=Nat.lt_of_lt_of_le Bt A8.size;clear A8;go_wp2;go_ret;exact⟨rfl,Aa.o⟩
 ·go_enter Tryz.func299,Tryz.ntmps299;go_wp2_with fail
  refine HL.o.mono ?_;rintro e w1 ⟨rfl,Fs⟩;rw[Fs];clear Fs w1;go_wp2_with fail
  refine HA.o.mono ?_;rintro e w1 ⟨rfl,A1⟩;have A9:=A0 (fun(W:World)=>Ls (Dx ab) kd W);rw[hx]at A9;have A5:=A0 A1;have HM1:=A0 (HM.o.below A1);have Bt:kb<w1.heap.size:=Nat.lt_of_lt_of_le lb A1.size;clear A1;unfold B5 at A9;generalize Dx ab=x at *;go_wp2_with fail
  refine(A9.o _).mono ?_;rintro e w2 ⟨rfl,A8⟩;have Aa:Hid (Below w.heap.size w w2):=A5.o.trans (A8.mono A5.o.size);have HM2:=A0 (HM1.o.below A8);have Ek:kb<w2.heap.size:=Nat.lt_of_lt_of_le Bt A8.size;clear A8;have HA2:=A0 (Ot HM2.o.st ((ab.length:Int)-1-1) (by have:=HM2.o.Bq.1;omega) (Kl ab) (W0 ab));have Bh:=A0 (fun(W:World)=>Ls (Kl ab) kd W);unfold B5 at Bh;generalize hy:Kl ab=y at *;clear hy;generalize hz:y.sure kd=z at *;clear hz;go_wp2_with fail
  refine HA2.o.mono ?_;rintro e w3 ⟨rfl,Aj⟩;have At:Hid (Below w.heap.size w w3):=Aa.o.trans (Aj.mono Aa.o.size);clear Aj;go_wp2_with fail
  refine(Bh.o _).mono ?_;rintro e w4 ⟨rfl,B4⟩;have Ci:Hid (Below w.heap.size w w4):=At.o.trans (B4.mono At.o.size);clear B4;go_wp2;go_ret;exact⟨rfl,Ci.o⟩
end
end Go.Proofs.YtjdlndhfaaolaaaGreatDoor
