import Derived.Test.YtjdlndhfaaolaaaGreatDoorV16
import Derived.Test.YtjdlndhfaaolaaaGreatDoorV29
import Derived.Test.YtjdlndhfaaolaaaGreatDoorV36
set_option maxHeartbeats 20000000
namespace Go.Proofs.YtjdlndhfaaolaaaGreatDoor
section
set_option maxRecDepth 100000
open Go.RowKit
open Go.Deep (BT)
variable {C:MC} {D X:Nat->Prop} {w w':World} {m:MS} {β:Nat->Nat}
theorem z4sa {P:Prop} (h:P:=by
  clear h2 k2;go_wp2;refine bodyPost_ret (v:=.tuple #[]) (by simp[results,Tryz.results163,go_sem]) rfl ?_;exact z38a):P:=h
theorem A83(h:C.Ms D X β w m)(i:Ac)(Gr:m.pop.top.k≠4):Calls Tryz.prog 163 #[.pointer (some ⟨C.mb,0,none⟩),Ab i] w (MP C D X β w (m.pop.pop.fail 5 i) (.tuple #[])):=by
 obtain⟨w0,Am,Ap,Af,Al,Aq,n0,n1,n2,n3,n4,n5,n6,n7,ln,lb,Bz⟩:=h.C1 i;clear h;have HT:=A0 (Eh Ap.o);have t4:(((m.pop.top.k:Nat):Int) !=4)=true:=by rw[bne_iff_ne];omega
 clear Gr;generalize m.pop.top=u at *;generalize m.top=p at *;unfold Ab;go_enter Tryz.func163,Tryz.ntmps163;go_wp2_with fail
 rw[←Am.o];refine HT.o.mono ?_;rintro e w1 ⟨rfl,h1,k1⟩;unfold Az;have Bj:=h1.Au;have A7:=A0 h1;have A4:Hid (A3 (dx D X) w w1):=Af.o.trans (Ae k1);have Ad:=(k1.block _ Al.o).trans Aq.o;clear n0 n1 n2 n3 n4 n5 n6 n7 ln;obtain⟨n0,n1,n2,n3,n4,n5,n6,n7,ln⟩:=B1 Ad;clear h1 k1 Ad HT;have HF:=A0 (fun(W:World) (hb:Below w1.heap.size w1 W)=>And.intro (Gw (A7.o.below hb).1 5 i) (A4.o.trans (Ae (A7.o.below hb).2)));unfold Ab at HF;go_wp2_with fail
 refine((HF.o _ z4ua).1).mono ?_;rintro e w2 ⟨rfl,h2,k2⟩;have Ai:=A0 h2.back;have Aa:Hid (A3 (dx D X) w w2):=(HF.o _ z4ua).2.trans (Ae k2);exact z4sa
theorem A81(h:C.Ms D X β w m)(i:Ac)(Gr:m.pop.top.k=4)(hc:500<m.cells+1)(h5:m.cells<=500):Calls Tryz.prog 163 #[.pointer (some ⟨C.mb,0,none⟩),Ab i] w (MP C D X β w (m.pop.pop.fail 10 i) (.tuple #[])):=by
 obtain⟨w0,Am,Ap,Af,Al,Aq,n0,n1,n2,n3,n4,n5,n6,n7,ln,lb,Bz⟩:=h.C1 i;clear h;have HT:=A0 (Eh Ap.o);have t4:(((m.pop.top.k:Nat):Int) !=4)=false:=by rw[Gr];rfl
 have HR:=A0 (fun(W:World) (hs':C.Ms D (Cp X w) β W m.pop.pop)=>A20 hs' 1 i hc h5);unfold Ab at HR;clear Gr hc;generalize m.pop.top=u at *;generalize m.top=p at *;unfold Ab;go_enter Tryz.func163,Tryz.ntmps163;go_wp2_with fail
 rw[←Am.o];refine HT.o.mono ?_;rintro e w1 ⟨rfl,h1,k1⟩;unfold Az;have Bj:=h1.Au;have A7:=A0 h1;have A4:Hid (A3 (dx D X) w w1):=Af.o.trans (Ae k1);have Ad:=(k1.block _ Al.o).trans Aq.o;clear n0 n1 n2 n3 n4 n5 n6 n7 ln;obtain⟨n0,n1,n2,n3,n4,n5,n6,n7,ln⟩:=B1 Ad;clear h1 k1 Ad HT;have HH2:=A0 (fun(W:World) (hb:Below w1.heap.size w1 W)=>And.intro (HR.o W (A7.o.below hb).1) (A4.o.trans (Ae (A7.o.below hb).2)));clear HR;go_wp2_with fail
 refine((HH2.o _ z4ua).1).mono ?_;rintro e w2 ⟨rfl,h2,k2⟩;have Ai:=A0 h2.back;have Aa:Hid (A3 (dx D X) w w2):=(HH2.o _ z4ua).2.trans (Ae k2);exact z4sa
end
section
open Go.RowKit
open Go.Deep (BT)
variable {C:MC} {D X Y:Nat->Prop} {w w':World} {m:MS} {β:Nat->Nat}
def Mx(β:Nat->Nat)(n b:Nat):Nat->Nat:=fun i=>if i=n then b else β i
theorem Zg{n b i:Nat}(h:i<n):Mx β n b i=β i:=if_neg z4va
theorem Aie{n b:Nat}{v:PV}(h:C8 n v):C7 (Mx β n b) v=C7 β v:=by
 have:Bk (Mx β n b) v=Bk β v:=by
  unfold Bk;unfold C8 at h;cases hr:v.r with
  | none=>rfl
  | some i=>rw[hr]at h;simp only;rw[Zg h.2]
 unfold C7;rw[this]
theorem Uu{n b:Nat}{l:List PV}(h:∀v∈l,C8 n v):Bw (C7 (Mx β n b)) l=Bw (C7 β) l:=by
 unfold Bw;induction l with
 | nil=>rfl
 | cons x r ih=>rw[List.flatMap_cons,List.flatMap_cons,Aie (h x (List.mem_cons_self ..)),ih (fun v hv=>h v (List.mem_cons_of_mem _ hv))]
theorem Va{n:Nat}{v:PV}(h:C8 n v):C8 (n+1) v:=by
 unfold C8 at h ⊢;cases hr:v.r with
 | none=>rw[hr]at h;exact h
 | some i=>rw[hr]at h;exact⟨h.1,by omega⟩
theorem MC.Ms.A6u(h:C.Ms D Y β w m)(hX:∀g,X g->Y g){b rb:Nat}{l:List PV}(hb:Y b/\¬D b/\¬X b)(hr:Y rb/\¬D rb/\¬X rb)(hn:rb≠b)(hh:w.heap[b]?=some (.cells #[.slice (some ⟨rb,0,none⟩) l.length l.length] 356 (0,0)))
  (hrow:w.ownsRow 0 225 5 (.slice (some ⟨rb,0,none⟩) l.length l.length) l.length (Bw (C7 β) l)) (hvv:∀v∈l,C8 m.arr.length v) :
  C.Ms D X (Mx β m.arr.length b) w { m with arr:=m.arr++[l] }:=by
 classical
 obtain⟨ρ,s,x,fv,ab,lp,h⟩:=h;have Bf:=(h.prot b (.inr hb.1)).2;have hr0:=(h.prot rb (.inr hr.1)).2;have hl:=h.arr.len;obtain⟨σ,hσ⟩:∃σ:Nat->Nat,σ=fun g=>if g=b then 7+2*m.arr.length else if g=rb then 8+2*m.arr.length else ρ g:=⟨_,rfl⟩;have up:∀g,ρ g≠0->σ g=ρ g:=fun g hg=>by
  rw[hσ];show(if g=b then _ else _)=_;rw[if_neg (fun e=>hg (by rw[e];exact Bf)),if_neg (fun e=>hg (by rw[e];exact hr0))]
 have sb:σ b=7+2*m.arr.length:=by rw[hσ];exact if_pos rfl
 have sr:σ rb=8+2*m.arr.length:=by rw[hσ];show(if rb=b then _ else _)=_;rw[if_neg hn,if_pos rfl]
 have hd:∀g,dx D X g->g≠b/\g≠rb:=fun g hg=>by
  rcases hg with q|q
  ·exact⟨fun e=>hb.2.1 (by rw[←e];exact q),fun e=>hr.2.1 (by rw[←e];exact q)⟩
  ·exact⟨fun e=>hb.2.2 (by rw[←e];exact q),fun e=>hr.2.2 (by rw[←e];exact q)⟩
 refine⟨σ,s,x,fv,ab++[(some ⟨rb,0,none⟩,l.length,l.length)],lp,h.cell,h.prog,h.lots,fun g hg=>by rw[up g z57a];exact h.loto g hg,h.lotm,h.forms,
  by rw[Uu h.vv.2.1];exact h.gl,fun g hg=>by rw[up g z59a];exact h.glo g hg,by rw[Uu h.vv.1];exact h.vals,fun g hg=>by rw[up g z55a];exact h.valo g hg,
  h.calls,fun g hg=>by rw[up g z54a];exact h.callo g hg,h.frs,h.now,h.out,fun g hg=>by rw[up g z56a];exact h.outo g hg,⟨by simp[hl],fun i hi hi'=>?_⟩,?_,⟨by rw[up _ z5ia];exact h.one.1,?_⟩,h.Br,?_⟩
 ·by_cases e:i<m.arr.length
  ·have Ad:i<ab.length:=by omega
   obtain⟨a1,a2,a3,a4⟩:=h.arr.at' i Ad e;rw[List.getElem_append_left Ad,List.getElem_append_left e,Zg e,Uu (h.vv.2.2 _ (List.getElem_mem e))];exact⟨a1,a2,by rw[up _ (by rw[a3];omega)];exact a3,fun g hg=>by rw[up g (by rw[a4 g hg];omega)];exact a4 g hg⟩
  ·have e1:i=m.arr.length:=by simp at hi';omega
   subst e1;have q1:(ab++[((some ⟨rb,0,none⟩:Option Addr),l.length,l.length)])[m.arr.length]'hi=(some ⟨rb,0,none⟩,l.length,l.length):=by
    rw[List.getElem_append_right z4va];simp
   have q2:(m.arr++[l])[m.arr.length]'hi'=l:=by rw[List.getElem_append_right (Nat.le_refl _)];simp
   have q3:Mx β m.arr.length b m.arr.length=b:=if_pos rfl;rw[q1,q2,q3,Uu hvv];refine⟨hh,hrow,sb,fun g hg=>?_⟩;have:rb=g:=by simpa [Lh,Value.ownBlock]using hg
   rw[←this];exact sr
 ·intro g hg;obtain⟨n1,n2⟩:=hd g hg;have hY:dx D Y g:=hg.imp id (hX g);refine⟨(h.prot g hY).1,?_⟩;rw[hσ];show(if g=b then _ else _)=_;rw[if_neg n1,if_neg n2];exact(h.prot g hY).2
 ·intro g hg;rw[hσ]at hg;have hg':(if g=b then 7+2*m.arr.length else if g=rb then 8+2*m.arr.length else ρ g)=1:=hg;split at hg'
  ·omega
  ·split at hg'
   ·omega
   ·exact h.one.2 g hg'
 ·simp only[List.length_append,List.length_singleton];refine⟨fun v hv=>Va (h.vv.1 v hv),fun v hv=>Va (h.vv.2.1 v hv),fun q hq v hv=>?_⟩;rcases List.mem_append.1 hq with e|e
  ·exact Va (h.vv.2.2 q e v hv)
  ·rw[List.mem_singleton.1 e]at hv;exact Va (hvv v hv)
end
section
open Go.RowKit
open Go.Deep (BT)
def Rr(w:World)(out:List (List UInt8))(lots:List Dv)(e:Ending)(w':World):Prop:=∃va vn vc line fa fn fc da dn dc,e=.returned (.agg #[.slice va vn vc,.int .i64 0,.int .i64 ((line:Nat):Int),.slice fa fn fc,.slice da dn dc])/\w'.ownsRow 0 9 1 (.slice va vn vc) out.length (strs out)/\
 w'.ownsRow 0 3 1 (.slice fa fn fc) lots.length (lots.map fun l=>.int .i64 (l.fast:Nat))/\w'.ownsRow 0 3 1 (.slice da dn dc) lots.length (lots.map fun l=>.int .i64 (l.drops:Nat))/\Below w.heap.size w w'
def Z6(P:D7)(bets:List Cx)(out:List (List UInt8))(lots:List Dv):Prop:=∀(w:World) (gb:Nat) (E:Nat->Prop) (v:Value),Rq E w gb P->(∀g,E g->g<w.heap.size)->G3 w->Ib Mc w v bets->
 Calls Tryz.prog 23 #[.pointer (some ⟨gb,0,none⟩),v] w (Rr w out lots)
theorem Xr{W:World}{T T':TypeId}{n b:Nat}{v:Value}{xs:List Value}{cs:Array Value}(ho:W.ownsRow 0 T 1 v n xs)(hb:W.heap[b]?=some (.cells cs T' (0,0)))(hT:T≠T'):∀k,v.ownBlock=some k->k≠b:=by
 intro k hk e;obtain⟨_,h1|⟨g,cap,cur,hv,_,hg,_⟩⟩:=ho
 ·rw[h1.1]at hk;cases hk
 ·rw[hv]at hk;have hgk:g=k:=by simpa [Value.ownBlock]using hk
  rw[hgk,e,hb]at hg;injection hg with hg;injection hg with _ ht;exact hT ht.symm
end
section
set_option maxRecDepth 100000
open Go.RowKit
open Go.Deep (BT)
variable {b o:Nat}{w:World}{cs:Array Value}{t:TypeId}{va:Option Addr}{vn vc:Nat}{xs:List Kn}
theorem Xd:(Tryz.prog.info? 407).map (fun i=>(i.zero,i.size,i.bytes))=some (some (.agg #[.bool false,.bool false,.int .i64 0,.bool false,.int .i64 0,.string ⟨#[]⟩,.pointer none]),7,56):=by kernel_rfl
theorem Sj(h:Dh 407 7 El b o w cs t va vn vc xs):Calls Tryz.prog 305 #[.pointer (some ⟨b,o,none⟩)] w fun e w'=>e=.returned (.int .i64 (xs.length:Nat))/\w'=w:=by
 have c:=Dp h.blk h.cell;have lb:=A5 h.blk;have hv:vn=xs.length:=(C9 h.own).1;subst hv;clear h;go_enter Tryz.func305,Tryz.ntmps305;exact z03a
theorem Afi(h:Dh 407 7 El b o w cs t va vn vc xs)(i:Nat)(hi:i<xs.length)(hb:xs.length<=1000000):Calls Tryz.prog 318 #[.pointer (some ⟨b,o,none⟩),.int .i64 (i:Nat)] w fun e w'=>e=.returned (.agg #[.bool (xs[i]).kind,.bool (xs[i]).whole,.int .i64 ((xs[i]).like.k:Nat),.bool (xs[i]).like.y,.int .i64 (xs[i]).like.n,.string ⟨(xs[i]).like.t.toArray⟩,.pointer none])/\Below w.heap.size w w':=by
 have c:=Dp h.blk h.cell;have lb:=A5 h.blk;have hv:vn=xs.length:=(C9 h.own).1;subst hv;obtain⟨g,rfl,hvn9,hcap,lg,hcell⟩:=Fo h.own z4va;clear hvn9;have d0:=hcell (i*7+0) _ ((D1 (sz:=7) (fun _=>rfl) xs i 0 hi z4va).trans rfl);have d1:=hcell (i*7+1) _ ((D1 (sz:=7) (fun _=>rfl) xs i 1 hi z4va).trans rfl);have d2:=hcell (i*7+2) _ ((D1 (sz:=7) (fun _=>rfl) xs i 2 hi z4va).trans rfl);have d3:=hcell (i*7+3) _ ((D1 (sz:=7) (fun _=>rfl) xs i 3 hi z4va).trans rfl);have d4:=hcell (i*7+4) _ ((D1 (sz:=7) (fun _=>rfl) xs i 4 hi z4va).trans rfl);have d5:=hcell (i*7+5) _ ((D1 (sz:=7) (fun _=>rfl) xs i 5 hi z4va).trans rfl);have d6:=hcell (i*7+6) _ ((D1 (sz:=7) (fun _=>rfl) xs i 6 hi z4va).trans rfl);rw[Nat.add_zero]at d0;clear h hcell;generalize xs[i]=x at *;go_enter Tryz.func318,Tryz.ntmps318;go_wp2;refine bodyPost_ret (v:=.agg #[.bool x.kind,.bool x.whole,.int .i64 (x.like.k:Nat),.bool x.like.y,.int .i64 x.like.n,.string ⟨x.like.t.toArray⟩,.pointer none]) (by simp[results,Tryz.results318,go_sem]) rfl ⟨rfl,?_⟩;exact z40a
theorem z1ua {P:Prop} (h:P:=by
  clear hi;go_enter Tryz.func318,Tryz.ntmps318;go_wp2;refine bodyPost_ret (v:=.agg #[.bool false,.bool false,.int .i64 0,.bool false,.int .i64 0,.string ⟨#[]⟩,.pointer none]) (by simp[results,Tryz.results318,go_sem]) rfl ⟨rfl,?_⟩;exact z04a):P:=h
theorem A1e(h:Dh 407 7 El b o w cs t va vn vc xs)(i:Int)(hi:i<0\/(xs.length:Int)<=i):Calls Tryz.prog 318 #[.pointer (some ⟨b,o,none⟩),.int .i64 i] w fun e w'=>e=.returned (.agg #[.bool false,.bool false,.int .i64 0,.bool false,.int .i64 0,.string ⟨#[]⟩,.pointer none])/\Below w.heap.size w w':=by
 have c:=Dp h.blk h.cell;have lb:=A5 h.blk;have hv:vn=xs.length:=(C9 h.own).1;subst hv;clear h;by_cases h0:i<0
 ·exact z1ua
 ·have h1:(xs.length:Int)<=i:=by omega
  exact z1ua
theorem Pt(h:Dh 407 7 El b o w cs t va vn vc xs)(i:Int)(hb:xs.length<=1000000)(x:Kn)(hx:x=if i<0 then En else(xs[i.toNat]?).getD En):Calls Tryz.prog 318 #[.pointer (some ⟨b,o,none⟩),.int .i64 i] w fun e w'=>e=.returned (.agg #[.bool x.kind,.bool x.whole,.int .i64 (x.like.k:Nat),.bool x.like.y,.int .i64 x.like.n,.string ⟨x.like.t.toArray⟩,.pointer none])/\Below w.heap.size w w':=by
 by_cases h0:i<0
 ·rw[if_pos h0]at hx;subst hx;exact A1e h i (.inl h0)
 ·rw[if_neg h0]at hx;by_cases h1:i.toNat<xs.length
  ·rw[List.getElem?_eq_getElem h1]at hx;have:=Afi h i.toNat h1 hb;exact z3ka
  ·rw[List.getElem?_eq_none z4va]at hx;subst hx;exact A1e h i (.inr z4va)
theorem Afj(h:Dh 407 7 El b o w cs t va vn vc xs)(hn:xs.length<=900000)(u:Kn)(ho:o<cs.size):Calls Tryz.prog 307 #[.pointer (some ⟨b,o,none⟩),.agg #[.bool u.kind,.bool u.whole,.int .i64 (u.like.k:Nat),.bool u.like.y,.int .i64 u.like.n,.string ⟨u.like.t.toArray⟩,.pointer none]] w fun e w'=>e=.returned (.tuple #[])/\Vi 407 7 El b o w cs t va vn vc xs u w':=by
 have H8:Dh 407 7 El b o (w.alloc (.cells #[.bool u.kind,.bool u.whole,.int .i64 (u.like.k:Nat),.bool u.like.y,.int .i64 u.like.n,.string ⟨u.like.t.toArray⟩,.pointer none] 407)) cs t va vn vc xs:=h.keep (fun g hg=>Below.heap_alloc _ _ _ hg);have Bf:Below w.heap.size w (w.alloc (.cells #[.bool u.kind,.bool u.whole,.int .i64 (u.like.k:Nat),.bool u.like.y,.int .i64 u.like.n,.string ⟨u.like.t.toArray⟩,.pointer none] 407)):=Below.alloc (Below.refl _ _) (Nat.le_refl _) _;have F9:=heap_alloc_new w (.cells #[.bool u.kind,.bool u.whole,.int .i64 (u.like.k:Nat),.bool u.like.y,.int .i64 u.like.n,.string ⟨u.like.t.toArray⟩,.pointer none] 407);have hlr:=Bn h.own;clear h;generalize hW:w.alloc (.cells #[.bool u.kind,.bool u.whole,.int .i64 (u.like.k:Nat),.bool u.like.y,.int .i64 u.like.n,.string ⟨u.like.t.toArray⟩,.pointer none] 407)=w0 at *;generalize hxb:w.heap.size=xb at *;have HW:=A0 hW;have HXb:=A0 hxb;have Af:=A0 Bf;have hsz0:=Bf.size;clear hW Bf;have c:=Dp H8.blk H8.cell;have lb:=A5 H8.blk;have hv:vn=xs.length:=(C9 H8.own).1;subst hv;have x0:=A2 F9 0 _ rfl;have x1:=A2 F9 1 _ rfl;have x2:=A2 F9 2 _ rfl;have x3:=A2 F9 3 _ rfl;have x4:=A2 F9 4 _ rfl;have x5:=A2 F9 5 _ rfl;have x6:=A2 F9 6 _ rfl;have lx:=A5 F9;have hown:w0.drew.ownsRow 0 407 7 (.slice va xs.length vc) xs.length (Bw El xs):=B4 H8.own (fun _ _ _=>rfl);have HH:=A0 H8;have HNe:=A0 H8.ne;have HLr:=A0 hlr;clear H8 F9 hxb hlr;go_enter Tryz.func307,Tryz.ntmps307;go_wp2;rw[HW.o,HXb.o];go_region_law (refine Nc _ w0.heap.size #[.bool u.kind,.bool u.whole,.int .i64 (u.like.k:Nat),.bool u.like.y,.int .i64 u.like.n,.string ⟨u.like.t.toArray⟩,.pointer none] 407 (heap_alloc_new w0.drew _) rfl (.tmp 8) (.tmp 10) 379 rfl 0 7 56 _ Tryz.underlying379 Xd rfl z4va (.slice va xs.length vc) xs.length (Bw El xs) rfl rfl (hown.alloc _) rfl (fun v hv=>by simp at hv;rcases hv with rfl|rfl|rfl|rfl|rfl|rfl|rfl <;> rfl) z4va z4va (Nat.zero_le _) ?_;intro g cap w1 F0 hgrow' hat' hg;have F3:=M5 (World.grownBy_alloc w0.drew _ none) hgrow';have hgrow:w0.grownBy w1 (Value.slice va xs.length vc).ownBlock:=⟨F3.os,F3.tape,F3.output,F3.size,F3.block⟩;clear F3;have hat:(Value.slice va xs.length vc).ownBlock=some g\/w0.heap.size<=g:=hat'.imp id (fun e=>by rw[e];simp);have A1:=(hgrow.block b lb (fun e=>HNe.o e.symm)).trans HH.o.blk;have c1:=Dp A1 HH.o.cell;have f1:=Bd A1;have Bj:=A5 A1;have A4:=A0 A1;have HOwn1:=A0 F0;have HGrow:=A0 hgrow;have HAt:=A0 hat;clear A1 F0 hgrow hat hgrow' hat')
 all_goals go_wp2
 all_goals go_end0
 all_goals
  exact z0ea
theorem Aff(h:Dh 407 7 El b o w cs t va vn vc xs)(m:Nat)(hm:m<=xs.length)(ho:o<cs.size):Calls Tryz.prog 304 #[.pointer (some ⟨b,o,none⟩),.int .i64 (m:Nat)] w fun e w'=>e=.returned (.tuple #[])/\Jr 407 7 El b o w cs t va vn vc xs m w':=by
 have c:=Dp h.blk h.cell;have lb:=A5 h.blk;have hv:vn=xs.length:=(C9 h.own).1;subst hv;have fz:=Bd h.blk;have HH:=A0 h;have HNe:=A0 h.ne;by_cases he:m=xs.length
 ·subst he;clear h;go_enter Tryz.func304,Tryz.ntmps304;go_wp2;refine bodyPost_ret (v:=.tuple #[]) (by simp[results,Tryz.results304,go_sem]) rfl ⟨rfl,?_,Fp.refl _ _ _⟩;exact z25a
 ·obtain⟨hl,⟨h2,h3⟩|⟨g,cap,cur,hv,_,hg,hcap',hmx,hsz,ht⟩⟩:=h.own
  ·omega
  ·injection hv with e1 e2 e3;subst e1 e3;have hgb:g≠b:=fun e=>h.ne z5ra;have fg:=Bd hg;have lg:=A5 hg;have hzs:(.agg #[.bool false,.bool false,.int .i64 0,.bool false,.int .i64 0,.string ⟨#[]⟩,.pointer none]:Value).cells.size=7:=rfl;have hmul:m*7+(xs.length-m)*7=xs.length*7:=by omega
   have hcs:∀j,j<(xs.length-m)*(.agg #[.bool false,.bool false,.int .i64 0,.bool false,.int .i64 0,.string ⟨#[]⟩,.pointer none]:Value).cells.size->(w.cell? ⟨g,m*7+j,none⟩).isSome=true:=by
    intro j hj;rw[hzs]at hj;rw[cell_of_row w g (m*7+j) cur _ _ hg,Array.getElem?_eq_getElem z4va];rfl
   have hcl:∀ty,(Builtin.clear_ #[379] ty #[.slice (some ⟨g,m*7,none⟩) (xs.length-m) (vc-m)]).run Tryz.prog w=.ok (.tuple #[]) (w.setCells g (m*7) (Builtin.zeroCells (.agg #[.bool false,.bool false,.int .i64 0,.bool false,.int .i64 0,.string ⟨#[]⟩,.pointer none]:Value).cells (xs.length-m)).toList):=
    fun ty=>Y8 w 379 407 ty (.agg #[.bool false,.bool false,.int .i64 0,.bool false,.int .i64 0,.string ⟨#[]⟩,.pointer none]) Tryz.underlying379 Tryz.zeroValue407 (by rw[hzs];omega) (fun v hv=>by simp[Value.cells]at hv;rcases hv with rfl|rfl|rfl|rfl|rfl|rfl|rfl <;> rfl) g (m*7) (xs.length-m) (vc-m) z4va hcs (fun j hj=>fg _)
   obtain⟨cur',k1,k2,k3⟩:=Pr g 407 (0,0) (Builtin.zeroCells (.agg #[.bool false,.bool false,.int .i64 0,.bool false,.int .i64 0,.string ⟨#[]⟩,.pointer none]:Value).cells (xs.length-m)).toList (m*7) cur w hg;obtain⟨f1,f2,f3,f4,f5⟩:=Kv g (Builtin.zeroCells (.agg #[.bool false,.bool false,.int .i64 0,.bool false,.int .i64 0,.string ⟨#[]⟩,.pointer none]:Value).cells (xs.length-m)).toList (m*7) w;have A1:=(f5 b (fun e=>hgb e.symm)).trans h.blk;have I3:=A0 k1;have HK3:=A0 (k3 (m*7) (Nat.le_refl _));have HF:=A0 (And.intro f1 (And.intro f2 (And.intro f3 (And.intro f4 f5))));have HT:=A0 ht;have HSz:=A0 (k2.trans hsz);have hlen9:=hcap';clear h hcs hg ht k1 k2 k3 f1 f2 f3 f5 hl hsz hzs hmul;have c1:=Dp A1 HH.o.cell;have g1:=Bd A1;have Bj:=A5 A1;have A4:=A0 A1;clear A1 f4;generalize w.setCells g (m*7) (Builtin.zeroCells (.agg #[.bool false,.bool false,.int .i64 0,.bool false,.int .i64 0,.string ⟨#[]⟩,.pointer none]:Value).cells (xs.length-m)).toList=w1 at *;go_enter Tryz.func304,Tryz.ntmps304;go_wp2;go_end0;obtain⟨p1,p2,p3,p4,p5⟩:=HF.o;have hset:∀k,k≠b->(w1.setCell ⟨b,o,none⟩ (.slice (some ⟨g,0,none⟩) m vc)).heap[k]?=w1.heap[k]?:=fun k hk=>Below.heap_setCell _ _ _ _ z5sa;refine⟨rfl,⟨heap_set A4.o _,?_,⟨?_,.inr ⟨g,vc,cur',?_,Nat.zero_le _,(hset g hgb).trans I3.o,?_,hmx,HSz.o,?_⟩⟩,?_⟩,⟨p1,p2,p3,by simp[World.setCell];omega,fun k hk hkb hkr=>?_⟩⟩
   ·exact z1za
   ·exact Lr (f:=El) (sz:=7) (fun _=>rfl) _
   ·exact z3wa
   ·exact z3ma
   ·rw[List.length_take,Nat.min_eq_left hm,HK3.o,←Y6 (sz:=7) (fun _=>rfl),←HT.o,List.take_take,Nat.min_eq_left z4va]
   ·exact z2pa
   ·exact z3qa
theorem z2xa {P:Prop} (h:P:=by
  go_enter Tryz.func304,Tryz.ntmps304;go_wp2;refine bodyPost_ret (v:=.tuple #[]) (by simp[results,Tryz.results304,go_sem]) rfl ⟨rfl,rfl⟩):P:=h
theorem Afh(h:Dh 407 7 El b o w cs t va vn vc xs)(i:Int)(hi:i<0):Calls Tryz.prog 304 #[.pointer (some ⟨b,o,none⟩),.int .i64 i] w fun e w'=>e=.returned (.tuple #[])/\w'=w:=by
 have c:=Dp h.blk h.cell;have lb:=A5 h.blk;have hv:vn=xs.length:=(C9 h.own).1;subst hv;clear h;exact z2xa
theorem Afg(h:Dh 407 7 El b o w cs t va vn vc xs)(i:Int)(hi:(xs.length:Int)<=i):Calls Tryz.prog 304 #[.pointer (some ⟨b,o,none⟩),.int .i64 i] w fun e w'=>e=.returned (.tuple #[])/\w'=w:=by
 have c:=Dp h.blk h.cell;have lb:=A5 h.blk;have hv:vn=xs.length:=(C9 h.own).1;subst hv;clear h;have h0:¬i<0:=by omega
 exact z2xa
end
section
set_option maxRecDepth 100000
open Go.RowKit
open Go.Deep (BT)
def B9(x:Kn):Value:=.agg #[.bool x.kind,.bool x.whole,.int .i64 (x.like.k:Nat),.bool x.like.y,.int .i64 x.like.n,.string ⟨x.like.t.toArray⟩,.pointer none]
theorem Mh(k:Nat)(w:World):Calls Tryz.prog 289 #[.int .i64 (k:Nat)] w fun e w'=>e=.returned (B9 (Dm k))/\Below w.heap.size w w':=by
 go_enter Tryz.func289,Tryz.ntmps289;go_wp2;refine bodyPost_ret (v:=.agg #[.bool true,.bool false,.int .i64 (k:Nat),.bool false,.int .i64 0,.string ⟨#[]⟩,.pointer none]) (by simp[results,Tryz.results289,go_sem]) rfl ⟨rfl,?_⟩;exact z04a
theorem Xi(v:PV)(w:World):Calls Tryz.prog 290 #[.agg #[.int .i64 (v.k:Nat),.bool v.y,.int .i64 v.n,.string ⟨v.t.toArray⟩,.pointer none]] w fun e w'=>e=.returned (B9 (Jx v))/\Below w.heap.size w w':=by
 go_enter Tryz.func290,Tryz.ntmps290;go_wp2;refine bodyPost_ret (v:=.agg #[.bool true,.bool true,.int .i64 (v.k:Nat),.bool v.y,.int .i64 v.n,.string ⟨v.t.toArray⟩,.pointer none]) (by simp[results,Tryz.results290,go_sem]) rfl ⟨rfl,?_⟩;exact z04a
theorem cast_eq(a b:Nat):(((a:Nat):Int)==((b:Nat):Int))=(a==b):=by
 by_cases h:a=b
 ·rw[h];simp
 ·have h1:(a==b)=false:=by simp[h]
  rw[h1,beq_eq_false_iff_ne];omega
theorem z4ka {P:Prop} (h:P:=by
  go_enter Tryz.func301,Tryz.ntmps301;go_wp2;go_ret;refine⟨rfl,?_⟩;exact z04a):P:=h
theorem Mm(x:Kn)(kd:Nat)(w:World):Calls Tryz.prog 301 #[B9 x,.int .i64 (kd:Nat)] w fun e w'=>e=.returned (.bool (x.sure kd))/\Below w.heap.size w w':=by
 have hq:=cast_eq x.like.k kd;unfold Kn.sure B9;generalize (x.like.k==kd)=q at *;cases hk:x.kind
 ·exact z4ka
 ·exact z4ka
theorem Aen{n:Nat}(w:World)(sa:Option Addr)(sc:Nat)(i:Nat)(hi:n<=i):Calls Tryz.prog 291 #[.slice sa n sc,.int .i64 (i:Nat)] w fun e w'=>e=.returned (.int .i64 0)/\w'=w:=by
 have t0:decide (((n:Nat):Int)<=((i:Nat):Int))=true:=by rw[decide_eq_true_eq];omega
 go_enter Tryz.func291,Tryz.ntmps291;exact z03a
theorem Aem(w:World)(g o n sc:Nat)(i:Nat)(x:Int)(hi:i<n)(hc:w.cell? ⟨g,o+i,none⟩=some (.int .i64 x)):Calls Tryz.prog 291 #[.slice (some ⟨g,o,none⟩) n sc,.int .i64 (i:Nat)] w fun e w'=>e=.returned (.int .i64 x)/\w'=w:=by
 have t0:¬((n:Nat):Int)<=((i:Nat):Int):=by omega
 go_enter Tryz.func291,Tryz.ntmps291;exact z03a
theorem z1ja {P:Prop} (h:P:=by
  go_enter Tryz.func302,Tryz.ntmps302;exact z03a):P:=h
theorem Ss(o:Nat)(w:World):Calls Tryz.prog 302 #[.int .i64 (o:Nat)] w fun e w'=>e=.returned (.int .i64 (Ge o:Nat))/\w'=w:=by
 by_cases h12:o=12
 ·have e:Ge o=13:=by rw[h12];rfl
  rw[e,h12];exact z1ja
 by_cases h15:o=15
 ·have e:Ge o=16:=by rw[h15];rfl
  rw[e,h15];exact z1ja
 by_cases h17:o=17
 ·have e:Ge o=18:=by rw[h17];rfl
  rw[e,h17];exact z1ja
 by_cases h19:o=19
 ·have e:Ge o=20:=by rw[h19];rfl
  rw[e,h19];exact z1ja
 by_cases h21:o=21
 ·have e:Ge o=22:=by rw[h21];rfl
  rw[e,h21];exact z1ja
 by_cases h28:o=28
 ·have e:Ge o=32:=by rw[h28];rfl
  rw[e,h28];exact z1ja
 by_cases h29:o=29
 ·have e:Ge o=33:=by rw[h29];rfl
  rw[e,h29];exact z1ja
 by_cases h30:o=30
 ·have e:Ge o=34:=by rw[h30];rfl
  rw[e,h30];exact z1ja
 by_cases h31:o=31
 ·have e:Ge o=35:=by rw[h31];rfl
  rw[e,h31];exact z1ja
 have e:Ge o=o:=by unfold Ge;simp only[if_neg h12,if_neg h15,if_neg h17,if_neg h19,if_neg h21,if_neg h28,if_neg h29,if_neg h30,if_neg h31]
 rw[e];have t12:(((o:Nat):Int)==12)=false:=by rw[beq_eq_false_iff_ne];omega
 have t15:(((o:Nat):Int)==15)=false:=by rw[beq_eq_false_iff_ne];omega
 have t17:(((o:Nat):Int)==17)=false:=by rw[beq_eq_false_iff_ne];omega
 have t19:(((o:Nat):Int)==19)=false:=by rw[beq_eq_false_iff_ne];omega
 have t21:(((o:Nat):Int)==21)=false:=by rw[beq_eq_false_iff_ne];omega
 have t28:(((o:Nat):Int)==28)=false:=by rw[beq_eq_false_iff_ne];omega
 have t29:(((o:Nat):Int)==29)=false:=by rw[beq_eq_false_iff_ne];omega
 have t30:(((o:Nat):Int)==30)=false:=by rw[beq_eq_false_iff_ne];omega
 have t31:(((o:Nat):Int)==31)=false:=by rw[beq_eq_false_iff_ne];omega
 clear e h12 h15 h17 h19 h21 h28 h29 h30 h31;exact z1ja
theorem R5(β:Nat->Nat)(v:PV)(d:Nat)(w:World):(Op.equalIn (d+1) 223 (.pointer (Bk β v)) (.pointer none)).run Tryz.prog w=.ok (v.r==none) w:=by
 have hp:Tryz.prog.underlying 223=some (.pointer 356):=by kernel_rfl
 unfold Bk;cases hr:v.r with
 | none=>simp[Op.equalIn,run_underlying hp]
 | some y=>simp[Op.equalIn,run_underlying hp]
theorem z16a {P:Prop} (h:P:=by
  go_enter Tryz.func294,Tryz.ntmps294;go_wp2;go_ret;refine⟨rfl,?_⟩;exact z04a):P:=h
theorem z36a {P:Prop} (h:P:=by
  have tk:((v.k:Int)==(x.like.k:Int))=(v.k==x.like.k):=cast_eq _ _;rw[hk]at tk;clear hk;have ht2:=W9 v.t x.like.t;rw[ht]at ht2;have hqe:=fun(W:World)=>R5 β v 9998 W;rw[hr]at hqe;unfold B9 Az;exact z16a):P:=h
theorem Af3(x:Kn)(v:PV)(β:Nat->Nat)(w:World)(hw:x.whole=true)(hk:(v.k==x.like.k)=true)(hy:(v.y==x.like.y)=true)(hn:(v.n==x.like.n)=true)(ht:(v.t==x.like.t)=true)(hr:(v.r==none)=true):Calls Tryz.prog 294 #[B9 x,Az β v] w fun e w'=>e=.returned (.bool true)/\Below w.heap.size w w':=by
 exact z36a
theorem z35a {P:Prop} (h:P:=by
  have tk:((v.k:Int)==(x.like.k:Int))=(v.k==x.like.k):=cast_eq _ _;rw[hk]at tk;clear hk;have hqe:=fun(W:World)=>R5 β v 9998 W;unfold B9 Az;exact z16a):P:=h
theorem Af0(x:Kn)(v:PV)(β:Nat->Nat)(w:World)(hw:x.whole=true)(hk:(v.k==x.like.k)=false):Calls Tryz.prog 294 #[B9 x,Az β v] w fun e w'=>e=.returned (.bool false)/\Below w.heap.size w w':=by
 exact z35a
theorem Af5(x:Kn)(v:PV)(β:Nat->Nat)(w:World)(hw:x.whole=true)(hk:(v.k==x.like.k)=true)(hy:(v.y==x.like.y)=false):Calls Tryz.prog 294 #[B9 x,Az β v] w fun e w'=>e=.returned (.bool false)/\Below w.heap.size w w':=by
 exact z35a
theorem Af1(x:Kn)(v:PV)(β:Nat->Nat)(w:World)(hw:x.whole=true)(hk:(v.k==x.like.k)=true)(hy:(v.y==x.like.y)=true)(hn:(v.n==x.like.n)=false):Calls Tryz.prog 294 #[B9 x,Az β v] w fun e w'=>e=.returned (.bool false)/\Below w.heap.size w w':=by
 exact z35a
theorem Af4(x:Kn)(v:PV)(β:Nat->Nat)(w:World)(hw:x.whole=true)(hk:(v.k==x.like.k)=true)(hy:(v.y==x.like.y)=true)(hn:(v.n==x.like.n)=true)(ht:(v.t==x.like.t)=false):Calls Tryz.prog 294 #[B9 x,Az β v] w fun e w'=>e=.returned (.bool false)/\Below w.heap.size w w':=by
 have tk:((v.k:Int)==(x.like.k:Int))=(v.k==x.like.k):=cast_eq _ _;rw[hk]at tk;clear hk;have ht2:=W9 v.t x.like.t;rw[ht]at ht2;have hqe:=fun(W:World)=>R5 β v 9998 W;unfold B9 Az;exact z16a
theorem Af2(x:Kn)(v:PV)(β:Nat->Nat)(w:World)(hw:x.whole=true)(hk:(v.k==x.like.k)=true)(hy:(v.y==x.like.y)=true)(hn:(v.n==x.like.n)=true)(ht:(v.t==x.like.t)=true)(hr:(v.r==none)=false):Calls Tryz.prog 294 #[B9 x,Az β v] w fun e w'=>e=.returned (.bool false)/\Below w.heap.size w w':=by
 exact z36a
theorem Aez(x:Kn)(v:PV)(β:Nat->Nat)(w:World)(hw:x.whole=false):Calls Tryz.prog 294 #[B9 x,Az β v] w fun e w'=>e=.returned (.bool (!x.kind||v.k==x.like.k))/\Below w.heap.size w w':=by
 have hq:=cast_eq v.k x.like.k;generalize (v.k==x.like.k)=q at *;unfold B9 Az;cases hk:x.kind
 ·exact z16a
 ·exact z16a
theorem Af6(x:Kn)(hx:x.like.r=none)(v:PV)(β:Nat->Nat)(w:World):Calls Tryz.prog 294 #[B9 x,Az β v] w fun e w'=>e=.returned (.bool (x.is v))/\Below w.heap.size w w':=by
 unfold Kn.is;cases hw:x.whole
 ·exact Aez x v β w hw
 ·simp only[if_true];unfold PV.same;rw[hx];cases hk:(v.k==x.like.k)
  ·simp only[Bool.false_and];exact Af0 x v β w hw hk
  cases hy:(v.y==x.like.y)
  ·simp only[Bool.true_and,Bool.false_and];exact Af5 x v β w hw hk hy
  cases hn:(v.n==x.like.n)
  ·simp only[Bool.true_and,Bool.false_and];exact Af1 x v β w hw hk hy hn
  cases ht:(v.t==x.like.t)
  ·simp only[Bool.true_and,Bool.false_and];exact Af4 x v β w hw hk hy hn ht
  cases hr:(v.r==none)
  ·simp only[Bool.true_and];exact Af2 x v β w hw hk hy hn ht hr
  ·simp only[Bool.true_and];exact Af3 x v β w hw hk hy hn ht hr
theorem Ah4{w:World}{fb:Nat}{sl st:Value}{n:Nat}{ka:Option Addr}{kc:Nat}(h:w.heap[fb]?=some (.cells #[sl,st,.slice ka n kc] 381 (0,0))):Calls Tryz.prog 278 #[.pointer (some ⟨fb,0,none⟩)] w fun e w'=>e=.returned (.int .i64 (n:Nat))/\w'=w:=by
 have c2:=A2 h 2 _ rfl;have lb:=A5 h;clear h;go_enter Tryz.func278,Tryz.ntmps278;exact z03a
theorem Ad8{w:World}{fb:Nat}{sl st:Value}{n:Nat}{ka:Option Addr}{kc:Nat}{ks:List Kn}(h:w.heap[fb]?=some (.cells #[sl,st,.slice ka n kc] 381 (0,0)))(ho:w.ownsRow 0 407 7 (.slice ka n kc) ks.length (Bw El ks))(hk:∀x∈ks,x.like.r=none)(i:Nat)(hi:i<ks.length)(hl:ks.length<=10000)(v:PV)(β:Nat->Nat) :
  Calls Tryz.prog 279 #[.pointer (some ⟨fb,0,none⟩),.int .i64 (i:Nat),Az β v] w fun e w'=>e=.returned (.bool (ks[i].is v))/\Below w.heap.size w w':=by
 have hv0:=heap_alloc_new w (.cells #[.int .i64 (v.k:Nat),.bool v.y,.int .i64 v.n,.string ⟨v.t.toArray⟩,.pointer (Bk β v)] 225);have h0:=alloc_old (o':=.cells #[.int .i64 (v.k:Nat),.bool v.y,.int .i64 v.n,.string ⟨v.t.toArray⟩,.pointer (Bk β v)] 225) h;have ho0:(w.alloc (.cells #[.int .i64 (v.k:Nat),.bool v.y,.int .i64 v.n,.string ⟨v.t.toArray⟩,.pointer (Bk β v)] 225)).ownsRow 0 407 7 (.slice ka n kc) ks.length (Bw El ks):=B4 ho (fun k _ hl=>Below.heap_alloc _ _ _ hl);have Bf:Below w.heap.size w (w.alloc (.cells #[.int .i64 (v.k:Nat),.bool v.y,.int .i64 v.n,.string ⟨v.t.toArray⟩,.pointer (Bk β v)] 225)):=Below.alloc (Below.refl _ _) (Nat.le_refl _) _;obtain⟨w0,Cz⟩:∃w0,w0=w.alloc (.cells #[.int .i64 (v.k:Nat),.bool v.y,.int .i64 v.n,.string ⟨v.t.toArray⟩,.pointer (Bk β v)] 225):=⟨_,rfl⟩;rw[←Cz]at hv0 h0 ho0 Bf;clear h ho;have c2:=A2 h0 2 _ rfl;have lb:=A5 h0;obtain⟨p0,p1,p2,p3,p4,fp,lp⟩:=My hv0;have hvn:n=ks.length:=(C9 ho0).1;subst hvn;obtain⟨g,rfl,hvn9,hcap,lg,hcell⟩:=Fo ho0 z4va;clear hvn9;have d0:=hcell (i*7+0) _ ((D1 (sz:=7) (fun _=>rfl) ks i 0 hi z4va).trans rfl);have d1:=hcell (i*7+1) _ ((D1 (sz:=7) (fun _=>rfl) ks i 1 hi z4va).trans rfl);have d2:=hcell (i*7+2) _ ((D1 (sz:=7) (fun _=>rfl) ks i 2 hi z4va).trans rfl);have d3:=hcell (i*7+3) _ ((D1 (sz:=7) (fun _=>rfl) ks i 3 hi z4va).trans rfl);have d4:=hcell (i*7+4) _ ((D1 (sz:=7) (fun _=>rfl) ks i 4 hi z4va).trans rfl);have d5:=hcell (i*7+5) _ ((D1 (sz:=7) (fun _=>rfl) ks i 5 hi z4va).trans rfl);have d6:=hcell (i*7+6) _ ((D1 (sz:=7) (fun _=>rfl) ks i 6 hi z4va).trans rfl);rw[Nat.add_zero]at d0;have HI:=A0 (fun(W:World)=>Af6 ks[i] (hk _ (List.getElem_mem hi)) v β W);have Af:=A0 Bf;have ls0:=Bf.size;have Am:=A0 Cz;clear h0 hcell ho0 hk Bf hv0 Cz;generalize ks[i]=x at *;unfold B9 at HI;unfold Az at *;go_enter Tryz.func279,Tryz.ntmps279;go_wp2;rw[←Am.o];refine Ih 8 z4xa z4xa ?_;simp only[List.take_succ_cons,List.take_zero,List.drop_succ_cons,List.drop_zero];iterate 8 (refine Ez (fun K' hK'=>?_);go_simp;refine hK' _ ?_;clear hK' K')
 refine Ig ?_;go_wp2_with fail
 refine(HI.o _).mono ?_;rintro e w1 ⟨rfl,A1⟩;have A4:Hid (Below w.heap.size w w1):=Af.o.trans (Below.trans (b:=w0.drew) ⟨rfl,rfl,rfl,Nat.le_refl _,fun _ _=>rfl⟩ (A1.mono ls0));clear A1;go_wp2;go_ret;exact⟨rfl,A4.o⟩
theorem Sk{b o:Nat}{w:World}{cs:Array Value}{t:TypeId}{va:Option Addr}{vn vc:Nat}{xs:List Kn}(h:Dh 407 7 El b o w cs t va vn vc xs)(hb:xs.length<=1000000)(x:Kn)(hx:x=xs.getLastD En):Calls Tryz.prog 300 #[.pointer (some ⟨b,o,none⟩)] w fun e w'=>e=.returned (.agg #[.bool x.kind,.bool x.whole,.int .i64 (x.like.k:Nat),.bool x.like.y,.int .i64 x.like.n,.string ⟨x.like.t.toArray⟩,.pointer none])/\Below w.heap.size w w':=by
 have lb:=A5 h.blk;have HL:=A0 (Sj (h.keep (w':=w.alloc (.cells #[.bool false,.bool false,.int .i64 0,.bool false,.int .i64 0,.string ⟨#[]⟩,.pointer none] 407)) (fun g hg=>Below.heap_alloc _ _ _ hg)));have HA:=A0 (Pt (h.keep (w':=w.alloc (.cells #[.bool false,.bool false,.int .i64 0,.bool false,.int .i64 0,.string ⟨#[]⟩,.pointer none] 407)) (fun g hg=>Below.heap_alloc _ _ _ hg)) ((xs.length:Int)-1) hb x (by rw[hx];exact Qu _ xs));clear h hx;go_enter Tryz.func300,Tryz.ntmps300;go_wp2_with fail
 refine HL.o.mono ?_;rintro e w0 ⟨rfl,Cz⟩;subst Cz;go_wp2_with fail
 refine HA.o.mono ?_;rintro e w1 ⟨rfl,A1⟩;have hR:=Fq A1 (heap_alloc_new w (.cells #[.bool false,.bool false,.int .i64 0,.bool false,.int .i64 0,.string ⟨#[]⟩,.pointer none] 407));have r0:=A2 hR 0 _ rfl;have r1:=A2 hR 1 _ rfl;have r2:=A2 hR 2 _ rfl;have r3:=A2 hR 3 _ rfl;have r4:=A2 hR 4 _ rfl;have r5:=A2 hR 5 _ rfl;have r6:=A2 hR 6 _ rfl;have fr:=Bd hR;have lr:=A5 hR;have A4:Hid (Below w.heap.size w w1):=(Below.alloc (Below.refl _ _) (Nat.le_refl _) _).trans (A1.mono z50a);clear A1 hR HL HA;go_wp2;refine bodyPost_ret (v:=.agg #[.bool x.kind,.bool x.whole,.int .i64 (x.like.k:Nat),.bool x.like.y,.int .i64 x.like.n,.string ⟨x.like.t.toArray⟩,.pointer none]) (by simp[results,Tryz.results300,go_sem,r0,r1,r2,r3,r4,r5,r6]) rfl ⟨rfl,?_⟩;iterate 7 refine Below.setCell ?_ z50a _
 exact A4.o
structure E9 (D : Nat -> Prop) (kb pb : Nat) (P : D7) (ps : List Kn) (pa : Option Addr) (pc : Nat) (w : World) (ab : List Kn) (va : Option Addr) (vc : Nat) : Prop where
 st:Dh 407 7 El kb 2 w #[.pointer (some ⟨pb,0,none⟩),.slice pa ps.length pc,.slice va ab.length vc] 414 va ab.length vc ab
 par:Cw D w 407 7 (.slice pa ps.length pc) ps.length (Bw El ps)
 prog:K3 D w pb P
 nd:¬D kb/\∀g,(Value.slice va ab.length vc).ownBlock=some g->¬D g
 lo:∀g,D g->g<w.heap.size
 Br:ab.length<=100000/\ps.length<=1000
variable {D:Nat->Prop} {kb pb:Nat} {P:D7} {ps:List Kn} {pa:Option Addr} {pc:Nat} {w w':World} {ab:List Kn} {va:Option Addr} {vc:Nat}
theorem E9.below(h:E9 D kb pb P ps pa pc w ab va vc)(hb:Below w.heap.size w w'):E9 D kb pb P ps pa pc w' ab va vc:=
 ⟨h.st.keep hb.block,h.par.keep (fun g hg hl=>⟨hb.block g hl,hg⟩),h.prog.keep (fun g hg hl=>⟨hb.block g hl,hg⟩),h.nd,fun g hg=>Nat.lt_of_lt_of_le (h.lo g hg) hb.size,h.Br⟩
def KP(w:World)(r:Value)(e:Ending)(w':World):Prop:=e=.returned r/\Below w.heap.size w w'
theorem Tt{a b:World}{B:Nat}(h:Below B a b)(n:Nat):Below B a (b.drewN n):=⟨h.os,h.tape,h.output,h.size,h.block⟩
theorem J5{w W:World}(hb:Below w.heap.size w W){b:Nat}(hk:w.heap.size<=b)(c0 c1 c2 c3 c4 c5 c6:Value):Below w.heap.size w (((((((W.setCell ⟨b,0,none⟩ c0).setCell ⟨b,1,none⟩ c1).setCell ⟨b,2,none⟩ c2).setCell ⟨b,3,none⟩ c3).setCell ⟨b,4,none⟩ c4).setCell ⟨b,5,none⟩ c5).setCell ⟨b,6,none⟩ c6):=by
 iterate 7 refine Below.setCell ?_ hk _
 exact hb
theorem Jw(w:World)(o:Obj):Below w.heap.size w (w.alloc o):=Below.alloc (Below.refl _ _) (Nat.le_refl _) _
theorem z1na {P:Prop} (h:P:=by
  clear hn ho;go_enter Tryz.func298,Tryz.ntmps298;go_wp2;go_quiet (fail)
  go_wp2;refine bodyPost_ret (v:=B9 En) (by simp[results,Tryz.results298,go_sem,B9,En,Ag]) rfl ⟨rfl,?_⟩;exact J5 (Tt (Below.alloc (Below.alloc (Below.refl _ _) (Nat.le_refl _) _) z50a _) _) z4va _ _ _ _ _ _ _):P:=h
theorem A1n(h:E9 D kb pb P ps pa pc w ab va vc)(i:Ac)(hn:¬(i.op=1/\i.arg<(ps.length:Nat))):Calls Tryz.prog 298 #[.pointer (some ⟨kb,0,none⟩),Ab i] w (KP w (B9 En)):=by
 have c1:=A2 h.st.blk 1 _ rfl;have lb:=A5 h.st.blk;clear h;unfold Ab;by_cases ho:i.op=1
 ·have t0:((i.op:Int)==1)=true:=by rw[ho];rfl
  have t1:¬i.arg<((ps.length:Nat):Int):=fun q=>hn ⟨ho,q⟩;exact z1na
 ·have t0:((i.op:Int)==1)=false:=by rw[beq_eq_false_iff_ne];omega
  exact z1na
theorem Ag4(h:E9 D kb pb P ps pa pc w ab va vc)(i:Ac)(ho:i.op=1)(j:Nat)(hj:i.arg=(j:Nat))(hl:j<ps.length):Calls Tryz.prog 298 #[.pointer (some ⟨kb,0,none⟩),Ab i] w (KP w (B9 ps[j])):=by
 have c1:=A2 h.st.blk 1 _ rfl;have lb:=A5 h.st.blk;have hfew:=h.Br.2;have t0:((i.op:Int)==1)=true:=by rw[ho];rfl
 have t1:((j:Nat):Int)<((ps.length:Nat):Int):=by omega
 obtain⟨g,rfl,hvn9,hcap,lg,hcell⟩:=Fo h.par.1 z4va;clear hvn9;have d0:=hcell (j*7+0) _ ((D1 (sz:=7) (fun _=>rfl) ps j 0 hl z4va).trans rfl);have d1:=hcell (j*7+1) _ ((D1 (sz:=7) (fun _=>rfl) ps j 1 hl z4va).trans rfl);have d2:=hcell (j*7+2) _ ((D1 (sz:=7) (fun _=>rfl) ps j 2 hl z4va).trans rfl);have d3:=hcell (j*7+3) _ ((D1 (sz:=7) (fun _=>rfl) ps j 3 hl z4va).trans rfl);have d4:=hcell (j*7+4) _ ((D1 (sz:=7) (fun _=>rfl) ps j 4 hl z4va).trans rfl);have d5:=hcell (j*7+5) _ ((D1 (sz:=7) (fun _=>rfl) ps j 5 hl z4va).trans rfl);have d6:=hcell (j*7+6) _ ((D1 (sz:=7) (fun _=>rfl) ps j 6 hl z4va).trans rfl);rw[Nat.add_zero]at d0;clear h hcell ho;generalize ps[j]=x at *;unfold Ab;rw[hj];go_enter Tryz.func298,Tryz.ntmps298;go_wp2;go_quiet (fail)
 go_wp2;obtain⟨w5,Jf⟩:∃w5,w5=(((w.alloc (.cells #[.int .i64 (i.op:Nat),.int .i64 (j:Nat),.int .i64 (i.line:Nat),.int .i64 (i.v.k:Nat),.bool i.v.y,.int .i64 i.v.n,.string ⟨i.v.t.toArray⟩,.pointer none] 251)).alloc (.cells #[.bool false,.bool false,.int .i64 0,.bool false,.int .i64 0,.string ⟨#[]⟩,.pointer none] 407)).drewN nq):=⟨_,rfl⟩;rw[←Jf];have Ch:Below w.heap.size w w5:=by rw[Jf];exact Tt (Below.alloc (Below.alloc (Below.refl _ _) (Nat.le_refl _) _) z50a _) _
 have q1:w5.heap[w.heap.size]?=some (.cells #[.int .i64 (i.op:Nat),.int .i64 (j:Nat),.int .i64 (i.line:Nat),.int .i64 (i.v.k:Nat),.bool i.v.y,.int .i64 i.v.n,.string ⟨i.v.t.toArray⟩,.pointer none] 251 (0,0)):=by rw[Jf];exact alloc_old (heap_alloc_new w _)
 have q2:w5.heap[w.heap.size+1]?=some (.cells #[.bool false,.bool false,.int .i64 0,.bool false,.int .i64 0,.string ⟨#[]⟩,.pointer none] 407 (0,0)):=by
  rw[Jf,show w.heap.size+1=(w.alloc (.cells #[.int .i64 (i.op:Nat),.int .i64 (j:Nat),.int .i64 (i.line:Nat),.int .i64 (i.v.k:Nat),.bool i.v.y,.int .i64 i.v.n,.string ⟨i.v.t.toArray⟩,.pointer none] 251)).heap.size by simp];exact heap_alloc_new (w.alloc (.cells #[.int .i64 (i.op:Nat),.int .i64 (j:Nat),.int .i64 (i.line:Nat),.int .i64 (i.v.k:Nat),.bool i.v.y,.int .i64 i.v.n,.string ⟨i.v.t.toArray⟩,.pointer none] 251)) (.cells #[.bool false,.bool false,.int .i64 0,.bool false,.int .i64 0,.string ⟨#[]⟩,.pointer none] 407)
 have E4:=A0 Ch;have hc5:∀(k o:Nat),k<w.heap.size->w5.cell? ⟨k,o,none⟩=w.cell? ⟨k,o,none⟩:=fun k o hk=>World.cell?_of_block (Ch.block k hk);rw[←hc5 _ _ lb]at c1;rw[←hc5 _ _ lg]at d0 d1 d2 d3 d4 d5 d6;obtain⟨n0,n1,n2,n3,n4,n5,n6,n7,ln⟩:=B1 q1;have r0:=A2 q2 0 _ rfl;have r1:=A2 q2 1 _ rfl;have r2:=A2 q2 2 _ rfl;have r3:=A2 q2 3 _ rfl;have r4:=A2 q2 4 _ rfl;have r5:=A2 q2 5 _ rfl;have r6:=A2 q2 6 _ rfl;have fr:=Bd q2;have lr:=A5 q2;have lb5:=Nat.lt_of_lt_of_le lb Ch.size;have lg5:=Nat.lt_of_lt_of_le lg Ch.size;clear Jf q1 q2 hc5 Ch;refine Ih 8 z4xa z4xa ?_;simp only[List.take_succ_cons,List.take_zero,List.drop_succ_cons,List.drop_zero];iterate 8 (refine Ez (fun K' hK'=>?_);go_simp;refine hK' _ ?_;clear hK' K')
 refine Ig ?_;go_wp2;refine bodyPost_ret (v:=B9 x) (by simp[results,Tryz.results298,go_sem,B9,r0,r1,r2,r3,r4,r5,r6]) rfl ⟨rfl,?_⟩;exact Below.drew (J5 E4.o z4va _ _ _ _ _ _ _)
theorem M6(h:E9 D kb pb P ps pa pc w ab va vc)(i:Ac)(ha:0<=i.arg):Calls Tryz.prog 298 #[.pointer (some ⟨kb,0,none⟩),Ab i] w (KP w (B9 (Fm ps i))):=by
 unfold Fm;by_cases ho:i.op=1
 ·rw[if_pos ho];by_cases hl:i.arg.toNat<ps.length
  ·rw[List.getElem?_eq_getElem hl];exact Ag4 h i ho i.arg.toNat z4va hl
  ·rw[List.getElem?_eq_none z4va];exact A1n h i (fun q=>hl z4va)
 ·rw[if_neg ho];exact A1n h i (fun q=>ho q.1)
theorem Yn(ab:List Kn):E7 ab=if((ab.length:Int)-1)<0 then En else(ab[((ab.length:Int)-1).toNat]?).getD En:=Qu _ ab
theorem Yh(ab:List Kn):Kx ab=if((ab.length:Int)-1-1)<0 then En else(ab[((ab.length:Int)-1-1).toNat]?).getD En:=by
 unfold Kx;rw[Qu];by_cases h:ab.length<=1
 ·rw[if_pos z4ya,if_pos z4va]
 ·rw[if_neg z4ya,if_neg z4va];rw[List.length_dropLast,List.getElem?_dropLast];rw[if_pos z4va];congr 3
  omega
theorem L9(h:E9 D kb pb P ps pa pc w ab va vc)(kd:Nat):Calls Tryz.prog 299 #[.pointer (some ⟨kb,0,none⟩),.int .i64 (kd:Nat)] w (KP w (.bool (Fc ab kd))):=by
 have lb:=A5 h.st.blk;have hfew:=h.Br.1;have HL:=A0 (Sj h.st);have HA:=A0 (Pt h.st ((ab.length:Int)-1) z4va (E7 ab) (Yn ab));have HM:=A0 h;clear h;unfold Fc;cases hx:(E7 ab).sure kd
 ·go_enter Tryz.func299,Tryz.ntmps299;go_wp2_with fail
  refine HL.o.mono ?_;rintro e w1 ⟨rfl,Fu⟩;rw[Fu];clear Fu w1;go_wp2_with fail
  refine HA.o.mono ?_;rintro e w1 ⟨rfl,A1⟩;have A7:=A0 (fun(W:World)=>Mm (E7 ab) kd W);rw[hx]at A7;have A4:=A0 A1;have HM1:=A0 (HM.o.below A1);have Bj:kb<w1.heap.size:=Nat.lt_of_lt_of_le lb A1.size;clear A1;unfold B9 at A7;generalize E7 ab=x at *;go_wp2_with fail
  refine(A7.o _).mono ?_;rintro e w2 ⟨rfl,A8⟩;have Aa:Hid (Below w.heap.size w w2):=A4.o.trans (A8.mono A4.o.size);have HM2:=A0 (HM1.o.below A8);have E2:kb<w2.heap.size:=Nat.lt_of_lt_of_le Bj A8.size;clear A8;go_wp2;go_ret;exact⟨rfl,Aa.o⟩
 ·go_enter Tryz.func299,Tryz.ntmps299;go_wp2_with fail
  refine HL.o.mono ?_;rintro e w1 ⟨rfl,Fu⟩;rw[Fu];clear Fu w1;go_wp2_with fail
  refine HA.o.mono ?_;rintro e w1 ⟨rfl,A1⟩;have A7:=A0 (fun(W:World)=>Mm (E7 ab) kd W);rw[hx]at A7;have A4:=A0 A1;have HM1:=A0 (HM.o.below A1);have Bj:kb<w1.heap.size:=Nat.lt_of_lt_of_le lb A1.size;clear A1;unfold B9 at A7;generalize E7 ab=x at *;go_wp2_with fail
  refine(A7.o _).mono ?_;rintro e w2 ⟨rfl,A8⟩;have Aa:Hid (Below w.heap.size w w2):=A4.o.trans (A8.mono A4.o.size);have HM2:=A0 (HM1.o.below A8);have E2:kb<w2.heap.size:=Nat.lt_of_lt_of_le Bj A8.size;clear A8;have HA2:=A0 (Pt HM2.o.st ((ab.length:Int)-1-1) (by have:=HM2.o.Br.1;omega) (Kx ab) (Yh ab));have Bc:=A0 (fun(W:World)=>Mm (Kx ab) kd W);unfold B9 at Bc;generalize hy:Kx ab=y at *;clear hy;generalize hz:y.sure kd=z at *;clear hz;go_wp2_with fail
  refine HA2.o.mono ?_;rintro e w3 ⟨rfl,Aj⟩;have Av:Hid (Below w.heap.size w w3):=Aa.o.trans (Aj.mono Aa.o.size);clear Aj;go_wp2_with fail
  refine(Bc.o _).mono ?_;rintro e w4 ⟨rfl,B8⟩;have Cn:Hid (Below w.heap.size w w4):=Av.o.trans (B8.mono Av.o.size);clear B8;go_wp2;go_ret;exact⟨rfl,Cn.o⟩
end
end Go.Proofs.YtjdlndhfaaolaaaGreatDoor
