/- Proved: for all ints a and b, and whatever kinds and ints are bet, gambitkeep.Reckoned answers true: the program that it makes of a and b is compiled and run, and prints the sums, differences, products, quotients, remainders and comparisons that it must, twice, whatever is bet of its function. Conditions: the package-level variables that the row lists hold what the program lays into them (the card ties them); commit 93bd375. The texts are our sources with blanks taken out and names shortened, by program, so that they fit the size of a claim. -/
import Derived.Deep.DeepWitnessRowRef
import Derived.LaidMore
import Derived.ProofKit
import Derived.ShutString
import Derived.Test.YtjdlndhfaaolaaaGreatDoorCards
import Derived.Test.YtjdlndhfaaolaaaGreatDoorTie
import Derived.Test.YtjdlndhfaaolaaaGreatDoorQ03
import Derived.Test.YtjdlndhfaaolaaaGreatDoorQ33
import Derived.Test.YtjdlndhfaaolaaaGreatDoorQ52
set_option maxHeartbeats 20000000
namespace Go.Proofs.YtjdlndhfaaolaaaGreatDoor
section
set_option maxRecDepth 100000
open Go.ChangeShapes Go.WideShapes Go.ChangeAt Go.RowKit Go.ChangeMaps
theorem Al2:ownKnob Tryz.prog.godebug=none:=by kernel_rfl
theorem A3i:(Tryz.prog.globals[Js]?).map (·.type)=some 452:=by kernel_rfl
theorem A8l:Tryz.prog.underlying 452=some (.array 20 389):=by kernel_rfl
theorem Ado{W:World}(h:laidMetH Tryz.prog Rows.reckonedRow.laid W):G8 W:=by
 rw[MakeChecks.laidMetH_plain _ _ _ (by kernel_rfl)]at h;obtain⟨ps,⟨g0,t0,cs0,f0,p0,q0,Fw,ht0,hv0,hd0,⟨g1,t1,cs1,f1,p1,q1,hg1,ht1,hv1,hd1,⟨g2,t2,cs2,f2,p2,q2,Gn,ht2,H8,hd2,_,_⟩,_⟩,_⟩,_,_⟩:=h;clear hd0 hd1 hv0 hv1 ht0 ht1 Fw hg1;obtain rfl:=Option.some.inj (Ud.symm.trans Gn);obtain rfl:=Option.some.inj (A3i.symm.trans ht2);have hs:=Lib.cells_of_tab (k:=.u64) (zs:=Lib.pow10Tab) A8l Tryz.underlying389 (by kernel_rfl) (by kernel_rfl) hd2;unfold G8 Lib.TabIs;rw[←hs,Array.toArray_toList];exact H8
theorem Uu{n:Int}(h:(Lit.int .i64 n).wf=true):D7 n:=by
 simp only[Lit.wf,Bool.and_eq_true,decide_eq_true_eq]at h;exact h
theorem Yd{H:Type}{enc:TypeId×Value->H}{t e:TypeId}{W:World}{v:Value}{d:DataW H}{ps:List MemPlace}(ht:Tryz.prog.underlying t=some (.slice e))(he:Tryz.prog.underlying e=some (.int .i64))(hc:Tryz.prog.cellsOf e=1)(hv:∃a n c,v=.slice a n c)
  (h:DataW.Trod enc Tryz.prog W 0 (fun _=>true) true t v d ps):∃(l:List Int) (a:Option Addr) (c:Nat),v=.slice a l.length c/\Jf K8 W (.slice a l.length c) (ints l)/\∀n∈l,D7 n:=by
 obtain⟨a,n,c,rfl⟩:=hv;obtain⟨fuel,hf⟩:=h;rcases open_ints ht he hc hf with⟨hcs,hx⟩|⟨ad,len,cap,zs,hcs,_,hl,hm,hz,hx,hcell,hwz⟩
 ·have e:Value.slice a n c=.slice none 0 0:=by
   have h:[Value.slice a n c]=[Value.slice none 0 0]:=hcs;injection h
  injection e with e1 e2 e3;subst e1 e2 e3;exact⟨[],none,0,rfl,⟨none,0,rfl,fun q=>absurd rfl q⟩,fun n hn=>by cases hn⟩
 ·have e:Value.slice a n c=.slice (some ad) len cap:=by
   have h:[Value.slice a n c]=[Value.slice (some ad) len cap]:=hcs;injection h
  injection e with e1 e2 e3;subst e1 e2 e3;rw[if_pos rfl]at hz;have hlen:(zs.take n).length=n:=by rw[List.length_take];omega
  refine⟨zs.take n,some ad,c,by rw[hlen],⟨some ad,c,by simp[ints],fun q=>?_⟩,fun m hm'=>Uu (hwz m (List.mem_of_mem_take hm'))⟩;have hn:n≠0:=fun e=>q (by simp[ints,e]);obtain⟨b,o,sp⟩:=ad;have h0:=hcell 0 (by omega);have hsp:sp=none:=by
   cases sp with
   | none=>rfl
   | some k=>exact absurd h0 (by unfold World.cell?;split <;> simp[Addr.add])
  subst hsp;refine⟨b,o,rfl,trivial,block_lt_of_cell h0,fun j x hx=>?_⟩;have hj:j<n:=by
   have:=(List.getElem?_eq_some_iff.1 hx).1;rw[ints,List.length_map,hlen]at this;exact this
  have hjz:j<zs.length:=by omega
  have:=hcell j hjz;have hx':x=.int .i64 (zs.getD j 0):=by
   simp only[ints,List.getElem?_map,List.getElem?_take,hj,if_true,List.getElem?_eq_getElem hjz,Option.map_some,Option.some.injEq]at hx;rw[←hx,List.getD_eq_getElem?_getD,List.getElem?_eq_getElem hjz];rfl
  rw[hx'];by_cases hj0:j=0
  ·subst hj0;simpa [Addr.add]using this
  ·simpa [Addr.add,hj0]using this
theorem A09:laidOutB Tryz.prog=true:=A2c
theorem trod_lt{H:Type}{enc:TypeId×Value->H}{W:World}{t:TypeId}{v:Value}{d:DataW H}{ps:List MemPlace}(h:DataW.Trod enc Tryz.prog W 0 (fun _=>true) true t v d ps):∀x∈ps,x.block<W.heap.size:=DataW.TrodAll.lt (trodAll_mk1 h)
theorem A3r(H:Type)(enc:TypeId×Value->H)(W:World)(base:Nat)(args:Array Value)(ds gs:List (DataW H))(before:List MemPlace)
  (hval:∀(j:Nat) t v,Tryz.f5.params[j]?=some t->args[j]?=some v->Value.okWide Tryz.prog W .any base t v)
  (hW:DataW.Whole enc Tryz.prog Tryz.f5.params.toList Rows.reckonedSpec.vars false W args.toList ds gs before) (hL:laidMetH Tryz.prog Rows.reckonedRow.laid W) :
  Calls Tryz.prog 5 args W fun e W'=>∃v,e=.returned v/\Rows.reckonedSpec.post enc Tryz.prog Tryz.f5 false true false false W args v W':=by
 have hW':=hW;obtain⟨p,q,hA0,hV,rfl,hfz,hnd⟩:=hW;have hA:DataW.TrodAll enc Tryz.prog W 0 (fun _=>true) true Tryz.f5.params.toList args.toList ds p:=hA0;rw[Tryz.params5]at hA hval;obtain⟨v0,v1,v2,v3,d0,d1,d2,d3,p0,p1,p2,p3,rfl,rfl,rfl,h0,h1,h2,h3⟩:=trodAll_four hA;obtain⟨rfl,rfl⟩:=trodVars_none hV;have h0k:=h0;have h1k:=h1;obtain⟨a,rfl,rfl,rfl,wa⟩:=open_int Tryz.underlying2 (hval 0 2 v0 rfl rfl) h0;obtain⟨b,rfl,rfl,rfl,wb⟩:=open_int Tryz.underlying2 (hval 1 2 v1 rfl rfl) h1;obtain⟨kinds,ka,kc,rfl,hk,_⟩:=Yd Tryz.underlying34 Tryz.underlying3 (by kernel_rfl) (okWide_slice Tryz.underlying34 (hval 2 34 v2 rfl rfl)) h2;obtain⟨is,ia,ic,rfl,hi,hii⟩:=Yd Tryz.underlying35 Tryz.underlying2 (by kernel_rfl) (okWide_slice Tryz.underlying35 (hval 3 35 v3 rfl rfl)) h3;clear hA0;have ht:=Ado hL;have ha:=Uu wa;have hb:=Uu wb;refine(Aas Aen ha hb (Aj4 a b ha hb kinds is hii) W (Ac8 hL) (Nat.le_of_lt (A2m ht)) ht ka kc ia ic hk hi).mono fun e W' ⟨he,hbl⟩=>?_;subst he;refine⟨_,rfl,_,_,_,[],[]++([]++(p2++(p3++[]))),[],hW',?_,?_,?_,hbl.frame _,fun h=>by cases h⟩
 ·exact trodAll_cons_mk (shut_bool Tryz.underlying4 _) trodAll_mk0
 ·exact trodAll_cons_mk (shut_int Tryz.underlying2 wa) (trodAll_cons_mk (shut_int Tryz.underlying2 wb) (trodAll_cons_mk (Below.trod A09 (by kernel_rfl) (of_decide_eq_true (by kernel_rfl)) h2 hbl (trod_lt h2)) (trodAll_cons_mk (Below.trod A09 (by kernel_rfl) (of_decide_eq_true (by kernel_rfl)) h3 hbl (trod_lt h3)) trodAll_mk0)))
 ·rfl
theorem Akj(os:Os)(args:Array Value):laidMetH Tryz.prog Rows.reckonedRow.laid ((World.doorLaid Tryz.prog 400 os).forCall (fun _ _=>0) ⟨#[],args,[]⟩).memory:=by
 rw[MakeChecks.laidMetH_plain _ _ _ (by kernel_rfl)];exact laidMet_of_run' 8 (by kernel_rfl) (by kernel_rfl)
theorem Adn(os:Os){H:Type}(enc:TypeId×Value->H):∃places,DataW.whole enc Tryz.prog ((World.doorLaid Tryz.prog 400 os).forCall (fun _ _=>0) ⟨#[],#[.int .i64 0,.int .i64 0,.slice none 0 0,.slice none 0 0],[]⟩).memory Tryz.f5.params.toList Rows.reckonedSpec.vars false #[Value.int .i64 0,.int .i64 0,.slice none 0 0,.slice none 0 0].toList 8=some ([.lit (.int .i64 0),.lit (.int .i64 0),.nil,.nil],[],places):=
 ⟨[],by kernel_rfl⟩
theorem Ah9(os:Os)(started:os.Started)(H:Type)(enc:TypeId×Value->H)(F:Stop.Interp) :
  ReturnsInHanded {} Tryz.checked os 5 .any ((OpenSpec.ofChange Rows.reckonedSpec).preRow enc Tryz.prog Tryz.f5 Rows.reckonedRow.domain false Rows.reckonedRow.laid) (((OpenSpec.ofChange Rows.reckonedSpec).at F).post enc Tryz.prog Tryz.f5 false true false false):=by
 obtain⟨places,hx⟩:=Adn os enc;refine returnsInHanded_of_row (C:=Tryz.checked) (s:=OpenSpec.ofChange Rows.reckonedSpec) Al2 started (by kernel_rfl) Tryz.func5
  (witness_row_atRef (enc:=enc) (C:=Tryz.checked) false (World.doorLaid Tryz.prog 400 os) #[.int .i64 0,.int .i64 0,.slice none 0 0,.slice none 0 0] rfl (by kernel_rfl) (by kernel_rfl) (by kernel_rfl)
   (OpenSpec.preRow_of_cond 8 hx (by kernel_rfl) (fun k hk=>by cases hk) (by kernel_rfl) (Akj os _))) ?_
 intro W base args ds gs before hval hW _ _ _ hL _ _;exact A3r H enc W base args ds gs before hval hW hL
theorem A67:Rows.ReckonedSaid:=
 OpenClaim.holds_of_cond 5 Tryz.f5 rfl rfl rfl rfl rfl rfl rfl ⟨rfl,rfl,rfl,rfl,rfl⟩ rfl rfl rfl rfl rfl (by kernel_rfl) Tryz.func5 Ait
  (of_decide_eq_true (by kernel_rfl)) (by unfold Func.isWrapper;first|(rw[if_pos (by decide +kernel)];kernel_rfl)|(rw[if_neg (by decide +kernel)];exact⟨rfl,rfl⟩))
  (fun os started H enc _ F=>by rw[OpenClaim.pre_eq_preRow];exact Ah9 os started H enc F)
theorem A9t(f:FuncId)(fn:Func)(hf:Tryz.pinned.checked.prog.funcNamed "gambit/gambitkeep.Reckoned"=some f)(hfn:Tryz.pinned.checked.prog.funcs[f]?=some fn) :
  true=Tryz.pinned.checked.prog.looks []/\∀(j:Nat) t,fn.params[j]?=some t->Tryz.pinned.checked.prog.wantsStandIn t=false:=by
 obtain rfl:f=5:=Option.some.inj ((show Tryz.prog.funcNamed "gambit/gambitkeep.Reckoned"=some 5 by kernel_rfl).symm.trans hf) |>.symm;obtain rfl:fn=Tryz.f5:=(Option.some.inj (Tryz.func5.symm.trans hfn)).symm;refine⟨by kernel_rfl,fun j t ht=>?_⟩;rw[Tryz.params5]at ht;have hm:=Array.mem_of_getElem? ht;simp only[List.mem_toArray,List.mem_cons,List.not_mem_nil,or_false]at hm;rcases hm with rfl|rfl|rfl|rfl
 ·exact(show Tryz.prog.wantsStandIn 2=false by kernel_rfl)
 ·exact(show Tryz.prog.wantsStandIn 2=false by kernel_rfl)
 ·exact(show Tryz.prog.wantsStandIn 34=false by kernel_rfl)
 ·exact(show Tryz.prog.wantsStandIn 35=false by kernel_rfl)
theorem reckoned_card:Rows.ReckonedCardSaid:=
 Claim7.holds_tied_plain_at .later [] _ _ _ _ A67 (fun _ h=>by cases h) (by kernel_rfl) (fun _ h=>by cases h) reckoned_row_tie rfl ⟨rfl,rfl⟩ (by kernel_rfl) rfl A9t (by kernel_rfl)
end
end Go.Proofs.YtjdlndhfaaolaaaGreatDoor
