/- What is proved: gambitkeep.Shared answers true for every raw, at and v: what is set and pushed through one name of an array is seen through the others; a new array is its own. Conditions: none beyond the row's own. The code: commit 93bd37500eb0182602347b82508c91ea91efa8cf. Blanks were taken out and names shortened by a program. -/
import Derived.Test.YtjdlndhfaaolaaaGreatDoorT31
import Derived.Test.YtjdlndhfaaolaaaGreatDoorT48
import Derived.Test.YtjdlndhfaaolaaaGreatDoorT50
import Derived.Test.YtjdlndhfaaolaaaGreatDoorT51
set_option maxHeartbeats 20000000
namespace Go.Proofs.YtjdlndhfaaolaaaGreatDoor
section
set_option maxRecDepth 100000
open Go.ChangeShapes Go.WideShapes Go.ChangeAt Go.RowKit Go.ChangeMaps
theorem Alm{raw:List Int}(hraw:∀r∈raw,Cf r){at' v:Int}(hat:Cf at')(hv:Cf v)(w:World)(hg:Ir w)(hw:4<=w.heap.size)(ht:Gb w)(ra:Option Addr)(rc:Nat)(hr:L9 Ni w (.slice ra raw.length rc) (ints raw)) :
  Calls Tryz.prog 6 #[.slice ra raw.length rc,.int .i64 at',.int .i64 v] w fun e w'=>e=.returned (.bool true)/\Below w.heap.size w w':=
 Anz hraw hat hv w (A8i Aj1 w hg hw ht) (fun n W h=>b8 n h W) (fun n W h=>Aoz n h W) (fun W u k hk hB hbt=>Aj2 (raw.take 12) k v z54a (fun r h=>hraw r (List.mem_of_mem_take h)) hk hv W u (hg.below hB) (Nat.le_trans hw hB.size) (ht.keep hB) hbt) A3i ra rc hr
theorem Alj(H:Type)(enc:TypeId×Value->H)(W:World)(base:Nat)(args:Array Value)(ds gs:List (DataW H))(before:List MemPlace)
  (hval:∀(j:Nat) t v,Tryz.f6.params[j]?=some t->args[j]?=some v->Value.okWide Tryz.prog W .any base t v)
  (hW:DataW.Whole enc Tryz.prog Tryz.f6.params.toList Rows.sharedSpec.vars false W args.toList ds gs before) (hL:laidMetH Tryz.prog Rows.sharedRow.laid W) :
  Calls Tryz.prog 6 args W fun e W'=>∃v,e=.returned v/\Rows.sharedSpec.post enc Tryz.prog Tryz.f6 false true false false W args v W':=by
 have hW':=hW;obtain⟨p,q,hA0,hV,rfl,hfz,hnd⟩:=hW;have hA:DataW.TrodAll enc Tryz.prog W 0 (fun _=>true) true Tryz.f6.params.toList args.toList ds p:=hA0;rw[Tryz.params6]at hA hval;obtain⟨v0,v1,v2,d0,d1,d2,p0,p1,p2,rfl,rfl,rfl,h0,h1,h2⟩:=trodAll_three hA;obtain⟨rfl,rfl⟩:=trodVars_none hV;obtain⟨raw,ra,rc,rfl,hr,hri⟩:=Aj9 Tryz.underlying35 Tryz.underlying2 z53a (okWide_slice Tryz.underlying35 (hval 0 35 v0 rfl rfl)) h0;obtain⟨a,rfl,rfl,rfl,wa⟩:=open_int Tryz.underlying3 (hval 1 3 v1 rfl rfl) h1;obtain⟨b,rfl,rfl,rfl,wb⟩:=open_int Tryz.underlying2 (hval 2 2 v2 rfl rfl) h2;clear hA0;have ht:=Ao6 hL;have ha:=Wt wa;have hb:=Wt wb;refine(Alm hri ha hb W (Adr hL) (Nat.le_of_lt (A48 ht)) ht ra rc hr).mono fun e W' ⟨he,hbl⟩=>?_;subst he;refine⟨_,rfl,_,_,_,[],p0++([]++([]++[])),[],hW',?_,?_,?_,hbl.frame _,fun h=>by cases h⟩
 ·exact trodAll_cons_mk (shut_bool Tryz.underlying4 _) trodAll_mk0
 ·exact trodAll_cons_mk (Below.trod Af7 z53a (of_decide_eq_true z53a) h0 hbl (trod_lt h0)) (trodAll_cons_mk (shut_int Tryz.underlying3 wa) (trodAll_cons_mk (shut_int Tryz.underlying2 wb) trodAll_mk0))
 ·rfl
theorem Abh(os:Os)(args:Array Value):laidMetH Tryz.prog Rows.sharedRow.laid ((World.doorLaid Tryz.prog 400 os).forCall (fun _ _=>0) ⟨#[],args,[]⟩).memory:=by
 rw[MakeChecks.laidMetH_plain _ _ _ z53a];exact laidMet_of_run' 8 z53a z53a
theorem Abi(os:Os){H:Type}(enc:TypeId×Value->H):∃places,DataW.whole enc Tryz.prog ((World.doorLaid Tryz.prog 400 os).forCall (fun _ _=>0) ⟨#[],#[.slice none 0 0,.int .i64 0,.int .i64 0],[]⟩).memory Tryz.f6.params.toList Rows.sharedSpec.vars false #[Value.slice none 0 0,.int .i64 0,.int .i64 0].toList 8=some ([.nil,.lit (.int .i64 0),.lit (.int .i64 0)],[],places):=
 ⟨[],by kernel_rfl⟩
theorem All(os:Os)(started:os.Started)(H:Type)(enc:TypeId×Value->H)(F:Stop.Interp) :
  ReturnsInHanded {} Tryz.checked os 6 .any ((OpenSpec.ofChange Rows.sharedSpec).preRow enc Tryz.prog Tryz.f6 Rows.sharedRow.domain false Rows.sharedRow.laid) (((OpenSpec.ofChange Rows.sharedSpec).at F).post enc Tryz.prog Tryz.f6 false true false false):=by
 obtain⟨places,hx⟩:=Abi os enc;refine returnsInHanded_of_row (C:=Tryz.checked) (s:=OpenSpec.ofChange Rows.sharedSpec) Agi started z53a Tryz.func6
  (witness_row_atRef (enc:=enc) (C:=Tryz.checked) false (World.doorLaid Tryz.prog 400 os) #[.slice none 0 0,.int .i64 0,.int .i64 0] rfl z53a z53a z53a
   (OpenSpec.preRow_of_cond 8 hx z53a (fun k hk=>by cases hk) z53a (Abh os _))) ?_
 intro W base args ds gs before hval hW _ _ _ hL _ _;exact Alj H enc W base args ds gs before hval hW hL
theorem Alp:Rows.SharedSaid:=
 OpenClaim.holds_of_cond 6 Tryz.f6 rfl rfl rfl rfl rfl rfl rfl ⟨rfl,rfl,rfl,rfl,rfl⟩ rfl rfl rfl rfl rfl z53a Tryz.func6 Alk
  (of_decide_eq_true z53a) (by unfold Func.isWrapper;first|(rw[if_pos (by decide +kernel)];kernel_rfl)|(rw[if_neg (by decide +kernel)];exact⟨rfl,rfl⟩))
  (fun os started H enc _ F=>by rw[OpenClaim.pre_eq_preRow];exact All os started H enc F)
theorem Aln(f:FuncId)(fn:Func)(hf:Tryz.pinned.checked.prog.funcNamed "gambit/gambitkeep.Shared"=some f)(hfn:Tryz.pinned.checked.prog.funcs[f]?=some fn) :
  true=Tryz.pinned.checked.prog.looks []/\∀(j:Nat) t,fn.params[j]?=some t->Tryz.pinned.checked.prog.wantsStandIn t=false:=by
 obtain rfl:f=6:=Option.some.inj ((show Tryz.prog.funcNamed "gambit/gambitkeep.Shared"=some 6 by kernel_rfl).symm.trans hf) |>.symm;obtain rfl:fn=Tryz.f6:=(Option.some.inj (Tryz.func6.symm.trans hfn)).symm;refine⟨by kernel_rfl,fun j t ht=>?_⟩;rw[Tryz.params6]at ht;have hm:=Array.mem_of_getElem? ht;simp only[List.mem_toArray,List.mem_cons,List.not_mem_nil,or_false]at hm;rcases hm with rfl|rfl|rfl
 ·exact(show Tryz.prog.wantsStandIn 35=false by kernel_rfl)
 ·exact(show Tryz.prog.wantsStandIn 3=false by kernel_rfl)
 ·exact(show Tryz.prog.wantsStandIn 2=false by kernel_rfl)
theorem shared_card:Rows.SharedCardSaid:=
 Claim7.holds_tied_plain_at .later [] _ _ _ _ Alp (fun _ h=>by cases h) z53a (fun _ h=>by cases h) shared_row_tie rfl ⟨rfl,rfl⟩ z53a rfl Aln z53a
end
end Go.Proofs.YtjdlndhfaaolaaaGreatDoor
