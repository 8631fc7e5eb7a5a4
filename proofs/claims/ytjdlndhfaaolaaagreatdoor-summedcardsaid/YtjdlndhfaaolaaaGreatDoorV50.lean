/- What is proved: gambitkeep.Summed answers true for every raw, bet and after: what the program prints, and how often its function was done the fast way and was dropped. Conditions: none beyond the row's own. The code: commit 93bd37500eb0182602347b82508c91ea91efa8cf. Blanks were taken out and names shortened by a program. -/
import Derived.Test.YtjdlndhfaaolaaaGreatDoorV05
import Derived.Test.YtjdlndhfaaolaaaGreatDoorV30
import Derived.Test.YtjdlndhfaaolaaaGreatDoorV46
import Derived.Test.YtjdlndhfaaolaaaGreatDoorV48
import Derived.Test.YtjdlndhfaaolaaaGreatDoorV49
set_option maxHeartbeats 20000000
namespace Go.Proofs.YtjdlndhfaaolaaaGreatDoor
section
set_option maxRecDepth 100000
open Go.ChangeShapes Go.WideShapes Go.ChangeAt Go.RowKit Go.ChangeMaps
theorem Ajz(rs:List Int)(k:Nat)(bet:Int)(hl:rs.length<=20)(hr:∀r∈rs,D4 r)(hb:D4 bet):Z6 (Gm rs) [bU k bet] [Lib.itoa (Jz 0 rs)] [Km k bet Mf rs]:=by
 obtain⟨n,m',hn,h1,h2,h3,h4,h5⟩:=Ao3 rs k bet hr hl;have hf:=Ad5 rs hr hl;have hbt:∀x∈[bU k bet],Mq x:=by
  intro x hx;simp only[List.mem_singleton]at hx;rw[hx];intro y hy;simp only[bU,List.mem_cons,List.not_mem_nil,or_false]at hy;rcases hy with rfl|rfl
  ·exact O2
  ·exact hb
 have hll:=A3l hf hbt h1;have:=A3m (P:=Gm rs) (bets:=[bU k bet]) (n:=n) h1 (A27 hf hbt z4va n 2 _ (Xg hf) h2 z4va) (by rw[hll];show(1:Nat)<=1000;omega) (fun f hf=>by simp only[Gm,List.mem_singleton]at hf;rw[hf];exact of_decide_eq_true z4xa) (by show(1:Nat)<=1000;omega) (by show(3:Nat)<=1000;omega) (by show(0:Nat)<=1000;omega) h3;rw[h4,h5]at this;exact this
theorem Ao1{raw:List Int}(hraw:∀r∈raw,D4 r){bet aft:Int}(hbt:D4 bet)(haf:D4 aft)(w:World)(hg:It w)(hw:4<=w.heap.size)(ht:G3 w)(ra:Option Addr)(rc:Nat)(hr:Lg Mc w (.slice ra raw.length rc) (ints raw)) :
  Calls Tryz.prog 10 #[.slice ra raw.length rc,.int .i64 bet,.int .i64 aft] w fun e w'=>e=.returned (.bool true)/\Below w.heap.size w w':=by
 have hl:(raw.take 20).length<=20:=by simp;omega
 have hr':∀r∈raw.take 20,D4 r:=fun r h=>hraw r (List.mem_of_mem_take h);refine Apq hraw haf w (A8p Ajf w hg hw ht) (fun n W h=>n8 n h W) (fun n W h=>Ap2 n h W) (fun W hB=>?_) (fun k W gb E v hB hp hE hbs=>Ajz (raw.take 20) k bet hl hr' hbt W gb E v hp hE (ht.keep hB) hbs) A3n ra rc hr;refine(b9 _ (fun _=>Aha (raw.take 20) hl hr') W (hg.below hB) (Nat.le_trans hw hB.size)).mono ?_;rintro e w' ⟨h1,h2⟩;obtain⟨c,q1,q2⟩:=Ap8 (raw.take 20) hl hr';rcases h2 with⟨h2,_⟩|⟨c',gb,E,p1,_,_,_,p2,p3,p4⟩
 ·rw[q1]at h2;exact absurd rfl h2
 ·rw[q1]at p1;obtain rfl:c=c':=by injection p1 with _ p1;injection p1
  rw[q2]at p3;exact⟨gb,E,p2,p3,fun g hg'=>(p4 g hg').2,h1⟩
theorem Anx(H:Type)(enc:TypeId×Value->H)(W:World)(base:Nat)(args:Array Value)(ds gs:List (DataW H))(before:List MemPlace)
  (hval:∀(j:Nat) t v,Tryz.f10.params[j]?=some t->args[j]?=some v->Value.okWide Tryz.prog W .any base t v)
  (hW:DataW.Whole enc Tryz.prog Tryz.f10.params.toList Rows.summedSpec.vars false W args.toList ds gs before) (hL:laidMetH Tryz.prog Rows.summedRow.laid W) :
  Calls Tryz.prog 10 args W fun e W'=>∃v,e=.returned v/\Rows.summedSpec.post enc Tryz.prog Tryz.f10 false true false false W args v W':=by
 have hW':=hW;obtain⟨p,q,hA0,hV,rfl,hfz,hnd⟩:=hW;have hA:DataW.TrodAll enc Tryz.prog W 0 (fun _=>true) true Tryz.f10.params.toList args.toList ds p:=hA0;rw[Tryz.params10]at hA hval;obtain⟨v0,v1,v2,d0,d1,d2,p0,p1,p2,rfl,rfl,rfl,h0,h1,h2⟩:=trodAll_three hA;obtain⟨rfl,rfl⟩:=trodVars_none hV;obtain⟨raw,ra,rc,rfl,hr,hri⟩:=Ajn Tryz.underlying35 Tryz.underlying2 z4xa (okWide_slice Tryz.underlying35 (hval 0 35 v0 rfl rfl)) h0;obtain⟨a,rfl,rfl,rfl,wa⟩:=open_int Tryz.underlying2 (hval 1 2 v1 rfl rfl) h1;obtain⟨b,rfl,rfl,rfl,wb⟩:=open_int Tryz.underlying3 (hval 2 3 v2 rfl rfl) h2;clear hA0;have ht:=Ao9 hL;have ha:=X9 wa;have hb:=X9 wb;refine(Ao1 hri ha hb W (Ae5 hL) (Nat.le_of_lt (A4c ht)) ht ra rc hr).mono fun e W' ⟨he,hbl⟩=>?_;subst he;refine⟨_,rfl,_,_,_,[],p0++([]++([]++[])),[],hW',?_,?_,?_,hbl.frame _,fun h=>by cases h⟩
 ·exact trodAll_cons_mk (shut_bool Tryz.underlying4 _) trodAll_mk0
 ·exact trodAll_cons_mk (Below.trod Afl z4xa (of_decide_eq_true z4xa) h0 hbl (trod_lt h0)) (trodAll_cons_mk (shut_int Tryz.underlying2 wa) (trodAll_cons_mk (shut_int Tryz.underlying3 wb) trodAll_mk0))
 ·rfl
theorem Abq(os:Os)(args:Array Value):laidMetH Tryz.prog Rows.summedRow.laid ((World.doorLaid Tryz.prog 400 os).forCall (fun _ _=>0) ⟨#[],args,[]⟩).memory:=by
 rw[MakeChecks.laidMetH_plain _ _ _ z4xa];exact laidMet_of_run' 8 z4xa z4xa
theorem Abr(os:Os){H:Type}(enc:TypeId×Value->H):∃places,DataW.whole enc Tryz.prog ((World.doorLaid Tryz.prog 400 os).forCall (fun _ _=>0) ⟨#[],#[.slice none 0 0,.int .i64 0,.int .i64 0],[]⟩).memory Tryz.f10.params.toList Rows.summedSpec.vars false #[Value.slice none 0 0,.int .i64 0,.int .i64 0].toList 8=some ([.nil,.lit (.int .i64 0),.lit (.int .i64 0)],[],places):=
 ⟨[],by kernel_rfl⟩
theorem Ao0(os:Os)(started:os.Started)(H:Type)(enc:TypeId×Value->H)(F:Stop.Interp) :
  ReturnsInHanded {} Tryz.checked os 10 .any ((OpenSpec.ofChange Rows.summedSpec).preRow enc Tryz.prog Tryz.f10 Rows.summedRow.domain false Rows.summedRow.laid) (((OpenSpec.ofChange Rows.summedSpec).at F).post enc Tryz.prog Tryz.f10 false true false false):=by
 obtain⟨places,hx⟩:=Abr os enc;refine returnsInHanded_of_row (C:=Tryz.checked) (s:=OpenSpec.ofChange Rows.summedSpec) Agw started z4xa Tryz.func10
  (witness_row_atRef (enc:=enc) (C:=Tryz.checked) false (World.doorLaid Tryz.prog 400 os) #[.slice none 0 0,.int .i64 0,.int .i64 0] rfl z4xa z4xa z4xa
   (OpenSpec.preRow_of_cond 8 hx z4xa (fun k hk=>by cases hk) z4xa (Abq os _))) ?_
 intro W base args ds gs before hval hW _ _ _ hL _ _;exact Anx H enc W base args ds gs before hval hW hL
theorem Ao4:Rows.SummedSaid:=
 OpenClaim.holds_of_cond 10 Tryz.f10 rfl rfl rfl rfl rfl rfl rfl ⟨rfl,rfl,rfl,rfl,rfl⟩ rfl rfl rfl rfl rfl z4xa Tryz.func10 Anz
  (of_decide_eq_true z4xa) (by unfold Func.isWrapper;first|(rw[if_pos (by decide +kernel)];kernel_rfl)|(rw[if_neg (by decide +kernel)];exact⟨rfl,rfl⟩))
  (fun os started H enc _ F=>by rw[OpenClaim.pre_eq_preRow];exact Ao0 os started H enc F)
theorem Ao2(f:FuncId)(fn:Func)(hf:Tryz.pinned.checked.prog.funcNamed "gambit/gambitkeep.Summed"=some f)(hfn:Tryz.pinned.checked.prog.funcs[f]?=some fn) :
  true=Tryz.pinned.checked.prog.looks []/\∀(j:Nat) t,fn.params[j]?=some t->Tryz.pinned.checked.prog.wantsStandIn t=false:=by
 obtain rfl:f=10:=Option.some.inj ((show Tryz.prog.funcNamed "gambit/gambitkeep.Summed"=some 10 by kernel_rfl).symm.trans hf) |>.symm;obtain rfl:fn=Tryz.f10:=(Option.some.inj (Tryz.func10.symm.trans hfn)).symm;refine⟨by kernel_rfl,fun j t ht=>?_⟩;rw[Tryz.params10]at ht;have hm:=Array.mem_of_getElem? ht;simp only[List.mem_toArray,List.mem_cons,List.not_mem_nil,or_false]at hm;rcases hm with rfl|rfl|rfl
 ·exact(show Tryz.prog.wantsStandIn 35=false by kernel_rfl)
 ·exact(show Tryz.prog.wantsStandIn 2=false by kernel_rfl)
 ·exact(show Tryz.prog.wantsStandIn 3=false by kernel_rfl)
theorem summed_card:Rows.SummedCardSaid:=
 Claim7.holds_tied_plain_at .later [] _ _ _ _ Ao4 (fun _ h=>by cases h) z4xa (fun _ h=>by cases h) summed_row_tie rfl ⟨rfl,rfl⟩ z4xa rfl Ao2 z4xa
end
end Go.Proofs.YtjdlndhfaaolaaaGreatDoor
