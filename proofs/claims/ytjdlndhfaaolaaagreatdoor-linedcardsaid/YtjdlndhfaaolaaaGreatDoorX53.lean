/- What is proved: gambitkeep.Lined answers true for every text and every number: lines ahead of a program move its faults, and what goes wrong in it, by as many; a remark behind it changes nothing; a sign that no program may have makes it none. Conditions: none beyond the row's own. The code: commit 93bd37500eb0182602347b82508c91ea91efa8cf. Blanks were taken out and names shortened by a program. -/
import Derived.Test.YtjdlndhfaaolaaaGreatDoorX05
import Derived.Test.YtjdlndhfaaolaaaGreatDoorX33
import Derived.Test.YtjdlndhfaaolaaaGreatDoorX51
import Derived.Test.YtjdlndhfaaolaaaGreatDoorX52
set_option maxHeartbeats 20000000
namespace Go.Proofs.YtjdlndhfaaolaaaGreatDoor
section
set_option maxRecDepth 100000
open Go.ChangeShapes Go.WideShapes Go.ChangeAt Go.RowKit Go.ChangeMaps
open Go.Deep (BT)
theorem Af4{P:D5}{bets:List Da}:∀(n k:Nat) (m m':MS),n<=k->Fm P bets n m=some m'->Fm P bets k m=some m':=by
 intro n;induction n with
 | zero=>intro k m m' _ h;rw[Fm]at h;cases h
 | succ n ih=>
  intro k m m' hk h;obtain⟨k,rfl⟩:∃q,k=q+1:=⟨k-1,by omega⟩;rw[Fm]at h ⊢;split at h
  ·rename_i hc;rw[if_pos hc];exact h
  ·rename_i hc;rw[if_neg hc];split at h
   ·exact h
   ·exact ih k _ _ z4sa h
theorem A39{P:D5}(h:Pz P){m':MS}(hr:Fm P [] steps (mstart P)=some m'):Va P [] m':=by
 obtain⟨m2,h1,h2,h3,_⟩:=A2y h;obtain rfl:m'=m2:=Option.some.inj (hr.symm.trans h1);exact Aih (bets:=[]) (Ans h1 h2 (fun C X _=>Akv)) (by have:=h.fns;omega) (by have:=h.fns;omega) (by have:=h.globals;omega) (by have:=h.slots;omega)
theorem Ahr:V9 Ow [] Qy:=by
 obtain⟨c,h1,h2⟩:=Ams;have hl:Ow.length<=2000:=by rw[show Ow.length=63 by kernel_rfl];omega
 obtain⟨m',k1,k2,k3⟩:=A8g;have hP:=Yp hl h1;rw[h2]at hP;have:=Aig (A39 hP (Af4 22 steps _ _ (by unfold steps;omega) k1)) k2;rw[k3]at this;exact Ahs (A2v _ hl) h1 h2 this
theorem Aep{l:List UInt8}(hl:l.length<=140737488351232){ln:Int}(hln:Ht ln)(w:World)(hg:Ix w)(hw:4<=w.heap.size)(ht:G9 w) :
  Calls Tryz.prog 7 #[.string ⟨l.toArray⟩,.int .i64 ln] w fun e w'=>e=.returned (.bool true)/\Below w.heap.size w w':=
 Aex hl hln w (A8f Ahr w hg hw ht) (fun t W hB=>r6 t (A2v t) W (hg.below hB) (Nat.le_trans hw hB.size))
  (fun _ _ W gb E hP hr hB hp hE=>A39 hP hr W gb E _ hp hE (ht.keep hB) ⟨none,0,rfl,Nat.le_refl _,fun q=>absurd rfl q⟩) A3b
theorem Aem(H:Type)(enc:TypeId×Value->H)(W:World)(base:Nat)(args:Array Value)(ds gs:List (DataW H))(before:List MemPlace)
  (hval:∀(j:Nat) t v,Tryz.f7.params[j]?=some t->args[j]?=some v->Value.okWide Tryz.prog W .any base t v)
  (hW:DataW.Whole enc Tryz.prog Tryz.f7.params.toList Rows.linedSpec.vars false W args.toList ds gs before)
  (hsz:(DataW.weightsEach Tryz.prog (Tryz.f7.params.toList++(OpenSpec.ofChange Rows.linedSpec).bare.plain.varTypes Tryz.prog) (ds++gs)).all (·<=reachBytes)=true) (hL:laidMetH Tryz.prog Rows.linedRow.laid W) :
  Calls Tryz.prog 7 args W fun e W'=>∃v,e=.returned v/\Rows.linedSpec.post enc Tryz.prog Tryz.f7 false true false false W args v W':=by
 have hW':=hW;obtain⟨p,q,hA0,hV,rfl,hfz,hnd⟩:=hW;have hA:DataW.TrodAll enc Tryz.prog W 0 (fun _=>true) true Tryz.f7.params.toList args.toList ds p:=hA0;rw[Tryz.params7]at hA hval hsz;obtain⟨v0,v1,d0,d1,p0,p1,rfl,rfl,rfl,h0,h1⟩:=trodAll_two hA;obtain⟨rfl,rfl⟩:=trodVars_none hV;obtain⟨s,rfl,rfl,rfl,hs⟩:=open_string Tryz.underlying9 (hval 0 9 v0 rfl rfl) h0;obtain⟨b,rfl,rfl,rfl,wb⟩:=open_int Tryz.underlying3 (hval 1 3 v1 rfl rfl) h1;have hln:s.data.toList.length<=reachBytes:=sized_string hsz (j:=0) (t:=9) rfl rfl;clear hA0 hsz;have ht:=Am4 hL;have hb:=Adg wb;have hwalk:=Aep (l:=s.data.toList) hln hb W (Ad8 hL) (Nat.le_of_lt (A4c ht)) ht;rw[Array.toArray_toList]at hwalk;refine hwalk.mono fun e W' ⟨he,hbl⟩=>?_;subst he;refine⟨_,rfl,_,_,_,[],[]++([]++[]),[],hW',?_,?_,?_,hbl.frame _,fun h=>by cases h⟩
 ·exact trodAll_cons_mk (shut_bool Tryz.underlying4 _) trodAll_mk0
 ·exact trodAll_cons_mk (shut_string Tryz.underlying9 hs) (trodAll_cons_mk (shut_int Tryz.underlying3 wb) trodAll_mk0)
 ·rfl
theorem Ab0(os:Os)(args:Array Value):laidMetH Tryz.prog Rows.linedRow.laid ((World.doorLaid Tryz.prog 400 os).forCall (fun _ _=>0) ⟨#[],args,[]⟩).memory:=by
 rw[MakeChecks.laidMetH_plain _ _ _ z4va];exact laidMet_of_run' 8 z4va z4va
theorem Aaz(os:Os){H:Type}(enc:TypeId×Value->H):∃places,DataW.whole enc Tryz.prog ((World.doorLaid Tryz.prog 400 os).forCall (fun _ _=>0) ⟨#[],#[.string ⟨#[]⟩,.int .i64 0],[]⟩).memory Tryz.f7.params.toList Rows.linedSpec.vars false #[Value.string ⟨#[]⟩,.int .i64 0].toList 8=some ([.lit (.string []),.lit (.int .i64 0)],[],places):=
 ⟨[],by kernel_rfl⟩
theorem Aeo(os:Os)(started:os.Started)(H:Type)(enc:TypeId×Value->H)(F:Stop.Interp) :
  ReturnsInHanded {} Tryz.checked os 7 .any ((OpenSpec.ofChange Rows.linedSpec).preRow enc Tryz.prog Tryz.f7 Rows.linedRow.domain false Rows.linedRow.laid) (((OpenSpec.ofChange Rows.linedSpec).at F).post enc Tryz.prog Tryz.f7 false true false false):=by
 obtain⟨places,hx⟩:=Aaz os enc;refine returnsInHanded_of_row (C:=Tryz.checked) (s:=OpenSpec.ofChange Rows.linedSpec) Afl started z4va Tryz.func7
  (witness_row_atRef (enc:=enc) (C:=Tryz.checked) false (World.doorLaid Tryz.prog 400 os) #[.string ⟨#[]⟩,.int .i64 0] rfl z4va z4va z4va
   (OpenSpec.preRow_of_cond 8 hx z4va (fun k hk=>by cases hk) z4va (Ab0 os _))) ?_
 intro W base args ds gs before hval hW _ _ hsz hL _ _;exact Aem H enc W base args ds gs before hval hW hsz hL
theorem Aer:Rows.LinedSaid:=
 OpenClaim.holds_of_cond 7 Tryz.f7 rfl rfl rfl rfl rfl rfl rfl ⟨rfl,rfl,rfl,rfl,rfl⟩ rfl rfl rfl rfl rfl z4va Tryz.func7 Aen
  (of_decide_eq_true z4va) (by unfold Func.isWrapper;first|(rw[if_pos (by decide +kernel)];kernel_rfl)|(rw[if_neg (by decide +kernel)];exact⟨rfl,rfl⟩))
  (fun os started H enc _ F=>by rw[OpenClaim.pre_eq_preRow];exact Aeo os started H enc F)
theorem Aeq(f:FuncId)(fn:Func)(hf:Tryz.pinned.checked.prog.funcNamed "gambit/gambitkeep.Lined"=some f)(hfn:Tryz.pinned.checked.prog.funcs[f]?=some fn) :
  true=Tryz.pinned.checked.prog.looks []/\∀(j:Nat) t,fn.params[j]?=some t->Tryz.pinned.checked.prog.wantsStandIn t=false:=by
 obtain rfl:f=7:=Option.some.inj ((show Tryz.prog.funcNamed "gambit/gambitkeep.Lined"=some 7 by kernel_rfl).symm.trans hf) |>.symm;obtain rfl:fn=Tryz.f7:=(Option.some.inj (Tryz.func7.symm.trans hfn)).symm;refine⟨by kernel_rfl,fun j t ht=>?_⟩;rw[Tryz.params7]at ht;have hm:=Array.mem_of_getElem? ht;simp only[List.mem_toArray,List.mem_cons,List.not_mem_nil,or_false]at hm;rcases hm with rfl|rfl
 ·exact(show Tryz.prog.wantsStandIn 9=false by kernel_rfl)
 ·exact(show Tryz.prog.wantsStandIn 3=false by kernel_rfl)
theorem lined_card:Rows.LinedCardSaid:=
 Claim7.holds_tied_plain_at .later [] _ _ _ _ Aer (fun _ h=>by cases h) z4va (fun _ h=>by cases h) lined_row_tie rfl ⟨rfl,rfl⟩ z4va rfl Aeq z4va
end
end Go.Proofs.YtjdlndhfaaolaaaGreatDoor
