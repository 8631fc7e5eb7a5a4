/- The tied card of gambitkeep.Blind holds: it answers true for every text and every two lists of raw bets: whatever is bet, a program prints the same, and the same goes wrong at the same place. Conditions: those of the card alone (every text, every list of bets; the program started as Go starts it). -/
import Derived.Test.YtjdlndhfaaolaaaGreatDoorY04
import Derived.Test.YtjdlndhfaaolaaaGreatDoorY16
import Derived.Test.YtjdlndhfaaolaaaGreatDoorY27
import Derived.Test.YtjdlndhfaaolaaaGreatDoorY48
import Derived.Test.YtjdlndhfaaolaaaGreatDoorY49
import Derived.Test.YtjdlndhfaaolaaaGreatDoorY50
import Derived.Test.YtjdlndhfaaolaaaGreatDoorY51
import Derived.Test.YtjdlndhfaaolaaaGreatDoorY53
set_option maxHeartbeats 20000000
set_option linter.all false
namespace Go.Proofs.YtjdlndhfaaolaaaGreatDoor
section
set_option maxRecDepth 100000
open Go.ChangeShapes Go.WideShapes Go.ChangeAt Go.RowKit Go.ChangeMaps
open Go.Deep (BT)
def Amh{P:C5}{bets:List Cl}:∀(n k:Nat) (m m':MS),n<=k->Hi P bets n m=some m'->Hi P bets k m=some m':=by
 intro n;induction n with
 | zero=>intro k m m' _ h;rw[Hi]at h;cases h
 | succ n ih=>
  intro k m m' hk h;obtain⟨k,rfl⟩:∃q,k=q+1:=⟨k-1,by omega⟩;rw[Hi]at h ⊢;split at h
  ·rename_i hc;rw[A7 hc];exact h
  ·rename_i hc;rw[A1 hc];split at h
   ·exact h
   ·exact ih k _ _ z4ma h
def A9y{l:List UInt8}{c:BT A5}(h:Gu l=((0,0),some c)):l.length<=2000:=by
 rcases N2 2000 l.length with q|q
 ·unfold Gu at h;rw[A7 q]at h;cases h
 ·exact q
def Aow{P:C5}(h:Xg P):∀f∈P.fns,f.steps.length<=90000:=by
 obtain⟨lab,⟨_,k⟩,_⟩:=h.codes;intro f hf;have:=(k f hf).2.1;omega
def A8s{l:List UInt8}{c:BT A5}(h:Gu l=((0,0),some c)):∃r:MS,Hi (Fo c) [] steps (mstart (Fo c))=some r/\r.out.length<=100/\r.line<=5000/\(Fo c).fns.length<=5000/\∀bs:List Cl,(∀x∈bs,Ly x)->∃Lt:List En,Lt.length=(Fo c).fns.length/\(bs=[]->∀q∈Lt,q.fast=0/\q.drops=0)/\∃m',m'.code=r.code/\m'.line=r.line/\m'.out=r.out/\m'.lots=Lt/\Xh (Fo c) bs m':=by
 have hl:=A9y h;have hk:=Aox hl h;obtain⟨hT,_,hs⟩:=A9z hl h;obtain⟨hm,hab⟩:=Ai9 hT hs;have hf:=hk.fns;obtain⟨r,_,_,_,r1,_,_,_,r4,r5,_,_⟩:=A8d (bets:=[]) hk hm hab (fun x q=>by cases q);refine⟨r,r1,r4,r5,by omega,fun bs hb=>?_⟩;obtain⟨r',c1,Gt,Io,q1,q2,q3,q4,_,_,q5,q6⟩:=A8d (bets:=bs.take 20) hk hm hab (fun x q=>hb x (Zj q));obtain rfl:r=r':=Dl (r1.symm.trans q1);have hR:∀m',Hi (Fo c) (bs.take 20) steps (mstart (Fo c))=some m'->m'.lots.length=(Fo c).fns.length->Xh (Fo c) bs m':=fun m' k1 k2=>
  Aqs (Awf k1 q4 (fun C X hC=>At3 (by rw[G3];omega) (by rw[hC];exact Aow hk) (by rw[hC];omega))) z4ma z4ma (by have:=hk.globals;omega) (by have:=hk.slots;omega)
 by_cases h0:bs=[]
 ·refine⟨r.lots,q5,fun _=>q6,r,rfl,rfl,rfl,rfl,hR r (by rw[h0];exact r1) q5⟩
 ·exact⟨Io,q3,fun q=>absurd q h0,r.sw c1 Gt Io,rfl,rfl,rfl,rfl,hR _ q2 q3⟩
def Aq1:Zw Uu [] Uw:=by
 obtain⟨c,h1,h2⟩:=Avk;obtain⟨m',k1,k2,k3⟩:=Aek;obtain⟨r,r1,_,_,_,r5⟩:=A8s h1;rw[h2]at r1 r5;obtain rfl:r=m':=Dl (r1.symm.trans (Amh 22 steps _ _ (by unfold steps;omega) k1));obtain⟨_,_,_,m2,e1,_,e3,_,hR⟩:=r5 [] (fun x q=>by cases q);have:=Aqr hR (e1.trans k2);rw[e3,k3]at this;exact Aq2 (A89 _ (A9y h1)) h1 h2 this
def Afl{l:List UInt8}{x y:List Cl}(hx:∀b∈x,Ly b/\Fk b.fn/\Fk b.after)(hy:∀b∈y,Ly b/\Fk b.fn/\Fk b.after)(lx:x.length*64<=140737488351232)(ly:y.length*64<=140737488351232){a1 a2:Option Addr}{c1 c2:Nat}(w:World)(b1:H7 M1 w (.slice a1 x.length c1) x)(b2:H7 M1 w (.slice a2 y.length c2) y)(hg:K6 w)(hw:4<=w.heap.size)(ht:Hr w) :
  Calls Tryz.prog 9 #[.s l,.slice a1 x.length c1,.slice a2 y.length c2] w fun e w'=>e=.returned (.bool true)/\Bw w w':=
 Aft w (Aej Aq1 w hg hw ht) (fun W hB=>A56 l (A89 l) W (hg.below hB) (Fu hw hB.size))
  (fun c hc=>by
   obtain⟨r,_,r1,r2,r3,r4⟩:=A8s hc;refine⟨r.code,r.line,r.out,r1,r2,r3,fun bs hb=>?_⟩;obtain⟨Lt,k1,k2,m',e1,e2,e3,e4,hR⟩:=r4 bs hb;refine⟨Lt,k1,k2,fun W gb E v hB hp hE hv=>?_⟩;have:=hR W gb E v hp hE (ht.keep hB) hv;rw[e1,e2,e3,e4]at this;exact this)
  (fun W hB=>A4n hx lx (b1.below hB)) (fun W hB=>A4n hy ly (b2.below hB)) A8t
def Afi(H:Type)(enc:TypeId×Value->H)(W:World)(base:Nat)(args:Array Value)(ds gs:List (DataW H))(before:List MemPlace)
  (hval:∀(j:Nat) t v,Tryz.f9.params[j]?=some t->args[j]?=some v->Value.okWide Tryz.prog W .any base t v)
  (hW:DataW.Whole enc Tryz.prog Tryz.f9.params.toList Rows.blindSpec.vars false W args.toList ds gs before)
  (hsz:(DataW.weightsEach Tryz.prog (Tryz.f9.params.toList++(OpenSpec.ofChange Rows.blindSpec).bare.plain.varTypes Tryz.prog) (ds++gs)).all (·<=reachBytes)=true) (hL:laidMetH Tryz.prog Rows.blindRow.laid W) :
  Calls Tryz.prog 9 args W fun e W'=>∃v,e=.returned v/\Rows.blindSpec.post enc Tryz.prog Tryz.f9 false true false false W args v W':=by
 have hW':=hW;obtain⟨p,q,hA0,hV,rfl,hfz,hnd⟩:=hW;have hA:DataW.TrodAll enc Tryz.prog W 0 (fun _=>true) true Tryz.f9.params.toList args.toList ds p:=hA0;rw[Tryz.params9]at hA hval hsz;obtain⟨v0,v1,v2,d0,d1,d2,p0,p1,p2,rfl,rfl,rfl,h0,h1,h2⟩:=trodAll_three hA;obtain⟨rfl,rfl⟩:=trodVars_none hV;obtain⟨s,rfl,rfl,rfl,hs⟩:=open_string Tryz.underlying9 (hval 0 9 v0 rfl rfl) h0;obtain⟨a1,n1,c1,rfl⟩:=okWide_slice Tryz.underlying58 (hval 1 58 v1 rfl rfl);obtain⟨a2,n2,c2,rfl⟩:=okWide_slice Tryz.underlying58 (hval 2 58 v2 rfl rfl);have hin:∀{j:Nat} {v:Value} {d:DataW H} {ps:List MemPlace},(∃f,DataW.trod enc Tryz.prog W 0 (fun _=>true) true f 58 [v]=some (d,ps))->[9,58,58][j]?=some 58->[DataW.lit (.string s.data.toList),d1,d2][j]?=some d->∃(x:List Cl) (a:Option Addr) (c:Nat),v=.slice a x.length c/\H7 M1 W v x/\(∀b∈x,Ly b/\Fk b.fn/\Fk b.after)/\x.length*64<=140737488351232:=by
  intro j v d ps ⟨f,hf⟩ ht hd;obtain⟨x,a,c,k1,k2,k3,k4⟩:=Aew hf;refine⟨x,a,c,k1,k2,k3,?_⟩;rcases k4 with k|⟨el,sp,e1,e2⟩
  ·rw[k];decide
  ·have:=sized_slice hsz (j:=j) (t:=58) (by rw[Ou (K4.1 ht).1];exact ht) (by rw[Ou (K4.1 hd).1,hd];exact N3 some e1) Tryz.underlying58;rw[Afu,e2]at this;unfold reachBytes at this;omega
 obtain⟨x,_,_,k1,bx,hx,lx⟩:=hin (j:=1) (v:=.slice a1 n1 c1) h1 rfl rfl;obtain⟨y,_,_,k2,bY,hy,ly⟩:=hin (j:=2) (v:=.slice a2 n2 c2) h2 rfl rfl;injection k1 with _ k1 _;injection k2 with _ k2 _;subst k1 k2;have ht:=Aup hL;have hwalk:=Afl (l:=s.data.toList) hx hy lx ly W bx bY (Akb hL) (Nat.le_of_lt (A9o ht)) ht;rw[Zf]at hwalk;refine hwalk.mono fun e W' ⟨he,hbl⟩=>?_;subst he;refine⟨_,rfl,_,_,_,[],[]++(p1++(p2++[])),[],hW',?_,?_,?_,hbl.frame _,fun h=>by cases h⟩
 ·exact trodAll_cons_mk (shut_bool Tryz.underlying4 _) trodAll_mk0
 ·exact trodAll_cons_mk (shut_string Tryz.underlying9 hs) (trodAll_cons_mk (Below.trod A6z z4pa (A3s z4pa) h1 hbl (trod_lt h1)) (trodAll_cons_mk (Below.trod A6z z4pa (A3s z4pa) h2 hbl (trod_lt h2)) trodAll_mk0))
 ·rfl
def Aho(os:Os)(args:Array Value):laidMetH Tryz.prog Rows.blindRow.laid ((World.doorLaid Tryz.prog 400 os).forCall (fun _ _=>0) ⟨#[],args,[]⟩).memory:=by
 rw[MakeChecks.laidMetH_plain _ _ _ z4pa];exact laidMet_of_run' 8 z4pa z4pa
def Ahn(os:Os){H:Type}(enc:TypeId×Value->H):∃places,DataW.whole enc Tryz.prog ((World.doorLaid Tryz.prog 400 os).forCall (fun _ _=>0) ⟨#[],#[.string ⟨#[]⟩,.slice none 0 0,.slice none 0 0],[]⟩).memory Tryz.f9.params.toList Rows.blindSpec.vars false #[Value.string ⟨#[]⟩,.slice none 0 0,.slice none 0 0].toList 8=some ([.lit (.string []),.nil,.nil],[],places):=
 ⟨[],by kernel_rfl⟩
def Afk(os:Os)(started:os.Started)(H:Type)(enc:TypeId×Value->H)(F:Stop.Interp) :
  ReturnsInHanded {} Tryz.checked os 9 .any ((OpenSpec.ofChange Rows.blindSpec).preRow enc Tryz.prog Tryz.f9 Rows.blindRow.domain false Rows.blindRow.laid) (((OpenSpec.ofChange Rows.blindSpec).at F).post enc Tryz.prog Tryz.f9 false true false false):=by
 obtain⟨places,hx⟩:=Ahn os enc;refine returnsInHanded_of_row (C:=Tryz.checked) (s:=OpenSpec.ofChange Rows.blindSpec) Amy started z4pa Tryz.func9
  (witness_row_atRef (enc:=enc) (C:=Tryz.checked) false (World.doorLaid Tryz.prog 400 os) #[.string ⟨#[]⟩,.slice none 0 0,.slice none 0 0] rfl z4pa z4pa z4pa
   (OpenSpec.preRow_of_cond 8 hx z4pa (fun k hk=>by cases hk) z4pa (Aho os _))) ?_
 intro W base args ds gs before hval hW _ _ hsz hL _ _;exact Afi H enc W base args ds gs before hval hW hsz hL
def Afn:Rows.BlindSaid:=
 OpenClaim.holds_of_cond 9 Tryz.f9 rfl rfl rfl rfl rfl rfl rfl ⟨rfl,rfl,rfl,rfl,rfl⟩ rfl rfl rfl rfl rfl z4pa Tryz.func9 Afj
  (A3s z4pa) (by unfold Func.isWrapper;first|(rw[A7 (by decide +kernel)];kernel_rfl)|(rw[A1 (by decide +kernel)];exact⟨rfl,rfl⟩))
  (fun os started H enc _ F=>by rw[OpenClaim.pre_eq_preRow];exact Afk os started H enc F)
def Afm(f:FuncId)(fn:Func)(hf:Tryz.pinned.checked.prog.funcNamed "gambit/gambitkeep.Blind"=some f)(hfn:Tryz.pinned.checked.prog.funcs[f]?=some fn) :
  true=Tryz.pinned.checked.prog.looks []/\∀(j:Nat) t,fn.params[j]?=some t->Tryz.pinned.checked.prog.wantsStandIn t=false:=by
 obtain rfl:f=9:=Dl ((show Tryz.prog.funcNamed "gambit/gambitkeep.Blind"=some 9 by kernel_rfl).symm.trans hf) |>.symm;obtain rfl:fn=Tryz.f9:=(Dl (Tryz.func9.symm.trans hfn)).symm;refine⟨by kernel_rfl,fun j t ht=>?_⟩;rw[Tryz.params9]at ht;have hm:=Array.mem_of_getElem? ht;simp only[List.mem_toArray,L9,List.not_mem_nil,or_false]at hm;rcases hm with rfl|rfl|rfl
 ·exact(show Tryz.prog.wantsStandIn 9=false by kernel_rfl)
 ·exact(show Tryz.prog.wantsStandIn 58=false by kernel_rfl)
 ·exact(show Tryz.prog.wantsStandIn 58=false by kernel_rfl)
theorem blind_card:Rows.BlindCardSaid:=
 Claim7.holds_tied_plain_at .later [] _ _ _ _ Afn (fun _ h=>by cases h) z4pa (fun _ h=>by cases h) blind_row_tie rfl ⟨rfl,rfl⟩ z4pa rfl Afm z4pa
