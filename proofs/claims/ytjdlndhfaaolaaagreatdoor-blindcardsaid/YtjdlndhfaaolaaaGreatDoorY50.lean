import Derived.MakeChecks
import Derived.OpenShut
import Derived.Test.YtjdlndhfaaolaaaGreatDoorRows
import Derived.Test.YtjdlndhfaaolaaaGreatDoorY30
set_option maxHeartbeats 20000000
set_option linter.defProp false
namespace Go.Proofs.YtjdlndhfaaolaaaGreatDoor
section
open Go.RowKit Go.ChangeShapes
variable {H:Type}{enc:TypeId×Value->H}{P:Program}{w:World}{base:Nat}{sp:Nat->Bool}{held:Bool}{fuel:Nat}
def Ajd{α:Type}(f:α->List Value):∀(zs:List α) (cs:List Value),cs.length=zs.length*2->(∀i (h:i<zs.length),(cs.drop (i*2)).take 2=f zs[i])->cs=zs.flatMap f:=by
 intro zs;induction zs with
 | nil=>intro cs hl _;simpa using hl
 | cons z r ih=>
  intro cs hl h;have h0:=h 0 z4ra;have h1:=ih (cs.drop 2) (by simp at hl ⊢;omega) (fun i hi=>by
   have:=h (i+1) z4qa;rw[Uz,show 2+i*2=(i+1)*2 by omega];simpa using this)
  rw[A34,←h1];have h00:cs.take 2=f z:=by simpa using h0
  rw[←h00,A35]
def A4x{t e:TypeId}{n:Nat}{k:IntKind}{f0 f1:Field}{cs:List Value}{zs:List (List UInt8×Int)}{p:List MemPlace}
  (ht:P.underlying t=some (.array n e)) (he:P.underlying e=some (.struct #[f0,f1])) (h0:P.underlying f0.type=some .string) (h1:P.underlying f1.type=some (.int k)) (o0:f0.offset=0) (o1:f1.offset=1) (c0:P.cellsOf f0.type=1) (c1:P.cellsOf f1.type=1) (hce:P.cellsOf e=2) (hct:P.cellsOf t=n*2)
  (h:DataW.trod enc P w base sp held fuel t cs=some (.agg (zs.map fun z=>.agg [.lit (.string z.1),.lit (.int k z.2)]),p)):cs=zs.flatMap fun z=>[.s z.1,.int k z.2]:=by
 obtain⟨xs,m,rfl,hx,hl,hn,hel⟩:=DataW.trod_array ht h;simp only[Px,DataW.agg.injEq]at hx;have hzn:zs.length=n:=by have:=N3 List.length hx.1;simp at this;omega
 refine Ajd _ zs cs (by rw[hl,hct,hzn]) (fun i hi=>?_);have hi':i<xs.length:=by omega
 have An:=hel i z4ma;rw[hce,Eh hi']at An;obtain⟨y0,y1,m2,e1,e2,e3,e4⟩:=trod_struct2 he An;rw[o0,c0]at e3;rw[o1,c1]at e4;obtain⟨s,q1,q2,_⟩:=DataW.trod_string h0 e3;obtain⟨v,q3,q4,_⟩:=A36 h1 e4;have hxi:(xs[i]).1=(DataW.agg [.lit (.string zs[i].1),.lit (.int k zs[i].2)]:DataW H):=by
  have:=N3 (·[i]?) hx.1;simp only[Qt,Eh hi,Eh hi',X6,Cg]at this;exact this.symm
 rw[e1,q2,q4]at hxi;simp only[DataW.agg.injEq,V3,DataW.lit.injEq,Lit.string.injEq,Lit.int.injEq,and_true,true_and]at hxi;obtain⟨r1,r2⟩:=hxi;generalize hd:(cs.drop (i*2)).take 2=ds at *;have hdl:ds.length=2:=by rw[e2,hce]
 match ds,hdl with
 | [a,b],_=>
  simp at q1 q3;subst q1 q3;rw[←r1,←r2]
def A6k:Tryz.prog.globalNamed "gambit/scan.words"=some 0:=by kernel_rfl
def A6j:Tryz.prog.globalNamed "gambit/scan.signs"=some 1:=by kernel_rfl
def A6i:Tryz.prog.globalNamed "strconv.ErrRange"=some 3:=by kernel_rfl
def Auo:(Tryz.prog.globals[0]?).map (·.type)=some 330:=by kernel_rfl
def Aun:(Tryz.prog.globals[1]?).map (·.type)=some 338:=by kernel_rfl
def A9e:Tryz.prog.underlying 329=some (.struct #[Field.mk "text" 9 0 false "" "gambit/scan" 0,Field.mk "kind" 196 1 false "" "gambit/scan" 16]):=by kernel_rfl
def A2x{P:Program}{w:World}{n:String}{g:Nat}{cs:Array Value}(hg:P.globalNamed n=some g)(h:w.var? P n=some cs):∃t fr,w.heap[g]?=some (.cells cs t fr):=by
 unfold World.var? at h;rw[hg]at h;simp only[A37]at h;split at h
 ·rename_i c t fr hh;cases h;exact⟨t,fr,hh⟩
 ·cases h
def Avm{t:TypeId}{ms:Array (String×TypeId)}{cs:List Value}{x:DataW H×List MemPlace}(ht:P.underlying t=some (.interface ms))(h:DataW.trod enc P w base sp held fuel t cs=some x) :
  cs=[.nilIface]\/∃u v,cs=[.iface u v]:=by
 cases fuel with
 | zero=>simp[DataW.trod]at h
 | succ n=>
  unfold DataW.trod at h;rw[ht]at h;split at h <;> simp_all
def Aum:(Tryz.prog.globals[3]?).map (·.type)=some 333:=by kernel_rfl
def Akb{W:World}(h:laidMetH Tryz.prog Rows.readsRow.laid W):K6 W:=by
 rw[MakeChecks.laidMetH_plain _ _ _ z4pa]at h;obtain⟨ps,⟨g0,t0,cs0,f0,p0,q0,Fy,ht0,hv0,hd0,⟨g1,t1,cs1,f1,p1,q1,Kj,ht1,Hg,hd1,⟨g2,t2,cs2,f2,p2,q2,Jw,ht2,Iv,hd2,⟨g3,t3,cs3,f3,p3,q3,hg3,ht3,hv3,hd3,⟨g4,t4,cs4,f4,p4,q4,hg4,ht4,hv4,hd4,⟨g5,t5,cs5,f5,p5,q5,hg5,ht5,Kk,hd5,⟨g6,t6,cs6,f6,p6,q6,hg6,ht6,hv6,hd6,_,_⟩,_⟩,_⟩,_⟩,_⟩,_⟩,_⟩,_,_⟩:=h;obtain rfl:=Dl (A6i.symm.trans hg3);obtain rfl:=Dl (A6k.symm.trans hg5);obtain rfl:=Dl (A6j.symm.trans hg6);obtain rfl:=Dl (Auo.symm.trans ht5);obtain rfl:=Dl (Aun.symm.trans ht6);have hw:=A4x (zs:=Lv.map fun x=>(x.1,(x.2:Int))) Tryz.underlying330 A9e Tryz.underlying9 z4pa rfl rfl z4pa z4pa z4pa z4pa (k:=.i64) hd5;have hs:=A4x (zs:=M7.map fun x=>(x.1,(x.2:Int))) Tryz.underlying338 A9e Tryz.underlying9 z4pa rfl rfl z4pa z4pa z4pa z4pa (k:=.i64) hd6;refine⟨?_,?_,?_⟩
 ·obtain⟨t,fr,hh⟩:=A2x A6j hv6;refine⟨t,fr,?_⟩;rw[hh,←Zf (xs:=cs6),hs];rfl
 ·obtain⟨t,fr,hh⟩:=A2x A6k Kk;refine⟨t,fr,?_⟩;rw[hh,←Zf (xs:=cs5),hw];rfl
 ·obtain rfl:=Dl (Aum.symm.trans ht3);obtain⟨t,fr,hh⟩:=A2x A6i hv3;have hc:W.cell? ⟨3,0,none⟩=cs3.toList[0]?:=by rw[K2 W _ 0 cs3 _ _ hh,S9]
  rcases Avm Tryz.underlying333 hd3 with e|⟨u,v,e⟩
  ·exact⟨.nilIface,by rw[hc,e];rfl,.inl rfl⟩
  ·exact⟨.iface u v,by rw[hc,e];rfl,.inr ⟨u,v,rfl⟩⟩
