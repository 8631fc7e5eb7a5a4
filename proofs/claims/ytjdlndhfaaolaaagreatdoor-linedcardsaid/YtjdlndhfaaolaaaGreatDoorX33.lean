import Derived.MakeChecks
import Derived.OpenShut
import Derived.Test.YtjdlndhfaaolaaaGreatDoorX31
set_option maxHeartbeats 20000000
namespace Go.Proofs.YtjdlndhfaaolaaaGreatDoor
section
open Go.RowKit Go.ChangeShapes
variable {H:Type}{enc:TypeId×Value->H}{P:Program}{w:World}{base:Nat}{sp:Nat->Bool}{held:Bool}{fuel:Nat}
theorem Acm{α:Type}(f:α->List Value):∀(zs:List α) (cs:List Value),cs.length=zs.length*2->(∀i (h:i<zs.length),(cs.drop (i*2)).take 2=f zs[i])->cs=zs.flatMap f:=by
 intro zs;induction zs with
 | nil=>intro cs hl _;simpa using hl
 | cons z r ih=>
  intro cs hl h;have h0:=h 0 z4wa;have h1:=ih (cs.drop 2) (by simp at hl ⊢;omega) (fun i hi=>by
   have:=h (i+1) z4za;rw[List.drop_drop,show 2+i*2=(i+1)*2 by omega];simpa using this)
  rw[List.flatMap_cons,←h1];have h00:cs.take 2=f z:=by simpa using h0
  rw[←h00,List.take_append_drop]
theorem n9{t e:TypeId}{n:Nat}{k:IntKind}{f0 f1:Field}{cs:List Value}{zs:List (List UInt8×Int)}{p:List MemPlace}
  (ht:P.underlying t=some (.array n e)) (he:P.underlying e=some (.struct #[f0,f1])) (h0:P.underlying f0.type=some .string) (h1:P.underlying f1.type=some (.int k)) (o0:f0.offset=0) (o1:f1.offset=1) (c0:P.cellsOf f0.type=1) (c1:P.cellsOf f1.type=1) (hce:P.cellsOf e=2) (hct:P.cellsOf t=n*2)
  (h:DataW.trod enc P w base sp held fuel t cs=some (.agg (zs.map fun z=>.agg [.lit (.string z.1),.lit (.int k z.2)]),p)):cs=zs.flatMap fun z=>[.string ⟨z.1.toArray⟩,.int k z.2]:=by
 obtain⟨xs,m,rfl,hx,hl,hn,hel⟩:=DataW.trod_array ht h;simp only[Prod.mk.injEq,DataW.agg.injEq]at hx;have hzn:zs.length=n:=by have:=congrArg List.length hx.1;simp at this;omega
 refine Acm _ zs cs (by rw[hl,hct,hzn]) (fun i hi=>?_);have hi':i<xs.length:=by omega
 have Ad:=hel i z4sa;rw[hce,List.getElem?_eq_getElem hi']at Ad;obtain⟨y0,y1,m2,e1,e2,e3,e4⟩:=trod_struct2 he Ad;rw[o0,c0]at e3;rw[o1,c1]at e4;obtain⟨s,q1,q2,_⟩:=DataW.trod_string h0 e3;obtain⟨v,q3,q4,_⟩:=DataW.trod_int h1 e4;have hxi:(xs[i]).1=(DataW.agg [.lit (.string zs[i].1),.lit (.int k zs[i].2)]:DataW H):=by
  have:=congrArg (·[i]?) hx.1;simp only[List.getElem?_map,List.getElem?_eq_getElem hi,List.getElem?_eq_getElem hi',Option.map_some,Option.some.injEq]at this;exact this.symm
 rw[e1,q2,q4]at hxi;simp only[DataW.agg.injEq,List.cons.injEq,DataW.lit.injEq,Lit.string.injEq,Lit.int.injEq,and_true,true_and]at hxi;obtain⟨r1,r2⟩:=hxi;generalize hd:(cs.drop (i*2)).take 2=ds at *;have hdl:ds.length=2:=by rw[e2,hce]
 match ds,hdl with
 | [a,b],_=>
  simp at q1 q3;subst q1 q3;rw[←r1,←r2]
theorem A16:Tryz.prog.globalNamed "gambit/scan.words"=some 0:=by kernel_rfl
theorem A15:Tryz.prog.globalNamed "gambit/scan.signs"=some 1:=by kernel_rfl
theorem A14:Tryz.prog.globalNamed "strconv.ErrRange"=some 3:=by kernel_rfl
theorem Am3:(Tryz.prog.globals[0]?).map (·.type)=some 330:=by kernel_rfl
theorem Am2:(Tryz.prog.globals[1]?).map (·.type)=some 338:=by kernel_rfl
theorem A44:Tryz.prog.underlying 329=some (.struct #[Field.mk "text" 9 0 false "" "gambit/scan" 0,Field.mk "kind" 196 1 false "" "gambit/scan" 16]):=by kernel_rfl
theorem Zm{P:Program}{w:World}{n:String}{g:Nat}{cs:Array Value}(hg:P.globalNamed n=some g)(h:w.var? P n=some cs):∃t fr,w.heap[g]?=some (.cells cs t fr):=by
 unfold World.var? at h;rw[hg]at h;simp only[Option.bind_some]at h;split at h
 ·rename_i c t fr hh;cases h;exact⟨t,fr,hh⟩
 ·cases h
theorem Amx{t:TypeId}{ms:Array (String×TypeId)}{cs:List Value}{x:DataW H×List MemPlace}(ht:P.underlying t=some (.interface ms))(h:DataW.trod enc P w base sp held fuel t cs=some x) :
  cs=[.nilIface]\/∃u v,cs=[.iface u v]:=by
 cases fuel with
 | zero=>simp[DataW.trod]at h
 | succ n=>
  unfold DataW.trod at h;rw[ht]at h;split at h <;> simp_all
theorem Am1:(Tryz.prog.globals[3]?).map (·.type)=some 333:=by kernel_rfl
theorem Ad8{W:World}(h:laidMetH Tryz.prog Rows.readsRow.laid W):Ix W:=by
 rw[MakeChecks.laidMetH_plain _ _ _ z4va]at h;obtain⟨ps,⟨g0,t0,cs0,f0,p0,q0,Fw,ht0,hv0,hd0,⟨g1,t1,cs1,f1,p1,q1,Ig,ht1,G3,hd1,⟨g2,t2,cs2,f2,p2,q2,Io,ht2,Fk,hd2,⟨g3,t3,cs3,f3,p3,q3,hg3,ht3,hv3,hd3,⟨g4,t4,cs4,f4,p4,q4,hg4,ht4,hv4,hd4,⟨g5,t5,cs5,f5,p5,q5,hg5,ht5,Ir,hd5,⟨g6,t6,cs6,f6,p6,q6,hg6,ht6,hv6,hd6,_,_⟩,_⟩,_⟩,_⟩,_⟩,_⟩,_⟩,_,_⟩:=h;clear hd0 hd1 hd2 hd4 hv0 G3 Fk hv4 ht0 ht1 ht2 ht4 Fw Ig Io hg4;obtain rfl:=Option.some.inj (A14.symm.trans hg3);obtain rfl:=Option.some.inj (A16.symm.trans hg5);obtain rfl:=Option.some.inj (A15.symm.trans hg6);obtain rfl:=Option.some.inj (Am3.symm.trans ht5);obtain rfl:=Option.some.inj (Am2.symm.trans ht6);have hw:=n9 (zs:=K0.map fun x=>(x.1,(x.2:Int))) Tryz.underlying330 A44 Tryz.underlying9 z4va rfl rfl z4va z4va z4va z4va (k:=.i64) hd5;have hs:=n9 (zs:=K7.map fun x=>(x.1,(x.2:Int))) Tryz.underlying338 A44 Tryz.underlying9 z4va rfl rfl z4va z4va z4va z4va (k:=.i64) hd6;refine⟨?_,?_,?_⟩
 ·obtain⟨t,fr,hh⟩:=Zm A15 hv6;refine⟨t,fr,?_⟩;rw[hh,←Array.toArray_toList (xs:=cs6),hs];rfl
 ·obtain⟨t,fr,hh⟩:=Zm A16 Ir;refine⟨t,fr,?_⟩;rw[hh,←Array.toArray_toList (xs:=cs5),hw];rfl
 ·obtain rfl:=Option.some.inj (Am1.symm.trans ht3);obtain⟨t,fr,hh⟩:=Zm A14 hv3;have hc:W.cell? ⟨3,0,none⟩=cs3.toList[0]?:=by rw[cell_of_row W _ 0 cs3 _ _ hh,Array.getElem?_toList]
  rcases Amx Tryz.underlying333 hd3 with e|⟨u,v,e⟩
  ·exact⟨.nilIface,by rw[hc,e];rfl,.inl rfl⟩
  ·exact⟨.iface u v,by rw[hc,e];rfl,.inr ⟨u,v,rfl⟩⟩
end
end Go.Proofs.YtjdlndhfaaolaaaGreatDoor
