import Derived.Deep.DeepWitnessRowRef
import Derived.LaidMore
import Derived.OpenShut
import Derived.ProofKit
import Derived.ShutString
import Derived.Test.YtjdlndhfaaolaaaGreatDoorCards
import Derived.Test.YtjdlndhfaaolaaaGreatDoorTie
import Derived.Test.YtjdlndhfaaolaaaGreatDoorV04
import Derived.Test.YtjdlndhfaaolaaaGreatDoorV35
set_option maxHeartbeats 20000000
namespace Go.Proofs.YtjdlndhfaaolaaaGreatDoor
section
open Go.ChangeShapes Go.WideShapes Go.ChangeAt Go.RowKit Go.ChangeMaps
theorem Agw:ownKnob Tryz.prog.godebug=none:=by kernel_rfl
theorem Ao5:(Tryz.prog.globals[K0]?).map (·.type)=some 452:=by kernel_rfl
theorem Aho:Tryz.prog.underlying 452=some (.array 20 389):=by kernel_rfl
theorem Ao9{W:World}(h:laidMetH Tryz.prog Rows.sharedRow.laid W):G3 W:=by
 rw[MakeChecks.laidMetH_plain _ _ _ z4xa]at h;obtain⟨ps,⟨g0,t0,cs0,f0,p0,q0,F3,ht0,hv0,hd0,⟨g1,t1,cs1,f1,p1,q1,hg1,ht1,G5,hd1,⟨g2,t2,cs2,f2,p2,q2,Hv,ht2,Ft,hd2,_,_⟩,_⟩,_⟩,_,_⟩:=h;clear hd0 hd1 hv0 G5 ht0 ht1 F3 hg1;obtain rfl:=Option.some.inj (Yk.symm.trans Hv);obtain rfl:=Option.some.inj (Ao5.symm.trans ht2);have hs:=Lib.cells_of_tab (k:=.u64) (zs:=Lib.pow10Tab) Aho Tryz.underlying389 z4xa z4xa hd2;unfold G3 Lib.TabIs;rw[←hs,Array.toArray_toList];exact Ft
theorem X9{n:Int}(h:(Lit.int .i64 n).wf=true):D4 n:=by
 simp only[Lit.wf,Bool.and_eq_true,decide_eq_true_eq]at h;exact h
theorem Ajn{H:Type}{enc:TypeId×Value->H}{t e:TypeId}{W:World}{v:Value}{d:DataW H}{ps:List MemPlace}(ht:Tryz.prog.underlying t=some (.slice e))(he:Tryz.prog.underlying e=some (.int .i64))(hc:Tryz.prog.cellsOf e=1)(hv:∃a n c,v=.slice a n c)
  (h:DataW.Trod enc Tryz.prog W 0 (fun _=>true) true t v d ps):∃(l:List Int) (a:Option Addr) (c:Nat),v=.slice a l.length c/\Lg Mc W (.slice a l.length c) (ints l)/\∀n∈l,D4 n:=by
 obtain⟨a,n,c,rfl⟩:=hv;obtain⟨fuel,hf⟩:=h;rcases open_ints ht he hc hf with⟨hcs,hx⟩|⟨ad,len,cap,zs,hcs,_,hl,hm,hz,hx,hcell,hwz⟩
 ·have e:Value.slice a n c=.slice none 0 0:=by
   have h:[Value.slice a n c]=[Value.slice none 0 0]:=hcs;injection h
  injection e with e1 e2 e3;subst e1 e2 e3;exact⟨[],none,0,rfl,⟨none,0,rfl,fun q=>absurd rfl q⟩,fun n hn=>by cases hn⟩
 ·have e:Value.slice a n c=.slice (some ad) len cap:=by
   have h:[Value.slice a n c]=[Value.slice (some ad) len cap]:=hcs;injection h
  injection e with e1 e2 e3;subst e1 e2 e3;rw[if_pos rfl]at hz;have hlen:(zs.take n).length=n:=by rw[List.length_take];omega
  refine⟨zs.take n,some ad,c,by rw[hlen],⟨some ad,c,by simp[ints],fun q=>?_⟩,fun m hm'=>X9 (hwz m (List.mem_of_mem_take hm'))⟩;have hn:n≠0:=fun e=>q (by simp[ints,e]);obtain⟨b,o,sp⟩:=ad;have h0:=hcell 0 z4va;have hsp:sp=none:=by
   cases sp with
   | none=>rfl
   | some k=>exact absurd h0 (by unfold World.cell?;split <;> simp[Addr.add])
  subst hsp;refine⟨b,o,rfl,trivial,block_lt_of_cell h0,fun j x hx=>?_⟩;have hj:j<n:=by
   have:=(List.getElem?_eq_some_iff.1 hx).1;rw[ints,List.length_map,hlen]at this;exact this
  have hjz:j<zs.length:=by omega
  have:=hcell j hjz;have hx':x=.int .i64 (zs.getD j 0):=by
   simp only[ints,List.getElem?_map,List.getElem?_take,hj,if_true,List.getElem?_eq_getElem hjz,Option.map_some,Option.some.injEq]at hx;rw[←hx,List.getD_eq_getElem?_getD,List.getElem?_eq_getElem hjz];rfl
  rw[hx'];by_cases hj0:j=0
  ·subst hj0;simpa [Addr.add]using this
  ·simpa [Addr.add,hj0]using this
theorem Afl:laidOutB Tryz.prog=true:=A3k
theorem trod_lt{H:Type}{enc:TypeId×Value->H}{W:World}{t:TypeId}{v:Value}{d:DataW H}{ps:List MemPlace}(h:DataW.Trod enc Tryz.prog W 0 (fun _=>true) true t v d ps):∀x∈ps,x.block<W.heap.size:=DataW.TrodAll.lt (trodAll_mk1 h)
end
end Go.Proofs.YtjdlndhfaaolaaaGreatDoor
