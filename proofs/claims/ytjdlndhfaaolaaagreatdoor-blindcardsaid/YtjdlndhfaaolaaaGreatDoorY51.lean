import Derived.Deep.DeepWitnessRowRef
import Derived.LaidMore
import Derived.OpenShut
import Derived.ProofKit
import Derived.ShutString
import Derived.Test.YtjdlndhfaaolaaaGreatDoorCards
import Derived.Test.YtjdlndhfaaolaaaGreatDoorTie
import Derived.Test.YtjdlndhfaaolaaaGreatDoorY03
import Derived.Test.YtjdlndhfaaolaaaGreatDoorY42
set_option maxHeartbeats 20000000
set_option linter.all false
namespace Go.Proofs.YtjdlndhfaaolaaaGreatDoor
section
open Go.ChangeShapes Go.WideShapes Go.ChangeAt Go.RowKit Go.ChangeMaps
def Amy:ownKnob Tryz.prog.godebug=none:=by kernel_rfl
def Aul:(Tryz.prog.globals[Lg]?).map (·.type)=some 452:=by kernel_rfl
def Aoo:Tryz.prog.underlying 452=some (.array 20 389):=by kernel_rfl
def Aup{W:World}(h:laidMetH Tryz.prog Rows.sharedRow.laid W):Hr W:=by
 rw[MakeChecks.laidMetH_plain _ _ _ z4pa]at h;obtain⟨ps,⟨g0,t0,cs0,f0,p0,q0,Fy,ht0,hv0,hd0,⟨g1,t1,cs1,f1,p1,q1,Kj,ht1,Hg,hd1,⟨g2,t2,cs2,f2,p2,q2,Jw,ht2,Iv,hd2,_,_⟩,_⟩,_⟩,_,_⟩:=h;obtain rfl:=Dl (A2k.symm.trans Jw);obtain rfl:=Dl (Aul.symm.trans ht2);have hs:=Lib.cells_of_tab (k:=.u64) (zs:=Lib.pow10Tab) Aoo Tryz.underlying389 z4pa z4pa hd2;unfold Hr Lib.TabIs;rw[←hs,Zf];exact Iv
def A6z:laidOutB Tryz.prog=true:=A8r
def trod_lt{H:Type}{enc:TypeId×Value->H}{W:World}{t:TypeId}{v:Value}{d:DataW H}{ps:List MemPlace}(h:DataW.Trod enc Tryz.prog W 0 (fun _=>true) true t v d ps):∀x∈ps,x.block<W.heap.size:=DataW.TrodAll.lt (trodAll_mk1 h)
