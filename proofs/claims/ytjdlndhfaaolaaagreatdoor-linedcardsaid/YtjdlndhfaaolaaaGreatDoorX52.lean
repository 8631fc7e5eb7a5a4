import Derived.Deep.DeepWitnessRowRef
import Derived.LaidMore
import Derived.OpenShut
import Derived.ProofKit
import Derived.ShutString
import Derived.Test.YtjdlndhfaaolaaaGreatDoorCards
import Derived.Test.YtjdlndhfaaolaaaGreatDoorTie
import Derived.Test.YtjdlndhfaaolaaaGreatDoorX48
set_option maxHeartbeats 20000000
namespace Go.Proofs.YtjdlndhfaaolaaaGreatDoor
section
open Go.ChangeShapes Go.WideShapes Go.ChangeAt Go.RowKit Go.ChangeMaps
theorem Afl:ownKnob Tryz.prog.godebug=none:=by kernel_rfl
theorem Am0:(Tryz.prog.globals[Jt]?).map (·.type)=some 452:=by kernel_rfl
theorem Agi:Tryz.prog.underlying 452=some (.array 20 389):=by kernel_rfl
theorem Am4{W:World}(h:laidMetH Tryz.prog Rows.sharedRow.laid W):G9 W:=by
 rw[MakeChecks.laidMetH_plain _ _ _ z4va]at h;obtain⟨ps,⟨g0,t0,cs0,f0,p0,q0,Fw,ht0,hv0,hd0,⟨g1,t1,cs1,f1,p1,q1,Ig,ht1,G3,hd1,⟨g2,t2,cs2,f2,p2,q2,Io,ht2,Fk,hd2,_,_⟩,_⟩,_⟩,_,_⟩:=h;clear hd0 hd1 hv0 G3 ht0 ht1 Fw Ig;obtain rfl:=Option.some.inj (Ze.symm.trans Io);obtain rfl:=Option.some.inj (Am0.symm.trans ht2);have hs:=Lib.cells_of_tab (k:=.u64) (zs:=Lib.pow10Tab) Agi Tryz.underlying389 z4va z4va hd2;unfold G9 Lib.TabIs;rw[←hs,Array.toArray_toList];exact Fk
theorem Adg{n:Int}(h:(Lit.int .i64 n).wf=true):Ht n:=by
 simp only[Lit.wf,Bool.and_eq_true,decide_eq_true_eq]at h;exact h
end
end Go.Proofs.YtjdlndhfaaolaaaGreatDoor
