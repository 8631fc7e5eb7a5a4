import Derived.JoinedCond
import Derived.Test.YtjdlndhfaaolaaaGreatDoorRows
set_option maxHeartbeats 20000000
namespace Go.Proofs.YtjdlndhfaaolaaaGreatDoor
section
theorem Ai9:laidOutB Tryz.pinned.checked.prog=true:=by kernel_rfl
theorem Aia:mapsRowed Tryz.pinned.checked.prog=true:=by kernel_rfl
theorem Ai8:Tryz.pinned.checked.prog.stopsHeard=true:=by kernel_rfl
theorem Ai7:Tryz.pinned.checked.prog.mayEnter=true:=by kernel_rfl
end
end Go.Proofs.YtjdlndhfaaolaaaGreatDoor
