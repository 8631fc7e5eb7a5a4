import Derived.JoinedCond
import Derived.Test.YtjdlndhfaaolaaaGreatDoorRows
set_option maxHeartbeats 20000000
namespace Go.Proofs.YtjdlndhfaaolaaaGreatDoor
section
theorem A3k:laidOutB Tryz.pinned.checked.prog=true:=by kernel_rfl
theorem Ajq:mapsRowed Tryz.pinned.checked.prog=true:=by kernel_rfl
theorem Ajp:Tryz.pinned.checked.prog.stopsHeard=true:=by kernel_rfl
theorem Ajo:Tryz.pinned.checked.prog.mayEnter=true:=by kernel_rfl
end
end Go.Proofs.YtjdlndhfaaolaaaGreatDoor
