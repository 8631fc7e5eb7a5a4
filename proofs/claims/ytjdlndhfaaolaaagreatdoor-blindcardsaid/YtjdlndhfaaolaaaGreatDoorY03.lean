import Derived.JoinedCond
import Derived.Test.YtjdlndhfaaolaaaGreatDoorRows
set_option maxHeartbeats 20000000
set_option linter.defProp false
namespace Go.Proofs.YtjdlndhfaaolaaaGreatDoor
section
def A8r:laidOutB Tryz.pinned.checked.prog=true:=by kernel_rfl
def Aqm:mapsRowed Tryz.pinned.checked.prog=true:=by kernel_rfl
def Aql:Tryz.pinned.checked.prog.stopsHeard=true:=by kernel_rfl
def Aqk:Tryz.pinned.checked.prog.mayEnter=true:=by kernel_rfl
