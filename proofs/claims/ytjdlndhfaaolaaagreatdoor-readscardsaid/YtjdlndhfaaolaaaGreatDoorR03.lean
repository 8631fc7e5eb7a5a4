import Derived.JoinedCond
import Derived.Test.YtjdlndhfaaolaaaGreatDoorRows
set_option maxHeartbeats 20000000
namespace Go.Proofs.YtjdlndhfaaolaaaGreatDoor
section
theorem A9h:laidOutB Tryz.pinned.checked.prog=true:=by kernel_rfl
theorem A9k:mapsRowed Tryz.pinned.checked.prog=true:=by kernel_rfl
theorem A9f:(Rows.readsRow.inPlace==Tryz.pinned.checked.prog.inPlace 3)=true:=by kernel_rfl
theorem A9n:(Rows.readsRow.unfollowed==Tryz.pinned.checked.prog.unfollowed 3)=true:=by kernel_rfl
theorem A9m:(Rows.readsRow.recurses==Tryz.pinned.checked.prog.recurses 3)=true:=by kernel_rfl
theorem A9l:(Rows.readsRow.named==Tryz.pinned.checked.prog.varsNamed 3)=true:=by kernel_rfl
theorem A9g:(Rows.readsRow.plainKeys==Tryz.pinned.checked.prog.plainKeys)=true:=by kernel_rfl
theorem A9e:Tryz.pinned.checked.prog.stopsHeard=true:=by kernel_rfl
theorem A9d:Tryz.pinned.checked.prog.mayEnter=true:=by kernel_rfl
theorem A9i:(Rows.readsRow.lifted==Tryz.pinned.checked.prog.liftsFinal)=true:=by kernel_rfl
theorem A9j:(Tryz.pinned.checked.prog.make==some Rows.readsRow.make)=true:=by kernel_rfl
theorem A9s:joinedFacts Tryz.pinned.checked.prog 3 Tryz.f3 (OpenSpec.ofChange Rows.readsSpec).bare Rows.readsRow=true:=by
 unfold joinedFacts;rw[A9h,A9k,A9f,A9n,A9m,A9l,A9g,A9e,A9d,A9i,A9j];kernel_rfl
end
end Go.Proofs.YtjdlndhfaaolaaaGreatDoor
