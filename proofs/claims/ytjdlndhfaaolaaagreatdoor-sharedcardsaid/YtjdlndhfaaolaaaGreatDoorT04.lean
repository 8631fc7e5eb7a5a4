import Derived.JoinedCond
import Derived.Test.YtjdlndhfaaolaaaGreatDoorRows
set_option maxHeartbeats 20000000
namespace Go.Proofs.YtjdlndhfaaolaaaGreatDoor
section
theorem A3f:laidOutB Tryz.pinned.checked.prog=true:=by kernel_rfl
theorem Ajg:mapsRowed Tryz.pinned.checked.prog=true:=by kernel_rfl
theorem Ajc:(Rows.sharedRow.inPlace==Tryz.pinned.checked.prog.inPlace 6)=true:=by kernel_rfl
theorem Ajj:(Rows.sharedRow.unfollowed==Tryz.pinned.checked.prog.unfollowed 6)=true:=by kernel_rfl
theorem Aji:(Rows.sharedRow.recurses==Tryz.pinned.checked.prog.recurses 6)=true:=by kernel_rfl
theorem Ajh:(Rows.sharedRow.named==Tryz.pinned.checked.prog.varsNamed 6)=true:=by kernel_rfl
theorem Ajd:(Rows.sharedRow.plainKeys==Tryz.pinned.checked.prog.plainKeys)=true:=by kernel_rfl
theorem Ajb:Tryz.pinned.checked.prog.stopsHeard=true:=by kernel_rfl
theorem Aja:Tryz.pinned.checked.prog.mayEnter=true:=by kernel_rfl
theorem Aje:(Rows.sharedRow.lifted==Tryz.pinned.checked.prog.liftsFinal)=true:=by kernel_rfl
theorem Ajf:(Tryz.pinned.checked.prog.make==some Rows.sharedRow.make)=true:=by kernel_rfl
theorem Alk:joinedFacts Tryz.pinned.checked.prog 6 Tryz.f6 (OpenSpec.ofChange Rows.sharedSpec).bare Rows.sharedRow=true:=by
 unfold joinedFacts;rw[A3f,Ajg,Ajc,Ajj,Aji,Ajh,Ajd,Ajb,Aja,Aje,Ajf];kernel_rfl
end
end Go.Proofs.YtjdlndhfaaolaaaGreatDoor
