import Derived.JoinedCond
import Derived.Test.YtjdlndhfaaolaaaGreatDoorRows
set_option maxHeartbeats 20000000
namespace Go.Proofs.YtjdlndhfaaolaaaGreatDoor
section
theorem A2c:laidOutB Tryz.pinned.checked.prog=true:=by kernel_rfl
theorem Aak:mapsRowed Tryz.pinned.checked.prog=true:=by kernel_rfl
theorem Alu:(Rows.reckonedRow.inPlace==Tryz.pinned.checked.prog.inPlace 5)=true:=by kernel_rfl
theorem A3l:(Rows.reckonedRow.unfollowed==Tryz.pinned.checked.prog.unfollowed 5)=true:=by kernel_rfl
theorem A9m:(Rows.reckonedRow.recurses==Tryz.pinned.checked.prog.recurses 5)=true:=by kernel_rfl
theorem Ad7:(Rows.reckonedRow.named==Tryz.pinned.checked.prog.varsNamed 5)=true:=by kernel_rfl
theorem Afo:(Rows.reckonedRow.plainKeys==Tryz.pinned.checked.prog.plainKeys)=true:=by kernel_rfl
theorem Ai2:Tryz.pinned.checked.prog.stopsHeard=true:=by kernel_rfl
theorem Agl:Tryz.pinned.checked.prog.mayEnter=true:=by kernel_rfl
theorem Afg:(Rows.reckonedRow.lifted==Tryz.pinned.checked.prog.liftsFinal)=true:=by kernel_rfl
theorem Aaf:(Tryz.pinned.checked.prog.make==some Rows.reckonedRow.make)=true:=by kernel_rfl
theorem Ait:joinedFacts Tryz.pinned.checked.prog 5 Tryz.f5 (OpenSpec.ofChange Rows.reckonedSpec).bare Rows.reckonedRow=true:=by
 unfold joinedFacts;rw[A2c,Aak,Alu,A3l,A9m,Ad7,Afo,Ai2,Agl,Afg,Aaf];kernel_rfl
end
end Go.Proofs.YtjdlndhfaaolaaaGreatDoor
