import Derived.Test.YtjdlndhfaaolaaaGreatDoorX04
set_option maxHeartbeats 20000000
namespace Go.Proofs.YtjdlndhfaaolaaaGreatDoor
section
theorem Ahv:(Rows.linedRow.inPlace==Tryz.pinned.checked.prog.inPlace 7)=true:=by kernel_rfl
theorem Ai1:(Rows.linedRow.unfollowed==Tryz.pinned.checked.prog.unfollowed 7)=true:=by kernel_rfl
theorem Ai0:(Rows.linedRow.recurses==Tryz.pinned.checked.prog.recurses 7)=true:=by kernel_rfl
theorem Ahz:(Rows.linedRow.named==Tryz.pinned.checked.prog.varsNamed 7)=true:=by kernel_rfl
theorem Ahw:(Rows.linedRow.plainKeys==Tryz.pinned.checked.prog.plainKeys)=true:=by kernel_rfl
theorem Ahx:(Rows.linedRow.lifted==Tryz.pinned.checked.prog.liftsFinal)=true:=by kernel_rfl
theorem Ahy:(Tryz.pinned.checked.prog.make==some Rows.linedRow.make)=true:=by kernel_rfl
theorem Aen:joinedFacts Tryz.pinned.checked.prog 7 Tryz.f7 (OpenSpec.ofChange Rows.linedSpec).bare Rows.linedRow=true:=by
 unfold joinedFacts;rw[Ai9,Aia,Ahv,Ai1,Ai0,Ahz,Ahw,Ai8,Ai7,Ahx,Ahy];kernel_rfl
end
end Go.Proofs.YtjdlndhfaaolaaaGreatDoor
