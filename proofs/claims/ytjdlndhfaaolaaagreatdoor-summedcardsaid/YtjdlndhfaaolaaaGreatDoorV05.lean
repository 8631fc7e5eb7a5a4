import Derived.Test.YtjdlndhfaaolaaaGreatDoorV04
set_option maxHeartbeats 20000000
namespace Go.Proofs.YtjdlndhfaaolaaaGreatDoor
section
theorem Ajr:(Rows.summedRow.inPlace==Tryz.pinned.checked.prog.inPlace 10)=true:=by kernel_rfl
theorem Ajx:(Rows.summedRow.unfollowed==Tryz.pinned.checked.prog.unfollowed 10)=true:=by kernel_rfl
theorem Ajw:(Rows.summedRow.recurses==Tryz.pinned.checked.prog.recurses 10)=true:=by kernel_rfl
theorem Ajv:(Rows.summedRow.named==Tryz.pinned.checked.prog.varsNamed 10)=true:=by kernel_rfl
theorem Ajs:(Rows.summedRow.plainKeys==Tryz.pinned.checked.prog.plainKeys)=true:=by kernel_rfl
theorem Ajt:(Rows.summedRow.lifted==Tryz.pinned.checked.prog.liftsFinal)=true:=by kernel_rfl
theorem Aju:(Tryz.pinned.checked.prog.make==some Rows.summedRow.make)=true:=by kernel_rfl
theorem Anz:joinedFacts Tryz.pinned.checked.prog 10 Tryz.f10 (OpenSpec.ofChange Rows.summedSpec).bare Rows.summedRow=true:=by
 unfold joinedFacts;rw[A3k,Ajq,Ajr,Ajx,Ajw,Ajv,Ajs,Ajp,Ajo,Ajt,Aju];kernel_rfl
end
end Go.Proofs.YtjdlndhfaaolaaaGreatDoor
