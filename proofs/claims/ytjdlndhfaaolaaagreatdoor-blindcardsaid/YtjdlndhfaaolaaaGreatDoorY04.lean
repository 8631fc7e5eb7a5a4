import Derived.Test.YtjdlndhfaaolaaaGreatDoorY03
set_option maxHeartbeats 20000000
set_option linter.defProp false
namespace Go.Proofs.YtjdlndhfaaolaaaGreatDoor
section
def Aq3:(Rows.blindRow.inPlace==Tryz.pinned.checked.prog.inPlace 9)=true:=by kernel_rfl
def Aq9:(Rows.blindRow.unfollowed==Tryz.pinned.checked.prog.unfollowed 9)=true:=by kernel_rfl
def Aq8:(Rows.blindRow.recurses==Tryz.pinned.checked.prog.recurses 9)=true:=by kernel_rfl
def Aq7:(Rows.blindRow.named==Tryz.pinned.checked.prog.varsNamed 9)=true:=by kernel_rfl
def Aq4:(Rows.blindRow.plainKeys==Tryz.pinned.checked.prog.plainKeys)=true:=by kernel_rfl
def Aq5:(Rows.blindRow.lifted==Tryz.pinned.checked.prog.liftsFinal)=true:=by kernel_rfl
def Aq6:(Tryz.pinned.checked.prog.make==some Rows.blindRow.make)=true:=by kernel_rfl
def Afj:joinedFacts Tryz.pinned.checked.prog 9 Tryz.f9 (OpenSpec.ofChange Rows.blindSpec).bare Rows.blindRow=true:=by
 unfold joinedFacts;rw[A8r,Aqm,Aq3,Aq9,Aq8,Aq7,Aq4,Aql,Aqk,Aq5,Aq6];kernel_rfl
