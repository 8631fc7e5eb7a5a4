/- What is proved: gambitlaw.Reads answers true for every text: gambit.Compile tells the fault with its line, or the names of the functions, as the document's own reading (package gambitref) does. Conditions: none beyond the row's own (every string; the package variables as the program's start lays them). The code: commit 93bd37500eb0182602347b82508c91ea91efa8cf. Blanks were taken out, lines joined and names shortened by a program; each text walks a part of the code. -/
import Derived.Test.YtjdlndhfaaolaaaGreatDoorR45
import Derived.Test.YtjdlndhfaaolaaaGreatDoorR52
set_option maxHeartbeats 20000000
namespace Go.Proofs.YtjdlndhfaaolaaaGreatDoor
section
theorem reads_holds:Rows.ReadsCardSaid:=A9q A3s
end
end Go.Proofs.YtjdlndhfaaolaaaGreatDoor
