import Derived.Shelf.Strconv.AppendIntPublic10
import Derived.Shelf.Strconv.ParseIntPublic10
import Derived.Test.YtjdlndhfaaolaaaGreatDoorX15
import Derived.Test.YtjdlndhfaaolaaaGreatDoorX20
set_option maxHeartbeats 20000000
namespace Go.Proofs.YtjdlndhfaaolaaaGreatDoor
section
set_option maxRecDepth 100000
open Go.RowKit
def strs(l:List (List UInt8)):List Value:=l.map fun t=>.string ⟨t.toArray⟩
theorem A3b(l:List (List UInt8))(hfew:l.length<=100000)(w:World)(va:Option Addr)(vn vc:Nat)(ua:Option Addr)(un uc:Nat)(h1:w.ownsRow 0 9 1 (.slice va vn vc) l.length (strs l))(h2:w.ownsRow 0 9 1 (.slice ua un uc) l.length (strs l)) :
  Calls Tryz.prog 20 #[.slice va vn vc,.slice ua un uc] w fun e w'=>e=.returned (.bool true)/\Below w.heap.size w w':=by
 have hvn:vn=l.length:=(Cf h1).1;have hun:un=l.length:=(Cf h2).1;subst hvn hun;have H1:=A0 h1;have H2:=A0 h2;clear h1 h2;go_enter Tryz.func20,Tryz.ntmps20;go_wp2;go_loopg [5] l.length (fun k v wr=>∃i:Nat,v=.int .i64 i/\i+k=l.length/\Below w.heap.size w wr)
 case atStart=>exact⟨0,rfl,by omega,Below.refl _ _⟩
 case round=>
  obtain⟨i,rfl,hik,hbel⟩:=hrel;have HB:=A0 hbel;by_cases hlt:i<l.length
  ·obtain⟨g1,e1,_,c1,l1,k1⟩:=Hg H1.o z4sa;obtain⟨g2,e2,_,c2,l2,k2⟩:=Hg H2.o z4sa;subst e1 e2;have hv:(strs l)[i]?=some (.string ⟨l[i].toArray⟩):=by simp[strs,List.getElem?_eq_getElem hlt]
   have d1:=(World.cell?_of_block (hbel.block g1 l1)).trans (k1 i _ hv);have d2:=(World.cell?_of_block (hbel.block g2 l2)).trans (k2 i _ hv);have ls:=hbel.size;have m1:g1<wr.heap.size:=by omega
   have m2:g2<wr.heap.size:=by omega
   generalize l[i].toArray=nm at *;clear hbel k1 k2 hv;go_wp2;go_quiet (fail)
   go_wp2;go_roundg (gk-1)
   case measure=>omega
   case rel=>exact⟨i+1,rfl,by omega,⟨HB.o.os,HB.o.tape,HB.o.output,HB.o.size,HB.o.block⟩⟩
  ·clear hbel;go_wp2;exact bodyPost_ret (v:=.bool true) (by simp[results,Tryz.results20,go_sem]) rfl ⟨rfl,HB.o⟩
end
end Go.Proofs.YtjdlndhfaaolaaaGreatDoor
