import Derived.Deep.LoopGhost
import Derived.Test.YtjdlndhfaaolaaaGreatDoorY10
set_option maxHeartbeats 20000000
set_option linter.defProp false
namespace Go.Proofs.YtjdlndhfaaolaaaGreatDoor
section
set_option maxRecDepth 100000
open Go.RowKit
variable {b te:Nat}{w:World}{l:List UInt8}{i line:Nat}
def Sc(b te:Nat)(w:World)(l:List UInt8)(i line:Nat):Prop:=w.heap[b]?=some (.cells #[.s l,.n i,.n line] te (0,0))
def Sc.cells(h:Sc b te w l i line):w.cell? ⟨b,0,none⟩=some (.s l)/\w.cell? ⟨b,1,none⟩=some (.n i)/\w.cell? ⟨b,2,none⟩=some (.n line)/\(∀o,w.frozen? ⟨b,o,none⟩=false)/\b<w.heap.size:=
 ⟨A4 h 0 _ rfl,A4 h 1 _ rfl,A4 h 2 _ rfl,By h,A6 h⟩
def Sc.at(h:Sc b te w l i line)(j:Nat)(q:Int)(hq:q=j):Sc b te (w.setCell ⟨b,1,none⟩ (.i q)) l j line:=by
 subst hq;have:=heap_set (j:=1) h (.n j);unfold Sc;simpa using this
def Sc.ln(h:Sc b te w l i line)(j:Nat)(q:Int)(hq:q=j):Sc b te (w.setCell ⟨b,2,none⟩ (.i q)) l i j:=by
 subst hq;have:=heap_set (j:=2) h (.n j);unfold Sc;simpa using this
def Sc.keep{b te:Nat}{w w':World}{l:List UInt8}{i line:Nat}(h:Sc b te w l i line)(hk:w'.heap[b]?=w.heap[b]?):Sc b te w' l i line:=hk.trans h
def z0sa {P:Prop} (h:P:=by
  go_wp2;go_quiet (fail)
  go_wp2;go_ret;have hlen:((l.drop i).take (j-i)).length=j-i:=by simp;omega
  rw[HT.o];refine⟨?_,?_,(ho.drewN _).drewN _⟩
  ·simp
  ·rw[hlen,show i+(j-i)=j by omega];exact hsc.keep rfl):P:=h
def z1ra {P:Prop} (h:P:=by
  go_wp2;go_roundg (gk-1)
  case measure=>omega
  case rel=>exact⟨j+1,by omega,by omega,by omega,HT.o,Sc.at (hsc.keep (w':=wr.drewN _) rfl) (j+1) _ z4ma,A8.set (p:=⟨b,1,none⟩) (ho.drewN _) (.inl rfl) _⟩):P:=h
def Aqn(h:Sc b te w l i line)(hl:l.length<=100000)(hi:i<=l.length) :
  Calls Tryz.prog 176 #[.p b,.func (.func 126) #[] #[]] w fun e w'=>e=.returned (.s ((l.drop i).takeWhile E5))/\Sc b te w' l (i+((l.drop i).takeWhile E5).length) line/\A8 b w w':=by
 obtain⟨c0,c1,c2,fz,lb⟩:=h.cells;have HX:∀a b,(⟨l.toArray⟩:ByteArray).extract a b=⟨((l.drop a).take (b-a)).toArray⟩:=U4 l;have HH:=A0 h;go_in;go_wp2;go_loopg [] (l.length-i) (fun k wr=>∃j,i<=j/\j<=l.length/\j+k=l.length/\((l.drop i).takeWhile E5=(l.drop i).take (j-i)++(l.drop j).takeWhile E5)/\Sc b te wr l j line/\A8 b w wr)
 case atStart=>exact⟨i,Af _,hi,by omega,Aa0 _ _ _,HH.o,A8.refl _ _⟩
 case round=>
  obtain⟨j,hij,hjl,hjk,htw,hsc,ho⟩:=hrel;obtain⟨c0,c1,c2,fz,lb⟩:=hsc.cells;by_cases hlt:j<l.length
  ·have hE:∀h,((⟨l.toArray⟩:ByteArray)[j]'h)=l[j]:=fun h=>Sn l j h;have Im:=fun(hp:E5 l[j]=true)=>Aa1 E5 l i j hij hlt hp htw;have HT0:=fun(hp:E5 l[j]=false)=>Z2 E5 l i j (fun _=>hp) htw;cases hp:E5 l[j]
   ·have HT:=A0 (HT0 hp);go_wp2;go_quiet ((go_at_call 126;exact Calls.quiet_of_same (U0 _ _)))
    have HX':=HX;exact z0sa
   ·have HT:=A0 (Im hp);go_wp2;go_quiet ((go_at_call 126;exact Calls.quiet_of_same (U0 _ _)))
    exact z1ra
  ·have HT:=A0 (Z2 E5 l i j (fun h=>absurd h hlt) htw);have HX':=HX;go_wp2;go_quiet (fail)
   exact z0sa
def Aqq(h:Sc b te w l i line)(hl:l.length<=100000)(hi:i<=l.length) :
  Calls Tryz.prog 176 #[.p b,.func (.func 177) #[] #[]] w fun e w'=>e=.returned (.s ((l.drop i).takeWhile Es))/\Sc b te w' l (i+((l.drop i).takeWhile Es).length) line/\A8 b w w':=by
 obtain⟨c0,c1,c2,fz,lb⟩:=h.cells;have HX:∀a b,(⟨l.toArray⟩:ByteArray).extract a b=⟨((l.drop a).take (b-a)).toArray⟩:=U4 l;have HH:=A0 h;go_in;go_wp2;go_loopg [] (l.length-i) (fun k wr=>∃j,i<=j/\j<=l.length/\j+k=l.length/\((l.drop i).takeWhile Es=(l.drop i).take (j-i)++(l.drop j).takeWhile Es)/\Sc b te wr l j line/\A8 b w wr)
 case atStart=>exact⟨i,Af _,hi,by omega,Aa0 _ _ _,HH.o,A8.refl _ _⟩
 case round=>
  obtain⟨j,hij,hjl,hjk,htw,hsc,ho⟩:=hrel;obtain⟨c0,c1,c2,fz,lb⟩:=hsc.cells;by_cases hlt:j<l.length
  ·have hE:∀h,((⟨l.toArray⟩:ByteArray)[j]'h)=l[j]:=fun h=>Sn l j h;have Im:=fun(hp:Es l[j]=true)=>Aa1 Es l i j hij hlt hp htw;have HT0:=fun(hp:Es l[j]=false)=>Z2 Es l i j (fun _=>hp) htw;cases hp:Es l[j]
   ·have HT:=A0 (HT0 hp);go_wp2;go_quiet ((go_at_call 177;exact Calls.quiet_of_same (A54 _ _)))
    have HX':=HX;exact z0sa
   ·have HT:=A0 (Im hp);go_wp2;go_quiet ((go_at_call 177;exact Calls.quiet_of_same (A54 _ _)))
    exact z1ra
  ·have HT:=A0 (Z2 Es l i j (fun h=>absurd h hlt) htw);have HX':=HX;go_wp2;go_quiet (fail)
   exact z0sa
