import Derived.Deep.LoopGhost
import Derived.Test.YtjdlndhfaaolaaaGreatDoorX10
set_option maxHeartbeats 20000000
namespace Go.Proofs.YtjdlndhfaaolaaaGreatDoor
section
set_option maxRecDepth 100000
open Go.RowKit
variable {b te:Nat}{w:World}{l:List UInt8}{i line:Nat}
def Sc(b te:Nat)(w:World)(l:List UInt8)(i line:Nat):Prop:=w.heap[b]?=some (.cells #[.string ⟨l.toArray⟩,.int .i64 (i:Nat),.int .i64 (line:Nat)] te (0,0))
theorem Sc.cells(h:Sc b te w l i line):w.cell? ⟨b,0,none⟩=some (.string ⟨l.toArray⟩)/\w.cell? ⟨b,1,none⟩=some (.int .i64 (i:Nat))/\w.cell? ⟨b,2,none⟩=some (.int .i64 (line:Nat))/\(∀o,w.frozen? ⟨b,o,none⟩=false)/\b<w.heap.size:=
 ⟨A7 h 0 _ rfl,A7 h 1 _ rfl,A7 h 2 _ rfl,Ci h,A6 h⟩
theorem Sc.at(h:Sc b te w l i line)(j:Nat)(q:Int)(hq:q=j):Sc b te (w.setCell ⟨b,1,none⟩ (.int .i64 q)) l j line:=by
 subst hq;have:=heap_set (j:=1) h (.int .i64 (j:Nat));unfold Sc;simpa using this
theorem Sc.ln(h:Sc b te w l i line)(j:Nat)(q:Int)(hq:q=j):Sc b te (w.setCell ⟨b,2,none⟩ (.int .i64 q)) l i j:=by
 subst hq;have:=heap_set (j:=2) h (.int .i64 (j:Nat));unfold Sc;simpa using this
theorem Sc.keep{b te:Nat}{w w':World}{l:List UInt8}{i line:Nat}(h:Sc b te w l i line)(hk:w'.heap[b]?=w.heap[b]?):Sc b te w' l i line:=hk.trans h
theorem z0sa {P:Prop} (h:P:=by
  go_wp2;go_quiet (fail)
  go_wp2;go_ret;have hlen:((l.drop i).take (j-i)).length=j-i:=by simp;omega
  rw[HT.o];refine⟨?_,?_,(HO.o.drewN _).drewN _⟩
  ·simp
  ·rw[hlen,show i+(j-i)=j by omega];exact HSc.o.keep rfl):P:=h
theorem z1va {P:Prop} (h:P:=by
  go_wp2;go_roundg (gk-1)
  case measure=>omega
  case rel=>exact⟨j+1,by omega,by omega,by omega,HT.o,Sc.at (HSc.o.keep (w':=wr.drewN _) rfl) (j+1) _ z4sa,A5.set (p:=⟨b,1,none⟩) (HO.o.drewN _) (.inl rfl) _⟩):P:=h
theorem Aib(h:Sc b te w l i line)(hl:l.length<=100000)(hi:i<=l.length) :
  Calls Tryz.prog 176 #[.pointer (some ⟨b,0,none⟩),.func (.func 126) #[] #[]] w fun e w'=>e=.returned (.string ⟨((l.drop i).takeWhile Cw).toArray⟩)/\Sc b te w' l (i+((l.drop i).takeWhile Cw).length) line/\A5 b w w':=by
 obtain⟨c0,c1,c2,fz,lb⟩:=h.cells;have HX:Hid (∀a b,(⟨l.toArray⟩:ByteArray).extract a b=⟨((l.drop a).take (b-a)).toArray⟩):=Qa l;have HH:=A0 h;clear h;go_enter Tryz.func176,Tryz.ntmps176;go_wp2;clear c0 c1 c2 fz lb;go_loopg [] (l.length-i) (fun k wr=>∃j,i<=j/\j<=l.length/\j+k=l.length/\((l.drop i).takeWhile Cw=(l.drop i).take (j-i)++(l.drop j).takeWhile Cw)/\Sc b te wr l j line/\A5 b w wr)
 case atStart=>exact⟨i,Nat.le_refl _,hi,by omega,A4p _ _ _,HH.o,A5.refl _ _⟩
 case round=>
  clear HH;obtain⟨j,hij,hjl,hjk,htw,hsc,ho⟩:=hrel;obtain⟨c0,c1,c2,fz,lb⟩:=hsc.cells;have HSc:=A0 hsc;have HO:=A0 ho;by_cases hlt:j<l.length
  ·have hE:∀h,((⟨l.toArray⟩:ByteArray)[j]'h)=l[j]:=fun h=>P5 l j h;have Gq:=A0 (fun(hp:Cw l[j]=true)=>A4q Cw l i j hij hlt hp htw);have HT0:=A0 (fun(hp:Cw l[j]=false)=>Uw Cw l i j (fun _=>hp) htw);clear htw hsc ho;cases hp:Cw l[j]
   ·have HT:=A0 (HT0.o hp);go_wp2;go_quiet ((go_at_call 126;exact Calls.quiet_of_same (Q6 _ _)))
    have HX':=HX.o;exact z0sa
   ·have HT:=A0 (Gq.o hp);go_wp2;go_quiet ((go_at_call 126;exact Calls.quiet_of_same (Q6 _ _)))
    exact z1va
  ·have HT:=A0 (Uw Cw l i j (fun h=>absurd h hlt) htw);have HX':=HX.o;clear htw hsc ho;go_wp2;go_quiet (fail)
   exact z0sa
theorem Aif(h:Sc b te w l i line)(hl:l.length<=100000)(hi:i<=l.length) :
  Calls Tryz.prog 176 #[.pointer (some ⟨b,0,none⟩),.func (.func 177) #[] #[]] w fun e w'=>e=.returned (.string ⟨((l.drop i).takeWhile Di).toArray⟩)/\Sc b te w' l (i+((l.drop i).takeWhile Di).length) line/\A5 b w w':=by
 obtain⟨c0,c1,c2,fz,lb⟩:=h.cells;have HX:Hid (∀a b,(⟨l.toArray⟩:ByteArray).extract a b=⟨((l.drop a).take (b-a)).toArray⟩):=Qa l;have HH:=A0 h;clear h;go_enter Tryz.func176,Tryz.ntmps176;go_wp2;clear c0 c1 c2 fz lb;go_loopg [] (l.length-i) (fun k wr=>∃j,i<=j/\j<=l.length/\j+k=l.length/\((l.drop i).takeWhile Di=(l.drop i).take (j-i)++(l.drop j).takeWhile Di)/\Sc b te wr l j line/\A5 b w wr)
 case atStart=>exact⟨i,Nat.le_refl _,hi,by omega,A4p _ _ _,HH.o,A5.refl _ _⟩
 case round=>
  clear HH;obtain⟨j,hij,hjl,hjk,htw,hsc,ho⟩:=hrel;obtain⟨c0,c1,c2,fz,lb⟩:=hsc.cells;have HSc:=A0 hsc;have HO:=A0 ho;by_cases hlt:j<l.length
  ·have hE:∀h,((⟨l.toArray⟩:ByteArray)[j]'h)=l[j]:=fun h=>P5 l j h;have Gq:=A0 (fun(hp:Di l[j]=true)=>A4q Di l i j hij hlt hp htw);have HT0:=A0 (fun(hp:Di l[j]=false)=>Uw Di l i j (fun _=>hp) htw);clear htw hsc ho;cases hp:Di l[j]
   ·have HT:=A0 (HT0.o hp);go_wp2;go_quiet ((go_at_call 177;exact Calls.quiet_of_same (p8 _ _)))
    have HX':=HX.o;exact z0sa
   ·have HT:=A0 (Gq.o hp);go_wp2;go_quiet ((go_at_call 177;exact Calls.quiet_of_same (p8 _ _)))
    exact z1va
  ·have HT:=A0 (Uw Di l i j (fun h=>absurd h hlt) htw);have HX':=HX.o;clear htw hsc ho;go_wp2;go_quiet (fail)
   exact z0sa
end
section
set_option maxRecDepth 100000
open Go.RowKit
theorem P7{c:UInt8}{v:Bool}(h:I4 c=v)(w:World):Calls Tryz.prog 180 #[.int .u8 c.toNat] w fun e w'=>e=.returned (.bool v)/\w'=w:=by
 subst h;exact Aa7 c w
theorem z0ta {P:Prop} (h:P:=by
  go_wp2;go_quiet (fail)
  have hsc5:Sc b te (wr.drewN nq) l j line:=HSc.o.keep rfl;have C6:Hid (A5 b w (wr.drewN nq)):=HO.o.drewN _;clear c0 c1 c2 fz lb HSc HO;generalize wr.drewN nq=w5 at *;obtain⟨c0,c1,c2,fz,lb⟩:=hsc5.cells;have HSc:=A0 hsc5;clear hsc5;go_wp2;go_quiet ((go_at_call 180;exact Calls.quiet_of_same (P7 hp _)))
  go_wp2;go_roundg (gk-1)
  case measure=>omega
  case rel=>
   refine⟨j+1,by omega,by omega,by omega,?_,?_,Sc.at (HSc.o.keep (w':=w5.drewN _) rfl) (j+1) _ z4sa,A5.set (p:=⟨b,1,none⟩) (C6.o.drewN _) (.inl rfl) _⟩
   ·rw[HR.o.1,HD2.o]
   ·rw[HR.o.2,HD2.o];show j+(_+1)=_;omega):P:=h
theorem Aa6{b te:Nat}{w:World}{l:List UInt8}{i line:Nat}(h:Sc b te w l i line)(hl:l.length<=100000)(hi:i<=l.length) :
  Calls Tryz.prog 175 #[.pointer (some ⟨b,0,none⟩)] w fun e w'=>e=.returned (.bool (Dw (l.drop i)).2)/\Sc b te w' l (i+(Dw (l.drop i)).1) line/\A5 b w w':=by
 have HH:=A0 h;clear h;go_enter Tryz.func175,Tryz.ntmps175;go_wp2;go_loopg [] (l.length-i) (fun k wr=>∃j,i<=j/\j<=l.length/\j+k=l.length/\(Dw (l.drop i)).2=(Dw (l.drop j)).2/\i+(Dw (l.drop i)).1=j+(Dw (l.drop j)).1/\Sc b te wr l j line/\A5 b w wr)
 case atStart=>exact⟨i,Nat.le_refl _,hi,by omega,rfl,rfl,HH.o,A5.refl _ _⟩
 case round=>
  clear HH;obtain⟨j,hij,hjl,hjk,B8,Bm,hsc,ho⟩:=hrel;obtain⟨c0,c1,c2,fz,lb⟩:=hsc.cells;have HSc:=A0 hsc;have HO:=A0 ho;have HR:=A0 (And.intro B8 Bm);clear B8 Bm hsc ho;by_cases hlt:j<l.length
  ·have hE:∀h,((⟨l.toArray⟩:ByteArray)[j]'h)=l[j]:=fun h=>P5 l j h;have HD:Hid (Dw (l.drop j)=if l[j]==10 then(0,true) else if l[j] !=9&&!(I4 l[j]) then(0,false) else((Dw (l.drop (j+1))).1+1,(Dw (l.drop (j+1))).2)):=by
    show _=_;rw[List.drop_eq_getElem_cons hlt,Dw]
   by_cases h10:l[j]=10
   ·have t1:((l[j].toNat:Int) !=10)=false:=n8 (d:=10) rfl h10;have HD':Hid (Dw (l.drop j)=(0,true)):=by
     show _=_;rw[HD.o,h10];rfl
    clear HD h10;go_wp2;go_quiet (fail)
    go_wp2;go_ret;rw[HR.o.1,HR.o.2,HD'.o];exact⟨rfl,HSc.o.keep rfl,HO.o.drewN _⟩
   ·have t1:((l[j].toNat:Int) !=10)=true:=l9 (d:=10) rfl h10;have HD1:Hid (Dw (l.drop j)=if l[j] !=9&&!(I4 l[j]) then(0,false) else((Dw (l.drop (j+1))).1+1,(Dw (l.drop (j+1))).2)):=by
     show _=_;rw[HD.o,beq_eq_false_iff_ne.2 h10];rfl
    clear HD h10;cases hp:I4 l[j]
    ·by_cases h9:l[j]=9
     ·have t2:((l[j].toNat:Int) !=9)=false:=n8 (d:=9) rfl h9;have HD2:Hid (Dw (l.drop j)=((Dw (l.drop (j+1))).1+1,(Dw (l.drop (j+1))).2)):=by
       show _=_;rw[HD1.o,h9];rfl
      clear HD1 h9;exact z0ta
     ·have t2:((l[j].toNat:Int) !=9)=true:=l9 (d:=9) rfl h9;have HD2:Hid (Dw (l.drop j)=(0,false)):=by
       show _=_;have:(l[j] !=9)=true:=by simpa using h9
       rw[HD1.o,hp,this];rfl
      clear HD1 h9;go_wp2;go_quiet (fail)
      have hsc5:Sc b te (wr.drewN nq) l j line:=HSc.o.keep rfl;have C6:Hid (A5 b w (wr.drewN nq)):=HO.o.drewN _;clear c0 c1 c2 fz lb HSc HO;generalize wr.drewN nq=w5 at *;obtain⟨c0,c1,c2,fz,lb⟩:=hsc5.cells;have HSc:=A0 hsc5;clear hsc5;go_wp2;go_quiet ((go_at_call 180;exact Calls.quiet_of_same (P7 hp _)))
      go_wp2;go_ret;rw[HR.o.1,HR.o.2,HD2.o];exact⟨rfl,HSc.o.keep rfl,C6.o.drewN _⟩
    ·have HD2:Hid (Dw (l.drop j)=((Dw (l.drop (j+1))).1+1,(Dw (l.drop (j+1))).2)):=by
      show _=_;rw[HD1.o,hp,Bool.not_true,Bool.and_false];rfl
     clear HD1;exact z0ta
  ·have HD:Hid (Dw (l.drop j)=(0,true)):=by
    show _=_;rw[List.drop_eq_nil_of_le z4sa,Dw]
   go_wp2;go_quiet (fail)
   go_wp2;go_ret;rw[HR.o.1,HR.o.2,HD.o];exact⟨rfl,HSc.o.keep rfl,HO.o.drewN _⟩
end
section
open Go.RowKit
def Gk(l p:List UInt8):Bool:=decide (p.length<=l.length)&&(l.take p.length==p)
theorem z4ea {P:Prop} (h:P:=by
  go_enter Tryz.func226,Tryz.ntmps226;go_wp2;go_ret;refine⟨?_,rfl⟩;rw[HE.o];simp):P:=h
theorem Aki(l p:List UInt8)(w:World) :
  Calls Tryz.prog 226 #[.string ⟨l.toArray⟩,.string ⟨p.toArray⟩] w fun e w'=>e=.returned (.bool (Gk l p))/\w'=w:=by
 have HX:∀a b,(⟨l.toArray⟩:ByteArray).extract a b=⟨((l.drop a).take (b-a)).toArray⟩:=Qa l;by_cases h:p.length<=l.length
 ·have HE:Hid (Gk l p=(l.take p.length==p)):=by show _=_;unfold Gk;rw[decide_eq_true h];rfl
  exact z4ea
 ·have HE:Hid (Gk l p=false):=by show _=_;unfold Gk;rw[decide_eq_false h];rfl
  exact z4ea
theorem Alx(l p:List UInt8)(w:World) :
  Calls Tryz.prog 174 #[.string ⟨l.toArray⟩,.string ⟨p.toArray⟩] w fun e w'=>e=.returned (.bool (Gk l p))/\w'=w:=by
 go_enter Tryz.func174,Tryz.ntmps174;go_wp2_with fail
 refine(Aki l p _).mono ?_;rintro e w' ⟨rfl,rfl⟩;exact z46a
end
end Go.Proofs.YtjdlndhfaaolaaaGreatDoor
