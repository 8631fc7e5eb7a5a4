import Derived.Deep.LoopGhost
import Derived.Test.YtjdlndhfaaolaaaGreatDoorR08
import Derived.Test.YtjdlndhfaaolaaaGreatDoorR12
set_option maxHeartbeats 20000000
namespace Go.Proofs.YtjdlndhfaaolaaaGreatDoor
section
set_option maxRecDepth 100000
open Go.RowKit
variable {b te:Nat}{w:World}{l:List UInt8}{i line:Nat}
def Sc(b te:Nat)(w:World)(l:List UInt8)(i line:Nat):Prop:=w.heap[b]?=some (.cells #[.string ⟨l.toArray⟩,.int .i64 (i:Nat),.int .i64 (line:Nat)] te (0,0))
theorem Sc.cells(h:Sc b te w l i line):w.cell? ⟨b,0,none⟩=some (.string ⟨l.toArray⟩)/\w.cell? ⟨b,1,none⟩=some (.int .i64 (i:Nat))/\w.cell? ⟨b,2,none⟩=some (.int .i64 (line:Nat))/\(∀o,w.frozen? ⟨b,o,none⟩=false)/\b<w.heap.size:=
 ⟨Ac h 0 _ rfl,Ac h 1 _ rfl,Ac h 2 _ rfl,Ce h,A5 h⟩
theorem Sc.at(h:Sc b te w l i line)(j:Nat)(q:Int)(hq:q=j):Sc b te (w.setCell ⟨b,1,none⟩ (.int .i64 q)) l j line:=by
 subst hq;have:=heap_set (j:=1) h (.int .i64 (j:Nat));unfold Sc;simpa using this
theorem Sc.ln(h:Sc b te w l i line)(j:Nat)(q:Int)(hq:q=j):Sc b te (w.setCell ⟨b,2,none⟩ (.int .i64 q)) l i j:=by
 subst hq;have:=heap_set (j:=2) h (.int .i64 (j:Nat));unfold Sc;simpa using this
theorem Sc.keep{b te:Nat}{w w':World}{l:List UInt8}{i line:Nat}(h:Sc b te w l i line)(hk:w'.heap[b]?=w.heap[b]?):Sc b te w' l i line:=hk.trans h
theorem Aab(h:Sc b te w l i line)(hl:l.length<=100000)(hi:i<=l.length) :
  Calls Tryz.prog 176 #[.pointer (some ⟨b,0,none⟩),.func (.func 126) #[] #[]] w fun e w'=>e=.returned (.string ⟨((l.drop i).takeWhile Cd).toArray⟩)/\Sc b te w' l (i+((l.drop i).takeWhile Cd).length) line/\A1 b w w':=by
 obtain⟨c0,c1,c2,fz,lb⟩:=h.cells;have HX:Hid (∀a b,(⟨l.toArray⟩:ByteArray).extract a b=⟨((l.drop a).take (b-a)).toArray⟩):=N5 l;have HH:=A0 h;clear h;go_enter Tryz.func176,Tryz.ntmps176;go_wp2;clear c0 c1 c2 fz lb;go_loopg [] (l.length-i) (fun k wr=>∃j,i<=j/\j<=l.length/\j+k=l.length/\((l.drop i).takeWhile Cd=(l.drop i).take (j-i)++(l.drop j).takeWhile Cd)/\Sc b te wr l j line/\A1 b w wr)
 case atStart=>exact⟨i,Nat.le_refl _,hi,by omega,Ua _ _ _,HH.o,A1.refl _ _⟩
 case round=>
  clear HH;obtain⟨j,hij,hjl,hjk,htw,hsc,ho⟩:=hrel;obtain⟨c0,c1,c2,fz,lb⟩:=hsc.cells;have HSc:=A0 hsc;have HO:=A0 ho;by_cases hlt:j<l.length
  ·have hE:∀h,((⟨l.toArray⟩:ByteArray)[j]'h)=l[j]:=fun h=>L3 l j h;have Ip:=A0 (fun(hp:Cd l[j]=true)=>Ub Cd l i j hij hlt hp htw);have HT0:=A0 (fun(hp:Cd l[j]=false)=>Rc Cd l i j (fun _=>hp) htw);clear htw hsc ho;cases hp:Cd l[j]
   ·have HT:=A0 (HT0.o hp);go_wp2;go_quiet ((go_at_call 126;exact Calls.quiet_of_same (Qo _ _)))
    have HX':=HX.o;go_wp2;go_quiet (fail)
    go_wp2;go_ret;have hlen:((l.drop i).take (j-i)).length=j-i:=by simp;omega
    rw[HT.o];refine⟨?_,?_,(HO.o.drewN _).drewN _⟩
    ·simp
    ·rw[hlen,show i+(j-i)=j by omega];exact HSc.o.keep rfl
   ·have HT:=A0 (Ip.o hp);go_wp2;go_quiet ((go_at_call 126;exact Calls.quiet_of_same (Qo _ _)))
    go_wp2;go_roundg (gk-1)
    case measure=>omega
    case rel=>exact⟨j+1,by omega,by omega,by omega,HT.o,Sc.at (HSc.o.keep (w':=wr.drewN _) rfl) (j+1) _ (by omega),A1.set (p:=⟨b,1,none⟩) (HO.o.drewN _) (.inl rfl) _⟩
  ·have HT:=A0 (Rc Cd l i j (fun h=>absurd h hlt) htw);have HX':=HX.o;clear htw hsc ho;go_wp2;go_quiet (fail)
   go_wp2;go_quiet (fail)
   go_wp2;go_ret;have hlen:((l.drop i).take (j-i)).length=j-i:=by simp;omega
   rw[HT.o];refine⟨?_,?_,(HO.o.drewN _).drewN _⟩
   ·simp
   ·rw[hlen,show i+(j-i)=j by omega];exact HSc.o.keep rfl
theorem Aac(h:Sc b te w l i line)(hl:l.length<=100000)(hi:i<=l.length) :
  Calls Tryz.prog 176 #[.pointer (some ⟨b,0,none⟩),.func (.func 177) #[] #[]] w fun e w'=>e=.returned (.string ⟨((l.drop i).takeWhile Ct).toArray⟩)/\Sc b te w' l (i+((l.drop i).takeWhile Ct).length) line/\A1 b w w':=by
 obtain⟨c0,c1,c2,fz,lb⟩:=h.cells;have HX:Hid (∀a b,(⟨l.toArray⟩:ByteArray).extract a b=⟨((l.drop a).take (b-a)).toArray⟩):=N5 l;have HH:=A0 h;clear h;go_enter Tryz.func176,Tryz.ntmps176;go_wp2;clear c0 c1 c2 fz lb;go_loopg [] (l.length-i) (fun k wr=>∃j,i<=j/\j<=l.length/\j+k=l.length/\((l.drop i).takeWhile Ct=(l.drop i).take (j-i)++(l.drop j).takeWhile Ct)/\Sc b te wr l j line/\A1 b w wr)
 case atStart=>exact⟨i,Nat.le_refl _,hi,by omega,Ua _ _ _,HH.o,A1.refl _ _⟩
 case round=>
  clear HH;obtain⟨j,hij,hjl,hjk,htw,hsc,ho⟩:=hrel;obtain⟨c0,c1,c2,fz,lb⟩:=hsc.cells;have HSc:=A0 hsc;have HO:=A0 ho;by_cases hlt:j<l.length
  ·have hE:∀h,((⟨l.toArray⟩:ByteArray)[j]'h)=l[j]:=fun h=>L3 l j h;have Ip:=A0 (fun(hp:Ct l[j]=true)=>Ub Ct l i j hij hlt hp htw);have HT0:=A0 (fun(hp:Ct l[j]=false)=>Rc Ct l i j (fun _=>hp) htw);clear htw hsc ho;cases hp:Ct l[j]
   ·have HT:=A0 (HT0.o hp);go_wp2;go_quiet ((go_at_call 177;exact Calls.quiet_of_same (Xa _ _)))
    have HX':=HX.o;go_wp2;go_quiet (fail)
    go_wp2;go_ret;have hlen:((l.drop i).take (j-i)).length=j-i:=by simp;omega
    rw[HT.o];refine⟨?_,?_,(HO.o.drewN _).drewN _⟩
    ·simp
    ·rw[hlen,show i+(j-i)=j by omega];exact HSc.o.keep rfl
   ·have HT:=A0 (Ip.o hp);go_wp2;go_quiet ((go_at_call 177;exact Calls.quiet_of_same (Xa _ _)))
    go_wp2;go_roundg (gk-1)
    case measure=>omega
    case rel=>exact⟨j+1,by omega,by omega,by omega,HT.o,Sc.at (HSc.o.keep (w':=wr.drewN _) rfl) (j+1) _ (by omega),A1.set (p:=⟨b,1,none⟩) (HO.o.drewN _) (.inl rfl) _⟩
  ·have HT:=A0 (Rc Ct l i j (fun h=>absurd h hlt) htw);have HX':=HX.o;clear htw hsc ho;go_wp2;go_quiet (fail)
   go_wp2;go_quiet (fail)
   go_wp2;go_ret;have hlen:((l.drop i).take (j-i)).length=j-i:=by simp;omega
   rw[HT.o];refine⟨?_,?_,(HO.o.drewN _).drewN _⟩
   ·simp
   ·rw[hlen,show i+(j-i)=j by omega];exact HSc.o.keep rfl
end
section
set_option maxRecDepth 100000
open Go.RowKit
theorem Pe{c:UInt8}{v:Bool}(h:Ez c=v)(w:World):Calls Tryz.prog 180 #[.int .u8 c.toNat] w fun e w'=>e=.returned (.bool v)/\w'=w:=by
 subst h;exact A3u c w
theorem A3m{b te:Nat}{w:World}{l:List UInt8}{i line:Nat}(h:Sc b te w l i line)(hl:l.length<=100000)(hi:i<=l.length) :
  Calls Tryz.prog 175 #[.pointer (some ⟨b,0,none⟩)] w fun e w'=>e=.returned (.bool (E3 (l.drop i)).2)/\Sc b te w' l (i+(E3 (l.drop i)).1) line/\A1 b w w':=by
 have HH:=A0 h;clear h;go_enter Tryz.func175,Tryz.ntmps175;go_wp2;go_loopg [] (l.length-i) (fun k wr=>∃j,i<=j/\j<=l.length/\j+k=l.length/\(E3 (l.drop i)).2=(E3 (l.drop j)).2/\i+(E3 (l.drop i)).1=j+(E3 (l.drop j)).1/\Sc b te wr l j line/\A1 b w wr)
 case atStart=>exact⟨i,Nat.le_refl _,hi,by omega,rfl,rfl,HH.o,A1.refl _ _⟩
 case round=>
  clear HH;obtain⟨j,hij,hjl,hjk,B0,Bt,hsc,ho⟩:=hrel;obtain⟨c0,c1,c2,fz,lb⟩:=hsc.cells;have HSc:=A0 hsc;have HO:=A0 ho;have HR:=A0 (And.intro B0 Bt);clear B0 Bt hsc ho;by_cases hlt:j<l.length
  ·have hE:∀h,((⟨l.toArray⟩:ByteArray)[j]'h)=l[j]:=fun h=>L3 l j h;have HD:Hid (E3 (l.drop j)=if l[j]==10 then(0,true) else if l[j] !=9&&!(Ez l[j]) then(0,false) else((E3 (l.drop (j+1))).1+1,(E3 (l.drop (j+1))).2)):=by
    show _=_;rw[List.drop_eq_getElem_cons hlt,E3]
   by_cases h10:l[j]=10
   ·have t1:((l[j].toNat:Int) !=10)=false:=Qn (d:=10) rfl h10;have HD':Hid (E3 (l.drop j)=(0,true)):=by
     show _=_;rw[HD.o,h10];rfl
    clear HD h10;go_wp2;go_quiet (fail)
    go_wp2;go_ret;rw[HR.o.1,HR.o.2,HD'.o];exact⟨rfl,HSc.o.keep rfl,HO.o.drewN _⟩
   ·have t1:((l[j].toNat:Int) !=10)=true:=Nk (d:=10) rfl h10;have HD1:Hid (E3 (l.drop j)=if l[j] !=9&&!(Ez l[j]) then(0,false) else((E3 (l.drop (j+1))).1+1,(E3 (l.drop (j+1))).2)):=by
     show _=_;rw[HD.o,beq_eq_false_iff_ne.2 h10];rfl
    clear HD h10;cases hp:Ez l[j]
    ·by_cases h9:l[j]=9
     ·have t2:((l[j].toNat:Int) !=9)=false:=Qn (d:=9) rfl h9;have HD2:Hid (E3 (l.drop j)=((E3 (l.drop (j+1))).1+1,(E3 (l.drop (j+1))).2)):=by
       show _=_;rw[HD1.o,h9];rfl
      clear HD1 h9;go_wp2;go_quiet (fail)
      have hsc5:Sc b te (wr.drewN nq) l j line:=HSc.o.keep rfl;have B9:Hid (A1 b w (wr.drewN nq)):=HO.o.drewN _;clear c0 c1 c2 fz lb HSc HO;generalize wr.drewN nq=w5 at *;obtain⟨c0,c1,c2,fz,lb⟩:=hsc5.cells;have HSc:=A0 hsc5;clear hsc5;go_wp2;go_quiet ((go_at_call 180;exact Calls.quiet_of_same (Pe hp _)))
      go_wp2;go_roundg (gk-1)
      case measure=>omega
      case rel=>
       refine⟨j+1,by omega,by omega,by omega,?_,?_,Sc.at (HSc.o.keep (w':=w5.drewN _) rfl) (j+1) _ (by omega),A1.set (p:=⟨b,1,none⟩) (B9.o.drewN _) (.inl rfl) _⟩
       ·rw[HR.o.1,HD2.o]
       ·rw[HR.o.2,HD2.o];show j+(_+1)=_;omega
     ·have t2:((l[j].toNat:Int) !=9)=true:=Nk (d:=9) rfl h9;have HD2:Hid (E3 (l.drop j)=(0,false)):=by
       show _=_;have:(l[j] !=9)=true:=by simpa using h9
       rw[HD1.o,hp,this];rfl
      clear HD1 h9;go_wp2;go_quiet (fail)
      have hsc5:Sc b te (wr.drewN nq) l j line:=HSc.o.keep rfl;have B9:Hid (A1 b w (wr.drewN nq)):=HO.o.drewN _;clear c0 c1 c2 fz lb HSc HO;generalize wr.drewN nq=w5 at *;obtain⟨c0,c1,c2,fz,lb⟩:=hsc5.cells;have HSc:=A0 hsc5;clear hsc5;go_wp2;go_quiet ((go_at_call 180;exact Calls.quiet_of_same (Pe hp _)))
      go_wp2;go_ret;rw[HR.o.1,HR.o.2,HD2.o];exact⟨rfl,HSc.o.keep rfl,B9.o.drewN _⟩
    ·have HD2:Hid (E3 (l.drop j)=((E3 (l.drop (j+1))).1+1,(E3 (l.drop (j+1))).2)):=by
      show _=_;rw[HD1.o,hp,Bool.not_true,Bool.and_false];rfl
     clear HD1;go_wp2;go_quiet (fail)
     have hsc5:Sc b te (wr.drewN nq) l j line:=HSc.o.keep rfl;have B9:Hid (A1 b w (wr.drewN nq)):=HO.o.drewN _;clear c0 c1 c2 fz lb HSc HO;generalize wr.drewN nq=w5 at *;obtain⟨c0,c1,c2,fz,lb⟩:=hsc5.cells;have HSc:=A0 hsc5;clear hsc5;go_wp2;go_quiet ((go_at_call 180;exact Calls.quiet_of_same (Pe hp _)))
     go_wp2;go_roundg (gk-1)
     case measure=>omega
     case rel=>
      refine⟨j+1,by omega,by omega,by omega,?_,?_,Sc.at (HSc.o.keep (w':=w5.drewN _) rfl) (j+1) _ (by omega),A1.set (p:=⟨b,1,none⟩) (B9.o.drewN _) (.inl rfl) _⟩
      ·rw[HR.o.1,HD2.o]
      ·rw[HR.o.2,HD2.o];show j+(_+1)=_;omega
  ·have HD:Hid (E3 (l.drop j)=(0,true)):=by
    show _=_;rw[List.drop_eq_nil_of_le (by omega),E3]
   go_wp2;go_quiet (fail)
   go_wp2;go_ret;rw[HR.o.1,HR.o.2,HD.o];exact⟨rfl,HSc.o.keep rfl,HO.o.drewN _⟩
end
section
open Go.RowKit
def Hl(l p:List UInt8):Bool:=decide (p.length<=l.length)&&(l.take p.length==p)
theorem Abu(l p:List UInt8)(w:World) :
  Calls Tryz.prog 226 #[.string ⟨l.toArray⟩,.string ⟨p.toArray⟩] w fun e w'=>e=.returned (.bool (Hl l p))/\w'=w:=by
 have HX:∀a b,(⟨l.toArray⟩:ByteArray).extract a b=⟨((l.drop a).take (b-a)).toArray⟩:=N5 l;by_cases h:p.length<=l.length
 ·have HE:Hid (Hl l p=(l.take p.length==p)):=by show _=_;unfold Hl;rw[decide_eq_true h];rfl
  go_enter Tryz.func226,Tryz.ntmps226;go_wp2;go_ret;refine⟨?_,rfl⟩;rw[HE.o];simp
 ·have HE:Hid (Hl l p=false):=by show _=_;unfold Hl;rw[decide_eq_false h];rfl
  go_enter Tryz.func226,Tryz.ntmps226;go_wp2;go_ret;refine⟨?_,rfl⟩;rw[HE.o];simp
theorem Acn(l p:List UInt8)(w:World) :
  Calls Tryz.prog 174 #[.string ⟨l.toArray⟩,.string ⟨p.toArray⟩] w fun e w'=>e=.returned (.bool (Hl l p))/\w'=w:=by
 go_enter Tryz.func174,Tryz.ntmps174;go_wp2_with fail
 refine(Abu l p _).mono ?_;rintro e w' ⟨rfl,rfl⟩;go_wp2;go_ret;exact⟨rfl,rfl⟩
end
end Go.Proofs.YtjdlndhfaaolaaaGreatDoor
