import Derived.Deep.LoopGhost
import Derived.Test.YtjdlndhfaaolaaaGreatDoorQ08
set_option maxHeartbeats 20000000
namespace Go.Proofs.YtjdlndhfaaolaaaGreatDoor
section
set_option maxRecDepth 100000
open Go.RowKit
variable {b te:Nat}{w:World}{l:List UInt8}{i line:Nat}
def Sc(b te:Nat)(w:World)(l:List UInt8)(i line:Nat):Prop:=w.heap[b]?=some (.cells #[.string ⟨l.toArray⟩,.int .i64 (i:Nat),.int .i64 (line:Nat)] te (0,0))
theorem Sc.cells(h:Sc b te w l i line):w.cell? ⟨b,0,none⟩=some (.string ⟨l.toArray⟩)/\w.cell? ⟨b,1,none⟩=some (.int .i64 (i:Nat))/\w.cell? ⟨b,2,none⟩=some (.int .i64 (line:Nat))/\(∀o,w.frozen? ⟨b,o,none⟩=false)/\b<w.heap.size:=
 ⟨A2 h 0 _ rfl,A2 h 1 _ rfl,A2 h 2 _ rfl,Bd h,A4 h⟩
theorem Sc.at(h:Sc b te w l i line)(j:Nat)(q:Int)(hq:q=j):Sc b te (w.setCell ⟨b,1,none⟩ (.int .i64 q)) l j line:=by
 subst hq;have:=heap_set (j:=1) h (.int .i64 (j:Nat));unfold Sc;simpa using this
theorem Sc.ln(h:Sc b te w l i line)(j:Nat)(q:Int)(hq:q=j):Sc b te (w.setCell ⟨b,2,none⟩ (.int .i64 q)) l i j:=by
 subst hq;have:=heap_set (j:=2) h (.int .i64 (j:Nat));unfold Sc;simpa using this
theorem Sc.keep{b te:Nat}{w w':World}{l:List UInt8}{i line:Nat}(h:Sc b te w l i line)(hk:w'.heap[b]?=w.heap[b]?):Sc b te w' l i line:=hk.trans h
theorem Aa4(h:Sc b te w l i line)(hl:l.length<=100000)(hi:i<=l.length) :
  Calls Tryz.prog 176 #[.pointer (some ⟨b,0,none⟩),.func (.func 126) #[] #[]] w fun e w'=>e=.returned (.string ⟨((l.drop i).takeWhile D9).toArray⟩)/\Sc b te w' l (i+((l.drop i).takeWhile D9).length) line/\A7 b w w':=by
 obtain⟨c0,c1,c2,fz,lb⟩:=h.cells;have HX:Hid (∀a b,(⟨l.toArray⟩:ByteArray).extract a b=⟨((l.drop a).take (b-a)).toArray⟩):=R8 l;have HH:=A0 h;clear h;go_enter Tryz.func176,Tryz.ntmps176;go_wp2;clear c0 c1 c2 fz lb;go_loopg [] (l.length-i) (fun k wr=>∃j,i<=j/\j<=l.length/\j+k=l.length/\((l.drop i).takeWhile D9=(l.drop i).take (j-i)++(l.drop j).takeWhile D9)/\Sc b te wr l j line/\A7 b w wr)
 case atStart=>exact⟨i,Nat.le_refl _,hi,by omega,A05 _ _ _,HH.o,A7.refl _ _⟩
 case round=>
  clear HH;obtain⟨j,hij,hjl,hjk,htw,hsc,ho⟩:=hrel;obtain⟨c0,c1,c2,fz,lb⟩:=hsc.cells;have HSc:=A0 hsc;have HO:=A0 ho;by_cases hlt:j<l.length
  ·have hE:∀h,((⟨l.toArray⟩:ByteArray)[j]'h)=l[j]:=fun h=>On l j h;have Fu:=A0 (fun(hp:D9 l[j]=true)=>A0d D9 l i j hij hlt hp htw);have HT0:=A0 (fun(hp:D9 l[j]=false)=>Rp D9 l i j (fun _=>hp) htw);clear htw hsc ho;cases hp:D9 l[j]
   ·have HT:=A0 (HT0.o hp);go_wp2;go_quiet ((go_at_call 126;exact Calls.quiet_of_same (Pv _ _)))
    have HX':=HX.o;go_wp2;go_quiet (fail)
    go_wp2;go_ret;have hlen:((l.drop i).take (j-i)).length=j-i:=by simp;omega
    rw[HT.o];refine⟨?_,?_,(HO.o.drewN _).drewN _⟩
    ·simp
    ·rw[hlen,show i+(j-i)=j by omega];exact HSc.o.keep rfl
   ·have HT:=A0 (Fu.o hp);go_wp2;go_quiet ((go_at_call 126;exact Calls.quiet_of_same (Pv _ _)))
    go_wp2;go_roundg (gk-1)
    case measure=>omega
    case rel=>exact⟨j+1,by omega,by omega,by omega,HT.o,Sc.at (HSc.o.keep (w':=wr.drewN _) rfl) (j+1) _ (by omega),A7.set (p:=⟨b,1,none⟩) (HO.o.drewN _) (.inl rfl) _⟩
  ·have HT:=A0 (Rp D9 l i j (fun h=>absurd h hlt) htw);have HX':=HX.o;clear htw hsc ho;go_wp2;go_quiet (fail)
   go_wp2;go_quiet (fail)
   go_wp2;go_ret;have hlen:((l.drop i).take (j-i)).length=j-i:=by simp;omega
   rw[HT.o];refine⟨?_,?_,(HO.o.drewN _).drewN _⟩
   ·simp
   ·rw[hlen,show i+(j-i)=j by omega];exact HSc.o.keep rfl
theorem Ag6(h:Sc b te w l i line)(hl:l.length<=100000)(hi:i<=l.length) :
  Calls Tryz.prog 176 #[.pointer (some ⟨b,0,none⟩),.func (.func 177) #[] #[]] w fun e w'=>e=.returned (.string ⟨((l.drop i).takeWhile E4).toArray⟩)/\Sc b te w' l (i+((l.drop i).takeWhile E4).length) line/\A7 b w w':=by
 obtain⟨c0,c1,c2,fz,lb⟩:=h.cells;have HX:Hid (∀a b,(⟨l.toArray⟩:ByteArray).extract a b=⟨((l.drop a).take (b-a)).toArray⟩):=R8 l;have HH:=A0 h;clear h;go_enter Tryz.func176,Tryz.ntmps176;go_wp2;clear c0 c1 c2 fz lb;go_loopg [] (l.length-i) (fun k wr=>∃j,i<=j/\j<=l.length/\j+k=l.length/\((l.drop i).takeWhile E4=(l.drop i).take (j-i)++(l.drop j).takeWhile E4)/\Sc b te wr l j line/\A7 b w wr)
 case atStart=>exact⟨i,Nat.le_refl _,hi,by omega,A05 _ _ _,HH.o,A7.refl _ _⟩
 case round=>
  clear HH;obtain⟨j,hij,hjl,hjk,htw,hsc,ho⟩:=hrel;obtain⟨c0,c1,c2,fz,lb⟩:=hsc.cells;have HSc:=A0 hsc;have HO:=A0 ho;by_cases hlt:j<l.length
  ·have hE:∀h,((⟨l.toArray⟩:ByteArray)[j]'h)=l[j]:=fun h=>On l j h;have Fu:=A0 (fun(hp:E4 l[j]=true)=>A0d E4 l i j hij hlt hp htw);have HT0:=A0 (fun(hp:E4 l[j]=false)=>Rp E4 l i j (fun _=>hp) htw);clear htw hsc ho;cases hp:E4 l[j]
   ·have HT:=A0 (HT0.o hp);go_wp2;go_quiet ((go_at_call 177;exact Calls.quiet_of_same (A01 _ _)))
    have HX':=HX.o;go_wp2;go_quiet (fail)
    go_wp2;go_ret;have hlen:((l.drop i).take (j-i)).length=j-i:=by simp;omega
    rw[HT.o];refine⟨?_,?_,(HO.o.drewN _).drewN _⟩
    ·simp
    ·rw[hlen,show i+(j-i)=j by omega];exact HSc.o.keep rfl
   ·have HT:=A0 (Fu.o hp);go_wp2;go_quiet ((go_at_call 177;exact Calls.quiet_of_same (A01 _ _)))
    go_wp2;go_roundg (gk-1)
    case measure=>omega
    case rel=>exact⟨j+1,by omega,by omega,by omega,HT.o,Sc.at (HSc.o.keep (w':=wr.drewN _) rfl) (j+1) _ (by omega),A7.set (p:=⟨b,1,none⟩) (HO.o.drewN _) (.inl rfl) _⟩
  ·have HT:=A0 (Rp E4 l i j (fun h=>absurd h hlt) htw);have HX':=HX.o;clear htw hsc ho;go_wp2;go_quiet (fail)
   go_wp2;go_quiet (fail)
   go_wp2;go_ret;have hlen:((l.drop i).take (j-i)).length=j-i:=by simp;omega
   rw[HT.o];refine⟨?_,?_,(HO.o.drewN _).drewN _⟩
   ·simp
   ·rw[hlen,show i+(j-i)=j by omega];exact HSc.o.keep rfl
end
section
set_option maxRecDepth 100000
open Go.RowKit
theorem P4{c:UInt8}{v:Bool}(h:Gr c=v)(w:World):Calls Tryz.prog 180 #[.int .u8 c.toNat] w fun e w'=>e=.returned (.bool v)/\w'=w:=by
 subst h;exact A5k c w
theorem A9s{b te:Nat}{w:World}{l:List UInt8}{i line:Nat}(h:Sc b te w l i line)(hl:l.length<=100000)(hi:i<=l.length) :
  Calls Tryz.prog 175 #[.pointer (some ⟨b,0,none⟩)] w fun e w'=>e=.returned (.bool (Dz (l.drop i)).2)/\Sc b te w' l (i+(Dz (l.drop i)).1) line/\A7 b w w':=by
 have HH:=A0 h;clear h;go_enter Tryz.func175,Tryz.ntmps175;go_wp2;go_loopg [] (l.length-i) (fun k wr=>∃j,i<=j/\j<=l.length/\j+k=l.length/\(Dz (l.drop i)).2=(Dz (l.drop j)).2/\i+(Dz (l.drop i)).1=j+(Dz (l.drop j)).1/\Sc b te wr l j line/\A7 b w wr)
 case atStart=>exact⟨i,Nat.le_refl _,hi,by omega,rfl,rfl,HH.o,A7.refl _ _⟩
 case round=>
  clear HH;obtain⟨j,hij,hjl,hjk,Ap,B0,hsc,ho⟩:=hrel;obtain⟨c0,c1,c2,fz,lb⟩:=hsc.cells;have HSc:=A0 hsc;have HO:=A0 ho;have HR:=A0 (And.intro Ap B0);clear Ap B0 hsc ho;by_cases hlt:j<l.length
  ·have hE:∀h,((⟨l.toArray⟩:ByteArray)[j]'h)=l[j]:=fun h=>On l j h;have HD:Hid (Dz (l.drop j)=if l[j]==10 then(0,true) else if l[j] !=9&&!(Gr l[j]) then(0,false) else((Dz (l.drop (j+1))).1+1,(Dz (l.drop (j+1))).2)):=by
    show _=_;rw[List.drop_eq_getElem_cons hlt,Dz]
   by_cases h10:l[j]=10
   ·have t1:((l[j].toNat:Int) !=10)=false:=Zh (d:=10) rfl h10;have HD':Hid (Dz (l.drop j)=(0,true)):=by
     show _=_;rw[HD.o,h10];rfl
    clear HD h10;go_wp2;go_quiet (fail)
    go_wp2;go_ret;rw[HR.o.1,HR.o.2,HD'.o];exact⟨rfl,HSc.o.keep rfl,HO.o.drewN _⟩
   ·have t1:((l[j].toNat:Int) !=10)=true:=Yx (d:=10) rfl h10;have HD1:Hid (Dz (l.drop j)=if l[j] !=9&&!(Gr l[j]) then(0,false) else((Dz (l.drop (j+1))).1+1,(Dz (l.drop (j+1))).2)):=by
     show _=_;rw[HD.o,beq_eq_false_iff_ne.2 h10];rfl
    clear HD h10;cases hp:Gr l[j]
    ·by_cases h9:l[j]=9
     ·have t2:((l[j].toNat:Int) !=9)=false:=Zh (d:=9) rfl h9;have HD2:Hid (Dz (l.drop j)=((Dz (l.drop (j+1))).1+1,(Dz (l.drop (j+1))).2)):=by
       show _=_;rw[HD1.o,h9];rfl
      clear HD1 h9;go_wp2;go_quiet (fail)
      have hsc5:Sc b te (wr.drewN nq) l j line:=HSc.o.keep rfl;have C4:Hid (A7 b w (wr.drewN nq)):=HO.o.drewN _;clear c0 c1 c2 fz lb HSc HO;generalize wr.drewN nq=w5 at *;obtain⟨c0,c1,c2,fz,lb⟩:=hsc5.cells;have HSc:=A0 hsc5;clear hsc5;go_wp2;go_quiet ((go_at_call 180;exact Calls.quiet_of_same (P4 hp _)))
      go_wp2;go_roundg (gk-1)
      case measure=>omega
      case rel=>
       refine⟨j+1,by omega,by omega,by omega,?_,?_,Sc.at (HSc.o.keep (w':=w5.drewN _) rfl) (j+1) _ (by omega),A7.set (p:=⟨b,1,none⟩) (C4.o.drewN _) (.inl rfl) _⟩
       ·rw[HR.o.1,HD2.o]
       ·rw[HR.o.2,HD2.o];show j+(_+1)=_;omega
     ·have t2:((l[j].toNat:Int) !=9)=true:=Yx (d:=9) rfl h9;have HD2:Hid (Dz (l.drop j)=(0,false)):=by
       show _=_;have:(l[j] !=9)=true:=by simpa using h9
       rw[HD1.o,hp,this];rfl
      clear HD1 h9;go_wp2;go_quiet (fail)
      have hsc5:Sc b te (wr.drewN nq) l j line:=HSc.o.keep rfl;have C4:Hid (A7 b w (wr.drewN nq)):=HO.o.drewN _;clear c0 c1 c2 fz lb HSc HO;generalize wr.drewN nq=w5 at *;obtain⟨c0,c1,c2,fz,lb⟩:=hsc5.cells;have HSc:=A0 hsc5;clear hsc5;go_wp2;go_quiet ((go_at_call 180;exact Calls.quiet_of_same (P4 hp _)))
      go_wp2;go_ret;rw[HR.o.1,HR.o.2,HD2.o];exact⟨rfl,HSc.o.keep rfl,C4.o.drewN _⟩
    ·have HD2:Hid (Dz (l.drop j)=((Dz (l.drop (j+1))).1+1,(Dz (l.drop (j+1))).2)):=by
      show _=_;rw[HD1.o,hp,Bool.not_true,Bool.and_false];rfl
     clear HD1;go_wp2;go_quiet (fail)
     have hsc5:Sc b te (wr.drewN nq) l j line:=HSc.o.keep rfl;have C4:Hid (A7 b w (wr.drewN nq)):=HO.o.drewN _;clear c0 c1 c2 fz lb HSc HO;generalize wr.drewN nq=w5 at *;obtain⟨c0,c1,c2,fz,lb⟩:=hsc5.cells;have HSc:=A0 hsc5;clear hsc5;go_wp2;go_quiet ((go_at_call 180;exact Calls.quiet_of_same (P4 hp _)))
     go_wp2;go_roundg (gk-1)
     case measure=>omega
     case rel=>
      refine⟨j+1,by omega,by omega,by omega,?_,?_,Sc.at (HSc.o.keep (w':=w5.drewN _) rfl) (j+1) _ (by omega),A7.set (p:=⟨b,1,none⟩) (C4.o.drewN _) (.inl rfl) _⟩
      ·rw[HR.o.1,HD2.o]
      ·rw[HR.o.2,HD2.o];show j+(_+1)=_;omega
  ·have HD:Hid (Dz (l.drop j)=(0,true)):=by
    show _=_;rw[List.drop_eq_nil_of_le (by omega),Dz]
   go_wp2;go_quiet (fail)
   go_wp2;go_ret;rw[HR.o.1,HR.o.2,HD.o];exact⟨rfl,HSc.o.keep rfl,HO.o.drewN _⟩
end
section
open Go.RowKit
def Gf(l p:List UInt8):Bool:=decide (p.length<=l.length)&&(l.take p.length==p)
theorem A7m(l p:List UInt8)(w:World) :
  Calls Tryz.prog 226 #[.string ⟨l.toArray⟩,.string ⟨p.toArray⟩] w fun e w'=>e=.returned (.bool (Gf l p))/\w'=w:=by
 have HX:∀a b,(⟨l.toArray⟩:ByteArray).extract a b=⟨((l.drop a).take (b-a)).toArray⟩:=R8 l;by_cases h:p.length<=l.length
 ·have HE:Hid (Gf l p=(l.take p.length==p)):=by show _=_;unfold Gf;rw[decide_eq_true h];rfl
  go_enter Tryz.func226,Tryz.ntmps226;go_wp2;go_ret;refine⟨?_,rfl⟩;rw[HE.o];simp
 ·have HE:Hid (Gf l p=false):=by show _=_;unfold Gf;rw[decide_eq_false h];rfl
  go_enter Tryz.func226,Tryz.ntmps226;go_wp2;go_ret;refine⟨?_,rfl⟩;rw[HE.o];simp
theorem Amy(l p:List UInt8)(w:World) :
  Calls Tryz.prog 174 #[.string ⟨l.toArray⟩,.string ⟨p.toArray⟩] w fun e w'=>e=.returned (.bool (Gf l p))/\w'=w:=by
 go_enter Tryz.func174,Tryz.ntmps174;go_wp2_with fail
 refine(A7m l p _).mono ?_;rintro e w' ⟨rfl,rfl⟩;go_wp2;go_ret;exact⟨rfl,rfl⟩
end
end Go.Proofs.YtjdlndhfaaolaaaGreatDoor
