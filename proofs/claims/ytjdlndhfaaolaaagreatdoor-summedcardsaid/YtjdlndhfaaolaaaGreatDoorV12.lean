import Derived.Deep.LoopGhost
import Derived.Test.YtjdlndhfaaolaaaGreatDoorV10
set_option maxHeartbeats 20000000
namespace Go.Proofs.YtjdlndhfaaolaaaGreatDoor
section
set_option maxRecDepth 100000
open Go.RowKit
variable {b te:Nat}{w:World}{l:List UInt8}{i line:Nat}
def Sc(b te:Nat)(w:World)(l:List UInt8)(i line:Nat):Prop:=w.heap[b]?=some (.cells #[.string ⟨l.toArray⟩,.int .i64 (i:Nat),.int .i64 (line:Nat)] te (0,0))
theorem Sc.cells(h:Sc b te w l i line):w.cell? ⟨b,0,none⟩=some (.string ⟨l.toArray⟩)/\w.cell? ⟨b,1,none⟩=some (.int .i64 (i:Nat))/\w.cell? ⟨b,2,none⟩=some (.int .i64 (line:Nat))/\(∀o,w.frozen? ⟨b,o,none⟩=false)/\b<w.heap.size:=
 ⟨A2 h 0 _ rfl,A2 h 1 _ rfl,A2 h 2 _ rfl,Bd h,A5 h⟩
theorem Sc.at(h:Sc b te w l i line)(j:Nat)(q:Int)(hq:q=j):Sc b te (w.setCell ⟨b,1,none⟩ (.int .i64 q)) l j line:=by
 subst hq;have:=heap_set (j:=1) h (.int .i64 (j:Nat));unfold Sc;simpa using this
theorem Sc.ln(h:Sc b te w l i line)(j:Nat)(q:Int)(hq:q=j):Sc b te (w.setCell ⟨b,2,none⟩ (.int .i64 q)) l i j:=by
 subst hq;have:=heap_set (j:=2) h (.int .i64 (j:Nat));unfold Sc;simpa using this
theorem Sc.keep{b te:Nat}{w w':World}{l:List UInt8}{i line:Nat}(h:Sc b te w l i line)(hk:w'.heap[b]?=w.heap[b]?):Sc b te w' l i line:=hk.trans h
theorem z24a {P:Prop} (h:P:=by
  go_wp2;go_roundg (gk-1)
  case measure=>omega
  case rel=>exact⟨j+1,by omega,by omega,by omega,HT.o,Sc.at (HSc.o.keep (w':=wr.drewN _) rfl) (j+1) _ z4va,A9.set (p:=⟨b,1,none⟩) (HO.o.drewN _) (.inl rfl) _⟩):P:=h
theorem z0xa {P:Prop} (h:P:=by
  go_wp2;go_quiet (fail)
  go_wp2;go_ret;have hlen:((l.drop i).take (j-i)).length=j-i:=by simp;omega
  rw[HT.o];refine⟨?_,?_,(HO.o.drewN _).drewN _⟩
  ·simp
  ·rw[hlen,show i+(j-i)=j by omega];exact HSc.o.keep rfl):P:=h
theorem Ak0(h:Sc b te w l i line)(hl:l.length<=100000)(hi:i<=l.length) :
  Calls Tryz.prog 176 #[.pointer (some ⟨b,0,none⟩),.func (.func 126) #[] #[]] w fun e w'=>e=.returned (.string ⟨((l.drop i).takeWhile De).toArray⟩)/\Sc b te w' l (i+((l.drop i).takeWhile De).length) line/\A9 b w w':=by
 obtain⟨c0,c1,c2,fz,lb⟩:=h.cells;have HX:Hid (∀a b,(⟨l.toArray⟩:ByteArray).extract a b=⟨((l.drop a).take (b-a)).toArray⟩):=Sb l;have HH:=A0 h;clear h;go_enter Tryz.func176,Tryz.ntmps176;go_wp2;clear c0 c1 c2 fz lb;go_loopg [] (l.length-i) (fun k wr=>∃j,i<=j/\j<=l.length/\j+k=l.length/\((l.drop i).takeWhile De=(l.drop i).take (j-i)++(l.drop j).takeWhile De)/\Sc b te wr l j line/\A9 b w wr)
 case atStart=>exact⟨i,Nat.le_refl _,hi,by omega,A4k _ _ _,HH.o,A9.refl _ _⟩
 case round=>
  clear HH;obtain⟨j,hij,hjl,hjk,htw,hsc,ho⟩:=hrel;obtain⟨c0,c1,c2,fz,lb⟩:=hsc.cells;have HSc:=A0 hsc;have HO:=A0 ho;by_cases hlt:j<l.length
  ·have hE:∀h,((⟨l.toArray⟩:ByteArray)[j]'h)=l[j]:=fun h=>Pk l j h;have Gq:=A0 (fun(hp:De l[j]=true)=>A4l De l i j hij hlt hp htw);have HT0:=A0 (fun(hp:De l[j]=false)=>V7 De l i j (fun _=>hp) htw);clear htw hsc ho;cases hp:De l[j]
   ·have HT:=A0 (HT0.o hp);go_wp2;go_quiet ((go_at_call 126;exact Calls.quiet_of_same (Ql _ _)))
    have HX':=HX.o;exact z0xa
   ·have HT:=A0 (Gq.o hp);go_wp2;go_quiet ((go_at_call 126;exact Calls.quiet_of_same (Ql _ _)))
    exact z24a
  ·have HT:=A0 (V7 De l i j (fun h=>absurd h hlt) htw);have HX':=HX.o;clear htw hsc ho;go_wp2;go_quiet (fail)
   exact z0xa
theorem Ak1(h:Sc b te w l i line)(hl:l.length<=100000)(hi:i<=l.length) :
  Calls Tryz.prog 176 #[.pointer (some ⟨b,0,none⟩),.func (.func 177) #[] #[]] w fun e w'=>e=.returned (.string ⟨((l.drop i).takeWhile Ec).toArray⟩)/\Sc b te w' l (i+((l.drop i).takeWhile Ec).length) line/\A9 b w w':=by
 obtain⟨c0,c1,c2,fz,lb⟩:=h.cells;have HX:Hid (∀a b,(⟨l.toArray⟩:ByteArray).extract a b=⟨((l.drop a).take (b-a)).toArray⟩):=Sb l;have HH:=A0 h;clear h;go_enter Tryz.func176,Tryz.ntmps176;go_wp2;clear c0 c1 c2 fz lb;go_loopg [] (l.length-i) (fun k wr=>∃j,i<=j/\j<=l.length/\j+k=l.length/\((l.drop i).takeWhile Ec=(l.drop i).take (j-i)++(l.drop j).takeWhile Ec)/\Sc b te wr l j line/\A9 b w wr)
 case atStart=>exact⟨i,Nat.le_refl _,hi,by omega,A4k _ _ _,HH.o,A9.refl _ _⟩
 case round=>
  clear HH;obtain⟨j,hij,hjl,hjk,htw,hsc,ho⟩:=hrel;obtain⟨c0,c1,c2,fz,lb⟩:=hsc.cells;have HSc:=A0 hsc;have HO:=A0 ho;by_cases hlt:j<l.length
  ·have hE:∀h,((⟨l.toArray⟩:ByteArray)[j]'h)=l[j]:=fun h=>Pk l j h;have Gq:=A0 (fun(hp:Ec l[j]=true)=>A4l Ec l i j hij hlt hp htw);have HT0:=A0 (fun(hp:Ec l[j]=false)=>V7 Ec l i j (fun _=>hp) htw);clear htw hsc ho;cases hp:Ec l[j]
   ·have HT:=A0 (HT0.o hp);go_wp2;go_quiet ((go_at_call 177;exact Calls.quiet_of_same (b7 _ _)))
    have HX':=HX.o;exact z0xa
   ·have HT:=A0 (Gq.o hp);go_wp2;go_quiet ((go_at_call 177;exact Calls.quiet_of_same (b7 _ _)))
    exact z24a
  ·have HT:=A0 (V7 Ec l i j (fun h=>absurd h hlt) htw);have HX':=HX.o;clear htw hsc ho;go_wp2;go_quiet (fail)
   exact z0xa
end
section
set_option maxRecDepth 100000
open Go.RowKit
theorem Pn{c:UInt8}{v:Bool}(h:Gu c=v)(w:World):Calls Tryz.prog 180 #[.int .u8 c.toNat] w fun e w'=>e=.returned (.bool v)/\w'=w:=by
 subst h;exact Aar c w
theorem z0ya {P:Prop} (h:P:=by
  go_wp2;go_quiet (fail)
  have hsc5:Sc b te (wr.drewN nq) l j line:=HSc.o.keep rfl;have Cb:Hid (A9 b w (wr.drewN nq)):=HO.o.drewN _;clear c0 c1 c2 fz lb HSc HO;generalize wr.drewN nq=w5 at *;obtain⟨c0,c1,c2,fz,lb⟩:=hsc5.cells;have HSc:=A0 hsc5;clear hsc5;go_wp2;go_quiet ((go_at_call 180;exact Calls.quiet_of_same (Pn hp _)))
  go_wp2;go_roundg (gk-1)
  case measure=>omega
  case rel=>
   refine⟨j+1,by omega,by omega,by omega,?_,?_,Sc.at (HSc.o.keep (w':=w5.drewN _) rfl) (j+1) _ z4va,A9.set (p:=⟨b,1,none⟩) (Cb.o.drewN _) (.inl rfl) _⟩
   ·rw[HR.o.1,HD2.o]
   ·rw[HR.o.2,HD2.o];show j+(_+1)=_;omega):P:=h
theorem Aap{b te:Nat}{w:World}{l:List UInt8}{i line:Nat}(h:Sc b te w l i line)(hl:l.length<=100000)(hi:i<=l.length) :
  Calls Tryz.prog 175 #[.pointer (some ⟨b,0,none⟩)] w fun e w'=>e=.returned (.bool (E8 (l.drop i)).2)/\Sc b te w' l (i+(E8 (l.drop i)).1) line/\A9 b w w':=by
 have HH:=A0 h;clear h;go_enter Tryz.func175,Tryz.ntmps175;go_wp2;go_loopg [] (l.length-i) (fun k wr=>∃j,i<=j/\j<=l.length/\j+k=l.length/\(E8 (l.drop i)).2=(E8 (l.drop j)).2/\i+(E8 (l.drop i)).1=j+(E8 (l.drop j)).1/\Sc b te wr l j line/\A9 b w wr)
 case atStart=>exact⟨i,Nat.le_refl _,hi,by omega,rfl,rfl,HH.o,A9.refl _ _⟩
 case round=>
  clear HH;obtain⟨j,hij,hjl,hjk,At,B5,hsc,ho⟩:=hrel;obtain⟨c0,c1,c2,fz,lb⟩:=hsc.cells;have HSc:=A0 hsc;have HO:=A0 ho;have HR:=A0 (And.intro At B5);clear At B5 hsc ho;by_cases hlt:j<l.length
  ·have hE:∀h,((⟨l.toArray⟩:ByteArray)[j]'h)=l[j]:=fun h=>Pk l j h;have HD:Hid (E8 (l.drop j)=if l[j]==10 then(0,true) else if l[j] !=9&&!(Gu l[j]) then(0,false) else((E8 (l.drop (j+1))).1+1,(E8 (l.drop (j+1))).2)):=by
    show _=_;rw[List.drop_eq_getElem_cons hlt,E8]
   by_cases h10:l[j]=10
   ·have t1:((l[j].toNat:Int) !=10)=false:=Zu (d:=10) rfl h10;have HD':Hid (E8 (l.drop j)=(0,true)):=by
     show _=_;rw[HD.o,h10];rfl
    clear HD h10;go_wp2;go_quiet (fail)
    go_wp2;go_ret;rw[HR.o.1,HR.o.2,HD'.o];exact⟨rfl,HSc.o.keep rfl,HO.o.drewN _⟩
   ·have t1:((l[j].toNat:Int) !=10)=true:=Zt (d:=10) rfl h10;have HD1:Hid (E8 (l.drop j)=if l[j] !=9&&!(Gu l[j]) then(0,false) else((E8 (l.drop (j+1))).1+1,(E8 (l.drop (j+1))).2)):=by
     show _=_;rw[HD.o,beq_eq_false_iff_ne.2 h10];rfl
    clear HD h10;cases hp:Gu l[j]
    ·by_cases h9:l[j]=9
     ·have t2:((l[j].toNat:Int) !=9)=false:=Zu (d:=9) rfl h9;have HD2:Hid (E8 (l.drop j)=((E8 (l.drop (j+1))).1+1,(E8 (l.drop (j+1))).2)):=by
       show _=_;rw[HD1.o,h9];rfl
      clear HD1 h9;exact z0ya
     ·have t2:((l[j].toNat:Int) !=9)=true:=Zt (d:=9) rfl h9;have HD2:Hid (E8 (l.drop j)=(0,false)):=by
       show _=_;have:(l[j] !=9)=true:=by simpa using h9
       rw[HD1.o,hp,this];rfl
      clear HD1 h9;go_wp2;go_quiet (fail)
      have hsc5:Sc b te (wr.drewN nq) l j line:=HSc.o.keep rfl;have Cb:Hid (A9 b w (wr.drewN nq)):=HO.o.drewN _;clear c0 c1 c2 fz lb HSc HO;generalize wr.drewN nq=w5 at *;obtain⟨c0,c1,c2,fz,lb⟩:=hsc5.cells;have HSc:=A0 hsc5;clear hsc5;go_wp2;go_quiet ((go_at_call 180;exact Calls.quiet_of_same (Pn hp _)))
      go_wp2;go_ret;rw[HR.o.1,HR.o.2,HD2.o];exact⟨rfl,HSc.o.keep rfl,Cb.o.drewN _⟩
    ·have HD2:Hid (E8 (l.drop j)=((E8 (l.drop (j+1))).1+1,(E8 (l.drop (j+1))).2)):=by
      show _=_;rw[HD1.o,hp,Bool.not_true,Bool.and_false];rfl
     clear HD1;exact z0ya
  ·have HD:Hid (E8 (l.drop j)=(0,true)):=by
    show _=_;rw[List.drop_eq_nil_of_le z4va,E8]
   go_wp2;go_quiet (fail)
   go_wp2;go_ret;rw[HR.o.1,HR.o.2,HD.o];exact⟨rfl,HSc.o.keep rfl,HO.o.drewN _⟩
end
section
open Go.RowKit
def Gk(l p:List UInt8):Bool:=decide (p.length<=l.length)&&(l.take p.length==p)
theorem z4ga {P:Prop} (h:P:=by
  go_enter Tryz.func226,Tryz.ntmps226;go_wp2;go_ret;refine⟨?_,rfl⟩;rw[HE.o];simp):P:=h
theorem Am4(l p:List UInt8)(w:World) :
  Calls Tryz.prog 226 #[.string ⟨l.toArray⟩,.string ⟨p.toArray⟩] w fun e w'=>e=.returned (.bool (Gk l p))/\w'=w:=by
 have HX:∀a b,(⟨l.toArray⟩:ByteArray).extract a b=⟨((l.drop a).take (b-a)).toArray⟩:=Sb l;by_cases h:p.length<=l.length
 ·have HE:Hid (Gk l p=(l.take p.length==p)):=by show _=_;unfold Gk;rw[decide_eq_true h];rfl
  exact z4ga
 ·have HE:Hid (Gk l p=false):=by show _=_;unfold Gk;rw[decide_eq_false h];rfl
  exact z4ga
theorem Anu(l p:List UInt8)(w:World) :
  Calls Tryz.prog 174 #[.string ⟨l.toArray⟩,.string ⟨p.toArray⟩] w fun e w'=>e=.returned (.bool (Gk l p))/\w'=w:=by
 go_enter Tryz.func174,Tryz.ntmps174;go_wp2_with fail
 refine(Am4 l p _).mono ?_;rintro e w' ⟨rfl,rfl⟩;exact z03a
end
section
set_option maxRecDepth 100000
open Go.RowKit
theorem Aea(l:List UInt8)(j:Nat)(h:j<l.length):Gk (l.drop j) [47,47]=(l[j]==47&&(l.drop (j+1)).head?==some 47):=by
 unfold Gk;rw[List.drop_eq_getElem_cons h];cases hd:l.drop (j+1) with
 | nil=>simp
 | cons d r=>
  simp only[List.length_cons,List.length_nil,List.take_succ_cons,List.take_zero,List.head?_cons];have:decide (0+1+1<=r.length+1+1)=true:=by simp
  rw[this,Bool.true_and];simp[Bool.beq_eq_decide_eq]
theorem V3{l p:List UInt8}{v:Bool}(h:Gk l p=v)(w:World):Calls Tryz.prog 174 #[.string ⟨l.toArray⟩,.string ⟨p.toArray⟩] w fun e w'=>e=.returned (.bool v)/\w'=w:=by
 subst h;exact Anu l p w
def A5t(b te:Nat)(l:List UInt8)(i line:Nat)(w:World)(k:Nat)(wr:World):Prop:=
 ∃j ln,i<=j/\j<=l.length/\j+k=l.length/\ln<=j+1/\i+(Ba false (l.drop i)).1=j+(Ba false (l.drop j)).1/\line+(Ba false (l.drop i)).2.1=ln+(Ba false (l.drop j)).2.1/\(Ba false (l.drop i)).2.2=(Ba false (l.drop j)).2.2/\Sc b te wr l j ln/\A9 b w wr
theorem Aly{b te:Nat}{w:World}{l:List UInt8}{i line:Nat}(h:Sc b te w l i line)(hl:l.length<=100000)(hi:i<=l.length)(hln:line<=i+1) :
  Calls Tryz.prog 123 #[.pointer (some ⟨b,0,none⟩)] w fun e w'=>e=.returned (.bool (Ba false (l.drop i)).2.2)/\Sc b te w' l (i+(Ba false (l.drop i)).1) (line+(Ba false (l.drop i)).2.1)/\A9 b w w':=by
 have HH:=A0 h;clear h;go_enter Tryz.func123,Tryz.ntmps123;go_wp2;go_loopg [] (l.length-i) (fun k wr=>A5t b te l i line w k wr)
 case atStart=>exact⟨i,line,Nat.le_refl _,hi,by omega,hln,rfl,rfl,rfl,HH.o,A9.refl _ _⟩
 case round=>
  clear HH;obtain⟨j,ln,hij,hjl,hjk,hlj,At,B5,Ce,hsc,ho⟩:=hrel;obtain⟨c0,c1,c2,fz,lb⟩:=hsc.cells;have HSc:=A0 hsc;have HO:=A0 ho;have HR:=A0 (And.intro At (And.intro B5 Ce));clear At B5 Ce hsc ho;by_cases hlt:j<l.length
  ·have hE:∀h,((⟨l.toArray⟩:ByteArray)[j]'h)=l[j]:=fun h=>Pk l j h;have hD:l.drop j=l[j]::l.drop (j+1):=List.drop_eq_getElem_cons hlt;by_cases h10:l[j]=10
   ·have t1:((l[j].toNat:Int)==10)=true:=Mz (d:=10) rfl h10;have HK:Hid (Ba false (l.drop j)=((Ba false (l.drop (j+1))).1+1,(Ba false (l.drop (j+1))).2.1+1,(Ba false (l.drop (j+1))).2.2)):=by show _=_;rw[hD];exact Alz h10
    clear h10 hD;go_wp2;go_quiet (fail)
    have Cm:Sc b te (wr.drewN nq) l j ln:=HSc.o.keep rfl;have Cb:Hid (A9 b w (wr.drewN nq)):=HO.o.drewN _;clear c0 c1 c2 fz lb HSc HO;generalize wr.drewN nq=w5 at *;obtain⟨c0,c1,c2,fz,lb⟩:=Cm.cells;have HSc:=A0 Cm;have HO:=Cb;clear Cm Cb;go_wp2;go_quiet (fail)
    have Eb:Sc b te (w5.drewN nq) l j ln:=HSc.o.keep rfl;have Dl:Hid (A9 b w (w5.drewN nq)):=HO.o.drewN _;clear c0 c1 c2 fz lb HSc HO;generalize w5.drewN nq=w6 at *;obtain⟨c0,c1,c2,fz,lb⟩:=Eb.cells;have HSc:=A0 Eb;have HO:=Dl;clear Eb Dl;go_wp2;go_roundg (gk-1)
    case measure=>omega
    case rel=>
     refine⟨j+1,ln+1,by omega,by omega,by omega,by omega,?_,?_,?_,Sc.at (Sc.ln HSc.o (ln+1) _ z4va) (j+1) _ z4va,A9.set (p:=⟨b,1,none⟩) (A9.set (p:=⟨b,2,none⟩) HO.o (.inl rfl) _) (.inl rfl) _⟩
     ·rw[HR.o.1,HK.o];show j+(_+1)=_;omega
     ·rw[HR.o.2.1,HK.o];show ln+(_+1)=_;omega
     ·rw[HR.o.2.2,HK.o]
   ·have t1:((l[j].toNat:Int)==10)=false:=L7 (d:=10) rfl h10;by_cases hsp:l[j]=32\/l[j]=9
    ·have HK:Hid (Ba false (l.drop j)=((Ba false (l.drop (j+1))).1+1,(Ba false (l.drop (j+1))).2.1,(Ba false (l.drop (j+1))).2.2)):=by show _=_;rw[hD];exact Am2 hsp
     have hb:((l[j].toNat:Int)==32)=true\/(((l[j].toNat:Int)==32)=false/\((l[j].toNat:Int)==9)=true):=by
      by_cases h32:l[j]=32
      ·exact .inl (Mz (d:=32) rfl h32)
      ·exact .inr ⟨L7 (d:=32) rfl h32,Mz (d:=9) rfl (by rcases hsp with e|e;exact absurd e h32;exact e)⟩
     clear h10 hD hsp;rcases hb with t2|⟨t2,t3⟩;all_goals
      go_wp2;go_quiet (fail)
      have Cm:Sc b te (wr.drewN nq) l j ln:=HSc.o.keep rfl;have Cb:Hid (A9 b w (wr.drewN nq)):=HO.o.drewN _;clear c0 c1 c2 fz lb HSc HO;generalize wr.drewN nq=w5 at *;obtain⟨c0,c1,c2,fz,lb⟩:=Cm.cells;have HSc:=A0 Cm;have HO:=Cb;clear Cm Cb;go_wp2;go_quiet (fail)
      have Eb:Sc b te (w5.drewN nq) l j ln:=HSc.o.keep rfl;have Dl:Hid (A9 b w (w5.drewN nq)):=HO.o.drewN _;clear c0 c1 c2 fz lb HSc HO;generalize w5.drewN nq=w6 at *;obtain⟨c0,c1,c2,fz,lb⟩:=Eb.cells;have HSc:=A0 Eb;have HO:=Dl;clear Eb Dl;go_wp2;go_quiet (fail)
      have G4:Sc b te (w6.drewN nq) l j ln:=HSc.o.keep rfl;have HO7:Hid (A9 b w (w6.drewN nq)):=HO.o.drewN _;clear c0 c1 c2 fz lb HSc HO;generalize w6.drewN nq=w7 at *;obtain⟨c0,c1,c2,fz,lb⟩:=G4.cells;have HSc:=A0 G4;have HO:=HO7;clear G4 HO7;go_wp2;go_roundg (gk-1)
      case measure=>omega
      case rel=>
       refine⟨j+1,ln,by omega,by omega,by omega,by omega,?_,?_,?_,Sc.at HSc.o (j+1) _ z4va,A9.set (p:=⟨b,1,none⟩) HO.o (.inl rfl) _⟩
       ·rw[HR.o.1,HK.o];show j+(_+1)=_;omega
       ·rw[HR.o.2.1,HK.o]
       ·rw[HR.o.2.2,HK.o]
    ·have t2:((l[j].toNat:Int)==32)=false:=L7 (d:=32) rfl (fun e=>hsp (.inl e));have t3:((l[j].toNat:Int)==9)=false:=L7 (d:=9) rfl (fun e=>hsp (.inr e));have HP:=A0 (Aea l j hlt);have hX:(⟨l.toArray⟩:ByteArray).extract j l.length=⟨(l.drop j).toArray⟩:=by rw[Sb,List.take_of_length_le z50a]
     have HX:=A0 hX;clear hX;cases hp:Gk (l.drop j) [47,47]
     ·have HK:Hid (Ba false (l.drop j)=(0,0,true)):=by
       show _=_;rw[hD];refine A41 h10 (fun e=>hsp (.inl e)) (fun e=>hsp (.inr e)) (fun e=>?_);have:=HP.o;rw[hp,e.1,e.2]at this;exact absurd this z4wa
      clear h10 hD hsp;go_wp2;go_quiet (fail)
      have Cm:Sc b te (wr.drewN nq) l j ln:=HSc.o.keep rfl;have Cb:Hid (A9 b w (wr.drewN nq)):=HO.o.drewN _;clear c0 c1 c2 fz lb HSc HO;generalize wr.drewN nq=w5 at *;obtain⟨c0,c1,c2,fz,lb⟩:=Cm.cells;have HSc:=A0 Cm;have HO:=Cb;clear Cm Cb;go_wp2;go_quiet (fail)
      have Eb:Sc b te (w5.drewN nq) l j ln:=HSc.o.keep rfl;have Dl:Hid (A9 b w (w5.drewN nq)):=HO.o.drewN _;clear c0 c1 c2 fz lb HSc HO;generalize w5.drewN nq=w6 at *;obtain⟨c0,c1,c2,fz,lb⟩:=Eb.cells;have HSc:=A0 Eb;have HO:=Dl;clear Eb Dl;go_wp2;go_quiet (fail)
      have G4:Sc b te (w6.drewN nq) l j ln:=HSc.o.keep rfl;have HO7:Hid (A9 b w (w6.drewN nq)):=HO.o.drewN _;clear c0 c1 c2 fz lb HSc HO;generalize w6.drewN nq=w7 at *;obtain⟨c0,c1,c2,fz,lb⟩:=G4.cells;have HSc:=A0 G4;have HO:=HO7;clear G4 HO7;have hX:=HX.o;go_wp2;go_quiet ((go_at_call 174;exact Calls.quiet_of_same (V3 hp _)))
      clear hX;have hs8:Sc b te (w7.drewN nq) l j ln:=HSc.o.keep rfl;have HO8:Hid (A9 b w (w7.drewN nq)):=HO.o.drewN _;clear c0 c1 c2 fz lb HSc HO;generalize w7.drewN nq=w8 at *;obtain⟨c0,c1,c2,fz,lb⟩:=hs8.cells;have HSc:=A0 hs8;have HO:=HO8;clear hs8 HO8;go_wp2;go_ret;rw[HR.o.1,HR.o.2.1,HR.o.2.2,HK.o];exact⟨rfl,HSc.o,HO.o⟩
     ·have hq:=HP.o;rw[hp]at hq;have F1:l[j]=47/\(l.drop (j+1)).head?=some 47:=by
       have:=hq.symm;simp only[Bool.and_eq_true,beq_iff_eq]at this;exact this
      have hsk:Ba false (l.drop j)=Ba true (l.drop j):=by rw[hD];exact Am0 F1.1 F1.2
      have hrm:=Am1 (l.drop j);have hpos:1<=(E8 (l.drop j)).1:=by
       rw[hD,E8,F1.1,if_neg z4wa,if_neg z4wa];simp
      have hle:=Aji (l.drop j);rw[List.length_drop]at hle;have HK:=A0 (hsk.trans hrm);clear h10 hD hsp hq F1 hsk hrm;go_wp2;go_quiet (fail)
      have Cm:Sc b te (wr.drewN nq) l j ln:=HSc.o.keep rfl;have Cb:Hid (A9 b w (wr.drewN nq)):=HO.o.drewN _;clear c0 c1 c2 fz lb HSc HO;generalize wr.drewN nq=w5 at *;obtain⟨c0,c1,c2,fz,lb⟩:=Cm.cells;have HSc:=A0 Cm;have HO:=Cb;clear Cm Cb;go_wp2;go_quiet (fail)
      have Eb:Sc b te (w5.drewN nq) l j ln:=HSc.o.keep rfl;have Dl:Hid (A9 b w (w5.drewN nq)):=HO.o.drewN _;clear c0 c1 c2 fz lb HSc HO;generalize w5.drewN nq=w6 at *;obtain⟨c0,c1,c2,fz,lb⟩:=Eb.cells;have HSc:=A0 Eb;have HO:=Dl;clear Eb Dl;go_wp2;go_quiet (fail)
      have G4:Sc b te (w6.drewN nq) l j ln:=HSc.o.keep rfl;have HO7:Hid (A9 b w (w6.drewN nq)):=HO.o.drewN _;clear c0 c1 c2 fz lb HSc HO;generalize w6.drewN nq=w7 at *;obtain⟨c0,c1,c2,fz,lb⟩:=G4.cells;have HSc:=A0 G4;have HO:=HO7;clear G4 HO7;have hX:=HX.o;go_wp2;go_quiet ((go_at_call 174;exact Calls.quiet_of_same (V3 hp _)))
      clear hX;have hs8:Sc b te (w7.drewN nq) l j ln:=HSc.o.keep rfl;have HO8:Hid (A9 b w (w7.drewN nq)):=HO.o.drewN _;clear c0 c1 c2 fz lb HSc HO;generalize w7.drewN nq=w8 at *;obtain⟨c0,c1,c2,fz,lb⟩:=hs8.cells;have HSc:=A0 hs8;have HO:=HO8;clear hs8 HO8;go_wp2_with fail
      refine(Aap HSc.o hl hjl).mono ?_;rintro e w9 ⟨rfl,Fg,ho9⟩;have HSc9:=A0 Fg;have HO9:Hid (A9 b w w9):=HO.o.trans ho9;clear Fg ho9 c0 c1 c2 fz lb;cases hrk:(E8 (l.drop j)).2
      ·go_wp2;go_ret;have hk:=HK.o;rw[hrk]at hk;rw[HR.o.1,HR.o.2.1,HR.o.2.2,hk];exact⟨rfl,HSc9.o,HO9.o⟩
      ·have HK2:Hid (Ba false (l.drop j)=((E8 (l.drop j)).1+(Ba false (l.drop (j+(E8 (l.drop j)).1))).1,(Ba false (l.drop (j+(E8 (l.drop j)).1))).2.1,(Ba false (l.drop (j+(E8 (l.drop j)).1))).2.2)):=by
        show _=_;have hk:=HK.o;rw[hrk,if_pos rfl,List.drop_drop]at hk;exact hk
       clear HK;generalize (E8 (l.drop j)).1=m at *;go_wp2;go_roundg (gk-m)
       case measure=>omega
       case rel=>
        refine⟨j+m,ln,by omega,by omega,by omega,by omega,?_,?_,?_,HSc9.o,HO9.o⟩
        ·rw[HR.o.1,HK2.o];show j+(m+_)=_;omega
        ·rw[HR.o.2.1,HK2.o]
        ·rw[HR.o.2.2,HK2.o]
  ·have HK:Hid (Ba false (l.drop j)=(0,0,true)):=by
    show _=_;rw[List.drop_eq_nil_of_le z4va,Ba]
   go_wp2;go_quiet (fail)
   go_wp2;go_ret;rw[HR.o.1,HR.o.2.1,HR.o.2.2,HK.o];exact⟨rfl,HSc.o.keep rfl,HO.o.drewN _⟩
def Kf(c:UInt8):Option UInt8:=if c==34||c==92 then some c else if c==110 then some 10 else none
def Vg(b te:Nat)(w:World)(l:List UInt8)(i line:Nat)(e:Ending)(w':World):Prop:=
 (∃(h:i<l.length) (v:UInt8),Kf l[i]=some v/\e=.returned (.tuple #[.int .u8 v.toNat,.bool true])/\Sc b te w' l (i+1) line/\A9 b w w')\/
 ((∀h:i<l.length,Kf l[i]=none)/\e=.returned (.tuple #[.int .u8 0,.bool false])/\(∃i',Sc b te w' l i' line)/\A9 b w w')
theorem Ad0{b te:Nat}{w:World}{l:List UInt8}{i line:Nat}(h:Sc b te w l i line)(hl:l.length<=100000)(hi:i<=l.length) :
  Calls Tryz.prog 181 #[.pointer (some ⟨b,0,none⟩)] w (Vg b te w l i line):=by
 obtain⟨c0,c1,c2,fz,lb⟩:=h.cells;have HSc:=A0 h;clear h;by_cases hlt:i<l.length
 ·have hE:∀h,((⟨l.toArray⟩:ByteArray)[i]'h)=l[i]:=fun h=>Pk l i h;have hne:((i:Int)==(l.length:Int))=false:=by rw[beq_eq_false_iff_ne];omega
  go_enter Tryz.func181,Tryz.ntmps181;go_wp2;go_quiet (fail)
  have Cm:Sc b te (w.drewN nq) l i line:=HSc.o.keep rfl;have Cb:Hid (A9 b w (w.drewN nq)):=(A9.refl b w).drewN _;clear c0 c1 c2 fz lb HSc;generalize w.drewN nq=w5 at *;obtain⟨c0,c1,c2,fz,lb⟩:=Cm.cells;have HSc:=A0 Cm;clear Cm;have fin:Hid (∀w',Sc b te w' l (i+1) line->A9 b w5 w'->∀v,Kf l[i]=some v->Vg b te w l i line (.returned (.tuple #[.int .u8 v.toNat,.bool true])) w'):=fun w' h1 h2 v hv=>.inl ⟨hlt,v,hv,rfl,h1,Cb.o.trans h2⟩;have fin0:Hid (∀w',Sc b te w' l (i+1) line->A9 b w5 w'->Kf l[i]=none->Vg b te w l i line (.returned (.tuple #[.int .u8 0,.bool false])) w'):=fun w' h1 h2 hv=>.inr ⟨fun _=>hv,rfl,⟨_,h1⟩,Cb.o.trans h2⟩;have hsplit:(((l[i].toNat:Int)==34)=true/\Kf l[i]=some l[i])\/(((l[i].toNat:Int)==34)=false/\((l[i].toNat:Int)==92)=true/\Kf l[i]=some l[i])\/(((l[i].toNat:Int)==34)=false/\((l[i].toNat:Int)==92)=false/\((l[i].toNat:Int)==110)=true/\Kf l[i]=some 10)\/(((l[i].toNat:Int)==34)=false/\((l[i].toNat:Int)==92)=false/\((l[i].toNat:Int)==110)=false/\Kf l[i]=none):=by
   by_cases e1:l[i]=34
   ·exact .inl ⟨Mz (d:=34) rfl e1,by unfold Kf;rw[e1];rfl⟩
   ·by_cases e2:l[i]=92
    ·exact .inr (.inl ⟨L7 (d:=34) rfl e1,Mz (d:=92) rfl e2,by unfold Kf;rw[e2];rfl⟩)
    ·by_cases e3:l[i]=110
     ·exact .inr (.inr (.inl ⟨L7 (d:=34) rfl e1,L7 (d:=92) rfl e2,Mz (d:=110) rfl e3,by unfold Kf;rw[e3];rfl⟩))
     ·refine .inr (.inr (.inr ⟨L7 (d:=34) rfl e1,L7 (d:=92) rfl e2,L7 (d:=110) rfl e3,?_⟩));unfold Kf;rw[if_neg (by simp[e1,e2]),if_neg (by simp[e3])]
  rcases hsplit with⟨q1,hv⟩|⟨q1,q2,hv⟩|⟨q1,q2,q3,hv⟩|⟨q1,q2,q3,hv⟩;all_goals
   have HV:=A0 hv;clear hv;go_wp2;go_quiet (fail)
   have Eb:Sc b te (w5.drewN nq) l i line:=HSc.o.keep rfl;have Dl:Hid (A9 b w5 (w5.drewN nq)):=(A9.refl b w5).drewN _;clear c0 c1 c2 fz lb HSc;generalize w5.drewN nq=w6 at *;obtain⟨c0,c1,c2,fz,lb⟩:=Eb.cells;have HSc:=A0 Eb;clear Eb;go_wp2;go_ret2
   first
    | exact fin.out _ (HSc.o.at (i+1) _ z4va) (A9.set (p:=⟨b,1,none⟩) Dl.o (.inl rfl) _) _ HV.o
    | exact fin0.out _ (HSc.o.at (i+1) _ z4va) (A9.set (p:=⟨b,1,none⟩) Dl.o (.inl rfl) _) HV.o
 ·obtain rfl:i=l.length:=by omega
  have hne:(((l.length:Nat):Int)==(l.length:Int))=true:=by simp
  go_enter Tryz.func181,Tryz.ntmps181;go_wp2;go_quiet (fail)
  go_wp2;go_ret2
  exact .inr ⟨fun h=>absurd h z4va,rfl,⟨_,HSc.o.keep rfl⟩,(A9.refl b w).drewN _⟩
def A5n(b te:Nat)(w:World)(l:List UInt8)(i line:Nat)(e:Ending)(w':World):Prop:=
 A9 b w w'/\((∃x,quot false (l.drop (i+1))=some x/\e=.returned (.tuple #[.agg #[.int .i64 3,.int .i64 (line:Nat),.string ⟨x.1.toArray⟩,.int .i64 0],.bool true])/\Sc b te w' l (i+1+x.2) line)\/
  (quot false (l.drop (i+1))=none/\e=.returned (.tuple #[.agg #[.int .i64 0,.int .i64 0,.string ⟨#[]⟩,.int .i64 0],.bool false])/\∃i',Sc b te w' l i' line))
theorem Aiw(l:List UInt8)(k:Nat)(h:k+1<l.length)(hc:l[k]=92)(v:UInt8)(hv:Kf l[k+1]=some v):quot false (l.drop k)=Lc [v] 2 (quot false (l.drop (k+2))):=by
 unfold Kf at hv;split at hv
 ·rename_i h1;simp only[Bool.or_eq_true,beq_iff_eq]at h1;have:=Option.some.inj hv;subst this;rcases h1 with e|e
  ·rw[Y4 l k h hc (.inl e),e];rfl
  ·rw[Y4 l k h hc (.inr (.inl e)),e];rfl
 ·split at hv
  ·rename_i h2;simp only[beq_iff_eq]at h2;have:=Option.some.inj hv;subst this;rw[Y4 l k h hc (.inr (.inr h2)),h2];rfl
  ·cases hv
theorem Aiy(l:List UInt8)(k:Nat)(h:k<l.length)(hc:l[k]=92)(hv:∀h:k+1<l.length,Kf l[k+1]=none):quot false (l.drop k)=none:=by
 by_cases h1:k+1<l.length
 ·have h2:=hv h1;unfold Kf at h2;split at h2
  ·cases h2
  ·split at h2
   ·cases h2
   ·rename_i e1 e2;simp only[Bool.or_eq_true,beq_iff_eq]at e1 e2;exact Aix l k h1 hc (fun e=>e1 (.inl e)) (fun e=>e1 (.inr e)) e2
 ·exact Aiz l k h hc z4va
def A5o(b te:Nat)(l:List UInt8)(i line:Nat)(w:World)(k:Nat)(v:Value)(wr:World):Prop:=
 ∃(j:Nat) (acc:List UInt8) (va:Option Addr) (vn vc:Nat),v=.slice va vn vc/\i+1<=j/\j<=l.length/\j+k=l.length/\acc.length<=j/\wr.ownsRow 0 5 1 (.slice va vn vc) acc.length (acc.map Ja)/\(∀g,(Value.slice va vn vc).ownBlock=some g->w.heap.size<g)/\
  quot false (l.drop (i+1))=Lc acc (j-(i+1)) (quot false (l.drop j))/\Sc b te wr l j line/\A9 b w wr/\wr.heap[w.heap.size]?=some (.cells #[.int .i64 0,.int .i64 0,.string ⟨#[]⟩,.int .i64 0] 198)
theorem z5qa {P:Prop} (h:P:=by simp[results,Tryz.results128,go_sem,z0,z1,z2,z3]):P:=h
theorem z0oa {P:Prop} (h:P:=by
  have Cm:Sc b te (wr.drewN nq) l j line:=HSc.o.keep rfl;have Cb:Hid (A9 b w (wr.drewN nq)):=HO.o.drewN _;have hz5:(wr.drewN nq).heap[w.heap.size]?=some (.cells #[.int .i64 0,.int .i64 0,.string ⟨#[]⟩,.int .i64 0] 198):=HZ.o;have Jf:(wr.drewN nq).ownsRow 0 5 1 (.slice va vn vc) acc.length (acc.map Ja):=hown;clear c0 c1 c2 fz lb HSc HO HZ hown;generalize wr.drewN nq=w5 at *;obtain⟨c0,c1,c2,fz,lb⟩:=Cm.cells;have HSc:=A0 Cm;have HO:=Cb;have HZ:=A0 hz5;have hown:=Jf;clear Cm Cb hz5 Jf;obtain⟨z0,z1,z2,z3,fZ,lZ⟩:=E5 HZ.o;go_wp2;refine bodyPost_ret (v:=.tuple #[.agg #[.int .i64 0,.int .i64 0,.string ⟨#[]⟩,.int .i64 0],.bool false]) z5qa rfl ?_;exact⟨A9.I9 HO.o (Nat.le_refl _) _ _ _ _,.inr ⟨HN.o,rfl,_,HSc.o.keep (Hf z4va _ _ _ _)⟩⟩):P:=h
theorem z3ca {P:Prop} (h:P:=by
  intro k hk;simp only[Value.ownBlock,Option.some.injEq]at hk;rw[←hk];rcases hat with e|e
  ·exact HLo.o g e
  ·have:=A5 HZA.o;omega):P:=h
theorem z6da {P:Prop} (h:P:=by intro u hu;simp at hu;subst hu;rfl):P:=h
theorem z6ea {P:Prop} (h:P:=by have:=HLo.o k hk;show k≠b;omega):P:=h
theorem z6ja {P:Prop} (h:P:=by first|rfl|(simp[World.setCell];done)|(simp[World.setCell];rfl)):P:=h
theorem Aas{b te:Nat}{w:World}{l:List UInt8}{i line:Nat}(h:Sc b te w l i line)(hl:l.length<=100000)(hi:i<l.length) :
  Calls Tryz.prog 128 #[.pointer (some ⟨b,0,none⟩)] w (A5n b te w l i line):=by
 obtain⟨c0,c1,c2,fz,lb⟩:=h.cells;have HSc0:=A0 h;have hlb:=lb;clear h;go_enter Tryz.func128,Tryz.ntmps128;go_wp2;go_loopg [4] (l.length-(i+1)) (fun k v wr=>A5o b te l i line w k v wr)
 case atStart=>
  refine⟨i+1,[],none,0,0,rfl,Nat.le_refl _,by omega,by omega,by simp,World.ownsRow_nil _ _ _ _,(fun g hg=>by simp[Value.ownBlock]at hg),?_,?_,?_,?_⟩
  ·rw[Nat.sub_self];cases quot false (l.drop (i+1)) <;> simp[Lc]
  ·exact(Sc.at HSc0.o (i+1) _ z4va).keep (Below.heap_alloc _ _ _ (by simp[World.setCell];exact lb))
  ·exact(A9.set (p:=⟨b,1,none⟩) (A9.refl b w) (.inl rfl) _).alloc _
  ·have:=heap_alloc_new (w.setCell ⟨b,1,none⟩ (.int .i64 ((i:Int)+1))) (.cells #[.int .i64 0,.int .i64 0,.string ⟨#[]⟩,.int .i64 0] 198);simpa [World.setCell]using this
 case round=>
  clear c0 c1 c2 fz lb HSc0;obtain⟨j,acc,va,vn,vc,rfl,hij,hjl,hjk,hacc,hown,hlo,hq,hsc,ho,hz⟩:=hrel;obtain⟨c0,c1,c2,fz,lb⟩:=hsc.cells;have HSc:=A0 hsc;have HO:=A0 ho;have HZ:=A0 hz;have HQ:=A0 hq;have HLo:=A0 hlo;clear hq hsc ho hz hlo;have hbw:b<w.heap.size:=hlb;by_cases hlt:j<l.length
  ·have hE:∀h,((⟨l.toArray⟩:ByteArray)[j]'h)=l[j]:=fun h=>Pk l j h;cases hp:Gu l[j]
   ·have HN:Hid (quot false (l.drop (i+1))=none):=by show _=_;rw[HQ.o,Aiu l j hlt hp];rfl
    go_wp2;go_quiet ((go_at_call 180;exact Calls.quiet_of_same (Pn hp _)))
    exact z0oa
   ·by_cases h34:l[j]=34
    ·have t34:((l[j].toNat:Int)==34)=true:=Mz (d:=34) rfl h34;have HN:Hid (quot false (l.drop (i+1))=some (acc,j-(i+1)+1)):=by
      show _=_;rw[HQ.o,Aiv l j hlt h34];simp[Lc]
     clear h34;go_wp2;go_quiet ((go_at_call 180;exact Calls.quiet_of_same (Pn hp _)))
     have Cm:Sc b te (wr.drewN nq) l j line:=HSc.o.keep rfl;have Cb:Hid (A9 b w (wr.drewN nq)):=HO.o.drewN _;have hz5:(wr.drewN nq).heap[w.heap.size]?=some (.cells #[.int .i64 0,.int .i64 0,.string ⟨#[]⟩,.int .i64 0] 198):=HZ.o;have Jf:(wr.drewN nq).ownsRow 0 5 1 (.slice va vn vc) acc.length (acc.map Ja):=hown;clear c0 c1 c2 fz lb HSc HO HZ hown;generalize wr.drewN nq=w5 at *;obtain⟨c0,c1,c2,fz,lb⟩:=Cm.cells;have HSc:=A0 Cm;have HO:=Cb;have HZ:=A0 hz5;have hown:=Jf;clear Cm Cb hz5 Jf;go_wp2;go_quiet (fail)
     have Eb:Sc b te (w5.drewN nq) l j line:=HSc.o.keep rfl;have Dl:Hid (A9 b w (w5.drewN nq)):=HO.o.drewN _;have hz6:(w5.drewN nq).heap[w.heap.size]?=some (.cells #[.int .i64 0,.int .i64 0,.string ⟨#[]⟩,.int .i64 0] 198):=HZ.o;have hw6:(w5.drewN nq).ownsRow 0 5 1 (.slice va vn vc) acc.length (acc.map Ja):=hown;clear c0 c1 c2 fz lb HSc HO HZ hown;generalize w5.drewN nq=w6 at *;obtain⟨c0,c1,c2,fz,lb⟩:=Eb.cells;have HSc:=A0 Eb;have HO:=Dl;have HZ:=A0 hz6;have hown:=hw6;clear Eb Dl hz6 hw6;have hSA:Sc b te (w6.setCell ⟨b,1,none⟩ (.int .i64 ((j:Int)+1))) l (j+1) line:=HSc.o.at (j+1) _ z4va;have HScA:=A0 hSA;have HOA:Hid (A9 b w (w6.setCell ⟨b,1,none⟩ (.int .i64 ((j:Int)+1)))):=A9.set (p:=⟨b,1,none⟩) HO.o (.inl rfl) _;have HZA:Hid ((w6.setCell ⟨b,1,none⟩ (.int .i64 ((j:Int)+1))).heap[w.heap.size]?=some (.cells #[.int .i64 0,.int .i64 0,.string ⟨#[]⟩,.int .i64 0] 198)):=(Below.heap_setCell _ _ _ _ (by show w.heap.size≠b;omega)).trans HZ.o;have hownA:(w6.setCell ⟨b,1,none⟩ (.int .i64 ((j:Int)+1))).ownsRow 0 5 1 (.slice va vn vc) acc.length (acc.map Ja):=B4 hown (fun k hk _=>Below.heap_setCell _ _ _ _ z6ea);clear hown;go_wp2;clear c0 c1 c2 fz lb HSc HO HZ;generalize w6.setCell ⟨b,1,none⟩ (.int .i64 ((j:Int)+1))=wB at *;obtain⟨c0,c1,c2,fz,lb⟩:=hSA.cells;have hcv:=Wc (w:=wB.drew) hownA;obtain⟨z0,z1,z2,z3,fZ,lZ⟩:=E5 HZA.o;have hbz:b≠w.heap.size:=by omega
     clear hSA hownA;go_region
     all_goals go_wp2
     all_goals
      refine bodyPost_ret (v:=.tuple #[.agg #[.int .i64 3,.int .i64 (line:Nat),.string ⟨acc.toArray⟩,.int .i64 0],.bool true]) z5qa rfl ?_;refine⟨A9.I9 HOA.o.drew (Nat.le_refl _) _ _ _ _,.inl ⟨_,HN.o,rfl,?_⟩⟩;have:=HScA.o.keep (w':=(((wB.drew.setCell ⟨w.heap.size,0,none⟩ (.int .i64 3)).setCell ⟨w.heap.size,1,none⟩ (.int .i64 (line:Nat))).setCell ⟨w.heap.size,2,none⟩ (.string ⟨acc.toArray⟩)).setCell ⟨w.heap.size,3,none⟩ (.int .i64 0)) (Hf (w:=wB.drew) (g:=w.heap.size) (k:=b) z4va (.int .i64 3) (.int .i64 (line:Nat)) (.string ⟨acc.toArray⟩) (.int .i64 0));rw[show i+1+(j-(i+1)+1)=j+1 by omega];exact this
    ·have t34:((l[j].toNat:Int)==34)=false:=L7 (d:=34) rfl h34;by_cases h92:l[j]=92
     ·have t92:((l[j].toNat:Int)==92)=true:=Mz (d:=92) rfl h92;have HE2:=A0 (fun h v hv=>Aiw l j h h92 v hv);have HEN:=A0 (fun hv=>Aiy l j hlt h92 hv);clear h34 h92;go_wp2;go_quiet ((go_at_call 180;exact Calls.quiet_of_same (Pn hp _)))
      have Cm:Sc b te (wr.drewN nq) l j line:=HSc.o.keep rfl;have Cb:Hid (A9 b w (wr.drewN nq)):=HO.o.drewN _;have hz5:(wr.drewN nq).heap[w.heap.size]?=some (.cells #[.int .i64 0,.int .i64 0,.string ⟨#[]⟩,.int .i64 0] 198):=HZ.o;have Jf:(wr.drewN nq).ownsRow 0 5 1 (.slice va vn vc) acc.length (acc.map Ja):=hown;clear c0 c1 c2 fz lb HSc HO HZ hown;generalize wr.drewN nq=w5 at *;obtain⟨c0,c1,c2,fz,lb⟩:=Cm.cells;have HSc:=A0 Cm;have HO:=Cb;have HZ:=A0 hz5;have hown:=Jf;clear Cm Cb hz5 Jf;go_wp2;go_quiet (fail)
      have Eb:Sc b te (w5.drewN nq) l j line:=HSc.o.keep rfl;have Dl:Hid (A9 b w (w5.drewN nq)):=HO.o.drewN _;have hz6:(w5.drewN nq).heap[w.heap.size]?=some (.cells #[.int .i64 0,.int .i64 0,.string ⟨#[]⟩,.int .i64 0] 198):=HZ.o;have hw6:(w5.drewN nq).ownsRow 0 5 1 (.slice va vn vc) acc.length (acc.map Ja):=hown;clear c0 c1 c2 fz lb HSc HO HZ hown;generalize w5.drewN nq=w6 at *;obtain⟨c0,c1,c2,fz,lb⟩:=Eb.cells;have HSc:=A0 Eb;have HO:=Dl;have HZ:=A0 hz6;have hown:=hw6;clear Eb Dl hz6 hw6;have hSA:Sc b te (w6.setCell ⟨b,1,none⟩ (.int .i64 ((j:Int)+1))) l (j+1) line:=HSc.o.at (j+1) _ z4va;have HScA:=A0 hSA;have HOA:Hid (A9 b w (w6.setCell ⟨b,1,none⟩ (.int .i64 ((j:Int)+1)))):=A9.set (p:=⟨b,1,none⟩) HO.o (.inl rfl) _;have HZA:Hid ((w6.setCell ⟨b,1,none⟩ (.int .i64 ((j:Int)+1))).heap[w.heap.size]?=some (.cells #[.int .i64 0,.int .i64 0,.string ⟨#[]⟩,.int .i64 0] 198)):=(Below.heap_setCell _ _ _ _ (by show w.heap.size≠b;omega)).trans HZ.o;have hownA:(w6.setCell ⟨b,1,none⟩ (.int .i64 ((j:Int)+1))).ownsRow 0 5 1 (.slice va vn vc) acc.length (acc.map Ja):=B4 hown (fun k hk _=>Below.heap_setCell _ _ _ _ z6ea);clear hown;go_wp2_with fail
      refine(Ad0 hSA hl z4va).mono ?_;rintro e w9 hpost;clear hSA c0 c1 c2 fz lb HSc HO HZ;rcases hpost with⟨hj1,v,hv,rfl,Fg,ho9⟩|⟨hv,rfl,⟨i',Fg⟩,ho9⟩
      ·have HN:Hid (quot false (l.drop (i+1))=Lc (acc++[v]) (j+2-(i+1)) (quot false (l.drop (j+2)))):=by
        show _=_;rw[HQ.o,HE2.o hj1 v hv,A3g,show j-(i+1)+2=j+2-(i+1) by omega]
       have hown9:=B4 hownA (fun k hk hl=>ho9.block k hl (by have:=HLo.o k hk;omega));have hz9:=ho9.blk HZA.o z4va;replace HOA:Hid (A9 b w w9):=HOA.o.trans ho9;replace HScA:=A0 Fg;replace HZA:=A0 hz9;replace hownA:=hown9;have hbyte:Value.int .u8 v.toNat=Ja v:=rfl;clear Fg ho9 hz9 hown9 hv hbyte;go_wp2_with (at_builtin;refine Kj (w9) #[Ja (v)] 5 rfl (.tmp 71) (.tmp 73) 85 rfl 0 1 1 (.int .u8 0) Tryz.underlying85 Sg rfl z4va _ _ _ rfl z6ja hownA rfl z6da z4va z4va (Nat.zero_le _) ?_;intro g cap1 wA F0 hgrow hat hg)
       replace hgrow:(w9).grownBy wA (Value.slice va vn vc).ownBlock:=hgrow;replace hat:(Value.slice va vn vc).ownBlock=some g\/g=(w9).heap.size+1:=hat;go_roundg (gk-2)
       case measure=>omega
       case rel=>
        refine⟨j+2,acc++[v],some ⟨g,0,none⟩,acc.length+1,cap1,rfl,by omega,by omega,by omega,by simp;omega,by simpa using F0,?_,HN.o,HScA.o.keep (hgrow.block b (A5 HScA.o) (fun e=>by have:=HLo.o b e.symm;omega)),HOA.o.grown hgrow (fun k e=>.inr (by have:=HLo.o k e;omega)),(hgrow.block _ (A5 HZA.o) (fun e=>by have:=HLo.o _ e.symm;omega)).trans HZA.o⟩;exact z3ca
      ·have HN:Hid (quot false (l.drop (i+1))=none):=by show _=_;rw[HQ.o,HEN.o hv];rfl
       have HZ:=A0 (ho9.blk HZA.o z4va);have HO:Hid (A9 b w w9):=HOA.o.trans ho9;have HSc:=A0 Fg;clear Fg ho9 hv hownA HZA HOA HScA;obtain⟨z0,z1,z2,z3,fZ,lZ⟩:=E5 HZ.o;go_wp2;refine bodyPost_ret (v:=.tuple #[.agg #[.int .i64 0,.int .i64 0,.string ⟨#[]⟩,.int .i64 0],.bool false]) z5qa rfl ?_;exact⟨A9.I9 HO.o (Nat.le_refl _) _ _ _ _,.inr ⟨HN.o,rfl,_,HSc.o.keep (Hf z4va _ _ _ _)⟩⟩
     ·have t92:((l[j].toNat:Int)==92)=false:=L7 (d:=92) rfl h92;have HN:Hid (quot false (l.drop (i+1))=Lc (acc++[l[j]]) (j+1-(i+1)) (quot false (l.drop (j+1)))):=by
       show _=_;rw[HQ.o,Aj2 l j hlt hp h34 h92,A3g,show j-(i+1)+1=j+1-(i+1) by omega]
      clear h34 h92;go_wp2;go_quiet ((go_at_call 180;exact Calls.quiet_of_same (Pn hp _)))
      have Cm:Sc b te (wr.drewN nq) l j line:=HSc.o.keep rfl;have Cb:Hid (A9 b w (wr.drewN nq)):=HO.o.drewN _;have hz5:(wr.drewN nq).heap[w.heap.size]?=some (.cells #[.int .i64 0,.int .i64 0,.string ⟨#[]⟩,.int .i64 0] 198):=HZ.o;have Jf:(wr.drewN nq).ownsRow 0 5 1 (.slice va vn vc) acc.length (acc.map Ja):=hown;clear c0 c1 c2 fz lb HSc HO HZ hown;generalize wr.drewN nq=w5 at *;obtain⟨c0,c1,c2,fz,lb⟩:=Cm.cells;have HSc:=A0 Cm;have HO:=Cb;have HZ:=A0 hz5;have hown:=Jf;clear Cm Cb hz5 Jf;go_wp2;go_quiet (fail)
      have Eb:Sc b te (w5.drewN nq) l j line:=HSc.o.keep rfl;have Dl:Hid (A9 b w (w5.drewN nq)):=HO.o.drewN _;have hz6:(w5.drewN nq).heap[w.heap.size]?=some (.cells #[.int .i64 0,.int .i64 0,.string ⟨#[]⟩,.int .i64 0] 198):=HZ.o;have hw6:(w5.drewN nq).ownsRow 0 5 1 (.slice va vn vc) acc.length (acc.map Ja):=hown;clear c0 c1 c2 fz lb HSc HO HZ hown;generalize w5.drewN nq=w6 at *;obtain⟨c0,c1,c2,fz,lb⟩:=Eb.cells;have HSc:=A0 Eb;have HO:=Dl;have HZ:=A0 hz6;have hown:=hw6;clear Eb Dl hz6 hw6;have hSA:Sc b te (w6.setCell ⟨b,1,none⟩ (.int .i64 ((j:Int)+1))) l (j+1) line:=HSc.o.at (j+1) _ z4va;have HScA:=A0 hSA;have HOA:Hid (A9 b w (w6.setCell ⟨b,1,none⟩ (.int .i64 ((j:Int)+1)))):=A9.set (p:=⟨b,1,none⟩) HO.o (.inl rfl) _;have HZA:Hid ((w6.setCell ⟨b,1,none⟩ (.int .i64 ((j:Int)+1))).heap[w.heap.size]?=some (.cells #[.int .i64 0,.int .i64 0,.string ⟨#[]⟩,.int .i64 0] 198)):=(Below.heap_setCell _ _ _ _ (by show w.heap.size≠b;omega)).trans HZ.o;have hownA:(w6.setCell ⟨b,1,none⟩ (.int .i64 ((j:Int)+1))).ownsRow 0 5 1 (.slice va vn vc) acc.length (acc.map Ja):=B4 hown (fun k hk _=>Below.heap_setCell _ _ _ _ z6ea);clear hown hSA;go_wp2_with (at_builtin;refine Kj (w6.setCell ⟨b,1,none⟩ (.int .i64 ((j:Int)+1))) #[Ja (l[j])] 5 rfl (.tmp 71) (.tmp 73) 85 rfl 0 1 1 (.int .u8 0) Tryz.underlying85 Sg rfl z4va _ _ _ rfl z6ja hownA rfl z6da z4va z4va (Nat.zero_le _) ?_;intro g cap1 wA F0 hgrow hat hg)
      replace hgrow:(w6.setCell ⟨b,1,none⟩ (.int .i64 ((j:Int)+1))).grownBy wA (Value.slice va vn vc).ownBlock:=hgrow;replace hat:(Value.slice va vn vc).ownBlock=some g\/g=(w6.setCell ⟨b,1,none⟩ (.int .i64 ((j:Int)+1))).heap.size+1:=hat;go_roundg (gk-1)
      case measure=>omega
      case rel=>
       refine⟨j+1,acc++[l[j]],some ⟨g,0,none⟩,acc.length+1,cap1,rfl,by omega,by omega,by omega,by simp;omega,by simpa using F0,?_,HN.o,HScA.o.keep (hgrow.block b (A5 HScA.o) (fun e=>by have:=HLo.o b e.symm;omega)),HOA.o.grown hgrow (fun k e=>.inr (by have:=HLo.o k e;omega)),(hgrow.block _ (A5 HZA.o) (fun e=>by have:=HLo.o _ e.symm;omega)).trans HZA.o⟩;exact z3ca
  ·have HN:Hid (quot false (l.drop (i+1))=none):=by show _=_;rw[HQ.o,Aj1 l j z4va];rfl
   go_wp2;go_quiet (fail)
   exact z0oa
def K8:List (List UInt8×Nat):=[([61,61],27),([33,61],29),([60,61],31),([62,61],33),([38,38],39),([124,124],40),([40],18),([41],19),([123],20),([125],21),([91],22),([93],23),([44],24),([59],25),([61],26),([33],28),([60],30),([62],32),([43],34),([45],35),([42],36),([47],37),([37],38)]
def Yi:List (List UInt8×Nat)->List Value
 | []=>[]
 | x::r=>.string ⟨x.1.toArray⟩::.int .i64 (x.2:Nat)::Yi r
def Uz:Array Value:=(Yi K8).toArray
theorem Alv(w:World):∀n (h:n<23),(Instr.index 338 (.agg Uz) (.int .i64 (n:Nat))).run Tryz.prog w=.ok (.agg #[.string ⟨(K8[n]'h).1.toArray⟩,.int .i64 ((K8[n]'h).2:Nat)]) w
 | 0,_=>by kernel_rfl
 | 1,_=>by kernel_rfl
 | 2,_=>by kernel_rfl
 | 3,_=>by kernel_rfl
 | 4,_=>by kernel_rfl
 | 5,_=>by kernel_rfl
 | 6,_=>by kernel_rfl
 | 7,_=>by kernel_rfl
 | 8,_=>by kernel_rfl
 | 9,_=>by kernel_rfl
 | 10,_=>by kernel_rfl
 | 11,_=>by kernel_rfl
 | 12,_=>by kernel_rfl
 | 13,_=>by kernel_rfl
 | 14,_=>by kernel_rfl
 | 15,_=>by kernel_rfl
 | 16,_=>by kernel_rfl
 | 17,_=>by kernel_rfl
 | 18,_=>by kernel_rfl
 | 19,_=>by kernel_rfl
 | 20,_=>by kernel_rfl
 | 21,_=>by kernel_rfl
 | 22,_=>by kernel_rfl
 | n+23,h=>absurd h z4va
theorem A0p{α:Type}{p:α->Bool}{l:List α}{n:Nat}(hn:n<l.length):(l.drop n).find? p=if p l[n] then some l[n] else(l.drop (n+1)).find? p:=by
 rw[List.drop_eq_getElem_cons hn,List.find?_cons];cases p l[n] <;> rfl
def A5s(b te:Nat)(w:World)(l:List UInt8)(i line:Nat)(e:Ending)(w':World):Prop:=
 A9 b w w'/\((∃p,K8.find? (fun p=>Gk (l.drop i) p.1)=some p/\e=.returned (.tuple #[.agg #[.int .i64 (p.2:Nat),.int .i64 (line:Nat),.string ⟨#[]⟩,.int .i64 0],.bool true])/\Sc b te w' l (i+p.1.length) line)\/
  (K8.find? (fun p=>Gk (l.drop i) p.1)=none/\e=.returned (.tuple #[.agg #[.int .i64 0,.int .i64 0,.string ⟨#[]⟩,.int .i64 0],.bool false])/\Sc b te w' l i line))
theorem A9m{w:World}{g:Nat}{a0 a1:Value}{t:TypeId}(h:w.heap[g]?=some (.cells #[a0,a1] t (0,0))) :
  w.cell? ⟨g,0,none⟩=some a0/\w.cell? ⟨g,1,none⟩=some a1/\(∀o,w.frozen? ⟨g,o,none⟩=false)/\g<w.heap.size:=
 ⟨A2 h 0 _ rfl,A2 h 1 _ rfl,Bd h,A5 h⟩
theorem z47a {P:Prop} (h:P:=by
  show _=_;rw[HF1.o];simp only[hp];rfl):P:=h
theorem z4xa {P:Prop} (h:P:=by kernel_rfl):P:=h
theorem Aau{b te tg:Nat}{fr:Nat×Nat}{w:World}{l:List UInt8}{i line:Nat}(h:Sc b te w l i line)(hg:w.heap[1]?=some (.cells Uz tg fr))(hl:l.length<=100000)(hi:i<l.length) :
  Calls Tryz.prog 129 #[.pointer (some ⟨b,0,none⟩)] w (A5s b te w l i line):=by
 obtain⟨c0,c1,c2,fz,lb⟩:=h.cells;have HSc0:=A0 h;have HX:∀a b,(⟨l.toArray⟩:ByteArray).extract a b=⟨((l.drop a).take (b-a)).toArray⟩:=Sb l;go_enter Tryz.func129,Tryz.ntmps129;go_wp2_with (refine wpList_load_row rfl 338 _ rfl 1 rfl tg _ fr _ (alloc_old hg) Tryz.underlying338 rfl z4xa ?_)
 clear c0 c1 c2 fz hg h;go_loopg [7] 23 (fun k v wr=>∃n:Nat,v=.int .i64 n/\n+k=23/\K8.find? (fun p=>Gk (l.drop i) p.1)=(K8.drop n).find? (fun p=>Gk (l.drop i) p.1)/\Sc b te wr l i line/\A9 b w wr/\wr.heap[w.heap.size]?=some (.cells #[.int .i64 0,.int .i64 0,.string ⟨#[]⟩,.int .i64 0] 198))
 case atStart=>exact⟨0,rfl,rfl,rfl,HSc0.o.keep (Below.heap_alloc _ _ _ lb),(A9.refl _ _).alloc _,heap_alloc_new _ _⟩
 case round=>
  clear HSc0;obtain⟨n,rfl,hnk,hf,hsc,ho,ht⟩:=hrel;have HF:=A0 hf;have HSc:=A0 hsc;have HO:=A0 ho;have HT:=A0 ht;obtain⟨x0,x1,x2,x3,fx,lx⟩:=E5 ht;obtain⟨c0,c1,c2,fz,lbr⟩:=hsc.cells;have hne:b≠w.heap.size:=by omega
  clear hf hsc ho ht;by_cases hlt:n<23
  ·have hix:=fun W=>Alv W n hlt;have HF1:=A0 (HF.o.trans (A0p hlt));generalize Uz=sc at *;generalize K8[n]=p at *;clear HF;have hdr:(l.drop i).take (l.length-i)=l.drop i:=List.take_of_length_le z50a;cases hp:Gk (l.drop i) p.1
   ·have HF2:Hid (K8.find? (fun p=>Gk (l.drop i) p.1)=(K8.drop (n+1)).find? (fun p=>Gk (l.drop i) p.1)):=by
     exact z47a
    clear HF1;go_wp2;go_quiet ((go_at_call 174;exact Calls.quiet_of_same (V3 hp _)))
    go_wp2;go_roundg (gk-1)
    case measure=>omega
    case rel=>exact⟨n+1,rfl,by omega,HF2.o,HSc.o.keep (Below.heap_alloc _ _ _ lbr),(HO.o.alloc _).drewN _,alloc_old HT.o⟩
   ·have HF2:Hid (K8.find? (fun p=>Gk (l.drop i) p.1)=some p):=by
     exact z47a
    have hpl:i+p.1.length<=l.length:=by
     unfold Gk at hp;simp only[Bool.and_eq_true,decide_eq_true_eq,List.length_drop]at hp;omega
    clear HF1;go_wp2;go_quiet ((go_at_call 174;exact Calls.quiet_of_same (V3 hp _)))
    have HSc5:Hid (Sc b te ((wr.alloc (.cells #[.string ⟨p.1.toArray⟩,.int .i64 (p.2:Nat)] 329)).drewN nq) l i line):=HSc.o.keep (Below.heap_alloc _ _ _ lbr);have Cb:Hid (A9 b w ((wr.alloc (.cells #[.string ⟨p.1.toArray⟩,.int .i64 (p.2:Nat)] 329)).drewN nq)):=(HO.o.alloc _).drewN _;have HT5:Hid (((wr.alloc (.cells #[.string ⟨p.1.toArray⟩,.int .i64 (p.2:Nat)] 329)).drewN nq).heap[w.heap.size]?=_):=alloc_old HT.o;have Ey:Hid (((wr.alloc (.cells #[.string ⟨p.1.toArray⟩,.int .i64 (p.2:Nat)] 329)).drewN nq).heap[wr.heap.size]?=_):=heap_alloc_new _ _;generalize ((wr.alloc (.cells #[.string ⟨p.1.toArray⟩,.int .i64 (p.2:Nat)] 329)).drewN nq)=w5 at *;generalize wr.heap.size=pb at *;clear x0 x1 x2 x3 fx c0 c1 c2 fz HSc HO HT;obtain⟨x0,x1,x2,x3,fx,lx5⟩:=E5 HT5.o;obtain⟨c0,c1,c2,fz,lb5⟩:=HSc5.o.cells;obtain⟨y0,y1,fy,ly⟩:=A9m Ey.o;have hne2:pb≠b:=by omega
    have hne3:pb≠w.heap.size:=by omega
    go_wp2;go_region
    all_goals go_wp2
    all_goals go_region
    all_goals go_wp2
    all_goals
     refine bodyPost_ret (v:=.tuple #[.agg #[.int .i64 (p.2:Nat),.int .i64 (line:Nat),.string ⟨#[]⟩,.int .i64 0],.bool true]) (by simp[results,Tryz.results129,go_sem,x0,x1,x2,x3]) rfl ?_;exact⟨(A9.I9 (A9.set (p:=⟨b,1,none⟩) Cb.o (.inl rfl) _) (Nat.le_refl _) _ _ _ _).drew.drew,.inl ⟨p,HF2.o,rfl,(Sc.at HSc5.o (i+p.1.length) _ z4va).keep (Hf z4va _ _ _ _)⟩⟩
  ·have HF2:Hid (K8.find? (fun p=>Gk (l.drop i) p.1)=none):=by
    show _=_;rw[HF.o,show n=23 by omega];rfl
   go_wp2;refine bodyPost_ret (v:=.tuple #[.agg #[.int .i64 0,.int .i64 0,.string ⟨#[]⟩,.int .i64 0],.bool false]) (by simp[results,Tryz.results129,go_sem,x0,x1,x2,x3]) rfl ?_;exact⟨A9.I9 HO.o (Nat.le_refl _) _ _ _ _,.inr ⟨HF2.o,rfl,HSc.o.keep (Hf z4va _ _ _ _)⟩⟩
end
end Go.Proofs.YtjdlndhfaaolaaaGreatDoor
