import Derived.Test.YtjdlndhfaaolaaaGreatDoorY11
set_option maxHeartbeats 20000000
set_option linter.defProp false
namespace Go.Proofs.YtjdlndhfaaolaaaGreatDoor
section
set_option maxRecDepth 100000
open Go.RowKit
def Sp{c:UInt8}{v:Bool}(h:Ja c=v)(w:World):Calls Tryz.prog 180 #[.int .u8 c.toNat] w fun e w'=>e=.returned (.bool v)/\w'=w:=by
 subst h;exact Agv c w
def z0ra {P:Prop} (h:P:=by
  go_wp2;go_quiet (fail)
  have hsc5:Sc b te (wr.drewN nq) l j line:=HSc.o.keep rfl;have Cq:Hid (A8 b w (wr.drewN nq)):=HO.o.drewN _;clear c0 c1 c2 fz lb HSc HO;generalize wr.drewN nq=w5 at *;obtain⟨c0,c1,c2,fz,lb⟩:=hsc5.cells;have HSc:=A0 hsc5;clear hsc5;go_wp2;go_quiet ((go_at_call 180;exact Calls.quiet_of_same (Sp hp _)))
  go_wp2;go_roundg (gk-1)
  case measure=>omega
  case rel=>
   refine⟨j+1,by omega,by omega,by omega,?_,?_,Sc.at (HSc.o.keep (w':=w5.drewN _) rfl) (j+1) _ z4ma,A8.set (p:=⟨b,1,none⟩) (Cq.o.drewN _) (.inl rfl) _⟩
   ·rw[HR.1,HD2.o]
   ·rw[HR.2,HD2.o];show j+(_+1)=_;omega):P:=h
def Agt{b te:Nat}{w:World}{l:List UInt8}{i line:Nat}(h:Sc b te w l i line)(hl:l.length<=100000)(hi:i<=l.length) :
  Calls Tryz.prog 175 #[.p b] w fun e w'=>e=.returned (.bool (Ew (l.drop i)).2)/\Sc b te w' l (i+(Ew (l.drop i)).1) line/\A8 b w w':=by
 have HH:=A0 h;clear h;go_in;go_wp2;go_loopg [] (l.length-i) (fun k wr=>∃j,i<=j/\j<=l.length/\j+k=l.length/\(Ew (l.drop i)).2=(Ew (l.drop j)).2/\i+(Ew (l.drop i)).1=j+(Ew (l.drop j)).1/\Sc b te wr l j line/\A8 b w wr)
 case atStart=>exact⟨i,Af _,hi,by omega,rfl,rfl,HH.o,A8.refl _ _⟩
 case round=>
  clear HH;obtain⟨j,hij,hjl,hjk,Cd,C7,hsc,ho⟩:=hrel;obtain⟨c0,c1,c2,fz,lb⟩:=hsc.cells;have HSc:=A0 hsc;have HO:=A0 ho;have HR:=C3 Cd C7;clear Cd C7 hsc ho;by_cases hlt:j<l.length
  ·have hE:∀h,((⟨l.toArray⟩:ByteArray)[j]'h)=l[j]:=fun h=>Sn l j h;have HD:Hid (Ew (l.drop j)=if l[j]==10 then(0,true) else if l[j] !=9&&!(Ja l[j]) then(0,false) else((Ew (l.drop (j+1))).1+1,(Ew (l.drop (j+1))).2)):=by
    show _=_;rw[Gk hlt,Ew]
   by_cases h10:l[j]=10
   ·have t1:((l[j].toNat:Int) !=10)=false:=A4u (d:=10) rfl h10;have HD':Ew (l.drop j)=(0,true):=by
     show _=_;rw[HD.o,h10];rfl
    clear HD h10;go_wp2;go_quiet (fail)
    go_wp2;go_ret;rw[HR.1,HR.2,HD'];exact⟨rfl,HSc.o.keep rfl,HO.o.drewN _⟩
   ·have t1:((l[j].toNat:Int) !=10)=true:=A4t (d:=10) rfl h10;have HD1:Ew (l.drop j)=if l[j] !=9&&!(Ja l[j]) then(0,false) else((Ew (l.drop (j+1))).1+1,(Ew (l.drop (j+1))).2):=by
     show _=_;rw[HD.o,Am.2 h10];rfl
    clear HD h10;cases hp:Ja l[j]
    ·by_cases h9:l[j]=9
     ·have t2:((l[j].toNat:Int) !=9)=false:=A4u (d:=9) rfl h9;have HD2:Hid (Ew (l.drop j)=((Ew (l.drop (j+1))).1+1,(Ew (l.drop (j+1))).2)):=by
       show _=_;rw[HD1,h9];rfl
      clear HD1 h9;exact z0ra
     ·have t2:((l[j].toNat:Int) !=9)=true:=A4t (d:=9) rfl h9;have HD2:Hid (Ew (l.drop j)=(0,false)):=by
       show _=_;have:(l[j] !=9)=true:=by simpa using h9
       rw[HD1,hp,this];rfl
      clear HD1 h9;go_wp2;go_quiet (fail)
      have hsc5:Sc b te (wr.drewN nq) l j line:=HSc.o.keep rfl;have Cq:Hid (A8 b w (wr.drewN nq)):=HO.o.drewN _;clear c0 c1 c2 fz lb HSc HO;generalize wr.drewN nq=w5 at *;obtain⟨c0,c1,c2,fz,lb⟩:=hsc5.cells;have HSc:=A0 hsc5;clear hsc5;go_wp2;go_quiet ((go_at_call 180;exact Calls.quiet_of_same (Sp hp _)))
      go_wp2;go_ret;rw[HR.1,HR.2,HD2.o];exact⟨rfl,HSc.o.keep rfl,Cq.o.drewN _⟩
    ·have HD2:Hid (Ew (l.drop j)=((Ew (l.drop (j+1))).1+1,(Ew (l.drop (j+1))).2)):=by
      show _=_;rw[HD1,hp,Bool.not_true,Bool.and_false];rfl
     clear HD1;exact z0ra
  ·have HD:Hid (Ew (l.drop j)=(0,true)):=by
    show _=_;rw[Pz z4ma,Ew]
   go_wp2;go_quiet (fail)
   go_wp2;go_ret;rw[HR.1,HR.2,HD.o];exact⟨rfl,HSc.o.keep rfl,HO.o.drewN _⟩
end
section
open Go.RowKit
def I3(l p:List UInt8):Bool:=decide (p.length<=l.length)&&(l.take p.length==p)
def Asq(l p:List UInt8)(w:World) :
  Calls Tryz.prog 226 #[.s l,.s p] w fun e w'=>e=.returned (.bool (I3 l p))/\w'=w:=by
 have HX:∀a b,(⟨l.toArray⟩:ByteArray).extract a b=⟨((l.drop a).take (b-a)).toArray⟩:=U4 l;by_cases h:p.length<=l.length
 ·have HE:Hid (I3 l p=(l.take p.length==p)):=by show _=_;unfold I3;rw[Sa h];rfl
  go_in;go_wp2;go_ret;refine⟨?_,rfl⟩;rw[HE.o];simp
 ·have HE:Hid (I3 l p=false):=by show _=_;unfold I3;rw[O2 h];rfl
  go_in;go_wp2;go_ret;refine⟨?_,rfl⟩;rw[HE.o];simp
def Aui(l p:List UInt8)(w:World) :
  Calls Tryz.prog 174 #[.s l,.s p] w fun e w'=>e=.returned (.bool (I3 l p))/\w'=w:=by
 go_in;go_wp2_with fail
 refine(Asq l p _).mono ?_;rintro e w' ⟨rfl,rfl⟩;exact z12a
end
section
set_option maxRecDepth 100000
open Go.RowKit
def Akg(l:List UInt8)(j:Nat)(h:j<l.length):I3 (l.drop j) [47,47]=(l[j]==47&&(l.drop (j+1)).head?==some 47):=by
 unfold I3;rw[Gk h];cases hd:l.drop (j+1) with
 | nil=>simp
 | cons d r=>
  simp only[Il,Jo,Jh,J1,List.head?_cons];have:decide (0+1+1<=r.length+1+1)=true:=by simp
  rw[this,Uy];simp[Bool.beq_eq_decide_eq]
def Yx{l p:List UInt8}{v:Bool}(h:I3 l p=v)(w:World):Calls Tryz.prog 174 #[.s l,.s p] w fun e w'=>e=.returned (.bool v)/\w'=w:=by
 subst h;exact Aui l p w
def Abj(b te:Nat)(l:List UInt8)(i line:Nat)(w:World)(k:Nat)(wr:World):Prop:=
 ∃j ln,i<=j/\j<=l.length/\j+k=l.length/\ln<=j+1/\i+(Bg false (l.drop i)).1=j+(Bg false (l.drop j)).1/\line+(Bg false (l.drop i)).2.1=ln+(Bg false (l.drop j)).2.1/\(Bg false (l.drop i)).2.2=(Bg false (l.drop j)).2.2/\Sc b te wr l j ln/\A8 b w wr
def Asj{b te:Nat}{w:World}{l:List UInt8}{i line:Nat}(h:Sc b te w l i line)(hl:l.length<=100000)(hi:i<=l.length)(hln:line<=i+1) :
  Calls Tryz.prog 123 #[.p b] w fun e w'=>e=.returned (.bool (Bg false (l.drop i)).2.2)/\Sc b te w' l (i+(Bg false (l.drop i)).1) (line+(Bg false (l.drop i)).2.1)/\A8 b w w':=by
 have HH:=A0 h;clear h;go_in;go_wp2;go_loopg [] (l.length-i) (fun k wr=>Abj b te l i line w k wr)
 case atStart=>exact⟨i,line,Af _,hi,by omega,hln,rfl,rfl,rfl,HH.o,A8.refl _ _⟩
 case round=>
  clear HH;obtain⟨j,ln,hij,hjl,hjk,hlj,Cd,C7,Gg,hsc,ho⟩:=hrel;obtain⟨c0,c1,c2,fz,lb⟩:=hsc.cells;have HSc:=A0 hsc;have HO:=A0 ho;have HR:=C3 Cd (C3 C7 Gg);clear Cd C7 Gg hsc ho;by_cases hlt:j<l.length
  ·have hE:∀h,((⟨l.toArray⟩:ByteArray)[j]'h)=l[j]:=fun h=>Sn l j h;have hD:l.drop j=l[j]::l.drop (j+1):=Gk hlt;by_cases h10:l[j]=10
   ·have t1:((l[j].toNat:Int)==10)=true:=Pe (d:=10) rfl h10;have HK:Hid (Bg false (l.drop j)=((Bg false (l.drop (j+1))).1+1,(Bg false (l.drop (j+1))).2.1+1,(Bg false (l.drop (j+1))).2.2)):=by show _=_;rw[hD];exact Asl h10
    clear h10 hD;go_wp2;go_quiet (fail)
    have Df:Sc b te (wr.drewN nq) l j ln:=HSc.o.keep rfl;have Cq:Hid (A8 b w (wr.drewN nq)):=HO.o.drewN _;clear c0 c1 c2 fz lb HSc HO;generalize wr.drewN nq=w5 at *;obtain⟨c0,c1,c2,fz,lb⟩:=Df.cells;have HSc:=A0 Df;have HO:=Cq;clear Df Cq;go_wp2;go_quiet (fail)
    have F6:Sc b te (w5.drewN nq) l j ln:=HSc.o.keep rfl;have Dz:Hid (A8 b w (w5.drewN nq)):=HO.o.drewN _;clear c0 c1 c2 fz lb HSc HO;generalize w5.drewN nq=w6 at *;obtain⟨c0,c1,c2,fz,lb⟩:=F6.cells;have HSc:=A0 F6;have HO:=Dz;clear F6 Dz;go_wp2;go_roundg (gk-1)
    case measure=>omega
    case rel=>
     refine⟨j+1,ln+1,by omega,by omega,by omega,by omega,?_,?_,?_,Sc.at (Sc.ln HSc.o (ln+1) _ z4ma) (j+1) _ z4ma,A8.set (p:=⟨b,1,none⟩) (A8.set (p:=⟨b,2,none⟩) HO.o (.inl rfl) _) (.inl rfl) _⟩
     ·rw[HR.1,HK.o];show j+(_+1)=_;omega
     ·rw[HR.2.1,HK.o];show ln+(_+1)=_;omega
     ·rw[HR.2.2,HK.o]
   ·have t1:((l[j].toNat:Int)==10)=false:=Ng (d:=10) rfl h10;by_cases hsp:l[j]=32\/l[j]=9
    ·have HK:Hid (Bg false (l.drop j)=((Bg false (l.drop (j+1))).1+1,(Bg false (l.drop (j+1))).2.1,(Bg false (l.drop (j+1))).2.2)):=by show _=_;rw[hD];exact Aso hsp
     have hb:((l[j].toNat:Int)==32)=true\/(((l[j].toNat:Int)==32)=false/\((l[j].toNat:Int)==9)=true):=by
      by_cases h32:l[j]=32
      ·exact .inl (Pe (d:=32) rfl h32)
      ·exact .inr ⟨Ng (d:=32) rfl h32,Pe (d:=9) rfl (by rcases hsp with e|e;exact absurd e h32;exact e)⟩
     clear h10 hD hsp;rcases hb with t2|⟨t2,t3⟩;all_goals
      go_wp2;go_quiet (fail)
      have Df:Sc b te (wr.drewN nq) l j ln:=HSc.o.keep rfl;have Cq:Hid (A8 b w (wr.drewN nq)):=HO.o.drewN _;clear c0 c1 c2 fz lb HSc HO;generalize wr.drewN nq=w5 at *;obtain⟨c0,c1,c2,fz,lb⟩:=Df.cells;have HSc:=A0 Df;have HO:=Cq;clear Df Cq;go_wp2;go_quiet (fail)
      have F6:Sc b te (w5.drewN nq) l j ln:=HSc.o.keep rfl;have Dz:Hid (A8 b w (w5.drewN nq)):=HO.o.drewN _;clear c0 c1 c2 fz lb HSc HO;generalize w5.drewN nq=w6 at *;obtain⟨c0,c1,c2,fz,lb⟩:=F6.cells;have HSc:=A0 F6;have HO:=Dz;clear F6 Dz;go_wp2;go_quiet (fail)
      have J9:Sc b te (w6.drewN nq) l j ln:=HSc.o.keep rfl;have HO7:Hid (A8 b w (w6.drewN nq)):=HO.o.drewN _;clear c0 c1 c2 fz lb HSc HO;generalize w6.drewN nq=w7 at *;obtain⟨c0,c1,c2,fz,lb⟩:=J9.cells;have HSc:=A0 J9;have HO:=HO7;clear J9 HO7;go_wp2;go_roundg (gk-1)
      case measure=>omega
      case rel=>
       refine⟨j+1,ln,by omega,by omega,by omega,by omega,?_,?_,?_,Sc.at HSc.o (j+1) _ z4ma,A8.set (p:=⟨b,1,none⟩) HO.o (.inl rfl) _⟩
       ·rw[HR.1,HK.o];show j+(_+1)=_;omega
       ·rw[HR.2.1,HK.o]
       ·rw[HR.2.2,HK.o]
    ·have t2:((l[j].toNat:Int)==32)=false:=Ng (d:=32) rfl (fun e=>hsp (.inl e));have t3:((l[j].toNat:Int)==9)=false:=Ng (d:=9) rfl (fun e=>hsp (.inr e));have HP:=Akg l j hlt;have hX:(⟨l.toArray⟩:ByteArray).extract j l.length=⟨(l.drop j).toArray⟩:=by rw[U4,Ot z4ra]
     have HX:=A0 hX;clear hX;cases hp:I3 (l.drop j) [47,47]
     ·have HK:Hid (Bg false (l.drop j)=(0,0,true)):=by
       show _=_;rw[hD];refine A9a h10 (fun e=>hsp (.inl e)) (fun e=>hsp (.inr e)) (fun e=>?_);have:=HP;rw[hp,e.1,e.2]at this;exact absurd this z4oa
      clear h10 hD hsp;go_wp2;go_quiet (fail)
      have Df:Sc b te (wr.drewN nq) l j ln:=HSc.o.keep rfl;have Cq:Hid (A8 b w (wr.drewN nq)):=HO.o.drewN _;clear c0 c1 c2 fz lb HSc HO;generalize wr.drewN nq=w5 at *;obtain⟨c0,c1,c2,fz,lb⟩:=Df.cells;have HSc:=A0 Df;have HO:=Cq;clear Df Cq;go_wp2;go_quiet (fail)
      have F6:Sc b te (w5.drewN nq) l j ln:=HSc.o.keep rfl;have Dz:Hid (A8 b w (w5.drewN nq)):=HO.o.drewN _;clear c0 c1 c2 fz lb HSc HO;generalize w5.drewN nq=w6 at *;obtain⟨c0,c1,c2,fz,lb⟩:=F6.cells;have HSc:=A0 F6;have HO:=Dz;clear F6 Dz;go_wp2;go_quiet (fail)
      have J9:Sc b te (w6.drewN nq) l j ln:=HSc.o.keep rfl;have HO7:Hid (A8 b w (w6.drewN nq)):=HO.o.drewN _;clear c0 c1 c2 fz lb HSc HO;generalize w6.drewN nq=w7 at *;obtain⟨c0,c1,c2,fz,lb⟩:=J9.cells;have HSc:=A0 J9;have HO:=HO7;clear J9 HO7;have hX:=HX.o;go_wp2;go_quiet ((go_at_call 174;exact Calls.quiet_of_same (Yx hp _)))
      clear hX;have hs8:Sc b te (w7.drewN nq) l j ln:=HSc.o.keep rfl;have HO8:Hid (A8 b w (w7.drewN nq)):=HO.o.drewN _;clear c0 c1 c2 fz lb HSc HO;generalize w7.drewN nq=w8 at *;obtain⟨c0,c1,c2,fz,lb⟩:=hs8.cells;have HSc:=A0 hs8;have HO:=HO8;clear hs8 HO8;go_wp2;go_ret;rw[HR.1,HR.2.1,HR.2.2,HK.o];exact⟨rfl,HSc.o,HO.o⟩
     ·have hq:=HP;rw[hp]at hq;have Gd:l[j]=47/\(l.drop (j+1)).head?=some 47:=by
       have:=hq.symm;simp only[F3,Fh]at this;exact this
      have hsk:Bg false (l.drop j)=Bg true (l.drop j):=by rw[hD];exact Asm Gd.1 Gd.2
      have hrm:=Asn (l.drop j);have hpos:1<=(Ew (l.drop j)).1:=by
       rw[hD,Ew,Gd.1,A1 z4oa,A1 z4oa];simp
      have hle:=Aqb (l.drop j);rw[Qs]at hle;have HK:=A0 (hsk.trans hrm);clear h10 hD hsp hq Gd hsk hrm;go_wp2;go_quiet (fail)
      have Df:Sc b te (wr.drewN nq) l j ln:=HSc.o.keep rfl;have Cq:Hid (A8 b w (wr.drewN nq)):=HO.o.drewN _;clear c0 c1 c2 fz lb HSc HO;generalize wr.drewN nq=w5 at *;obtain⟨c0,c1,c2,fz,lb⟩:=Df.cells;have HSc:=A0 Df;have HO:=Cq;clear Df Cq;go_wp2;go_quiet (fail)
      have F6:Sc b te (w5.drewN nq) l j ln:=HSc.o.keep rfl;have Dz:Hid (A8 b w (w5.drewN nq)):=HO.o.drewN _;clear c0 c1 c2 fz lb HSc HO;generalize w5.drewN nq=w6 at *;obtain⟨c0,c1,c2,fz,lb⟩:=F6.cells;have HSc:=A0 F6;have HO:=Dz;clear F6 Dz;go_wp2;go_quiet (fail)
      have J9:Sc b te (w6.drewN nq) l j ln:=HSc.o.keep rfl;have HO7:Hid (A8 b w (w6.drewN nq)):=HO.o.drewN _;clear c0 c1 c2 fz lb HSc HO;generalize w6.drewN nq=w7 at *;obtain⟨c0,c1,c2,fz,lb⟩:=J9.cells;have HSc:=A0 J9;have HO:=HO7;clear J9 HO7;have hX:=HX.o;go_wp2;go_quiet ((go_at_call 174;exact Calls.quiet_of_same (Yx hp _)))
      clear hX;have hs8:Sc b te (w7.drewN nq) l j ln:=HSc.o.keep rfl;have HO8:Hid (A8 b w (w7.drewN nq)):=HO.o.drewN _;clear c0 c1 c2 fz lb HSc HO;generalize w7.drewN nq=w8 at *;obtain⟨c0,c1,c2,fz,lb⟩:=hs8.cells;have HSc:=A0 hs8;have HO:=HO8;clear hs8 HO8;go_wp2_with fail
      refine(Agt HSc.o hl hjl).mono ?_;rintro e w9 ⟨rfl,Hf,ho9⟩;have HSc9:=A0 Hf;have HO9:A8 b w w9:=HO.o.trans ho9;clear Hf ho9 c0 c1 c2 fz lb;cases hrk:(Ew (l.drop j)).2
      ·go_wp2;go_ret;have hk:=HK.o;rw[hrk]at hk;rw[HR.1,HR.2.1,HR.2.2,hk];exact⟨rfl,HSc9.o,HO9⟩
      ·have HK2:Hid (Bg false (l.drop j)=((Ew (l.drop j)).1+(Bg false (l.drop (j+(Ew (l.drop j)).1))).1,(Bg false (l.drop (j+(Ew (l.drop j)).1))).2.1,(Bg false (l.drop (j+(Ew (l.drop j)).1))).2.2)):=by
        show _=_;have hk:=HK.o;rw[hrk,A7 rfl,Uz]at hk;exact hk
       clear HK;generalize (Ew (l.drop j)).1=m at *;go_wp2;go_roundg (gk-m)
       case measure=>omega
       case rel=>
        refine⟨j+m,ln,by omega,by omega,by omega,by omega,?_,?_,?_,HSc9.o,HO9⟩
        ·rw[HR.1,HK2.o];show j+(m+_)=_;omega
        ·rw[HR.2.1,HK2.o]
        ·rw[HR.2.2,HK2.o]
  ·have HK:Hid (Bg false (l.drop j)=(0,0,true)):=by
    show _=_;rw[Pz z4ma,Bg]
   go_wp2;go_quiet (fail)
   go_wp2;go_ret;rw[HR.1,HR.2.1,HR.2.2,HK.o];exact⟨rfl,HSc.o.keep rfl,HO.o.drewN _⟩
def Mg(c:UInt8):Option UInt8:=if c==34||c==92 then some c else if c==110 then some 10 else none
def Zp(b te:Nat)(w:World)(l:List UInt8)(i line:Nat)(e:Ending)(w':World):Prop:=
 (∃(h:i<l.length) (v:UInt8),Mg l[i]=some v/\e=.returned (.tuple #[.int .u8 v.toNat,.bool true])/\Sc b te w' l (i+1) line/\A8 b w w')\/
 ((∀h:i<l.length,Mg l[i]=none)/\e=.returned (.tuple #[.int .u8 0,.bool false])/\(∃i',Sc b te w' l i' line)/\A8 b w w')
def Aj0{b te:Nat}{w:World}{l:List UInt8}{i line:Nat}(h:Sc b te w l i line)(hl:l.length<=100000)(hi:i<=l.length) :
  Calls Tryz.prog 181 #[.p b] w (Zp b te w l i line):=by
 obtain⟨c0,c1,c2,fz,lb⟩:=h.cells;have HSc:=A0 h;by_cases hlt:i<l.length
 ·have hE:∀h,((⟨l.toArray⟩:ByteArray)[i]'h)=l[i]:=fun h=>Sn l i h;have hne:((i:Int)==(l.length:Int))=false:=by rw[Am];omega
  go_in;go_wp2;go_quiet (fail)
  have Df:Sc b te (w.drewN nq) l i line:=HSc.o.keep rfl;have Cq:A8 b w (w.drewN nq):=(A8.refl b w).drewN _;generalize w.drewN nq=w5 at *;obtain⟨c0,c1,c2,fz,lb⟩:=Df.cells;have HSc:=A0 Df;have fin:Hid (∀w',Sc b te w' l (i+1) line->A8 b w5 w'->∀v,Mg l[i]=some v->Zp b te w l i line (.returned (.tuple #[.int .u8 v.toNat,.bool true])) w'):=fun w' h1 h2 v hv=>.inl ⟨hlt,v,hv,rfl,h1,Cq.trans h2⟩;have fin0:Hid (∀w',Sc b te w' l (i+1) line->A8 b w5 w'->Mg l[i]=none->Zp b te w l i line (.returned (.tuple #[.int .u8 0,.bool false])) w'):=fun w' h1 h2 hv=>.inr ⟨fun _=>hv,rfl,⟨_,h1⟩,Cq.trans h2⟩;have hsplit:(((l[i].toNat:Int)==34)=true/\Mg l[i]=some l[i])\/(((l[i].toNat:Int)==34)=false/\((l[i].toNat:Int)==92)=true/\Mg l[i]=some l[i])\/(((l[i].toNat:Int)==34)=false/\((l[i].toNat:Int)==92)=false/\((l[i].toNat:Int)==110)=true/\Mg l[i]=some 10)\/(((l[i].toNat:Int)==34)=false/\((l[i].toNat:Int)==92)=false/\((l[i].toNat:Int)==110)=false/\Mg l[i]=none):=by
   by_cases e1:l[i]=34
   ·exact .inl ⟨Pe (d:=34) rfl e1,by unfold Mg;rw[e1];rfl⟩
   ·by_cases e2:l[i]=92
    ·exact .inr (.inl ⟨Ng (d:=34) rfl e1,Pe (d:=92) rfl e2,by unfold Mg;rw[e2];rfl⟩)
    ·by_cases e3:l[i]=110
     ·exact .inr (.inr (.inl ⟨Ng (d:=34) rfl e1,Ng (d:=92) rfl e2,Pe (d:=110) rfl e3,by unfold Mg;rw[e3];rfl⟩))
     ·refine .inr (.inr (.inr ⟨Ng (d:=34) rfl e1,Ng (d:=92) rfl e2,Ng (d:=110) rfl e3,?_⟩));unfold Mg;rw[A1 (by simp[e1,e2]),A1 (by simp[e3])]
  rcases hsplit with⟨q1,hv⟩|⟨q1,q2,hv⟩|⟨q1,q2,q3,hv⟩|⟨q1,q2,q3,hv⟩;all_goals
   go_wp2;go_quiet (fail)
   have F6:Sc b te (w5.drewN nq) l i line:=HSc.o.keep rfl;have Dz:A8 b w5 (w5.drewN nq):=(A8.refl b w5).drewN _;generalize w5.drewN nq=w6 at *;obtain⟨c0,c1,c2,fz,lb⟩:=F6.cells;have HSc:=A0 F6;go_wp2;go_ret2
   first
    | exact fin.out _ (HSc.o.at (i+1) _ z4ma) (A8.set (p:=⟨b,1,none⟩) Dz (.inl rfl) _) _ hv
    | exact fin0.out _ (HSc.o.at (i+1) _ z4ma) (A8.set (p:=⟨b,1,none⟩) Dz (.inl rfl) _) hv
 ·obtain rfl:i=l.length:=by omega
  have hne:(((l.length:Nat):Int)==(l.length:Int))=true:=by simp
  go_in;go_wp2;go_quiet (fail)
  go_wp2;go_ret2
  exact .inr ⟨fun h=>absurd h z4ma,rfl,⟨_,HSc.o.keep rfl⟩,(A8.refl b w).drewN _⟩
