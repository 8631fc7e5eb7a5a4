import Derived.Test.YtjdlndhfaaolaaaGreatDoorX11
set_option maxHeartbeats 20000000
namespace Go.Proofs.YtjdlndhfaaolaaaGreatDoor
section
set_option maxRecDepth 100000
open Go.RowKit
theorem Ade(l:List UInt8)(j:Nat)(h:j<l.length):Gk (l.drop j) [47,47]=(l[j]==47&&(l.drop (j+1)).head?==some 47):=by
 unfold Gk;rw[List.drop_eq_getElem_cons h];cases hd:l.drop (j+1) with
 | nil=>simp
 | cons d r=>
  simp only[List.length_cons,List.length_nil,List.take_succ_cons,List.take_zero,List.head?_cons];have:decide (0+1+1<=r.length+1+1)=true:=by simp
  rw[this,Bool.true_and];simp[Bool.beq_eq_decide_eq]
theorem Us{l p:List UInt8}{v:Bool}(h:Gk l p=v)(w:World):Calls Tryz.prog 174 #[.string ⟨l.toArray⟩,.string ⟨p.toArray⟩] w fun e w'=>e=.returned (.bool v)/\w'=w:=by
 subst h;exact Alx l p w
def A61(b te:Nat)(l:List UInt8)(i line:Nat)(w:World)(k:Nat)(wr:World):Prop:=
 ∃j ln,i<=j/\j<=l.length/\j+k=l.length/\ln<=j+1/\i+(B0 false (l.drop i)).1=j+(B0 false (l.drop j)).1/\line+(B0 false (l.drop i)).2.1=ln+(B0 false (l.drop j)).2.1/\(B0 false (l.drop i)).2.2=(B0 false (l.drop j)).2.2/\Sc b te wr l j ln/\A5 b w wr
theorem Akc{b te:Nat}{w:World}{l:List UInt8}{i line:Nat}(h:Sc b te w l i line)(hl:l.length<=100000)(hi:i<=l.length)(hln:line<=i+1) :
  Calls Tryz.prog 123 #[.pointer (some ⟨b,0,none⟩)] w fun e w'=>e=.returned (.bool (B0 false (l.drop i)).2.2)/\Sc b te w' l (i+(B0 false (l.drop i)).1) (line+(B0 false (l.drop i)).2.1)/\A5 b w w':=by
 have HH:=A0 h;clear h;go_enter Tryz.func123,Tryz.ntmps123;go_wp2;go_loopg [] (l.length-i) (fun k wr=>A61 b te l i line w k wr)
 case atStart=>exact⟨i,line,Nat.le_refl _,hi,by omega,hln,rfl,rfl,rfl,HH.o,A5.refl _ _⟩
 case round=>
  clear HH;obtain⟨j,ln,hij,hjl,hjk,hlj,B8,Bm,Du,hsc,ho⟩:=hrel;obtain⟨c0,c1,c2,fz,lb⟩:=hsc.cells;have HSc:=A0 hsc;have HO:=A0 ho;have HR:=A0 (And.intro B8 (And.intro Bm Du));clear B8 Bm Du hsc ho;by_cases hlt:j<l.length
  ·have hE:∀h,((⟨l.toArray⟩:ByteArray)[j]'h)=l[j]:=fun h=>P5 l j h;have hD:l.drop j=l[j]::l.drop (j+1):=List.drop_eq_getElem_cons hlt;by_cases h10:l[j]=10
   ·have t1:((l[j].toNat:Int)==10)=true:=Mu (d:=10) rfl h10;have HK:Hid (B0 false (l.drop j)=((B0 false (l.drop (j+1))).1+1,(B0 false (l.drop (j+1))).2.1+1,(B0 false (l.drop (j+1))).2.2)):=by show _=_;rw[hD];exact Akd h10
    clear h10 hD;go_wp2;go_quiet (fail)
    have Ch:Sc b te (wr.drewN nq) l j ln:=HSc.o.keep rfl;have C6:Hid (A5 b w (wr.drewN nq)):=HO.o.drewN _;clear c0 c1 c2 fz lb HSc HO;generalize wr.drewN nq=w5 at *;obtain⟨c0,c1,c2,fz,lb⟩:=Ch.cells;have HSc:=A0 Ch;have HO:=C6;clear Ch C6;go_wp2;go_quiet (fail)
    have Dy:Sc b te (w5.drewN nq) l j ln:=HSc.o.keep rfl;have D9:Hid (A5 b w (w5.drewN nq)):=HO.o.drewN _;clear c0 c1 c2 fz lb HSc HO;generalize w5.drewN nq=w6 at *;obtain⟨c0,c1,c2,fz,lb⟩:=Dy.cells;have HSc:=A0 Dy;have HO:=D9;clear Dy D9;go_wp2;go_roundg (gk-1)
    case measure=>omega
    case rel=>
     refine⟨j+1,ln+1,by omega,by omega,by omega,by omega,?_,?_,?_,Sc.at (Sc.ln HSc.o (ln+1) _ z4sa) (j+1) _ z4sa,A5.set (p:=⟨b,1,none⟩) (A5.set (p:=⟨b,2,none⟩) HO.o (.inl rfl) _) (.inl rfl) _⟩
     ·rw[HR.o.1,HK.o];show j+(_+1)=_;omega
     ·rw[HR.o.2.1,HK.o];show ln+(_+1)=_;omega
     ·rw[HR.o.2.2,HK.o]
   ·have t1:((l[j].toNat:Int)==10)=false:=Kz (d:=10) rfl h10;by_cases hsp:l[j]=32\/l[j]=9
    ·have HK:Hid (B0 false (l.drop j)=((B0 false (l.drop (j+1))).1+1,(B0 false (l.drop (j+1))).2.1,(B0 false (l.drop (j+1))).2.2)):=by show _=_;rw[hD];exact Akg hsp
     have hb:((l[j].toNat:Int)==32)=true\/(((l[j].toNat:Int)==32)=false/\((l[j].toNat:Int)==9)=true):=by
      by_cases h32:l[j]=32
      ·exact .inl (Mu (d:=32) rfl h32)
      ·exact .inr ⟨Kz (d:=32) rfl h32,Mu (d:=9) rfl (by rcases hsp with e|e;exact absurd e h32;exact e)⟩
     clear h10 hD hsp;rcases hb with t2|⟨t2,t3⟩;all_goals
      go_wp2;go_quiet (fail)
      have Ch:Sc b te (wr.drewN nq) l j ln:=HSc.o.keep rfl;have C6:Hid (A5 b w (wr.drewN nq)):=HO.o.drewN _;clear c0 c1 c2 fz lb HSc HO;generalize wr.drewN nq=w5 at *;obtain⟨c0,c1,c2,fz,lb⟩:=Ch.cells;have HSc:=A0 Ch;have HO:=C6;clear Ch C6;go_wp2;go_quiet (fail)
      have Dy:Sc b te (w5.drewN nq) l j ln:=HSc.o.keep rfl;have D9:Hid (A5 b w (w5.drewN nq)):=HO.o.drewN _;clear c0 c1 c2 fz lb HSc HO;generalize w5.drewN nq=w6 at *;obtain⟨c0,c1,c2,fz,lb⟩:=Dy.cells;have HSc:=A0 Dy;have HO:=D9;clear Dy D9;go_wp2;go_quiet (fail)
      have G2:Sc b te (w6.drewN nq) l j ln:=HSc.o.keep rfl;have HO7:Hid (A5 b w (w6.drewN nq)):=HO.o.drewN _;clear c0 c1 c2 fz lb HSc HO;generalize w6.drewN nq=w7 at *;obtain⟨c0,c1,c2,fz,lb⟩:=G2.cells;have HSc:=A0 G2;have HO:=HO7;clear G2 HO7;go_wp2;go_roundg (gk-1)
      case measure=>omega
      case rel=>
       refine⟨j+1,ln,by omega,by omega,by omega,by omega,?_,?_,?_,Sc.at HSc.o (j+1) _ z4sa,A5.set (p:=⟨b,1,none⟩) HO.o (.inl rfl) _⟩
       ·rw[HR.o.1,HK.o];show j+(_+1)=_;omega
       ·rw[HR.o.2.1,HK.o]
       ·rw[HR.o.2.2,HK.o]
    ·have t2:((l[j].toNat:Int)==32)=false:=Kz (d:=32) rfl (fun e=>hsp (.inl e));have t3:((l[j].toNat:Int)==9)=false:=Kz (d:=9) rfl (fun e=>hsp (.inr e));have HP:=A0 (Ade l j hlt);have hX:(⟨l.toArray⟩:ByteArray).extract j l.length=⟨(l.drop j).toArray⟩:=by rw[Qa,List.take_of_length_le z4wa]
     have HX:=A0 hX;clear hX;cases hp:Gk (l.drop j) [47,47]
     ·have HK:Hid (B0 false (l.drop j)=(0,0,true)):=by
       show _=_;rw[hD];refine A40 h10 (fun e=>hsp (.inl e)) (fun e=>hsp (.inr e)) (fun e=>?_);have:=HP.o;rw[hp,e.1,e.2]at this;exact absurd this z4ta
      clear h10 hD hsp;go_wp2;go_quiet (fail)
      have Ch:Sc b te (wr.drewN nq) l j ln:=HSc.o.keep rfl;have C6:Hid (A5 b w (wr.drewN nq)):=HO.o.drewN _;clear c0 c1 c2 fz lb HSc HO;generalize wr.drewN nq=w5 at *;obtain⟨c0,c1,c2,fz,lb⟩:=Ch.cells;have HSc:=A0 Ch;have HO:=C6;clear Ch C6;go_wp2;go_quiet (fail)
      have Dy:Sc b te (w5.drewN nq) l j ln:=HSc.o.keep rfl;have D9:Hid (A5 b w (w5.drewN nq)):=HO.o.drewN _;clear c0 c1 c2 fz lb HSc HO;generalize w5.drewN nq=w6 at *;obtain⟨c0,c1,c2,fz,lb⟩:=Dy.cells;have HSc:=A0 Dy;have HO:=D9;clear Dy D9;go_wp2;go_quiet (fail)
      have G2:Sc b te (w6.drewN nq) l j ln:=HSc.o.keep rfl;have HO7:Hid (A5 b w (w6.drewN nq)):=HO.o.drewN _;clear c0 c1 c2 fz lb HSc HO;generalize w6.drewN nq=w7 at *;obtain⟨c0,c1,c2,fz,lb⟩:=G2.cells;have HSc:=A0 G2;have HO:=HO7;clear G2 HO7;have hX:=HX.o;go_wp2;go_quiet ((go_at_call 174;exact Calls.quiet_of_same (Us hp _)))
      clear hX;have hs8:Sc b te (w7.drewN nq) l j ln:=HSc.o.keep rfl;have HO8:Hid (A5 b w (w7.drewN nq)):=HO.o.drewN _;clear c0 c1 c2 fz lb HSc HO;generalize w7.drewN nq=w8 at *;obtain⟨c0,c1,c2,fz,lb⟩:=hs8.cells;have HSc:=A0 hs8;have HO:=HO8;clear hs8 HO8;go_wp2;go_ret;rw[HR.o.1,HR.o.2.1,HR.o.2.2,HK.o];exact⟨rfl,HSc.o,HO.o⟩
     ·have hq:=HP.o;rw[hp]at hq;have I3:l[j]=47/\(l.drop (j+1)).head?=some 47:=by
       have:=hq.symm;simp only[Bool.and_eq_true,beq_iff_eq]at this;exact this
      have hsk:B0 false (l.drop j)=B0 true (l.drop j):=by rw[hD];exact Ake I3.1 I3.2
      have hrm:=Akf (l.drop j);have hpos:1<=(Dw (l.drop j)).1:=by
       rw[hD,Dw,I3.1,if_neg z4ta,if_neg z4ta];simp
      have hle:=Ahu (l.drop j);rw[List.length_drop]at hle;have HK:=A0 (hsk.trans hrm);clear h10 hD hsp hq I3 hsk hrm;go_wp2;go_quiet (fail)
      have Ch:Sc b te (wr.drewN nq) l j ln:=HSc.o.keep rfl;have C6:Hid (A5 b w (wr.drewN nq)):=HO.o.drewN _;clear c0 c1 c2 fz lb HSc HO;generalize wr.drewN nq=w5 at *;obtain⟨c0,c1,c2,fz,lb⟩:=Ch.cells;have HSc:=A0 Ch;have HO:=C6;clear Ch C6;go_wp2;go_quiet (fail)
      have Dy:Sc b te (w5.drewN nq) l j ln:=HSc.o.keep rfl;have D9:Hid (A5 b w (w5.drewN nq)):=HO.o.drewN _;clear c0 c1 c2 fz lb HSc HO;generalize w5.drewN nq=w6 at *;obtain⟨c0,c1,c2,fz,lb⟩:=Dy.cells;have HSc:=A0 Dy;have HO:=D9;clear Dy D9;go_wp2;go_quiet (fail)
      have G2:Sc b te (w6.drewN nq) l j ln:=HSc.o.keep rfl;have HO7:Hid (A5 b w (w6.drewN nq)):=HO.o.drewN _;clear c0 c1 c2 fz lb HSc HO;generalize w6.drewN nq=w7 at *;obtain⟨c0,c1,c2,fz,lb⟩:=G2.cells;have HSc:=A0 G2;have HO:=HO7;clear G2 HO7;have hX:=HX.o;go_wp2;go_quiet ((go_at_call 174;exact Calls.quiet_of_same (Us hp _)))
      clear hX;have hs8:Sc b te (w7.drewN nq) l j ln:=HSc.o.keep rfl;have HO8:Hid (A5 b w (w7.drewN nq)):=HO.o.drewN _;clear c0 c1 c2 fz lb HSc HO;generalize w7.drewN nq=w8 at *;obtain⟨c0,c1,c2,fz,lb⟩:=hs8.cells;have HSc:=A0 hs8;have HO:=HO8;clear hs8 HO8;go_wp2_with fail
      refine(Aa6 HSc.o hl hjl).mono ?_;rintro e w9 ⟨rfl,F7,ho9⟩;have HSc9:=A0 F7;have HO9:Hid (A5 b w w9):=HO.o.trans ho9;clear F7 ho9 c0 c1 c2 fz lb;cases hrk:(Dw (l.drop j)).2
      ·go_wp2;go_ret;have hk:=HK.o;rw[hrk]at hk;rw[HR.o.1,HR.o.2.1,HR.o.2.2,hk];exact⟨rfl,HSc9.o,HO9.o⟩
      ·have HK2:Hid (B0 false (l.drop j)=((Dw (l.drop j)).1+(B0 false (l.drop (j+(Dw (l.drop j)).1))).1,(B0 false (l.drop (j+(Dw (l.drop j)).1))).2.1,(B0 false (l.drop (j+(Dw (l.drop j)).1))).2.2)):=by
        show _=_;have hk:=HK.o;rw[hrk,if_pos rfl,List.drop_drop]at hk;exact hk
       clear HK;generalize (Dw (l.drop j)).1=m at *;go_wp2;go_roundg (gk-m)
       case measure=>omega
       case rel=>
        refine⟨j+m,ln,by omega,by omega,by omega,by omega,?_,?_,?_,HSc9.o,HO9.o⟩
        ·rw[HR.o.1,HK2.o];show j+(m+_)=_;omega
        ·rw[HR.o.2.1,HK2.o]
        ·rw[HR.o.2.2,HK2.o]
  ·have HK:Hid (B0 false (l.drop j)=(0,0,true)):=by
    show _=_;rw[List.drop_eq_nil_of_le z4sa,B0]
   go_wp2;go_quiet (fail)
   go_wp2;go_ret;rw[HR.o.1,HR.o.2.1,HR.o.2.2,HK.o];exact⟨rfl,HSc.o.keep rfl,HO.o.drewN _⟩
def Ke(c:UInt8):Option UInt8:=if c==34||c==92 then some c else if c==110 then some 10 else none
def V5(b te:Nat)(w:World)(l:List UInt8)(i line:Nat)(e:Ending)(w':World):Prop:=
 (∃(h:i<l.length) (v:UInt8),Ke l[i]=some v/\e=.returned (.tuple #[.int .u8 v.toNat,.bool true])/\Sc b te w' l (i+1) line/\A5 b w w')\/
 ((∀h:i<l.length,Ke l[i]=none)/\e=.returned (.tuple #[.int .u8 0,.bool false])/\(∃i',Sc b te w' l i' line)/\A5 b w w')
theorem Acf{b te:Nat}{w:World}{l:List UInt8}{i line:Nat}(h:Sc b te w l i line)(hl:l.length<=100000)(hi:i<=l.length) :
  Calls Tryz.prog 181 #[.pointer (some ⟨b,0,none⟩)] w (V5 b te w l i line):=by
 obtain⟨c0,c1,c2,fz,lb⟩:=h.cells;have HSc:=A0 h;clear h;by_cases hlt:i<l.length
 ·have hE:∀h,((⟨l.toArray⟩:ByteArray)[i]'h)=l[i]:=fun h=>P5 l i h;have hne:((i:Int)==(l.length:Int))=false:=by rw[beq_eq_false_iff_ne];omega
  go_enter Tryz.func181,Tryz.ntmps181;go_wp2;go_quiet (fail)
  have Ch:Sc b te (w.drewN nq) l i line:=HSc.o.keep rfl;have C6:Hid (A5 b w (w.drewN nq)):=(A5.refl b w).drewN _;clear c0 c1 c2 fz lb HSc;generalize w.drewN nq=w5 at *;obtain⟨c0,c1,c2,fz,lb⟩:=Ch.cells;have HSc:=A0 Ch;clear Ch;have fin:Hid (∀w',Sc b te w' l (i+1) line->A5 b w5 w'->∀v,Ke l[i]=some v->V5 b te w l i line (.returned (.tuple #[.int .u8 v.toNat,.bool true])) w'):=fun w' h1 h2 v hv=>.inl ⟨hlt,v,hv,rfl,h1,C6.o.trans h2⟩;have fin0:Hid (∀w',Sc b te w' l (i+1) line->A5 b w5 w'->Ke l[i]=none->V5 b te w l i line (.returned (.tuple #[.int .u8 0,.bool false])) w'):=fun w' h1 h2 hv=>.inr ⟨fun _=>hv,rfl,⟨_,h1⟩,C6.o.trans h2⟩;have hsplit:(((l[i].toNat:Int)==34)=true/\Ke l[i]=some l[i])\/(((l[i].toNat:Int)==34)=false/\((l[i].toNat:Int)==92)=true/\Ke l[i]=some l[i])\/(((l[i].toNat:Int)==34)=false/\((l[i].toNat:Int)==92)=false/\((l[i].toNat:Int)==110)=true/\Ke l[i]=some 10)\/(((l[i].toNat:Int)==34)=false/\((l[i].toNat:Int)==92)=false/\((l[i].toNat:Int)==110)=false/\Ke l[i]=none):=by
   by_cases e1:l[i]=34
   ·exact .inl ⟨Mu (d:=34) rfl e1,by unfold Ke;rw[e1];rfl⟩
   ·by_cases e2:l[i]=92
    ·exact .inr (.inl ⟨Kz (d:=34) rfl e1,Mu (d:=92) rfl e2,by unfold Ke;rw[e2];rfl⟩)
    ·by_cases e3:l[i]=110
     ·exact .inr (.inr (.inl ⟨Kz (d:=34) rfl e1,Kz (d:=92) rfl e2,Mu (d:=110) rfl e3,by unfold Ke;rw[e3];rfl⟩))
     ·refine .inr (.inr (.inr ⟨Kz (d:=34) rfl e1,Kz (d:=92) rfl e2,Kz (d:=110) rfl e3,?_⟩));unfold Ke;rw[if_neg (by simp[e1,e2]),if_neg (by simp[e3])]
  rcases hsplit with⟨q1,hv⟩|⟨q1,q2,hv⟩|⟨q1,q2,q3,hv⟩|⟨q1,q2,q3,hv⟩;all_goals
   have HV:=A0 hv;clear hv;go_wp2;go_quiet (fail)
   have Dy:Sc b te (w5.drewN nq) l i line:=HSc.o.keep rfl;have D9:Hid (A5 b w5 (w5.drewN nq)):=(A5.refl b w5).drewN _;clear c0 c1 c2 fz lb HSc;generalize w5.drewN nq=w6 at *;obtain⟨c0,c1,c2,fz,lb⟩:=Dy.cells;have HSc:=A0 Dy;clear Dy;go_wp2;go_ret2
   first
    | exact fin.out _ (HSc.o.at (i+1) _ z4sa) (A5.set (p:=⟨b,1,none⟩) D9.o (.inl rfl) _) _ HV.o
    | exact fin0.out _ (HSc.o.at (i+1) _ z4sa) (A5.set (p:=⟨b,1,none⟩) D9.o (.inl rfl) _) HV.o
 ·obtain rfl:i=l.length:=by omega
  have hne:(((l.length:Nat):Int)==(l.length:Int))=true:=by simp
  go_enter Tryz.func181,Tryz.ntmps181;go_wp2;go_quiet (fail)
  go_wp2;go_ret2
  exact .inr ⟨fun h=>absurd h z4sa,rfl,⟨_,HSc.o.keep rfl⟩,(A5.refl b w).drewN _⟩
end
end Go.Proofs.YtjdlndhfaaolaaaGreatDoor
