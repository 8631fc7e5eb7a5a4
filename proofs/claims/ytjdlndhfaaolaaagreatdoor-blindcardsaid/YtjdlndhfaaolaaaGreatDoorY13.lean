import Derived.Test.YtjdlndhfaaolaaaGreatDoorY12
set_option maxHeartbeats 20000000
set_option linter.defProp false
namespace Go.Proofs.YtjdlndhfaaolaaaGreatDoor
section
set_option maxRecDepth 100000
open Go.RowKit
def Abc(b te:Nat)(w:World)(l:List UInt8)(i line:Nat)(e:Ending)(w':World):Prop:=
 A8 b w w'/\((∃x,quot false (l.drop (i+1))=some x/\e=.returned (.tuple #[.agg #[.i 3,.n line,.s x.1,.i 0],.bool true])/\Sc b te w' l (i+1+x.2) line)\/
  (quot false (l.drop (i+1))=none/\e=.returned (.tuple #[.agg #[.i 0,.i 0,.string ⟨#[]⟩,.i 0],.bool false])/\∃i',Sc b te w' l i' line))
def Apt(l:List UInt8)(k:Nat)(h:k+1<l.length)(hc:l[k]=92)(v:UInt8)(hv:Mg l[k+1]=some v):quot false (l.drop k)=Nl [v] 2 (quot false (l.drop (k+2))):=by
 unfold Mg at hv;split at hv
 ·rename_i h1;simp only[Gz,Fh]at h1;have:=Dl hv;subst this;rcases h1 with e|e
  ·rw[A20 l k h hc (.inl e),e];rfl
  ·rw[A20 l k h hc (.inr (.inl e)),e];rfl
 ·split at hv
  ·rename_i h2;simp only[Fh]at h2;have:=Dl hv;subst this;rw[A20 l k h hc (.inr (.inr h2)),h2];rfl
  ·cases hv
def Apv(l:List UInt8)(k:Nat)(h:k<l.length)(hc:l[k]=92)(hv:∀h:k+1<l.length,Mg l[k+1]=none):quot false (l.drop k)=none:=by
 by_cases h1:k+1<l.length
 ·have h2:=hv h1;unfold Mg at h2;split at h2
  ·cases h2
  ·split at h2
   ·cases h2
   ·rename_i e1 e2;simp only[Gz,Fh]at e1 e2;exact Apu l k h1 hc (fun e=>e1 (.inl e)) (fun e=>e1 (.inr e)) e2
 ·exact Apw l k h hc z4ma
def Abd(b te:Nat)(l:List UInt8)(i line:Nat)(w:World)(k:Nat)(v:Value)(wr:World):Prop:=
 ∃(j:Nat) (acc:List UInt8) (va:Option Addr) (vn vc:Nat),v=.slice va vn vc/\i+1<=j/\j<=l.length/\j+k=l.length/\acc.length<=j/\wr.ownsRow 0 5 1 (.slice va vn vc) acc.length (acc.map J5)/\(∀g,(Value.slice va vn vc).ownBlock=some g->w.heap.size<g)/\
  quot false (l.drop (i+1))=Nl acc (j-(i+1)) (quot false (l.drop j))/\Sc b te wr l j line/\A8 b w wr/\wr.heap[w.heap.size]?=some (.cells #[.i 0,.i 0,.string ⟨#[]⟩,.i 0] 198)
def z5ha {P:Prop} (h:P:=by simp[results,Tryz.results128,go_sem,z0,z1,z2,z3]):P:=h
def z0na {P:Prop} (h:P:=by
  have Df:Sc b te (wr.drewN nq) l j line:=HSc.o.keep rfl;have Cq:Hid (A8 b w (wr.drewN nq)):=HO.o.drewN _;have hz5:(wr.drewN nq).heap[w.heap.size]?=some (.cells #[.i 0,.i 0,.string ⟨#[]⟩,.i 0] 198):=HZ.o;have L6:(wr.drewN nq).ownsRow 0 5 1 (.slice va vn vc) acc.length (acc.map J5):=hown;clear c0 c1 c2 fz lb HSc HO HZ hown;generalize wr.drewN nq=w5 at *;obtain⟨c0,c1,c2,fz,lb⟩:=Df.cells;have HSc:=A0 Df;have HO:=Cq;have HZ:=A0 hz5;have hown:=L6;clear Df Cq hz5 L6;obtain⟨z0,z1,z2,z3,fZ,lZ⟩:=Eo HZ.o;go_wp2;refine B9 (v:=.tuple #[.agg #[.i 0,.i 0,.string ⟨#[]⟩,.i 0],.bool false]) z5ha rfl ?_;exact⟨A8.Jm HO.o (Af _) _ _ _ _,.inr ⟨HN.o,rfl,_,HSc.o.keep (Iy z4ma _ _ _ _)⟩⟩):P:=h
def z2ya {P:Prop} (h:P:=by
  intro k hk;simp only[Value.ownBlock,Cg]at hk;rw[←hk];rcases hat with e|e
  ·exact HLo.o g e
  ·have:=A6 HZA.o;omega):P:=h
def z56a {P:Prop} (h:P:=by intro u hu;simp at hu;subst hu;rfl):P:=h
def z65a {P:Prop} (h:P:=by have:=HLo.o k hk;show k≠b;omega):P:=h
def z69a {P:Prop} (h:P:=by first|rfl|(simp[World.setCell];done)|(simp[World.setCell];rfl)):P:=h
def Agw{b te:Nat}{w:World}{l:List UInt8}{i line:Nat}(h:Sc b te w l i line)(hl:l.length<=100000)(hi:i<l.length) :
  Calls Tryz.prog 128 #[.p b] w (Abc b te w l i line):=by
 obtain⟨c0,c1,c2,fz,lb⟩:=h.cells;have HSc0:=A0 h;have hlb:=lb;clear h;go_in;go_wp2;go_loopg [4] (l.length-(i+1)) (fun k v wr=>Abd b te l i line w k v wr)
 case atStart=>
  refine⟨i+1,[],none,0,0,rfl,Af _,by omega,by omega,by simp,M9 _ _ _ _,(fun g hg=>by simp[Value.ownBlock]at hg),?_,?_,?_,?_⟩
  ·rw[Nat.sub_self];cases quot false (l.drop (i+1)) <;> simp[Nl]
  ·exact(Sc.at HSc0.o (i+1) _ z4ma).keep (Ck _ _ _ (by simp[World.setCell];exact lb))
  ·exact(A8.set (p:=⟨b,1,none⟩) (A8.refl b w) (.inl rfl) _).alloc _
  ·have:=Bp (w.setCell ⟨b,1,none⟩ (.i ((i:Int)+1))) (.cells #[.i 0,.i 0,.string ⟨#[]⟩,.i 0] 198);simpa [World.setCell]using this
 case round=>
  clear c0 c1 c2 fz lb HSc0;obtain⟨j,acc,va,vn,vc,rfl,hij,hjl,hjk,hacc,hown,hlo,hq,hsc,ho,hz⟩:=hrel;obtain⟨c0,c1,c2,fz,lb⟩:=hsc.cells;have HSc:=A0 hsc;have HO:=A0 ho;have HZ:=A0 hz;have HQ:=A0 hq;have HLo:=A0 hlo;clear hq hsc ho hz hlo;have hbw:b<w.heap.size:=hlb;by_cases hlt:j<l.length
  ·have hE:∀h,((⟨l.toArray⟩:ByteArray)[j]'h)=l[j]:=fun h=>Sn l j h;cases hp:Ja l[j]
   ·have HN:Hid (quot false (l.drop (i+1))=none):=by show _=_;rw[HQ.o,Apr l j hlt hp];rfl
    go_wp2;go_quiet ((go_at_call 180;exact Calls.quiet_of_same (Sp hp _)))
    exact z0na
   ·by_cases h34:l[j]=34
    ·have t34:((l[j].toNat:Int)==34)=true:=Pe (d:=34) rfl h34;have HN:Hid (quot false (l.drop (i+1))=some (acc,j-(i+1)+1)):=by
      show _=_;rw[HQ.o,Aps l j hlt h34];simp[Nl]
     clear h34;go_wp2;go_quiet ((go_at_call 180;exact Calls.quiet_of_same (Sp hp _)))
     have Df:Sc b te (wr.drewN nq) l j line:=HSc.o.keep rfl;have Cq:Hid (A8 b w (wr.drewN nq)):=HO.o.drewN _;have hz5:(wr.drewN nq).heap[w.heap.size]?=some (.cells #[.i 0,.i 0,.string ⟨#[]⟩,.i 0] 198):=HZ.o;have L6:(wr.drewN nq).ownsRow 0 5 1 (.slice va vn vc) acc.length (acc.map J5):=hown;clear c0 c1 c2 fz lb HSc HO HZ hown;generalize wr.drewN nq=w5 at *;obtain⟨c0,c1,c2,fz,lb⟩:=Df.cells;have HSc:=A0 Df;have HO:=Cq;have HZ:=A0 hz5;have hown:=L6;clear Df Cq hz5 L6;go_wp2;go_quiet (fail)
     have F6:Sc b te (w5.drewN nq) l j line:=HSc.o.keep rfl;have Dz:Hid (A8 b w (w5.drewN nq)):=HO.o.drewN _;have hz6:(w5.drewN nq).heap[w.heap.size]?=some (.cells #[.i 0,.i 0,.string ⟨#[]⟩,.i 0] 198):=HZ.o;have hw6:(w5.drewN nq).ownsRow 0 5 1 (.slice va vn vc) acc.length (acc.map J5):=hown;clear c0 c1 c2 fz lb HSc HO HZ hown;generalize w5.drewN nq=w6 at *;obtain⟨c0,c1,c2,fz,lb⟩:=F6.cells;have HSc:=A0 F6;have HO:=Dz;have HZ:=A0 hz6;have hown:=hw6;clear F6 Dz hz6 hw6;have hSA:Sc b te (w6.setCell ⟨b,1,none⟩ (.i ((j:Int)+1))) l (j+1) line:=HSc.o.at (j+1) _ z4ma;have HScA:=A0 hSA;have HOA:Hid (A8 b w (w6.setCell ⟨b,1,none⟩ (.i ((j:Int)+1)))):=A8.set (p:=⟨b,1,none⟩) HO.o (.inl rfl) _;have HZA:Hid ((w6.setCell ⟨b,1,none⟩ (.i ((j:Int)+1))).heap[w.heap.size]?=some (.cells #[.i 0,.i 0,.string ⟨#[]⟩,.i 0] 198)):=(Bh _ _ _ _ (by show w.heap.size≠b;omega)).trans HZ.o;have hownA:(w6.setCell ⟨b,1,none⟩ (.i ((j:Int)+1))).ownsRow 0 5 1 (.slice va vn vc) acc.length (acc.map J5):=Bc hown (fun k hk _=>Bh _ _ _ _ z65a);clear hown;go_wp2;clear c0 c1 c2 fz lb HSc HO HZ;generalize w6.setCell ⟨b,1,none⟩ (.i ((j:Int)+1))=wB at *;obtain⟨c0,c1,c2,fz,lb⟩:=hSA.cells;have hcv:=A57 (w:=wB.drew) hownA;obtain⟨z0,z1,z2,z3,fZ,lZ⟩:=Eo HZA.o;have hbz:b≠w.heap.size:=by omega
     clear hSA hownA;go_region
     all_goals go_wp2
     all_goals
      refine B9 (v:=.tuple #[.agg #[.i 3,.n line,.s acc,.i 0],.bool true]) z5ha rfl ?_;refine⟨A8.Jm HOA.o.drew (Af _) _ _ _ _,.inl ⟨_,HN.o,rfl,?_⟩⟩;have:=HScA.o.keep (w':=(((wB.drew.setCell ⟨w.heap.size,0,none⟩ (.i 3)).setCell ⟨w.heap.size,1,none⟩ (.n line)).setCell ⟨w.heap.size,2,none⟩ (.s acc)).setCell ⟨w.heap.size,3,none⟩ (.i 0)) (Iy (w:=wB.drew) (g:=w.heap.size) (k:=b) z4ma (.i 3) (.n line) (.s acc) (.i 0));rw[show i+1+(j-(i+1)+1)=j+1 by omega];exact this
    ·have t34:((l[j].toNat:Int)==34)=false:=Ng (d:=34) rfl h34;by_cases h92:l[j]=92
     ·have t92:((l[j].toNat:Int)==92)=true:=Pe (d:=92) rfl h92;have HE2:=fun h v hv=>Apt l j h h92 v hv;have HEN:=fun hv=>Apv l j hlt h92 hv;clear h34 h92;go_wp2;go_quiet ((go_at_call 180;exact Calls.quiet_of_same (Sp hp _)))
      have Df:Sc b te (wr.drewN nq) l j line:=HSc.o.keep rfl;have Cq:Hid (A8 b w (wr.drewN nq)):=HO.o.drewN _;have hz5:(wr.drewN nq).heap[w.heap.size]?=some (.cells #[.i 0,.i 0,.string ⟨#[]⟩,.i 0] 198):=HZ.o;have L6:(wr.drewN nq).ownsRow 0 5 1 (.slice va vn vc) acc.length (acc.map J5):=hown;clear c0 c1 c2 fz lb HSc HO HZ hown;generalize wr.drewN nq=w5 at *;obtain⟨c0,c1,c2,fz,lb⟩:=Df.cells;have HSc:=A0 Df;have HO:=Cq;have HZ:=A0 hz5;have hown:=L6;clear Df Cq hz5 L6;go_wp2;go_quiet (fail)
      have F6:Sc b te (w5.drewN nq) l j line:=HSc.o.keep rfl;have Dz:Hid (A8 b w (w5.drewN nq)):=HO.o.drewN _;have hz6:(w5.drewN nq).heap[w.heap.size]?=some (.cells #[.i 0,.i 0,.string ⟨#[]⟩,.i 0] 198):=HZ.o;have hw6:(w5.drewN nq).ownsRow 0 5 1 (.slice va vn vc) acc.length (acc.map J5):=hown;clear c0 c1 c2 fz lb HSc HO HZ hown;generalize w5.drewN nq=w6 at *;obtain⟨c0,c1,c2,fz,lb⟩:=F6.cells;have HSc:=A0 F6;have HO:=Dz;have HZ:=A0 hz6;have hown:=hw6;clear F6 Dz hz6 hw6;have hSA:Sc b te (w6.setCell ⟨b,1,none⟩ (.i ((j:Int)+1))) l (j+1) line:=HSc.o.at (j+1) _ z4ma;have HScA:=A0 hSA;have HOA:Hid (A8 b w (w6.setCell ⟨b,1,none⟩ (.i ((j:Int)+1)))):=A8.set (p:=⟨b,1,none⟩) HO.o (.inl rfl) _;have HZA:Hid ((w6.setCell ⟨b,1,none⟩ (.i ((j:Int)+1))).heap[w.heap.size]?=some (.cells #[.i 0,.i 0,.string ⟨#[]⟩,.i 0] 198)):=(Bh _ _ _ _ (by show w.heap.size≠b;omega)).trans HZ.o;have hownA:(w6.setCell ⟨b,1,none⟩ (.i ((j:Int)+1))).ownsRow 0 5 1 (.slice va vn vc) acc.length (acc.map J5):=Bc hown (fun k hk _=>Bh _ _ _ _ z65a);clear hown;go_wp2_with fail
      refine(Aj0 hSA hl z4ma).mono ?_;rintro e w9 hpost;clear hSA c0 c1 c2 fz lb HSc HO HZ;rcases hpost with⟨hj1,v,hv,rfl,Hf,ho9⟩|⟨hv,rfl,⟨i',Hf⟩,ho9⟩
      ·have HN:Hid (quot false (l.drop (i+1))=Nl (acc++[v]) (j+2-(i+1)) (quot false (l.drop (j+2)))):=by
        show _=_;rw[HQ.o,HE2 hj1 v hv,A8l,show j-(i+1)+2=j+2-(i+1) by omega]
       have hown9:=Bc hownA (fun k hk hl=>ho9.block k hl (by have:=HLo.o k hk;omega));have hz9:=ho9.blk HZA.o z4ma;replace HOA:Hid (A8 b w w9):=HOA.o.trans ho9;replace HScA:=A0 Hf;replace HZA:=A0 hz9;replace hownA:=hown9;have hbyte:Value.int .u8 v.toNat=J5 v:=rfl;clear Hf ho9 hz9 hown9 hv hbyte;go_wp2_with (at_builtin;refine Lh (w9) #[J5 (v)] 5 rfl (.tmp 71) (.tmp 73) 85 rfl 0 1 1 (.int .u8 0) Tryz.underlying85 Qj rfl z4ma _ _ _ rfl z69a hownA rfl z56a z4ma z4ma (De _) ?_;intro g cap1 wA Ev hgrow hat hg)
       replace hgrow:(w9).grownBy wA (Value.slice va vn vc).ownBlock:=hgrow;replace hat:(Value.slice va vn vc).ownBlock=some g\/g=(w9).heap.size+1:=hat;go_roundg (gk-2)
       case measure=>omega
       case rel=>
        refine⟨j+2,acc++[v],some ⟨g,0,none⟩,acc.length+1,cap1,rfl,by omega,by omega,by omega,by simp;omega,by simpa using Ev,?_,HN.o,HScA.o.keep (hgrow.block b (A6 HScA.o) (fun e=>by have:=HLo.o b e.symm;omega)),HOA.o.grown hgrow (fun k e=>.inr (by have:=HLo.o k e;omega)),(hgrow.block _ (A6 HZA.o) (fun e=>by have:=HLo.o _ e.symm;omega)).trans HZA.o⟩;exact z2ya
      ·have HN:Hid (quot false (l.drop (i+1))=none):=by show _=_;rw[HQ.o,HEN hv];rfl
       have HZ:=A0 (ho9.blk HZA.o z4ma);have HO:Hid (A8 b w w9):=HOA.o.trans ho9;have HSc:=A0 Hf;clear Hf ho9 hv hownA HZA HOA HScA;obtain⟨z0,z1,z2,z3,fZ,lZ⟩:=Eo HZ.o;go_wp2;refine B9 (v:=.tuple #[.agg #[.i 0,.i 0,.string ⟨#[]⟩,.i 0],.bool false]) z5ha rfl ?_;exact⟨A8.Jm HO.o (Af _) _ _ _ _,.inr ⟨HN.o,rfl,_,HSc.o.keep (Iy z4ma _ _ _ _)⟩⟩
     ·have t92:((l[j].toNat:Int)==92)=false:=Ng (d:=92) rfl h92;have HN:Hid (quot false (l.drop (i+1))=Nl (acc++[l[j]]) (j+1-(i+1)) (quot false (l.drop (j+1)))):=by
       show _=_;rw[HQ.o,Apz l j hlt hp h34 h92,A8l,show j-(i+1)+1=j+1-(i+1) by omega]
      clear h34 h92;go_wp2;go_quiet ((go_at_call 180;exact Calls.quiet_of_same (Sp hp _)))
      have Df:Sc b te (wr.drewN nq) l j line:=HSc.o.keep rfl;have Cq:Hid (A8 b w (wr.drewN nq)):=HO.o.drewN _;have hz5:(wr.drewN nq).heap[w.heap.size]?=some (.cells #[.i 0,.i 0,.string ⟨#[]⟩,.i 0] 198):=HZ.o;have L6:(wr.drewN nq).ownsRow 0 5 1 (.slice va vn vc) acc.length (acc.map J5):=hown;clear c0 c1 c2 fz lb HSc HO HZ hown;generalize wr.drewN nq=w5 at *;obtain⟨c0,c1,c2,fz,lb⟩:=Df.cells;have HSc:=A0 Df;have HO:=Cq;have HZ:=A0 hz5;have hown:=L6;clear Df Cq hz5 L6;go_wp2;go_quiet (fail)
      have F6:Sc b te (w5.drewN nq) l j line:=HSc.o.keep rfl;have Dz:Hid (A8 b w (w5.drewN nq)):=HO.o.drewN _;have hz6:(w5.drewN nq).heap[w.heap.size]?=some (.cells #[.i 0,.i 0,.string ⟨#[]⟩,.i 0] 198):=HZ.o;have hw6:(w5.drewN nq).ownsRow 0 5 1 (.slice va vn vc) acc.length (acc.map J5):=hown;clear c0 c1 c2 fz lb HSc HO HZ hown;generalize w5.drewN nq=w6 at *;obtain⟨c0,c1,c2,fz,lb⟩:=F6.cells;have HSc:=A0 F6;have HO:=Dz;have HZ:=A0 hz6;have hown:=hw6;clear F6 Dz hz6 hw6;have hSA:Sc b te (w6.setCell ⟨b,1,none⟩ (.i ((j:Int)+1))) l (j+1) line:=HSc.o.at (j+1) _ z4ma;have HScA:=A0 hSA;have HOA:Hid (A8 b w (w6.setCell ⟨b,1,none⟩ (.i ((j:Int)+1)))):=A8.set (p:=⟨b,1,none⟩) HO.o (.inl rfl) _;have HZA:Hid ((w6.setCell ⟨b,1,none⟩ (.i ((j:Int)+1))).heap[w.heap.size]?=some (.cells #[.i 0,.i 0,.string ⟨#[]⟩,.i 0] 198)):=(Bh _ _ _ _ (by show w.heap.size≠b;omega)).trans HZ.o;have hownA:(w6.setCell ⟨b,1,none⟩ (.i ((j:Int)+1))).ownsRow 0 5 1 (.slice va vn vc) acc.length (acc.map J5):=Bc hown (fun k hk _=>Bh _ _ _ _ z65a);clear hown hSA;go_wp2_with (at_builtin;refine Lh (w6.setCell ⟨b,1,none⟩ (.i ((j:Int)+1))) #[J5 (l[j])] 5 rfl (.tmp 71) (.tmp 73) 85 rfl 0 1 1 (.int .u8 0) Tryz.underlying85 Qj rfl z4ma _ _ _ rfl z69a hownA rfl z56a z4ma z4ma (De _) ?_;intro g cap1 wA Ev hgrow hat hg)
      replace hgrow:(w6.setCell ⟨b,1,none⟩ (.i ((j:Int)+1))).grownBy wA (Value.slice va vn vc).ownBlock:=hgrow;replace hat:(Value.slice va vn vc).ownBlock=some g\/g=(w6.setCell ⟨b,1,none⟩ (.i ((j:Int)+1))).heap.size+1:=hat;go_roundg (gk-1)
      case measure=>omega
      case rel=>
       refine⟨j+1,acc++[l[j]],some ⟨g,0,none⟩,acc.length+1,cap1,rfl,by omega,by omega,by omega,by simp;omega,by simpa using Ev,?_,HN.o,HScA.o.keep (hgrow.block b (A6 HScA.o) (fun e=>by have:=HLo.o b e.symm;omega)),HOA.o.grown hgrow (fun k e=>.inr (by have:=HLo.o k e;omega)),(hgrow.block _ (A6 HZA.o) (fun e=>by have:=HLo.o _ e.symm;omega)).trans HZA.o⟩;exact z2ya
  ·have HN:Hid (quot false (l.drop (i+1))=none):=by show _=_;rw[HQ.o,Apy l j z4ma];rfl
   go_wp2;go_quiet (fail)
   exact z0na
def M7:List (List UInt8×Nat):=[([61,61],27),([33,61],29),([60,61],31),([62,61],33),([38,38],39),([124,124],40),([40],18),([41],19),([123],20),([125],21),([91],22),([93],23),([44],24),([59],25),([61],26),([33],28),([60],30),([62],32),([43],34),([45],35),([42],36),([47],37),([37],38)]
def A2g:List (List UInt8×Nat)->List Value
 | []=>[]
 | x::r=>.string ⟨x.1.toArray⟩::.int .i64 (x.2:Nat)::A2g r
def Yu:Array Value:=(A2g M7).toArray
def Asg(w:World):∀n (h:n<23),(Instr.index 338 (.agg Yu) (.n n)).run Tryz.prog w=.ok (.agg #[.string ⟨(M7[n]'h).1.toArray⟩,.n ((M7[n]'h).2)]) w
 | 0,_=>by kernel_rfl
 | 1,_=>by kernel_rfl
 | 2,_=>by kernel_rfl
 | 3,_=>by kernel_rfl
 | 4,_=>by kernel_rfl
 | 5,_=>by kernel_rfl
 | 6,_=>by kernel_rfl
 | 7,_=>by kernel_rfl
 | 8,_=>by kernel_rfl
 | 9,_=>by kernel_rfl
 | 10,_=>by kernel_rfl
 | 11,_=>by kernel_rfl
 | 12,_=>by kernel_rfl
 | 13,_=>by kernel_rfl
 | 14,_=>by kernel_rfl
 | 15,_=>by kernel_rfl
 | 16,_=>by kernel_rfl
 | 17,_=>by kernel_rfl
 | 18,_=>by kernel_rfl
 | 19,_=>by kernel_rfl
 | 20,_=>by kernel_rfl
 | 21,_=>by kernel_rfl
 | 22,_=>by kernel_rfl
 | n+23,h=>absurd h z4ma
def A62{α:Type}{p:α->Bool}{l:List α}{n:Nat}(hn:n<l.length):(l.drop n).find? p=if p l[n] then some l[n] else(l.drop (n+1)).find? p:=by
 rw[Gk hn,Za];cases p l[n] <;> rfl
def Abi(b te:Nat)(w:World)(l:List UInt8)(i line:Nat)(e:Ending)(w':World):Prop:=
 A8 b w w'/\((∃p,M7.find? (fun p=>I3 (l.drop i) p.1)=some p/\e=.returned (.tuple #[.agg #[.n p.2,.n line,.string ⟨#[]⟩,.i 0],.bool true])/\Sc b te w' l (i+p.1.length) line)\/
  (M7.find? (fun p=>I3 (l.drop i) p.1)=none/\e=.returned (.tuple #[.agg #[.i 0,.i 0,.string ⟨#[]⟩,.i 0],.bool false])/\Sc b te w' l i line))
def Afo{w:World}{g:Nat}{a0 a1:Value}{t:TypeId}(h:w.heap[g]?=some (.cells #[a0,a1] t (0,0))) :
  w.cell? ⟨g,0,none⟩=some a0/\w.cell? ⟨g,1,none⟩=some a1/\(∀o,w.frozen? ⟨g,o,none⟩=false)/\g<w.heap.size:=
 ⟨A4 h 0 _ rfl,A4 h 1 _ rfl,By h,A6 h⟩
def z45a {P:Prop} (h:P:=by
  show _=_;rw[HF1];simp only[hp];rfl):P:=h
def z4pa {P:Prop} (h:P:=by kernel_rfl):P:=h
def Agx{b te tg:Nat}{fr:Nat×Nat}{w:World}{l:List UInt8}{i line:Nat}(h:Sc b te w l i line)(hg:w.heap[1]?=some (.cells Yu tg fr))(hl:l.length<=100000)(hi:i<l.length) :
  Calls Tryz.prog 129 #[.p b] w (Abi b te w l i line):=by
 obtain⟨c0,c1,c2,fz,lb⟩:=h.cells;have HX:∀a b,(⟨l.toArray⟩:ByteArray).extract a b=⟨((l.drop a).take (b-a)).toArray⟩:=U4 l;go_in;go_wp2_with (refine wpList_load_row rfl 338 _ rfl 1 rfl tg _ fr _ (alloc_old hg) Tryz.underlying338 rfl z4pa ?_)
 go_loopg [7] 23 (fun k v wr=>∃n:Nat,v=.i n/\n+k=23/\M7.find? (fun p=>I3 (l.drop i) p.1)=(M7.drop n).find? (fun p=>I3 (l.drop i) p.1)/\Sc b te wr l i line/\A8 b w wr/\wr.heap[w.heap.size]?=some (.cells #[.i 0,.i 0,.string ⟨#[]⟩,.i 0] 198))
 case atStart=>exact⟨0,rfl,rfl,rfl,h.keep (Ck _ _ _ lb),(A8.refl _ _).alloc _,Bp _ _⟩
 case round=>
  obtain⟨n,rfl,hnk,hf,hsc,ho,ht⟩:=hrel;obtain⟨x0,x1,x2,x3,fx,lx⟩:=Eo ht;obtain⟨c0,c1,c2,fz,lbr⟩:=hsc.cells;have hne:b≠w.heap.size:=by omega
  by_cases hlt:n<23
  ·have hix:=fun W=>Asg W n hlt;have HF1:=hf.trans (A62 hlt);generalize Yu=sc at *;generalize M7[n]=p at *;have hdr:(l.drop i).take (l.length-i)=l.drop i:=Ot z4ra;cases hp:I3 (l.drop i) p.1
   ·have HF2:Hid (M7.find? (fun p=>I3 (l.drop i) p.1)=(M7.drop (n+1)).find? (fun p=>I3 (l.drop i) p.1)):=by
     exact z45a
    go_wp2;go_quiet ((go_at_call 174;exact Calls.quiet_of_same (Yx hp _)))
    go_wp2;go_roundg (gk-1)
    case measure=>omega
    case rel=>exact⟨n+1,rfl,by omega,HF2.o,hsc.keep (Ck _ _ _ lbr),(ho.alloc _).drewN _,alloc_old ht⟩
   ·have HF2:Hid (M7.find? (fun p=>I3 (l.drop i) p.1)=some p):=by
     exact z45a
    have hpl:i+p.1.length<=l.length:=by
     unfold I3 at hp;simp only[F3,Jg,Qs]at hp;omega
    go_wp2;go_quiet ((go_at_call 174;exact Calls.quiet_of_same (Yx hp _)))
    have HSc5:Sc b te ((wr.alloc (.cells #[.s p.1,.n p.2] 329)).drewN nq) l i line:=hsc.keep (Ck _ _ _ lbr);have Cq:A8 b w ((wr.alloc (.cells #[.s p.1,.n p.2] 329)).drewN nq):=(ho.alloc _).drewN _;have HT5:((wr.alloc (.cells #[.s p.1,.n p.2] 329)).drewN nq).heap[w.heap.size]?=_:=alloc_old ht;have Kf:((wr.alloc (.cells #[.s p.1,.n p.2] 329)).drewN nq).heap[wr.heap.size]?=_:=Bp _ _;generalize ((wr.alloc (.cells #[.s p.1,.n p.2] 329)).drewN nq)=w5 at *;generalize wr.heap.size=pb at *;obtain⟨x0,x1,x2,x3,fx,lx5⟩:=Eo HT5;obtain⟨c0,c1,c2,fz,lb5⟩:=HSc5.cells;obtain⟨y0,y1,fy,ly⟩:=Afo Kf;have hne2:pb≠b:=by omega
    have hne3:pb≠w.heap.size:=by omega
    go_wp2;go_region
    all_goals go_wp2
    all_goals go_region
    all_goals go_wp2
    all_goals
     refine B9 (v:=.tuple #[.agg #[.n p.2,.n line,.string ⟨#[]⟩,.i 0],.bool true]) (by simp[results,Tryz.results129,go_sem,x0,x1,x2,x3]) rfl ?_;exact⟨(A8.Jm (A8.set (p:=⟨b,1,none⟩) Cq (.inl rfl) _) (Af _) _ _ _ _).drew.drew,.inl ⟨p,HF2.o,rfl,(Sc.at HSc5 (i+p.1.length) _ z4ma).keep (Iy z4ma _ _ _ _)⟩⟩
  ·have HF2:Hid (M7.find? (fun p=>I3 (l.drop i) p.1)=none):=by
    show _=_;rw[hf,show n=23 by omega];rfl
   go_wp2;refine B9 (v:=.tuple #[.agg #[.i 0,.i 0,.string ⟨#[]⟩,.i 0],.bool false]) (by simp[results,Tryz.results129,go_sem,x0,x1,x2,x3]) rfl ?_;exact⟨A8.Jm ho (Af _) _ _ _ _,.inr ⟨HF2.o,rfl,hsc.keep (Iy z4ma _ _ _ _)⟩⟩
