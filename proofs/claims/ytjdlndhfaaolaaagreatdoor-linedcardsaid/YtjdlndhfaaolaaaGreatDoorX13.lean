import Derived.Test.YtjdlndhfaaolaaaGreatDoorX12
set_option maxHeartbeats 20000000
namespace Go.Proofs.YtjdlndhfaaolaaaGreatDoor
section
set_option maxRecDepth 100000
open Go.RowKit
def A5v(b te:Nat)(w:World)(l:List UInt8)(i line:Nat)(e:Ending)(w':World):Prop:=
 A5 b w w'/\((∃x,quot false (l.drop (i+1))=some x/\e=.returned (.tuple #[.agg #[.int .i64 3,.int .i64 (line:Nat),.string ⟨x.1.toArray⟩,.int .i64 0],.bool true])/\Sc b te w' l (i+1+x.2) line)\/
  (quot false (l.drop (i+1))=none/\e=.returned (.tuple #[.agg #[.int .i64 0,.int .i64 0,.string ⟨#[]⟩,.int .i64 0],.bool false])/\∃i',Sc b te w' l i' line))
theorem Ahj(l:List UInt8)(k:Nat)(h:k+1<l.length)(hc:l[k]=92)(v:UInt8)(hv:Ke l[k+1]=some v):quot false (l.drop k)=L7 [v] 2 (quot false (l.drop (k+2))):=by
 unfold Ke at hv;split at hv
 ·rename_i h1;simp only[Bool.or_eq_true,beq_iff_eq]at h1;have:=Option.some.inj hv;subst this;rcases h1 with e|e
  ·rw[Yv l k h hc (.inl e),e];rfl
  ·rw[Yv l k h hc (.inr (.inl e)),e];rfl
 ·split at hv
  ·rename_i h2;simp only[beq_iff_eq]at h2;have:=Option.some.inj hv;subst this;rw[Yv l k h hc (.inr (.inr h2)),h2];rfl
  ·cases hv
theorem Ahl(l:List UInt8)(k:Nat)(h:k<l.length)(hc:l[k]=92)(hv:∀h:k+1<l.length,Ke l[k+1]=none):quot false (l.drop k)=none:=by
 by_cases h1:k+1<l.length
 ·have h2:=hv h1;unfold Ke at h2;split at h2
  ·cases h2
  ·split at h2
   ·cases h2
   ·rename_i e1 e2;simp only[Bool.or_eq_true,beq_iff_eq]at e1 e2;exact Ahk l k h1 hc (fun e=>e1 (.inl e)) (fun e=>e1 (.inr e)) e2
 ·exact Ahm l k h hc z4sa
def A5w(b te:Nat)(l:List UInt8)(i line:Nat)(w:World)(k:Nat)(v:Value)(wr:World):Prop:=
 ∃(j:Nat) (acc:List UInt8) (va:Option Addr) (vn vc:Nat),v=.slice va vn vc/\i+1<=j/\j<=l.length/\j+k=l.length/\acc.length<=j/\wr.ownsRow 0 5 1 (.slice va vn vc) acc.length (acc.map Hx)/\(∀g,(Value.slice va vn vc).ownBlock=some g->w.heap.size<g)/\
  quot false (l.drop (i+1))=L7 acc (j-(i+1)) (quot false (l.drop j))/\Sc b te wr l j line/\A5 b w wr/\wr.heap[w.heap.size]?=some (.cells #[.int .i64 0,.int .i64 0,.string ⟨#[]⟩,.int .i64 0] 198)
theorem z5ka {P:Prop} (h:P:=by simp[results,Tryz.results128,go_sem,z0,z1,z2,z3]):P:=h
theorem z0la {P:Prop} (h:P:=by
  have Ch:Sc b te (wr.drewN nq) l j line:=HSc.o.keep rfl;have C6:Hid (A5 b w (wr.drewN nq)):=HO.o.drewN _;have hz5:(wr.drewN nq).heap[w.heap.size]?=some (.cells #[.int .i64 0,.int .i64 0,.string ⟨#[]⟩,.int .i64 0] 198):=HZ.o;have hw5:(wr.drewN nq).ownsRow 0 5 1 (.slice va vn vc) acc.length (acc.map Hx):=hown;clear c0 c1 c2 fz lb HSc HO HZ hown;generalize wr.drewN nq=w5 at *;obtain⟨c0,c1,c2,fz,lb⟩:=Ch.cells;have HSc:=A0 Ch;have HO:=C6;have HZ:=A0 hz5;have hown:=hw5;clear Ch C6 hz5 hw5;obtain⟨z0,z1,z2,z3,fZ,lZ⟩:=Dt HZ.o;go_wp2;refine bodyPost_ret (v:=.tuple #[.agg #[.int .i64 0,.int .i64 0,.string ⟨#[]⟩,.int .i64 0],.bool false]) z5ka rfl ?_;exact⟨A5.Ih HO.o (Nat.le_refl _) _ _ _ _,.inr ⟨HN.o,rfl,_,HSc.o.keep (Hj z4sa _ _ _ _)⟩⟩):P:=h
theorem z2ya {P:Prop} (h:P:=by
  intro k hk;simp only[Value.ownBlock,Option.some.injEq]at hk;rw[←hk];rcases hat with e|e
  ·exact HLo.o g e
  ·have:=A6 HZA.o;omega):P:=h
theorem z61a {P:Prop} (h:P:=by intro u hu;simp at hu;subst hu;rfl):P:=h
theorem z62a {P:Prop} (h:P:=by have:=HLo.o k hk;show k≠b;omega):P:=h
theorem z65a {P:Prop} (h:P:=by first|rfl|(simp[World.setCell];done)|(simp[World.setCell];rfl)):P:=h
theorem Aa8{b te:Nat}{w:World}{l:List UInt8}{i line:Nat}(h:Sc b te w l i line)(hl:l.length<=100000)(hi:i<l.length) :
  Calls Tryz.prog 128 #[.pointer (some ⟨b,0,none⟩)] w (A5v b te w l i line):=by
 obtain⟨c0,c1,c2,fz,lb⟩:=h.cells;have HSc0:=A0 h;have hlb:=lb;clear h;go_enter Tryz.func128,Tryz.ntmps128;go_wp2;go_loopg [4] (l.length-(i+1)) (fun k v wr=>A5w b te l i line w k v wr)
 case atStart=>
  refine⟨i+1,[],none,0,0,rfl,Nat.le_refl _,by omega,by omega,by simp,World.ownsRow_nil _ _ _ _,(fun g hg=>by simp[Value.ownBlock]at hg),?_,?_,?_,?_⟩
  ·rw[Nat.sub_self];cases quot false (l.drop (i+1)) <;> simp[L7]
  ·exact(Sc.at HSc0.o (i+1) _ z4sa).keep (Below.heap_alloc _ _ _ (by simp[World.setCell];exact lb))
  ·exact(A5.set (p:=⟨b,1,none⟩) (A5.refl b w) (.inl rfl) _).alloc _
  ·have:=heap_alloc_new (w.setCell ⟨b,1,none⟩ (.int .i64 ((i:Int)+1))) (.cells #[.int .i64 0,.int .i64 0,.string ⟨#[]⟩,.int .i64 0] 198);simpa [World.setCell]using this
 case round=>
  clear c0 c1 c2 fz lb HSc0;obtain⟨j,acc,va,vn,vc,rfl,hij,hjl,hjk,hacc,hown,hlo,hq,hsc,ho,hz⟩:=hrel;obtain⟨c0,c1,c2,fz,lb⟩:=hsc.cells;have HSc:=A0 hsc;have HO:=A0 ho;have HZ:=A0 hz;have HQ:=A0 hq;have HLo:=A0 hlo;clear hq hsc ho hz hlo;have hbw:b<w.heap.size:=hlb;by_cases hlt:j<l.length
  ·have hE:∀h,((⟨l.toArray⟩:ByteArray)[j]'h)=l[j]:=fun h=>P5 l j h;cases hp:I4 l[j]
   ·have HN:Hid (quot false (l.drop (i+1))=none):=by show _=_;rw[HQ.o,Ahh l j hlt hp];rfl
    go_wp2;go_quiet ((go_at_call 180;exact Calls.quiet_of_same (P7 hp _)))
    exact z0la
   ·by_cases h34:l[j]=34
    ·have t34:((l[j].toNat:Int)==34)=true:=Mu (d:=34) rfl h34;have HN:Hid (quot false (l.drop (i+1))=some (acc,j-(i+1)+1)):=by
      show _=_;rw[HQ.o,Ahi l j hlt h34];simp[L7]
     clear h34;go_wp2;go_quiet ((go_at_call 180;exact Calls.quiet_of_same (P7 hp _)))
     have Ch:Sc b te (wr.drewN nq) l j line:=HSc.o.keep rfl;have C6:Hid (A5 b w (wr.drewN nq)):=HO.o.drewN _;have hz5:(wr.drewN nq).heap[w.heap.size]?=some (.cells #[.int .i64 0,.int .i64 0,.string ⟨#[]⟩,.int .i64 0] 198):=HZ.o;have hw5:(wr.drewN nq).ownsRow 0 5 1 (.slice va vn vc) acc.length (acc.map Hx):=hown;clear c0 c1 c2 fz lb HSc HO HZ hown;generalize wr.drewN nq=w5 at *;obtain⟨c0,c1,c2,fz,lb⟩:=Ch.cells;have HSc:=A0 Ch;have HO:=C6;have HZ:=A0 hz5;have hown:=hw5;clear Ch C6 hz5 hw5;go_wp2;go_quiet (fail)
     have Dy:Sc b te (w5.drewN nq) l j line:=HSc.o.keep rfl;have D9:Hid (A5 b w (w5.drewN nq)):=HO.o.drewN _;have hz6:(w5.drewN nq).heap[w.heap.size]?=some (.cells #[.int .i64 0,.int .i64 0,.string ⟨#[]⟩,.int .i64 0] 198):=HZ.o;have hw6:(w5.drewN nq).ownsRow 0 5 1 (.slice va vn vc) acc.length (acc.map Hx):=hown;clear c0 c1 c2 fz lb HSc HO HZ hown;generalize w5.drewN nq=w6 at *;obtain⟨c0,c1,c2,fz,lb⟩:=Dy.cells;have HSc:=A0 Dy;have HO:=D9;have HZ:=A0 hz6;have hown:=hw6;clear Dy D9 hz6 hw6;have hSA:Sc b te (w6.setCell ⟨b,1,none⟩ (.int .i64 ((j:Int)+1))) l (j+1) line:=HSc.o.at (j+1) _ z4sa;have HScA:=A0 hSA;have HOA:Hid (A5 b w (w6.setCell ⟨b,1,none⟩ (.int .i64 ((j:Int)+1)))):=A5.set (p:=⟨b,1,none⟩) HO.o (.inl rfl) _;have HZA:Hid ((w6.setCell ⟨b,1,none⟩ (.int .i64 ((j:Int)+1))).heap[w.heap.size]?=some (.cells #[.int .i64 0,.int .i64 0,.string ⟨#[]⟩,.int .i64 0] 198)):=(Below.heap_setCell _ _ _ _ (by show w.heap.size≠b;omega)).trans HZ.o;have hownA:(w6.setCell ⟨b,1,none⟩ (.int .i64 ((j:Int)+1))).ownsRow 0 5 1 (.slice va vn vc) acc.length (acc.map Hx):=B2 hown (fun k hk _=>Below.heap_setCell _ _ _ _ z62a);clear hown;go_wp2;clear c0 c1 c2 fz lb HSc HO HZ;generalize w6.setCell ⟨b,1,none⟩ (.int .i64 ((j:Int)+1))=wB at *;obtain⟨c0,c1,c2,fz,lb⟩:=hSA.cells;have hcv:=r7 (w:=wB.drew) hownA;obtain⟨z0,z1,z2,z3,fZ,lZ⟩:=Dt HZA.o;have hbz:b≠w.heap.size:=by omega
     clear hSA hownA;go_region
     all_goals go_wp2
     all_goals
      refine bodyPost_ret (v:=.tuple #[.agg #[.int .i64 3,.int .i64 (line:Nat),.string ⟨acc.toArray⟩,.int .i64 0],.bool true]) z5ka rfl ?_;refine⟨A5.Ih HOA.o.drew (Nat.le_refl _) _ _ _ _,.inl ⟨_,HN.o,rfl,?_⟩⟩;have:=HScA.o.keep (w':=(((wB.drew.setCell ⟨w.heap.size,0,none⟩ (.int .i64 3)).setCell ⟨w.heap.size,1,none⟩ (.int .i64 (line:Nat))).setCell ⟨w.heap.size,2,none⟩ (.string ⟨acc.toArray⟩)).setCell ⟨w.heap.size,3,none⟩ (.int .i64 0)) (Hj (w:=wB.drew) (g:=w.heap.size) (k:=b) z4sa (.int .i64 3) (.int .i64 (line:Nat)) (.string ⟨acc.toArray⟩) (.int .i64 0));rw[show i+1+(j-(i+1)+1)=j+1 by omega];exact this
    ·have t34:((l[j].toNat:Int)==34)=false:=Kz (d:=34) rfl h34;by_cases h92:l[j]=92
     ·have t92:((l[j].toNat:Int)==92)=true:=Mu (d:=92) rfl h92;have HE2:=A0 (fun h v hv=>Ahj l j h h92 v hv);have HEN:=A0 (fun hv=>Ahl l j hlt h92 hv);clear h34 h92;go_wp2;go_quiet ((go_at_call 180;exact Calls.quiet_of_same (P7 hp _)))
      have Ch:Sc b te (wr.drewN nq) l j line:=HSc.o.keep rfl;have C6:Hid (A5 b w (wr.drewN nq)):=HO.o.drewN _;have hz5:(wr.drewN nq).heap[w.heap.size]?=some (.cells #[.int .i64 0,.int .i64 0,.string ⟨#[]⟩,.int .i64 0] 198):=HZ.o;have hw5:(wr.drewN nq).ownsRow 0 5 1 (.slice va vn vc) acc.length (acc.map Hx):=hown;clear c0 c1 c2 fz lb HSc HO HZ hown;generalize wr.drewN nq=w5 at *;obtain⟨c0,c1,c2,fz,lb⟩:=Ch.cells;have HSc:=A0 Ch;have HO:=C6;have HZ:=A0 hz5;have hown:=hw5;clear Ch C6 hz5 hw5;go_wp2;go_quiet (fail)
      have Dy:Sc b te (w5.drewN nq) l j line:=HSc.o.keep rfl;have D9:Hid (A5 b w (w5.drewN nq)):=HO.o.drewN _;have hz6:(w5.drewN nq).heap[w.heap.size]?=some (.cells #[.int .i64 0,.int .i64 0,.string ⟨#[]⟩,.int .i64 0] 198):=HZ.o;have hw6:(w5.drewN nq).ownsRow 0 5 1 (.slice va vn vc) acc.length (acc.map Hx):=hown;clear c0 c1 c2 fz lb HSc HO HZ hown;generalize w5.drewN nq=w6 at *;obtain⟨c0,c1,c2,fz,lb⟩:=Dy.cells;have HSc:=A0 Dy;have HO:=D9;have HZ:=A0 hz6;have hown:=hw6;clear Dy D9 hz6 hw6;have hSA:Sc b te (w6.setCell ⟨b,1,none⟩ (.int .i64 ((j:Int)+1))) l (j+1) line:=HSc.o.at (j+1) _ z4sa;have HScA:=A0 hSA;have HOA:Hid (A5 b w (w6.setCell ⟨b,1,none⟩ (.int .i64 ((j:Int)+1)))):=A5.set (p:=⟨b,1,none⟩) HO.o (.inl rfl) _;have HZA:Hid ((w6.setCell ⟨b,1,none⟩ (.int .i64 ((j:Int)+1))).heap[w.heap.size]?=some (.cells #[.int .i64 0,.int .i64 0,.string ⟨#[]⟩,.int .i64 0] 198)):=(Below.heap_setCell _ _ _ _ (by show w.heap.size≠b;omega)).trans HZ.o;have hownA:(w6.setCell ⟨b,1,none⟩ (.int .i64 ((j:Int)+1))).ownsRow 0 5 1 (.slice va vn vc) acc.length (acc.map Hx):=B2 hown (fun k hk _=>Below.heap_setCell _ _ _ _ z62a);clear hown;go_wp2_with fail
      refine(Acf hSA hl z4sa).mono ?_;rintro e w9 hpost;clear hSA c0 c1 c2 fz lb HSc HO HZ;rcases hpost with⟨hj1,v,hv,rfl,F7,ho9⟩|⟨hv,rfl,⟨i',F7⟩,ho9⟩
      ·have HN:Hid (quot false (l.drop (i+1))=L7 (acc++[v]) (j+2-(i+1)) (quot false (l.drop (j+2)))):=by
        show _=_;rw[HQ.o,HE2.o hj1 v hv,A35,show j-(i+1)+2=j+2-(i+1) by omega]
       have hown9:=B2 hownA (fun k hk hl=>ho9.block k hl (by have:=HLo.o k hk;omega));have hz9:=ho9.blk HZA.o z4sa;replace HOA:Hid (A5 b w w9):=HOA.o.trans ho9;replace HScA:=A0 F7;replace HZA:=A0 hz9;replace hownA:=hown9;have hbyte:Value.int .u8 v.toNat=Hx v:=rfl;clear F7 ho9 hz9 hown9 hv hbyte;go_wp2_with (at_builtin;refine Ju (w9) #[Hx (v)] 5 rfl (.tmp 71) (.tmp 73) 85 rfl 0 1 1 (.int .u8 0) Tryz.underlying85 Nq rfl z4sa _ _ _ rfl z65a hownA rfl z61a z4sa z4sa (Nat.zero_le _) ?_;intro g cap1 wA Es hgrow hat hg)
       replace hgrow:(w9).grownBy wA (Value.slice va vn vc).ownBlock:=hgrow;replace hat:(Value.slice va vn vc).ownBlock=some g\/g=(w9).heap.size+1:=hat;go_roundg (gk-2)
       case measure=>omega
       case rel=>
        refine⟨j+2,acc++[v],some ⟨g,0,none⟩,acc.length+1,cap1,rfl,by omega,by omega,by omega,by simp;omega,by simpa using Es,?_,HN.o,HScA.o.keep (hgrow.block b (A6 HScA.o) (fun e=>by have:=HLo.o b e.symm;omega)),HOA.o.grown hgrow (fun k e=>.inr (by have:=HLo.o k e;omega)),(hgrow.block _ (A6 HZA.o) (fun e=>by have:=HLo.o _ e.symm;omega)).trans HZA.o⟩;exact z2ya
      ·have HN:Hid (quot false (l.drop (i+1))=none):=by show _=_;rw[HQ.o,HEN.o hv];rfl
       have HZ:=A0 (ho9.blk HZA.o z4sa);have HO:Hid (A5 b w w9):=HOA.o.trans ho9;have HSc:=A0 F7;clear F7 ho9 hv hownA HZA HOA HScA;obtain⟨z0,z1,z2,z3,fZ,lZ⟩:=Dt HZ.o;go_wp2;refine bodyPost_ret (v:=.tuple #[.agg #[.int .i64 0,.int .i64 0,.string ⟨#[]⟩,.int .i64 0],.bool false]) z5ka rfl ?_;exact⟨A5.Ih HO.o (Nat.le_refl _) _ _ _ _,.inr ⟨HN.o,rfl,_,HSc.o.keep (Hj z4sa _ _ _ _)⟩⟩
     ·have t92:((l[j].toNat:Int)==92)=false:=Kz (d:=92) rfl h92;have HN:Hid (quot false (l.drop (i+1))=L7 (acc++[l[j]]) (j+1-(i+1)) (quot false (l.drop (j+1)))):=by
       show _=_;rw[HQ.o,Ahp l j hlt hp h34 h92,A35,show j-(i+1)+1=j+1-(i+1) by omega]
      clear h34 h92;go_wp2;go_quiet ((go_at_call 180;exact Calls.quiet_of_same (P7 hp _)))
      have Ch:Sc b te (wr.drewN nq) l j line:=HSc.o.keep rfl;have C6:Hid (A5 b w (wr.drewN nq)):=HO.o.drewN _;have hz5:(wr.drewN nq).heap[w.heap.size]?=some (.cells #[.int .i64 0,.int .i64 0,.string ⟨#[]⟩,.int .i64 0] 198):=HZ.o;have hw5:(wr.drewN nq).ownsRow 0 5 1 (.slice va vn vc) acc.length (acc.map Hx):=hown;clear c0 c1 c2 fz lb HSc HO HZ hown;generalize wr.drewN nq=w5 at *;obtain⟨c0,c1,c2,fz,lb⟩:=Ch.cells;have HSc:=A0 Ch;have HO:=C6;have HZ:=A0 hz5;have hown:=hw5;clear Ch C6 hz5 hw5;go_wp2;go_quiet (fail)
      have Dy:Sc b te (w5.drewN nq) l j line:=HSc.o.keep rfl;have D9:Hid (A5 b w (w5.drewN nq)):=HO.o.drewN _;have hz6:(w5.drewN nq).heap[w.heap.size]?=some (.cells #[.int .i64 0,.int .i64 0,.string ⟨#[]⟩,.int .i64 0] 198):=HZ.o;have hw6:(w5.drewN nq).ownsRow 0 5 1 (.slice va vn vc) acc.length (acc.map Hx):=hown;clear c0 c1 c2 fz lb HSc HO HZ hown;generalize w5.drewN nq=w6 at *;obtain⟨c0,c1,c2,fz,lb⟩:=Dy.cells;have HSc:=A0 Dy;have HO:=D9;have HZ:=A0 hz6;have hown:=hw6;clear Dy D9 hz6 hw6;have hSA:Sc b te (w6.setCell ⟨b,1,none⟩ (.int .i64 ((j:Int)+1))) l (j+1) line:=HSc.o.at (j+1) _ z4sa;have HScA:=A0 hSA;have HOA:Hid (A5 b w (w6.setCell ⟨b,1,none⟩ (.int .i64 ((j:Int)+1)))):=A5.set (p:=⟨b,1,none⟩) HO.o (.inl rfl) _;have HZA:Hid ((w6.setCell ⟨b,1,none⟩ (.int .i64 ((j:Int)+1))).heap[w.heap.size]?=some (.cells #[.int .i64 0,.int .i64 0,.string ⟨#[]⟩,.int .i64 0] 198)):=(Below.heap_setCell _ _ _ _ (by show w.heap.size≠b;omega)).trans HZ.o;have hownA:(w6.setCell ⟨b,1,none⟩ (.int .i64 ((j:Int)+1))).ownsRow 0 5 1 (.slice va vn vc) acc.length (acc.map Hx):=B2 hown (fun k hk _=>Below.heap_setCell _ _ _ _ z62a);clear hown hSA;go_wp2_with (at_builtin;refine Ju (w6.setCell ⟨b,1,none⟩ (.int .i64 ((j:Int)+1))) #[Hx (l[j])] 5 rfl (.tmp 71) (.tmp 73) 85 rfl 0 1 1 (.int .u8 0) Tryz.underlying85 Nq rfl z4sa _ _ _ rfl z65a hownA rfl z61a z4sa z4sa (Nat.zero_le _) ?_;intro g cap1 wA Es hgrow hat hg)
      replace hgrow:(w6.setCell ⟨b,1,none⟩ (.int .i64 ((j:Int)+1))).grownBy wA (Value.slice va vn vc).ownBlock:=hgrow;replace hat:(Value.slice va vn vc).ownBlock=some g\/g=(w6.setCell ⟨b,1,none⟩ (.int .i64 ((j:Int)+1))).heap.size+1:=hat;go_roundg (gk-1)
      case measure=>omega
      case rel=>
       refine⟨j+1,acc++[l[j]],some ⟨g,0,none⟩,acc.length+1,cap1,rfl,by omega,by omega,by omega,by simp;omega,by simpa using Es,?_,HN.o,HScA.o.keep (hgrow.block b (A6 HScA.o) (fun e=>by have:=HLo.o b e.symm;omega)),HOA.o.grown hgrow (fun k e=>.inr (by have:=HLo.o k e;omega)),(hgrow.block _ (A6 HZA.o) (fun e=>by have:=HLo.o _ e.symm;omega)).trans HZA.o⟩;exact z2ya
  ·have HN:Hid (quot false (l.drop (i+1))=none):=by show _=_;rw[HQ.o,Aho l j z4sa];rfl
   go_wp2;go_quiet (fail)
   exact z0la
def K7:List (List UInt8×Nat):=[([61,61],27),([33,61],29),([60,61],31),([62,61],33),([38,38],39),([124,124],40),([40],18),([41],19),([123],20),([125],21),([91],22),([93],23),([44],24),([59],25),([61],26),([33],28),([60],30),([62],32),([43],34),([45],35),([42],36),([47],37),([37],38)]
def Za:List (List UInt8×Nat)->List Value
 | []=>[]
 | x::r=>.string ⟨x.1.toArray⟩::.int .i64 (x.2:Nat)::Za r
def Up:Array Value:=(Za K7).toArray
theorem Ak9(w:World):∀n (h:n<23),(Instr.index 338 (.agg Up) (.int .i64 (n:Nat))).run Tryz.prog w=.ok (.agg #[.string ⟨(K7[n]'h).1.toArray⟩,.int .i64 ((K7[n]'h).2:Nat)]) w
 | 0,_=>by kernel_rfl
 | 1,_=>by kernel_rfl
 | 2,_=>by kernel_rfl
 | 3,_=>by kernel_rfl
 | 4,_=>by kernel_rfl
 | 5,_=>by kernel_rfl
 | 6,_=>by kernel_rfl
 | 7,_=>by kernel_rfl
 | 8,_=>by kernel_rfl
 | 9,_=>by kernel_rfl
 | 10,_=>by kernel_rfl
 | 11,_=>by kernel_rfl
 | 12,_=>by kernel_rfl
 | 13,_=>by kernel_rfl
 | 14,_=>by kernel_rfl
 | 15,_=>by kernel_rfl
 | 16,_=>by kernel_rfl
 | 17,_=>by kernel_rfl
 | 18,_=>by kernel_rfl
 | 19,_=>by kernel_rfl
 | 20,_=>by kernel_rfl
 | 21,_=>by kernel_rfl
 | 22,_=>by kernel_rfl
 | n+23,h=>absurd h z4sa
theorem A0o{α:Type}{p:α->Bool}{l:List α}{n:Nat}(hn:n<l.length):(l.drop n).find? p=if p l[n] then some l[n] else(l.drop (n+1)).find? p:=by
 rw[List.drop_eq_getElem_cons hn,List.find?_cons];cases p l[n] <;> rfl
def A60(b te:Nat)(w:World)(l:List UInt8)(i line:Nat)(e:Ending)(w':World):Prop:=
 A5 b w w'/\((∃p,K7.find? (fun p=>Gk (l.drop i) p.1)=some p/\e=.returned (.tuple #[.agg #[.int .i64 (p.2:Nat),.int .i64 (line:Nat),.string ⟨#[]⟩,.int .i64 0],.bool true])/\Sc b te w' l (i+p.1.length) line)\/
  (K7.find? (fun p=>Gk (l.drop i) p.1)=none/\e=.returned (.tuple #[.agg #[.int .i64 0,.int .i64 0,.string ⟨#[]⟩,.int .i64 0],.bool false])/\Sc b te w' l i line))
theorem A96{w:World}{g:Nat}{a0 a1:Value}{t:TypeId}(h:w.heap[g]?=some (.cells #[a0,a1] t (0,0))) :
  w.cell? ⟨g,0,none⟩=some a0/\w.cell? ⟨g,1,none⟩=some a1/\(∀o,w.frozen? ⟨g,o,none⟩=false)/\g<w.heap.size:=
 ⟨A7 h 0 _ rfl,A7 h 1 _ rfl,Ci h,A6 h⟩
theorem z3ya {P:Prop} (h:P:=by
  show _=_;rw[HF1.o];simp only[hp];rfl):P:=h
theorem z4va {P:Prop} (h:P:=by kernel_rfl):P:=h
theorem Aa9{b te tg:Nat}{fr:Nat×Nat}{w:World}{l:List UInt8}{i line:Nat}(h:Sc b te w l i line)(hg:w.heap[1]?=some (.cells Up tg fr))(hl:l.length<=100000)(hi:i<l.length) :
  Calls Tryz.prog 129 #[.pointer (some ⟨b,0,none⟩)] w (A60 b te w l i line):=by
 obtain⟨c0,c1,c2,fz,lb⟩:=h.cells;have HSc0:=A0 h;have HX:∀a b,(⟨l.toArray⟩:ByteArray).extract a b=⟨((l.drop a).take (b-a)).toArray⟩:=Qa l;go_enter Tryz.func129,Tryz.ntmps129;go_wp2_with (refine wpList_load_row rfl 338 _ rfl 1 rfl tg _ fr _ (alloc_old hg) Tryz.underlying338 rfl z4va ?_)
 clear c0 c1 c2 fz hg h;go_loopg [7] 23 (fun k v wr=>∃n:Nat,v=.int .i64 n/\n+k=23/\K7.find? (fun p=>Gk (l.drop i) p.1)=(K7.drop n).find? (fun p=>Gk (l.drop i) p.1)/\Sc b te wr l i line/\A5 b w wr/\wr.heap[w.heap.size]?=some (.cells #[.int .i64 0,.int .i64 0,.string ⟨#[]⟩,.int .i64 0] 198))
 case atStart=>exact⟨0,rfl,rfl,rfl,HSc0.o.keep (Below.heap_alloc _ _ _ lb),(A5.refl _ _).alloc _,heap_alloc_new _ _⟩
 case round=>
  clear HSc0;obtain⟨n,rfl,hnk,hf,hsc,ho,ht⟩:=hrel;have HF:=A0 hf;have HSc:=A0 hsc;have HO:=A0 ho;have HT:=A0 ht;obtain⟨x0,x1,x2,x3,fx,lx⟩:=Dt ht;obtain⟨c0,c1,c2,fz,lbr⟩:=hsc.cells;have hne:b≠w.heap.size:=by omega
  clear hf hsc ho ht;by_cases hlt:n<23
  ·have hix:=fun W=>Ak9 W n hlt;have HF1:=A0 (HF.o.trans (A0o hlt));generalize Up=sc at *;generalize K7[n]=p at *;clear HF;have hdr:(l.drop i).take (l.length-i)=l.drop i:=List.take_of_length_le z4wa;cases hp:Gk (l.drop i) p.1
   ·have HF2:Hid (K7.find? (fun p=>Gk (l.drop i) p.1)=(K7.drop (n+1)).find? (fun p=>Gk (l.drop i) p.1)):=by
     exact z3ya
    clear HF1;go_wp2;go_quiet ((go_at_call 174;exact Calls.quiet_of_same (Us hp _)))
    go_wp2;go_roundg (gk-1)
    case measure=>omega
    case rel=>exact⟨n+1,rfl,by omega,HF2.o,HSc.o.keep (Below.heap_alloc _ _ _ lbr),(HO.o.alloc _).drewN _,alloc_old HT.o⟩
   ·have HF2:Hid (K7.find? (fun p=>Gk (l.drop i) p.1)=some p):=by
     exact z3ya
    have hpl:i+p.1.length<=l.length:=by
     unfold Gk at hp;simp only[Bool.and_eq_true,decide_eq_true_eq,List.length_drop]at hp;omega
    clear HF1;go_wp2;go_quiet ((go_at_call 174;exact Calls.quiet_of_same (Us hp _)))
    have HSc5:Hid (Sc b te ((wr.alloc (.cells #[.string ⟨p.1.toArray⟩,.int .i64 (p.2:Nat)] 329)).drewN nq) l i line):=HSc.o.keep (Below.heap_alloc _ _ _ lbr);have C6:Hid (A5 b w ((wr.alloc (.cells #[.string ⟨p.1.toArray⟩,.int .i64 (p.2:Nat)] 329)).drewN nq)):=(HO.o.alloc _).drewN _;have HT5:Hid (((wr.alloc (.cells #[.string ⟨p.1.toArray⟩,.int .i64 (p.2:Nat)] 329)).drewN nq).heap[w.heap.size]?=_):=alloc_old HT.o;have Ep:Hid (((wr.alloc (.cells #[.string ⟨p.1.toArray⟩,.int .i64 (p.2:Nat)] 329)).drewN nq).heap[wr.heap.size]?=_):=heap_alloc_new _ _;generalize ((wr.alloc (.cells #[.string ⟨p.1.toArray⟩,.int .i64 (p.2:Nat)] 329)).drewN nq)=w5 at *;generalize wr.heap.size=pb at *;clear x0 x1 x2 x3 fx c0 c1 c2 fz HSc HO HT;obtain⟨x0,x1,x2,x3,fx,lx5⟩:=Dt HT5.o;obtain⟨c0,c1,c2,fz,lb5⟩:=HSc5.o.cells;obtain⟨y0,y1,fy,ly⟩:=A96 Ep.o;have hne2:pb≠b:=by omega
    have hne3:pb≠w.heap.size:=by omega
    go_wp2;go_region
    all_goals go_wp2
    all_goals go_region
    all_goals go_wp2
    all_goals
     refine bodyPost_ret (v:=.tuple #[.agg #[.int .i64 (p.2:Nat),.int .i64 (line:Nat),.string ⟨#[]⟩,.int .i64 0],.bool true]) (by simp[results,Tryz.results129,go_sem,x0,x1,x2,x3]) rfl ?_;exact⟨(A5.Ih (A5.set (p:=⟨b,1,none⟩) C6.o (.inl rfl) _) (Nat.le_refl _) _ _ _ _).drew.drew,.inl ⟨p,HF2.o,rfl,(Sc.at HSc5.o (i+p.1.length) _ z4sa).keep (Hj z4sa _ _ _ _)⟩⟩
  ·have HF2:Hid (K7.find? (fun p=>Gk (l.drop i) p.1)=none):=by
    show _=_;rw[HF.o,show n=23 by omega];rfl
   go_wp2;refine bodyPost_ret (v:=.tuple #[.agg #[.int .i64 0,.int .i64 0,.string ⟨#[]⟩,.int .i64 0],.bool false]) (by simp[results,Tryz.results129,go_sem,x0,x1,x2,x3]) rfl ?_;exact⟨A5.Ih HO.o (Nat.le_refl _) _ _ _ _,.inr ⟨HF2.o,rfl,HSc.o.keep (Hj z4sa _ _ _ _)⟩⟩
end
end Go.Proofs.YtjdlndhfaaolaaaGreatDoor
