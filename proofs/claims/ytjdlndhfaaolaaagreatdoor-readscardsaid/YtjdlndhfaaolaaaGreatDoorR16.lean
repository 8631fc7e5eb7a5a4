import Derived.Test.YtjdlndhfaaolaaaGreatDoorR15
set_option maxHeartbeats 20000000
namespace Go.Proofs.YtjdlndhfaaolaaaGreatDoor
section
set_option maxRecDepth 100000
open Go.RowKit
def A19(b te:Nat)(w:World)(l:List UInt8)(i line:Nat)(e:Ending)(w':World):Prop:=
 A1 b w w'/\((∃x,quot false (l.drop (i+1))=some x/\e=.returned (.tuple #[.agg #[.int .i64 3,.int .i64 (line:Nat),.string ⟨x.1.toArray⟩,.int .i64 0],.bool true])/\Sc b te w' l (i+1+x.2) line)\/
  (quot false (l.drop (i+1))=none/\e=.returned (.tuple #[.agg #[.int .i64 0,.int .i64 0,.string ⟨#[]⟩,.int .i64 0],.bool false])/\∃i',Sc b te w' l i' line))
theorem A99(l:List UInt8)(k:Nat)(h:k+1<l.length)(hc:l[k]=92)(v:UInt8)(hv:Li l[k+1]=some v):quot false (l.drop k)=Kg [v] 2 (quot false (l.drop (k+2))):=by
 unfold Li at hv;split at hv
 ·rename_i h1;simp only[Bool.or_eq_true,beq_iff_eq]at h1;have:=Option.some.inj hv;subst this;rcases h1 with e|e
  ·rw[R4 l k h hc (.inl e),e];rfl
  ·rw[R4 l k h hc (.inr (.inl e)),e];rfl
 ·split at hv
  ·rename_i h2;simp only[beq_iff_eq]at h2;have:=Option.some.inj hv;subst this;rw[R4 l k h hc (.inr (.inr h2)),h2];rfl
  ·cases hv
theorem A9a(l:List UInt8)(k:Nat)(h:k<l.length)(hc:l[k]=92)(hv:∀h:k+1<l.length,Li l[k+1]=none):quot false (l.drop k)=none:=by
 by_cases h1:k+1<l.length
 ·have h2:=hv h1;unfold Li at h2;split at h2
  ·cases h2
  ·split at h2
   ·cases h2
   ·rename_i e1 e2;simp only[Bool.or_eq_true,beq_iff_eq]at e1 e2;exact j6 l k h1 hc (fun e=>e1 (.inl e)) (fun e=>e1 (.inr e)) e2
 ·exact j7 l k h hc (by omega)
def A1a(b te:Nat)(l:List UInt8)(i line:Nat)(w:World)(k:Nat)(v:Value)(wr:World):Prop:=
 ∃(j:Nat) (acc:List UInt8) (va:Option Addr) (vn vc:Nat),v=.slice va vn vc/\i+1<=j/\j<=l.length/\j+k=l.length/\acc.length<=j/\wr.ownsRow 0 5 1 (.slice va vn vc) acc.length (acc.map Jj)/\(∀g,(Value.slice va vn vc).ownBlock=some g->w.heap.size<g)/\
  quot false (l.drop (i+1))=Kg acc (j-(i+1)) (quot false (l.drop j))/\Sc b te wr l j line/\A1 b w wr/\wr.heap[w.heap.size]?=some (.cells #[.int .i64 0,.int .i64 0,.string ⟨#[]⟩,.int .i64 0] 198)
theorem A3v{b te:Nat}{w:World}{l:List UInt8}{i line:Nat}(h:Sc b te w l i line)(hl:l.length<=100000)(hi:i<l.length) :
  Calls Tryz.prog 128 #[.pointer (some ⟨b,0,none⟩)] w (A19 b te w l i line):=by
 obtain⟨c0,c1,c2,fz,lb⟩:=h.cells;have HSc0:=A0 h;have hlb:=lb;clear h;go_enter Tryz.func128,Tryz.ntmps128;go_wp2;go_loopg [4] (l.length-(i+1)) (fun k v wr=>A1a b te l i line w k v wr)
 case atStart=>
  refine⟨i+1,[],none,0,0,rfl,Nat.le_refl _,by omega,by omega,by simp,World.ownsRow_nil _ _ _ _,(fun g hg=>by simp[Value.ownBlock]at hg),?_,?_,?_,?_⟩
  ·rw[Nat.sub_self];cases quot false (l.drop (i+1)) <;> simp[Kg]
  ·exact(Sc.at HSc0.o (i+1) _ (by omega)).keep (Below.heap_alloc _ _ _ (by simp[World.setCell];exact lb))
  ·exact(A1.set (p:=⟨b,1,none⟩) (A1.refl b w) (.inl rfl) _).alloc _
  ·have:=heap_alloc_new (w.setCell ⟨b,1,none⟩ (.int .i64 ((i:Int)+1))) (.cells #[.int .i64 0,.int .i64 0,.string ⟨#[]⟩,.int .i64 0] 198);simpa [World.setCell]using this
 case round=>
  clear c0 c1 c2 fz lb HSc0;obtain⟨j,acc,va,vn,vc,rfl,hij,hjl,hjk,hacc,hown,hlo,hq,hsc,ho,hz⟩:=hrel;obtain⟨c0,c1,c2,fz,lb⟩:=hsc.cells;have HSc:=A0 hsc;have HO:=A0 ho;have HZ:=A0 hz;have HQ:=A0 hq;have HLo:=A0 hlo;clear hq hsc ho hz hlo;have hbw:b<w.heap.size:=hlb;by_cases hlt:j<l.length
  ·have hE:∀h,((⟨l.toArray⟩:ByteArray)[j]'h)=l[j]:=fun h=>L3 l j h;cases hp:Ez l[j]
   ·have HN:Hid (quot false (l.drop (i+1))=none):=by show _=_;rw[HQ.o,Vx l j hlt hp];rfl
    go_wp2;go_quiet ((go_at_call 180;exact Calls.quiet_of_same (Pe hp _)))
    have C0:Sc b te (wr.drewN nq) l j line:=HSc.o.keep rfl;have B9:Hid (A1 b w (wr.drewN nq)):=HO.o.drewN _;have hz5:(wr.drewN nq).heap[w.heap.size]?=some (.cells #[.int .i64 0,.int .i64 0,.string ⟨#[]⟩,.int .i64 0] 198):=HZ.o;have hw5:(wr.drewN nq).ownsRow 0 5 1 (.slice va vn vc) acc.length (acc.map Jj):=hown;clear c0 c1 c2 fz lb HSc HO HZ hown;generalize wr.drewN nq=w5 at *;obtain⟨c0,c1,c2,fz,lb⟩:=C0.cells;have HSc:=A0 C0;have HO:=B9;have HZ:=A0 hz5;have hown:=hw5;clear C0 B9 hz5 hw5;obtain⟨z0,z1,z2,z3,fZ,lZ⟩:=Ci HZ.o;go_wp2;refine bodyPost_ret (v:=.tuple #[.agg #[.int .i64 0,.int .i64 0,.string ⟨#[]⟩,.int .i64 0],.bool false]) (by simp[results,Tryz.results128,go_sem,z0,z1,z2,z3]) rfl ?_;exact⟨A1.Hp HO.o (Nat.le_refl _) _ _ _ _,.inr ⟨HN.o,rfl,_,HSc.o.keep (Hq (by omega) _ _ _ _)⟩⟩
   ·by_cases h34:l[j]=34
    ·have t34:((l[j].toNat:Int)==34)=true:=Km (d:=34) rfl h34;have HN:Hid (quot false (l.drop (i+1))=some (acc,j-(i+1)+1)):=by
      show _=_;rw[HQ.o,b9 l j hlt h34];simp[Kg]
     clear h34;go_wp2;go_quiet ((go_at_call 180;exact Calls.quiet_of_same (Pe hp _)))
     have C0:Sc b te (wr.drewN nq) l j line:=HSc.o.keep rfl;have B9:Hid (A1 b w (wr.drewN nq)):=HO.o.drewN _;have hz5:(wr.drewN nq).heap[w.heap.size]?=some (.cells #[.int .i64 0,.int .i64 0,.string ⟨#[]⟩,.int .i64 0] 198):=HZ.o;have hw5:(wr.drewN nq).ownsRow 0 5 1 (.slice va vn vc) acc.length (acc.map Jj):=hown;clear c0 c1 c2 fz lb HSc HO HZ hown;generalize wr.drewN nq=w5 at *;obtain⟨c0,c1,c2,fz,lb⟩:=C0.cells;have HSc:=A0 C0;have HO:=B9;have HZ:=A0 hz5;have hown:=hw5;clear C0 B9 hz5 hw5;go_wp2;go_quiet (fail)
     have E5:Sc b te (w5.drewN nq) l j line:=HSc.o.keep rfl;have Bn:Hid (A1 b w (w5.drewN nq)):=HO.o.drewN _;have hz6:(w5.drewN nq).heap[w.heap.size]?=some (.cells #[.int .i64 0,.int .i64 0,.string ⟨#[]⟩,.int .i64 0] 198):=HZ.o;have hw6:(w5.drewN nq).ownsRow 0 5 1 (.slice va vn vc) acc.length (acc.map Jj):=hown;clear c0 c1 c2 fz lb HSc HO HZ hown;generalize w5.drewN nq=w6 at *;obtain⟨c0,c1,c2,fz,lb⟩:=E5.cells;have HSc:=A0 E5;have HO:=Bn;have HZ:=A0 hz6;have hown:=hw6;clear E5 Bn hz6 hw6;have hSA:Sc b te (w6.setCell ⟨b,1,none⟩ (.int .i64 ((j:Int)+1))) l (j+1) line:=HSc.o.at (j+1) _ (by omega);have HScA:=A0 hSA;have HOA:Hid (A1 b w (w6.setCell ⟨b,1,none⟩ (.int .i64 ((j:Int)+1)))):=A1.set (p:=⟨b,1,none⟩) HO.o (.inl rfl) _;have HZA:Hid ((w6.setCell ⟨b,1,none⟩ (.int .i64 ((j:Int)+1))).heap[w.heap.size]?=some (.cells #[.int .i64 0,.int .i64 0,.string ⟨#[]⟩,.int .i64 0] 198)):=(Below.heap_setCell _ _ _ _ (by show w.heap.size≠b;omega)).trans HZ.o;have hownA:(w6.setCell ⟨b,1,none⟩ (.int .i64 ((j:Int)+1))).ownsRow 0 5 1 (.slice va vn vc) acc.length (acc.map Jj):=Bb hown (fun k hk _=>Below.heap_setCell _ _ _ _ (by have:=HLo.o k hk;show k≠b;omega));clear hown;go_wp2;clear c0 c1 c2 fz lb HSc HO HZ;generalize w6.setCell ⟨b,1,none⟩ (.int .i64 ((j:Int)+1))=wB at *;obtain⟨c0,c1,c2,fz,lb⟩:=hSA.cells;have hcv:=Xd (w:=wB.drew) hownA;obtain⟨z0,z1,z2,z3,fZ,lZ⟩:=Ci HZA.o;have hbz:b≠w.heap.size:=by omega
     clear hSA hownA;go_region
     all_goals go_wp2
     all_goals
      refine bodyPost_ret (v:=.tuple #[.agg #[.int .i64 3,.int .i64 (line:Nat),.string ⟨acc.toArray⟩,.int .i64 0],.bool true]) (by simp[results,Tryz.results128,go_sem,z0,z1,z2,z3]) rfl ?_;refine⟨A1.Hp HOA.o.drew (Nat.le_refl _) _ _ _ _,.inl ⟨_,HN.o,rfl,?_⟩⟩;have:=HScA.o.keep (w':=(((wB.drew.setCell ⟨w.heap.size,0,none⟩ (.int .i64 3)).setCell ⟨w.heap.size,1,none⟩ (.int .i64 (line:Nat))).setCell ⟨w.heap.size,2,none⟩ (.string ⟨acc.toArray⟩)).setCell ⟨w.heap.size,3,none⟩ (.int .i64 0)) (Hq (w:=wB.drew) (g:=w.heap.size) (k:=b) (by omega) (.int .i64 3) (.int .i64 (line:Nat)) (.string ⟨acc.toArray⟩) (.int .i64 0));rw[show i+1+(j-(i+1)+1)=j+1 by omega];exact this
    ·have t34:((l[j].toNat:Int)==34)=false:=Ht (d:=34) rfl h34;by_cases h92:l[j]=92
     ·have t92:((l[j].toNat:Int)==92)=true:=Km (d:=92) rfl h92;have HE2:=A0 (fun h v hv=>A99 l j h h92 v hv);have HEN:=A0 (fun hv=>A9a l j hlt h92 hv);clear h34 h92;go_wp2;go_quiet ((go_at_call 180;exact Calls.quiet_of_same (Pe hp _)))
      have C0:Sc b te (wr.drewN nq) l j line:=HSc.o.keep rfl;have B9:Hid (A1 b w (wr.drewN nq)):=HO.o.drewN _;have hz5:(wr.drewN nq).heap[w.heap.size]?=some (.cells #[.int .i64 0,.int .i64 0,.string ⟨#[]⟩,.int .i64 0] 198):=HZ.o;have hw5:(wr.drewN nq).ownsRow 0 5 1 (.slice va vn vc) acc.length (acc.map Jj):=hown;clear c0 c1 c2 fz lb HSc HO HZ hown;generalize wr.drewN nq=w5 at *;obtain⟨c0,c1,c2,fz,lb⟩:=C0.cells;have HSc:=A0 C0;have HO:=B9;have HZ:=A0 hz5;have hown:=hw5;clear C0 B9 hz5 hw5;go_wp2;go_quiet (fail)
      have E5:Sc b te (w5.drewN nq) l j line:=HSc.o.keep rfl;have Bn:Hid (A1 b w (w5.drewN nq)):=HO.o.drewN _;have hz6:(w5.drewN nq).heap[w.heap.size]?=some (.cells #[.int .i64 0,.int .i64 0,.string ⟨#[]⟩,.int .i64 0] 198):=HZ.o;have hw6:(w5.drewN nq).ownsRow 0 5 1 (.slice va vn vc) acc.length (acc.map Jj):=hown;clear c0 c1 c2 fz lb HSc HO HZ hown;generalize w5.drewN nq=w6 at *;obtain⟨c0,c1,c2,fz,lb⟩:=E5.cells;have HSc:=A0 E5;have HO:=Bn;have HZ:=A0 hz6;have hown:=hw6;clear E5 Bn hz6 hw6;have hSA:Sc b te (w6.setCell ⟨b,1,none⟩ (.int .i64 ((j:Int)+1))) l (j+1) line:=HSc.o.at (j+1) _ (by omega);have HScA:=A0 hSA;have HOA:Hid (A1 b w (w6.setCell ⟨b,1,none⟩ (.int .i64 ((j:Int)+1)))):=A1.set (p:=⟨b,1,none⟩) HO.o (.inl rfl) _;have HZA:Hid ((w6.setCell ⟨b,1,none⟩ (.int .i64 ((j:Int)+1))).heap[w.heap.size]?=some (.cells #[.int .i64 0,.int .i64 0,.string ⟨#[]⟩,.int .i64 0] 198)):=(Below.heap_setCell _ _ _ _ (by show w.heap.size≠b;omega)).trans HZ.o;have hownA:(w6.setCell ⟨b,1,none⟩ (.int .i64 ((j:Int)+1))).ownsRow 0 5 1 (.slice va vn vc) acc.length (acc.map Jj):=Bb hown (fun k hk _=>Below.heap_setCell _ _ _ _ (by have:=HLo.o k hk;show k≠b;omega));clear hown;go_wp2_with fail
      refine(A5g hSA hl (by omega)).mono ?_;rintro e w9 hpost;clear hSA c0 c1 c2 fz lb HSc HO HZ;rcases hpost with⟨hj1,v,hv,rfl,Fk,Gx⟩|⟨hv,rfl,⟨i',Fk⟩,Gx⟩
      ·have HN:Hid (quot false (l.drop (i+1))=Kg (acc++[v]) (j+2-(i+1)) (quot false (l.drop (j+2)))):=by
        show _=_;rw[HQ.o,HE2.o hj1 v hv,R3,show j-(i+1)+2=j+2-(i+1) by omega]
       have hown9:=Bb hownA (fun k hk hl=>Gx.block k hl (by have:=HLo.o k hk;omega));have hz9:=Gx.blk HZA.o (by omega);replace HOA:Hid (A1 b w w9):=HOA.o.trans Gx;replace HScA:=A0 Fk;replace HZA:=A0 hz9;replace hownA:=hown9;have hbyte:Value.int .u8 v.toNat=Jj v:=rfl;clear Fk Gx hz9 hown9 hv hbyte;go_wp2_with (at_builtin;refine F1 (w9) #[Jj (v)] 5 rfl (.tmp 71) (.tmp 73) 85 rfl 0 1 1 (.int .u8 0) Tryz.underlying85 Pj rfl (by omega) _ _ _ rfl (by first|rfl|(simp[World.setCell];done)|(simp[World.setCell];rfl)) hownA rfl (by intro u hu;simp at hu;subst hu;rfl) (by omega) (by omega) (Nat.zero_le _) ?_;intro g Bw wA E1 hgrow hat hg)
       replace hgrow:(w9).grownBy wA (Value.slice va vn vc).ownBlock:=hgrow;replace hat:(Value.slice va vn vc).ownBlock=some g\/g=(w9).heap.size+1:=hat;go_roundg (gk-2)
       case measure=>omega
       case rel=>
        refine⟨j+2,acc++[v],some ⟨g,0,none⟩,acc.length+1,Bw,rfl,by omega,by omega,by omega,by simp;omega,by simpa using E1,?_,HN.o,HScA.o.keep (hgrow.block b (A5 HScA.o) (fun e=>by have:=HLo.o b e.symm;omega)),HOA.o.grown hgrow (fun k e=>.inr (by have:=HLo.o k e;omega)),(hgrow.block _ (A5 HZA.o) (fun e=>by have:=HLo.o _ e.symm;omega)).trans HZA.o⟩;intro k hk;simp only[Value.ownBlock,Option.some.injEq]at hk;rw[←hk];rcases hat with e|e
        ·exact HLo.o g e
        ·have:=A5 HZA.o;omega
      ·have HN:Hid (quot false (l.drop (i+1))=none):=by show _=_;rw[HQ.o,HEN.o hv];rfl
       have HZ:=A0 (Gx.blk HZA.o (by omega));have HO:Hid (A1 b w w9):=HOA.o.trans Gx;have HSc:=A0 Fk;clear Fk Gx hv hownA HZA HOA HScA;obtain⟨z0,z1,z2,z3,fZ,lZ⟩:=Ci HZ.o;go_wp2;refine bodyPost_ret (v:=.tuple #[.agg #[.int .i64 0,.int .i64 0,.string ⟨#[]⟩,.int .i64 0],.bool false]) (by simp[results,Tryz.results128,go_sem,z0,z1,z2,z3]) rfl ?_;exact⟨A1.Hp HO.o (Nat.le_refl _) _ _ _ _,.inr ⟨HN.o,rfl,_,HSc.o.keep (Hq (by omega) _ _ _ _)⟩⟩
     ·have t92:((l[j].toNat:Int)==92)=false:=Ht (d:=92) rfl h92;have HN:Hid (quot false (l.drop (i+1))=Kg (acc++[l[j]]) (j+1-(i+1)) (quot false (l.drop (j+1)))):=by
       show _=_;rw[HQ.o,j9 l j hlt hp h34 h92,R3,show j-(i+1)+1=j+1-(i+1) by omega]
      clear h34 h92;go_wp2;go_quiet ((go_at_call 180;exact Calls.quiet_of_same (Pe hp _)))
      have C0:Sc b te (wr.drewN nq) l j line:=HSc.o.keep rfl;have B9:Hid (A1 b w (wr.drewN nq)):=HO.o.drewN _;have hz5:(wr.drewN nq).heap[w.heap.size]?=some (.cells #[.int .i64 0,.int .i64 0,.string ⟨#[]⟩,.int .i64 0] 198):=HZ.o;have hw5:(wr.drewN nq).ownsRow 0 5 1 (.slice va vn vc) acc.length (acc.map Jj):=hown;clear c0 c1 c2 fz lb HSc HO HZ hown;generalize wr.drewN nq=w5 at *;obtain⟨c0,c1,c2,fz,lb⟩:=C0.cells;have HSc:=A0 C0;have HO:=B9;have HZ:=A0 hz5;have hown:=hw5;clear C0 B9 hz5 hw5;go_wp2;go_quiet (fail)
      have E5:Sc b te (w5.drewN nq) l j line:=HSc.o.keep rfl;have Bn:Hid (A1 b w (w5.drewN nq)):=HO.o.drewN _;have hz6:(w5.drewN nq).heap[w.heap.size]?=some (.cells #[.int .i64 0,.int .i64 0,.string ⟨#[]⟩,.int .i64 0] 198):=HZ.o;have hw6:(w5.drewN nq).ownsRow 0 5 1 (.slice va vn vc) acc.length (acc.map Jj):=hown;clear c0 c1 c2 fz lb HSc HO HZ hown;generalize w5.drewN nq=w6 at *;obtain⟨c0,c1,c2,fz,lb⟩:=E5.cells;have HSc:=A0 E5;have HO:=Bn;have HZ:=A0 hz6;have hown:=hw6;clear E5 Bn hz6 hw6;have hSA:Sc b te (w6.setCell ⟨b,1,none⟩ (.int .i64 ((j:Int)+1))) l (j+1) line:=HSc.o.at (j+1) _ (by omega);have HScA:=A0 hSA;have HOA:Hid (A1 b w (w6.setCell ⟨b,1,none⟩ (.int .i64 ((j:Int)+1)))):=A1.set (p:=⟨b,1,none⟩) HO.o (.inl rfl) _;have HZA:Hid ((w6.setCell ⟨b,1,none⟩ (.int .i64 ((j:Int)+1))).heap[w.heap.size]?=some (.cells #[.int .i64 0,.int .i64 0,.string ⟨#[]⟩,.int .i64 0] 198)):=(Below.heap_setCell _ _ _ _ (by show w.heap.size≠b;omega)).trans HZ.o;have hownA:(w6.setCell ⟨b,1,none⟩ (.int .i64 ((j:Int)+1))).ownsRow 0 5 1 (.slice va vn vc) acc.length (acc.map Jj):=Bb hown (fun k hk _=>Below.heap_setCell _ _ _ _ (by have:=HLo.o k hk;show k≠b;omega));clear hown hSA;go_wp2_with (at_builtin;refine F1 (w6.setCell ⟨b,1,none⟩ (.int .i64 ((j:Int)+1))) #[Jj (l[j])] 5 rfl (.tmp 71) (.tmp 73) 85 rfl 0 1 1 (.int .u8 0) Tryz.underlying85 Pj rfl (by omega) _ _ _ rfl (by first|rfl|(simp[World.setCell];done)|(simp[World.setCell];rfl)) hownA rfl (by intro u hu;simp at hu;subst hu;rfl) (by omega) (by omega) (Nat.zero_le _) ?_;intro g Bw wA E1 hgrow hat hg)
      replace hgrow:(w6.setCell ⟨b,1,none⟩ (.int .i64 ((j:Int)+1))).grownBy wA (Value.slice va vn vc).ownBlock:=hgrow;replace hat:(Value.slice va vn vc).ownBlock=some g\/g=(w6.setCell ⟨b,1,none⟩ (.int .i64 ((j:Int)+1))).heap.size+1:=hat;go_roundg (gk-1)
      case measure=>omega
      case rel=>
       refine⟨j+1,acc++[l[j]],some ⟨g,0,none⟩,acc.length+1,Bw,rfl,by omega,by omega,by omega,by simp;omega,by simpa using E1,?_,HN.o,HScA.o.keep (hgrow.block b (A5 HScA.o) (fun e=>by have:=HLo.o b e.symm;omega)),HOA.o.grown hgrow (fun k e=>.inr (by have:=HLo.o k e;omega)),(hgrow.block _ (A5 HZA.o) (fun e=>by have:=HLo.o _ e.symm;omega)).trans HZA.o⟩;intro k hk;simp only[Value.ownBlock,Option.some.injEq]at hk;rw[←hk];rcases hat with e|e
       ·exact HLo.o g e
       ·have:=A5 HZA.o;omega
  ·have HN:Hid (quot false (l.drop (i+1))=none):=by show _=_;rw[HQ.o,j8 l j (by omega)];rfl
   go_wp2;go_quiet (fail)
   have C0:Sc b te (wr.drewN nq) l j line:=HSc.o.keep rfl;have B9:Hid (A1 b w (wr.drewN nq)):=HO.o.drewN _;have hz5:(wr.drewN nq).heap[w.heap.size]?=some (.cells #[.int .i64 0,.int .i64 0,.string ⟨#[]⟩,.int .i64 0] 198):=HZ.o;have hw5:(wr.drewN nq).ownsRow 0 5 1 (.slice va vn vc) acc.length (acc.map Jj):=hown;clear c0 c1 c2 fz lb HSc HO HZ hown;generalize wr.drewN nq=w5 at *;obtain⟨c0,c1,c2,fz,lb⟩:=C0.cells;have HSc:=A0 C0;have HO:=B9;have HZ:=A0 hz5;have hown:=hw5;clear C0 B9 hz5 hw5;obtain⟨z0,z1,z2,z3,fZ,lZ⟩:=Ci HZ.o;go_wp2;refine bodyPost_ret (v:=.tuple #[.agg #[.int .i64 0,.int .i64 0,.string ⟨#[]⟩,.int .i64 0],.bool false]) (by simp[results,Tryz.results128,go_sem,z0,z1,z2,z3]) rfl ?_;exact⟨A1.Hp HO.o (Nat.le_refl _) _ _ _ _,.inr ⟨HN.o,rfl,_,HSc.o.keep (Hq (by omega) _ _ _ _)⟩⟩
def Lc:List (List UInt8×Nat):=[([61,61],27),([33,61],29),([60,61],31),([62,61],33),([38,38],39),([124,124],40),([40],18),([41],19),([123],20),([125],21),([91],22),([93],23),([44],24),([59],25),([61],26),([33],28),([60],30),([62],32),([43],34),([45],35),([42],36),([47],37),([37],38)]
def Wd:List (List UInt8×Nat)->List Value
 | []=>[]
 | x::r=>.string ⟨x.1.toArray⟩::.int .i64 (x.2:Nat)::Wd r
def Ty:Array Value:=(Wd Lc).toArray
theorem Abi(w:World):∀n (h:n<23),(Instr.index 338 (.agg Ty) (.int .i64 (n:Nat))).run Tryz.prog w=.ok (.agg #[.string ⟨(Lc[n]'h).1.toArray⟩,.int .i64 ((Lc[n]'h).2:Nat)]) w
 | 0,_=>by kernel_rfl
 | 1,_=>by kernel_rfl
 | 2,_=>by kernel_rfl
 | 3,_=>by kernel_rfl
 | 4,_=>by kernel_rfl
 | 5,_=>by kernel_rfl
 | 6,_=>by kernel_rfl
 | 7,_=>by kernel_rfl
 | 8,_=>by kernel_rfl
 | 9,_=>by kernel_rfl
 | 10,_=>by kernel_rfl
 | 11,_=>by kernel_rfl
 | 12,_=>by kernel_rfl
 | 13,_=>by kernel_rfl
 | 14,_=>by kernel_rfl
 | 15,_=>by kernel_rfl
 | 16,_=>by kernel_rfl
 | 17,_=>by kernel_rfl
 | 18,_=>by kernel_rfl
 | 19,_=>by kernel_rfl
 | 20,_=>by kernel_rfl
 | 21,_=>by kernel_rfl
 | 22,_=>by kernel_rfl
 | n+23,h=>absurd h (by omega)
theorem Yn{α:Type}{p:α->Bool}{l:List α}{n:Nat}(hn:n<l.length):(l.drop n).find? p=if p l[n] then some l[n] else(l.drop (n+1)).find? p:=by
 rw[List.drop_eq_getElem_cons hn,List.find?_cons];cases p l[n] <;> rfl
def A1e(b te:Nat)(w:World)(l:List UInt8)(i line:Nat)(e:Ending)(w':World):Prop:=
 A1 b w w'/\((∃p,Lc.find? (fun p=>Hl (l.drop i) p.1)=some p/\e=.returned (.tuple #[.agg #[.int .i64 (p.2:Nat),.int .i64 (line:Nat),.string ⟨#[]⟩,.int .i64 0],.bool true])/\Sc b te w' l (i+p.1.length) line)\/
  (Lc.find? (fun p=>Hl (l.drop i) p.1)=none/\e=.returned (.tuple #[.agg #[.int .i64 0,.int .i64 0,.string ⟨#[]⟩,.int .i64 0],.bool false])/\Sc b te w' l i line))
theorem A2r{w:World}{g:Nat}{a0 a1:Value}{t:TypeId}(h:w.heap[g]?=some (.cells #[a0,a1] t (0,0))) :
  w.cell? ⟨g,0,none⟩=some a0/\w.cell? ⟨g,1,none⟩=some a1/\(∀o,w.frozen? ⟨g,o,none⟩=false)/\g<w.heap.size:=
 ⟨Ac h 0 _ rfl,Ac h 1 _ rfl,Ce h,A5 h⟩
theorem A3w{b te tg:Nat}{fr:Nat×Nat}{w:World}{l:List UInt8}{i line:Nat}(h:Sc b te w l i line)(hg:w.heap[1]?=some (.cells Ty tg fr))(hl:l.length<=100000)(hi:i<l.length) :
  Calls Tryz.prog 129 #[.pointer (some ⟨b,0,none⟩)] w (A1e b te w l i line):=by
 obtain⟨c0,c1,c2,fz,lb⟩:=h.cells;have HSc0:=A0 h;have HX:∀a b,(⟨l.toArray⟩:ByteArray).extract a b=⟨((l.drop a).take (b-a)).toArray⟩:=N5 l;go_enter Tryz.func129,Tryz.ntmps129;go_wp2_with (refine wpList_load_row rfl 338 _ rfl 1 rfl tg _ fr _ (alloc_old hg) Tryz.underlying338 rfl (by kernel_rfl) ?_)
 clear c0 c1 c2 fz hg h;go_loopg [7] 23 (fun k v wr=>∃n:Nat,v=.int .i64 n/\n+k=23/\Lc.find? (fun p=>Hl (l.drop i) p.1)=(Lc.drop n).find? (fun p=>Hl (l.drop i) p.1)/\Sc b te wr l i line/\A1 b w wr/\wr.heap[w.heap.size]?=some (.cells #[.int .i64 0,.int .i64 0,.string ⟨#[]⟩,.int .i64 0] 198))
 case atStart=>exact⟨0,rfl,rfl,rfl,HSc0.o.keep (Below.heap_alloc _ _ _ lb),(A1.refl _ _).alloc _,heap_alloc_new _ _⟩
 case round=>
  clear HSc0;obtain⟨n,rfl,hnk,hf,hsc,ho,ht⟩:=hrel;have HF:=A0 hf;have HSc:=A0 hsc;have HO:=A0 ho;have HT:=A0 ht;obtain⟨x0,x1,x2,x3,fx,lx⟩:=Ci ht;obtain⟨c0,c1,c2,fz,lbr⟩:=hsc.cells;have hne:b≠w.heap.size:=by omega
  clear hf hsc ho ht;by_cases hlt:n<23
  ·have hix:=fun W=>Abi W n hlt;have HF1:=A0 (HF.o.trans (Yn hlt));generalize Ty=sc at *;generalize Lc[n]=p at *;clear HF;have hdr:(l.drop i).take (l.length-i)=l.drop i:=List.take_of_length_le (by simp);cases hp:Hl (l.drop i) p.1
   ·have HF2:Hid (Lc.find? (fun p=>Hl (l.drop i) p.1)=(Lc.drop (n+1)).find? (fun p=>Hl (l.drop i) p.1)):=by
     show _=_;rw[HF1.o];simp only[hp];rfl
    clear HF1;go_wp2;go_quiet ((go_at_call 174;exact Calls.quiet_of_same (U1 hp _)))
    go_wp2;go_roundg (gk-1)
    case measure=>omega
    case rel=>exact⟨n+1,rfl,by omega,HF2.o,HSc.o.keep (Below.heap_alloc _ _ _ lbr),(HO.o.alloc _).drewN _,alloc_old HT.o⟩
   ·have HF2:Hid (Lc.find? (fun p=>Hl (l.drop i) p.1)=some p):=by
     show _=_;rw[HF1.o];simp only[hp];rfl
    have hpl:i+p.1.length<=l.length:=by
     unfold Hl at hp;simp only[Bool.and_eq_true,decide_eq_true_eq,List.length_drop]at hp;omega
    clear HF1;go_wp2;go_quiet ((go_at_call 174;exact Calls.quiet_of_same (U1 hp _)))
    have HSc5:Hid (Sc b te ((wr.alloc (.cells #[.string ⟨p.1.toArray⟩,.int .i64 (p.2:Nat)] 329)).drewN nq) l i line):=HSc.o.keep (Below.heap_alloc _ _ _ lbr);have B9:Hid (A1 b w ((wr.alloc (.cells #[.string ⟨p.1.toArray⟩,.int .i64 (p.2:Nat)] 329)).drewN nq)):=(HO.o.alloc _).drewN _;have HT5:Hid (((wr.alloc (.cells #[.string ⟨p.1.toArray⟩,.int .i64 (p.2:Nat)] 329)).drewN nq).heap[w.heap.size]?=_):=alloc_old HT.o;have Ei:Hid (((wr.alloc (.cells #[.string ⟨p.1.toArray⟩,.int .i64 (p.2:Nat)] 329)).drewN nq).heap[wr.heap.size]?=_):=heap_alloc_new _ _;generalize ((wr.alloc (.cells #[.string ⟨p.1.toArray⟩,.int .i64 (p.2:Nat)] 329)).drewN nq)=w5 at *;generalize wr.heap.size=pb at *;clear x0 x1 x2 x3 fx c0 c1 c2 fz HSc HO HT;obtain⟨x0,x1,x2,x3,fx,lx5⟩:=Ci HT5.o;obtain⟨c0,c1,c2,fz,lb5⟩:=HSc5.o.cells;obtain⟨y0,y1,fy,ly⟩:=A2r Ei.o;have hne2:pb≠b:=by omega
    have hne3:pb≠w.heap.size:=by omega
    go_wp2;go_region
    all_goals go_wp2
    all_goals go_region
    all_goals go_wp2
    all_goals
     refine bodyPost_ret (v:=.tuple #[.agg #[.int .i64 (p.2:Nat),.int .i64 (line:Nat),.string ⟨#[]⟩,.int .i64 0],.bool true]) (by simp[results,Tryz.results129,go_sem,x0,x1,x2,x3]) rfl ?_;exact⟨(A1.Hp (A1.set (p:=⟨b,1,none⟩) B9.o (.inl rfl) _) (Nat.le_refl _) _ _ _ _).drew.drew,.inl ⟨p,HF2.o,rfl,(Sc.at HSc5.o (i+p.1.length) _ (by omega)).keep (Hq (by omega) _ _ _ _)⟩⟩
  ·have HF2:Hid (Lc.find? (fun p=>Hl (l.drop i) p.1)=none):=by
    show _=_;rw[HF.o,show n=23 by omega];rfl
   go_wp2;refine bodyPost_ret (v:=.tuple #[.agg #[.int .i64 0,.int .i64 0,.string ⟨#[]⟩,.int .i64 0],.bool false]) (by simp[results,Tryz.results129,go_sem,x0,x1,x2,x3]) rfl ?_;exact⟨A1.Hp HO.o (Nat.le_refl _) _ _ _ _,.inr ⟨HF2.o,rfl,HSc.o.keep (Hq (by omega) _ _ _ _)⟩⟩
end
end Go.Proofs.YtjdlndhfaaolaaaGreatDoor
