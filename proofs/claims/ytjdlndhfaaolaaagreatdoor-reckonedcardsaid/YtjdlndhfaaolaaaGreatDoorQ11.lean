import Derived.Test.YtjdlndhfaaolaaaGreatDoorQ10
set_option maxHeartbeats 20000000
namespace Go.Proofs.YtjdlndhfaaolaaaGreatDoor
section
set_option maxRecDepth 100000
open Go.RowKit
def A5h(b te:Nat)(w:World)(l:List UInt8)(i line:Nat)(e:Ending)(w':World):Prop:=
 A7 b w w'/\((∃x,quot false (l.drop (i+1))=some x/\e=.returned (.tuple #[.agg #[.int .i64 3,.int .i64 (line:Nat),.string ⟨x.1.toArray⟩,.int .i64 0],.bool true])/\Sc b te w' l (i+1+x.2) line)\/
  (quot false (l.drop (i+1))=none/\e=.returned (.tuple #[.agg #[.int .i64 0,.int .i64 0,.string ⟨#[]⟩,.int .i64 0],.bool false])/\∃i',Sc b te w' l i' line))
theorem Aif(l:List UInt8)(k:Nat)(h:k+1<l.length)(hc:l[k]=92)(v:UInt8)(hv:K1 l[k+1]=some v):quot false (l.drop k)=Kv [v] 2 (quot false (l.drop (k+2))):=by
 unfold K1 at hv;split at hv
 ·rename_i h1;simp only[Bool.or_eq_true,beq_iff_eq]at h1;have:=Option.some.inj hv;subst this;rcases h1 with e|e
  ·rw[Um l k h hc (.inl e),e];rfl
  ·rw[Um l k h hc (.inr (.inl e)),e];rfl
 ·split at hv
  ·rename_i h2;simp only[beq_iff_eq]at h2;have:=Option.some.inj hv;subst this;rw[Um l k h hc (.inr (.inr h2)),h2];rfl
  ·cases hv
theorem Akm(l:List UInt8)(k:Nat)(h:k<l.length)(hc:l[k]=92)(hv:∀h:k+1<l.length,K1 l[k+1]=none):quot false (l.drop k)=none:=by
 by_cases h1:k+1<l.length
 ·have h2:=hv h1;unfold K1 at h2;split at h2
  ·cases h2
  ·split at h2
   ·cases h2
   ·rename_i e1 e2;simp only[Bool.or_eq_true,beq_iff_eq]at e1 e2;exact Aj6 l k h1 hc (fun e=>e1 (.inl e)) (fun e=>e1 (.inr e)) e2
 ·exact Afe l k h hc (by omega)
def A59(b te:Nat)(l:List UInt8)(i line:Nat)(w:World)(k:Nat)(v:Value)(wr:World):Prop:=
 ∃(j:Nat) (acc:List UInt8) (va:Option Addr) (vn vc:Nat),v=.slice va vn vc/\i+1<=j/\j<=l.length/\j+k=l.length/\acc.length<=j/\wr.ownsRow 0 5 1 (.slice va vn vc) acc.length (acc.map Jb)/\(∀g,(Value.slice va vn vc).ownBlock=some g->w.heap.size<g)/\
  quot false (l.drop (i+1))=Kv acc (j-(i+1)) (quot false (l.drop j))/\Sc b te wr l j line/\A7 b w wr/\wr.heap[w.heap.size]?=some (.cells #[.int .i64 0,.int .i64 0,.string ⟨#[]⟩,.int .i64 0] 198)
theorem Al3{b te:Nat}{w:World}{l:List UInt8}{i line:Nat}(h:Sc b te w l i line)(hl:l.length<=100000)(hi:i<l.length) :
  Calls Tryz.prog 128 #[.pointer (some ⟨b,0,none⟩)] w (A5h b te w l i line):=by
 obtain⟨c0,c1,c2,fz,lb⟩:=h.cells;have HSc0:=A0 h;have hlb:=lb;clear h;go_enter Tryz.func128,Tryz.ntmps128;go_wp2;go_loopg [4] (l.length-(i+1)) (fun k v wr=>A59 b te l i line w k v wr)
 case atStart=>
  refine⟨i+1,[],none,0,0,rfl,Nat.le_refl _,by omega,by omega,by simp,World.ownsRow_nil _ _ _ _,(fun g hg=>by simp[Value.ownBlock]at hg),?_,?_,?_,?_⟩
  ·rw[Nat.sub_self];cases quot false (l.drop (i+1)) <;> simp[Kv]
  ·exact(Sc.at HSc0.o (i+1) _ (by omega)).keep (Below.heap_alloc _ _ _ (by simp[World.setCell];exact lb))
  ·exact(A7.set (p:=⟨b,1,none⟩) (A7.refl b w) (.inl rfl) _).alloc _
  ·have:=heap_alloc_new (w.setCell ⟨b,1,none⟩ (.int .i64 ((i:Int)+1))) (.cells #[.int .i64 0,.int .i64 0,.string ⟨#[]⟩,.int .i64 0] 198);simpa [World.setCell]using this
 case round=>
  clear c0 c1 c2 fz lb HSc0;obtain⟨j,acc,va,vn,vc,rfl,hij,hjl,hjk,hacc,hown,hlo,hq,hsc,ho,hz⟩:=hrel;obtain⟨c0,c1,c2,fz,lb⟩:=hsc.cells;have HSc:=A0 hsc;have HO:=A0 ho;have HZ:=A0 hz;have HQ:=A0 hq;have HLo:=A0 hlo;clear hq hsc ho hz hlo;have hbw:b<w.heap.size:=hlb;by_cases hlt:j<l.length
  ·have hE:∀h,((⟨l.toArray⟩:ByteArray)[j]'h)=l[j]:=fun h=>On l j h;cases hp:Gr l[j]
   ·have HN:Hid (quot false (l.drop (i+1))=none):=by show _=_;rw[HQ.o,Ac1 l j hlt hp];rfl
    go_wp2;go_quiet ((go_at_call 180;exact Calls.quiet_of_same (P4 hp _)))
    have Ck:Sc b te (wr.drewN nq) l j line:=HSc.o.keep rfl;have C4:Hid (A7 b w (wr.drewN nq)):=HO.o.drewN _;have hz5:(wr.drewN nq).heap[w.heap.size]?=some (.cells #[.int .i64 0,.int .i64 0,.string ⟨#[]⟩,.int .i64 0] 198):=HZ.o;have J3:(wr.drewN nq).ownsRow 0 5 1 (.slice va vn vc) acc.length (acc.map Jb):=hown;clear c0 c1 c2 fz lb HSc HO HZ hown;generalize wr.drewN nq=w5 at *;obtain⟨c0,c1,c2,fz,lb⟩:=Ck.cells;have HSc:=A0 Ck;have HO:=C4;have HZ:=A0 hz5;have hown:=J3;clear Ck C4 hz5 J3;obtain⟨z0,z1,z2,z3,fZ,lZ⟩:=Dw HZ.o;go_wp2;refine bodyPost_ret (v:=.tuple #[.agg #[.int .i64 0,.int .i64 0,.string ⟨#[]⟩,.int .i64 0],.bool false]) (by simp[results,Tryz.results128,go_sem,z0,z1,z2,z3]) rfl ?_;exact⟨A7.Hu HO.o (Nat.le_refl _) _ _ _ _,.inr ⟨HN.o,rfl,_,HSc.o.keep (Gw (by omega) _ _ _ _)⟩⟩
   ·by_cases h34:l[j]=34
    ·have t34:((l[j].toNat:Int)==34)=true:=Mc (d:=34) rfl h34;have HN:Hid (quot false (l.drop (i+1))=some (acc,j-(i+1)+1)):=by
      show _=_;rw[HQ.o,A9k l j hlt h34];simp[Kv]
     clear h34;go_wp2;go_quiet ((go_at_call 180;exact Calls.quiet_of_same (P4 hp _)))
     have Ck:Sc b te (wr.drewN nq) l j line:=HSc.o.keep rfl;have C4:Hid (A7 b w (wr.drewN nq)):=HO.o.drewN _;have hz5:(wr.drewN nq).heap[w.heap.size]?=some (.cells #[.int .i64 0,.int .i64 0,.string ⟨#[]⟩,.int .i64 0] 198):=HZ.o;have J3:(wr.drewN nq).ownsRow 0 5 1 (.slice va vn vc) acc.length (acc.map Jb):=hown;clear c0 c1 c2 fz lb HSc HO HZ hown;generalize wr.drewN nq=w5 at *;obtain⟨c0,c1,c2,fz,lb⟩:=Ck.cells;have HSc:=A0 Ck;have HO:=C4;have HZ:=A0 hz5;have hown:=J3;clear Ck C4 hz5 J3;go_wp2;go_quiet (fail)
     have E3:Sc b te (w5.drewN nq) l j line:=HSc.o.keep rfl;have Df:Hid (A7 b w (w5.drewN nq)):=HO.o.drewN _;have hz6:(w5.drewN nq).heap[w.heap.size]?=some (.cells #[.int .i64 0,.int .i64 0,.string ⟨#[]⟩,.int .i64 0] 198):=HZ.o;have hw6:(w5.drewN nq).ownsRow 0 5 1 (.slice va vn vc) acc.length (acc.map Jb):=hown;clear c0 c1 c2 fz lb HSc HO HZ hown;generalize w5.drewN nq=w6 at *;obtain⟨c0,c1,c2,fz,lb⟩:=E3.cells;have HSc:=A0 E3;have HO:=Df;have HZ:=A0 hz6;have hown:=hw6;clear E3 Df hz6 hw6;have hSA:Sc b te (w6.setCell ⟨b,1,none⟩ (.int .i64 ((j:Int)+1))) l (j+1) line:=HSc.o.at (j+1) _ (by omega);have HScA:=A0 hSA;have HOA:Hid (A7 b w (w6.setCell ⟨b,1,none⟩ (.int .i64 ((j:Int)+1)))):=A7.set (p:=⟨b,1,none⟩) HO.o (.inl rfl) _;have HZA:Hid ((w6.setCell ⟨b,1,none⟩ (.int .i64 ((j:Int)+1))).heap[w.heap.size]?=some (.cells #[.int .i64 0,.int .i64 0,.string ⟨#[]⟩,.int .i64 0] 198)):=(Below.heap_setCell _ _ _ _ (by show w.heap.size≠b;omega)).trans HZ.o;have hownA:(w6.setCell ⟨b,1,none⟩ (.int .i64 ((j:Int)+1))).ownsRow 0 5 1 (.slice va vn vc) acc.length (acc.map Jb):=B3 hown (fun k hk _=>Below.heap_setCell _ _ _ _ (by have:=HLo.o k hk;show k≠b;omega));clear hown;go_wp2;clear c0 c1 c2 fz lb HSc HO HZ;generalize w6.setCell ⟨b,1,none⟩ (.int .i64 ((j:Int)+1))=wB at *;obtain⟨c0,c1,c2,fz,lb⟩:=hSA.cells;have hcv:=U0 (w:=wB.drew) hownA;obtain⟨z0,z1,z2,z3,fZ,lZ⟩:=Dw HZA.o;have hbz:b≠w.heap.size:=by omega
     clear hSA hownA;go_region
     all_goals go_wp2
     all_goals
      refine bodyPost_ret (v:=.tuple #[.agg #[.int .i64 3,.int .i64 (line:Nat),.string ⟨acc.toArray⟩,.int .i64 0],.bool true]) (by simp[results,Tryz.results128,go_sem,z0,z1,z2,z3]) rfl ?_;refine⟨A7.Hu HOA.o.drew (Nat.le_refl _) _ _ _ _,.inl ⟨_,HN.o,rfl,?_⟩⟩;have:=HScA.o.keep (w':=(((wB.drew.setCell ⟨w.heap.size,0,none⟩ (.int .i64 3)).setCell ⟨w.heap.size,1,none⟩ (.int .i64 (line:Nat))).setCell ⟨w.heap.size,2,none⟩ (.string ⟨acc.toArray⟩)).setCell ⟨w.heap.size,3,none⟩ (.int .i64 0)) (Gw (w:=wB.drew) (g:=w.heap.size) (k:=b) (by omega) (.int .i64 3) (.int .i64 (line:Nat)) (.string ⟨acc.toArray⟩) (.int .i64 0));rw[show i+1+(j-(i+1)+1)=j+1 by omega];exact this
    ·have t34:((l[j].toNat:Int)==34)=false:=Kp (d:=34) rfl h34;by_cases h92:l[j]=92
     ·have t92:((l[j].toNat:Int)==92)=true:=Mc (d:=92) rfl h92;have HE2:=A0 (fun h v hv=>Aif l j h h92 v hv);have HEN:=A0 (fun hv=>Akm l j hlt h92 hv);clear h34 h92;go_wp2;go_quiet ((go_at_call 180;exact Calls.quiet_of_same (P4 hp _)))
      have Ck:Sc b te (wr.drewN nq) l j line:=HSc.o.keep rfl;have C4:Hid (A7 b w (wr.drewN nq)):=HO.o.drewN _;have hz5:(wr.drewN nq).heap[w.heap.size]?=some (.cells #[.int .i64 0,.int .i64 0,.string ⟨#[]⟩,.int .i64 0] 198):=HZ.o;have J3:(wr.drewN nq).ownsRow 0 5 1 (.slice va vn vc) acc.length (acc.map Jb):=hown;clear c0 c1 c2 fz lb HSc HO HZ hown;generalize wr.drewN nq=w5 at *;obtain⟨c0,c1,c2,fz,lb⟩:=Ck.cells;have HSc:=A0 Ck;have HO:=C4;have HZ:=A0 hz5;have hown:=J3;clear Ck C4 hz5 J3;go_wp2;go_quiet (fail)
      have E3:Sc b te (w5.drewN nq) l j line:=HSc.o.keep rfl;have Df:Hid (A7 b w (w5.drewN nq)):=HO.o.drewN _;have hz6:(w5.drewN nq).heap[w.heap.size]?=some (.cells #[.int .i64 0,.int .i64 0,.string ⟨#[]⟩,.int .i64 0] 198):=HZ.o;have hw6:(w5.drewN nq).ownsRow 0 5 1 (.slice va vn vc) acc.length (acc.map Jb):=hown;clear c0 c1 c2 fz lb HSc HO HZ hown;generalize w5.drewN nq=w6 at *;obtain⟨c0,c1,c2,fz,lb⟩:=E3.cells;have HSc:=A0 E3;have HO:=Df;have HZ:=A0 hz6;have hown:=hw6;clear E3 Df hz6 hw6;have hSA:Sc b te (w6.setCell ⟨b,1,none⟩ (.int .i64 ((j:Int)+1))) l (j+1) line:=HSc.o.at (j+1) _ (by omega);have HScA:=A0 hSA;have HOA:Hid (A7 b w (w6.setCell ⟨b,1,none⟩ (.int .i64 ((j:Int)+1)))):=A7.set (p:=⟨b,1,none⟩) HO.o (.inl rfl) _;have HZA:Hid ((w6.setCell ⟨b,1,none⟩ (.int .i64 ((j:Int)+1))).heap[w.heap.size]?=some (.cells #[.int .i64 0,.int .i64 0,.string ⟨#[]⟩,.int .i64 0] 198)):=(Below.heap_setCell _ _ _ _ (by show w.heap.size≠b;omega)).trans HZ.o;have hownA:(w6.setCell ⟨b,1,none⟩ (.int .i64 ((j:Int)+1))).ownsRow 0 5 1 (.slice va vn vc) acc.length (acc.map Jb):=B3 hown (fun k hk _=>Below.heap_setCell _ _ _ _ (by have:=HLo.o k hk;show k≠b;omega));clear hown;go_wp2_with fail
      refine(Ala hSA hl (by omega)).mono ?_;rintro e w9 hpost;clear hSA c0 c1 c2 fz lb HSc HO HZ;rcases hpost with⟨hj1,v,hv,rfl,F4,ho9⟩|⟨hv,rfl,⟨i',F4⟩,ho9⟩
      ·have HN:Hid (quot false (l.drop (i+1))=Kv (acc++[v]) (j+2-(i+1)) (quot false (l.drop (j+2)))):=by
        show _=_;rw[HQ.o,HE2.o hj1 v hv,Zk,show j-(i+1)+2=j+2-(i+1) by omega]
       have hown9:=B3 hownA (fun k hk hl=>ho9.block k hl (by have:=HLo.o k hk;omega));have hz9:=ho9.blk HZA.o (by omega);replace HOA:Hid (A7 b w w9):=HOA.o.trans ho9;replace HScA:=A0 F4;replace HZA:=A0 hz9;replace hownA:=hown9;have hbyte:Value.int .u8 v.toNat=Jb v:=rfl;clear F4 ho9 hz9 hown9 hv hbyte;go_wp2_with (at_builtin;refine K5 (w9) #[Jb (v)] 5 rfl (.tmp 71) (.tmp 73) 85 rfl 0 1 1 (.int .u8 0) Tryz.underlying85 R9 rfl (by omega) _ _ _ rfl (by first|rfl|(simp[World.setCell];done)|(simp[World.setCell];rfl)) hownA rfl (by intro u hu;simp at hu;subst hu;rfl) (by omega) (by omega) (Nat.zero_le _) ?_;intro g cap1 wA F1 hgrow hat hg)
       replace hgrow:(w9).grownBy wA (Value.slice va vn vc).ownBlock:=hgrow;replace hat:(Value.slice va vn vc).ownBlock=some g\/g=(w9).heap.size+1:=hat;go_roundg (gk-2)
       case measure=>omega
       case rel=>
        refine⟨j+2,acc++[v],some ⟨g,0,none⟩,acc.length+1,cap1,rfl,by omega,by omega,by omega,by simp;omega,by simpa using F1,?_,HN.o,HScA.o.keep (hgrow.block b (A4 HScA.o) (fun e=>by have:=HLo.o b e.symm;omega)),HOA.o.grown hgrow (fun k e=>.inr (by have:=HLo.o k e;omega)),(hgrow.block _ (A4 HZA.o) (fun e=>by have:=HLo.o _ e.symm;omega)).trans HZA.o⟩;intro k hk;simp only[Value.ownBlock,Option.some.injEq]at hk;rw[←hk];rcases hat with e|e
        ·exact HLo.o g e
        ·have:=A4 HZA.o;omega
      ·have HN:Hid (quot false (l.drop (i+1))=none):=by show _=_;rw[HQ.o,HEN.o hv];rfl
       have HZ:=A0 (ho9.blk HZA.o (by omega));have HO:Hid (A7 b w w9):=HOA.o.trans ho9;have HSc:=A0 F4;clear F4 ho9 hv hownA HZA HOA HScA;obtain⟨z0,z1,z2,z3,fZ,lZ⟩:=Dw HZ.o;go_wp2;refine bodyPost_ret (v:=.tuple #[.agg #[.int .i64 0,.int .i64 0,.string ⟨#[]⟩,.int .i64 0],.bool false]) (by simp[results,Tryz.results128,go_sem,z0,z1,z2,z3]) rfl ?_;exact⟨A7.Hu HO.o (Nat.le_refl _) _ _ _ _,.inr ⟨HN.o,rfl,_,HSc.o.keep (Gw (by omega) _ _ _ _)⟩⟩
     ·have t92:((l[j].toNat:Int)==92)=false:=Kp (d:=92) rfl h92;have HN:Hid (quot false (l.drop (i+1))=Kv (acc++[l[j]]) (j+1-(i+1)) (quot false (l.drop (j+1)))):=by
       show _=_;rw[HQ.o,A8t l j hlt hp h34 h92,Zk,show j-(i+1)+1=j+1-(i+1) by omega]
      clear h34 h92;go_wp2;go_quiet ((go_at_call 180;exact Calls.quiet_of_same (P4 hp _)))
      have Ck:Sc b te (wr.drewN nq) l j line:=HSc.o.keep rfl;have C4:Hid (A7 b w (wr.drewN nq)):=HO.o.drewN _;have hz5:(wr.drewN nq).heap[w.heap.size]?=some (.cells #[.int .i64 0,.int .i64 0,.string ⟨#[]⟩,.int .i64 0] 198):=HZ.o;have J3:(wr.drewN nq).ownsRow 0 5 1 (.slice va vn vc) acc.length (acc.map Jb):=hown;clear c0 c1 c2 fz lb HSc HO HZ hown;generalize wr.drewN nq=w5 at *;obtain⟨c0,c1,c2,fz,lb⟩:=Ck.cells;have HSc:=A0 Ck;have HO:=C4;have HZ:=A0 hz5;have hown:=J3;clear Ck C4 hz5 J3;go_wp2;go_quiet (fail)
      have E3:Sc b te (w5.drewN nq) l j line:=HSc.o.keep rfl;have Df:Hid (A7 b w (w5.drewN nq)):=HO.o.drewN _;have hz6:(w5.drewN nq).heap[w.heap.size]?=some (.cells #[.int .i64 0,.int .i64 0,.string ⟨#[]⟩,.int .i64 0] 198):=HZ.o;have hw6:(w5.drewN nq).ownsRow 0 5 1 (.slice va vn vc) acc.length (acc.map Jb):=hown;clear c0 c1 c2 fz lb HSc HO HZ hown;generalize w5.drewN nq=w6 at *;obtain⟨c0,c1,c2,fz,lb⟩:=E3.cells;have HSc:=A0 E3;have HO:=Df;have HZ:=A0 hz6;have hown:=hw6;clear E3 Df hz6 hw6;have hSA:Sc b te (w6.setCell ⟨b,1,none⟩ (.int .i64 ((j:Int)+1))) l (j+1) line:=HSc.o.at (j+1) _ (by omega);have HScA:=A0 hSA;have HOA:Hid (A7 b w (w6.setCell ⟨b,1,none⟩ (.int .i64 ((j:Int)+1)))):=A7.set (p:=⟨b,1,none⟩) HO.o (.inl rfl) _;have HZA:Hid ((w6.setCell ⟨b,1,none⟩ (.int .i64 ((j:Int)+1))).heap[w.heap.size]?=some (.cells #[.int .i64 0,.int .i64 0,.string ⟨#[]⟩,.int .i64 0] 198)):=(Below.heap_setCell _ _ _ _ (by show w.heap.size≠b;omega)).trans HZ.o;have hownA:(w6.setCell ⟨b,1,none⟩ (.int .i64 ((j:Int)+1))).ownsRow 0 5 1 (.slice va vn vc) acc.length (acc.map Jb):=B3 hown (fun k hk _=>Below.heap_setCell _ _ _ _ (by have:=HLo.o k hk;show k≠b;omega));clear hown hSA;go_wp2_with (at_builtin;refine K5 (w6.setCell ⟨b,1,none⟩ (.int .i64 ((j:Int)+1))) #[Jb (l[j])] 5 rfl (.tmp 71) (.tmp 73) 85 rfl 0 1 1 (.int .u8 0) Tryz.underlying85 R9 rfl (by omega) _ _ _ rfl (by first|rfl|(simp[World.setCell];done)|(simp[World.setCell];rfl)) hownA rfl (by intro u hu;simp at hu;subst hu;rfl) (by omega) (by omega) (Nat.zero_le _) ?_;intro g cap1 wA F1 hgrow hat hg)
      replace hgrow:(w6.setCell ⟨b,1,none⟩ (.int .i64 ((j:Int)+1))).grownBy wA (Value.slice va vn vc).ownBlock:=hgrow;replace hat:(Value.slice va vn vc).ownBlock=some g\/g=(w6.setCell ⟨b,1,none⟩ (.int .i64 ((j:Int)+1))).heap.size+1:=hat;go_roundg (gk-1)
      case measure=>omega
      case rel=>
       refine⟨j+1,acc++[l[j]],some ⟨g,0,none⟩,acc.length+1,cap1,rfl,by omega,by omega,by omega,by simp;omega,by simpa using F1,?_,HN.o,HScA.o.keep (hgrow.block b (A4 HScA.o) (fun e=>by have:=HLo.o b e.symm;omega)),HOA.o.grown hgrow (fun k e=>.inr (by have:=HLo.o k e;omega)),(hgrow.block _ (A4 HZA.o) (fun e=>by have:=HLo.o _ e.symm;omega)).trans HZA.o⟩;intro k hk;simp only[Value.ownBlock,Option.some.injEq]at hk;rw[←hk];rcases hat with e|e
       ·exact HLo.o g e
       ·have:=A4 HZA.o;omega
  ·have HN:Hid (quot false (l.drop (i+1))=none):=by show _=_;rw[HQ.o,A48 l j (by omega)];rfl
   go_wp2;go_quiet (fail)
   have Ck:Sc b te (wr.drewN nq) l j line:=HSc.o.keep rfl;have C4:Hid (A7 b w (wr.drewN nq)):=HO.o.drewN _;have hz5:(wr.drewN nq).heap[w.heap.size]?=some (.cells #[.int .i64 0,.int .i64 0,.string ⟨#[]⟩,.int .i64 0] 198):=HZ.o;have J3:(wr.drewN nq).ownsRow 0 5 1 (.slice va vn vc) acc.length (acc.map Jb):=hown;clear c0 c1 c2 fz lb HSc HO HZ hown;generalize wr.drewN nq=w5 at *;obtain⟨c0,c1,c2,fz,lb⟩:=Ck.cells;have HSc:=A0 Ck;have HO:=C4;have HZ:=A0 hz5;have hown:=J3;clear Ck C4 hz5 J3;obtain⟨z0,z1,z2,z3,fZ,lZ⟩:=Dw HZ.o;go_wp2;refine bodyPost_ret (v:=.tuple #[.agg #[.int .i64 0,.int .i64 0,.string ⟨#[]⟩,.int .i64 0],.bool false]) (by simp[results,Tryz.results128,go_sem,z0,z1,z2,z3]) rfl ?_;exact⟨A7.Hu HO.o (Nat.le_refl _) _ _ _ _,.inr ⟨HN.o,rfl,_,HSc.o.keep (Gw (by omega) _ _ _ _)⟩⟩
end
end Go.Proofs.YtjdlndhfaaolaaaGreatDoor
