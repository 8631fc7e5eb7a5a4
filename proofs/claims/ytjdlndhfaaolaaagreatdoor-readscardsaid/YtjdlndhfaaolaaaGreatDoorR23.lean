import Derived.Deep.DrawnRows
import Derived.Deep.LoopGhost
import Derived.Deep.RegionHeld3
import Derived.Test.YtjdlndhfaaolaaaGreatDoorR12
set_option maxHeartbeats 20000000
namespace Go.Proofs.YtjdlndhfaaolaaaGreatDoor
section
set_option maxRecDepth 100000
open Go.RowKit
open Go.Deep (BT)
variable {b tb cap te:Nat}{xs:List (Tk×List UInt8)}
theorem RS.V3{w:World}{s:PS}(h:RS b tb cap te xs w s):(Cm s).bad≠0:=by
 obtain⟨pl,h⟩:=h;unfold Cm;split
 ·rename_i h0;have:=(h.toks.line _ (List.getElem_mem h.lt)).1;show(A6 s).line≠0;rw[h.hd h0];omega
 ·assumption
theorem A1w{n:Nat}(w:World)(s:PS)(r:BT A2×PS)(hk:kT s=2)(hs:RS b tb cap te xs w s)(hp:A7 (n+1) 4 0 .nil s=some r) :
  Calls Tryz.prog 223 #[.pointer (some ⟨b,0,none⟩)] w (Dn b tb cap te xs w r):=by
 have hrr:=Px hk hp;have HRR:=A0 hrr;clear hrr;obtain⟨lb,lt,lne⟩:=hs.lt;have HS:=A0 hs;have D8:Hid (kT s≠0):=by show _≠_;omega
 clear hp hs;go_enter Tryz.func223,Tryz.ntmps223;go_wp2_with fail
 refine(Fl (HS.o.alloc _)).mono ?_;rintro e w1 ⟨S1,rfl,C6,Bo,A3⟩;clear C6;have Bj:=A0 (Bg A3 (heap_alloc_new w _));have Ae:Hid (A1 b w w1):=((A1.refl b w).alloc _).trans (Below.only A3);obtain⟨pl,hpl⟩:=Bo;obtain⟨e0,e1,e2⟩:=hpl.cells;have Cf:=(hpl.E7 D8.o).1;rw[Cf]at e2;have fb:=Ce hpl.rd;have F7:=A5 hpl.rd;have hfew:=hpl.toks.few;have hpll:=hpl.lt;obtain⟨c0,c1,c2,c3,c4,c5,f0,l0⟩:=As Bj.o;have HPL:=A0 hpl;have Br:=A0 Cf;clear hpl A3 e0 Cf;have hkr:Bz (kT s)=105:=by rw[hk];rfl
 rw[hkr];have HK:=A0 hk;clear hk hkr;go_wp2;refine bodyPost_ret (v:=.agg #[.string ⟨#[105,110,116]⟩,.int .i64 ((A6 s).line:Nat),.string ⟨S1.toArray⟩,.int .i64 (A6 s).n,.slice none 0 0,.slice none 0 0]) ?_ rfl ?_
 ·simp[results,Tryz.results223,go_sem,c0,c1,c2,c3,c4,c5,l0]
 rw[HRR.o];exact Rt (I:=[105,110,116]) (S:=S1) lb lt (by show(1:Nat)≠8;decide) (by show(1:Nat)≠20;decide) rfl rfl (fun h=>absurd h (by show ¬(Hv 1=true);decide)) (fun _=>rfl) ⟨pl+1,HPL.o.move D8.o _ rfl⟩ (A1.set (p:=⟨b,1,none⟩) Ae.o (.inl rfl) _)
theorem A24{n:Nat}(w:World)(s:PS)(r:BT A2×PS)(hk:kT s=3)(hs:RS b tb cap te xs w s)(hp:A7 (n+1) 4 0 .nil s=some r) :
  Calls Tryz.prog 223 #[.pointer (some ⟨b,0,none⟩)] w (Dn b tb cap te xs w r):=by
 have hrr:=Q5 hk hp;have HRR:=A0 hrr;clear hrr;obtain⟨lb,lt,lne⟩:=hs.lt;have HS:=A0 hs;have D8:Hid (kT s≠0):=by show _≠_;omega
 clear hp hs;go_enter Tryz.func223,Tryz.ntmps223;go_wp2_with fail
 refine(Fl (HS.o.alloc _)).mono ?_;rintro e w1 ⟨S1,rfl,C6,Bo,A3⟩;have Du:S1=(A6 s).s:=(C6 (by show kT s≠2;omega)).trans (by unfold Eu;rw[if_pos (.inr hk)]);subst Du;clear C6;have Bj:=A0 (Bg A3 (heap_alloc_new w _));have Ae:Hid (A1 b w w1):=((A1.refl b w).alloc _).trans (Below.only A3);obtain⟨pl,hpl⟩:=Bo;obtain⟨e0,e1,e2⟩:=hpl.cells;have Cf:=(hpl.E7 D8.o).1;rw[Cf]at e2;have fb:=Ce hpl.rd;have F7:=A5 hpl.rd;have hfew:=hpl.toks.few;have hpll:=hpl.lt;obtain⟨c0,c1,c2,c3,c4,c5,f0,l0⟩:=As Bj.o;have HPL:=A0 hpl;have Br:=A0 Cf;clear hpl A3 e0 Cf;have hkr:Bz (kT s)=116:=by rw[hk];rfl
 rw[hkr];have HK:=A0 hk;clear hk hkr;go_wp2;refine bodyPost_ret (v:=.agg #[.string ⟨#[116,101,120,116]⟩,.int .i64 ((A6 s).line:Nat),.string ⟨(A6 s).s.toArray⟩,.int .i64 (A6 s).n,.slice none 0 0,.slice none 0 0]) ?_ rfl ?_
 ·simp[results,Tryz.results223,go_sem,c0,c1,c2,c3,c4,c5,l0]
 rw[HRR.o];exact Rt (I:=[116,101,120,116]) (S:=(A6 s).s) lb lt (by show(2:Nat)≠8;decide) (by show(2:Nat)≠20;decide) rfl rfl (fun _=>rfl) (fun h=>absurd h (by show ¬((2:Nat)=1);decide)) ⟨pl+1,HPL.o.move D8.o _ rfl⟩ (A1.set (p:=⟨b,1,none⟩) Ae.o (.inl rfl) _)
theorem A25{n:Nat}(w:World)(s:PS)(r:BT A2×PS)(hk:kT s=13)(hs:RS b tb cap te xs w s)(hp:A7 (n+1) 4 0 .nil s=some r) :
  Calls Tryz.prog 223 #[.pointer (some ⟨b,0,none⟩)] w (Dn b tb cap te xs w r):=by
 have hrr:=Q6 hk hp;have HRR:=A0 hrr;clear hrr;obtain⟨lb,lt,lne⟩:=hs.lt;have HS:=A0 hs;have D8:Hid (kT s≠0):=by show _≠_;omega
 clear hp hs;go_enter Tryz.func223,Tryz.ntmps223;go_wp2_with fail
 refine(Fl (HS.o.alloc _)).mono ?_;rintro e w1 ⟨S1,rfl,C6,Bo,A3⟩;have Du:S1=[116,114,117,101]:=(C6 (by show kT s≠2;omega)).trans (by unfold Eu;rw[if_neg (by show ¬(kT s=1\/kT s=3);omega)];show spell (kT s)=_;rw[hk];rfl);subst Du;clear C6;have Bj:=A0 (Bg A3 (heap_alloc_new w _));have Ae:Hid (A1 b w w1):=((A1.refl b w).alloc _).trans (Below.only A3);obtain⟨pl,hpl⟩:=Bo;obtain⟨e0,e1,e2⟩:=hpl.cells;have Cf:=(hpl.E7 D8.o).1;rw[Cf]at e2;have fb:=Ce hpl.rd;have F7:=A5 hpl.rd;have hfew:=hpl.toks.few;have hpll:=hpl.lt;obtain⟨c0,c1,c2,c3,c4,c5,f0,l0⟩:=As Bj.o;have HPL:=A0 hpl;have Br:=A0 Cf;clear hpl A3 e0 Cf;have hkr:Bz (kT s)=119:=by rw[hk];rfl
 rw[hkr];have HK:=A0 hk;clear hk hkr;go_wp2;refine bodyPost_ret (v:=.agg #[.string ⟨#[116,114,117,101]⟩,.int .i64 ((A6 s).line:Nat),.string ⟨#[116,114,117,101]⟩,.int .i64 (A6 s).n,.slice none 0 0,.slice none 0 0]) ?_ rfl ?_
 ·simp[results,Tryz.results223,go_sem,c0,c1,c2,c3,c4,c5,l0]
 rw[HRR.o];exact Rt (I:=[116,114,117,101]) (S:=[116,114,117,101]) lb lt (by show(3:Nat)≠8;decide) (by show(3:Nat)≠20;decide) rfl rfl (fun h=>absurd h (by show ¬(Hv 3=true);decide)) (fun h=>absurd h (by show ¬((3:Nat)=1);decide)) ⟨pl+1,HPL.o.move D8.o _ rfl⟩ (A1.set (p:=⟨b,1,none⟩) Ae.o (.inl rfl) _)
theorem A1u{n:Nat}(w:World)(s:PS)(r:BT A2×PS)(hk:kT s=14)(hs:RS b tb cap te xs w s)(hp:A7 (n+1) 4 0 .nil s=some r) :
  Calls Tryz.prog 223 #[.pointer (some ⟨b,0,none⟩)] w (Dn b tb cap te xs w r):=by
 have hrr:=Pu hk hp;have HRR:=A0 hrr;clear hrr;obtain⟨lb,lt,lne⟩:=hs.lt;have HS:=A0 hs;have D8:Hid (kT s≠0):=by show _≠_;omega
 clear hp hs;go_enter Tryz.func223,Tryz.ntmps223;go_wp2_with fail
 refine(Fl (HS.o.alloc _)).mono ?_;rintro e w1 ⟨S1,rfl,C6,Bo,A3⟩;have Du:S1=[102,97,108,115,101]:=(C6 (by show kT s≠2;omega)).trans (by unfold Eu;rw[if_neg (by show ¬(kT s=1\/kT s=3);omega)];show spell (kT s)=_;rw[hk];rfl);subst Du;clear C6;have Bj:=A0 (Bg A3 (heap_alloc_new w _));have Ae:Hid (A1 b w w1):=((A1.refl b w).alloc _).trans (Below.only A3);obtain⟨pl,hpl⟩:=Bo;obtain⟨e0,e1,e2⟩:=hpl.cells;have Cf:=(hpl.E7 D8.o).1;rw[Cf]at e2;have fb:=Ce hpl.rd;have F7:=A5 hpl.rd;have hfew:=hpl.toks.few;have hpll:=hpl.lt;obtain⟨c0,c1,c2,c3,c4,c5,f0,l0⟩:=As Bj.o;have HPL:=A0 hpl;have Br:=A0 Cf;clear hpl A3 e0 Cf;have hkr:Bz (kT s)=119:=by rw[hk];rfl
 rw[hkr];have HK:=A0 hk;clear hk hkr;go_wp2;refine bodyPost_ret (v:=.agg #[.string ⟨#[102,97,108,115,101]⟩,.int .i64 ((A6 s).line:Nat),.string ⟨#[102,97,108,115,101]⟩,.int .i64 (A6 s).n,.slice none 0 0,.slice none 0 0]) ?_ rfl ?_
 ·simp[results,Tryz.results223,go_sem,c0,c1,c2,c3,c4,c5,l0]
 rw[HRR.o];exact Rt (I:=[102,97,108,115,101]) (S:=[102,97,108,115,101]) lb lt (by show(4:Nat)≠8;decide) (by show(4:Nat)≠20;decide) rfl rfl (fun h=>absurd h (by show ¬(Hv 4=true);decide)) (fun h=>absurd h (by show ¬((4:Nat)=1);decide)) ⟨pl+1,HPL.o.move D8.o _ rfl⟩ (A1.set (p:=⟨b,1,none⟩) Ae.o (.inl rfl) _)
theorem A22{n:Nat}(w:World)(s:PS)(r:BT A2×PS)(hk:kT s=15)(hs:RS b tb cap te xs w s)(hp:A7 (n+1) 4 0 .nil s=some r) :
  Calls Tryz.prog 223 #[.pointer (some ⟨b,0,none⟩)] w (Dn b tb cap te xs w r):=by
 have hrr:=Q3 hk hp;have HRR:=A0 hrr;clear hrr;obtain⟨lb,lt,lne⟩:=hs.lt;have HS:=A0 hs;have D8:Hid (kT s≠0):=by show _≠_;omega
 clear hp hs;go_enter Tryz.func223,Tryz.ntmps223;go_wp2_with fail
 refine(Fl (HS.o.alloc _)).mono ?_;rintro e w1 ⟨S1,rfl,C6,Bo,A3⟩;have Du:S1=[110,117,108,108]:=(C6 (by show kT s≠2;omega)).trans (by unfold Eu;rw[if_neg (by show ¬(kT s=1\/kT s=3);omega)];show spell (kT s)=_;rw[hk];rfl);subst Du;clear C6;have Bj:=A0 (Bg A3 (heap_alloc_new w _));have Ae:Hid (A1 b w w1):=((A1.refl b w).alloc _).trans (Below.only A3);obtain⟨pl,hpl⟩:=Bo;obtain⟨e0,e1,e2⟩:=hpl.cells;have Cf:=(hpl.E7 D8.o).1;rw[Cf]at e2;have fb:=Ce hpl.rd;have F7:=A5 hpl.rd;have hfew:=hpl.toks.few;have hpll:=hpl.lt;obtain⟨c0,c1,c2,c3,c4,c5,f0,l0⟩:=As Bj.o;have HPL:=A0 hpl;have Br:=A0 Cf;clear hpl A3 e0 Cf;have hkr:Bz (kT s)=119:=by rw[hk];rfl
 rw[hkr];have HK:=A0 hk;clear hk hkr;go_wp2;refine bodyPost_ret (v:=.agg #[.string ⟨#[110,117,108,108]⟩,.int .i64 ((A6 s).line:Nat),.string ⟨#[110,117,108,108]⟩,.int .i64 (A6 s).n,.slice none 0 0,.slice none 0 0]) ?_ rfl ?_
 ·simp[results,Tryz.results223,go_sem,c0,c1,c2,c3,c4,c5,l0]
 rw[HRR.o];exact Rt (I:=[110,117,108,108]) (S:=[110,117,108,108]) lb lt (by show(5:Nat)≠8;decide) (by show(5:Nat)≠20;decide) rfl rfl (fun h=>absurd h (by show ¬(Hv 5=true);decide)) (fun h=>absurd h (by show ¬((5:Nat)=1);decide)) ⟨pl+1,HPL.o.move D8.o _ rfl⟩ (A1.set (p:=⟨b,1,none⟩) Ae.o (.inl rfl) _)
end
end Go.Proofs.YtjdlndhfaaolaaaGreatDoor
