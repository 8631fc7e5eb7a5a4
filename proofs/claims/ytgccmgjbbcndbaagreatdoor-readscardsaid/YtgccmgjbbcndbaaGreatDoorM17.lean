import Derived.Test.YtgccmgjbbcndbaaGreatDoorM16
/- Walk of atom: an end, a number. -/
namespace Go.Proofs.YtgccmgjbbcndbaaGreatDoor
open Go.RowKit
open Go.Deep (BT)

theorem RS.failBad {b tb cap te : Nat} {xs : List (Tk × List UInt8)} {w : World} {s : PS} (h : RS b tb cap te xs w s) : (failS s).bad ≠ 0 := by
  obtain ⟨pl, h⟩ := h
  unfold failS
  split
  · rename_i h0
    have := (h.toks.line _ (List.getElem_mem h.lt)).1
    show (hdT s).line ≠ 0
    rw [h.hd h0]; omega
  · assumption

set_option maxRecDepth 100000 in
set_option maxHeartbeats 2000000 in
theorem atom_int {b tb cap te : Nat} {xs : List (Tk × List UInt8)} {n : Nat} (w : World) (s : PS) (r : BT Lab × PS) (hk : kT s = 2) (hs : RS b tb cap te xs w s) (hp : pars (n + 1) 4 0 .nil s = some r) :
    Calls Tryz.prog 85 #[.pointer (some ⟨b, 0, none⟩)] w (NodePost b tb cap te xs w r) := by
  have hrr := pars_int hk hp
  have HRR := hide hrr
  clear hrr
  obtain ⟨lb, lt, lne⟩ := hs.lt
  have HS := hide hs
  have HK0 : Hid (kT s ≠ 0) := by show _ ≠ _; omega
  clear hp hs
  go_enter Tryz.func85, Tryz.ntmps85
  go_wp2_with fail
  refine (peek_rs (HS.out.alloc _)).mono ?_
  rintro e w1 ⟨S1, rfl, hS1, hrs1, hb1⟩
  clear hS1
  have HZ1 := hide (bblk hb1 (heap_alloc_new w _))
  have HO1 : Hid (Only b w w1) := ((Only.refl b w).alloc _).trans (Below.only hb1)
  obtain ⟨pl, hpl⟩ := hrs1
  obtain ⟨e0, e1, e2⟩ := hpl.cells
  have hb0 := (hpl.notEnd HK0.out).1
  rw [hb0] at e2
  have fb := frozen_row hpl.rd
  have lb1 := heap_lt hpl.rd
  have hfew := hpl.toks.few
  have hpll := hpl.lt
  obtain ⟨c0, c1, c2, c3, c4, c5, f0, l0⟩ := blk6 HZ1.out
  have HPL := hide hpl
  have HB0 := hide hb0
  clear hpl hb1 e0 hb0
  have hkr : refKind (kT s) = 105 := by rw [hk]; rfl
  rw [hkr]
  have HK := hide hk
  clear hk hkr
  go_wp2
  refine bodyPost_ret (v := .agg #[.string ⟨#[105, 110, 116]⟩, .int .i64 ((hdT s).line : Nat), .string ⟨S1.toArray⟩, .int .i64 (hdT s).n, .slice none 0 0, .slice none 0 0]) ?_ rfl ?_
  · simp [results, Tryz.results85, go_sem, c0, c1, c2, c3, c4, c5, l0]
  rw [HRR.out]
  exact leaf_close (I := [105, 110, 116]) (S := S1) lb lt (by show (1 : Nat) ≠ 8; decide) (by show (1 : Nat) ≠ 20; decide) rfl rfl (fun h => absurd h (by show ¬ (nameSure 1 = true); decide)) (fun _ => rfl) ⟨pl + 1, HPL.out.move HK0.out _ rfl⟩ (Only.set (p := ⟨b, 1, none⟩) HO1.out (.inl rfl) _)

set_option maxRecDepth 100000 in
set_option maxHeartbeats 2000000 in
theorem atom_text {b tb cap te : Nat} {xs : List (Tk × List UInt8)} {n : Nat} (w : World) (s : PS) (r : BT Lab × PS) (hk : kT s = 3) (hs : RS b tb cap te xs w s) (hp : pars (n + 1) 4 0 .nil s = some r) :
    Calls Tryz.prog 85 #[.pointer (some ⟨b, 0, none⟩)] w (NodePost b tb cap te xs w r) := by
  have hrr := pars_text hk hp
  have HRR := hide hrr
  clear hrr
  obtain ⟨lb, lt, lne⟩ := hs.lt
  have HS := hide hs
  have HK0 : Hid (kT s ≠ 0) := by show _ ≠ _; omega
  clear hp hs
  go_enter Tryz.func85, Tryz.ntmps85
  go_wp2_with fail
  refine (peek_rs (HS.out.alloc _)).mono ?_
  rintro e w1 ⟨S1, rfl, hS1, hrs1, hb1⟩
  have hS2 : S1 = (hdT s).s := (hS1 (by show kT s ≠ 2; omega)).trans (by unfold refS; rw [if_pos (.inr hk)])
  subst hS2
  clear hS1
  have HZ1 := hide (bblk hb1 (heap_alloc_new w _))
  have HO1 : Hid (Only b w w1) := ((Only.refl b w).alloc _).trans (Below.only hb1)
  obtain ⟨pl, hpl⟩ := hrs1
  obtain ⟨e0, e1, e2⟩ := hpl.cells
  have hb0 := (hpl.notEnd HK0.out).1
  rw [hb0] at e2
  have fb := frozen_row hpl.rd
  have lb1 := heap_lt hpl.rd
  have hfew := hpl.toks.few
  have hpll := hpl.lt
  obtain ⟨c0, c1, c2, c3, c4, c5, f0, l0⟩ := blk6 HZ1.out
  have HPL := hide hpl
  have HB0 := hide hb0
  clear hpl hb1 e0 hb0
  have hkr : refKind (kT s) = 116 := by rw [hk]; rfl
  rw [hkr]
  have HK := hide hk
  clear hk hkr
  go_wp2
  refine bodyPost_ret (v := .agg #[.string ⟨#[116, 101, 120, 116]⟩, .int .i64 ((hdT s).line : Nat), .string ⟨(hdT s).s.toArray⟩, .int .i64 (hdT s).n, .slice none 0 0, .slice none 0 0]) ?_ rfl ?_
  · simp [results, Tryz.results85, go_sem, c0, c1, c2, c3, c4, c5, l0]
  rw [HRR.out]
  exact leaf_close (I := [116, 101, 120, 116]) (S := (hdT s).s) lb lt (by show (2 : Nat) ≠ 8; decide) (by show (2 : Nat) ≠ 20; decide) rfl rfl (fun _ => rfl) (fun h => absurd h (by show ¬ ((2 : Nat) = 1); decide)) ⟨pl + 1, HPL.out.move HK0.out _ rfl⟩ (Only.set (p := ⟨b, 1, none⟩) HO1.out (.inl rfl) _)

set_option maxRecDepth 100000 in
set_option maxHeartbeats 2000000 in
theorem atom_true {b tb cap te : Nat} {xs : List (Tk × List UInt8)} {n : Nat} (w : World) (s : PS) (r : BT Lab × PS) (hk : kT s = 13) (hs : RS b tb cap te xs w s) (hp : pars (n + 1) 4 0 .nil s = some r) :
    Calls Tryz.prog 85 #[.pointer (some ⟨b, 0, none⟩)] w (NodePost b tb cap te xs w r) := by
  have hrr := pars_true hk hp
  have HRR := hide hrr
  clear hrr
  obtain ⟨lb, lt, lne⟩ := hs.lt
  have HS := hide hs
  have HK0 : Hid (kT s ≠ 0) := by show _ ≠ _; omega
  clear hp hs
  go_enter Tryz.func85, Tryz.ntmps85
  go_wp2_with fail
  refine (peek_rs (HS.out.alloc _)).mono ?_
  rintro e w1 ⟨S1, rfl, hS1, hrs1, hb1⟩
  have hS2 : S1 = [116, 114, 117, 101] := (hS1 (by show kT s ≠ 2; omega)).trans (by unfold refS; rw [if_neg (by show ¬ (kT s = 1 ∨ kT s = 3); omega)]; show spell (kT s) = _; rw [hk]; rfl)
  subst hS2
  clear hS1
  have HZ1 := hide (bblk hb1 (heap_alloc_new w _))
  have HO1 : Hid (Only b w w1) := ((Only.refl b w).alloc _).trans (Below.only hb1)
  obtain ⟨pl, hpl⟩ := hrs1
  obtain ⟨e0, e1, e2⟩ := hpl.cells
  have hb0 := (hpl.notEnd HK0.out).1
  rw [hb0] at e2
  have fb := frozen_row hpl.rd
  have lb1 := heap_lt hpl.rd
  have hfew := hpl.toks.few
  have hpll := hpl.lt
  obtain ⟨c0, c1, c2, c3, c4, c5, f0, l0⟩ := blk6 HZ1.out
  have HPL := hide hpl
  have HB0 := hide hb0
  clear hpl hb1 e0 hb0
  have hkr : refKind (kT s) = 119 := by rw [hk]; rfl
  rw [hkr]
  have HK := hide hk
  clear hk hkr
  go_wp2
  refine bodyPost_ret (v := .agg #[.string ⟨#[116, 114, 117, 101]⟩, .int .i64 ((hdT s).line : Nat), .string ⟨#[116, 114, 117, 101]⟩, .int .i64 (hdT s).n, .slice none 0 0, .slice none 0 0]) ?_ rfl ?_
  · simp [results, Tryz.results85, go_sem, c0, c1, c2, c3, c4, c5, l0]
  rw [HRR.out]
  exact leaf_close (I := [116, 114, 117, 101]) (S := [116, 114, 117, 101]) lb lt (by show (3 : Nat) ≠ 8; decide) (by show (3 : Nat) ≠ 20; decide) rfl rfl (fun h => absurd h (by show ¬ (nameSure 3 = true); decide)) (fun h => absurd h (by show ¬ ((3 : Nat) = 1); decide)) ⟨pl + 1, HPL.out.move HK0.out _ rfl⟩ (Only.set (p := ⟨b, 1, none⟩) HO1.out (.inl rfl) _)

set_option maxRecDepth 100000 in
set_option maxHeartbeats 2000000 in
theorem atom_false {b tb cap te : Nat} {xs : List (Tk × List UInt8)} {n : Nat} (w : World) (s : PS) (r : BT Lab × PS) (hk : kT s = 14) (hs : RS b tb cap te xs w s) (hp : pars (n + 1) 4 0 .nil s = some r) :
    Calls Tryz.prog 85 #[.pointer (some ⟨b, 0, none⟩)] w (NodePost b tb cap te xs w r) := by
  have hrr := pars_false hk hp
  have HRR := hide hrr
  clear hrr
  obtain ⟨lb, lt, lne⟩ := hs.lt
  have HS := hide hs
  have HK0 : Hid (kT s ≠ 0) := by show _ ≠ _; omega
  clear hp hs
  go_enter Tryz.func85, Tryz.ntmps85
  go_wp2_with fail
  refine (peek_rs (HS.out.alloc _)).mono ?_
  rintro e w1 ⟨S1, rfl, hS1, hrs1, hb1⟩
  have hS2 : S1 = [102, 97, 108, 115, 101] := (hS1 (by show kT s ≠ 2; omega)).trans (by unfold refS; rw [if_neg (by show ¬ (kT s = 1 ∨ kT s = 3); omega)]; show spell (kT s) = _; rw [hk]; rfl)
  subst hS2
  clear hS1
  have HZ1 := hide (bblk hb1 (heap_alloc_new w _))
  have HO1 : Hid (Only b w w1) := ((Only.refl b w).alloc _).trans (Below.only hb1)
  obtain ⟨pl, hpl⟩ := hrs1
  obtain ⟨e0, e1, e2⟩ := hpl.cells
  have hb0 := (hpl.notEnd HK0.out).1
  rw [hb0] at e2
  have fb := frozen_row hpl.rd
  have lb1 := heap_lt hpl.rd
  have hfew := hpl.toks.few
  have hpll := hpl.lt
  obtain ⟨c0, c1, c2, c3, c4, c5, f0, l0⟩ := blk6 HZ1.out
  have HPL := hide hpl
  have HB0 := hide hb0
  clear hpl hb1 e0 hb0
  have hkr : refKind (kT s) = 119 := by rw [hk]; rfl
  rw [hkr]
  have HK := hide hk
  clear hk hkr
  go_wp2
  refine bodyPost_ret (v := .agg #[.string ⟨#[102, 97, 108, 115, 101]⟩, .int .i64 ((hdT s).line : Nat), .string ⟨#[102, 97, 108, 115, 101]⟩, .int .i64 (hdT s).n, .slice none 0 0, .slice none 0 0]) ?_ rfl ?_
  · simp [results, Tryz.results85, go_sem, c0, c1, c2, c3, c4, c5, l0]
  rw [HRR.out]
  exact leaf_close (I := [102, 97, 108, 115, 101]) (S := [102, 97, 108, 115, 101]) lb lt (by show (4 : Nat) ≠ 8; decide) (by show (4 : Nat) ≠ 20; decide) rfl rfl (fun h => absurd h (by show ¬ (nameSure 4 = true); decide)) (fun h => absurd h (by show ¬ ((4 : Nat) = 1); decide)) ⟨pl + 1, HPL.out.move HK0.out _ rfl⟩ (Only.set (p := ⟨b, 1, none⟩) HO1.out (.inl rfl) _)

set_option maxRecDepth 100000 in
set_option maxHeartbeats 2000000 in
theorem atom_null {b tb cap te : Nat} {xs : List (Tk × List UInt8)} {n : Nat} (w : World) (s : PS) (r : BT Lab × PS) (hk : kT s = 15) (hs : RS b tb cap te xs w s) (hp : pars (n + 1) 4 0 .nil s = some r) :
    Calls Tryz.prog 85 #[.pointer (some ⟨b, 0, none⟩)] w (NodePost b tb cap te xs w r) := by
  have hrr := pars_null hk hp
  have HRR := hide hrr
  clear hrr
  obtain ⟨lb, lt, lne⟩ := hs.lt
  have HS := hide hs
  have HK0 : Hid (kT s ≠ 0) := by show _ ≠ _; omega
  clear hp hs
  go_enter Tryz.func85, Tryz.ntmps85
  go_wp2_with fail
  refine (peek_rs (HS.out.alloc _)).mono ?_
  rintro e w1 ⟨S1, rfl, hS1, hrs1, hb1⟩
  have hS2 : S1 = [110, 117, 108, 108] := (hS1 (by show kT s ≠ 2; omega)).trans (by unfold refS; rw [if_neg (by show ¬ (kT s = 1 ∨ kT s = 3); omega)]; show spell (kT s) = _; rw [hk]; rfl)
  subst hS2
  clear hS1
  have HZ1 := hide (bblk hb1 (heap_alloc_new w _))
  have HO1 : Hid (Only b w w1) := ((Only.refl b w).alloc _).trans (Below.only hb1)
  obtain ⟨pl, hpl⟩ := hrs1
  obtain ⟨e0, e1, e2⟩ := hpl.cells
  have hb0 := (hpl.notEnd HK0.out).1
  rw [hb0] at e2
  have fb := frozen_row hpl.rd
  have lb1 := heap_lt hpl.rd
  have hfew := hpl.toks.few
  have hpll := hpl.lt
  obtain ⟨c0, c1, c2, c3, c4, c5, f0, l0⟩ := blk6 HZ1.out
  have HPL := hide hpl
  have HB0 := hide hb0
  clear hpl hb1 e0 hb0
  have hkr : refKind (kT s) = 119 := by rw [hk]; rfl
  rw [hkr]
  have HK := hide hk
  clear hk hkr
  go_wp2
  refine bodyPost_ret (v := .agg #[.string ⟨#[110, 117, 108, 108]⟩, .int .i64 ((hdT s).line : Nat), .string ⟨#[110, 117, 108, 108]⟩, .int .i64 (hdT s).n, .slice none 0 0, .slice none 0 0]) ?_ rfl ?_
  · simp [results, Tryz.results85, go_sem, c0, c1, c2, c3, c4, c5, l0]
  rw [HRR.out]
  exact leaf_close (I := [110, 117, 108, 108]) (S := [110, 117, 108, 108]) lb lt (by show (5 : Nat) ≠ 8; decide) (by show (5 : Nat) ≠ 20; decide) rfl rfl (fun h => absurd h (by show ¬ (nameSure 5 = true); decide)) (fun h => absurd h (by show ¬ ((5 : Nat) = 1); decide)) ⟨pl + 1, HPL.out.move HK0.out _ rfl⟩ (Only.set (p := ⟨b, 1, none⟩) HO1.out (.inl rfl) _)

end Go.Proofs.YtgccmgjbbcndbaaGreatDoor
