import Derived.Test.YtgccmgjbbcndbaaGreatDoorM17
/- Walk of atom: a name, a call, a list, parentheses. -/
namespace Go.Proofs.YtgccmgjbbcndbaaGreatDoor
open Go.RowKit
open Go.Deep (BT)

set_option maxRecDepth 100000 in
set_option maxHeartbeats 2000000 in
theorem atom_name {b tb cap te : Nat} {xs : List (Tk × List UInt8)} {n : Nat} (w : World) (s : PS) (r : BT Lab × PS) (hk : kT s = 1) (hk2 : kT (takeS s) ≠ 18) (hs : RS b tb cap te xs w s) (hp : pars (n + 1) 4 0 .nil s = some r) :
    Calls Tryz.prog 85 #[.pointer (some ⟨b, 0, none⟩)] w (NodePost b tb cap te xs w r) := by
  have hrr := pars_name hk hk2 hp
  have HRR := hide hrr
  have HM18 := hide (mayS_ne hk2)
  have hq : (kT (takeS s) == 18) = false := by simpa using hk2
  clear hrr hk2
  obtain ⟨lb, lt, lne⟩ := hs.lt
  have HS := hide hs
  have HK0 : Hid (kT s ≠ 0) := by show _ ≠ _; omega
  clear hp hs
  go_enter Tryz.func85, Tryz.ntmps85
  go_wp2_with fail
  refine (peek_rs (HS.out.alloc _)).mono ?_
  rintro e w1 ⟨S1, rfl, hS1, hrs1, hb1⟩
  have hS2 : S1 = (hdT s).s := (hS1 (by show kT s ≠ 2; omega)).trans (by unfold refS; rw [if_pos (.inl hk)])
  subst hS2
  clear hS1
  have HZ1 := hide (bblk hb1 (heap_alloc_new w _))
  have HO1 : Hid (Only b w w1) := ((Only.refl b w).alloc _).trans (Below.only hb1)
  obtain ⟨pl, hpl⟩ := hrs1
  obtain ⟨e0, e1, e2⟩ := hpl.cells
  have hb0 := (hpl.notEnd HK0.out).1
  rw [hb0] at e2
  have fb := frozen_row hpl.rd
  have lb1 := heap_lt hpl.rd
  have hfew := hpl.toks.few
  have hpll := hpl.lt
  obtain ⟨c0, c1, c2, c3, c4, c5, f0, l0⟩ := blk6 HZ1.out
  have HM : Hid (RS b tb cap te xs (w1.setCell ⟨b, 1, none⟩ (.int .i64 ((pl : Int) + 1))) (takeS s)) := ⟨pl + 1, hpl.move HK0.out _ rfl⟩
  have HO2 : Hid (Only b w (w1.setCell ⟨b, 1, none⟩ (.int .i64 ((pl : Int) + 1)))) := Only.set (p := ⟨b, 1, none⟩) HO1.out (.inl rfl) _
  have HZ2 := hide (set_old (p := ⟨b, 1, none⟩) (u := .int .i64 ((pl : Int) + 1)) HZ1.out (by show w.heap.size ≠ b; omega))
  have HL2 : Hid ((w1.setCell ⟨b, 1, none⟩ (.int .i64 ((pl : Int) + 1))).heap.size = w1.heap.size) := by
    show _ = _
    simp [World.setCell]
  clear hpl hb1 e0 hb0
  have hkr : refKind (kT s) = 110 := by rw [hk]; rfl
  rw [hkr]
  have HK := hide hk
  clear hk hkr
  go_wp2_with fail
  refine (may_rs ((HM.out.alloc _).alloc _) 18 (by omega) (by omega) [40] rfl).mono ?_
  rintro e w3 ⟨rfl, hrs3, ho3⟩
  rw [hq]
  rw [HM18.out] at hrs3
  have hZ3 := ho3.blk (alloc_old (alloc_old HZ2.out)) (by omega)
  have hX3 := ho3.blk (g := w1.heap.size + 1) (by have := heap_alloc_new ((w1.setCell ⟨b, 1, none⟩ (.int .i64 ((pl : Int) + 1))).alloc (.cells #[.int .u8 110, .string ⟨(hdT s).s.toArray⟩, .int .i64 (hdT s).n, .int .i64 ((hdT s).line : Nat)] 79)) (.cells #[.string ⟨#[110, 97, 109, 101]⟩, .int .i64 ((hdT s).line : Nat), .string ⟨(hdT s).s.toArray⟩, .int .i64 (hdT s).n, .slice none 0 0, .slice none 0 0] 41); rw [World.size_alloc, HL2.out] at this; exact this) (by omega)
  have HZ3 := hide hZ3
  have HX3 := hide hX3
  have hsz3 : w1.heap.size + 2 ≤ w3.heap.size := by have := ho3.size; rw [World.size_alloc, World.size_alloc, HL2.out] at this; exact this
  have HO3 : Hid (Only b w w3) := ((HO2.out.alloc _).alloc _).trans ho3
  have HRS3 := hide hrs3
  obtain ⟨k0, k1, k2, k3, k4, k5, f1, l1⟩ := blk6 hZ3
  obtain ⟨d0, d1, d2, d3, d4, d5, f2, l2⟩ := blk6 hX3
  clear hrs3 ho3 hZ3 hX3 c0 c1 c2 c3 c4 c5 f0 e1 e2 fb
  go_wp2
  refine bodyPost_ret (v := .agg #[.string ⟨#[110, 97, 109, 101]⟩, .int .i64 ((hdT s).line : Nat), .string ⟨(hdT s).s.toArray⟩, .int .i64 (hdT s).n, .slice none 0 0, .slice none 0 0]) ?_ rfl ?_
  · simp [results, Tryz.results85, go_sem, k0, k1, k2, k3, k4, k5]
  rw [HRR.out]
  refine node_close (I := [110, 97, 109, 101]) lb lt HRS3.out HO3.out (fun hb => ⟨rfl, ?_⟩)
  exact RepF.one _ .nil _ _ _ _ none 0 0 none 0 0 [] (by show (6 : Nat) ≠ 8; decide) (by show (6 : Nat) ≠ 20; decide) rfl (fun _ => rfl) (fun _ => rfl) (fun h => absurd h (by show ¬ ((6 : Nat) = 1); decide)) (own_nil _ _ _ _) rfl

set_option maxRecDepth 100000 in
set_option maxHeartbeats 2000000 in
theorem atom_group {b tb cap te : Nat} {xs : List (Tk × List UInt8)} {n : Nat} (ih : RefPars b tb cap te xs n) (w : World) (s : PS) (r : BT Lab × PS) (hk : kT s = 18) (hs : RS b tb cap te xs w s) (hp : pars (n + 1) 4 0 .nil s = some r) :
    Calls Tryz.prog 85 #[.pointer (some ⟨b, 0, none⟩)] w (NodePost b tb cap te xs w r) := by
  obtain ⟨x, hp1, hrr⟩ := pars_group hk hp
  have HRR := hide hrr
  have hu := hide (fun (w' : World) h => ih.expr w' (takeS s) 0 0 x (by omega) (by omega) h hp1)
  clear hrr hp1 ih
  obtain ⟨lb, lt, lne⟩ := hs.lt
  have HS := hide hs
  have HK0 : Hid (kT s ≠ 0) := by show _ ≠ _; omega
  clear hp hs
  go_enter Tryz.func85, Tryz.ntmps85
  go_wp2_with fail
  refine (peek_rs (HS.out.alloc _)).mono ?_
  rintro e w1 ⟨S1, rfl, hS1, hrs1, hb1⟩
  have hS2 : S1 = [40] := (hS1 (by show kT s ≠ 2; omega)).trans (by unfold refS; rw [if_neg (by show ¬ (kT s = 1 ∨ kT s = 3); omega)]; show spell (kT s) = _; rw [hk]; rfl)
  subst hS2
  clear hS1
  have HZ1 := hide (bblk hb1 (heap_alloc_new w _))
  have HO1 : Hid (Only b w w1) := ((Only.refl b w).alloc _).trans (Below.only hb1)
  obtain ⟨pl, hpl⟩ := hrs1
  obtain ⟨e0, e1, e2⟩ := hpl.cells
  have hb0 := (hpl.notEnd HK0.out).1
  rw [hb0] at e2
  have fb := frozen_row hpl.rd
  have lb1 := heap_lt hpl.rd
  have hfew := hpl.toks.few
  have hpll := hpl.lt
  obtain ⟨c0, c1, c2, c3, c4, c5, f0, l0⟩ := blk6 HZ1.out
  have HM : Hid (RS b tb cap te xs (w1.setCell ⟨b, 1, none⟩ (.int .i64 ((pl : Int) + 1))) (takeS s)) := ⟨pl + 1, hpl.move HK0.out _ rfl⟩
  have HO2 : Hid (Only b w (w1.setCell ⟨b, 1, none⟩ (.int .i64 ((pl : Int) + 1)))) := Only.set (p := ⟨b, 1, none⟩) HO1.out (.inl rfl) _
  have HZ2 := hide (set_old (p := ⟨b, 1, none⟩) (u := .int .i64 ((pl : Int) + 1)) HZ1.out (by show w.heap.size ≠ b; omega))
  have HL2 : Hid ((w1.setCell ⟨b, 1, none⟩ (.int .i64 ((pl : Int) + 1))).heap.size = w1.heap.size) := by
    show _ = _
    simp [World.setCell]
  clear hpl hb1 e0 hb0
  have hkr : refKind (kT s) = 115 := by rw [hk]; rfl
  rw [hkr]
  have HK := hide hk
  clear hk hkr
  go_wp2_with fail
  refine (hu.out _ ((HM.out.alloc _).alloc _)).mono ?_
  rintro e w3 ⟨I, S, ln, nn, va, vn, vc, pa, pn, pc, rfl, hrs3, ho3, hrep3⟩
  have hZ3 := ho3.blk (alloc_old (alloc_old HZ2.out)) (by omega)
  have hX3 := ho3.blk (g := w1.heap.size + 1) (by have := heap_alloc_new ((w1.setCell ⟨b, 1, none⟩ (.int .i64 ((pl : Int) + 1))).alloc (.cells #[.int .u8 115, .string ⟨#[40]⟩, .int .i64 (hdT s).n, .int .i64 ((hdT s).line : Nat)] 79)) (.cells #[.string ⟨#[40]⟩, .int .i64 ((hdT s).line : Nat), .string ⟨#[40]⟩, .int .i64 (hdT s).n, .slice none 0 0, .slice none 0 0] 41); rw [World.size_alloc, HL2.out] at this; exact this) (by omega)
  have HZ3 := hide hZ3
  have HX3 := hide hX3
  have hsz3 : w1.heap.size + 2 ≤ w3.heap.size := by have := ho3.size; rw [World.size_alloc, World.size_alloc, HL2.out] at this; exact this
  have HO3 : Hid (Only b w w3) := ((HO2.out.alloc _).alloc _).trans ho3
  have HRS3 := hide hrs3
  have HRep3 := hide hrep3
  obtain ⟨d0, d1, d2, d3, d4, d5, f2, l2⟩ := blk6 hX3
  clear hrs3 ho3 hZ3 hX3 c0 c1 c2 c3 c4 c5 f0 e1 e2 fb hrep3
  go_wp2_with fail
  refine (must_rs (HRS3.out.other6 (g := w1.heap.size + 1) (by omega) (by omega) _ _ _ _ _ _) 19 (by omega) (by omega) [41] rfl).mono ?_
  rintro e w4 ⟨rfl, hrs4, ho4⟩
  have hZ4 := ho4.blk (set6_old HZ3.out (by omega) _ _ _ _ _ _) (by omega)
  have hX4 := ho4.blk (set6_new HX3.out _ _ _ _ _ _) (by omega)
  obtain ⟨k0, k1, k2, k3, k4, k5, f1, l1⟩ := blk6 hZ4
  obtain ⟨q0, q1, q2, q3, q4, q5, f3, l3⟩ := blk6 hX4
  have HRS4 := hide hrs4
  have HO4 := hide ho4
  clear hrs4 ho4 hZ4 hX4 d0 d1 d2 d3 d4 d5 f2
  go_wp2
  refine bodyPost_ret (v := .agg #[.string ⟨I.toArray⟩, .int .i64 ln, .string ⟨S.toArray⟩, .int .i64 nn, .slice va vn vc, .slice pa pn pc]) ?_ rfl ?_
  · simp [results, Tryz.results85, go_sem, k0, k1, k2, k3, k4, k5]
  rw [HRR.out]
  refine node_close lb lt HRS4.out ((Only.set6 HO3.out (by omega) _ _ _ _ _ _).trans HO4.out) (fun hb => ⟨rfl, ?_⟩)
  have hr := (HRep3.out (want_good hb)).2
  unfold nd
  rw [RepF, if_pos (show (lab0 8 (hdT s).line).kd = 8 from rfl)]
  refine ⟨_, [], (List.append_nil _).symm, RepF.keep (fun g hg hl => ?_) _ _ hr, rfl⟩
  have hg' : w1.heap.size + 2 ≤ g := by
    have h : _ ≤ g := hg
    rw [World.size_alloc, World.size_alloc, HL2.out] at h; exact h
  refine ⟨?_, by omega⟩
  exact (HO4.out.block g (by rw [set6_size]; exact hl) (by omega)).trans (set6_same (by omega) _ _ _ _ _ _)

set_option maxRecDepth 100000 in
set_option maxHeartbeats 2000000 in
theorem atom_call {b tb cap te : Nat} {xs : List (Tk × List UInt8)} {n : Nat} (ih : RefPars b tb cap te xs n) (w : World) (s : PS) (r : BT Lab × PS) (hk : kT s = 1) (hk2 : kT (takeS s) = 18) (hs : RS b tb cap te xs w s) (hp : pars (n + 1) 4 0 .nil s = some r) :
    Calls Tryz.prog 85 #[.pointer (some ⟨b, 0, none⟩)] w (NodePost b tb cap te xs w r) := by
  obtain ⟨x, hp1, hrr⟩ := pars_call hk hk2 hp
  have HRR := hide hrr
  have HM18 := hide (mayS_eq hk2)
  have hq : (kT (takeS s) == 18) = true := by rw [hk2]; rfl
  have hu := hide (fun (w' : World) h => ih.list w' (takeS (takeS s)) 19 [41] x (.inl rfl) rfl h hp1)
  clear hrr hk2 hp1 ih
  obtain ⟨lb, lt, lne⟩ := hs.lt
  have HS := hide hs
  have HK0 : Hid (kT s ≠ 0) := by show _ ≠ _; omega
  clear hp hs
  go_enter Tryz.func85, Tryz.ntmps85
  go_wp2_with fail
  refine (peek_rs (HS.out.alloc _)).mono ?_
  rintro e w1 ⟨S1, rfl, hS1, hrs1, hb1⟩
  have hS2 : S1 = (hdT s).s := (hS1 (by show kT s ≠ 2; omega)).trans (by unfold refS; rw [if_pos (.inl hk)])
  subst hS2
  clear hS1
  have HZ1 := hide (bblk hb1 (heap_alloc_new w _))
  have HO1 : Hid (Only b w w1) := ((Only.refl b w).alloc _).trans (Below.only hb1)
  obtain ⟨pl, hpl⟩ := hrs1
  obtain ⟨e0, e1, e2⟩ := hpl.cells
  have hb0 := (hpl.notEnd HK0.out).1
  rw [hb0] at e2
  have fb := frozen_row hpl.rd
  have lb1 := heap_lt hpl.rd
  have hfew := hpl.toks.few
  have hpll := hpl.lt
  obtain ⟨c0, c1, c2, c3, c4, c5, f0, l0⟩ := blk6 HZ1.out
  have HM : Hid (RS b tb cap te xs (w1.setCell ⟨b, 1, none⟩ (.int .i64 ((pl : Int) + 1))) (takeS s)) := ⟨pl + 1, hpl.move HK0.out _ rfl⟩
  have HO2 : Hid (Only b w (w1.setCell ⟨b, 1, none⟩ (.int .i64 ((pl : Int) + 1)))) := Only.set (p := ⟨b, 1, none⟩) HO1.out (.inl rfl) _
  have HZ2 := hide (set_old (p := ⟨b, 1, none⟩) (u := .int .i64 ((pl : Int) + 1)) HZ1.out (by show w.heap.size ≠ b; omega))
  have HL2 : Hid ((w1.setCell ⟨b, 1, none⟩ (.int .i64 ((pl : Int) + 1))).heap.size = w1.heap.size) := by
    show _ = _
    simp [World.setCell]
  clear hpl hb1 e0 hb0
  have hkr : refKind (kT s) = 110 := by rw [hk]; rfl
  rw [hkr]
  have HK := hide hk
  clear hk hkr
  go_wp2_with fail
  refine (may_rs ((HM.out.alloc _).alloc _) 18 (by omega) (by omega) [40] rfl).mono ?_
  rintro e w3 ⟨rfl, hrs3, ho3⟩
  rw [hq]
  rw [HM18.out] at hrs3
  have hZ3 := ho3.blk (alloc_old (alloc_old HZ2.out)) (by omega)
  have hX3 := ho3.blk (g := w1.heap.size + 1) (by have := heap_alloc_new ((w1.setCell ⟨b, 1, none⟩ (.int .i64 ((pl : Int) + 1))).alloc (.cells #[.int .u8 110, .string ⟨(hdT s).s.toArray⟩, .int .i64 (hdT s).n, .int .i64 ((hdT s).line : Nat)] 79)) (.cells #[.string ⟨#[110, 97, 109, 101]⟩, .int .i64 ((hdT s).line : Nat), .string ⟨(hdT s).s.toArray⟩, .int .i64 (hdT s).n, .slice none 0 0, .slice none 0 0] 41); rw [World.size_alloc, HL2.out] at this; exact this) (by omega)
  have HZ3 := hide hZ3
  have HX3 := hide hX3
  have hsz3 : w1.heap.size + 2 ≤ w3.heap.size := by have := ho3.size; rw [World.size_alloc, World.size_alloc, HL2.out] at this; exact this
  have HO3 : Hid (Only b w w3) := ((HO2.out.alloc _).alloc _).trans ho3
  have HRS3 := hide hrs3
  obtain ⟨d0, d1, d2, d3, d4, d5, f2, l2⟩ := blk6 hX3
  clear hrs3 ho3 hZ3 hX3 c0 c1 c2 c3 c4 c5 f0 e1 e2 fb
  go_wp2_with fail
  refine (hu.out _ (HRS3.out.other (p := ⟨w1.heap.size + 1, 0, none⟩) (by show b ≠ w1.heap.size + 1; omega) (by show tb ≠ w1.heap.size + 1; omega) _)).mono ?_
  rintro e w4 ⟨va, vn, vc, cn, cs, rfl, hown4, hcn, hrs4, ho4, hrep4⟩
  have hZ4 := ho4.blk (set_old (p := ⟨w1.heap.size + 1, 0, none⟩) HZ3.out (by show w.heap.size ≠ w1.heap.size + 1; omega)) (by omega)
  have hX4 := ho4.blk (heap_set (j := 0) HX3.out _) (by omega)
  simp only [List.setIfInBounds_toArray, List.set_cons_zero] at hX4
  obtain ⟨k0, k1, k2, k3, k4, k5, f1, l1⟩ := blk6 hZ4
  obtain ⟨q0, q1, q2, q3, q4, q5, f3, l3⟩ := blk6 hX4
  have HOwn4 := hide hown4
  have HRS4 := hide hrs4
  have HO4 := hide ho4
  have HRep4 := hide hrep4
  clear hrs4 ho4 hZ4 hX4 d0 d1 d2 d3 d4 d5 f2 hown4 hrep4
  go_wp2
  refine bodyPost_ret (v := .agg #[.string ⟨#[99, 97, 108, 108]⟩, .int .i64 ((hdT s).line : Nat), .string ⟨(hdT s).s.toArray⟩, .int .i64 (hdT s).n, .slice va vn vc, .slice none 0 0]) ?_ rfl ?_
  · simp [results, Tryz.results85, go_sem, k0, k1, k2, k3, k4, k5]
  rw [HRR.out]
  refine node_close (I := [99, 97, 108, 108]) lb lt (HRS4.out.other (p := ⟨w1.heap.size + 1, 4, none⟩) (by show b ≠ w1.heap.size + 1; omega) (by show tb ≠ w1.heap.size + 1; omega) _) (Only.set (p := ⟨w1.heap.size + 1, 4, none⟩) ((Only.set (p := ⟨w1.heap.size + 1, 0, none⟩) HO3.out (.inr (by show w.heap.size ≤ w1.heap.size + 1; omega)) _).trans HO4.out) (.inr (by show w.heap.size ≤ w1.heap.size + 1; omega)) _) (fun hb => ⟨rfl, ?_⟩)
  obtain ⟨hcb, hr⟩ := HRep4.out hb
  have hs3 : (w3.setCell ⟨w1.heap.size + 1, 0, none⟩ (.string ⟨#[99, 97, 108, 108]⟩)).heap.size = w3.heap.size := by simp [World.setCell]
  have hkeep : ∀ g, (w3.setCell ⟨w1.heap.size + 1, 0, none⟩ (.string ⟨#[99, 97, 108, 108]⟩)).heap.size ≤ g → g < w4.heap.size → (w4.setCell ⟨w1.heap.size + 1, 4, none⟩ (.slice va vn vc)).heap[g]? = w4.heap[g]? ∧ w.heap.size < g := fun g hg hl => by
    rw [hs3] at hg
    exact ⟨Below.heap_setCell _ _ _ _ (by show g ≠ w1.heap.size + 1; omega), by omega⟩
  refine RepF.one _ x.1 _ _ _ _ va vn vc none 0 0 cs (by show (7 : Nat) ≠ 8; decide) (by show (7 : Nat) ≠ 20; decide) rfl (fun _ => rfl) (fun _ => rfl) (fun h => absurd h (by show ¬ ((7 : Nat) = 1); decide)) ?_ (RepF.keep hkeep _ _ hr)
  rw [← hcb]
  exact HOwn4.out.keep hkeep

set_option maxRecDepth 100000 in
set_option maxHeartbeats 2000000 in
theorem atom_array {b tb cap te : Nat} {xs : List (Tk × List UInt8)} {n : Nat} (ih : RefPars b tb cap te xs n) (w : World) (s : PS) (r : BT Lab × PS) (hk : kT s = 22) (hs : RS b tb cap te xs w s) (hp : pars (n + 1) 4 0 .nil s = some r) :
    Calls Tryz.prog 85 #[.pointer (some ⟨b, 0, none⟩)] w (NodePost b tb cap te xs w r) := by
  obtain ⟨x, hp1, hrr⟩ := pars_array hk hp
  have HRR := hide hrr
  have hu := hide (fun (w' : World) h => ih.list w' (takeS s) 23 [93] x (.inr rfl) rfl h hp1)
  clear hrr hp1 ih
  obtain ⟨lb, lt, lne⟩ := hs.lt
  have HS := hide hs
  have HK0 : Hid (kT s ≠ 0) := by show _ ≠ _; omega
  clear hp hs
  go_enter Tryz.func85, Tryz.ntmps85
  go_wp2_with fail
  refine (peek_rs (HS.out.alloc _)).mono ?_
  rintro e w1 ⟨S1, rfl, hS1, hrs1, hb1⟩
  have hS2 : S1 = [91] := (hS1 (by show kT s ≠ 2; omega)).trans (by unfold refS; rw [if_neg (by show ¬ (kT s = 1 ∨ kT s = 3); omega)]; show spell (kT s) = _; rw [hk]; rfl)
  subst hS2
  clear hS1
  have HZ1 := hide (bblk hb1 (heap_alloc_new w _))
  have HO1 : Hid (Only b w w1) := ((Only.refl b w).alloc _).trans (Below.only hb1)
  obtain ⟨pl, hpl⟩ := hrs1
  obtain ⟨e0, e1, e2⟩ := hpl.cells
  have hb0 := (hpl.notEnd HK0.out).1
  rw [hb0] at e2
  have fb := frozen_row hpl.rd
  have lb1 := heap_lt hpl.rd
  have hfew := hpl.toks.few
  have hpll := hpl.lt
  obtain ⟨c0, c1, c2, c3, c4, c5, f0, l0⟩ := blk6 HZ1.out
  have HM : Hid (RS b tb cap te xs (w1.setCell ⟨b, 1, none⟩ (.int .i64 ((pl : Int) + 1))) (takeS s)) := ⟨pl + 1, hpl.move HK0.out _ rfl⟩
  have HO2 : Hid (Only b w (w1.setCell ⟨b, 1, none⟩ (.int .i64 ((pl : Int) + 1)))) := Only.set (p := ⟨b, 1, none⟩) HO1.out (.inl rfl) _
  have HZ2 := hide (set_old (p := ⟨b, 1, none⟩) (u := .int .i64 ((pl : Int) + 1)) HZ1.out (by show w.heap.size ≠ b; omega))
  have HL2 : Hid ((w1.setCell ⟨b, 1, none⟩ (.int .i64 ((pl : Int) + 1))).heap.size = w1.heap.size) := by
    show _ = _
    simp [World.setCell]
  clear hpl hb1 e0 hb0
  have hkr : refKind (kT s) = 115 := by rw [hk]; rfl
  rw [hkr]
  have HK := hide hk
  clear hk hkr
  go_wp2_with fail
  refine (hu.out _ ((HM.out.alloc _).alloc _)).mono ?_
  rintro e w3 ⟨va, vn, vc, cn, cs, rfl, hown3, hcn, hrs3, ho3, hrep3⟩
  have hZ3 := ho3.blk (alloc_old (alloc_old HZ2.out)) (by omega)
  have hX3 := ho3.blk (g := w1.heap.size + 1) (by have := heap_alloc_new ((w1.setCell ⟨b, 1, none⟩ (.int .i64 ((pl : Int) + 1))).alloc (.cells #[.int .u8 115, .string ⟨#[91]⟩, .int .i64 (hdT s).n, .int .i64 ((hdT s).line : Nat)] 79)) (.cells #[.string ⟨#[97, 114, 114, 97, 121]⟩, .int .i64 ((hdT s).line : Nat), .string ⟨#[91]⟩, .int .i64 (hdT s).n, .slice none 0 0, .slice none 0 0] 41); rw [World.size_alloc, HL2.out] at this; exact this) (by omega)
  have HZ3 := hide hZ3
  have HX3 := hide hX3
  have hsz3 : w1.heap.size + 2 ≤ w3.heap.size := by have := ho3.size; rw [World.size_alloc, World.size_alloc, HL2.out] at this; exact this
  have HO3 : Hid (Only b w w3) := ((HO2.out.alloc _).alloc _).trans ho3
  have HRS3 := hide hrs3
  have HOwn3 := hide hown3
  have HRep3 := hide hrep3
  obtain ⟨k0, k1, k2, k3, k4, k5, f1, l1⟩ := blk6 hZ3
  obtain ⟨d0, d1, d2, d3, d4, d5, f2, l2⟩ := blk6 hX3
  clear hrs3 ho3 hZ3 hX3 c0 c1 c2 c3 c4 c5 f0 e1 e2 fb hown3 hrep3
  go_wp2
  refine bodyPost_ret (v := .agg #[.string ⟨#[97, 114, 114, 97, 121]⟩, .int .i64 ((hdT s).line : Nat), .string ⟨#[91]⟩, .int .i64 (hdT s).n, .slice va vn vc, .slice none 0 0]) ?_ rfl ?_
  · simp [results, Tryz.results85, go_sem, k0, k1, k2, k3, k4, k5]
  rw [HRR.out]
  refine node_close (I := [97, 114, 114, 97, 121]) (S := [91]) lb lt (HRS3.out.other (p := ⟨w1.heap.size + 1, 4, none⟩) (by show b ≠ w1.heap.size + 1; omega) (by show tb ≠ w1.heap.size + 1; omega) _) (Only.set (p := ⟨w1.heap.size + 1, 4, none⟩) HO3.out (.inr (by show w.heap.size ≤ w1.heap.size + 1; omega)) _) (fun hb => ⟨rfl, ?_⟩)
  obtain ⟨hcb, hr⟩ := HRep3.out hb
  have hkeep : ∀ g, (((w1.setCell ⟨b, 1, none⟩ (.int .i64 ((pl : Int) + 1))).alloc (.cells #[.int .u8 115, .string ⟨#[91]⟩, .int .i64 (hdT s).n, .int .i64 ((hdT s).line : Nat)] 79)).alloc (.cells #[.string ⟨#[97, 114, 114, 97, 121]⟩, .int .i64 ((hdT s).line : Nat), .string ⟨#[91]⟩, .int .i64 (hdT s).n, .slice none 0 0, .slice none 0 0] 41)).heap.size ≤ g → g < w3.heap.size → (w3.setCell ⟨w1.heap.size + 1, 4, none⟩ (.slice va vn vc)).heap[g]? = w3.heap[g]? ∧ w.heap.size < g := fun g hg hl => by
    rw [World.size_alloc, World.size_alloc, HL2.out] at hg
    exact ⟨Below.heap_setCell _ _ _ _ (by show g ≠ w1.heap.size + 1; omega), by omega⟩
  refine RepF.one _ x.1 _ _ _ _ va vn vc none 0 0 cs (by show (9 : Nat) ≠ 8; decide) (by show (9 : Nat) ≠ 20; decide) rfl (fun _ => rfl) (fun h => absurd h (by show ¬ (nameSure 9 = true); decide)) (fun h => absurd h (by show ¬ ((9 : Nat) = 1); decide)) ?_ (RepF.keep hkeep _ _ hr)
  rw [← hcb]
  exact HOwn3.out.keep hkeep

end Go.Proofs.YtgccmgjbbcndbaaGreatDoor
