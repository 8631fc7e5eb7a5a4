import Derived.Test.YtgccmgjbbcndbaaGreatDoorM24
import Derived.Test.YtgccmgjbbcndbaaGreatDoorM22
/- Walk of simple: a sign of setting that cannot stand. -/
namespace Go.Proofs.YtgccmgjbbcndbaaGreatDoor
open Go.RowKit
open Go.Deep (BT)

set_option maxRecDepth 100000 in
set_option maxHeartbeats 2000000 in
theorem simple_no {b tb cap te : Nat} {xs : List (Tk × List UInt8)} {n : Nat} (ih : RefPars b tb cap te xs n) (w : World) (s : PS) (r x v : BT Lab × PS) (hs : RS b tb cap te xs w s) (hp1 : pars n 0 0 .nil s = some x) (hk : kT x.2 = 26) (hp2 : pars n 0 0 .nil (failS x.2) = some v) (hc0 : canSet x.1 = false) (hrr : r = (nd (lab0 30 (rootLab x.1).line) x.1, wantS 25 v.2)) :
    Calls Tryz.prog 41 #[.pointer (some ⟨b, 0, none⟩)] w (NodePost b tb cap te xs w r) := by
  have HRR := hide hrr
  have hu := hide (fun (w' : World) h => ih.expr w' s 0 0 x (by omega) (by omega) h hp1)
  have hu2 := hide (fun (w' : World) h => ih.expr w' (failS x.2) 0 0 v (by omega) (by omega) h hp2)
  have hq : (kT x.2 == 26) = true := by rw [hk]; rfl
  have hgood : x.2.bad = 0 := kT_good (hs.wf |> fun h => (pars_reach _ _ _ _ _ _ h hp1).1) (by omega)
  have hless := expr_less _ _ _ _ hs.wf hp1
  have hlast := pars_expr_last _ _ _ _ hs.wf (by omega) hp1
  have hkd := expr_kd _ _ _ _ hp1
  have HWF := hide (pars_reach _ _ _ _ _ _ hs.wf hp1).1
  have HFB := hide (failW_bad HWF.out)
  have HFT := hide ((fail_reach HWF.out).1.bad HFB.out)
  have HW26 := hide (bad_want 26 HFT.out HFB.out)
  have HV := hide (pars_sticky HFT.out HFB.out _ _ _ _ _ hp2)
  obtain ⟨lb, lt, lne⟩ := hs.lt
  have HS := hide hs
  clear hp1 hp2 hrr ih
  go_enter Tryz.func41, Tryz.ntmps41
  go_wp2_with fail
  refine (hu.out _ (HS.out.alloc _)).mono ?_
  rintro e w1 ⟨I, S, ln, nn, va, vn, vc, pa, pn, pc, rfl, hrs1, ho1, hrep1⟩
  have HZ1 := hide (ho1.blk (heap_alloc_new w _) (by omega))
  have HO1 : Hid (Only b w w1) := ((Only.refl b w).alloc _).trans ho1
  have HRS1 := hide hrs1
  have HRep1 := hide (hrep1 hgood)
  have lz1 := heap_lt HZ1.out
  clear ho1 hrep1
  go_wp2_with fail
  refine (is_rs (((HRS1.out.alloc _).alloc _).alloc _) 26 (by omega) (by omega) [61] rfl).mono ?_
  rintro e w2 ⟨rfl, hrs2, hb2⟩
  rw [hq]
  have lw1 : b < w1.heap.size := HRS1.out.lt.1
  have hsz2 : w1.heap.size + 3 ≤ w2.heap.size := by have := hb2.size; simpa using this
  have HX2 := hide (bblk hb2 (heap_alloc_new ((w1.alloc (.cells (ndC I S ln nn va vn vc pa pn pc) 41)).alloc (.cells (ndC I S ln nn va vn vc pa pn pc) 41)) (.cells #[.string ⟨#[100, 111]⟩, .int .i64 ln, .string ⟨#[]⟩, .int .i64 0, .slice (some ⟨w1.heap.size + 1, 0, none⟩) 1 1, .slice none 0 0] 41)))
  have hX2' := HX2.out
  simp only [World.size_alloc] at hX2'
  obtain ⟨x0, x1, x2, x3, x4, x5, fX, lX⟩ := blk6 hX2'
  replace HX2 := hide hX2'
  clear hX2'
  have HL2 := hide (bblk hb2 (alloc_old (heap_alloc_new (w1.alloc (.cells (ndC I S ln nn va vn vc pa pn pc) 41)) (.cells (ndC I S ln nn va vn vc pa pn pc) 41))))
  have HE2 := hide (bblk hb2 (alloc_old (alloc_old (heap_alloc_new w1 (.cells (ndC I S ln nn va vn vc pa pn pc) 41)))))
  have HZ2 := hide (bblk hb2 (alloc_old (alloc_old (alloc_old HZ1.out))))
  have HK2 : Hid (∀ k, k < w1.heap.size → w2.heap[k]? = w1.heap[k]?) := fun k hk => (hb2.block k (by simp; omega)).trans ((Below.heap_alloc _ _ _ (by simp; omega)).trans ((Below.heap_alloc _ _ _ (by simp; omega)).trans (Below.heap_alloc _ _ _ hk)))
  have HO2 : Hid (Only b w w2) := (((HO1.out.alloc _).alloc _).alloc _).trans (Below.only hb2)
  have HRS2 := hide hrs2
  obtain ⟨pl, hpl⟩ := hrs2
  have hpos := less_at HS.out hpl hgood hless
  have hlt := hpl.lt
  have hfew := hpl.toks.few
  obtain ⟨j, rfl⟩ : ∃ j, pl = j + 1 := ⟨pl - 1, by omega⟩
  obtain ⟨e0, e1, e2⟩ := hpl.cells
  replace e1 : w2.cell? ⟨b, 1, none⟩ = some (.int .i64 ((j : Int) + 1)) := e1
  have hj : j < xs.length := by omega
  have d0 := hpl.tkCell j 0 hj (by omega)
  have d1 := hpl.tkCell j 1 hj (by omega)
  have lb2 := heap_lt hpl.rd
  have ltb2 := hpl.tbl
  rw [tkC] at d0 d1
  simp only [Nat.add_zero, List.getElem?_cons_zero, List.getElem?_cons_succ] at d0 d1
  have HT19 := hide (fun h8 => took_at HS.out hpl hgood (hlast.2.2 h8) hj)
  have hok := hpl.toks.ok (xs[j]) (List.getElem_mem hj)
  have HTest : Hid (((xs[j]).2 == [41]) = false ∨ (refKind (xs[j]).1.k == 115) = false → (I == [110, 97, 109, 101]) = false ∧ (I == [105, 110, 100, 101, 120]) = false) := by
    intro hor
    by_cases h8 : (rootLab x.1).kd = 8
    · exfalso
      have hkk : (xs[j]).1.k = 19 := HT19.out h8
      have h41 : (xs[j]).2 = [41] := (hok (by rw [hkk]; decide)).trans (by unfold refS; rw [hkk]; rfl)
      rcases hor with h | h
      · rw [h41] at h; exact absurd h (by decide)
      · rw [hkk] at h; exact absurd h (by decide)
    · obtain ⟨hI, _⟩ := rep_root HRep1.out.1 HRep1.out.2 h8
      have h140 := hkd
      unfold exprKd at h140
      have hn := isS_name (rootLab x.1).kd (by omega) (by omega) h8
      unfold canSet at hc0
      rw [Bool.or_eq_false_iff] at hc0
      rw [hI, hn.1, hn.2]
      exact hc0
  clear HT19 hok
  obtain ⟨p0, p1, p2, p3, p4, p5, fE, lE⟩ := blk6 HE2.out
  clear hb2 hpl hs hless hlast
  clear hkd hc0
  generalize xs[j] = tk at *
  have HL2' := HL2.out
  clear HL2
  go_wp2_with fail
  cases hc : (tk.2 == [41])
  · obtain ⟨t1, t2⟩ := HTest.out (.inl hc)
    go_quiet (fail)
    go_wp2_with fail
    refine (no_rs (HRS2.out.drewN nq)).mono ?_
    rintro e w3 ⟨rfl, hrs3, ho3⟩
    have HZ3 := hide (ho3.blk (show (w2.drewN nq).heap[w.heap.size]? = _ from HZ2.out) (by omega))
    have HX3 := hide (ho3.blk (show (w2.drewN nq).heap[w1.heap.size + 1 + 1]? = _ from HX2.out) (by omega))
    have HL3 := hide (ho3.blk (show (w2.drewN nq).heap[(w1.alloc (.cells (ndC I S ln nn va vn vc pa pn pc) 41)).heap.size]? = _ from HL2') (by simp; omega))
    have HO3 : Hid (Only b w w3) := (HO2.out.drewN nq).trans ho3
    have hsz3 : w2.heap.size ≤ w3.heap.size := ho3.size
    have HRS3 := hide hrs3
    clear hrs3 ho3 e0 e1 e2 d0 d1 p0 p1 p2 p3 p4 p5 fE x0 x1 x2 x3 x4 x5 fX lX HX2 HZ2 HE2 HO2 HRS2 HL2'
    go_wp2_with fail
    refine (must_rs HRS3.out 26 (by omega) (by omega) [61] rfl).mono ?_
    rintro e w4 ⟨rfl, hrs4, ho4⟩
    rw [HW26.out] at hrs4
    have HZ4 := hide (ho4.blk HZ3.out (by omega))
    have HX4 := hide (ho4.blk HX3.out (by omega))
    have HL4 := hide (ho4.blk HL3.out (by simp; omega))
    have HO4 : Hid (Only b w w4) := HO3.out.trans ho4
    have hsz4 := ho4.size
    have HRS4 := hide hrs4
    clear hrs4 ho4
    go_wp2_with fail
    refine (hu2.out _ HRS4.out).mono ?_
    rintro e w5 ⟨I5, S5, ln5, nn5, va5, vn5, vc5, pa5, pn5, pc5, rfl, hrs5, ho5, hrep5⟩
    have HZ5 := hide (ho5.blk HZ4.out (by omega))
    have HX5 := hide (ho5.blk HX4.out (by omega))
    have hL5 := ho5.blk HL4.out (by simp; omega)
    simp only [World.size_alloc] at hL5
    have HO5 : Hid (Only b w w5) := HO4.out.trans ho5
    have hsz5 := ho5.size
    obtain ⟨d0, d1, d2, d3, d4, d5, f2, l2⟩ := blk6 HX5.out
    have HRS5 := hide hrs5
    have hown := (own_lit (D := fun _ => True) (n := 1) (size := 6) hL5 rfl (by omega) trivial).1.alloc (.cells (ndC I5 S5 ln5 nn5 va5 vn5 vc5 pa5 pn5 pc5) 41)
    clear hrs5 ho5 hrep5 hL5
    go_wp2_with (at_builtin; refine wpl_app (w5.alloc (.cells (ndC I5 S5 ln5 nn5 va5 vn5 vc5 pa5 pn5 pc5) 41)) (ndC I5 S5 ln5 nn5 va5 vn5 vc5 pa5 pn5 pc5) 41 rfl (.tmp 75) (.tmp 77) 36 rfl 0 6 96 (.agg #[.string ⟨#[]⟩, .int .i64 0, .string ⟨#[]⟩, .int .i64 0, .slice none 0 0, .slice none 0 0]) Tryz.underlying36 infoNode rfl (by omega) (.slice (some ⟨w1.heap.size + 1, 0, none⟩) 1 1) 1 _ rfl (by simp; rfl) hown rfl nd_one (by omega) (by omega) (Nat.zero_le _) ?_; intro g cap1 w7 hown7 hgrow hat hg; replace hgrow : (w5.alloc (.cells (ndC I5 S5 ln5 nn5 va5 vn5 vc5 pa5 pn5 pc5) 41)).grownBy w7 (some (w1.heap.size + 1)) := hgrow; have hX7 := (hgrow.block _ (heap_lt (alloc_old HX5.out)) (by simp)).trans (alloc_old HX5.out); obtain ⟨p0, p1, p2, p3, p4, p5, f5, l5⟩ := blk6 hX7; have HX7 := hide hX7; clear hat hX7)
    have HGrow := hide hgrow
    have HZ7 := hide ((HGrow.out.block _ (heap_lt (alloc_old HZ5.out)) (by simp; omega)).trans (alloc_old HZ5.out))
    have HRS7 : Hid (RS b tb cap te xs w7 v.2) := (HRS5.out.alloc _).grown HGrow.out (by simp; omega) (by simp; omega)
    have HO7 : Hid (Only b w w7) := (HO5.out.alloc _).grown HGrow.out (fun k e => by injection e with e; omega)
    clear hgrow hown7 p0 p1 p2 p3 p4 p5 f5 d0 d1 d2 d3 d4 d5 f2 hown
    refine (must_rs (HRS7.out.other (p := ⟨w1.heap.size + 1 + 1, 4, none⟩) (by show b ≠ w1.heap.size + 1 + 1; omega) (by show tb ≠ w1.heap.size + 1 + 1; omega) _) 25 (by omega) (by omega) [59] rfl).mono ?_
    rintro e w8 ⟨rfl, hrs8, ho8⟩
    have hZ8 := ho8.blk (set_old (p := ⟨w1.heap.size + 1 + 1, 4, none⟩) HZ7.out (by show w.heap.size ≠ w1.heap.size + 1 + 1; omega)) (by omega)
    have hX8 := ho8.blk (heap_set (j := 4) HX7.out _) (by omega)
    simp only [List.setIfInBounds_toArray, List.set_cons_zero, List.set_cons_succ] at hX8
    obtain ⟨k0, k1, k2, k3, k4, k5, f1, l1⟩ := blk6 hZ8
    obtain ⟨q0, q1, q2, q3, q4, q5, f3, l3⟩ := blk6 hX8
    have HRS8 := hide hrs8
    have HO8 := hide ho8
    clear hrs8 ho8 hZ8 hX8
    go_wp2
    refine bodyPost_ret (v := .agg #[.string ⟨#[100, 111]⟩, .int .i64 ln, .string ⟨#[]⟩, .int .i64 0, .slice (some ⟨g, 0, none⟩) (1 + 1) cap1, .slice none 0 0]) ?_ rfl ?_
    · simp [results, Tryz.results41, go_sem, k0, k1, k2, k3, k4, k5]
    rw [HRR.out]
    refine node_close (I := [100, 111]) (S := []) lb lt HRS8.out ((Only.set (p := ⟨w1.heap.size + 1 + 1, 4, none⟩) HO7.out (.inr (by show w.heap.size ≤ w1.heap.size + 1 + 1; omega)) _).trans HO8.out) (fun hb => ?_)
    exact absurd (by rw [← HV.out]; exact want_good hb) HFB.out
  · cases hkind : (refKind tk.1.k == 115)
    · obtain ⟨t1, t2⟩ := HTest.out (.inr hkind)
      go_quiet (fail)
      go_wp2_with fail
      refine (no_rs (HRS2.out.drewN nq)).mono ?_
      rintro e w3 ⟨rfl, hrs3, ho3⟩
      have HZ3 := hide (ho3.blk (show (w2.drewN nq).heap[w.heap.size]? = _ from HZ2.out) (by omega))
      have HX3 := hide (ho3.blk (show (w2.drewN nq).heap[w1.heap.size + 1 + 1]? = _ from HX2.out) (by omega))
      have HL3 := hide (ho3.blk (show (w2.drewN nq).heap[(w1.alloc (.cells (ndC I S ln nn va vn vc pa pn pc) 41)).heap.size]? = _ from HL2') (by simp; omega))
      have HO3 : Hid (Only b w w3) := (HO2.out.drewN nq).trans ho3
      have hsz3 : w2.heap.size ≤ w3.heap.size := ho3.size
      have HRS3 := hide hrs3
      clear hrs3 ho3 e0 e1 e2 d0 d1 p0 p1 p2 p3 p4 p5 fE x0 x1 x2 x3 x4 x5 fX lX HX2 HZ2 HE2 HO2 HRS2 HL2'
      go_wp2_with fail
      refine (must_rs HRS3.out 26 (by omega) (by omega) [61] rfl).mono ?_
      rintro e w4 ⟨rfl, hrs4, ho4⟩
      rw [HW26.out] at hrs4
      have HZ4 := hide (ho4.blk HZ3.out (by omega))
      have HX4 := hide (ho4.blk HX3.out (by omega))
      have HL4 := hide (ho4.blk HL3.out (by simp; omega))
      have HO4 : Hid (Only b w w4) := HO3.out.trans ho4
      have hsz4 := ho4.size
      have HRS4 := hide hrs4
      clear hrs4 ho4
      go_wp2_with fail
      refine (hu2.out _ HRS4.out).mono ?_
      rintro e w5 ⟨I5, S5, ln5, nn5, va5, vn5, vc5, pa5, pn5, pc5, rfl, hrs5, ho5, hrep5⟩
      have HZ5 := hide (ho5.blk HZ4.out (by omega))
      have HX5 := hide (ho5.blk HX4.out (by omega))
      have hL5 := ho5.blk HL4.out (by simp; omega)
      simp only [World.size_alloc] at hL5
      have HO5 : Hid (Only b w w5) := HO4.out.trans ho5
      have hsz5 := ho5.size
      obtain ⟨d0, d1, d2, d3, d4, d5, f2, l2⟩ := blk6 HX5.out
      have HRS5 := hide hrs5
      have hown := (own_lit (D := fun _ => True) (n := 1) (size := 6) hL5 rfl (by omega) trivial).1.alloc (.cells (ndC I5 S5 ln5 nn5 va5 vn5 vc5 pa5 pn5 pc5) 41)
      clear hrs5 ho5 hrep5 hL5
      go_wp2_with (at_builtin; refine wpl_app (w5.alloc (.cells (ndC I5 S5 ln5 nn5 va5 vn5 vc5 pa5 pn5 pc5) 41)) (ndC I5 S5 ln5 nn5 va5 vn5 vc5 pa5 pn5 pc5) 41 rfl (.tmp 75) (.tmp 77) 36 rfl 0 6 96 (.agg #[.string ⟨#[]⟩, .int .i64 0, .string ⟨#[]⟩, .int .i64 0, .slice none 0 0, .slice none 0 0]) Tryz.underlying36 infoNode rfl (by omega) (.slice (some ⟨w1.heap.size + 1, 0, none⟩) 1 1) 1 _ rfl (by simp; rfl) hown rfl nd_one (by omega) (by omega) (Nat.zero_le _) ?_; intro g cap1 w7 hown7 hgrow hat hg; replace hgrow : (w5.alloc (.cells (ndC I5 S5 ln5 nn5 va5 vn5 vc5 pa5 pn5 pc5) 41)).grownBy w7 (some (w1.heap.size + 1)) := hgrow; have hX7 := (hgrow.block _ (heap_lt (alloc_old HX5.out)) (by simp)).trans (alloc_old HX5.out); obtain ⟨p0, p1, p2, p3, p4, p5, f5, l5⟩ := blk6 hX7; have HX7 := hide hX7; clear hat hX7)
      have HGrow := hide hgrow
      have HZ7 := hide ((HGrow.out.block _ (heap_lt (alloc_old HZ5.out)) (by simp; omega)).trans (alloc_old HZ5.out))
      have HRS7 : Hid (RS b tb cap te xs w7 v.2) := (HRS5.out.alloc _).grown HGrow.out (by simp; omega) (by simp; omega)
      have HO7 : Hid (Only b w w7) := (HO5.out.alloc _).grown HGrow.out (fun k e => by injection e with e; omega)
      clear hgrow hown7 p0 p1 p2 p3 p4 p5 f5 d0 d1 d2 d3 d4 d5 f2 hown
      refine (must_rs (HRS7.out.other (p := ⟨w1.heap.size + 1 + 1, 4, none⟩) (by show b ≠ w1.heap.size + 1 + 1; omega) (by show tb ≠ w1.heap.size + 1 + 1; omega) _) 25 (by omega) (by omega) [59] rfl).mono ?_
      rintro e w8 ⟨rfl, hrs8, ho8⟩
      have hZ8 := ho8.blk (set_old (p := ⟨w1.heap.size + 1 + 1, 4, none⟩) HZ7.out (by show w.heap.size ≠ w1.heap.size + 1 + 1; omega)) (by omega)
      have hX8 := ho8.blk (heap_set (j := 4) HX7.out _) (by omega)
      simp only [List.setIfInBounds_toArray, List.set_cons_zero, List.set_cons_succ] at hX8
      obtain ⟨k0, k1, k2, k3, k4, k5, f1, l1⟩ := blk6 hZ8
      obtain ⟨q0, q1, q2, q3, q4, q5, f3, l3⟩ := blk6 hX8
      have HRS8 := hide hrs8
      have HO8 := hide ho8
      clear hrs8 ho8 hZ8 hX8
      go_wp2
      refine bodyPost_ret (v := .agg #[.string ⟨#[100, 111]⟩, .int .i64 ln, .string ⟨#[]⟩, .int .i64 0, .slice (some ⟨g, 0, none⟩) (1 + 1) cap1, .slice none 0 0]) ?_ rfl ?_
      · simp [results, Tryz.results41, go_sem, k0, k1, k2, k3, k4, k5]
      rw [HRR.out]
      refine node_close (I := [100, 111]) (S := []) lb lt HRS8.out ((Only.set (p := ⟨w1.heap.size + 1 + 1, 4, none⟩) HO7.out (.inr (by show w.heap.size ≤ w1.heap.size + 1 + 1; omega)) _).trans HO8.out) (fun hb => ?_)
      exact absurd (by rw [← HV.out]; exact want_good hb) HFB.out
    · go_quiet (fail)
      go_wp2_with fail
      refine (no_rs (HRS2.out.drewN nq)).mono ?_
      rintro e w3 ⟨rfl, hrs3, ho3⟩
      have HZ3 := hide (ho3.blk (show (w2.drewN nq).heap[w.heap.size]? = _ from HZ2.out) (by omega))
      have HX3 := hide (ho3.blk (show (w2.drewN nq).heap[w1.heap.size + 1 + 1]? = _ from HX2.out) (by omega))
      have HL3 := hide (ho3.blk (show (w2.drewN nq).heap[(w1.alloc (.cells (ndC I S ln nn va vn vc pa pn pc) 41)).heap.size]? = _ from HL2') (by simp; omega))
      have HO3 : Hid (Only b w w3) := (HO2.out.drewN nq).trans ho3
      have hsz3 : w2.heap.size ≤ w3.heap.size := ho3.size
      have HRS3 := hide hrs3
      clear hrs3 ho3 e0 e1 e2 d0 d1 p0 p1 p2 p3 p4 p5 fE x0 x1 x2 x3 x4 x5 fX lX HX2 HZ2 HE2 HO2 HRS2 HL2'
      go_wp2_with fail
      refine (must_rs HRS3.out 26 (by omega) (by omega) [61] rfl).mono ?_
      rintro e w4 ⟨rfl, hrs4, ho4⟩
      rw [HW26.out] at hrs4
      have HZ4 := hide (ho4.blk HZ3.out (by omega))
      have HX4 := hide (ho4.blk HX3.out (by omega))
      have HL4 := hide (ho4.blk HL3.out (by simp; omega))
      have HO4 : Hid (Only b w w4) := HO3.out.trans ho4
      have hsz4 := ho4.size
      have HRS4 := hide hrs4
      clear hrs4 ho4
      go_wp2_with fail
      refine (hu2.out _ HRS4.out).mono ?_
      rintro e w5 ⟨I5, S5, ln5, nn5, va5, vn5, vc5, pa5, pn5, pc5, rfl, hrs5, ho5, hrep5⟩
      have HZ5 := hide (ho5.blk HZ4.out (by omega))
      have HX5 := hide (ho5.blk HX4.out (by omega))
      have hL5 := ho5.blk HL4.out (by simp; omega)
      simp only [World.size_alloc] at hL5
      have HO5 : Hid (Only b w w5) := HO4.out.trans ho5
      have hsz5 := ho5.size
      obtain ⟨d0, d1, d2, d3, d4, d5, f2, l2⟩ := blk6 HX5.out
      have HRS5 := hide hrs5
      have hown := (own_lit (D := fun _ => True) (n := 1) (size := 6) hL5 rfl (by omega) trivial).1.alloc (.cells (ndC I5 S5 ln5 nn5 va5 vn5 vc5 pa5 pn5 pc5) 41)
      clear hrs5 ho5 hrep5 hL5
      go_wp2_with (at_builtin; refine wpl_app (w5.alloc (.cells (ndC I5 S5 ln5 nn5 va5 vn5 vc5 pa5 pn5 pc5) 41)) (ndC I5 S5 ln5 nn5 va5 vn5 vc5 pa5 pn5 pc5) 41 rfl (.tmp 75) (.tmp 77) 36 rfl 0 6 96 (.agg #[.string ⟨#[]⟩, .int .i64 0, .string ⟨#[]⟩, .int .i64 0, .slice none 0 0, .slice none 0 0]) Tryz.underlying36 infoNode rfl (by omega) (.slice (some ⟨w1.heap.size + 1, 0, none⟩) 1 1) 1 _ rfl (by simp; rfl) hown rfl nd_one (by omega) (by omega) (Nat.zero_le _) ?_; intro g cap1 w7 hown7 hgrow hat hg; replace hgrow : (w5.alloc (.cells (ndC I5 S5 ln5 nn5 va5 vn5 vc5 pa5 pn5 pc5) 41)).grownBy w7 (some (w1.heap.size + 1)) := hgrow; have hX7 := (hgrow.block _ (heap_lt (alloc_old HX5.out)) (by simp)).trans (alloc_old HX5.out); obtain ⟨p0, p1, p2, p3, p4, p5, f5, l5⟩ := blk6 hX7; have HX7 := hide hX7; clear hat hX7)
      have HGrow := hide hgrow
      have HZ7 := hide ((HGrow.out.block _ (heap_lt (alloc_old HZ5.out)) (by simp; omega)).trans (alloc_old HZ5.out))
      have HRS7 : Hid (RS b tb cap te xs w7 v.2) := (HRS5.out.alloc _).grown HGrow.out (by simp; omega) (by simp; omega)
      have HO7 : Hid (Only b w w7) := (HO5.out.alloc _).grown HGrow.out (fun k e => by injection e with e; omega)
      clear hgrow hown7 p0 p1 p2 p3 p4 p5 f5 d0 d1 d2 d3 d4 d5 f2 hown
      refine (must_rs (HRS7.out.other (p := ⟨w1.heap.size + 1 + 1, 4, none⟩) (by show b ≠ w1.heap.size + 1 + 1; omega) (by show tb ≠ w1.heap.size + 1 + 1; omega) _) 25 (by omega) (by omega) [59] rfl).mono ?_
      rintro e w8 ⟨rfl, hrs8, ho8⟩
      have hZ8 := ho8.blk (set_old (p := ⟨w1.heap.size + 1 + 1, 4, none⟩) HZ7.out (by show w.heap.size ≠ w1.heap.size + 1 + 1; omega)) (by omega)
      have hX8 := ho8.blk (heap_set (j := 4) HX7.out _) (by omega)
      simp only [List.setIfInBounds_toArray, List.set_cons_zero, List.set_cons_succ] at hX8
      obtain ⟨k0, k1, k2, k3, k4, k5, f1, l1⟩ := blk6 hZ8
      obtain ⟨q0, q1, q2, q3, q4, q5, f3, l3⟩ := blk6 hX8
      have HRS8 := hide hrs8
      have HO8 := hide ho8
      clear hrs8 ho8 hZ8 hX8
      go_wp2
      refine bodyPost_ret (v := .agg #[.string ⟨#[100, 111]⟩, .int .i64 ln, .string ⟨#[]⟩, .int .i64 0, .slice (some ⟨g, 0, none⟩) (1 + 1) cap1, .slice none 0 0]) ?_ rfl ?_
      · simp [results, Tryz.results41, go_sem, k0, k1, k2, k3, k4, k5]
      rw [HRR.out]
      refine node_close (I := [100, 111]) (S := []) lb lt HRS8.out ((Only.set (p := ⟨w1.heap.size + 1 + 1, 4, none⟩) HO7.out (.inr (by show w.heap.size ≤ w1.heap.size + 1 + 1; omega)) _).trans HO8.out) (fun hb => ?_)
      exact absurd (by rw [← HV.out]; exact want_good hb) HFB.out
end Go.Proofs.YtgccmgjbbcndbaaGreatDoor
/- Walk of statement over simple. -/
namespace Go.Proofs.YtgccmgjbbcndbaaGreatDoor
open Go.RowKit
open Go.Deep (BT)

theorem canSet_cases {x : BT Lab} (h : canSet x = true) : (rootLab x).kd = 6 ∨ (rootLab x).kd = 12 := by
  unfold canSet at h
  simpa using h

theorem simple_any {b tb cap te : Nat} {xs : List (Tk × List UInt8)} {n : Nat} (ih : RefPars b tb cap te xs n) (w : World) (s : PS) (r : BT Lab × PS) (hk : ¬ (5 ≤ kT s ∧ kT s ≤ 12 ∧ kT s ≠ 7)) (hs : RS b tb cap te xs w s) (hp : pars (n + 1) 9 0 .nil s = some r) :
    Calls Tryz.prog 41 #[.pointer (some ⟨b, 0, none⟩)] w (NodePost b tb cap te xs w r) := by
  obtain ⟨x, h1, ⟨h2, h3, v, h4, e⟩ | ⟨h2, h3, v, h4, e⟩ | ⟨h2, e⟩⟩ := pars_simple hk hp
  · rcases canSet_cases h2 with h6 | h6
    · exact simple_name ih w s r x v hs h1 h3 h4 h6 e
    · exact simple_put ih w s r x v hs h1 h3 h4 h6 e
  · exact simple_no ih w s r x v hs h1 h3 h4 h2 e
  · exact simple_do ih w s r x hs h1 h2 e

theorem stmt_words : ∀ k, k ≤ 17 → 4 ≤ k → ¬ (5 ≤ k ∧ k ≤ 12 ∧ k ≠ 7) → amongL (spell k) stmtWords = false ∧ (spell k).length ≤ 100000 := by decide +kernel
theorem refKind_119 (k : Nat) (h : k ≤ 40) : (refKind k != 119) = !(decide (4 ≤ k ∧ k ≤ 17)) := by
  revert h; revert k; decide +kernel

set_option maxRecDepth 100000 in
set_option maxHeartbeats 2000000 in
theorem stmt_simple {b tb cap te : Nat} {xs : List (Tk × List UInt8)} {n : Nat} (ih : RefPars b tb cap te xs n) (w : World) (s : PS) (r : BT Lab × PS) (hk : ¬ (5 ≤ kT s ∧ kT s ≤ 12 ∧ kT s ≠ 7)) (hs : RS b tb cap te xs w s) (hp : pars (n + 1) 9 0 .nil s = some r) :
    Calls Tryz.prog 22 #[.pointer (some ⟨b, 0, none⟩)] w (NodePost b tb cap te xs w r) := by
  have hu := hide (fun (w' : World) h => simple_any ih w' s r hk h hp)
  obtain ⟨lb, lt, lne⟩ := hs.lt
  have hk40 : kT s ≤ 40 := by obtain ⟨pl, h⟩ := hs; exact h.k40
  have hr119 := refKind_119 _ hk40
  have hsw := stmt_words (kT s)
  have HS := hide hs
  clear hp hs ih
  by_cases hw : 4 ≤ kT s ∧ kT s ≤ 17
  · have t1 : (refKind (kT s) != 119) = false := by rw [hr119]; simp [hw]
    obtain ⟨ha, hl⟩ := hsw hw.2 hw.1 hk
    have HK2 : Hid (kT s ≠ 2 ∧ kT s ≠ 1 ∧ kT s ≠ 3) := ⟨by omega, by omega, by omega⟩
    clear hsw hr119 hw hk
    go_enter Tryz.func22, Tryz.ntmps22
    go_wp2_with fail
    refine (peek_rs (HS.out.alloc _)).mono ?_
    rintro e w1 ⟨S1, rfl, hS1, hrs1, hb1⟩
    have hS2 : S1 = spell (kT s) := (hS1 HK2.out.1).trans (by unfold refS; rw [if_neg (by show ¬ (kT s = 1 ∨ kT s = 3); have := HK2.out; omega)]; rfl)
    subst hS2
    have HZ1 := hide (bblk hb1 (heap_alloc_new w _))
    have HO1 : Hid (Only b w w1) := ((Only.refl b w).alloc _).trans (Below.only hb1)
    have HRS1 := hide hrs1
    have lz1 := heap_lt HZ1.out
    clear hS1 hb1 hrs1
    go_wp2_with fail
    refine (among_any (spell (kT s)) stmtWords _ hl (by decide)).mono ?_
    rintro e w' ⟨rfl, rfl⟩
    rw [ha]
    go_wp2_with fail
    refine (hu.out _ ((HRS1.out.alloc _).alloc _)).mono ?_
    rintro e w3 ⟨I, S, ln, nn, va, vn, vc, pa, pn, pc, rfl, hrs3, ho3, hrep3⟩
    obtain ⟨k0, k1, k2, k3, k4, k5, f1, l1⟩ := blk6 (ho3.blk (alloc_old (alloc_old HZ1.out)) (by omega))
    have HRS3 := hide hrs3
    have HO3 : Hid (Only b w w3) := ((HO1.out.alloc _).alloc _).trans ho3
    have HRep3 := hide hrep3
    clear hrs3 ho3 hrep3
    go_wp2
    refine bodyPost_ret (v := .agg #[.string ⟨I.toArray⟩, .int .i64 ln, .string ⟨S.toArray⟩, .int .i64 nn, .slice va vn vc, .slice pa pn pc]) ?_ rfl ?_
    · simp [results, Tryz.results22, go_sem, k0, k1, k2, k3, k4, k5]
    refine node_close lb lt HRS3.out HO3.out (fun hb => ⟨(HRep3.out hb).1, RepF.keep (fun k hk hl => ⟨rfl, by simp at hk; omega⟩) _ _ (HRep3.out hb).2⟩)
  · have t1 : (refKind (kT s) != 119) = true := by rw [hr119]; simp [hw]
    clear hsw hr119 hw hk
    go_enter Tryz.func22, Tryz.ntmps22
    go_wp2_with fail
    refine (peek_rs (HS.out.alloc _)).mono ?_
    rintro e w1 ⟨S1, rfl, hS1, hrs1, hb1⟩
    have HZ1 := hide (bblk hb1 (heap_alloc_new w _))
    have HO1 : Hid (Only b w w1) := ((Only.refl b w).alloc _).trans (Below.only hb1)
    have HRS1 := hide hrs1
    have lz1 := heap_lt HZ1.out
    clear hS1 hb1 hrs1
    go_wp2_with fail
    refine (hu.out _ ((HRS1.out.alloc _).alloc _)).mono ?_
    rintro e w3 ⟨I, S, ln, nn, va, vn, vc, pa, pn, pc, rfl, hrs3, ho3, hrep3⟩
    obtain ⟨k0, k1, k2, k3, k4, k5, f1, l1⟩ := blk6 (ho3.blk (alloc_old (alloc_old HZ1.out)) (by omega))
    have HRS3 := hide hrs3
    have HO3 : Hid (Only b w w3) := ((HO1.out.alloc _).alloc _).trans ho3
    have HRep3 := hide hrep3
    clear hrs3 ho3 hrep3
    go_wp2
    refine bodyPost_ret (v := .agg #[.string ⟨I.toArray⟩, .int .i64 ln, .string ⟨S.toArray⟩, .int .i64 nn, .slice va vn vc, .slice pa pn pc]) ?_ rfl ?_
    · simp [results, Tryz.results22, go_sem, k0, k1, k2, k3, k4, k5]
    refine node_close lb lt HRS3.out HO3.out (fun hb => ⟨(HRep3.out hb).1, RepF.keep (fun k hk hl => ⟨rfl, by simp at hk; omega⟩) _ _ (HRep3.out hb).2⟩)
end Go.Proofs.YtgccmgjbbcndbaaGreatDoor
/- The reader's functions, all of them, by their fuel. -/
namespace Go.Proofs.YtgccmgjbbcndbaaGreatDoor
open Go.RowKit
open Go.Deep (BT)

theorem stmt_any {b tb cap te : Nat} {xs : List (Tk × List UInt8)} {n : Nat} (ih : RefPars b tb cap te xs n) (w : World) (s : PS) (r : BT Lab × PS) (hs : RS b tb cap te xs w s) (hp : pars (n + 1) 9 0 .nil s = some r) :
    Calls Tryz.prog 22 #[.pointer (some ⟨b, 0, none⟩)] w (NodePost b tb cap te xs w r) := by
  by_cases c1 : kT s = 5
  · exact stmt_let ih w s r c1 hs hp
  by_cases c2 : kT s = 6
  · obtain ⟨x, bl, h1, h2, ⟨h3, c, h4, e⟩ | ⟨h3, e⟩⟩ := pars_sif c2 hp
    · exact stmt_if1 ih w s r c2 x bl h1 h2 h3 c h4 e hs
    · exact stmt_if0 ih w s r c2 x bl h1 h2 h3 e hs
  by_cases c3 : kT s = 8
  · exact stmt_while ih w s r c3 hs hp
  by_cases c4 : kT s = 9
  · by_cases c5 : kT (takeS s) = 25
    · exact stmt_ret0 w s r c4 c5 hs hp
    · exact stmt_ret ih w s r c4 c5 hs hp
  by_cases c5 : kT s = 10
  · exact stmt_break w s r c5 hs hp
  by_cases c6 : kT s = 11
  · exact stmt_cont w s r c6 hs hp
  by_cases c7 : kT s = 12
  · exact stmt_print ih w s r c7 hs hp
  exact stmt_simple ih w s r (by omega) hs hp

theorem refPars {b tb cap te : Nat} {xs : List (Tk × List UInt8)} : ∀ N n, n ≤ N → n ≤ 500000 → RefPars b tb cap te xs n := by
  intro N
  induction N with
  | zero =>
    intro n hn _
    obtain rfl : n = 0 := by omega
    exact ⟨fun _ _ _ _ _ _ _ _ h => absurd h (pars_zero _ _ _ _ _), fun _ _ _ _ h => absurd h (pars_zero _ _ _ _ _), fun _ _ _ _ h => absurd h (pars_zero _ _ _ _ _), fun _ _ _ _ _ _ _ _ h => absurd h (pars_zero _ _ _ _ _), fun _ _ _ _ h => absurd h (pars_zero _ _ _ _ _), fun _ _ _ _ h => absurd h (pars_zero _ _ _ _ _)⟩
  | succ N ih =>
    intro n hn h5
    cases n with
    | zero => exact ih 0 (by omega) (by omega)
    | succ n =>
      have ihn : ∀ m, m ≤ n → RefPars b tb cap te xs m := fun m hm => ih m (by omega) (by omega)
      exact ⟨fun w s a q r ha hq hs hp => expr_any ihn w s a q r ha hq hs hp, fun w s r hs hp => unary_any ihn w s r hs hp, fun w s r hs hp => atom_any (ihn n (Nat.le_refl _)) w s r hs hp,
        fun w s k q r hk hq hs hp => list_any ihn (by omega) w s k q r hk hq hs hp, fun w s r hs hp => block_any ihn (by omega) w s r hs hp, fun w s r hs hp => stmt_any (ihn n (Nat.le_refl _)) w s r hs hp⟩
end Go.Proofs.YtgccmgjbbcndbaaGreatDoor
