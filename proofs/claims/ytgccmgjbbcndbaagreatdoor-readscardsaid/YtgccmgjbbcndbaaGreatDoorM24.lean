import Derived.Test.YtgccmgjbbcndbaaGreatDoorM23
import Derived.Test.YtgccmgjbbcndbaaGreatDoorM11
/- Walk of simple: what is put into an array. -/
namespace Go.Proofs.YtgccmgjbbcndbaaGreatDoor
open Go.RowKit
open Go.Deep (BT)

set_option maxRecDepth 100000 in
set_option maxHeartbeats 2000000 in
theorem simple_put {b tb cap te : Nat} {xs : List (Tk × List UInt8)} {n : Nat} (ih : RefPars b tb cap te xs n) (w : World) (s : PS) (r x v : BT Lab × PS) (hs : RS b tb cap te xs w s) (hp1 : pars n 0 0 .nil s = some x) (hk : kT x.2 = 26) (hp2 : pars n 0 0 .nil (takeS x.2) = some v) (h6 : (rootLab x.1).kd = 12) (hrr : r = (setNode x.1 v.1, wantS 25 v.2)) :
    Calls Tryz.prog 41 #[.pointer (some ⟨b, 0, none⟩)] w (NodePost b tb cap te xs w r) := by
  have HRR := hide hrr
  have hu := hide (fun (w' : World) h => ih.expr w' s 0 0 x (by omega) (by omega) h hp1)
  have hu2 := hide (fun (w' : World) h => ih.expr w' (takeS x.2) 0 0 v (by omega) (by omega) h hp2)
  have hq : (kT x.2 == 26) = true := by rw [hk]; rfl
  have hgood : x.2.bad = 0 := kT_good (hs.wf |> fun h => (pars_reach _ _ _ _ _ _ h hp1).1) (by omega)
  have hless := expr_less _ _ _ _ hs.wf hp1
  have hlast := pars_expr_last _ _ _ _ hs.wf (by omega) hp1
  have hkd := expr_kd _ _ _ _ hp1
  have HW26 : Hid (wantS 26 x.2 = takeS x.2) := by
    show _ = _
    unfold wantS; rw [if_pos hk]
  have hone := (oneT_all _).1 _ _ _ hp1
  obtain ⟨lb, lt, lne⟩ := hs.lt
  have HS := hide hs
  clear hp1 hp2 hrr ih
  go_enter Tryz.func41, Tryz.ntmps41
  go_wp2_with fail
  refine (hu.out _ (HS.out.alloc _)).mono ?_
  rintro e w1 ⟨I, S, ln, nn, va, vn, vc, pa, pn, pc, rfl, hrs1, ho1, hrep1⟩
  have HZ1 := hide (ho1.blk (heap_alloc_new w _) (by omega))
  have HO1 : Hid (Only b w w1) := ((Only.refl b w).alloc _).trans ho1
  have HRS1 := hide hrs1
  have HRep1 := hide (hrep1 hgood)
  have lz1 := heap_lt HZ1.out
  clear ho1 hrep1
  go_wp2_with fail
  refine (is_rs (((HRS1.out.alloc _).alloc _).alloc _) 26 (by omega) (by omega) [61] rfl).mono ?_
  rintro e w2 ⟨rfl, hrs2, hb2⟩
  rw [hq]
  have lw1 : b < w1.heap.size := HRS1.out.lt.1
  have hsz2 : w1.heap.size + 3 ≤ w2.heap.size := by have := hb2.size; simpa using this
  have HX2 := hide (bblk hb2 (heap_alloc_new ((w1.alloc (.cells (ndC I S ln nn va vn vc pa pn pc) 41)).alloc (.cells (ndC I S ln nn va vn vc pa pn pc) 41)) (.cells #[.string ⟨#[100, 111]⟩, .int .i64 ln, .string ⟨#[]⟩, .int .i64 0, .slice (some ⟨w1.heap.size + 1, 0, none⟩) 1 1, .slice none 0 0] 41)))
  have hX2' := HX2.out
  simp only [World.size_alloc] at hX2'
  obtain ⟨x0, x1, x2, x3, x4, x5, fX, lX⟩ := blk6 hX2'
  replace HX2 := hide hX2'
  clear hX2'
  have HE2 := hide (bblk hb2 (alloc_old (alloc_old (heap_alloc_new w1 (.cells (ndC I S ln nn va vn vc pa pn pc) 41)))))
  have HZ2 := hide (bblk hb2 (alloc_old (alloc_old (alloc_old HZ1.out))))
  have HK2 : Hid (∀ k, k < w1.heap.size → w2.heap[k]? = w1.heap[k]?) := fun k hk => (hb2.block k (by simp; omega)).trans ((Below.heap_alloc _ _ _ (by simp; omega)).trans ((Below.heap_alloc _ _ _ (by simp; omega)).trans (Below.heap_alloc _ _ _ hk)))
  have HO2 : Hid (Only b w w2) := (((HO1.out.alloc _).alloc _).alloc _).trans (Below.only hb2)
  have HRS2 := hide hrs2
  obtain ⟨pl, hpl⟩ := hrs2
  have hpos := less_at HS.out hpl hgood hless
  have hlt := hpl.lt
  have hfew := hpl.toks.few
  obtain ⟨j, rfl⟩ : ∃ j, pl = j + 1 := ⟨pl - 1, by omega⟩
  obtain ⟨e0, e1, e2⟩ := hpl.cells
  replace e1 : w2.cell? ⟨b, 1, none⟩ = some (.int .i64 ((j : Int) + 1)) := e1
  have hj : j < xs.length := by omega
  have d0 := hpl.tkCell j 0 hj (by omega)
  have d1 := hpl.tkCell j 1 hj (by omega)
  have lb2 := heap_lt hpl.rd
  have ltb2 := hpl.tbl
  rw [tkC] at d0 d1
  simp only [Nat.add_zero, List.getElem?_cons_zero, List.getElem?_cons_succ] at d0 d1
  have hkk := took_at HS.out hpl hgood (hlast.2.1 h6) hj
  have hc : ((xs[j]).2 == [41]) = false := by
    have hkk' : (xs[j]).1.k = 23 := hkk
    have := hpl.toks.ok (xs[j]) (List.getElem_mem hj) (by rw [hkk']; decide)
    rw [this]
    unfold refS
    rw [hkk']; rfl
  obtain ⟨hI, hln, _, h12, c1, hown, hkids⟩ := rep_root HRep1.out.1 HRep1.out.2 (by rw [h6]; decide)
  have hI' : I = [105, 110, 100, 101, 120] := hI.trans (by rw [h6]; rfl)
  have HLn := hide (hln (by rw [h6]; rfl))
  obtain rfl : vc = vn := h12 h6
  have HOwn1 := hide hown
  have HKids1 := hide hkids
  have HVN : Hid (vc = blen (kidsOf x.1)) := (own_cells hown.1).1
  have hvc : vc ≤ 2 := by have := hone.2 h6; have := HVN.out; omega
  subst hI'
  clear hI hln hkk hown hkids h12
  obtain ⟨p0, p1, p2, p3, p4, p5, fE, lE⟩ := blk6 HE2.out
  clear hb2 hpl hs hless hlast
  generalize xs[j] = tk at *
  go_wp2_with fail
  all_goals go_quiet (fail)
  all_goals go_wp2_with fail
  all_goals
    have HRS3 := hide (RS.other6 (HRS2.out.drewN nq) (g := w1.heap.size + 1 + 1) (by omega) (by omega) (.string ⟨#[112, 117, 116]⟩) (.int .i64 ln) (.string ⟨#[]⟩) (.int .i64 0) (.slice va vc vc) (.slice none 0 0))
    have HO3 := hide (Only.set6 (HO2.out.drewN nq) (g := w1.heap.size + 1 + 1) (by omega) (.string ⟨#[112, 117, 116]⟩) (.int .i64 ln) (.string ⟨#[]⟩) (.int .i64 0) (.slice va vc vc) (.slice none 0 0))
    have HX3 := hide (set6_blk (w := w2.drewN nq) HX2.out (.string ⟨#[112, 117, 116]⟩) (.int .i64 ln) (.string ⟨#[]⟩) (.int .i64 0) (.slice va vc vc) (.slice none 0 0))
    have HZ3 := hide ((set6_same (w := w2.drewN nq) (k := w.heap.size) (g := w1.heap.size + 1 + 1) (by omega) (.string ⟨#[112, 117, 116]⟩) (.int .i64 ln) (.string ⟨#[]⟩) (.int .i64 0) (.slice va vc vc) (.slice none 0 0)).trans HZ2.out)
    have HK3 : Hid (∀ k, k < w1.heap.size → _) := hide (fun k (hk : k < w1.heap.size) => (set6_same (w := w2.drewN nq) (k := k) (g := w1.heap.size + 1 + 1) (by omega) (.string ⟨#[112, 117, 116]⟩) (.int .i64 ln) (.string ⟨#[]⟩) (.int .i64 0) (.slice va vc vc) (.slice none 0 0)).trans (HK2.out k hk))
    have hsz3 := set6_size (w2.drewN nq) (w1.heap.size + 1 + 1) (.string ⟨#[112, 117, 116]⟩) (.int .i64 ln) (.string ⟨#[]⟩) (.int .i64 0) (.slice va vc vc) (.slice none 0 0)
    replace hsz3 := hsz3.trans (show (w2.drewN nq).heap.size = w2.heap.size from rfl)
    clear e0 e1 e2 d0 d1 p0 p1 p2 p3 p4 p5 fE lE x0 x1 x2 x3 x4 x5 fX lX hc HX2 HZ2 HE2 HO2 HRS2
    generalize ((((((w2.drewN nq).setCell ⟨w1.heap.size + 1 + 1, 0, none⟩ (.string ⟨#[112, 117, 116]⟩)).setCell ⟨w1.heap.size + 1 + 1, 1, none⟩ (.int .i64 ln)).setCell ⟨w1.heap.size + 1 + 1, 2, none⟩ (.string ⟨#[]⟩)).setCell ⟨w1.heap.size + 1 + 1, 3, none⟩ (.int .i64 0)).setCell ⟨w1.heap.size + 1 + 1, 4, none⟩ (.slice va vc vc)).setCell ⟨w1.heap.size + 1 + 1, 5, none⟩ (.slice none 0 0) = W3 at *
    refine (must_rs HRS3.out 26 (by omega) (by omega) [61] rfl).mono ?_
    rintro e w4 ⟨rfl, hrs4, ho4⟩
    rw [HW26.out] at hrs4
    have HZ4 := hide (ho4.blk HZ3.out (by omega))
    have HX4 := hide (ho4.blk HX3.out (by omega))
    have HO4 : Hid (Only b w w4) := HO3.out.trans ho4
    have hsz4 := ho4.size
    have HK4 : Hid (∀ k, k < w1.heap.size → k ≠ b → w4.heap[k]? = W3.heap[k]?) := fun k h1 h2 => ho4.block k (by omega) h2
    have HRS4 := hide hrs4
    clear hrs4 ho4
    go_wp2_with fail
    refine (hu2.out _ HRS4.out).mono ?_
    rintro e w5 ⟨I, S5, ln5, nn5, va5, vn5, vc5, pa5, pn5, pc5, rfl, hrs5, ho5, hrep5⟩
    have HZ5 := hide (ho5.blk HZ4.out (by omega))
    have HX5 := hide (ho5.blk HX4.out (by omega))
    have HK5 : Hid (∀ k, w.heap.size < k → k < w1.heap.size → w5.heap[k]? = w1.heap[k]?) := fun k h1 h2 => (ho5.block k (by omega) (by omega)).trans ((HK4.out k h2 (by omega)).trans (HK3.out k h2))
    have HO5 : Hid (Only b w w5) := HO4.out.trans ho5
    have hsz5 := ho5.size
    obtain ⟨d0, d1, d2, d3, d4, d5, f2, l2⟩ := blk6 HX5.out
    have HRS5 := hide hrs5
    have HRep5 := hide hrep5
    have HOwn5 : Hid (OwnsD (fun k => w.heap.size < k ∧ k < w1.heap.size) w5 41 6 (.slice va vc vc) (blen (kidsOf x.1)) c1) := HOwn1.out.keep (fun k hk hl => ⟨HK5.out k (by simp at hk; omega) hl, by simp at hk; omega, hl⟩)
    have HKids5 : Hid (RepF (fun k => w.heap.size < k ∧ k < w1.heap.size) w5 (kidsOf x.1) c1) := RepF.keep (fun k hk hl => ⟨HK5.out k (by simp at hk; omega) hl, by simp at hk; omega, hl⟩) _ _ HKids1.out
    have hnil := HOwn5.out.1
    rw [← HVN.out] at hnil
    clear hrs5 ho5 hrep5
    go_wp2_with (at_builtin; refine wpl_appf (w5.alloc (.cells (ndC I S5 ln5 nn5 va5 vn5 vc5 pa5 pn5 pc5) 41)) (ndC I S5 ln5 nn5 va5 vn5 vc5 pa5 pn5 pc5) 41 rfl (.tmp 75) (.tmp 77) 36 rfl 0 6 96 (.agg #[.string ⟨#[]⟩, .int .i64 0, .string ⟨#[]⟩, .int .i64 0, .slice none 0 0, .slice none 0 0]) Tryz.underlying36 infoNode rfl (by omega) va vc c1 rfl (by simp; rfl) (hnil.alloc _) rfl nd_one (by omega) (by omega) ?_; intro g cap1 w7 hown7 hgrow hat hg; have HG : Hid (w5.heap.size + 1 < g) := (by show _ < _; simpa using hat); replace hgrow : (w5.alloc (.cells (ndC I S5 ln5 nn5 va5 vn5 vc5 pa5 pn5 pc5) 41)).grownBy w7 none := hgrow; have hX7 := (hgrow.block _ (heap_lt (alloc_old HX5.out)) (by simp)).trans (alloc_old HX5.out); obtain ⟨p0, p1, p2, p3, p4, p5, f5, l5⟩ := blk6 hX7; have HX7 := hide hX7; clear hat hX7)
    have HGrow := hide hgrow
    have HOwn7 := hide hown7
    have HZ7 := hide ((HGrow.out.block _ (heap_lt (alloc_old HZ5.out)) (by simp)).trans (alloc_old HZ5.out))
    have HRS7 : Hid (RS b tb cap te xs w7 v.2) := (HRS5.out.alloc _).grown HGrow.out (by simp) (by simp)
    have HO7 : Hid (Only b w w7) := (HO5.out.alloc _).grown HGrow.out (fun k e => by cases e)
    clear hgrow hown7 p0 p1 p2 p3 p4 p5 f5 d0 d1 d2 d3 d4 d5 f2 hnil
    refine (must_rs (HRS7.out.other (p := ⟨w1.heap.size + 1 + 1, 4, none⟩) (by show b ≠ w1.heap.size + 1 + 1; omega) (by show tb ≠ w1.heap.size + 1 + 1; omega) _) 25 (by omega) (by omega) [59] rfl).mono ?_
    rintro e w8 ⟨rfl, hrs8, ho8⟩
    have hZ8 := ho8.blk (set_old (p := ⟨w1.heap.size + 1 + 1, 4, none⟩) HZ7.out (by show w.heap.size ≠ w1.heap.size + 1 + 1; omega)) (by omega)
    have hX8 := ho8.blk (heap_set (j := 4) HX7.out _) (by omega)
    simp only [List.setIfInBounds_toArray, List.set_cons_zero, List.set_cons_succ] at hX8
    obtain ⟨k0, k1, k2, k3, k4, k5, f1, l1⟩ := blk6 hZ8
    obtain ⟨q0, q1, q2, q3, q4, q5, f3, l3⟩ := blk6 hX8
    have HRS8 := hide hrs8
    have HO8 := hide ho8
    clear hrs8 ho8 hZ8 hX8
    go_wp2
    refine bodyPost_ret (v := .agg #[.string ⟨#[112, 117, 116]⟩, .int .i64 ln, .string ⟨#[]⟩, .int .i64 0, .slice (some ⟨g, 0, none⟩) (vc + 1) cap1, .slice none 0 0]) ?_ rfl ?_
    · simp [results, Tryz.results41, go_sem, k0, k1, k2, k3, k4, k5]
    rw [HRR.out]
    have hset : setNode x.1 v.1 = nd (lab0 29 (rootLab x.1).line) (bapp (kidsOf x.1) v.1) := by unfold setNode; rw [if_neg (by omega)]
    rw [hset]
    refine node_close (I := [112, 117, 116]) (S := []) lb lt HRS8.out ((Only.set (p := ⟨w1.heap.size + 1 + 1, 4, none⟩) HO7.out (.inr (by show w.heap.size ≤ w1.heap.size + 1 + 1; omega)) _).trans HO8.out) (fun hb => ⟨rfl, ?_⟩)
    have hb5 : v.2.bad = 0 := want_good hb
    have hr4 := HRep5.out hb5
    have hg7 : ∀ k, k < w5.heap.size → w7.heap[k]? = w5.heap[k]? := fun k hk => (HGrow.out.block k (by simp; omega) (by simp)).trans (Below.heap_alloc w5 _ k hk)
    have hrep7 : RepF (fun k => w1.heap.size + 1 + 1 < k ∨ (w.heap.size < k ∧ k < w1.heap.size)) w7 (bapp (kidsOf x.1) v.1) (c1 ++ (ndC I S5 ln5 nn5 va5 vn5 vc5 pa5 pn5 pc5).toList) :=
      RepF.app _ _ _ _ (RepF.keep (fun k hk hl => ⟨hg7 k hl, .inr hk⟩) _ _ HKids5.out) (RepF.keep (fun k hk hl => ⟨hg7 k hl, .inl (by have h : w4.heap.size ≤ k := hk; omega)⟩) _ _ hr4.2)
    have hown7 : OwnsD (fun k => w1.heap.size + 1 + 1 < k ∨ (w.heap.size < k ∧ k < w1.heap.size)) w7 41 6 (.slice (some ⟨g, 0, none⟩) (vc + 1) cap1) (blen (bapp (kidsOf x.1) v.1)) (c1 ++ (ndC I S5 ln5 nn5 va5 vn5 vc5 pa5 pn5 pc5).toList) := by
      refine ⟨?_, fun k hk => .inl ?_⟩
      · rw [bapp_len, hr4.1, ← HVN.out]; exact HOwn7.out
      · simp only [Value.ownBlock, Option.some.injEq] at hk; rw [← hk]; have := HG.out; omega
    have hkeep : ∀ k, (w1.heap.size + 1 + 1 < k ∨ (w.heap.size < k ∧ k < w1.heap.size)) → k < w7.heap.size → w8.heap[k]? = w7.heap[k]? ∧ w.heap.size < k := fun k hk hl =>
      ⟨(HO8.out.block k (by simp [World.setCell]; exact hl) (by omega)).trans (Below.heap_setCell _ _ _ _ (by show k ≠ w1.heap.size + 1 + 1; omega)), by omega⟩
    exact RepF.one _ (bapp (kidsOf x.1) v.1) _ _ _ _ _ _ _ none 0 0 _ (by show (29 : Nat) ≠ 8; decide) (by show (29 : Nat) ≠ 20; decide) rfl (fun _ => HLn.out) (fun h => absurd h (by show ¬ (nameSure 29 = true); decide)) (fun h => absurd h (by show ¬ ((29 : Nat) = 1); decide)) (hown7.keep hkeep) (RepF.keep hkeep _ _ hrep7)
end Go.Proofs.YtgccmgjbbcndbaaGreatDoor
