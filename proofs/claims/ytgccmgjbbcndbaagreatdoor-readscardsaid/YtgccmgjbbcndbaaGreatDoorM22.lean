import Derived.Test.YtgccmgjbbcndbaaGreatDoorM21
/- Walk of statement: let. -/
namespace Go.Proofs.YtgccmgjbbcndbaaGreatDoor
open Go.RowKit
open Go.Deep (BT)

theorem RS.wantName {b tb cap te : Nat} {xs : List (Tk × List UInt8)} {w : World} {s : PS} (h : RS b tb cap te xs w s) (hb : (wantS 1 s).bad = 0) : kT s = 1 := by
  by_cases hk : kT s = 1
  · exact hk
  · exfalso
    unfold wantS at hb
    rw [if_neg hk] at hb
    exact h.failBad hb

set_option maxRecDepth 100000 in
set_option maxHeartbeats 2000000 in
theorem stmt_let {b tb cap te : Nat} {xs : List (Tk × List UInt8)} {n : Nat} (ih : RefPars b tb cap te xs n) (w : World) (s : PS) (r : BT Lab × PS) (hk : kT s = 5) (hs : RS b tb cap te xs w s) (hp : pars (n + 1) 9 0 .nil s = some r) :
    Calls Tryz.prog 22 #[.pointer (some ⟨b, 0, none⟩)] w (NodePost b tb cap te xs w r) := by
  obtain ⟨x, hp1, hrr⟩ := pars_slet hk hp
  have HRR := hide hrr
  have hu := hide (fun (w' : World) h => ih.expr w' (wantS 26 (wantS 1 (takeS s))) 0 0 x (by omega) (by omega) h hp1)
  have HST := hide (fun h1 h2 => pars_sticky (s := wantS 26 (wantS 1 (takeS s))) h1 h2 _ _ _ _ _ hp1)
  clear hrr hp1 ih
  obtain ⟨lb, lt, lne⟩ := hs.lt
  have HS := hide hs
  have HK0 : Hid (kT s ≠ 0) := by show _ ≠ _; omega
  clear hp hs
  go_enter Tryz.func22, Tryz.ntmps22
  go_wp2_with fail
  refine (peek_rs (HS.out.alloc _)).mono ?_
  rintro e w1 ⟨S1, rfl, hS1, hrs1, hb1⟩
  have hS2 : S1 = [108, 101, 116] := (hS1 (by show kT s ≠ 2; omega)).trans (by unfold refS; rw [if_neg (by show ¬ (kT s = 1 ∨ kT s = 3); omega)]; show spell (kT s) = _; rw [hk]; rfl)
  subst hS2
  clear hS1
  have HZ1 := hide (bblk hb1 (heap_alloc_new w _))
  have HO1 : Hid (Only b w w1) := ((Only.refl b w).alloc _).trans (Below.only hb1)
  obtain ⟨pl, hpl⟩ := hrs1
  obtain ⟨e0, e1, e2⟩ := hpl.cells
  have fb := frozen_row hpl.rd
  have lb1 := heap_lt hpl.rd
  have hfew := hpl.toks.few
  have hpll := hpl.lt
  obtain ⟨c0, c1, c2, c3, c4, c5, f0, l0⟩ := blk6 HZ1.out
  have HM : Hid (RS b tb cap te xs (w1.setCell ⟨b, 1, none⟩ (.int .i64 ((pl : Int) + 1))) (takeS s)) := ⟨pl + 1, hpl.move HK0.out _ rfl⟩
  have HO2 : Hid (Only b w (w1.setCell ⟨b, 1, none⟩ (.int .i64 ((pl : Int) + 1)))) := Only.set (p := ⟨b, 1, none⟩) HO1.out (.inl rfl) _
  have HZ2 := hide (set_old (p := ⟨b, 1, none⟩) (u := .int .i64 ((pl : Int) + 1)) HZ1.out (by show w.heap.size ≠ b; omega))
  have HL2 : Hid ((w1.setCell ⟨b, 1, none⟩ (.int .i64 ((pl : Int) + 1))).heap.size = w1.heap.size) := by
    show _ = _
    simp [World.setCell]
  clear hpl hb1 e0 e2
  have hkr : refKind (kT s) = 119 := by rw [hk]; rfl
  rw [hkr]
  have HK := hide hk
  clear hk hkr
  go_wp2_with fail
  refine (among_any [108, 101, 116] stmtWords _ (by decide) (by decide)).mono ?_
  rintro e w' ⟨rfl, rfl⟩
  rw [show amongL [108, 101, 116] stmtWords = true from by decide +kernel]
  go_wp2_with fail
  refine (name_rs ((HM.out.alloc _).alloc _)).mono ?_
  rintro e w3 ⟨⟨S3, rfl, hS3⟩, hrs3, ho3⟩
  have hZ3 := ho3.blk (alloc_old (alloc_old HZ2.out)) (by omega)
  have hX3 := ho3.blk (g := w1.heap.size + 1) (by have := heap_alloc_new ((w1.setCell ⟨b, 1, none⟩ (.int .i64 ((pl : Int) + 1))).alloc (.cells #[.int .u8 119, .string ⟨#[108, 101, 116]⟩, .int .i64 (hdT s).n, .int .i64 ((hdT s).line : Nat)] 79)) (.cells #[.string ⟨#[108, 101, 116]⟩, .int .i64 ((hdT s).line : Nat), .string ⟨#[]⟩, .int .i64 0, .slice none 0 0, .slice none 0 0] 41); rw [World.size_alloc, HL2.out] at this; exact this) (by omega)
  have HZ3 := hide hZ3
  have HX3 := hide hX3
  have hsz3 : w1.heap.size + 2 ≤ w3.heap.size := by have := ho3.size; rw [World.size_alloc, World.size_alloc, HL2.out] at this; exact this
  have HO3 : Hid (Only b w w3) := ((HO2.out.alloc _).alloc _).trans ho3
  obtain ⟨d0, d1, d2, d3, d4, d5, f2, l2⟩ := blk6 hX3
  have HRS3 := hide hrs3
  have HS3 := hide hS3
  clear hrs3 ho3 hS3 hZ3 hX3 c0 c1 c2 c3 c4 c5 f0 e1 fb
  go_wp2_with fail
  refine (must_rs (RS.alloc (RS.other (p := ⟨w1.heap.size + 1, 1, none⟩) (RS.other (p := ⟨w1.heap.size + 1, 2, none⟩) HRS3.out (by show b ≠ w1.heap.size + 1; omega) (by show tb ≠ w1.heap.size + 1; omega) _) (by show b ≠ w1.heap.size + 1; omega) (by show tb ≠ w1.heap.size + 1; omega) _) _) 26 (by omega) (by omega) [61] rfl).mono ?_
  rintro e w4 ⟨rfl, hrs4, ho4⟩
  have HO3b : Hid (Only b w ((w3.setCell ⟨w1.heap.size + 1, 2, none⟩ (.string ⟨S3.toArray⟩)).setCell ⟨w1.heap.size + 1, 1, none⟩ (.int .i64 ((hdT (takeS s)).line : Nat)))) := Only.set (p := ⟨w1.heap.size + 1, 1, none⟩) (Only.set (p := ⟨w1.heap.size + 1, 2, none⟩) HO3.out (.inr (by show w.heap.size ≤ w1.heap.size + 1; omega)) _) (.inr (by show w.heap.size ≤ w1.heap.size + 1; omega)) _
  have HZ4 := hide (ho4.blk (alloc_old (set_old (p := ⟨w1.heap.size + 1, 1, none⟩) (set_old (p := ⟨w1.heap.size + 1, 2, none⟩) HZ3.out (by show w.heap.size ≠ w1.heap.size + 1; omega)) (by show w.heap.size ≠ w1.heap.size + 1; omega))) (by omega))
  have hX4 := ho4.blk (alloc_old (heap_set (j := 1) (heap_set (j := 2) HX3.out _) _)) (by omega)
  simp only [List.setIfInBounds_toArray, List.set_cons_zero, List.set_cons_succ] at hX4
  have HX4 := hide hX4
  have HO4 : Hid (Only b w w4) := (HO3b.out.alloc _).trans ho4
  have hsz4 : w3.heap.size + 1 ≤ w4.heap.size := by have := ho4.size; simpa [World.setCell] using this
  have HRS4 := hide hrs4
  clear hrs4 ho4 hX4 d0 d1 d2 d3 d4 d5 f2
  go_wp2_with fail
  refine (hu.out _ HRS4.out).mono ?_
  rintro e w5 ⟨I, S, ln, nn, va, vn, vc, pa, pn, pc, rfl, hrs5, ho5, hrep5⟩
  have HZ5 := hide (ho5.blk HZ4.out (by omega))
  have HX5 := hide (ho5.blk HX4.out (by omega))
  have HO5 : Hid (Only b w w5) := HO4.out.trans ho5
  have hsz5 := ho5.size
  obtain ⟨d0, d1, d2, d3, d4, d5, f2, l2⟩ := blk6 HX5.out
  have HRS5 := hide hrs5
  have HRep5 := hide hrep5
  have hnil := World.ownsRow_nil (w5.alloc (.cells (ndC I S ln nn va vn vc pa pn pc) 41)) 0 41 6
  clear hrs5 ho5 hrep5
  go_wp2_with (at_builtin; refine wpl_app (w5.alloc (.cells (ndC I S ln nn va vn vc pa pn pc) 41)) (ndC I S ln nn va vn vc pa pn pc) 41 rfl (.tmp 57) (.tmp 59) 36 rfl 0 6 96 (.agg #[.string ⟨#[]⟩, .int .i64 0, .string ⟨#[]⟩, .int .i64 0, .slice none 0 0, .slice none 0 0]) Tryz.underlying36 infoNode rfl (by omega) (.slice none 0 0) 0 [] rfl (by simp; rfl) hnil rfl nd_one (by omega) (by omega) (Nat.zero_le _) ?_; intro g cap1 w7 hown7 hgrow hat hg; have HG : Hid (g = w5.heap.size + 1 + 1) := (by show g = _; rcases hat with h | h; exact absurd h (by simp [Value.ownBlock]); simpa using h); replace hgrow : (w5.alloc (.cells (ndC I S ln nn va vn vc pa pn pc) 41)).grownBy w7 none := hgrow; have hX7 := (hgrow.block _ (heap_lt (alloc_old HX5.out)) (by simp)).trans (alloc_old HX5.out); obtain ⟨p0, p1, p2, p3, p4, p5, f5, l5⟩ := blk6 hX7; have HX7 := hide hX7; clear hat hX7)
  have HGrow := hide hgrow
  have HOwn7 := hide hown7
  have HZ7 := hide ((HGrow.out.block _ (heap_lt (alloc_old HZ5.out)) (by simp)).trans (alloc_old HZ5.out))
  have HRS7 : Hid (RS b tb cap te xs w7 x.2) := (HRS5.out.alloc _).grown HGrow.out (by simp) (by simp)
  have HO7 : Hid (Only b w w7) := (HO5.out.alloc _).grown HGrow.out (fun k e => by cases e)
  clear hgrow hown7 p0 p1 p2 p3 p4 p5 f5 d0 d1 d2 d3 d4 d5 f2 hnil
  refine (must_rs (HRS7.out.other (p := ⟨w1.heap.size + 1, 4, none⟩) (by show b ≠ w1.heap.size + 1; omega) (by show tb ≠ w1.heap.size + 1; omega) _) 25 (by omega) (by omega) [59] rfl).mono ?_
  rintro e w8 ⟨rfl, hrs8, ho8⟩
  have hZ8 := ho8.blk (set_old (p := ⟨w1.heap.size + 1, 4, none⟩) HZ7.out (by show w.heap.size ≠ w1.heap.size + 1; omega)) (by omega)
  have hX8 := ho8.blk (heap_set (j := 4) HX7.out _) (by omega)
  simp only [List.setIfInBounds_toArray, List.set_cons_zero, List.set_cons_succ] at hX8
  obtain ⟨k0, k1, k2, k3, k4, k5, f1, l1⟩ := blk6 hZ8
  obtain ⟨q0, q1, q2, q3, q4, q5, f3, l3⟩ := blk6 hX8
  have HRS8 := hide hrs8
  have HO8 := hide ho8
  clear hrs8 ho8 hZ8 hX8
  go_wp2
  refine bodyPost_ret (v := .agg #[.string ⟨#[108, 101, 116]⟩, .int .i64 ((hdT (takeS s)).line : Nat), .string ⟨S3.toArray⟩, .int .i64 0, .slice (some ⟨g, 0, none⟩) (0 + 1) cap1, .slice none 0 0]) ?_ rfl ?_
  · simp [results, Tryz.results22, go_sem, k0, k1, k2, k3, k4, k5]
  rw [HRR.out]
  refine node_close (I := [108, 101, 116]) lb lt HRS8.out ((Only.set (p := ⟨w1.heap.size + 1, 4, none⟩) HO7.out (.inr (by show w.heap.size ≤ w1.heap.size + 1; omega)) _).trans HO8.out) (fun hb => ⟨rfl, ?_⟩)
  have hb5 : x.2.bad = 0 := want_good hb
  have hb4 : (wantS 26 (wantS 1 (takeS s))).bad = 0 := by
    rcases Nat.eq_zero_or_pos (wantS 26 (wantS 1 (takeS s))).bad with h | h
    · exact h
    · exfalso
      have hne : (wantS 26 (wantS 1 (takeS s))).bad ≠ 0 := by omega
      have := HST.out (HRS4.out.sticky hne) hne
      rw [this] at hb5; omega
  have hname := HM.out.wantName (want_good hb4)
  have hS : S3 = (hdT (takeS s)).s := (HS3.out (by show kT (takeS s) ≠ 2; omega)).trans (by unfold refS; rw [if_pos (.inl hname)])
  have hr4 := HRep5.out hb5
  have hap := app_one (D := fun k => w1.heap.size + 1 < k) HGrow.out HOwn7.out (fun k hk => Below.heap_alloc w5 _ k hk) (by simp) ⟨hr4.1, RepF.keep (fun k hk hl => ⟨rfl, by have h : w4.heap.size ≤ k := hk; omega⟩) _ _ hr4.2⟩ (by show w1.heap.size + 1 < g; have := HG.out; omega)
  have hkeep : ∀ k, w1.heap.size + 1 < k → k < w7.heap.size → w8.heap[k]? = w7.heap[k]? ∧ w.heap.size < k := fun k hk hl =>
    ⟨(HO8.out.block k (by simp [World.setCell]; exact hl) (by omega)).trans (Below.heap_setCell _ _ _ _ (by show k ≠ w1.heap.size + 1; omega)), by omega⟩
  exact RepF.one _ x.1 _ _ _ _ _ _ _ none 0 0 _ (by show (21 : Nat) ≠ 8; decide) (by show (21 : Nat) ≠ 20; decide) rfl (fun _ => rfl) (fun _ => hS) (fun h => absurd h (by show ¬ ((21 : Nat) = 1); decide)) (hap.1.keep hkeep) (RepF.keep hkeep _ _ hap.2)

end Go.Proofs.YtgccmgjbbcndbaaGreatDoor
/- Walk of statement: if without else. -/
namespace Go.Proofs.YtgccmgjbbcndbaaGreatDoor
open Go.RowKit
open Go.Deep (BT)

set_option maxRecDepth 100000 in
set_option maxHeartbeats 2000000 in
theorem stmt_if0 {b tb cap te : Nat} {xs : List (Tk × List UInt8)} {n : Nat} (ih : RefPars b tb cap te xs n) (w : World) (s : PS) (r : BT Lab × PS) (hk : kT s = 6) (x bl : BT Lab × PS) (hp1 : pars n 0 0 .nil (takeS s) = some x) (hp2 : pars n 7 0 .nil x.2 = some bl) (h7 : kT bl.2 ≠ 7) (hno : r = (nd (lab0 22 (hdT s).line) (bapp x.1 (nd (lab0 31 0) bl.1)), bl.2)) (hs : RS b tb cap te xs w s) :
    Calls Tryz.prog 22 #[.pointer (some ⟨b, 0, none⟩)] w (NodePost b tb cap te xs w r) := by
  have hrr := hno
  have HRR := hide hrr
  have hu := hide (fun (w' : World) h => ih.expr w' (takeS s) 0 0 x (by omega) (by omega) h hp1)
  have hu2 := hide (fun (w' : World) h => inner_any ih w' x.2 31 (.inl rfl) bl h hp2)
  have HST := hide (fun h1 h2 => pars_sticky (s := x.2) h1 h2 _ _ _ _ _ hp2)
  have HM7 := hide (mayS_ne h7)
  have hq : (kT bl.2 == 7) = false := by simpa using h7
  clear hrr hno hp1 hp2 ih h7
  obtain ⟨lb, lt, lne⟩ := hs.lt
  have HS := hide hs
  have HK0 : Hid (kT s ≠ 0) := by show _ ≠ _; omega
  clear hs
  go_enter Tryz.func22, Tryz.ntmps22
  go_wp2_with fail
  refine (peek_rs (HS.out.alloc _)).mono ?_
  rintro e w1 ⟨S1, rfl, hS1, hrs1, hb1⟩
  have hS2 : S1 = [105, 102] := (hS1 (by show kT s ≠ 2; omega)).trans (by unfold refS; rw [if_neg (by show ¬ (kT s = 1 ∨ kT s = 3); omega)]; show spell (kT s) = _; rw [hk]; rfl)
  subst hS2
  clear hS1
  have HZ1 := hide (bblk hb1 (heap_alloc_new w _))
  have HO1 : Hid (Only b w w1) := ((Only.refl b w).alloc _).trans (Below.only hb1)
  obtain ⟨pl, hpl⟩ := hrs1
  obtain ⟨e0, e1, e2⟩ := hpl.cells
  have fb := frozen_row hpl.rd
  have lb1 := heap_lt hpl.rd
  have hfew := hpl.toks.few
  have hpll := hpl.lt
  obtain ⟨c0, c1, c2, c3, c4, c5, f0, l0⟩ := blk6 HZ1.out
  have HM : Hid (RS b tb cap te xs (w1.setCell ⟨b, 1, none⟩ (.int .i64 ((pl : Int) + 1))) (takeS s)) := ⟨pl + 1, hpl.move HK0.out _ rfl⟩
  have HO2 : Hid (Only b w (w1.setCell ⟨b, 1, none⟩ (.int .i64 ((pl : Int) + 1)))) := Only.set (p := ⟨b, 1, none⟩) HO1.out (.inl rfl) _
  have HZ2 := hide (set_old (p := ⟨b, 1, none⟩) (u := .int .i64 ((pl : Int) + 1)) HZ1.out (by show w.heap.size ≠ b; omega))
  have HL2 : Hid ((w1.setCell ⟨b, 1, none⟩ (.int .i64 ((pl : Int) + 1))).heap.size = w1.heap.size) := by
    show _ = _
    simp [World.setCell]
  clear hpl hb1 e0 e2
  have hkr : refKind (kT s) = 119 := by rw [hk]; rfl
  rw [hkr]
  have HK := hide hk
  clear hk hkr
  go_wp2_with fail
  refine (among_any [105, 102] stmtWords _ (by decide) (by decide)).mono ?_
  rintro e w' ⟨rfl, rfl⟩
  rw [show amongL [105, 102] stmtWords = true from by decide +kernel]
  go_wp2_with fail
  refine (hu.out _ ((HM.out.alloc _).alloc _)).mono ?_
  rintro e w3 ⟨I, S, ln, nn, va, vn, vc, pa, pn, pc, rfl, hrs3, ho3, hrep3⟩
  have HLow : Hid (∀ k, (((w1.setCell ⟨b, 1, none⟩ (.int .i64 ((pl : Int) + 1))).alloc (.cells #[.int .u8 119, .string ⟨#[105, 102]⟩, .int .i64 (hdT s).n, .int .i64 ((hdT s).line : Nat)] 79)).alloc (.cells #[.string ⟨#[105, 102]⟩, .int .i64 ((hdT s).line : Nat), .string ⟨#[]⟩, .int .i64 0, .slice none 0 0, .slice none 0 0] 41)).heap.size ≤ k → w1.heap.size + 1 < k) := by
    intro k hk
    rw [World.size_alloc, World.size_alloc, HL2.out] at hk; omega
  have hZ3 := ho3.blk (alloc_old (alloc_old HZ2.out)) (by omega)
  have hX3 := ho3.blk (g := w1.heap.size + 1) (by have := heap_alloc_new ((w1.setCell ⟨b, 1, none⟩ (.int .i64 ((pl : Int) + 1))).alloc (.cells #[.int .u8 119, .string ⟨#[105, 102]⟩, .int .i64 (hdT s).n, .int .i64 ((hdT s).line : Nat)] 79)) (.cells #[.string ⟨#[105, 102]⟩, .int .i64 ((hdT s).line : Nat), .string ⟨#[]⟩, .int .i64 0, .slice none 0 0, .slice none 0 0] 41); rw [World.size_alloc, HL2.out] at this; exact this) (by omega)
  have HZ3 := hide hZ3
  have HX3 := hide hX3
  have hsz3 : w1.heap.size + 2 ≤ w3.heap.size := by have := ho3.size; rw [World.size_alloc, World.size_alloc, HL2.out] at this; exact this
  have HO3 : Hid (Only b w w3) := ((HO2.out.alloc _).alloc _).trans ho3
  have HT3 := hide (ho3.blk (g := w1.heap.size) (alloc_old (by have := heap_alloc_new (w1.setCell ⟨b, 1, none⟩ (.int .i64 ((pl : Int) + 1))) (.cells #[.int .u8 119, .string ⟨#[105, 102]⟩, .int .i64 (hdT s).n, .int .i64 ((hdT s).line : Nat)] 79); rw [HL2.out] at this; exact this)) (by omega))
  have HRS3 := hide hrs3
  have HRep3 := hide hrep3
  clear hrs3 ho3 hrep3 hZ3 hX3 c0 c1 c2 c3 c4 c5 f0 e1 fb
  go_wp2_with fail
  refine (hu2.out _ (HRS3.out.alloc _)).mono ?_
  rintro e w6 ⟨I6, S6, ln6, nn6, va6, vn6, vc6, pa6, pn6, pc6, rfl, hrs6, ho6, hrep6⟩
  have HZ6 := hide (ho6.blk (alloc_old HZ3.out) (by omega))
  have HX6 := hide (ho6.blk (alloc_old HX3.out) (by omega))
  have HE6 := hide (ho6.blk (heap_alloc_new w3 _) (by omega))
  have hsz6 : w3.heap.size + 1 ≤ w6.heap.size := by have := ho6.size; rw [World.size_alloc] at this; exact this
  have HO6 := hide ho6
  obtain ⟨d0, d1, d2, d3, d4, d5, f2, l2⟩ := blk6 HX6.out
  obtain ⟨j0, j1, j2, j3, j4, j5, f4, l4⟩ := blk6 HE6.out
  have HRS6 := hide hrs6
  have HRep6 := hide hrep6
  have hnil := World.ownsRow_nil (w6.alloc (.cells (ndC I6 S6 ln6 nn6 va6 vn6 vc6 pa6 pn6 pc6) 41)) 0 41 6
  have lT : w1.heap.size < w6.heap.size := by omega
  have hT6 := ho6.blk (g := w1.heap.size) (alloc_old (HT3.out)) (by omega)
  obtain ⟨y0, y1, y2, y3, fy, ly⟩ := blk4 hT6
  have HT6 := hide hT6
  clear hrs6 ho6 hrep6 hu2 hT6
  go_wp2_with (at_builtin; refine wpl_appm (w6.alloc (.cells (ndC I6 S6 ln6 nn6 va6 vn6 vc6 pa6 pn6 pc6) 41)) ((ndC I S ln nn va vn vc pa pn pc) ++ (ndC I6 S6 ln6 nn6 va6 vn6 vc6 pa6 pn6 pc6)) 41 rfl (.tmp 70) (.tmp 73) 36 2 rfl 0 6 96 (.agg #[.string ⟨#[]⟩, .int .i64 0, .string ⟨#[]⟩, .int .i64 0, .slice none 0 0, .slice none 0 0]) Tryz.underlying36 infoNode rfl (by omega) (by omega) (by omega) (.slice none 0 0) 0 [] rfl (by simp; rfl) hnil rfl nd_two (by omega) (by omega) (Nat.zero_le _) ?_; intro g cap1 w7 hown7 hgrow hat hg; have HG : Hid (g = w6.heap.size + 1 + 1) := (by show g = _; rcases hat with h | h; exact absurd h (by simp [Value.ownBlock]); simpa using h); replace hgrow : (w6.alloc (.cells (ndC I6 S6 ln6 nn6 va6 vn6 vc6 pa6 pn6 pc6) 41)).grownBy w7 none := hgrow; have hX7 := (hgrow.block _ (heap_lt (alloc_old HX6.out)) (by simp)).trans (alloc_old HX6.out); obtain ⟨p0, p1, p2, p3, p4, p5, f5, l5⟩ := blk6 hX7; have HX7 := hide hX7; have hT7 := (hgrow.block _ (heap_lt (alloc_old HT6.out)) (by simp)).trans (alloc_old HT6.out); obtain ⟨t0, t1, t2, t3, ft, ltt⟩ := blk4 hT7; have hZ7 := (hgrow.block _ (heap_lt (alloc_old HZ6.out)) (by simp)).trans (alloc_old HZ6.out); obtain ⟨k0, k1, k2, k3, k4, k5, f1, l1⟩ := blk6 hZ7; clear hat hX7 hT7 hZ7)
  have HGrow := hide hgrow
  have HOwn7 := hide hown7
  have HZ7 := hide ((HGrow.out.block _ (heap_lt (alloc_old HZ6.out)) (by simp)).trans (alloc_old HZ6.out))
  have HRS7 : Hid (RS b tb cap te xs w7 bl.2) := (HRS6.out.alloc _).grown HGrow.out (by simp) (by simp)
  have HO7 : Hid (Only b w w7) := ((((HO3.out.alloc _).trans HO6.out).alloc _).grown HGrow.out (fun k e => by cases e))
  clear hgrow hown7 p0 p1 p2 p3 p4 p5 f5 d0 d1 d2 d3 d4 d5 f2 hnil j0 j1 j2 j3 j4 j5 f4 y0 y1 y2 y3 fy t0 t1 t2 t3 ft k0 k1 k2 k3 k4 k5 f1
  refine (may_rs (HRS7.out.other (p := ⟨w1.heap.size + 1, 4, none⟩) (by show b ≠ w1.heap.size + 1; omega) (by show tb ≠ w1.heap.size + 1; omega) _) 7 (by omega) (by omega) [101, 108, 115, 101] rfl).mono ?_
  rintro e w8 ⟨rfl, hrs8, ho8⟩
  rw [hq]
  rw [HM7.out] at hrs8
  have hZ8 := ho8.blk (set_old (p := ⟨w1.heap.size + 1, 4, none⟩) HZ7.out (by show w.heap.size ≠ w1.heap.size + 1; omega)) (by omega)
  have hX8 := ho8.blk (heap_set (j := 4) HX7.out _) (by omega)
  simp only [List.setIfInBounds_toArray, List.set_cons_zero, List.set_cons_succ] at hX8
  obtain ⟨k0, k1, k2, k3, k4, k5, f1, l1⟩ := blk6 hZ8
  obtain ⟨q0, q1, q2, q3, q4, q5, f3, l3⟩ := blk6 hX8
  have HRS8 := hide hrs8
  have HO8 := hide ho8
  clear hrs8 ho8 hZ8 hX8
  go_wp2
  refine bodyPost_ret (v := .agg #[.string ⟨#[105, 102]⟩, .int .i64 ((hdT s).line : Nat), .string ⟨#[]⟩, .int .i64 0, .slice (some ⟨g, 0, none⟩) (0 + 2) cap1, .slice none 0 0]) ?_ rfl ?_
  · simp [results, Tryz.results22, go_sem, k0, k1, k2, k3, k4, k5]
  rw [HRR.out]
  refine node_close (I := [105, 102]) (S := []) lb lt HRS8.out ((Only.set (p := ⟨w1.heap.size + 1, 4, none⟩) HO7.out (.inr (by show w.heap.size ≤ w1.heap.size + 1; omega)) _).trans HO8.out) (fun hb => ⟨rfl, ?_⟩)
  have hb3 : x.2.bad = 0 := by
    rcases Nat.eq_zero_or_pos x.2.bad with h | h
    · exact h
    · exfalso
      have hne : x.2.bad ≠ 0 := by omega
      have := HST.out (HRS3.out.sticky hne) hne
      have hb' : bl.2.bad = 0 := hb
      rw [this] at hb'; omega
  have hr3 := HRep3.out hb3
  have hr6 := HRep6.out hb
  have hap := app_two (D := fun k => w1.heap.size + 1 < k) HGrow.out (by simpa using HOwn7.out) (fun k hk => Below.heap_alloc w6 _ k hk) (by simp)
    ⟨hr3.1, RepF.keep (fun k hk hl => ⟨(HO6.out.block k (by rw [World.size_alloc]; omega) (by have := HLow.out k hk; omega)).trans (Below.heap_alloc w3 _ k hl), HLow.out k hk⟩) _ _ hr3.2⟩
    ⟨hr6.1, RepF.keep (fun k hk hl => ⟨rfl, by have h : _ ≤ k := hk; rw [World.size_alloc] at h; omega⟩) _ _ hr6.2⟩ (by show w1.heap.size + 1 < g; have := HG.out; omega)
  have hkeep : ∀ k, w1.heap.size + 1 < k → k < w7.heap.size → w8.heap[k]? = w7.heap[k]? ∧ w.heap.size < k := fun k hk hl =>
    ⟨(HO8.out.block k (by simp [World.setCell]; exact hl) (by omega)).trans (Below.heap_setCell _ _ _ _ (by show k ≠ w1.heap.size + 1; omega)), by omega⟩
  exact RepF.one _ _ _ _ _ _ _ _ _ none 0 0 _ (by show (22 : Nat) ≠ 8; decide) (by show (22 : Nat) ≠ 20; decide) rfl (fun _ => rfl) (fun h => absurd h (by show ¬ (nameSure 22 = true); decide)) (fun h => absurd h (by show ¬ ((22 : Nat) = 1); decide)) (hap.1.keep hkeep) (RepF.keep hkeep _ _ hap.2)
end Go.Proofs.YtgccmgjbbcndbaaGreatDoor
/- Walk of statement: if with else. -/
namespace Go.Proofs.YtgccmgjbbcndbaaGreatDoor
open Go.RowKit
open Go.Deep (BT)

theorem bapp_assoc : ∀ (f g h : BT Lab), bapp (bapp f g) h = bapp f (bapp g h) := by
  intro f
  induction f with
  | nil => intro g h; rfl
  | node x y l c r _ ih => intro g h; simp only [bapp, ih]

set_option maxRecDepth 100000 in
set_option maxHeartbeats 2000000 in
theorem stmt_if1 {b tb cap te : Nat} {xs : List (Tk × List UInt8)} {n : Nat} (ih : RefPars b tb cap te xs n) (w : World) (s : PS) (r : BT Lab × PS) (hk : kT s = 6) (x bl : BT Lab × PS) (hp1 : pars n 0 0 .nil (takeS s) = some x) (hp2 : pars n 7 0 .nil x.2 = some bl) (h7 : kT bl.2 = 7) (c : BT Lab × PS) (hp3 : pars n 7 0 .nil (takeS bl.2) = some c) (hno : r = (nd (lab0 22 (hdT s).line) (bapp x.1 (bapp (nd (lab0 31 0) bl.1) (nd (lab0 31 0) c.1))), c.2)) (hs : RS b tb cap te xs w s) :
    Calls Tryz.prog 22 #[.pointer (some ⟨b, 0, none⟩)] w (NodePost b tb cap te xs w r) := by
  have hrr := hno
  have HRR := hide hrr
  have hu := hide (fun (w' : World) h => ih.expr w' (takeS s) 0 0 x (by omega) (by omega) h hp1)
  have hu2 := hide (fun (w' : World) h => inner_any ih w' x.2 31 (.inl rfl) bl h hp2)
  have HST := hide (fun h1 h2 => pars_sticky (s := x.2) h1 h2 _ _ _ _ _ hp2)
  have HM7 := hide (mayS_eq h7)
  have hq : (kT bl.2 == 7) = true := by rw [h7]; rfl
  have hu3 := hide (fun (w' : World) h => inner_any ih w' (takeS bl.2) 31 (.inl rfl) c h hp3)
  have HK7 : Hid (kT bl.2 ≠ 0) := by show _ ≠ _; omega
  clear hrr hno hp1 hp2 hp3 ih h7
  obtain ⟨lb, lt, lne⟩ := hs.lt
  have HS := hide hs
  have HK0 : Hid (kT s ≠ 0) := by show _ ≠ _; omega
  clear hs
  go_enter Tryz.func22, Tryz.ntmps22
  go_wp2_with fail
  refine (peek_rs (HS.out.alloc _)).mono ?_
  rintro e w1 ⟨S1, rfl, hS1, hrs1, hb1⟩
  have hS2 : S1 = [105, 102] := (hS1 (by show kT s ≠ 2; omega)).trans (by unfold refS; rw [if_neg (by show ¬ (kT s = 1 ∨ kT s = 3); omega)]; show spell (kT s) = _; rw [hk]; rfl)
  subst hS2
  clear hS1
  have HZ1 := hide (bblk hb1 (heap_alloc_new w _))
  have HO1 : Hid (Only b w w1) := ((Only.refl b w).alloc _).trans (Below.only hb1)
  obtain ⟨pl, hpl⟩ := hrs1
  obtain ⟨e0, e1, e2⟩ := hpl.cells
  have fb := frozen_row hpl.rd
  have lb1 := heap_lt hpl.rd
  have hfew := hpl.toks.few
  have hpll := hpl.lt
  obtain ⟨c0, c1, c2, c3, c4, c5, f0, l0⟩ := blk6 HZ1.out
  have HM : Hid (RS b tb cap te xs (w1.setCell ⟨b, 1, none⟩ (.int .i64 ((pl : Int) + 1))) (takeS s)) := ⟨pl + 1, hpl.move HK0.out _ rfl⟩
  have HO2 : Hid (Only b w (w1.setCell ⟨b, 1, none⟩ (.int .i64 ((pl : Int) + 1)))) := Only.set (p := ⟨b, 1, none⟩) HO1.out (.inl rfl) _
  have HZ2 := hide (set_old (p := ⟨b, 1, none⟩) (u := .int .i64 ((pl : Int) + 1)) HZ1.out (by show w.heap.size ≠ b; omega))
  have HL2 : Hid ((w1.setCell ⟨b, 1, none⟩ (.int .i64 ((pl : Int) + 1))).heap.size = w1.heap.size) := by
    show _ = _
    simp [World.setCell]
  clear hpl hb1 e0 e2
  have hkr : refKind (kT s) = 119 := by rw [hk]; rfl
  rw [hkr]
  have HK := hide hk
  clear hk hkr
  go_wp2_with fail
  refine (among_any [105, 102] stmtWords _ (by decide) (by decide)).mono ?_
  rintro e w' ⟨rfl, rfl⟩
  rw [show amongL [105, 102] stmtWords = true from by decide +kernel]
  go_wp2_with fail
  refine (hu.out _ ((HM.out.alloc _).alloc _)).mono ?_
  rintro e w3 ⟨I, S, ln, nn, va, vn, vc, pa, pn, pc, rfl, hrs3, ho3, hrep3⟩
  have HLow : Hid (∀ k, (((w1.setCell ⟨b, 1, none⟩ (.int .i64 ((pl : Int) + 1))).alloc (.cells #[.int .u8 119, .string ⟨#[105, 102]⟩, .int .i64 (hdT s).n, .int .i64 ((hdT s).line : Nat)] 79)).alloc (.cells #[.string ⟨#[105, 102]⟩, .int .i64 ((hdT s).line : Nat), .string ⟨#[]⟩, .int .i64 0, .slice none 0 0, .slice none 0 0] 41)).heap.size ≤ k → w1.heap.size + 1 < k) := by
    intro k hk
    rw [World.size_alloc, World.size_alloc, HL2.out] at hk; omega
  have hZ3 := ho3.blk (alloc_old (alloc_old HZ2.out)) (by omega)
  have hX3 := ho3.blk (g := w1.heap.size + 1) (by have := heap_alloc_new ((w1.setCell ⟨b, 1, none⟩ (.int .i64 ((pl : Int) + 1))).alloc (.cells #[.int .u8 119, .string ⟨#[105, 102]⟩, .int .i64 (hdT s).n, .int .i64 ((hdT s).line : Nat)] 79)) (.cells #[.string ⟨#[105, 102]⟩, .int .i64 ((hdT s).line : Nat), .string ⟨#[]⟩, .int .i64 0, .slice none 0 0, .slice none 0 0] 41); rw [World.size_alloc, HL2.out] at this; exact this) (by omega)
  have HZ3 := hide hZ3
  have HX3 := hide hX3
  have hsz3 : w1.heap.size + 2 ≤ w3.heap.size := by have := ho3.size; rw [World.size_alloc, World.size_alloc, HL2.out] at this; exact this
  have HO3 : Hid (Only b w w3) := ((HO2.out.alloc _).alloc _).trans ho3
  have HT3 := hide (ho3.blk (g := w1.heap.size) (alloc_old (by have := heap_alloc_new (w1.setCell ⟨b, 1, none⟩ (.int .i64 ((pl : Int) + 1))) (.cells #[.int .u8 119, .string ⟨#[105, 102]⟩, .int .i64 (hdT s).n, .int .i64 ((hdT s).line : Nat)] 79); rw [HL2.out] at this; exact this)) (by omega))
  have HRS3 := hide hrs3
  have HRep3 := hide hrep3
  clear hrs3 ho3 hrep3 hZ3 hX3 c0 c1 c2 c3 c4 c5 f0 e1 fb
  go_wp2_with fail
  refine (hu2.out _ (HRS3.out.alloc _)).mono ?_
  rintro e w6 ⟨I6, S6, ln6, nn6, va6, vn6, vc6, pa6, pn6, pc6, rfl, hrs6, ho6, hrep6⟩
  have HZ6 := hide (ho6.blk (alloc_old HZ3.out) (by omega))
  have HX6 := hide (ho6.blk (alloc_old HX3.out) (by omega))
  have HE6 := hide (ho6.blk (heap_alloc_new w3 _) (by omega))
  have hsz6 : w3.heap.size + 1 ≤ w6.heap.size := by have := ho6.size; rw [World.size_alloc] at this; exact this
  have HO6 := hide ho6
  obtain ⟨d0, d1, d2, d3, d4, d5, f2, l2⟩ := blk6 HX6.out
  obtain ⟨j0, j1, j2, j3, j4, j5, f4, l4⟩ := blk6 HE6.out
  have HRS6 := hide hrs6
  have HRep6 := hide hrep6
  have hnil := World.ownsRow_nil (w6.alloc (.cells (ndC I6 S6 ln6 nn6 va6 vn6 vc6 pa6 pn6 pc6) 41)) 0 41 6
  have lT : w1.heap.size < w6.heap.size := by omega
  have hT6 := ho6.blk (g := w1.heap.size) (alloc_old (HT3.out)) (by omega)
  obtain ⟨y0, y1, y2, y3, fy, ly⟩ := blk4 hT6
  have HT6 := hide hT6
  clear hrs6 ho6 hrep6 hu2 hT6
  go_wp2_with (at_builtin; refine wpl_appm (w6.alloc (.cells (ndC I6 S6 ln6 nn6 va6 vn6 vc6 pa6 pn6 pc6) 41)) ((ndC I S ln nn va vn vc pa pn pc) ++ (ndC I6 S6 ln6 nn6 va6 vn6 vc6 pa6 pn6 pc6)) 41 rfl (.tmp 70) (.tmp 73) 36 2 rfl 0 6 96 (.agg #[.string ⟨#[]⟩, .int .i64 0, .string ⟨#[]⟩, .int .i64 0, .slice none 0 0, .slice none 0 0]) Tryz.underlying36 infoNode rfl (by omega) (by omega) (by omega) (.slice none 0 0) 0 [] rfl (by simp; rfl) hnil rfl nd_two (by omega) (by omega) (Nat.zero_le _) ?_; intro g cap1 w7 hown7 hgrow hat hg; have HG : Hid (g = w6.heap.size + 1 + 1) := (by show g = _; rcases hat with h | h; exact absurd h (by simp [Value.ownBlock]); simpa using h); replace hgrow : (w6.alloc (.cells (ndC I6 S6 ln6 nn6 va6 vn6 vc6 pa6 pn6 pc6) 41)).grownBy w7 none := hgrow; have hX7 := (hgrow.block _ (heap_lt (alloc_old HX6.out)) (by simp)).trans (alloc_old HX6.out); obtain ⟨p0, p1, p2, p3, p4, p5, f5, l5⟩ := blk6 hX7; have HX7 := hide hX7; have hT7 := (hgrow.block _ (heap_lt (alloc_old HT6.out)) (by simp)).trans (alloc_old HT6.out); obtain ⟨t0, t1, t2, t3, ft, ltt⟩ := blk4 hT7; have hZ7 := (hgrow.block _ (heap_lt (alloc_old HZ6.out)) (by simp)).trans (alloc_old HZ6.out); obtain ⟨k0, k1, k2, k3, k4, k5, f1, l1⟩ := blk6 hZ7; clear hat hX7 hT7 hZ7)
  have HGrow := hide hgrow
  have HOwn7 := hide hown7
  have HZ7 := hide ((HGrow.out.block _ (heap_lt (alloc_old HZ6.out)) (by simp)).trans (alloc_old HZ6.out))
  have HRS7 : Hid (RS b tb cap te xs w7 bl.2) := (HRS6.out.alloc _).grown HGrow.out (by simp) (by simp)
  have HO7 : Hid (Only b w w7) := ((((HO3.out.alloc _).trans HO6.out).alloc _).grown HGrow.out (fun k e => by cases e))
  clear hgrow hown7 p0 p1 p2 p3 p4 p5 f5 d0 d1 d2 d3 d4 d5 f2 hnil j0 j1 j2 j3 j4 j5 f4 y0 y1 y2 y3 fy t0 t1 t2 t3 ft k0 k1 k2 k3 k4 k5 f1
  refine (may_rs (HRS7.out.other (p := ⟨w1.heap.size + 1, 4, none⟩) (by show b ≠ w1.heap.size + 1; omega) (by show tb ≠ w1.heap.size + 1; omega) _) 7 (by omega) (by omega) [101, 108, 115, 101] rfl).mono ?_
  rintro e w8 ⟨rfl, hrs8, ho8⟩
  rw [hq]
  rw [HM7.out] at hrs8
  have hZ8 := ho8.blk (set_old (p := ⟨w1.heap.size + 1, 4, none⟩) HZ7.out (by show w.heap.size ≠ w1.heap.size + 1; omega)) (by omega)
  have hX8 := ho8.blk (heap_set (j := 4) HX7.out _) (by omega)
  simp only [List.setIfInBounds_toArray, List.set_cons_zero, List.set_cons_succ] at hX8
  have HZ8 := hide hZ8
  have HX8 := hide hX8
  have HRS8 := hide hrs8
  have HO8 := hide ho8
  have hsz8 : w7.heap.size ≤ w8.heap.size := by have := ho8.size; simpa [World.setCell] using this
  have HB6 : Hid (bl.2.bad = 0) := by obtain ⟨q, h⟩ := HRS6.out; exact (h.notEnd HK7.out).1
  clear hrs8 ho8 hZ8 hX8
  go_wp2_with fail
  refine (hu3.out _ HRS8.out).mono ?_
  rintro e w9 ⟨I9, S9, ln9, nn9, va9, vn9, vc9, pa9, pn9, pc9, rfl, hrs9, ho9, hrep9⟩
  have HZ9 := hide (ho9.blk HZ8.out (by omega))
  have HX9 := hide (ho9.blk HX8.out (by omega))
  have HO89 : Hid (Only b (w7.setCell ⟨w1.heap.size + 1, 4, none⟩ (.slice (some ⟨g, 0, none⟩) 2 cap1)) w9) := HO8.out.trans ho9
  have hsz9 := ho9.size
  obtain ⟨d0, d1, d2, d3, d4, d5, f2, l2⟩ := blk6 HX9.out
  have HRS9 := hide hrs9
  have HRep9 := hide hrep9
  have hgX : g ≠ w1.heap.size + 1 ∧ g ≠ b ∧ g ≠ tb ∧ w.heap.size ≤ g := by have := HG.out; omega
  have hown7' : (w7.setCell ⟨w1.heap.size + 1, 4, none⟩ (.slice (some ⟨g, 0, none⟩) 2 cap1)).ownsRow 0 41 6 (.slice (some ⟨g, 0, none⟩) 2 cap1) 2 ((ndC I S ln nn va vn vc pa pn pc).toList ++ (ndC I6 S6 ln6 nn6 va6 vn6 vc6 pa6 pn6 pc6).toList) := own_setCell (by simpa using HOwn7.out) _ _ (by have := hgX.1; simp only [Value.ownBlock, ne_eq, Option.some.injEq]; omega)
  have hown9 := (own_only hown7' HO89.out (by have := hgX.2.1; simp only [Value.ownBlock, ne_eq, Option.some.injEq]; omega)).alloc (.cells (ndC I9 S9 ln9 nn9 va9 vn9 vc9 pa9 pn9 pc9) 41)
  have HGX := hide hgX
  have HOwn7' := hide hown7'
  clear hrs9 ho9 hrep9 hu3 hgX hown7'
  go_wp2_with (at_builtin; refine wpl_app (w9.alloc (.cells (ndC I9 S9 ln9 nn9 va9 vn9 vc9 pa9 pn9 pc9) 41)) (ndC I9 S9 ln9 nn9 va9 vn9 vc9 pa9 pn9 pc9) 41 rfl (.tmp 85) (.tmp 87) 36 rfl 0 6 96 (.agg #[.string ⟨#[]⟩, .int .i64 0, .string ⟨#[]⟩, .int .i64 0, .slice none 0 0, .slice none 0 0]) Tryz.underlying36 infoNode rfl (by omega) _ _ _ rfl (by simp; rfl) hown9 rfl nd_one (by omega) (by omega) (Nat.zero_le _) ?_; intro g' cap2 w10 hown10 hgrow2 hat2 hg2; replace hgrow2 : (w9.alloc (.cells (ndC I9 S9 ln9 nn9 va9 vn9 vc9 pa9 pn9 pc9) 41)).grownBy w10 (some g) := hgrow2; have hX10 := (hgrow2.block _ (heap_lt (alloc_old HX9.out)) (fun e => HGX.out.1 (Option.some.inj e).symm)).trans (alloc_old HX9.out); have hZ10 := (hgrow2.block _ (heap_lt (alloc_old HZ9.out)) (fun e => (by have := (Option.some.inj e); have h1 := HG.out; omega))).trans (alloc_old HZ9.out); obtain ⟨p0, p1, p2, p3, p4, p5, f5, l5⟩ := blk6 hX10; obtain ⟨k0, k1, k2, k3, k4, k5, f1, l1⟩ := blk6 hZ10; have HAt := hide hat2; have HGrow2 := hide hgrow2; have HOwn10 := hide hown10; clear hat2 hX10 hZ10 hgrow2 hown10)
  refine bodyPost_ret (v := .agg #[.string ⟨#[105, 102]⟩, .int .i64 ((hdT s).line : Nat), .string ⟨#[]⟩, .int .i64 0, .slice (some ⟨g', 0, none⟩) (2 + 1) cap2, .slice none 0 0]) ?_ rfl ?_
  · simp [results, Tryz.results22, go_sem, k0, k1, k2, k3, k4, k5]
  rw [HRR.out]
  have hrs10 : RS b tb cap te xs w10 c.2 := (HRS9.out.alloc _).grown HGrow2.out (fun e => HGX.out.2.1 (Option.some.inj e)) (fun e => HGX.out.2.2.1 (Option.some.inj e))
  have hO10 : Only b w w10 := (((Only.set (p := ⟨w1.heap.size + 1, 4, none⟩) HO7.out (.inr (by show w.heap.size ≤ w1.heap.size + 1; omega)) _).trans HO89.out).alloc _).grown HGrow2.out (fun k e => .inr (by rw [← Option.some.inj e]; exact HGX.out.2.2.2))
  refine node_close (I := [105, 102]) (S := []) lb lt (hrs10.other (p := ⟨w1.heap.size + 1, 4, none⟩) (by show b ≠ w1.heap.size + 1; omega) (by show tb ≠ w1.heap.size + 1; omega) _) (Only.set (p := ⟨w1.heap.size + 1, 4, none⟩) hO10 (.inr (by show w.heap.size ≤ w1.heap.size + 1; omega)) _) (fun hb => ⟨rfl, ?_⟩)
  have hb3 : x.2.bad = 0 := by
    rcases Nat.eq_zero_or_pos x.2.bad with h | h
    · exact h
    · exfalso
      have hne : x.2.bad ≠ 0 := by omega
      have := HST.out (HRS3.out.sticky hne) hne
      have hb' := HB6.out
      rw [this] at hb'; omega
  have hr3 := HRep3.out hb3
  have hr6 := HRep6.out HB6.out
  have hr9 := HRep9.out hb
  have hg := HG.out
  have hs7 : (w7.setCell ⟨w1.heap.size + 1, 4, none⟩ (.slice (some ⟨g, 0, none⟩) 2 cap1)).heap.size = w7.heap.size := by simp [World.setCell]
  have hs67 : w6.heap.size + 1 ≤ w7.heap.size := by have := HGrow.out.size; rw [World.size_alloc] at this; exact this
  have hs8 : w7.heap.size ≤ w8.heap.size := hsz8
  have hkeep7 : ∀ k, w1.heap.size + 1 < k → k < w6.heap.size → (w7.setCell ⟨w1.heap.size + 1, 4, none⟩ (.slice (some ⟨g, 0, none⟩) 2 cap1)).heap[k]? = w6.heap[k]? ∧ (w1.heap.size + 2 ≤ k ∧ (Value.slice (some ⟨g, 0, none⟩) 2 cap1).ownBlock ≠ some k) := fun k hk hl =>
    ⟨(Below.heap_setCell _ _ _ _ (by show k ≠ w1.heap.size + 1; omega)).trans ((HGrow.out.block k (by rw [World.size_alloc]; omega) (by simp)).trans (Below.heap_alloc w6 _ k hl)), by omega, by simp only [Value.ownBlock, ne_eq, Option.some.injEq]; omega⟩
  have hAcc := RepF.app _ _ _ _
    (RepF.keep (D' := fun k => w1.heap.size + 2 ≤ k ∧ (Value.slice (some ⟨g, 0, none⟩) 2 cap1).ownBlock ≠ some k) (w' := w7.setCell ⟨w1.heap.size + 1, 4, none⟩ (.slice (some ⟨g, 0, none⟩) 2 cap1)) (fun k hk hl => ⟨(hkeep7 k (HLow.out k hk) (by omega)).1.trans ((HO6.out.block k (by rw [World.size_alloc]; omega) (by have := HLow.out k hk; omega)).trans (Below.heap_alloc w3 _ k hl)), (hkeep7 k (HLow.out k hk) (by omega)).2⟩) _ _ hr3.2)
    (RepF.keep (D' := fun k => w1.heap.size + 2 ≤ k ∧ (Value.slice (some ⟨g, 0, none⟩) 2 cap1).ownBlock ≠ some k) (w' := w7.setCell ⟨w1.heap.size + 1, 4, none⟩ (.slice (some ⟨g, 0, none⟩) 2 cap1)) (fun k hk hl => hkeep7 k (by have h : _ ≤ k := hk; rw [World.size_alloc] at h; omega) hl) _ _ hr6.2)
  have h10 := app_rep (b := b) (lo := w1.heap.size + 2) (cap := cap2) (by omega) (by rw [hs7]; omega) HO89.out (fun k hk => Below.heap_alloc w9 _ k hk) (by simp) HOwn7'.out HGrow2.out HAt.out hAcc (RepF.keep (fun k hk hl => ⟨rfl, by have h : w8.heap.size ≤ k := hk; show _ ≤ k; rw [hs7]; omega⟩) _ _ hr9.2)
  have hg' : w1.heap.size + 2 ≤ g' := by
    rcases HAt.out with h | h
    · have h' : some g = some g' := h
      have := Option.some.inj h'
      omega
    · rw [h, World.size_alloc]; omega
  have hs10 : (w10.setCell ⟨w1.heap.size + 1, 4, none⟩ (.slice (some ⟨g', 0, none⟩) 3 cap2)).heap.size = w10.heap.size := by simp [World.setCell]
  have hkeep : ∀ k, w1.heap.size + 2 ≤ k → k < w10.heap.size → (w10.setCell ⟨w1.heap.size + 1, 4, none⟩ (.slice (some ⟨g', 0, none⟩) 3 cap2)).heap[k]? = w10.heap[k]? ∧ w.heap.size < k := fun k hk hl =>
    ⟨Below.heap_setCell _ _ _ _ (by show k ≠ w1.heap.size + 1; omega), by omega⟩
  rw [← bapp_assoc]
  refine RepF.one _ _ _ _ _ _ _ _ _ none 0 0 _ (by show (22 : Nat) ≠ 8; decide) (by show (22 : Nat) ≠ 20; decide) rfl (fun _ => rfl) (fun h => absurd h (by show ¬ (nameSure 22 = true); decide)) (fun h => absurd h (by show ¬ ((22 : Nat) = 1); decide)) ?_ (RepF.keep (fun k hk hl => hkeep k (And.left hk) hl) _ _ h10)
  rw [bapp_len, bapp_len, hr3.1, hr6.1, hr9.1]
  exact OwnsD.keep (D := fun k => w1.heap.size + 2 ≤ k) ⟨HOwn10.out, fun k hk => by simp only [Value.ownBlock, Option.some.injEq] at hk; rw [← hk]; exact hg'⟩ hkeep
end Go.Proofs.YtgccmgjbbcndbaaGreatDoor
