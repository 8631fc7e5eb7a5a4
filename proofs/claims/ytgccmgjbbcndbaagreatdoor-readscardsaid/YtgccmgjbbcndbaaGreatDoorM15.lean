import Derived.Test.YtgccmgjbbcndbaaGreatDoorM14
import Derived.Deep.RegionHeld3
import Derived.Deep.DrawnRows
/- Walk of unary: the signs ahead. -/
namespace Go.Proofs.YtgccmgjbbcndbaaGreatDoor
open Go.RowKit
open Go.Deep (BT)
attribute [local go_sem ↓] Go.wp_at_zero Go.wp_at_succ

theorem mayS_eq {k : Nat} {s : PS} (h : kT s = k) : mayS k s = takeS s := by unfold mayS; rw [if_pos h]
theorem mayS_ne {k : Nat} {s : PS} (h : kT s ≠ k) : mayS k s = s := by unfold mayS; rw [if_neg h]

set_option maxRecDepth 100000 in
set_option maxHeartbeats 400000 in
theorem unary_not {b tb cap te : Nat} {xs : List (Tk × List UInt8)} {n : Nat} (ih : RefPars b tb cap te xs n) (w : World) (s : PS) (r : BT Lab × PS) (hk : kT s = 28) (hs : RS b tb cap te xs w s) (hp : pars (n + 1) 2 0 .nil s = some r) :
    Calls Tryz.prog 62 #[.pointer (some ⟨b, 0, none⟩)] w (NodePost b tb cap te xs w r) := by
  obtain ⟨x, hp1, hp2⟩ := pars_not hk hp
  obtain ⟨lb, lt, lne⟩ := hs.lt
  have hu := hide (fun (w' : World) h => ih.unary w' (takeS s) x h hp1)
  have HS := hide hs
  have HRR := hide hp2
  have HM := hide (mayS_eq hk)
  have hk' : (kT s == 28) = true := by rw [hk]; rfl
  clear hp hp1 hp2 hs ih hk
  go_enter Tryz.func62, Tryz.ntmps62
  go_wp2_with fail
  refine (peek_rs (HS.out.alloc _)).mono ?_
  rintro e w1 ⟨S1, rfl, -, hrs1, hb1⟩
  have HZ1 := hide (bblk hb1 (heap_alloc_new w _))
  have HO1 : Hid (Only b w w1) := ((Only.refl b w).alloc _).trans (Below.only hb1)
  have HRS1 := hide hrs1
  have l1 := heap_lt HZ1.out
  clear hrs1 hb1
  go_wp2_with fail
  refine (may_rs (HRS1.out.alloc _) 28 (by omega) (by omega) [33] rfl).mono ?_
  rintro e w2 ⟨rfl, hrs2, ho2⟩
  rw [hk']
  rw [HM.out] at hrs2
  have HZ2 := hide (ho2.blk (alloc_old HZ1.out) (by omega))
  have HT2 := hide (ho2.blk (heap_alloc_new w1 _) (by omega))
  have HO2 : Hid (Only b w w2) := (HO1.out.alloc _).trans ho2
  have HRS2 := hide hrs2
  obtain ⟨c0, c1, c2, c3, c4, c5, f0, l0⟩ := blk6 HZ2.out
  obtain ⟨g0, g1, g2, g3, f1, l2⟩ := blk4 HT2.out
  clear hrs2 ho2
  go_wp2
  go_region_with ((go_at_call 62; refine (hu.out _ ?_).mono ?_; exact HRS2.out.drew; rintro e w4 ⟨I4, S4, ln4, nn4, va4, vn4, vc4, pa4, pn4, pc4, rfl, hr4, ho4, hrep4⟩; obtain ⟨q0, q1, q2, q3, fq, lq⟩ := blk4 (ho4.blk (g := w1.heap.size) HT2.out (by omega)); obtain ⟨k0, k1, k2, k3, k4, k5, fk, lk⟩ := blk6 (ho4.blk (g := w.heap.size) HZ2.out (by omega)); have HR4 := hide hr4; have HO4 := hide ho4; have HRep4 := hide hrep4; clear hr4 ho4 hrep4))
  all_goals go_wp2
  all_goals
    refine bodyPost_ret (v := .agg #[.string ⟨#[33]⟩, .int .i64 ((hdT s).line : Nat), .string ⟨#[]⟩, .int .i64 0, .slice (some ⟨w4.heap.size, 0, none⟩) 1 1, .slice none 0 0]) ?_ rfl ?_
    · simp [results, Tryz.results62, go_sem, k0, k1, k2, k3, k4, k5, lk]
    rw [HRR.out]
    refine un_close (I := [33]) lb lt lk (.inl rfl) rfl HR4.out (HO2.out.drew.trans HO4.out) (fun hb => ⟨(HRep4.out hb).1, ?_⟩)
    exact RepF.keep (fun g hg hl => ⟨rfl, by have h2 : w2.heap.size ≤ g := hg; omega⟩) _ _ (HRep4.out hb).2
set_option maxRecDepth 100000 in
set_option maxHeartbeats 400000 in
theorem unary_neg {b tb cap te : Nat} {xs : List (Tk × List UInt8)} {n : Nat} (ih : RefPars b tb cap te xs n) (w : World) (s : PS) (r : BT Lab × PS) (hk : kT s = 35) (hs : RS b tb cap te xs w s) (hp : pars (n + 1) 2 0 .nil s = some r) :
    Calls Tryz.prog 62 #[.pointer (some ⟨b, 0, none⟩)] w (NodePost b tb cap te xs w r) := by
  obtain ⟨x, hp1, hp2⟩ := pars_neg hk hp
  obtain ⟨lb, lt, lne⟩ := hs.lt
  have hu := hide (fun (w' : World) h => ih.unary w' (takeS s) x h hp1)
  have HS := hide hs
  have HRR := hide hp2
  have HM := hide (mayS_eq hk)
  have HM0 := hide (mayS_ne (k := 28) (s := s) (by omega))
  have hk0 : (kT s == 28) = false := by rw [hk]; rfl
  have hk' : (kT s == 35) = true := by rw [hk]; rfl
  clear hp hp1 hp2 hs ih hk
  go_enter Tryz.func62, Tryz.ntmps62
  go_wp2_with fail
  refine (peek_rs (HS.out.alloc _)).mono ?_
  rintro e w1 ⟨S1, rfl, -, hrs1, hb1⟩
  have HZ1 := hide (bblk hb1 (heap_alloc_new w _))
  have HO1 : Hid (Only b w w1) := ((Only.refl b w).alloc _).trans (Below.only hb1)
  have HRS1 := hide hrs1
  have l1 := heap_lt HZ1.out
  clear hrs1 hb1
  go_wp2_with fail
  refine (may_rs (HRS1.out.alloc _) 28 (by omega) (by omega) [33] rfl).mono ?_
  rintro e w5 ⟨rfl, hrs5, ho5⟩
  rw [hk0]
  rw [HM0.out] at hrs5
  have HZ5 := hide (ho5.blk (alloc_old HZ1.out) (by omega))
  have HT5 := hide (ho5.blk (heap_alloc_new w1 _) (by omega))
  have HO5 : Hid (Only b w w5) := (HO1.out.alloc _).trans ho5
  have HRS5 := hide hrs5
  clear hrs5 ho5
  go_wp2_with fail
  refine (may_rs HRS5.out 35 (by omega) (by omega) [45] rfl).mono ?_
  rintro e w2 ⟨rfl, hrs2, ho2⟩
  rw [hk']
  rw [HM.out] at hrs2
  have HZ2 := hide (ho2.blk HZ5.out (by omega))
  have HT2 := hide (ho2.blk HT5.out (by omega))
  have HO2 : Hid (Only b w w2) := HO5.out.trans ho2
  have HRS2 := hide hrs2
  obtain ⟨c0, c1, c2, c3, c4, c5, f0, l0⟩ := blk6 HZ2.out
  obtain ⟨g0, g1, g2, g3, f1, l2⟩ := blk4 HT2.out
  clear hrs2 ho2
  go_wp2
  go_region_with ((go_at_call 62; refine (hu.out _ ?_).mono ?_; exact HRS2.out.drew; rintro e w4 ⟨I4, S4, ln4, nn4, va4, vn4, vc4, pa4, pn4, pc4, rfl, hr4, ho4, hrep4⟩; obtain ⟨q0, q1, q2, q3, fq, lq⟩ := blk4 (ho4.blk (g := w1.heap.size) HT2.out (by omega)); obtain ⟨k0, k1, k2, k3, k4, k5, fk, lk⟩ := blk6 (ho4.blk (g := w.heap.size) HZ2.out (by omega)); have HR4 := hide hr4; have HO4 := hide ho4; have HRep4 := hide hrep4; clear hr4 ho4 hrep4))
  all_goals go_wp2
  all_goals
    refine bodyPost_ret (v := .agg #[.string ⟨#[110, 101, 103]⟩, .int .i64 ((hdT s).line : Nat), .string ⟨#[]⟩, .int .i64 0, .slice (some ⟨w4.heap.size, 0, none⟩) 1 1, .slice none 0 0]) ?_ rfl ?_
    · simp [results, Tryz.results62, go_sem, k0, k1, k2, k3, k4, k5, lk]
    rw [HRR.out]
    refine un_close (I := [110, 101, 103]) lb lt lk (.inr rfl) rfl HR4.out (HO2.out.drew.trans HO4.out) (fun hb => ⟨(HRep4.out hb).1, ?_⟩)
    exact RepF.keep (fun g hg hl => ⟨rfl, by have h2 : w2.heap.size ≤ g := hg; omega⟩) _ _ (HRep4.out hb).2
end Go.Proofs.YtgccmgjbbcndbaaGreatDoor
/- Walk of unary: a part and its indexes. -/
namespace Go.Proofs.YtgccmgjbbcndbaaGreatDoor
open Go.RowKit
open Go.Deep (BT)

/- what holds at the head of the loop over indexes: w: where the call began; X, T: the blocks of what was read and of the token -/
def URel (b tb cap te : Nat) (xs : List (Tk × List UInt8)) (r : BT Lab × PS) (w : World) (X T : Nat) (k : Nat) (wr : World) : Prop :=
  ∃ (acc : BT Lab) (st : PS) (I S : List UInt8) (ln nn : Int) (va : Option Addr) (vn vc : Nat) (pa : Option Addr) (pn pc : Nat) (t0 t2 t3 : Int) (t1 : ByteArray), pars k 3 0 acc st = some r ∧ RS b tb cap te xs wr st ∧ Only b w wr ∧
    wr.heap[X]? = some (.cells #[.string ⟨I.toArray⟩, .int .i64 ln, .string ⟨S.toArray⟩, .int .i64 nn, .slice va vn vc, .slice pa pn pc] 41 (0, 0)) ∧
    wr.heap[w.heap.size]? = some (.cells #[.string ⟨#[]⟩, .int .i64 0, .string ⟨#[]⟩, .int .i64 0, .slice none 0 0, .slice none 0 0] 41 (0, 0)) ∧
    wr.heap[T]? = some (.cells #[.int .u8 t0, .string t1, .int .i64 t2, .int .i64 t3] 79 (0, 0)) ∧
    (st.bad = 0 → blen acc = 1 ∧ RepF (fun g => w.heap.size < g ∧ g ≠ X ∧ g ≠ T) wr acc (ndC I S ln nn va vn vc pa pn pc).toList)

theorem fail_bad {s : PS} (h : (failS s).bad = 0) : s.bad = 0 := by
  unfold failS at h
  split at h
  · assumption
  · exact h
theorem take_bad {s : PS} : (takeS s).bad = s.bad := by unfold takeS; split <;> rfl
theorem want_good {k : Nat} {s : PS} (h : (wantS k s).bad = 0) : s.bad = 0 := by
  unfold wantS at h
  split at h
  · rw [take_bad] at h; exact h
  · exact fail_bad h

set_option maxRecDepth 100000 in
set_option maxHeartbeats 2000000 in
theorem unary_part {b tb cap te : Nat} {xs : List (Tk × List UInt8)} {n : Nat} (ih : ∀ m, m ≤ n → RefPars b tb cap te xs m) (w : World) (s : PS) (r : BT Lab × PS) (h28 : kT s ≠ 28) (h35 : kT s ≠ 35) (hs : RS b tb cap te xs w s) (hp : pars (n + 1) 2 0 .nil s = some r) :
    Calls Tryz.prog 62 #[.pointer (some ⟨b, 0, none⟩)] w (NodePost b tb cap te xs w r) := by
  obtain ⟨x, hp1, hp2⟩ := pars_part h28 h35 hp
  obtain ⟨lb, lt, lne⟩ := hs.lt
  have hu := hide (fun (w' : World) h => (ih n (Nat.le_refl _)).atom w' s x h hp1)
  have HS := hide hs
  have HP := hide hp2
  have HIH := hide ih
  have HM1 := hide (mayS_ne h28)
  have HM2 := hide (mayS_ne h35)
  have hk1 : (kT s == 28) = false := by simpa using h28
  have hk2 : (kT s == 35) = false := by simpa using h35
  clear hp hp1 hp2 hs ih h28 h35
  go_enter Tryz.func62, Tryz.ntmps62
  go_wp2_with fail
  refine (peek_rs (HS.out.alloc _)).mono ?_
  rintro e w1 ⟨S1, rfl, -, hrs1, hb1⟩
  have HZ1 := hide (bblk hb1 (heap_alloc_new w _))
  have HO1 : Hid (Only b w w1) := ((Only.refl b w).alloc _).trans (Below.only hb1)
  have HRS1 := hide hrs1
  have l1 := heap_lt HZ1.out
  clear hrs1 hb1
  go_wp2_with fail
  refine (may_rs (HRS1.out.alloc _) 28 (by omega) (by omega) [33] rfl).mono ?_
  rintro e w5 ⟨rfl, hrs5, ho5⟩
  rw [hk1]
  rw [HM1.out] at hrs5
  have HZ5 := hide (ho5.blk (alloc_old HZ1.out) (by omega))
  have HT5 := hide (ho5.blk (heap_alloc_new w1 _) (by omega))
  have HO5 : Hid (Only b w w5) := (HO1.out.alloc _).trans ho5
  have HRS5 := hide hrs5
  clear hrs5 ho5
  go_wp2_with fail
  refine (may_rs HRS5.out 35 (by omega) (by omega) [45] rfl).mono ?_
  rintro e w2 ⟨rfl, hrs2, ho2⟩
  rw [hk2]
  rw [HM2.out] at hrs2
  have HZ2 := hide (ho2.blk HZ5.out (by omega))
  have HT2 := hide (ho2.blk HT5.out (by omega))
  have HO2 : Hid (Only b w w2) := HO5.out.trans ho2
  have HRS2 := hide hrs2
  clear hrs2 ho2
  go_wp2_with fail
  refine (hu.out _ HRS2.out).mono ?_
  rintro e w3 ⟨I, S, ln, nn, va, vn, vc, pa, pn, pc, rfl, hr3, ho3, hrep3⟩
  have HZ3 := hide (ho3.blk HZ2.out (by omega))
  have HT3 := hide (ho3.blk HT2.out (by omega))
  have HO3 : Hid (Only b w w3) := HO2.out.trans ho3
  have HR3 := hide hr3
  have HRep3 := hide hrep3
  have l3 := heap_lt HT3.out
  have HL2 := hide (heap_lt HT2.out)
  clear hr3 hrep3 ho3 hu
  go_wp2
  go_loopg [] n (fun k wr => k ≤ n ∧ URel b tb cap te xs r w w3.heap.size w1.heap.size k wr)
  case atStart =>
    refine ⟨Nat.le_refl _, x.1, x.2, I, S, ln, nn, va, vn, vc, pa, pn, pc, _, _, _, _, HP.out, HR3.out.alloc _, HO3.out.alloc _, heap_alloc_new w3 _, alloc_old HZ3.out, alloc_old HT3.out, fun hb => ⟨(HRep3.out hb).1, ?_⟩⟩
    refine RepF.keep (fun g hg hl => ⟨Below.heap_alloc _ _ _ hl, ?_⟩) _ _ (HRep3.out hb).2
    have h2 : w2.heap.size ≤ g := hg
    have := HL2.out
    omega
  case round =>
    clear HR3 HRep3 HZ3 HT3 HO3 HP HS HZ1 HO1 HRS1 HZ5 HT5 HO5 HRS5 HZ2 HT2 HO2 HRS2 HL2
    obtain ⟨hkn, acc, st, I, S, ln, nn, va, vn, vc, pa, pn, pc, t0, t2, t3, t1, hp, hrs, hO, hX, hZ, hT, hrep⟩ := hrel
    cases gk with
    | zero => exact absurd hp (pars_zero _ _ _ _ _)
    | succ m =>
    have lX := heap_lt hX
    have HRS := hide hrs
    have HX := hide hX
    have HZ := hide hZ
    have HT := hide hT
    have HRep := hide hrep
    have HO := hide hO
    by_cases h22 : kT st = 22
    · obtain ⟨y, hy1, hy2⟩ := pars_index h22 hp
      have hu := hide (fun (w' : World) h => (HIH.out m (by omega)).expr w' (takeS st) 0 0 y (by omega) (by omega) h hy1)
      have HY := hide hy2
      have HM := hide (mayS_eq h22)
      have hk : (kT st == 22) = true := by rw [h22]; rfl
      have HB0 : Hid (st.bad = 0) := by obtain ⟨pl, h⟩ := hrs; exact (h.notEnd (by omega)).1
      clear hp hrs hX hZ hT hrep hO h22 hy1 hy2
      go_wp2_with fail
      refine (peek_rs HRS.out).mono ?_
      rintro e w4 ⟨S4, rfl, -, hrs4, hb4⟩
      have HZ4 := hide (bblk hb4 HZ.out)
      have HX4 := hide (bblk hb4 HX.out)
      have HT4 := hide (bblk hb4 HT.out)
      have HRS4 := hide hrs4
      have HB4 := hide hb4
      obtain ⟨g0, g1, g2, g3, f1, l2⟩ := blk4 HT4.out
      clear hrs4 hb4
      go_wp2_with fail
      refine (may_rs (HRS4.out.other4 (g := w1.heap.size) (by omega) (by omega) _ _ _ _) 22 (by omega) (by omega) [91] rfl).mono ?_
      rintro e w6 ⟨rfl, hrs6, ho6⟩
      rw [hk]
      rw [HM.out] at hrs6
      have HZ6 := hide (ho6.blk (set4_old HZ4.out (by omega) _ _ _ _) (by omega))
      have HX6 := hide (ho6.blk (set4_old HX4.out (by omega) _ _ _ _) (by omega))
      have HT6 := hide (ho6.blk (set4_new HT4.out _ _ _ _) (by omega))
      have HRS6 := hide hrs6
      have HO6 := hide ho6
      clear hrs6 ho6 g0 g1 g2 g3 f1
      go_wp2_with fail
      refine (hu.out _ HRS6.out).mono ?_
      rintro e w7 ⟨I7, S7, ln7, nn7, va7, vn7, vc7, pa7, pn7, pc7, rfl, hr7, ho7, hrep7⟩
      have HZ7 := hide (ho7.blk HZ6.out (by omega))
      have HX7 := hide (ho7.blk HX6.out (by omega))
      have HT7 := hide (ho7.blk HT6.out (by omega))
      have HR7 := hide hr7
      have HO7 := hide ho7
      have HRep7 := hide hrep7
      have l7 := heap_lt HX7.out
      clear hr7 ho7 hrep7 hu
      go_wp2_with fail
      refine (must_rs (HR7.out.alloc _) 23 (by omega) (by omega) [93] rfl).mono ?_
      rintro e w8 ⟨rfl, hrs8, ho8⟩
      have HZ8 := hide (ho8.blk (alloc_old HZ7.out) (by omega))
      have HX8 := hide (ho8.blk (alloc_old HX7.out) (by omega))
      have HT8 := hide (ho8.blk (alloc_old HT7.out) (by omega))
      have HY8 := hide (ho8.blk (heap_alloc_new w7 _) (by omega))
      obtain ⟨d0, d1, d2, d3, d4, d5, f2, l8⟩ := blk6 HX8.out
      obtain ⟨g0, g1, g2, g3, f3, l9⟩ := blk4 HT8.out
      obtain ⟨k0, k1, k2, k3, k4, k5, f4, l10⟩ := blk6 HY8.out
      have HRS8 := hide hrs8
      have HO8 := hide ho8
      clear hrs8 ho8
      go_wp2
      go_roundg m
      case measure => omega
      case rel =>
        have hb4 := HB4.out
        have s4 := hb4.size
        have hO6 : Only b w w6 := (Only.set4 (HO.out.trans (Below.only hb4)) (by omega) _ _ _ _).trans HO6.out
        have hO8 : Only b w w8 := ((hO6.trans HO7.out).alloc _).trans HO8.out
        have s6 : w4.heap.size ≤ w6.heap.size := by have := HO6.out.size; simpa [World.setCell] using this
        have s7 := HO7.out.size
        have s8 : w7.heap.size + 1 ≤ w8.heap.size := by have := HO8.out.size; simpa using this
        refine ⟨by omega, nd (lab0 12 (hdT st).line) (bapp acc y.1), wantS 23 y.2, [105, 110, 100, 101, 120], [], ((hdT st).line : Nat), 0, some ⟨w8.heap.size, 0, none⟩, 2, 2, none, 0, 0, refKind (kT st), (hdT st).n, ((hdT st).line : Nat), ⟨S4.toArray⟩, HY.out, ?_, ?_, ?_, ?_, ?_, ?_⟩
        · exact (HRS8.out.other6 (by omega) (by omega) _ _ _ _ _ _).alloc _
        · exact (Only.set6 hO8 (by omega) _ _ _ _ _ _).alloc _
        · exact alloc_old (set6_new HX8.out _ _ _ _ _ _)
        · exact alloc_old (set6_old HZ8.out (by omega) _ _ _ _ _ _)
        · exact alloc_old (set6_old HT8.out (by omega) _ _ _ _ _ _)
        · intro hb
          have hb7 := want_good hb
          refine ⟨rfl, two_rep ⟨by decide, by decide, by decide, by decide⟩ rfl (fun g hg => hg.2.1) (by omega) ⟨(HRep.out HB0.out).1, ?_⟩ ⟨(HRep7.out hb7).1, ?_⟩⟩
          · refine RepF.keep (fun g hg hl => ⟨?_, hg⟩) _ _ (HRep.out HB0.out).2
            refine (HO8.out.block g (by simp; omega) (by omega)).trans ?_
            refine (Below.heap_alloc _ _ _ (by omega)).trans ?_
            refine (HO7.out.block g (by omega) (by omega)).trans ?_
            refine (HO6.out.block g (by simp [World.setCell]; omega) (by omega)).trans ?_
            exact (set4_same hg.2.2 _ _ _ _).trans (hb4.block g hl)
          · refine RepF.keep (fun g hg hl => ⟨?_, ?_⟩) _ _ (HRep7.out hb7).2
            · refine (HO8.out.block g (by simp; omega) (by have h6 : w6.heap.size ≤ g := hg; omega)).trans ?_
              exact Below.heap_alloc _ _ _ hl
            · have h6 : w6.heap.size ≤ g := hg
              omega
    · have hrr := pars_index0 h22 hp
      have HRR := hide hrr
      have HM := hide (mayS_ne h22)
      have hk : (kT st == 22) = false := by simpa using h22
      clear hp hrs hX hZ hT hrep hO hrr h22
      go_wp2_with fail
      refine (peek_rs HRS.out).mono ?_
      rintro e w4 ⟨S4, rfl, -, hrs4, hb4⟩
      have HZ4 := hide (bblk hb4 HZ.out)
      have HX4 := hide (bblk hb4 HX.out)
      have HT4 := hide (bblk hb4 HT.out)
      have HRS4 := hide hrs4
      have HB4 := hide hb4
      obtain ⟨g0, g1, g2, g3, f1, l2⟩ := blk4 HT4.out
      clear hrs4 hb4
      go_wp2_with fail
      refine (may_rs (HRS4.out.other4 (g := w1.heap.size) (by omega) (by omega) _ _ _ _) 22 (by omega) (by omega) [91] rfl).mono ?_
      rintro e w6 ⟨rfl, hrs6, ho6⟩
      rw [hk]
      rw [HM.out] at hrs6
      have HZ6 := hide (ho6.blk (set4_old HZ4.out (by omega) _ _ _ _) (by omega))
      have HX6 := hide (ho6.blk (set4_old HX4.out (by omega) _ _ _ _) (by omega))
      obtain ⟨c0, c1, c2, c3, c4, c5, f0, l0⟩ := blk6 HZ6.out
      obtain ⟨d0, d1, d2, d3, d4, d5, f2, l6⟩ := blk6 HX6.out
      have HRS6 := hide hrs6
      have HO6 := hide ho6
      clear hrs6 ho6 g0 g1 g2 g3 f1
      go_wp2
      refine bodyPost_ret (v := .agg #[.string ⟨I.toArray⟩, .int .i64 ln, .string ⟨S.toArray⟩, .int .i64 nn, .slice va vn vc, .slice pa pn pc]) ?_ rfl ?_
      · simp [results, Tryz.results62, go_sem, c0, c1, c2, c3, c4, c5]
      rw [HRR.out]
      refine node_close lb lt HRS6.out ((Only.set4 (HO.out.trans (Below.only HB4.out)) (by omega) _ _ _ _).trans HO6.out) (fun hb => ⟨(HRep.out hb).1, ?_⟩)
      refine RepF.keep (fun g hg hl => ⟨?_, hg.1⟩) _ _ (HRep.out hb).2
      have hb4 := HB4.out
      refine (HO6.out.block g (by simp [World.setCell]; have := hb4.size; omega) (by omega)).trans ?_
      exact (set4_same hg.2.2 _ _ _ _).trans (hb4.block g hl)
end Go.Proofs.YtgccmgjbbcndbaaGreatDoor
