import Derived.Test.YtgccmgjbbcndbaaGreatDoorM20
/- Walk of statement: print, return with a value. -/
namespace Go.Proofs.YtgccmgjbbcndbaaGreatDoor
open Go.RowKit
open Go.Deep (BT)

set_option maxRecDepth 100000 in
set_option maxHeartbeats 2000000 in
theorem stmt_print {b tb cap te : Nat} {xs : List (Tk × List UInt8)} {n : Nat} (ih : RefPars b tb cap te xs n) (w : World) (s : PS) (r : BT Lab × PS) (hk : kT s = 12) (hs : RS b tb cap te xs w s) (hp : pars (n + 1) 9 0 .nil s = some r) :
    Calls Tryz.prog 22 #[.pointer (some ⟨b, 0, none⟩)] w (NodePost b tb cap te xs w r) := by
  obtain ⟨x, hp1, hrr⟩ := pars_sprint hk hp
  have HRR := hide hrr
  have hu := hide (fun (w' : World) h => ih.expr w' (takeS s) 0 0 x (by omega) (by omega) h hp1)
  clear hrr hp1 ih
  obtain ⟨lb, lt, lne⟩ := hs.lt
  have HS := hide hs
  have HK0 : Hid (kT s ≠ 0) := by show _ ≠ _; omega
  clear hp hs
  go_enter Tryz.func22, Tryz.ntmps22
  go_wp2_with fail
  refine (peek_rs (HS.out.alloc _)).mono ?_
  rintro e w1 ⟨S1, rfl, hS1, hrs1, hb1⟩
  have hS2 : S1 = [112, 114, 105, 110, 116] := (hS1 (by show kT s ≠ 2; omega)).trans (by unfold refS; rw [if_neg (by show ¬ (kT s = 1 ∨ kT s = 3); omega)]; show spell (kT s) = _; rw [hk]; rfl)
  subst hS2
  clear hS1
  have HZ1 := hide (bblk hb1 (heap_alloc_new w _))
  have HO1 : Hid (Only b w w1) := ((Only.refl b w).alloc _).trans (Below.only hb1)
  obtain ⟨pl, hpl⟩ := hrs1
  obtain ⟨e0, e1, e2⟩ := hpl.cells
  have fb := frozen_row hpl.rd
  have lb1 := heap_lt hpl.rd
  have hfew := hpl.toks.few
  have hpll := hpl.lt
  obtain ⟨c0, c1, c2, c3, c4, c5, f0, l0⟩ := blk6 HZ1.out
  have HM : Hid (RS b tb cap te xs (w1.setCell ⟨b, 1, none⟩ (.int .i64 ((pl : Int) + 1))) (takeS s)) := ⟨pl + 1, hpl.move HK0.out _ rfl⟩
  have HO2 : Hid (Only b w (w1.setCell ⟨b, 1, none⟩ (.int .i64 ((pl : Int) + 1)))) := Only.set (p := ⟨b, 1, none⟩) HO1.out (.inl rfl) _
  have HZ2 := hide (set_old (p := ⟨b, 1, none⟩) (u := .int .i64 ((pl : Int) + 1)) HZ1.out (by show w.heap.size ≠ b; omega))
  have HL2 : Hid ((w1.setCell ⟨b, 1, none⟩ (.int .i64 ((pl : Int) + 1))).heap.size = w1.heap.size) := by
    show _ = _
    simp [World.setCell]
  clear hpl hb1 e0 e2
  have hkr : refKind (kT s) = 119 := by rw [hk]; rfl
  rw [hkr]
  have HK := hide hk
  clear hk hkr
  go_wp2_with fail
  refine (among_any [112, 114, 105, 110, 116] stmtWords _ (by decide) (by decide)).mono ?_
  rintro e w' ⟨rfl, rfl⟩
  rw [show amongL [112, 114, 105, 110, 116] stmtWords = true from by decide +kernel]
  go_wp2_with fail
  refine (hu.out _ ((HM.out.alloc _).alloc _)).mono ?_
  rintro e w3 ⟨I, S, ln, nn, va, vn, vc, pa, pn, pc, rfl, hrs3, ho3, hrep3⟩
  have HLow : Hid (∀ k, (((w1.setCell ⟨b, 1, none⟩ (.int .i64 ((pl : Int) + 1))).alloc (.cells #[.int .u8 119, .string ⟨#[112, 114, 105, 110, 116]⟩, .int .i64 (hdT s).n, .int .i64 ((hdT s).line : Nat)] 79)).alloc (.cells #[.string ⟨#[112, 114, 105, 110, 116]⟩, .int .i64 ((hdT s).line : Nat), .string ⟨#[]⟩, .int .i64 0, .slice none 0 0, .slice none 0 0] 41)).heap.size ≤ k → w1.heap.size + 1 < k) := by
    intro k hk
    rw [World.size_alloc, World.size_alloc, HL2.out] at hk; omega
  have hZ3 := ho3.blk (alloc_old (alloc_old HZ2.out)) (by omega)
  have hX3 := ho3.blk (g := w1.heap.size + 1) (by have := heap_alloc_new ((w1.setCell ⟨b, 1, none⟩ (.int .i64 ((pl : Int) + 1))).alloc (.cells #[.int .u8 119, .string ⟨#[112, 114, 105, 110, 116]⟩, .int .i64 (hdT s).n, .int .i64 ((hdT s).line : Nat)] 79)) (.cells #[.string ⟨#[112, 114, 105, 110, 116]⟩, .int .i64 ((hdT s).line : Nat), .string ⟨#[]⟩, .int .i64 0, .slice none 0 0, .slice none 0 0] 41); rw [World.size_alloc, HL2.out] at this; exact this) (by omega)
  have HZ3 := hide hZ3
  have HX3 := hide hX3
  have hsz3 : w1.heap.size + 2 ≤ w3.heap.size := by have := ho3.size; rw [World.size_alloc, World.size_alloc, HL2.out] at this; exact this
  have HO3 : Hid (Only b w w3) := ((HO2.out.alloc _).alloc _).trans ho3
  obtain ⟨d0, d1, d2, d3, d4, d5, f2, l2⟩ := blk6 hX3
  have HRS3 := hide hrs3
  have HRep3 := hide hrep3
  have hnil := World.ownsRow_nil (w3.alloc (.cells (ndC I S ln nn va vn vc pa pn pc) 41)) 0 41 6
  clear hrs3 ho3 hrep3 hZ3 hX3 c0 c1 c2 c3 c4 c5 f0 e1 fb
  go_wp2_with (at_builtin; refine wpl_app (w3.alloc (.cells (ndC I S ln nn va vn vc pa pn pc) 41)) (ndC I S ln nn va vn vc pa pn pc) 41 rfl (.tmp 110) (.tmp 112) 36 rfl 0 6 96 (.agg #[.string ⟨#[]⟩, .int .i64 0, .string ⟨#[]⟩, .int .i64 0, .slice none 0 0, .slice none 0 0]) Tryz.underlying36 infoNode rfl (by omega) (.slice none 0 0) 0 [] rfl (by simp; rfl) hnil rfl nd_one (by omega) (by omega) (Nat.zero_le _) ?_; intro g cap1 w5 hown5 hgrow hat hg; have HG : Hid (g = w3.heap.size + 1 + 1) := (by show g = _; rcases hat with h | h; exact absurd h (by simp [Value.ownBlock]); simpa using h); replace hgrow : (w3.alloc (.cells (ndC I S ln nn va vn vc pa pn pc) 41)).grownBy w5 none := hgrow; have hX5 := (hgrow.block _ (heap_lt (alloc_old HX3.out)) (by simp)).trans (alloc_old HX3.out); obtain ⟨p0, p1, p2, p3, p4, p5, f5, l5⟩ := blk6 hX5; have HX5 := hide hX5; clear hat hX5)
  have HGrow := hide hgrow
  have HOwn5 := hide hown5
  have HZ5 := hide ((HGrow.out.block _ (heap_lt (alloc_old HZ3.out)) (by simp)).trans (alloc_old HZ3.out))
  have HRS5 : Hid (RS b tb cap te xs w5 x.2) := (HRS3.out.alloc _).grown HGrow.out (by simp) (by simp)
  have HO5 : Hid (Only b w w5) := (HO3.out.alloc _).grown HGrow.out (fun k e => by cases e)
  clear hgrow hown5 p0 p1 p2 p3 p4 p5 f5 d0 d1 d2 d3 d4 d5 f2 hnil
  refine (must_rs (HRS5.out.other (p := ⟨w1.heap.size + 1, 4, none⟩) (by show b ≠ w1.heap.size + 1; omega) (by show tb ≠ w1.heap.size + 1; omega) _) 25 (by omega) (by omega) [59] rfl).mono ?_
  rintro e w6 ⟨rfl, hrs6, ho6⟩
  have hZ6 := ho6.blk (set_old (p := ⟨w1.heap.size + 1, 4, none⟩) HZ5.out (by show w.heap.size ≠ w1.heap.size + 1; omega)) (by omega)
  have hX6 := ho6.blk (heap_set (j := 4) HX5.out _) (by omega)
  simp only [List.setIfInBounds_toArray, List.set_cons_zero, List.set_cons_succ] at hX6
  obtain ⟨k0, k1, k2, k3, k4, k5, f1, l1⟩ := blk6 hZ6
  obtain ⟨q0, q1, q2, q3, q4, q5, f3, l3⟩ := blk6 hX6
  have HRS6 := hide hrs6
  have HO6 := hide ho6
  clear hrs6 ho6 hZ6 hX6
  go_wp2
  refine bodyPost_ret (v := .agg #[.string ⟨#[112, 114, 105, 110, 116]⟩, .int .i64 ((hdT s).line : Nat), .string ⟨#[]⟩, .int .i64 0, .slice (some ⟨g, 0, none⟩) (0 + 1) cap1, .slice none 0 0]) ?_ rfl ?_
  · simp [results, Tryz.results22, go_sem, k0, k1, k2, k3, k4, k5]
  rw [HRR.out]
  refine node_close (I := [112, 114, 105, 110, 116]) (S := []) lb lt HRS6.out ((Only.set (p := ⟨w1.heap.size + 1, 4, none⟩) HO5.out (.inr (by show w.heap.size ≤ w1.heap.size + 1; omega)) _).trans HO6.out) (fun hb => ⟨rfl, ?_⟩)
  have hr4 := HRep3.out (want_good hb)
  have hap := app_one (D := fun k => w1.heap.size + 1 < k) HGrow.out HOwn5.out (fun k hk => Below.heap_alloc w3 _ k hk) (by simp) ⟨hr4.1, RepF.keep (fun k hk hl => ⟨rfl, HLow.out k hk⟩) _ _ hr4.2⟩ (by show w1.heap.size + 1 < g; have := HG.out; omega)
  have hkeep : ∀ k, w1.heap.size + 1 < k → k < w5.heap.size → w6.heap[k]? = w5.heap[k]? ∧ w.heap.size < k := fun k hk hl =>
    ⟨(HO6.out.block k (by simp [World.setCell]; exact hl) (by omega)).trans (Below.heap_setCell _ _ _ _ (by show k ≠ w1.heap.size + 1; omega)), by omega⟩
  exact RepF.one _ x.1 _ _ _ _ _ _ _ none 0 0 _ (by show (27 : Nat) ≠ 8; decide) (by show (27 : Nat) ≠ 20; decide) rfl (fun _ => rfl) (fun h => absurd h (by show ¬ (nameSure 27 = true); decide)) (fun h => absurd h (by show ¬ ((27 : Nat) = 1); decide)) (hap.1.keep hkeep) (RepF.keep hkeep _ _ hap.2)

set_option maxRecDepth 100000 in
set_option maxHeartbeats 2000000 in
theorem stmt_ret {b tb cap te : Nat} {xs : List (Tk × List UInt8)} {n : Nat} (ih : RefPars b tb cap te xs n) (w : World) (s : PS) (r : BT Lab × PS) (hk : kT s = 9) (hk2 : kT (takeS s) ≠ 25) (hs : RS b tb cap te xs w s) (hp : pars (n + 1) 9 0 .nil s = some r) :
    Calls Tryz.prog 22 #[.pointer (some ⟨b, 0, none⟩)] w (NodePost b tb cap te xs w r) := by
  obtain ⟨x, hp1, hrr⟩ := pars_sret hk hk2 hp
  have HRR := hide hrr
  have hu := hide (fun (w' : World) h => ih.expr w' (takeS s) 0 0 x (by omega) (by omega) h hp1)
  clear hrr hp1 ih
  have hq : (kT (takeS s) == 25) = false := by simpa using hk2
  clear hk2
  obtain ⟨lb, lt, lne⟩ := hs.lt
  have HS := hide hs
  have HK0 : Hid (kT s ≠ 0) := by show _ ≠ _; omega
  clear hp hs
  go_enter Tryz.func22, Tryz.ntmps22
  go_wp2_with fail
  refine (peek_rs (HS.out.alloc _)).mono ?_
  rintro e w1 ⟨S1, rfl, hS1, hrs1, hb1⟩
  have hS2 : S1 = [114, 101, 116, 117, 114, 110] := (hS1 (by show kT s ≠ 2; omega)).trans (by unfold refS; rw [if_neg (by show ¬ (kT s = 1 ∨ kT s = 3); omega)]; show spell (kT s) = _; rw [hk]; rfl)
  subst hS2
  clear hS1
  have HZ1 := hide (bblk hb1 (heap_alloc_new w _))
  have HO1 : Hid (Only b w w1) := ((Only.refl b w).alloc _).trans (Below.only hb1)
  obtain ⟨pl, hpl⟩ := hrs1
  obtain ⟨e0, e1, e2⟩ := hpl.cells
  have fb := frozen_row hpl.rd
  have lb1 := heap_lt hpl.rd
  have hfew := hpl.toks.few
  have hpll := hpl.lt
  obtain ⟨c0, c1, c2, c3, c4, c5, f0, l0⟩ := blk6 HZ1.out
  have HM : Hid (RS b tb cap te xs (w1.setCell ⟨b, 1, none⟩ (.int .i64 ((pl : Int) + 1))) (takeS s)) := ⟨pl + 1, hpl.move HK0.out _ rfl⟩
  have HO2 : Hid (Only b w (w1.setCell ⟨b, 1, none⟩ (.int .i64 ((pl : Int) + 1)))) := Only.set (p := ⟨b, 1, none⟩) HO1.out (.inl rfl) _
  have HZ2 := hide (set_old (p := ⟨b, 1, none⟩) (u := .int .i64 ((pl : Int) + 1)) HZ1.out (by show w.heap.size ≠ b; omega))
  have HL2 : Hid ((w1.setCell ⟨b, 1, none⟩ (.int .i64 ((pl : Int) + 1))).heap.size = w1.heap.size) := by
    show _ = _
    simp [World.setCell]
  clear hpl hb1 e0 e2
  have hkr : refKind (kT s) = 119 := by rw [hk]; rfl
  rw [hkr]
  have HK := hide hk
  clear hk hkr
  go_wp2_with fail
  refine (among_any [114, 101, 116, 117, 114, 110] stmtWords _ (by decide) (by decide)).mono ?_
  rintro e w' ⟨rfl, rfl⟩
  rw [show amongL [114, 101, 116, 117, 114, 110] stmtWords = true from by decide +kernel]
  go_wp2_with fail
  refine (is_rs ((HM.out.alloc _).alloc _) 25 (by omega) (by omega) [59] rfl).mono ?_
  rintro e w9 ⟨rfl, hrs9, hb9⟩
  rw [hq]
  have HRS9 := hide hrs9
  have HB9 := hide hb9
  clear hrs9 hb9
  go_wp2_with fail
  refine (hu.out _ HRS9.out).mono ?_
  rintro e w3 ⟨I, S, ln, nn, va, vn, vc, pa, pn, pc, rfl, hrs3, ho3', hrep3⟩
  have ho3 := (Below.only (b := b) HB9.out).trans ho3'
  have HLow : Hid (∀ k, w9.heap.size ≤ k → w1.heap.size + 1 < k) := by
    intro k hk
    have := HB9.out.size
    rw [World.size_alloc, World.size_alloc, HL2.out] at this; omega
  clear ho3'
  have hZ3 := ho3.blk (alloc_old (alloc_old HZ2.out)) (by omega)
  have hX3 := ho3.blk (g := w1.heap.size + 1) (by have := heap_alloc_new ((w1.setCell ⟨b, 1, none⟩ (.int .i64 ((pl : Int) + 1))).alloc (.cells #[.int .u8 119, .string ⟨#[114, 101, 116, 117, 114, 110]⟩, .int .i64 (hdT s).n, .int .i64 ((hdT s).line : Nat)] 79)) (.cells #[.string ⟨#[114, 101, 116, 117, 114, 110]⟩, .int .i64 ((hdT s).line : Nat), .string ⟨#[]⟩, .int .i64 0, .slice none 0 0, .slice none 0 0] 41); rw [World.size_alloc, HL2.out] at this; exact this) (by omega)
  have HZ3 := hide hZ3
  have HX3 := hide hX3
  have hsz3 : w1.heap.size + 2 ≤ w3.heap.size := by have := ho3.size; rw [World.size_alloc, World.size_alloc, HL2.out] at this; exact this
  have HO3 : Hid (Only b w w3) := ((HO2.out.alloc _).alloc _).trans ho3
  obtain ⟨d0, d1, d2, d3, d4, d5, f2, l2⟩ := blk6 hX3
  have HRS3 := hide hrs3
  have HRep3 := hide hrep3
  have hnil := World.ownsRow_nil (w3.alloc (.cells (ndC I S ln nn va vn vc pa pn pc) 41)) 0 41 6
  clear hrs3 ho3 hrep3 hZ3 hX3 c0 c1 c2 c3 c4 c5 f0 e1 fb
  go_wp2_with (at_builtin; refine wpl_app (w3.alloc (.cells (ndC I S ln nn va vn vc pa pn pc) 41)) (ndC I S ln nn va vn vc pa pn pc) 41 rfl (.tmp 100) (.tmp 102) 36 rfl 0 6 96 (.agg #[.string ⟨#[]⟩, .int .i64 0, .string ⟨#[]⟩, .int .i64 0, .slice none 0 0, .slice none 0 0]) Tryz.underlying36 infoNode rfl (by omega) (.slice none 0 0) 0 [] rfl (by simp; rfl) hnil rfl nd_one (by omega) (by omega) (Nat.zero_le _) ?_; intro g cap1 w5 hown5 hgrow hat hg; have HG : Hid (g = w3.heap.size + 1 + 1) := (by show g = _; rcases hat with h | h; exact absurd h (by simp [Value.ownBlock]); simpa using h); replace hgrow : (w3.alloc (.cells (ndC I S ln nn va vn vc pa pn pc) 41)).grownBy w5 none := hgrow; have hX5 := (hgrow.block _ (heap_lt (alloc_old HX3.out)) (by simp)).trans (alloc_old HX3.out); obtain ⟨p0, p1, p2, p3, p4, p5, f5, l5⟩ := blk6 hX5; have HX5 := hide hX5; clear hat hX5)
  have HGrow := hide hgrow
  have HOwn5 := hide hown5
  have HZ5 := hide ((HGrow.out.block _ (heap_lt (alloc_old HZ3.out)) (by simp)).trans (alloc_old HZ3.out))
  have HRS5 : Hid (RS b tb cap te xs w5 x.2) := (HRS3.out.alloc _).grown HGrow.out (by simp) (by simp)
  have HO5 : Hid (Only b w w5) := (HO3.out.alloc _).grown HGrow.out (fun k e => by cases e)
  clear hgrow hown5 p0 p1 p2 p3 p4 p5 f5 d0 d1 d2 d3 d4 d5 f2 hnil
  refine (must_rs (HRS5.out.other (p := ⟨w1.heap.size + 1, 4, none⟩) (by show b ≠ w1.heap.size + 1; omega) (by show tb ≠ w1.heap.size + 1; omega) _) 25 (by omega) (by omega) [59] rfl).mono ?_
  rintro e w6 ⟨rfl, hrs6, ho6⟩
  have hZ6 := ho6.blk (set_old (p := ⟨w1.heap.size + 1, 4, none⟩) HZ5.out (by show w.heap.size ≠ w1.heap.size + 1; omega)) (by omega)
  have hX6 := ho6.blk (heap_set (j := 4) HX5.out _) (by omega)
  simp only [List.setIfInBounds_toArray, List.set_cons_zero, List.set_cons_succ] at hX6
  obtain ⟨k0, k1, k2, k3, k4, k5, f1, l1⟩ := blk6 hZ6
  obtain ⟨q0, q1, q2, q3, q4, q5, f3, l3⟩ := blk6 hX6
  have HRS6 := hide hrs6
  have HO6 := hide ho6
  clear hrs6 ho6 hZ6 hX6
  go_wp2
  refine bodyPost_ret (v := .agg #[.string ⟨#[114, 101, 116, 117, 114, 110]⟩, .int .i64 ((hdT s).line : Nat), .string ⟨#[]⟩, .int .i64 0, .slice (some ⟨g, 0, none⟩) (0 + 1) cap1, .slice none 0 0]) ?_ rfl ?_
  · simp [results, Tryz.results22, go_sem, k0, k1, k2, k3, k4, k5]
  rw [HRR.out]
  refine node_close (I := [114, 101, 116, 117, 114, 110]) (S := []) lb lt HRS6.out ((Only.set (p := ⟨w1.heap.size + 1, 4, none⟩) HO5.out (.inr (by show w.heap.size ≤ w1.heap.size + 1; omega)) _).trans HO6.out) (fun hb => ⟨rfl, ?_⟩)
  have hr4 := HRep3.out (want_good hb)
  have hap := app_one (D := fun k => w1.heap.size + 1 < k) HGrow.out HOwn5.out (fun k hk => Below.heap_alloc w3 _ k hk) (by simp) ⟨hr4.1, RepF.keep (fun k hk hl => ⟨rfl, HLow.out k hk⟩) _ _ hr4.2⟩ (by show w1.heap.size + 1 < g; have := HG.out; omega)
  have hkeep : ∀ k, w1.heap.size + 1 < k → k < w5.heap.size → w6.heap[k]? = w5.heap[k]? ∧ w.heap.size < k := fun k hk hl =>
    ⟨(HO6.out.block k (by simp [World.setCell]; exact hl) (by omega)).trans (Below.heap_setCell _ _ _ _ (by show k ≠ w1.heap.size + 1; omega)), by omega⟩
  exact RepF.one _ x.1 _ _ _ _ _ _ _ none 0 0 _ (by show (24 : Nat) ≠ 8; decide) (by show (24 : Nat) ≠ 20; decide) rfl (fun _ => rfl) (fun h => absurd h (by show ¬ (nameSure 24 = true); decide)) (fun h => absurd h (by show ¬ ((24 : Nat) = 1); decide)) (hap.1.keep hkeep) (RepF.keep hkeep _ _ hap.2)

end Go.Proofs.YtgccmgjbbcndbaaGreatDoor
/- Walk of statement: while. -/
namespace Go.Proofs.YtgccmgjbbcndbaaGreatDoor
open Go.RowKit
open Go.Deep (BT)

set_option maxRecDepth 100000 in
set_option maxHeartbeats 2000000 in
theorem stmt_while {b tb cap te : Nat} {xs : List (Tk × List UInt8)} {n : Nat} (ih : RefPars b tb cap te xs n) (w : World) (s : PS) (r : BT Lab × PS) (hk : kT s = 8) (hs : RS b tb cap te xs w s) (hp : pars (n + 1) 9 0 .nil s = some r) :
    Calls Tryz.prog 22 #[.pointer (some ⟨b, 0, none⟩)] w (NodePost b tb cap te xs w r) := by
  obtain ⟨x, bl, hp1, hp2, hrr⟩ := pars_swhile hk hp
  have HRR := hide hrr
  have hu := hide (fun (w' : World) h => ih.expr w' (takeS s) 0 0 x (by omega) (by omega) h hp1)
  have hu2 := hide (fun (w' : World) h => inner_any ih w' x.2 32 (.inr rfl) bl h hp2)
  have HST := hide (fun h1 h2 => pars_sticky (s := x.2) h1 h2 _ _ _ _ _ hp2)
  clear hrr hp1 hp2 ih
  obtain ⟨lb, lt, lne⟩ := hs.lt
  have HS := hide hs
  have HK0 : Hid (kT s ≠ 0) := by show _ ≠ _; omega
  clear hp hs
  go_enter Tryz.func22, Tryz.ntmps22
  go_wp2_with fail
  refine (peek_rs (HS.out.alloc _)).mono ?_
  rintro e w1 ⟨S1, rfl, hS1, hrs1, hb1⟩
  have hS2 : S1 = [119, 104, 105, 108, 101] := (hS1 (by show kT s ≠ 2; omega)).trans (by unfold refS; rw [if_neg (by show ¬ (kT s = 1 ∨ kT s = 3); omega)]; show spell (kT s) = _; rw [hk]; rfl)
  subst hS2
  clear hS1
  have HZ1 := hide (bblk hb1 (heap_alloc_new w _))
  have HO1 : Hid (Only b w w1) := ((Only.refl b w).alloc _).trans (Below.only hb1)
  obtain ⟨pl, hpl⟩ := hrs1
  obtain ⟨e0, e1, e2⟩ := hpl.cells
  have fb := frozen_row hpl.rd
  have lb1 := heap_lt hpl.rd
  have hfew := hpl.toks.few
  have hpll := hpl.lt
  obtain ⟨c0, c1, c2, c3, c4, c5, f0, l0⟩ := blk6 HZ1.out
  have HM : Hid (RS b tb cap te xs (w1.setCell ⟨b, 1, none⟩ (.int .i64 ((pl : Int) + 1))) (takeS s)) := ⟨pl + 1, hpl.move HK0.out _ rfl⟩
  have HO2 : Hid (Only b w (w1.setCell ⟨b, 1, none⟩ (.int .i64 ((pl : Int) + 1)))) := Only.set (p := ⟨b, 1, none⟩) HO1.out (.inl rfl) _
  have HZ2 := hide (set_old (p := ⟨b, 1, none⟩) (u := .int .i64 ((pl : Int) + 1)) HZ1.out (by show w.heap.size ≠ b; omega))
  have HL2 : Hid ((w1.setCell ⟨b, 1, none⟩ (.int .i64 ((pl : Int) + 1))).heap.size = w1.heap.size) := by
    show _ = _
    simp [World.setCell]
  clear hpl hb1 e0 e2
  have hkr : refKind (kT s) = 119 := by rw [hk]; rfl
  rw [hkr]
  have HK := hide hk
  clear hk hkr
  go_wp2_with fail
  refine (among_any [119, 104, 105, 108, 101] stmtWords _ (by decide) (by decide)).mono ?_
  rintro e w' ⟨rfl, rfl⟩
  rw [show amongL [119, 104, 105, 108, 101] stmtWords = true from by decide +kernel]
  go_wp2_with fail
  refine (hu.out _ ((HM.out.alloc _).alloc _)).mono ?_
  rintro e w3 ⟨I, S, ln, nn, va, vn, vc, pa, pn, pc, rfl, hrs3, ho3, hrep3⟩
  have HLow : Hid (∀ k, (((w1.setCell ⟨b, 1, none⟩ (.int .i64 ((pl : Int) + 1))).alloc (.cells #[.int .u8 119, .string ⟨#[119, 104, 105, 108, 101]⟩, .int .i64 (hdT s).n, .int .i64 ((hdT s).line : Nat)] 79)).alloc (.cells #[.string ⟨#[119, 104, 105, 108, 101]⟩, .int .i64 ((hdT s).line : Nat), .string ⟨#[]⟩, .int .i64 0, .slice none 0 0, .slice none 0 0] 41)).heap.size ≤ k → w1.heap.size + 1 < k) := by
    intro k hk
    rw [World.size_alloc, World.size_alloc, HL2.out] at hk; omega
  have hZ3 := ho3.blk (alloc_old (alloc_old HZ2.out)) (by omega)
  have hX3 := ho3.blk (g := w1.heap.size + 1) (by have := heap_alloc_new ((w1.setCell ⟨b, 1, none⟩ (.int .i64 ((pl : Int) + 1))).alloc (.cells #[.int .u8 119, .string ⟨#[119, 104, 105, 108, 101]⟩, .int .i64 (hdT s).n, .int .i64 ((hdT s).line : Nat)] 79)) (.cells #[.string ⟨#[119, 104, 105, 108, 101]⟩, .int .i64 ((hdT s).line : Nat), .string ⟨#[]⟩, .int .i64 0, .slice none 0 0, .slice none 0 0] 41); rw [World.size_alloc, HL2.out] at this; exact this) (by omega)
  have HZ3 := hide hZ3
  have HX3 := hide hX3
  have hsz3 : w1.heap.size + 2 ≤ w3.heap.size := by have := ho3.size; rw [World.size_alloc, World.size_alloc, HL2.out] at this; exact this
  have HO3 : Hid (Only b w w3) := ((HO2.out.alloc _).alloc _).trans ho3
  have HT3 := hide (ho3.blk (g := w1.heap.size) (alloc_old (by have := heap_alloc_new (w1.setCell ⟨b, 1, none⟩ (.int .i64 ((pl : Int) + 1))) (.cells #[.int .u8 119, .string ⟨#[119, 104, 105, 108, 101]⟩, .int .i64 (hdT s).n, .int .i64 ((hdT s).line : Nat)] 79); rw [HL2.out] at this; exact this)) (by omega))
  have HRS3 := hide hrs3
  have HRep3 := hide hrep3
  clear hrs3 ho3 hrep3 hZ3 hX3 c0 c1 c2 c3 c4 c5 f0 e1 fb
  go_wp2_with fail
  refine (hu2.out _ (HRS3.out.alloc _)).mono ?_
  rintro e w6 ⟨I6, S6, ln6, nn6, va6, vn6, vc6, pa6, pn6, pc6, rfl, hrs6, ho6, hrep6⟩
  have HZ6 := hide (ho6.blk (alloc_old HZ3.out) (by omega))
  have HX6 := hide (ho6.blk (alloc_old HX3.out) (by omega))
  have HE6 := hide (ho6.blk (heap_alloc_new w3 _) (by omega))
  have hsz6 : w3.heap.size + 1 ≤ w6.heap.size := by have := ho6.size; rw [World.size_alloc] at this; exact this
  have HO6 := hide ho6
  obtain ⟨d0, d1, d2, d3, d4, d5, f2, l2⟩ := blk6 HX6.out
  obtain ⟨j0, j1, j2, j3, j4, j5, f4, l4⟩ := blk6 HE6.out
  have HRS6 := hide hrs6
  have HRep6 := hide hrep6
  have hnil := World.ownsRow_nil (w6.alloc (.cells (ndC I6 S6 ln6 nn6 va6 vn6 vc6 pa6 pn6 pc6) 41)) 0 41 6
  have lT : w1.heap.size < w6.heap.size := by omega
  have hT6 := ho6.blk (g := w1.heap.size) (alloc_old (HT3.out)) (by omega)
  obtain ⟨y0, y1, y2, y3, fy, ly⟩ := blk4 hT6
  have HT6 := hide hT6
  clear hrs6 ho6 hrep6 hu2 hT6
  go_wp2_with (at_builtin; refine wpl_appm (w6.alloc (.cells (ndC I6 S6 ln6 nn6 va6 vn6 vc6 pa6 pn6 pc6) 41)) ((ndC I S ln nn va vn vc pa pn pc) ++ (ndC I6 S6 ln6 nn6 va6 vn6 vc6 pa6 pn6 pc6)) 41 rfl (.tmp 70) (.tmp 73) 36 2 rfl 0 6 96 (.agg #[.string ⟨#[]⟩, .int .i64 0, .string ⟨#[]⟩, .int .i64 0, .slice none 0 0, .slice none 0 0]) Tryz.underlying36 infoNode rfl (by omega) (by omega) (by omega) (.slice none 0 0) 0 [] rfl (by simp; rfl) hnil rfl nd_two (by omega) (by omega) (Nat.zero_le _) ?_; intro g cap1 w7 hown7 hgrow hat hg; have HG : Hid (g = w6.heap.size + 1 + 1) := (by show g = _; rcases hat with h | h; exact absurd h (by simp [Value.ownBlock]); simpa using h); replace hgrow : (w6.alloc (.cells (ndC I6 S6 ln6 nn6 va6 vn6 vc6 pa6 pn6 pc6) 41)).grownBy w7 none := hgrow; have hX7 := (hgrow.block _ (heap_lt (alloc_old HX6.out)) (by simp)).trans (alloc_old HX6.out); obtain ⟨p0, p1, p2, p3, p4, p5, f5, l5⟩ := blk6 hX7; have HX7 := hide hX7; have hT7 := (hgrow.block _ (heap_lt (alloc_old HT6.out)) (by simp)).trans (alloc_old HT6.out); obtain ⟨t0, t1, t2, t3, ft, ltt⟩ := blk4 hT7; have hZ7 := (hgrow.block _ (heap_lt (alloc_old HZ6.out)) (by simp)).trans (alloc_old HZ6.out); obtain ⟨k0, k1, k2, k3, k4, k5, f1, l1⟩ := blk6 hZ7; clear hat hX7 hT7 hZ7)
  have HGrow := hide hgrow
  have HOwn7 := hide hown7
  refine bodyPost_ret (v := .agg #[.string ⟨#[119, 104, 105, 108, 101]⟩, .int .i64 ((hdT s).line : Nat), .string ⟨#[]⟩, .int .i64 0, .slice (some ⟨g, 0, none⟩) (0 + 2) cap1, .slice none 0 0]) ?_ rfl ?_
  · simp [results, Tryz.results22, go_sem, k0, k1, k2, k3, k4, k5]
  rw [HRR.out]
  have hrs7 : RS b tb cap te xs w7 bl.2 := (HRS6.out.alloc _).grown HGrow.out (by simp) (by simp)
  have hO7 : Only b w w7 := ((((HO3.out.alloc _).trans HO6.out).alloc _).grown HGrow.out (fun k e => by cases e))
  refine node_close (I := [119, 104, 105, 108, 101]) (S := []) lb lt (hrs7.other (p := ⟨w1.heap.size + 1, 4, none⟩) (by show b ≠ w1.heap.size + 1; omega) (by show tb ≠ w1.heap.size + 1; omega) _) (Only.set (p := ⟨w1.heap.size + 1, 4, none⟩) hO7 (.inr (by show w.heap.size ≤ w1.heap.size + 1; omega)) _) (fun hb => ⟨rfl, ?_⟩)
  have hb3 : x.2.bad = 0 := by
    rcases Nat.eq_zero_or_pos x.2.bad with h | h
    · exact h
    · exfalso
      have hne : x.2.bad ≠ 0 := by omega
      have := HST.out (HRS3.out.sticky hne) hne
      have hb' : bl.2.bad = 0 := hb
      rw [this] at hb'; omega
  have hr3 := HRep3.out hb3
  have hr6 := HRep6.out hb
  have hap := app_two (D := fun k => w1.heap.size + 1 < k) HGrow.out (by simpa using HOwn7.out) (fun k hk => Below.heap_alloc w6 _ k hk) (by simp)
    ⟨hr3.1, RepF.keep (fun k hk hl => ⟨(HO6.out.block k (by rw [World.size_alloc]; omega) (by have := HLow.out k hk; omega)).trans (Below.heap_alloc w3 _ k hl), HLow.out k hk⟩) _ _ hr3.2⟩
    ⟨hr6.1, RepF.keep (fun k hk hl => ⟨rfl, by have h : _ ≤ k := hk; rw [World.size_alloc] at h; omega⟩) _ _ hr6.2⟩ (by show w1.heap.size + 1 < g; have := HG.out; omega)
  have hkeep : ∀ k, w1.heap.size + 1 < k → k < w7.heap.size → (w7.setCell ⟨w1.heap.size + 1, 4, none⟩ (.slice (some ⟨g, 0, none⟩) 2 cap1)).heap[k]? = w7.heap[k]? ∧ w.heap.size < k := fun k hk hl =>
    ⟨Below.heap_setCell _ _ _ _ (by show k ≠ w1.heap.size + 1; omega), by omega⟩
  exact RepF.one _ _ _ _ _ _ _ _ _ none 0 0 _ (by show (23 : Nat) ≠ 8; decide) (by show (23 : Nat) ≠ 20; decide) rfl (fun _ => rfl) (fun h => absurd h (by show ¬ (nameSure 23 = true); decide)) (fun h => absurd h (by show ¬ ((23 : Nat) = 1); decide)) (hap.1.keep hkeep) (RepF.keep hkeep _ _ hap.2)
end Go.Proofs.YtgccmgjbbcndbaaGreatDoor
