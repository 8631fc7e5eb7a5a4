import Derived.Test.YtgccmgjbbcndbaaGreatDoorM41
/- Walks of the checker: if, while; every forest of statements. -/
namespace Go.Proofs.YtgccmgjbbcndbaaGreatDoor
open Go.RowKit
open Go.Deep (BT)

def Part (K : CC) (l : Lab) (c : BT Lab) : Prop := (exK l.kd = true → ExOK K l c) ∧ ((l.kd = 31 ∨ l.kd = 32) → AllN (StOK K) c)

theorem sens_blk (fns : List (Nm × Nat)) {l : Lab} (c : BT Lab) (h : l.kd = 31) (outer cur : List Nm) (wh : Nat) (inn : Bool) (f : Flt) : sens fns (nd l c) outer cur wh inn f = (cur, (sens fns c (outer ++ cur) [] wh inn f).2) := by
  rw [nd, sens, if_pos h, sens]
theorem sens_wblk (fns : List (Nm × Nat)) {l : Lab} (c : BT Lab) (h : l.kd = 32) (outer cur : List Nm) (wh : Nat) (inn : Bool) (f : Flt) : sens fns (nd l c) outer cur wh inn f = (cur, (sens fns c (outer ++ cur) [] (wh + 1) inn f).2) := by
  rw [nd, sens, if_neg (by omega), if_pos h, sens]
theorem NodeC.notBlk {D : Nat → Prop} {w : World} {l : Lab} {t : TypeId} {x : Value} {ks : List Value} (h : NodeC D w l (.iface t x) ks) : l.kd ≠ 31 ∧ l.kd ≠ 32 := by
  unfold NodeC at h
  split at h
  · obtain ⟨⟨_, _, _, e⟩, _⟩ := h; cases e
  · omega
theorem NodeC.isBlk {D : Nat → Prop} {w : World} {l : Lab} {a : Option Addr} {n m : Nat} {ks : List Value} (h : NodeC D w l (.slice a n m) ks) : (l.kd = 31 ∨ l.kd = 32) ∧ OwnsD D w 76 1 (.slice a n m) ks.length ks := by
  unfold NodeC at h
  split at h
  · rename_i h1; exact ⟨h1, h.2⟩
  · obtain ⟨b, cs, e, _⟩ := h; cases e
theorem Wf.part2 {x y : Nat} {l : Lab} {c r : BT Lab} (h : Wf 2 (.node x y l c r)) : (l.kd ≠ 31 → exK l.kd = true ∧ Wf 0 c) ∧ (l.kd = 31 ∨ l.kd = 32 → l.kd = 31 ∧ Wf 1 c) := by
  rcases h.2 with ⟨_, h1, h2⟩ | ⟨_, h1, h2⟩ | ⟨h1, _⟩ | ⟨h1, _⟩ | ⟨h1, _⟩ | ⟨h1, _⟩ | ⟨h1, _⟩
  · exact ⟨fun _ => ⟨h1, h2⟩, fun e => by have := exK_ne h1; omega⟩
  · exact ⟨fun e => absurd h1 e, fun _ => ⟨h1, h2⟩⟩
  all_goals omega
theorem Wf.part3 {x y : Nat} {l : Lab} {c r : BT Lab} (h : Wf 3 (.node x y l c r)) : (l.kd ≠ 32 → exK l.kd = true ∧ Wf 0 c) ∧ (l.kd = 31 ∨ l.kd = 32 → l.kd = 32 ∧ Wf 1 c) := by
  rcases h.2 with ⟨_, h1, h2⟩ | ⟨h1, _⟩ | ⟨_, h1, h2⟩ | ⟨h1, _⟩ | ⟨h1, _⟩ | ⟨h1, _⟩ | ⟨h1, _⟩
  · exact ⟨fun _ => ⟨h1, h2⟩, fun e => by have := exK_ne h1; omega⟩
  · omega
  · exact ⟨fun e => absurd h1 e, fun _ => ⟨h1, h2⟩⟩
  all_goals omega
theorem Wf.exnd {l : Lab} {c : BT Lab} (h : exK l.kd = true) (hc : Wf 0 c) : Wf 0 (nd l c) := Wf.ex h hc

set_option maxRecDepth 100000 in
set_option maxHeartbeats 1000000 in
theorem cst_if (K : CC) (l : Lab) (c : BT Lab) (hk : l.kd = 22) (ih : AllN (Part K) c) (hwf : Wf 2 c) : StOK K l c := by
  intro D w outer cur bl wh inn f rc v ks hst hn hr hz1 hz2 hz3
  obtain ⟨hlo, lcb, hncb⟩ := hst.lo
  unfold NodeC at hn
  rw [if_neg (by omega)] at hn
  obtain ⟨b, cs, rfl, hD, hb, hl⟩ := hn
  have e1 : ptrTy l.kd = 156 := by rw [hk]; rfl
  have e2 : strTy l.kd = 158 := by rw [hk]; rfl
  rw [e1]
  rw [e2] at hb
  unfold LayC at hl
  simp only [hk] at hl
  obtain ⟨t, x, s1, n1, m1, s2, n2, m2, rfl, hks⟩ := hl
  have hnd := sens_nd K.fns l c (by omega) (by omega) (by omega) outer cur wh inn f
  rw [preF_none (by omega)] at hnd
  rw [hnd]
  have d0 := cell_row hb 1 _ rfl
  have ld := heap_lt hb
  have HBk := hide hb
  rw [nd_size] at hz1 hz2 hz3
  have ta0 := fun (v : Value) (w : World) => ta_miss (P := Tryz.prog) (t := 156) (T := 50) (xT := 76) (z := .pointer none) Tryz.underlying50 (by kernel_rfl) (by decide) v w
  have ta1 := fun (v : Value) (w : World) => ta_miss (P := Tryz.prog) (t := 156) (T := 153) (xT := 76) (z := .pointer none) Tryz.underlying153 (by kernel_rfl) (by decide) v w
  have ta2 := fun (v : Value) (w : World) => ta_hit (P := Tryz.prog) (xT := 76) Tryz.underlying156 v w
  rcases hks with ⟨rfl, hs2⟩ | rfl
  · obtain ⟨x1, y1, l1, c1, r1, ks1, rfl, hn1, hr1, hz⟩ := hr.cons'
    obtain ⟨x2, y2, l2, c2, r2, ks2, rfl, hn2, hr2, hzz⟩ := hz.cons'
    obtain rfl := hzz.nil'
    injection hs2 with q1 q2 q3
    subst q1 q2 q3
    obtain ⟨hx1, hx2⟩ := hwf.part2.1 hn1.notBlk.1
    obtain ⟨hk2, ho2⟩ := hn2.isBlk
    obtain ⟨h31, _⟩ := hwf.1.part2.2 hk2
    simp only [bsize] at hz1 hz2 hz3
    have hse : sens K.fns (.node x1 y1 l1 c1 (.node x2 y2 l2 c2 .nil)) outer cur wh inn f = (cur, (sens K.fns c2 (outer ++ cur) [] wh inn (sens K.fns (nd l1 c1) outer cur wh inn f).2).2) := by
      rw [sens_xy' K.fns x1, sens_cur0 K.fns _ (Wf.exnd hx1 hx2), sens_one, sens_blk K.fns c2 h31]
    rw [hse]
    have HC := hide (ih.1.1 hx1 D w outer cur _ wh inn f rc _ ks1 hst hn1 hr1)
    have HC2 := hide (fun W g (hs : K.St D W (outer ++ cur) (bl ++ [outer.length]) wh inn g rc) (hbd : BelD D w W) => cblock_any K c2 (ih.2.1.2 hk2) D W (outer ++ cur) (bl ++ [outer.length]) wh inn g rc s1 n1 m1 ks2 hs (ho2.beld hbd) (hr2.beld hbd) (by omega) (by simp; omega) (by omega))
    have HC3 := hide (fun W g (hs : K.St D W (outer ++ cur) (bl ++ [outer.length]) wh inn g rc) => cblock_any K .nil trivial D W (outer ++ cur) (bl ++ [outer.length]) wh inn g rc none 0 0 [] hs (own_nil _ _ _ _) rfl (by simp only [bsize]; omega) (by simp only [bsize]; simp; omega) (by simp only [bsize]; omega))
    clear hst hb e1 e2 hk hr hn1 hr1 hz ih hwf hnd hz1 hz2 hz3 hn2 hr2 hzz hx1 hx2 hk2 ho2 h31 hse
    unfold ptV
    go_enter Tryz.func82, Tryz.ntmps82
    go_wp2_with fail
    refine (HC.out).mono ?_
    rintro e w1 ⟨rfl, hs1, hb1⟩
    have HS1 := hide hs1
    have HB1 : Hid (BelD D w w1) := hb1
    clear hs1 hb1 d0 ld
    have hbk1 := (HB1.out.block b hD).trans HBk.out
    have d1 := cell_row hbk1 2 _ rfl
    have ld := heap_lt hbk1
    clear hbk1
    go_wp2_with fail
    refine (HC2.out _ _ HS1.out HB1.out).mono ?_
    rintro e w2 ⟨rfl, hs2, hb2⟩
    have HS2 := hide hs2
    have HB2 : Hid (BelD D w w2) := HB1.out.trans hb2
    clear hs2 hb2 d1 ld
    have hbk2 := (HB2.out.block b hD).trans HBk.out
    have d2 := cell_row hbk2 3 _ rfl
    have ld := heap_lt hbk2
    clear hbk2
    go_wp2_with fail
    refine (HC3.out _ _ HS2.out).mono ?_
    rintro e w3 ⟨rfl, hs3, hb3⟩
    have HS3 := hide hs3
    have HB3 : Hid (BelD D w w3) := HB2.out.trans hb3
    clear hs3 hb3 
    go_wp2
    go_end0
    rw [sens] at HS3
    exact ⟨rfl, HS3.out, HB3.out⟩
  · obtain ⟨x1, y1, l1, c1, r1, ks1, rfl, hn1, hr1, hz⟩ := hr.cons'
    obtain ⟨x2, y2, l2, c2, r2, ks2, rfl, hn2, hr2, hzz⟩ := hz.cons'
    obtain ⟨x3, y3, l3, c3, r3, ks3, rfl, hn3, hr3, hzzz⟩ := hzz.cons'
    obtain rfl := hzzz.nil'
    obtain ⟨hx1, hx2⟩ := hwf.part2.1 hn1.notBlk.1
    obtain ⟨hk2, ho2⟩ := hn2.isBlk
    obtain ⟨h31, _⟩ := hwf.1.part2.2 hk2
    obtain ⟨hk3, ho3⟩ := hn3.isBlk
    obtain ⟨h31', _⟩ := hwf.1.1.part2.2 hk3
    simp only [bsize] at hz1 hz2 hz3
    have hse : sens K.fns (.node x1 y1 l1 c1 (.node x2 y2 l2 c2 (.node x3 y3 l3 c3 .nil))) outer cur wh inn f = (cur, (sens K.fns c3 (outer ++ cur) [] wh inn (sens K.fns c2 (outer ++ cur) [] wh inn (sens K.fns (nd l1 c1) outer cur wh inn f).2).2).2) := by
      rw [sens_xy' K.fns x1, sens_cur0 K.fns _ (Wf.exnd hx1 hx2), sens_xy' K.fns x2, sens_blk K.fns c2 h31, sens_one, sens_blk K.fns c3 h31']
    rw [hse]
    have HC := hide (ih.1.1 hx1 D w outer cur _ wh inn f rc _ ks1 hst hn1 hr1)
    have HC2 := hide (fun W g (hs : K.St D W (outer ++ cur) (bl ++ [outer.length]) wh inn g rc) (hbd : BelD D w W) => cblock_any K c2 (ih.2.1.2 hk2) D W (outer ++ cur) (bl ++ [outer.length]) wh inn g rc s1 n1 m1 ks2 hs (ho2.beld hbd) (hr2.beld hbd) (by omega) (by simp; omega) (by omega))
    have HC3 := hide (fun W g (hs : K.St D W (outer ++ cur) (bl ++ [outer.length]) wh inn g rc) (hbd : BelD D w W) => cblock_any K c3 (ih.2.2.1.2 hk3) D W (outer ++ cur) (bl ++ [outer.length]) wh inn g rc s2 n2 m2 ks3 hs (ho3.beld hbd) (hr3.beld hbd) (by omega) (by simp; omega) (by omega))
    clear hst hb e1 e2 hk hr hn1 hr1 hz ih hwf hnd hz1 hz2 hz3 hn2 hr2 hzz hx1 hx2 hk2 ho2 h31 hse hn3 hr3 hzzz hk3 ho3 h31'
    unfold ptV
    go_enter Tryz.func82, Tryz.ntmps82
    go_wp2_with fail
    refine (HC.out).mono ?_
    rintro e w1 ⟨rfl, hs1, hb1⟩
    have HS1 := hide hs1
    have HB1 : Hid (BelD D w w1) := hb1
    clear hs1 hb1 d0 ld
    have hbk1 := (HB1.out.block b hD).trans HBk.out
    have d1 := cell_row hbk1 2 _ rfl
    have ld := heap_lt hbk1
    clear hbk1
    go_wp2_with fail
    refine (HC2.out _ _ HS1.out HB1.out).mono ?_
    rintro e w2 ⟨rfl, hs2, hb2⟩
    have HS2 := hide hs2
    have HB2 : Hid (BelD D w w2) := HB1.out.trans hb2
    clear hs2 hb2 d1 ld
    have hbk2 := (HB2.out.block b hD).trans HBk.out
    have d2 := cell_row hbk2 3 _ rfl
    have ld := heap_lt hbk2
    clear hbk2
    go_wp2_with fail
    refine (HC3.out _ _ HS2.out HB2.out).mono ?_
    rintro e w3 ⟨rfl, hs3, hb3⟩
    have HS3 := hide hs3
    have HB3 : Hid (BelD D w w3) := HB2.out.trans hb3
    clear hs3 hb3 
    go_wp2
    go_end0
    exact ⟨rfl, HS3.out, HB3.out⟩

set_option maxRecDepth 100000 in
set_option maxHeartbeats 1000000 in
theorem cst_while (K : CC) (l : Lab) (c : BT Lab) (hk : l.kd = 23) (ih : AllN (Part K) c) (hwf : Wf 3 c) : StOK K l c := by
  intro D w outer cur bl wh inn f rc v ks hst hn hr hz1 hz2 hz3
  obtain ⟨hlo, lcb, hncb⟩ := hst.lo
  unfold NodeC at hn
  rw [if_neg (by omega)] at hn
  obtain ⟨b, cs, rfl, hD, hb, hl⟩ := hn
  have e1 : ptrTy l.kd = 141 := by rw [hk]; rfl
  have e2 : strTy l.kd = 147 := by rw [hk]; rfl
  rw [e1]
  rw [e2] at hb
  unfold LayC at hl
  simp only [hk] at hl
  obtain ⟨t, x, s1, n1, m1, rfl, rfl⟩ := hl
  have hnd := sens_nd K.fns l c (by omega) (by omega) (by omega) outer cur wh inn f
  rw [preF_none (by omega)] at hnd
  rw [hnd]
  have d0 := cell_row hb 1 _ rfl
  have ld := heap_lt hb
  have HBk := hide hb
  rw [nd_size] at hz1 hz2 hz3
  have ta0 := fun (v : Value) (w : World) => ta_miss (P := Tryz.prog) (t := 141) (T := 50) (xT := 76) (z := .pointer none) Tryz.underlying50 (by kernel_rfl) (by decide) v w
  have ta1 := fun (v : Value) (w : World) => ta_miss (P := Tryz.prog) (t := 141) (T := 153) (xT := 76) (z := .pointer none) Tryz.underlying153 (by kernel_rfl) (by decide) v w
  have ta2 := fun (v : Value) (w : World) => ta_miss (P := Tryz.prog) (t := 141) (T := 156) (xT := 76) (z := .pointer none) Tryz.underlying156 (by kernel_rfl) (by decide) v w
  have ta3 := fun (v : Value) (w : World) => ta_hit (P := Tryz.prog) (xT := 76) Tryz.underlying141 v w
  obtain ⟨x1, y1, l1, c1, r1, ks1, rfl, hn1, hr1, hz⟩ := hr.cons'
  obtain ⟨x2, y2, l2, c2, r2, ks2, rfl, hn2, hr2, hzz⟩ := hz.cons'
  obtain rfl := hzz.nil'
  obtain ⟨hx1, hx2⟩ := hwf.part3.1 hn1.notBlk.2
  obtain ⟨hk2, ho2⟩ := hn2.isBlk
  obtain ⟨h32, _⟩ := hwf.1.part3.2 hk2
  simp only [bsize] at hz1 hz2 hz3
  have hse : sens K.fns (.node x1 y1 l1 c1 (.node x2 y2 l2 c2 .nil)) outer cur wh inn f = (cur, (sens K.fns c2 (outer ++ cur) [] (wh + 1) inn (sens K.fns (nd l1 c1) outer cur wh inn f).2).2) := by
    rw [sens_xy' K.fns x1, sens_cur0 K.fns _ (Wf.exnd hx1 hx2), sens_one, sens_wblk K.fns c2 h32]
  rw [hse]
  have HC := hide (ih.1.1 hx1 D w outer cur _ wh inn f rc _ ks1 hst hn1 hr1)
  have HC2 := hide (fun W g (hs : K.St D W (outer ++ cur) (bl ++ [outer.length]) (wh + 1) inn g rc) (hbd : BelD D w W) => cblock_any K c2 (ih.2.1.2 hk2) D W (outer ++ cur) (bl ++ [outer.length]) (wh + 1) inn g rc s1 n1 m1 ks2 hs (ho2.beld hbd) (hr2.beld hbd) (by omega) (by simp; omega) (by omega))
  have hwh : wh + 1 ≤ 700000 := by omega
  clear hst hb e1 e2 hk hr hn1 hr1 hz ih hwf hnd hz1 hz2 hz3 hn2 hr2 hzz hx1 hx2 hk2 ho2 h32 hse
  unfold ptV
  go_enter Tryz.func82, Tryz.ntmps82
  go_wp2_with fail
  refine (HC.out).mono ?_
  rintro e w1 ⟨rfl, hs1, hb1⟩
  have HS1 := hide hs1
  have HB1 : Hid (BelD D w w1) := hb1
  clear hs1 hb1 d0 ld
  have hbk1 := (HB1.out.block b hD).trans HBk.out
  have ld := heap_lt hbk1
  clear hbk1
  obtain ⟨na, nn, nc, ba, bn, bc, la, ln, lc, ls, hv⟩ := HS1.out.st
  have lcb1 := heap_lt hv.cell
  have HV := hide hv
  have HP := hide (spushWhl hv.stk4 (by rw [hv.lsl]; omega) (some ⟨b, 0, none⟩) (by simp))
  clear hv
  go_wp2_with fail
  refine HP.out.mono ?_
  rintro e w2 ⟨rfl, hp2⟩
  obtain ⟨k1, k2⟩ := HV.out.pushLoop _ (by omega) hp2
  have HS2 := hide (HS1.out.next k1 k2)
  have HB2 : Hid (BelD D w w2) := HB1.out.trans k2
  have hbk2 := (HB2.out.block b hD).trans HBk.out
  clear ld k1 k2 hp2 lcb1
  have d2 := cell_row hbk2 2 _ rfl
  have ld := heap_lt hbk2
  clear hbk2
  go_wp2_with fail
  refine (HC2.out _ _ HS2.out HB2.out).mono ?_
  rintro e w3 ⟨rfl, hs3, hb3⟩
  have HS3 := hide hs3
  have HB3 : Hid (BelD D w w3) := HB2.out.trans hb3
  clear hs3 hb3 d2 ld
  obtain ⟨na3, nn3, nc3, ba3, bn3, bc3, la3, ln3, lc3, ls3, hv3⟩ := HS3.out.st
  have lcb3 := heap_lt hv3.cell
  have HV3 := hide hv3
  have hl3 := hv3.lsl
  have HP3 := hide (spopWhl hv3.stk4 (by omega) wh (by omega) hl3 (by simp))
  clear hv3
  go_wp2_with fail
  refine HP3.out.mono ?_
  rintro e w4 ⟨rfl, hp4⟩
  obtain ⟨k3, k4⟩ := HV3.out.cutLoop wh (by omega) hp4
  have HS4 := hide (HS3.out.next k3 k4)
  have HB4 : Hid (BelD D w w4) := HB3.out.trans k4
  clear k3 k4 hp4
  go_wp2
  go_end0
  exact ⟨rfl, HS4.out, HB4.out⟩

theorem st_all (K : CC) : ∀ f : BT Lab, bsize f ≤ 500000 → (Wf 1 f → AllN (StOK K) f) ∧ (Wf 2 f → AllN (Part K) f) ∧ (Wf 3 f → AllN (Part K) f) := by
  intro f
  induction f with
  | nil => intro _; exact ⟨fun _ => trivial, fun _ => trivial, fun _ => trivial⟩
  | node x y l c r ih1 ih2 =>
    intro hs
    rw [bsize] at hs
    obtain ⟨i1, i2, i3⟩ := ih1 (by omega)
    obtain ⟨j1, j2, j3⟩ := ih2 (by omega)
    refine ⟨fun h => ⟨?_, j1 h.1⟩, fun h => ⟨⟨fun hx => ?_, fun hx => i1 (h.part2.2 hx).2⟩, j2 h.1⟩, fun h => ⟨⟨fun hx => ?_, fun hx => i1 (h.part3.2 hx).2⟩, j3 h.1⟩⟩
    · rcases h.2 with ⟨h0, _⟩ | ⟨h0, _⟩ | ⟨h0, _⟩ | ⟨_, h1, h2⟩ | ⟨_, h1, h2⟩ | ⟨_, h1, h2⟩ | ⟨h0, _⟩
      · omega
      · omega
      · omega
      · exact cst_if K l c h1 (i2 h2) h2
      · exact cst_while K l c h1 (i3 h2) h2
      · have hx := ex_all K c h2 (by omega)
        unfold stK at h1
        simp only [Bool.or_eq_true, Bool.and_eq_true, decide_eq_true_eq, beq_iff_eq] at h1
        have hc : l.kd = 21 ∨ l.kd = 24 ∨ l.kd = 25 ∨ l.kd = 26 ∨ l.kd = 27 ∨ l.kd = 28 ∨ l.kd = 29 ∨ l.kd = 30 := by omega
        rcases hc with e | e | e | e | e | e | e | e
        · exact cst_let K l c e hx h2
        · exact cst_ret K l c e hx h2
        · exact cst_break K l c e
        · exact cst_cont K l c e
        · exact cst_print K l c e hx h2
        · exact cst_set K l c e hx h2
        · exact cst_put K l c e hx h2
        · exact cst_do K l c e hx h2
      · omega
    · have hw := h.part2.1 (exK_ne hx).1
      exact (ex_all K (nd l c) (Wf.exnd hw.1 hw.2) (by rw [nd_size]; omega)).1
    · have hw := h.part3.1 (exK_ne hx).2.1
      exact (ex_all K (nd l c) (Wf.exnd hw.1 hw.2) (by rw [nd_size]; omega)).1
end Go.Proofs.YtgccmgjbbcndbaaGreatDoor
/- Walks of the checker: function. -/
namespace Go.Proofs.YtgccmgjbbcndbaaGreatDoor
open Go.RowKit
open Go.Deep (BT)

theorem prmC_at (ps : List (Nat × List UInt8)) : ∀ (i : Nat) (h : i < ps.length), (prmC ps)[i * 2]? = some (.int .i64 (ps[i].1 : Nat)) ∧ (prmC ps)[i * 2 + 1]? = some (.string ⟨ps[i].2.toArray⟩) := by
  induction ps with
  | nil => intro i h; simp at h
  | cons p r ih =>
    intro i h
    have e : prmC (p :: r) = lnV p.1 :: stV p.2 :: prmC r := by simp [prmC]
    rw [e]
    cases i with
    | zero => exact ⟨rfl, rfl⟩
    | succ i =>
      rw [show (i + 1) * 2 = i * 2 + 2 by omega, show i * 2 + 2 + 1 = i * 2 + 1 + 2 by omega]
      exact ih i (by simpa using h)

theorem CkS.protect {D : Nat → Prop} {cb te : Nat} {w : World} {ns : List Nm} {bk : List Nat} {wh : Nat} {inn : Bool} {f : Flt} {rc : Nat} {fa : Option Addr} {fn fc : Nat} (h : CkS D cb te w ns bk wh inn f rc fa fn fc) (o : Obj) : CkS (fun g => D g ∨ g = w.heap.size) cb te (w.alloc o) ns bk wh inn f rc fa fn fc := by
  obtain ⟨na, nn, nc, ba, bn, bc, la, ln, lc, ls, h⟩ := h
  have hk : ∀ g, g < w.heap.size → (w.alloc o).heap[g]? = w.heap[g]? := fun g hg => Below.heap_alloc _ _ _ hg
  have hc := heap_lt h.cell
  refine ⟨na, nn, nc, ba, bn, bc, la, ln, lc, ls, (hk cb hc).trans h.cell, own_same h.names (fun g _ hl => hk g hl), own_same h.blocks (fun g _ hl => hk g hl), own_same h.loops (fun g _ hl => hk g hl), h.lsl, ?_, ?_, ?_, ?_, h.few, ?_⟩
  · rintro (e | e)
    · exact h.lo1 e
    · omega
  · intro g hg
    have := own_lt h.names g hg
    exact ⟨fun e => by rcases e with e | e; exact (h.lo2 g hg).1 e; omega, (h.lo2 g hg).2⟩
  · intro g hg
    have := own_lt h.blocks g hg
    exact ⟨fun e => by rcases e with e | e; exact (h.lo3 g hg).1 e; omega, (h.lo3 g hg).2⟩
  · intro g hg
    have := own_lt h.loops g hg
    exact ⟨fun e => by rcases e with e | e; exact (h.lo4 g hg).1 e; omega, (h.lo4 g hg).2⟩
  · rintro g (e | e)
    · have := h.lo g e; simp; omega
    · simp; omega
theorem CkS.weak {D E : Nat → Prop} {cb te : Nat} {w : World} {ns : List Nm} {bk : List Nat} {wh : Nat} {inn : Bool} {f : Flt} {rc : Nat} {fa : Option Addr} {fn fc : Nat} (h : CkS D cb te w ns bk wh inn f rc fa fn fc) (he : ∀ g, E g → D g) : CkS E cb te w ns bk wh inn f rc fa fn fc := by
  obtain ⟨na, nn, nc, ba, bn, bc, la, ln, lc, ls, h⟩ := h
  exact ⟨na, nn, nc, ba, bn, bc, la, ln, lc, ls, h.cell, h.names, h.blocks, h.loops, h.lsl, fun e => h.lo1 (he _ e), fun g hg => ⟨fun e => (h.lo2 g hg).1 (he g e), (h.lo2 g hg).2⟩, fun g hg => ⟨fun e => (h.lo3 g hg).1 (he g e), (h.lo3 g hg).2⟩, fun g hg => ⟨fun e => (h.lo4 g hg).1 (he g e), (h.lo4 g hg).2⟩, h.few, fun g hg => h.lo g (he g hg)⟩

theorem nmIs_seen {w : World} {fns : List (Nm × Nat)} {fa : Option Addr} {k : Nat} {s : Nm} {p : Option Addr} (h : NmIs w fns fa k s p) : (p = none ∧ decide (s ∈ (fns.take k).map (·.1)) = false) ∨ ((∃ pb, p = some ⟨pb, 0, none⟩) ∧ decide (s ∈ (fns.take k).map (·.1)) = true) := by
  rcases h with ⟨e, hn⟩ | ⟨i, hi, pb, pa, pc, hik, e, _, es, _⟩
  · left
    refine ⟨e, decide_eq_false (fun hm => ?_)⟩
    obtain ⟨j, hj, hjk, e2⟩ := mem_take.1 hm
    exact hn j hjk hj e2
  · right
    exact ⟨⟨pb, e⟩, decide_eq_true (mem_take.2 ⟨i, hi, hik, es⟩)⟩

set_option maxRecDepth 100000 in
set_option maxHeartbeats 4000000 in
theorem cfunction_any (K : CC) (l : Lab) (c : BT Lab) (hok : AllN (StOK K) c) (D : Nat → Prop) (w : World) (cur : List Nm) (f : Flt) (rc : Nat) (b : Nat) (pa : Option Addr) (pn pc : Nat) (va : Option Addr) (vn vc : Nat) (ks : List Value)
    (hst : K.St D w cur [0] 0 false f rc) (hrc : rc < K.fns.length) (hD : D b) (hblk : w.heap[b]? = some (.cells #[.int .i64 (l.line : Nat), .string ⟨l.s.toArray⟩, .slice pa pn pc, .slice va vn vc] 56 (0, 0)))
    (hprm : OwnsD D w 52 2 (.slice pa pn pc) l.ps.length (prmC l.ps)) (hown : OwnsD D w 76 1 (.slice va vn vc) ks.length ks) (hrep : RepC D w c ks) (hb1 : cur.length + l.ps.length + bsize c ≤ 600000) :
    Calls Tryz.prog 94 #[.pointer (some ⟨K.cb, 0, none⟩), .pointer (some ⟨b, 0, none⟩)] w fun e w' => e = .returned (.tuple #[]) ∧ K.St D w' cur [0] 0 false (sens K.fns c cur (prmF l.ps [] (wrongF (decide (l.s ∈ (K.fns.take rc).map (·.1))) 3 l.line f)).1 0 true (prmF l.ps [] (wrongF (decide (l.s ∈ (K.fns.take rc).map (·.1))) 3 l.line f)).2).2 (rc + 1) ∧ BelD D w w' := by
  obtain ⟨hlo, lcb, hncb⟩ := hst.lo
  have hpn : pn = l.ps.length := (own_cells hprm.1).1
  subst hpn
  have hcb : K.cb ≠ b := fun e => hncb (by rw [e]; exact hD)
  obtain ⟨p, hp⟩ := hst.fr.find l.s rc (by omega)
  have HNm := hide (fun (n : Nat) => cnamed_at (hst.drewN n).fr rc (by omega) l.s p hp)
  have hseen := nmIs_seen hp
  have hcap := hst.fr.cap
  have hlen := hst.fr.len
  have hfew := hst.fr.few
  have HSt := hide hst
  have HBlk := hide hblk
  have HPrm := hide hprm
  have HRun := hide (fun (W : World) (pcur : List Nm) (g : Flt) (hs : K.St D W (cur ++ pcur) ([0] ++ [cur.length]) 0 true g (rc + 1)) (hbd : BelD D w W) (hpl : pcur.length ≤ l.ps.length) => cstatements_any K c hok D W cur pcur [0] 0 true g (rc + 1) va vn vc ks hs (hown.beld hbd) (hrep.beld hbd) (by rw [List.length_append]; omega) (by simp; omega) (by omega))
  obtain ⟨na, nn, nc, ba, bn, bc, la, ln, lc, ls, hv⟩ := hst.st
  obtain ⟨c0, c1, c2, c3, c4, c5, c6, c7, fz, lb⟩ := blk8 hv.cell
  obtain ⟨d0, d1, d2, d3, fd, ld⟩ := blk4 hblk
  have hcap2 : rc ≤ K.fc := by omega
  rw [hlen] at c0
  have hrl : rc ≤ K.fns.length := by omega
  clear hst hblk hprm hown hrep hp hv hcap hlen
  generalize hsq : decide (l.s ∈ (K.fns.take rc).map (·.1)) = sq at *
  have HSq := hide hsq
  clear hsq
  go_enter Tryz.func94, Tryz.ntmps94
  go_wp2
  go_quiet ((go_at_call 113; exact Calls.quiet_of_same (HNm.out _)))
  rcases hseen with ⟨rfl, hsv⟩ | ⟨⟨pb, rfl⟩, hsv⟩
  · have HS2 : Hid (K.St D (w.drewN nq) cur [0] 0 false (wrongF sq 3 l.line f) rc) := by rw [hsv, wrongF_false]; exact HSt.out.drewN nq
    have HB2 := hide (beld_drewN D w nq)
    clear c0 c1 c2 c3 c4 c5 c6 c7 fz lb d0 d1 d2 d3 fd ld hsv
    generalize w.drewN nq = w2 at *
    generalize hf1 : wrongF sq 3 l.line f = f1 at *
    have HF1 := hide hf1
    clear hf1
    obtain ⟨na2, nn2, nc2, ba2, bn2, bc2, la2, ln2, lc2, ls2, hv2⟩ := HS2.out.st
    obtain ⟨c0, c1, c2, c3, c4, c5, c6, c7, fz, lb⟩ := blk8 hv2.cell
    have HV2 := hide hv2
    clear hv2
    have hbk2 := (HB2.out.block b hD).trans HBlk.out
    obtain ⟨d0, d1, d2, d3, fd, ld⟩ := blk4 hbk2
    clear hbk2
    go_wp2_with fail
    have hs2c : CkS D K.cb K.te ((w2.setCell ⟨K.cb, 1, none⟩ (.int .i64 ((rc : Int) + 1))).setCell ⟨K.cb, 5, none⟩ (.bool true)) cur [0] 0 true f1 (rc + 1) K.fa K.fn K.fc := by
      refine ⟨na2, nn2, nc2, ba2, bn2, bc2, la2, ln2, lc2, ls2, HV2.out.put true f1 (rc + 1) (by omega) ?_ (fun g _ hne => by rw [Below.heap_setCell _ _ _ _ (by exact hne), Below.heap_setCell _ _ _ _ (by exact hne)]) (by simp [World.setCell])⟩
      have := heap_set (j := 5) (heap_set (j := 1) HV2.out.cell (.int .i64 ((rc : Int) + 1))) (.bool true)
      simpa using this
    have hb2c : BelD D w2 ((w2.setCell ⟨K.cb, 1, none⟩ (.int .i64 ((rc : Int) + 1))).setCell ⟨K.cb, 5, none⟩ (.bool true)) := BelD.set (p := ⟨K.cb, 5, none⟩) (BelD.set (p := ⟨K.cb, 1, none⟩) (BelD.refl _ _) hncb _) hncb _
    refine (copen_any hs2c (by simp)).mono ?_
    rintro e w3 ⟨rfl, hs3, hb3⟩
    have HB3 : Hid (BelD D w w3) := HB2.out.trans (hb2c.trans hb3)
    have HS3 : Hid (K.St D w3 cur ([0] ++ [cur.length]) 0 true f1 (rc + 1)) := ⟨hs3, HSt.out.fr.keep HB3.out⟩
    clear hs3 hb3 hs2c hb2c c0 c1 c2 c3 c4 c5 c6 c7 fz lb d0 d1 d2 d3 fd ld HV2 HS2
    have hbk3 := (HB3.out.block b hD).trans HBlk.out
    obtain ⟨d0, d1, d2, d3, fd, ld⟩ := blk4 hbk3
    clear hbk3
    go_wp2
    go_loopg [46] l.ps.length (fun k v wr => ∃ (i : Nat) (pcur : List Nm) (fl : Flt), v = .int .i64 i ∧ i + k = l.ps.length ∧ pcur.length = i ∧ K.St D wr (cur ++ pcur) ([0] ++ [cur.length]) 0 true fl (rc + 1) ∧ prmF (l.ps.drop i) pcur fl = prmF l.ps [] f1 ∧ BelD D w wr)
    case atStart => exact ⟨0, [], f1, rfl, by omega, rfl, by rw [List.append_nil]; exact HS3.out, rfl, HB3.out⟩
    case round =>
      clear HS3 HB3 d0 d1 d2 d3 fd ld HB2
      obtain ⟨i, pcur, fl, rfl, hik, hpc, hst, hpf, hbel⟩ := hrel
      have HStR := hide hst
      have HPf := hide hpf
      have HBelR := hide hbel
      obtain ⟨hloR, lcbR, _⟩ := hst.lo
      clear hst hpf hbel
      by_cases hlt : i < l.ps.length
      · obtain ⟨g, rfl, _, hcapP, lg, hcell⟩ := own_row (HPrm.out.beld HBelR.out).1 (by omega)
        obtain ⟨q0, q1⟩ := prmC_at l.ps i hlt
        have y0 := hcell _ _ q0
        have y1 := hcell _ _ q1
        have HStep := hide (prmF_step l.ps i hlt pcur fl)
        generalize l.ps[i] = pp at *
        have HPr := hide (HStR.out.st.protect (.cells #[.int .i64 (pp.1 : Nat), .string ⟨pp.2.toArray⟩] 52))
        have HCell := hide (heap_alloc_new wr (.cells #[.int .i64 (pp.1 : Nat), .string ⟨pp.2.toArray⟩] 52))
        clear hcell q0 q1
        go_wp2_with fail
        refine (cfresh_any HPr.out pp.1 pp.2).mono ?_
        rintro e w5 ⟨rfl, hs5, hb5⟩
        have hc5 := (hb5.block wr.heap.size (.inr rfl)).trans HCell.out
        obtain ⟨z0, z1, fz5, lz⟩ := blk2p hc5
        have HB5 : Hid (BelD D wr w5) := BelD.trans ((BelD.refl D wr).alloc hloR _) (hb5.weak (fun g hg => .inl hg))
        obtain ⟨na5, nn5, nc5, ba5, bn5, bc5, la5, ln5, lc5, ls5, hv5⟩ := hs5
        have lcb5 := heap_lt hv5.cell
        have HV5 := hide (hv5.keep (w' := w5.drew) (fun _ _ => rfl) (Nat.le_refl _))
        have HP5 := hide (spushStr HV5.out.stk2 (by rw [nmC_len, List.length_append]; omega) ⟨pp.2.toArray⟩ (by simp))
        clear hb5 hc5 hv5 y0 y1 HPr
        generalize wr.heap.size = tb5 at *
        go_wp2
        go_region_law (refine step_call rfl 97 _ _ rfl #[.pointer (some ⟨K.cb, 2, none⟩), .string ⟨pp.2.toArray⟩] (by kernel_rfl) HP5.out ?_; rintro e w6 ⟨rfl, hp6⟩; refine ⟨_, rfl, ?_⟩)
        all_goals
          obtain ⟨k1, k2⟩ := HV5.out.pushName pp.2 (by rw [List.length_append]; omega) hp6
          have HS6 := hide (k1.weak (E := D) (fun g hg => .inl hg))
          have HB6 : Hid (BelD D w w6) := HBelR.out.trans (HB5.out.trans (BelD.weak (D := fun g => D g ∨ g = tb5) ⟨k2.os, k2.tape, k2.output, k2.size, k2.block⟩ (fun g hg => .inl hg)))
          clear k1 k2 hp6 HV5 HP5
          go_wp2
          go_roundg (gk - 1)
          case measure => omega
          case rel =>
            refine ⟨i + 1, pcur ++ [pp.2], _, rfl, by omega, by simp; omega, ⟨by rw [← List.append_assoc]; exact HS6.out, HSt.out.fr.keep HB6.out⟩, ?_, HB6.out⟩
            rw [← HPf.out, HStep.out]
      · have hend : (pcur, fl) = prmF l.ps [] f1 := by rw [← HPf.out, prmF_end l.ps i (by omega)]
        have HEnd := hide hend
        have hbkR := (HBelR.out.block b hD).trans HBlk.out
        obtain ⟨d0, d1, d2, d3, fd, ld⟩ := blk4 hbkR
        clear hbkR hend
        go_wp2_with fail
        refine (HRun.out wr pcur fl HStR.out HBelR.out (by omega)).mono ?_
        rintro e w7 ⟨rfl, hs7, hb7⟩
        have HS7 := hide hs7
        have HB7 : Hid (BelD D w w7) := HBelR.out.trans hb7
        clear hs7 hb7
        go_wp2_with fail
        refine (cclose_any HS7.out.st (by simp)).mono ?_
        rintro e w8 ⟨rfl, hs8, hb8⟩
        rw [List.take_left] at hs8
        have HB8 : Hid (BelD D w w8) := HB7.out.trans hb8
        obtain ⟨na8, nn8, nc8, ba8, bn8, bc8, la8, ln8, lc8, ls8, hv8⟩ := hs8
        obtain ⟨e0, e1, e2, e3, e4, e5, e6, e7, fe, le⟩ := blk8 hv8.cell
        have HV8 := hide hv8
        clear hb8 hv8
        go_wp2
        go_end0
        have hb9 : BelD D w8 (w8.setCell ⟨K.cb, 5, none⟩ (.bool false)) := BelD.set (p := ⟨K.cb, 5, none⟩) (BelD.refl _ _) hncb _
        rw [HF1.out, ← HEnd.out]
        refine ⟨rfl, ⟨⟨na8, nn8, nc8, ba8, bn8, bc8, la8, ln8, lc8, ls8, HV8.out.put false _ (rc + 1) HV8.out.few.2.2.2 ?_ (fun g _ hne => Below.heap_setCell _ _ _ _ (by exact hne)) (by simp [World.setCell])⟩, HSt.out.fr.keep (HB8.out.trans hb9)⟩, HB8.out.trans hb9⟩
        have := heap_set (j := 5) HV8.out.cell (.bool false)
        simpa using this
  · have HS1 := hide (HSt.out.drewN nq)
    have HB1 := hide (beld_drewN D w nq)
    have HBlk1 : Hid ((w.drewN nq).heap[b]? = _) := HBlk.out
    clear c0 c1 c2 c3 c4 c5 c6 c7 fz lb d0 d1 d2 d3 fd ld
    generalize w.drewN nq = w1 at *
    obtain ⟨d0, d1, d2, d3, fd, ld⟩ := blk4 HBlk1.out
    subst hsv
    go_wp2_with fail
    refine (cfail_any HS1.out.st 3 l.line).mono ?_
    rintro e w2 ⟨rfl, hs2, hb2⟩
    have HS2 := hide (HS1.out.next hs2 hb2)
    have HB2 : Hid (BelD D w w2) := HB1.out.trans hb2
    clear hs2 hb2 d0 d1 d2 d3 fd ld HS1 HB1 HBlk1
    generalize hf1 : wrongF true 3 l.line f = f1 at *
    have HF1 := hide hf1
    clear hf1
    obtain ⟨na2, nn2, nc2, ba2, bn2, bc2, la2, ln2, lc2, ls2, hv2⟩ := HS2.out.st
    obtain ⟨c0, c1, c2, c3, c4, c5, c6, c7, fz, lb⟩ := blk8 hv2.cell
    have HV2 := hide hv2
    clear hv2
    have hbk2 := (HB2.out.block b hD).trans HBlk.out
    obtain ⟨d0, d1, d2, d3, fd, ld⟩ := blk4 hbk2
    clear hbk2
    go_wp2_with fail
    have hs2c : CkS D K.cb K.te ((w2.setCell ⟨K.cb, 1, none⟩ (.int .i64 ((rc : Int) + 1))).setCell ⟨K.cb, 5, none⟩ (.bool true)) cur [0] 0 true f1 (rc + 1) K.fa K.fn K.fc := by
      refine ⟨na2, nn2, nc2, ba2, bn2, bc2, la2, ln2, lc2, ls2, HV2.out.put true f1 (rc + 1) (by omega) ?_ (fun g _ hne => by rw [Below.heap_setCell _ _ _ _ (by exact hne), Below.heap_setCell _ _ _ _ (by exact hne)]) (by simp [World.setCell])⟩
      have := heap_set (j := 5) (heap_set (j := 1) HV2.out.cell (.int .i64 ((rc : Int) + 1))) (.bool true)
      simpa using this
    have hb2c : BelD D w2 ((w2.setCell ⟨K.cb, 1, none⟩ (.int .i64 ((rc : Int) + 1))).setCell ⟨K.cb, 5, none⟩ (.bool true)) := BelD.set (p := ⟨K.cb, 5, none⟩) (BelD.set (p := ⟨K.cb, 1, none⟩) (BelD.refl _ _) hncb _) hncb _
    refine (copen_any hs2c (by simp)).mono ?_
    rintro e w3 ⟨rfl, hs3, hb3⟩
    have HB3 : Hid (BelD D w w3) := HB2.out.trans (hb2c.trans hb3)
    have HS3 : Hid (K.St D w3 cur ([0] ++ [cur.length]) 0 true f1 (rc + 1)) := ⟨hs3, HSt.out.fr.keep HB3.out⟩
    clear hs3 hb3 hs2c hb2c c0 c1 c2 c3 c4 c5 c6 c7 fz lb d0 d1 d2 d3 fd ld HV2 HS2
    have hbk3 := (HB3.out.block b hD).trans HBlk.out
    obtain ⟨d0, d1, d2, d3, fd, ld⟩ := blk4 hbk3
    clear hbk3
    go_wp2
    go_loopg [46] l.ps.length (fun k v wr => ∃ (i : Nat) (pcur : List Nm) (fl : Flt), v = .int .i64 i ∧ i + k = l.ps.length ∧ pcur.length = i ∧ K.St D wr (cur ++ pcur) ([0] ++ [cur.length]) 0 true fl (rc + 1) ∧ prmF (l.ps.drop i) pcur fl = prmF l.ps [] f1 ∧ BelD D w wr)
    case atStart => exact ⟨0, [], f1, rfl, by omega, rfl, by rw [List.append_nil]; exact HS3.out, rfl, HB3.out⟩
    case round =>
      clear HS3 HB3 d0 d1 d2 d3 fd ld HB2
      obtain ⟨i, pcur, fl, rfl, hik, hpc, hst, hpf, hbel⟩ := hrel
      have HStR := hide hst
      have HPf := hide hpf
      have HBelR := hide hbel
      obtain ⟨hloR, lcbR, _⟩ := hst.lo
      clear hst hpf hbel
      by_cases hlt : i < l.ps.length
      · obtain ⟨g, rfl, _, hcapP, lg, hcell⟩ := own_row (HPrm.out.beld HBelR.out).1 (by omega)
        obtain ⟨q0, q1⟩ := prmC_at l.ps i hlt
        have y0 := hcell _ _ q0
        have y1 := hcell _ _ q1
        have HStep := hide (prmF_step l.ps i hlt pcur fl)
        generalize l.ps[i] = pp at *
        have HPr := hide (HStR.out.st.protect (.cells #[.int .i64 (pp.1 : Nat), .string ⟨pp.2.toArray⟩] 52))
        have HCell := hide (heap_alloc_new wr (.cells #[.int .i64 (pp.1 : Nat), .string ⟨pp.2.toArray⟩] 52))
        clear hcell q0 q1
        go_wp2_with fail
        refine (cfresh_any HPr.out pp.1 pp.2).mono ?_
        rintro e w5 ⟨rfl, hs5, hb5⟩
        have hc5 := (hb5.block wr.heap.size (.inr rfl)).trans HCell.out
        obtain ⟨z0, z1, fz5, lz⟩ := blk2p hc5
        have HB5 : Hid (BelD D wr w5) := BelD.trans ((BelD.refl D wr).alloc hloR _) (hb5.weak (fun g hg => .inl hg))
        obtain ⟨na5, nn5, nc5, ba5, bn5, bc5, la5, ln5, lc5, ls5, hv5⟩ := hs5
        have lcb5 := heap_lt hv5.cell
        have HV5 := hide (hv5.keep (w' := w5.drew) (fun _ _ => rfl) (Nat.le_refl _))
        have HP5 := hide (spushStr HV5.out.stk2 (by rw [nmC_len, List.length_append]; omega) ⟨pp.2.toArray⟩ (by simp))
        clear hb5 hc5 hv5 y0 y1 HPr
        generalize wr.heap.size = tb5 at *
        go_wp2
        go_region_law (refine step_call rfl 97 _ _ rfl #[.pointer (some ⟨K.cb, 2, none⟩), .string ⟨pp.2.toArray⟩] (by kernel_rfl) HP5.out ?_; rintro e w6 ⟨rfl, hp6⟩; refine ⟨_, rfl, ?_⟩)
        all_goals
          obtain ⟨k1, k2⟩ := HV5.out.pushName pp.2 (by rw [List.length_append]; omega) hp6
          have HS6 := hide (k1.weak (E := D) (fun g hg => .inl hg))
          have HB6 : Hid (BelD D w w6) := HBelR.out.trans (HB5.out.trans (BelD.weak (D := fun g => D g ∨ g = tb5) ⟨k2.os, k2.tape, k2.output, k2.size, k2.block⟩ (fun g hg => .inl hg)))
          clear k1 k2 hp6 HV5 HP5
          go_wp2
          go_roundg (gk - 1)
          case measure => omega
          case rel =>
            refine ⟨i + 1, pcur ++ [pp.2], _, rfl, by omega, by simp; omega, ⟨by rw [← List.append_assoc]; exact HS6.out, HSt.out.fr.keep HB6.out⟩, ?_, HB6.out⟩
            rw [← HPf.out, HStep.out]
      · have hend : (pcur, fl) = prmF l.ps [] f1 := by rw [← HPf.out, prmF_end l.ps i (by omega)]
        have HEnd := hide hend
        have hbkR := (HBelR.out.block b hD).trans HBlk.out
        obtain ⟨d0, d1, d2, d3, fd, ld⟩ := blk4 hbkR
        clear hbkR hend
        go_wp2_with fail
        refine (HRun.out wr pcur fl HStR.out HBelR.out (by omega)).mono ?_
        rintro e w7 ⟨rfl, hs7, hb7⟩
        have HS7 := hide hs7
        have HB7 : Hid (BelD D w w7) := HBelR.out.trans hb7
        clear hs7 hb7
        go_wp2_with fail
        refine (cclose_any HS7.out.st (by simp)).mono ?_
        rintro e w8 ⟨rfl, hs8, hb8⟩
        rw [List.take_left] at hs8
        have HB8 : Hid (BelD D w w8) := HB7.out.trans hb8
        obtain ⟨na8, nn8, nc8, ba8, bn8, bc8, la8, ln8, lc8, ls8, hv8⟩ := hs8
        obtain ⟨e0, e1, e2, e3, e4, e5, e6, e7, fe, le⟩ := blk8 hv8.cell
        have HV8 := hide hv8
        clear hb8 hv8
        go_wp2
        go_end0
        have hb9 : BelD D w8 (w8.setCell ⟨K.cb, 5, none⟩ (.bool false)) := BelD.set (p := ⟨K.cb, 5, none⟩) (BelD.refl _ _) hncb _
        rw [HF1.out, ← HEnd.out]
        refine ⟨rfl, ⟨⟨na8, nn8, nc8, ba8, bn8, bc8, la8, ln8, lc8, ls8, HV8.out.put false _ (rc + 1) HV8.out.few.2.2.2 ?_ (fun g _ hne => Below.heap_setCell _ _ _ _ (by exact hne)) (by simp [World.setCell])⟩, HSt.out.fr.keep (HB8.out.trans hb9)⟩, HB8.out.trans hb9⟩
        have := heap_set (j := 5) HV8.out.cell (.bool false)
        simpa using this
end Go.Proofs.YtgccmgjbbcndbaaGreatDoor
/- Walks of the checker: a whole program. -/
namespace Go.Proofs.YtgccmgjbbcndbaaGreatDoor
open Go.RowKit
open Go.Deep (BT)

theorem Wf.top {x y : Nat} {l : Lab} {c r : BT Lab} (h : Wf 4 (.node x y l c r)) : (l.kd = 20 → Wf 1 c) ∧ (l.kd ≠ 20 → Wf 1 (nd l c) ∧ ((22 ≤ l.kd ∧ l.kd ≤ 30) ∨ l.kd = 21)) := by
  rcases h.2 with ⟨h0, _⟩ | ⟨h0, _⟩ | ⟨h0, _⟩ | ⟨_, h1, h2⟩ | ⟨_, h1, h2⟩ | ⟨_, h1, h2⟩ | ⟨_, h1, h2⟩
  · omega
  · omega
  · omega
  · exact ⟨fun e => by omega, fun _ => ⟨⟨trivial, .inr (.inr (.inr (.inl ⟨.inl rfl, h1, h2⟩)))⟩, by omega⟩⟩
  · exact ⟨fun e => by omega, fun _ => ⟨⟨trivial, .inr (.inr (.inr (.inr (.inl ⟨.inl rfl, h1, h2⟩))))⟩, by omega⟩⟩
  · refine ⟨fun e => (by rw [e] at h1; cases h1), fun _ => ⟨⟨trivial, .inr (.inr (.inr (.inr (.inr (.inl ⟨.inl rfl, h1, h2⟩)))))⟩, ?_⟩⟩
    unfold stK at h1
    simp only [Bool.or_eq_true, Bool.and_eq_true, decide_eq_true_eq, beq_iff_eq] at h1
    omega
  · exact ⟨fun _ => h2, fun e => absurd h1 e⟩

set_option maxRecDepth 100000 in
set_option maxHeartbeats 1000000 in
theorem cst_fn (K : CC) (l : Lab) (c : BT Lab) (hk : l.kd = 20) (hok : AllN (StOK K) c) (D : Nat → Prop) (w : World) (cur : List Nm) (f : Flt) (rc : Nat) (v : Value) (ks : List Value) (hst : K.St D w cur [0] 0 false f rc) (hrc : rc < K.fns.length) (hn : NodeC D w l v ks) (hr : RepC D w c ks) (hb1 : cur.length + l.ps.length + bsize c ≤ 600000) :
    Calls Tryz.prog 82 #[.pointer (some ⟨K.cb, 0, none⟩), v] w fun e w' => e = .returned (.tuple #[]) ∧ K.St D w' cur [0] 0 false (sens K.fns c cur (prmF l.ps [] (wrongF (decide (l.s ∈ (K.fns.take rc).map (·.1))) 3 l.line f)).1 0 true (prmF l.ps [] (wrongF (decide (l.s ∈ (K.fns.take rc).map (·.1))) 3 l.line f)).2).2 (rc + 1) ∧ BelD D w w' := by
  obtain ⟨hlo, lcb, hncb⟩ := hst.lo
  unfold NodeC at hn
  rw [if_neg (by omega)] at hn
  obtain ⟨b, cs, rfl, hD, hb, hl⟩ := hn
  have e1 : ptrTy l.kd = 50 := by rw [hk]; rfl
  have e2 : strTy l.kd = 56 := by rw [hk]; rfl
  rw [e1]
  rw [e2] at hb
  unfold LayC at hl
  simp only [hk] at hl
  obtain ⟨ps, sl, rfl, ho, hpo⟩ := hl
  obtain ⟨va, vn, vc, rfl⟩ : ∃ va vn vc, sl = .slice va vn vc := own_is ho.1
  obtain ⟨pa, pn, pc, rfl⟩ : ∃ va vn vc, ps = .slice va vn vc := own_is hpo.1
  have HC := hide (cfunction_any K l c hok D w cur f rc b pa pn pc va vn vc ks hst hrc hD hb hpo ho hr hb1)
  have ld := heap_lt hb
  have ta0 := fun (v : Value) (w : World) => ta_hit (P := Tryz.prog) (xT := 76) Tryz.underlying50 v w
  clear hst hb e1 e2 hk hr ho hpo
  unfold ptV
  go_enter Tryz.func82, Tryz.ntmps82
  go_wp2_with fail
  refine HC.out.mono ?_
  rintro e w1 ⟨rfl, hs1, hb1⟩
  have HS1 := hide hs1
  have HB1 := hide hb1
  clear hs1 hb1
  go_wp2
  go_end0
  exact ⟨rfl, HS1.out, HB1.out⟩

set_option maxRecDepth 100000 in
set_option maxHeartbeats 1000000 in
theorem ctop_any (K : CC) (c : BT Lab) (hwf : Wf 4 c) (hfns : K.fns = fnsOf c) (D : Nat → Prop) (w : World) (f : Flt) (va : Option Addr) (vn vc : Nat) (ks : List Value)
    (hst : K.St D w [] [0] 0 false f 0) (hown : OwnsD D w 76 1 (.slice va vn vc) ks.length ks) (hrep : RepC D w c ks) (hb1 : bsize c ≤ 400000) :
    Calls Tryz.prog 58 #[.pointer (some ⟨K.cb, 0, none⟩), .slice va vn vc] w fun e w' => e = .returned (.tuple #[]) ∧ (∃ cn rc, K.St D w' cn [0] 0 false (sensT K.fns c [] [] f) rc) ∧ BelD D w w' := by
  have hvn : vn = ks.length := (own_cells hown.1).1
  subst hvn
  have HSt0 := hide hst
  have HOwn := hide hown
  have HRep := hide hrep
  have hlen := hrep.len
  have HLen := hide hlen
  have hls := blen_size c
  have hkl : ks.length ≤ 700000 := by omega
  have HFns := hide hfns
  have HWf := hide hwf
  clear hst hown hrep hlen hfns hwf
  go_enter Tryz.func58, Tryz.ntmps58
  go_wp2
  go_loopg [8] ks.length (fun k v wr => ∃ (i n : Nat) (cn : List Nm) (fl : Flt), v = .int .i64 i ∧ i + k = ks.length ∧ cn.length + bsize (dropT i c) ≤ bsize c ∧ K.St D wr cn [0] 0 false fl n ∧ K.fns.drop n = fnsOf (dropT i c) ∧ sensT K.fns (dropT i c) ((K.fns.take n).map (·.1)) cn fl = sensT K.fns c [] [] f ∧ BelD D w wr)
  case atStart => exact ⟨0, 0, [], f, rfl, by omega, by rw [show dropT 0 c = c from by cases c <;> rfl]; simp, HSt0.out, HFns.out, rfl, BelD.refl _ _⟩
  case round =>
    clear HSt0
    obtain ⟨i, n, cn, fl, rfl, hik, hcn, hst, hdr, hse, hbel⟩ := hrel
    have HSt := hide hst
    have HSe := hide hse
    have HBel := hide hbel
    have HDr := hide hdr
    clear hst hse hbel hdr
    by_cases hlt : i < ks.length
    · have hr := HRep.out.beld HBel.out
      obtain ⟨x, y, l, cc, r, hd, v, ks', hv, hn, hrk⟩ := RepC.at' i c ks hr (by rw [← HLen.out]; exact hlt)
      obtain ⟨g, rfl, _, hcap, lg, hcell⟩ := own_row (HOwn.out.beld HBel.out).1 (by omega)
      have d0 := hcell i v hv
      have hdn := dropT_size i c
      have hsz : bsize (dropT i c) = bsize (nd l cc) + bsize r := by rw [hd, nd_size, bsize]
      have hnds := nd_size l cc
      have hds := dropT_succ i c x y l cc r hd
      have HDs := hide hds
      have hw4 : Wf 4 (.node x y l cc r) := by have := Wf.drop 4 i c HWf.out; rw [hd] at this; exact this
      by_cases h20 : l.kd = 20
      · obtain ⟨hnl, hnf, hdr', htk⟩ := fns_next (HDr.out.trans ((congrArg fnsOf hd).trans (fnsOf_fn x y l cc r h20)))
        have HDr' := hide hdr'
        have HC := hide (cst_fn K l cc h20 ((st_all K cc (by omega)).1 (hw4.top.1 h20)) D wr cn fl n v ks' HSt.out hnl hn hrk (by omega))
        have HNx := hide ((congrArg (fun q => sensT K.fns q ((K.fns.take n).map (·.1)) cn fl) hd).symm.trans HSe.out)
        have HFn := hide (sensT_fn K.fns x y l cc r ((K.fns.take n).map (·.1)) cn fl h20)
        have HTk := hide htk
        clear hr hd hv hn hrk hcell hds hw4 hnf hdr' htk
        go_wp2_with fail
        refine HC.out.mono ?_
        rintro e w1 ⟨rfl, hs1, hb1⟩
        have HS1 := hide hs1
        have HB1 : Hid (BelD D w w1) := HBel.out.trans hb1
        clear hs1 hb1
        go_wp2
        go_roundg (gk - 1)
        case measure => omega
        case rel => exact ⟨i + 1, n + 1, cn, _, rfl, by omega, by rw [HDs.out]; omega, HS1.out, by rw [HDs.out]; exact HDr'.out, by rw [HDs.out, HTk.out, ← HNx.out, HFn.out], HB1.out⟩
      · have hw1 := (hw4.top.2 h20).1
        have HC := hide (((st_all K (nd l cc) (by omega)).1 hw1).1 D wr [] cn [] 0 false fl n v ks' HSt.out hn hrk (by simp only [List.nil_append]; omega) (by simp only [List.length_nil]; omega) (by omega))
        have hnil : sens K.fns (.node x y l cc .nil) [] cn 0 false fl = sens K.fns (nd l cc) [] cn 0 false fl := sens_one K.fns x y l cc [] cn 0 false fl
        have hsx := ((congrArg (fun q => sensT K.fns q ((K.fns.take n).map (·.1)) cn fl) hd).symm.trans HSe.out)
        rw [sensT_st K.fns x y l cc r _ cn fl h20, hnil] at hsx
        have HSx := hide hsx
        have HF2 := hide ((HDr.out.trans (congrArg fnsOf hd)).trans (fnsOf_st x y l cc r h20))
        have hcl := sens_cur K.fns (nd l cc) [] cn 0 false fl
        clear hr hd hv hn hrk hcell hds hw4 hw1 hnil hsx
        go_wp2_with fail
        refine HC.out.mono ?_
        rintro e w1 ⟨rfl, hs1, hb1⟩
        have HS1 := hide hs1
        have HB1 : Hid (BelD D w w1) := HBel.out.trans hb1
        clear hs1 hb1
        go_wp2
        go_roundg (gk - 1)
        case measure => omega
        case rel => exact ⟨i + 1, n, (sens K.fns (nd l cc) [] cn 0 false fl).1, _, rfl, by omega, by rw [HDs.out]; omega, HS1.out, by rw [HDs.out]; exact HF2.out, by rw [HDs.out]; exact HSx.out, HB1.out⟩
    · have HE : Hid (fl = sensT K.fns c [] [] f) := by
        have h0 : dropT i c = .nil := by
          have : blen (dropT i c) = 0 := by rw [dropT_len, ← HLen.out]; omega
          cases hd : dropT i c with
          | nil => rfl
          | node x y l c r => rw [hd] at this; simp [blen] at this
        have := HSe.out
        rw [h0] at this
        exact this
      go_wp2
      go_end0
      rw [← HE.out]
      exact ⟨rfl, ⟨cn, n, HSt.out⟩, HBel.out⟩

set_option maxRecDepth 100000 in
set_option maxHeartbeats 1000000 in
theorem cblock_top (K : CC) (c : BT Lab) (hwf : Wf 4 c) (hfns : K.fns = fnsOf c) (D : Nat → Prop) (w : World) (f : Flt) (va : Option Addr) (vn vc : Nat) (ks : List Value)
    (hst : K.St D w [] [] 0 false f 0) (hown : OwnsD D w 76 1 (.slice va vn vc) ks.length ks) (hrep : RepC D w c ks) (hb1 : bsize c ≤ 400000) :
    Calls Tryz.prog 30 #[.pointer (some ⟨K.cb, 0, none⟩), .slice va vn vc] w fun e w' => e = .returned (.tuple #[]) ∧ (∃ cn bk rc, K.St D w' cn bk 0 false (sensT K.fns c [] [] f) rc) ∧ BelD D w w' := by
  have HO := hide (copen_any hst.st (by simp))
  have HSt := hide hst
  have HRun := hide (fun (W : World) (hs : K.St D W [] [0] 0 false f 0) (hbd : BelD D w W) => ctop_any K c hwf hfns D W f va vn vc ks hs (hown.beld hbd) (hrep.beld hbd) hb1)
  clear hst hown hrep
  go_enter Tryz.func30, Tryz.ntmps30
  go_wp2_with fail
  refine HO.out.mono ?_
  rintro e w1 ⟨rfl, hs1, hb1⟩
  have HS1 := hide (HSt.out.next hs1 hb1)
  have HB1 := hide hb1
  clear hs1 hb1
  go_wp2_with fail
  refine (HRun.out _ HS1.out HB1.out).mono ?_
  rintro e w2 ⟨rfl, ⟨cn, rc, hs2⟩, hb2⟩
  have HS2 := hide hs2
  have HB2 : Hid (BelD D w w2) := HB1.out.trans hb2
  clear hs2 hb2
  go_wp2_with fail
  refine (cclose_any (bk := []) (p := 0) HS2.out.st (Nat.zero_le _)).mono ?_
  rintro e w3 ⟨rfl, hs3, hb3⟩
  have HS3 := hide (HS2.out.next hs3 hb3)
  have HB3 : Hid (BelD D w w3) := HB2.out.trans hb3
  clear hs3 hb3
  go_wp2
  go_end0
  exact ⟨rfl, ⟨_, _, _, HS3.out⟩, HB3.out⟩
end Go.Proofs.YtgccmgjbbcndbaaGreatDoor
/- Walks of check.Functions and check.Program. -/
namespace Go.Proofs.YtgccmgjbbcndbaaGreatDoor
open Go.RowKit
open Go.Deep (BT)

theorem infoFnp : (Tryz.prog.info? 50).map (fun i => (i.zero, i.size, i.bytes)) = some (some (.pointer none), 1, 8) := by kernel_rfl

def FnAt (D : Nat → Prop) (w : World) (p : Nm × Nat) (v : Value) : Prop := ∃ pb pa pc, v = .pointer (some ⟨pb, 0, none⟩) ∧ D pb ∧ pb < w.heap.size ∧ w.cell? ⟨pb, 1, none⟩ = some (.string ⟨p.1.toArray⟩) ∧ w.cell? ⟨pb, 2, none⟩ = some (.slice pa p.2 pc)

def FsRel (D : Nat → Prop) (c : BT Lab) (nk : Nat) (w : World) (k : Nat) (v3 v13 : Value) (wr : World) : Prop :=
  ∃ (i : Nat) (fs : List (Nm × Nat)) (fa : Option Addr) (fn fc : Nat) (ps : List Value), v3 = .slice fa fn fc ∧ v13 = .int .i64 i ∧ i + k = nk ∧ fnsOf c = fs ++ fnsOf (dropT i c) ∧ fs.length ≤ i ∧ wr.ownsRow 0 50 1 (.slice fa fn fc) ps.length ps ∧ ps.length = fs.length ∧
    (∀ j (h : j < fs.length), ∃ v, ps[j]? = some v ∧ FnAt D w fs[j] v) ∧ (∀ g, (Value.slice fa fn fc).ownBlock = some g → w.heap.size ≤ g) ∧ Below w.heap.size w wr

def FsPost (D : Nat → Prop) (c : BT Lab) (w : World) (e : Ending) (w' : World) : Prop :=
  ∃ fa fn fc, e = .returned (.slice fa fn fc) ∧ Below w.heap.size w w' ∧ FnC (fun g => D g ∨ (Value.slice fa fn fc).ownBlock = some g) w' (fnsOf c) fa fn fc ∧ (∀ g, (Value.slice fa fn fc).ownBlock = some g → w.heap.size ≤ g ∧ g < w'.heap.size)

theorem ptr_fn {kd : Nat} (h : (22 ≤ kd ∧ kd ≤ 30) ∨ kd = 21) : ptrTy kd ≠ 50 := by
  have h9 : kd = 21 ∨ kd = 22 ∨ kd = 23 ∨ kd = 24 ∨ kd = 25 ∨ kd = 26 ∨ kd = 27 ∨ kd = 28 ∨ kd = 29 ∨ kd = 30 := by omega
  rcases h9 with e | e | e | e | e | e | e | e | e | e <;> (subst e; decide)

set_option maxRecDepth 100000 in
set_option maxHeartbeats 1000000 in
theorem functions_any (c : BT Lab) (hwf : Wf 4 c) (D : Nat → Prop) (w : World) (pb : Nat) (va : Option Addr) (vn vc : Nat) (ks : List Value) (hpb : w.heap[pb]? = some (.cells #[.slice va vn vc] 74 (0, 0)))
    (hown : OwnsD D w 76 1 (.slice va vn vc) ks.length ks) (hrep : RepC D w c ks) (hb1 : bsize c ≤ 90000) :
    Calls Tryz.prog 10 #[.pointer (some ⟨pb, 0, none⟩)] w (FsPost D c w) := by
  have hvn : vn = ks.length := (own_cells hown.1).1
  subst hvn
  have c0 := cell_row hpb 0 _ rfl
  have lp := heap_lt hpb
  have HOwn := hide hown
  have HRep := hide hrep
  have hlen := hrep.len
  have HLen := hide hlen
  have hls := blen_size c
  have hkl : ks.length ≤ 90000 := by omega
  have HWf := hide hwf
  clear hown hrep hlen hwf hpb
  go_enter Tryz.func10, Tryz.ntmps10
  go_wp2
  go_loopg [3, 13] ks.length (fun k v3 v13 wr => FsRel D c ks.length w k v3 v13 wr)
  case atStart => exact ⟨0, [], none, 0, 0, [], rfl, rfl, by omega, rfl, Nat.le_refl _, World.ownsRow_nil _ _ _ _, rfl, fun j h => by simp at h, by simp [Value.ownBlock], Below.refl _ _⟩
  case round =>
    obtain ⟨i, fs, fa, fn, fc, ps, rfl, rfl, hik, hfs, hfl, hro, hpl, hat, hlo, hbel⟩ := hrel
    have HFs := hide hfs
    have HRo := hide hro
    have HAt := hide hat
    have HLo := hide hlo
    have HBel := hide hbel
    have HPl := hide hpl
    clear hfs hro hat hlo hbel
    by_cases hlt : i < ks.length
    · obtain ⟨x, y, l, cc, r, hd, v, ks', hv, hn, hrk⟩ := RepC.at' i c ks HRep.out (by rw [← HLen.out]; exact hlt)
      obtain ⟨g, rfl, _, hcap, lg, hcell⟩ := own_row HOwn.out.1 (by omega)
      have d0 := (World.cell?_of_block (HBel.out.block g lg)).trans (hcell i v hv)
      have lg2 : g < wr.heap.size := Nat.lt_of_lt_of_le lg HBel.out.size
      have hds := dropT_succ i c x y l cc r hd
      have HDs := hide hds
      have hw4 : Wf 4 (.node x y l cc r) := by have := Wf.drop 4 i c HWf.out; rw [hd] at this; exact this
      by_cases h20 : l.kd = 20
      · unfold NodeC at hn
        rw [if_neg (by omega)] at hn
        obtain ⟨b, cs, rfl, hD, hb, hl⟩ := hn
        have e1 : ptrTy l.kd = 50 := by rw [h20]; rfl
        rw [e1] at d0
        unfold LayC at hl
        simp only [h20] at hl
        obtain ⟨pp, sl, rfl, _, hpo⟩ := hl
        obtain ⟨pa, pn, pc, rfl⟩ : ∃ va vn vc, pp = .slice va vn vc := own_is hpo.1
        have hpn : pn = l.ps.length := (own_cells hpo.1).1
        have HFnA : Hid (FnAt D w (l.s, l.ps.length) (.pointer (some ⟨b, 0, none⟩))) := by
          refine ⟨b, pa, pc, rfl, hD, heap_lt hb, cell_row hb 1 _ rfl, ?_⟩
          have := cell_row hb 2 _ rfl
          rw [hpn] at this
          exact this
        have HFx : Hid (fnsOf c = (fs ++ [(l.s, l.ps.length)]) ++ fnsOf (dropT (i + 1) c)) := by
          show _ = _
          rw [HFs.out, hd, fnsOf_fn x y l cc r h20, hds]; simp
        have ta := fun (v : Value) (w : World) => ta_hit (P := Tryz.prog) (xT := 76) Tryz.underlying50 v w
        have hrow := HRo.out
        have hpl2 : ps.length ≤ 90000 := by omega
        clear hcell hd hv hrk hds hw4 e1 h20 hb hpo hpn hpl
        unfold ptV at d0
        go_wp2_with (at_builtin; refine wpl_app wr #[.pointer (some ⟨b, 0, none⟩)] 50 rfl (.tmp 23) (.tmp 25) 48 rfl 0 1 8 (.pointer none) Tryz.underlying48 infoFnp rfl (by omega) (.slice fa fn fc) ps.length ps rfl rfl hrow rfl (fun u hu => by simp at hu; rw [hu]; rfl) (by omega) (by omega) (Nat.zero_le _) ?_; intro g2 cap2 w2 hown2 hgrow2 hat2 hg2)
        have hsz := HBel.out.size
        go_roundg (gk - 1)
        case measure => omega
        case rel =>
          refine ⟨i + 1, fs ++ [(l.s, l.ps.length)], some ⟨g2, 0, none⟩, ps.length + 1, cap2, ps ++ [.pointer (some ⟨b, 0, none⟩)], rfl, rfl, by omega, HFx.out, by simp; omega, by simpa using hown2, by simp [HPl.out], ?_, ?_, ?_⟩
          · intro j hj
            by_cases hjl : j < fs.length
            · obtain ⟨v, k1, k2⟩ := HAt.out j hjl
              refine ⟨v, ?_, by rw [List.getElem_append_left hjl]; exact k2⟩
              rw [List.getElem?_append_left (by rw [HPl.out]; exact hjl)]; exact k1
            · have hje : j = fs.length := by simp at hj; omega
              subst hje
              refine ⟨_, ?_, by rw [List.getElem_append_right (Nat.le_refl _)]; simpa using HFnA.out⟩
              rw [List.getElem?_append_right (by rw [HPl.out]; exact Nat.le_refl _), HPl.out]; simp
          · intro k hk
            simp only [Value.ownBlock, Option.some.injEq] at hk
            rw [← hk]
            rcases hat2 with h | h
            · exact HLo.out g2 h
            · omega
          · exact ⟨hgrow2.os.trans HBel.out.os, hgrow2.tape.trans HBel.out.tape, hgrow2.output.trans HBel.out.output, Nat.le_trans hsz hgrow2.size, fun k hk => (hgrow2.block k (by omega) (fun e => by have := HLo.out k e.symm; omega)).trans (HBel.out.block k hk)⟩
      · have hk := (hw4.top.2 h20).2
        unfold NodeC at hn
        rw [if_neg (by omega)] at hn
        obtain ⟨b, cs, rfl, hD, hb, hl⟩ := hn
        have HFx : Hid (fnsOf c = fs ++ fnsOf (dropT (i + 1) c)) := by
          show _ = _
          rw [HFs.out, hd, fnsOf_st x y l cc r h20, hds]
        have hpt := ptr_fn hk
        have ta := fun (v : Value) (w : World) => ta_miss (P := Tryz.prog) (t := ptrTy l.kd) (T := 50) (xT := 76) (z := .pointer none) Tryz.underlying50 (by kernel_rfl) hpt v w
        clear hcell hd hv hrk hds hw4 h20 hb hl hk hpt hpl
        generalize ptrTy l.kd = tt at *
        go_wp2
        go_roundg (gk - 1)
        case measure => omega
        case rel => exact ⟨i + 1, fs, fa, fn, fc, ps, rfl, rfl, by omega, HFx.out, by omega, HRo.out, HPl.out, HAt.out, HLo.out, HBel.out⟩
    · have hfn : fn = ps.length := (own_cells HRo.out).1
      have hcp := own_cap HRo.out
      have HE : Hid (fnsOf c = fs) := by
        show _ = _
        have h0 : dropT i c = .nil := by
          have : blen (dropT i c) = 0 := by rw [dropT_len, ← HLen.out]; omega
          cases hd : dropT i c with
          | nil => rfl
          | node x y l c r => rw [hd] at this; simp [blen] at this
        have := HFs.out
        rw [h0] at this
        simpa [fnsOf] using this
      go_wp2
      go_ret
      refine ⟨fa, fn, fc, rfl, HBel.out, ?_, fun g hg => ⟨HLo.out g hg, own_lt HRo.out g hg⟩⟩
      rw [HE.out]
      refine ⟨by rw [hfn, HPl.out], by omega, by omega, fun j hj => ?_⟩
      obtain ⟨v, k1, pb', pa, pc, rfl, k2, k3, k4, k5⟩ := HAt.out j hj
      obtain ⟨g, hfa, _, _, lg, hcell⟩ := own_row HRo.out (by omega)
      have hsz := HBel.out.size
      refine ⟨g, pb', pa, pc, hfa, .inr (by rw [hfa]; rfl), lg, hcell j _ k1, .inl k2, by omega, (World.cell?_of_block (HBel.out.block pb' k3)).trans k4, (World.cell?_of_block (HBel.out.block pb' k3)).trans k5⟩
end Go.Proofs.YtgccmgjbbcndbaaGreatDoor
/- Walk of check.Program. -/
namespace Go.Proofs.YtgccmgjbbcndbaaGreatDoor
open Go.RowKit
open Go.Deep (BT)

theorem ck_new {w : World} {fa : Option Addr} {fn fc : Nat} : CkS (fun g => g < w.heap.size) w.heap.size 110 (w.alloc (.cells #[.slice fa fn fc, .int .i64 0, .slice none 0 0, .slice none 0 0, .slice none 0 0, .bool false, .int .i64 0, .int .i64 0] 110)) [] [] 0 false (0, 0) 0 fa fn fc := by
  refine ⟨none, 0, 0, none, 0, 0, none, 0, 0, [], heap_alloc_new _ _, World.ownsRow_nil _ _ _ _, World.ownsRow_nil _ _ _ _, World.ownsRow_nil _ _ _ _, rfl, by omega, ?_, ?_, ?_, by simp, fun g hg => by simp; omega⟩
  all_goals intro g hg; simp [Value.ownBlock] at hg

set_option maxRecDepth 100000 in
set_option maxHeartbeats 1000000 in
theorem cProgram_any (c : BT Lab) (hwf : Wf 4 c) (D : Nat → Prop) (w : World) (pb : Nat) (va : Option Addr) (vn vc : Nat) (ks : List Value) (hpb : w.heap[pb]? = some (.cells #[.slice va vn vc] 74 (0, 0)))
    (hown : OwnsD D w 76 1 (.slice va vn vc) ks.length ks) (hrep : RepC D w c ks) (hb1 : bsize c ≤ 90000) :
    Calls Tryz.prog 17 #[.pointer (some ⟨pb, 0, none⟩)] w fun e w' => e = .returned (.agg #[.int .i64 ((sensT (fnsOf c) c [] [] (0, 0)).1 : Nat), .int .i64 ((sensT (fnsOf c) c [] [] (0, 0)).2 : Nat)]) ∧ Below w.heap.size w w' := by
  have lp := heap_lt hpb
  have hk1 : ∀ g, D g → g < w.heap.size → (w.alloc (.cells #[.int .i64 0, .int .i64 0] 29)).heap[g]? = w.heap[g]? ∧ (D g ∧ g < w.heap.size) := fun g hg hl => ⟨Below.heap_alloc _ _ _ hl, hg, hl⟩
  have HC := hide (functions_any c hwf (fun g => D g ∧ g < w.heap.size) (w.alloc (.cells #[.int .i64 0, .int .i64 0] 29)) pb va vn vc ks (alloc_old hpb) (hown.keep hk1) (RepC.keep hk1 _ _ hrep) hb1)
  have HPb := hide hpb
  have HOwn := hide hown
  have HRep := hide hrep
  have HWf := hide hwf
  clear hpb hown hrep hwf hk1
  go_enter Tryz.func17, Tryz.ntmps17
  go_wp2_with fail
  refine HC.out.mono ?_
  rintro e w2 ⟨fa, fn, fc, rfl, hb2, hfn, hrow⟩
  have hR2 := bblk hb2 (heap_alloc_new w (.cells #[.int .i64 0, .int .i64 0] 29))
  have hP2 := bblk hb2 (alloc_old (o' := .cells #[.int .i64 0, .int .i64 0] 29) HPb.out)
  have HB2 : Hid (Below w.heap.size w w2) := Below.trans (Below.alloc (Below.refl _ _) (Nat.le_refl _) _) (hb2.mono (by simp))
  have ls2 := hb2.size
  rw [World.size_alloc] at ls2
  have c0 := cell_row hP2 0 _ rfl
  have lp2 := heap_lt hP2
  have HR2 := hide hR2
  have HK : Hid ((⟨w2.heap.size, 110, fnsOf c, fa, fn, fc⟩ : CC).St (fun g => g < w2.heap.size) (w2.alloc (.cells #[.slice fa fn fc, .int .i64 0, .slice none 0 0, .slice none 0 0, .slice none 0 0, .bool false, .int .i64 0, .int .i64 0] 110)) [] [] 0 false (0, 0) 0) := by
    refine ⟨ck_new, ?_⟩
    have h1 : FnC (fun g => g < w2.heap.size) w2 (fnsOf c) fa fn fc := by
      refine ⟨hfn.len, hfn.few, hfn.cap, fun i hi => ?_⟩
      obtain ⟨g, pb', pa, pc, e1, _, e3, e4, _, e6, e7, e8⟩ := hfn.at' i hi
      exact ⟨g, pb', pa, pc, e1, e3, e3, e4, e6, e6, e7, e8⟩
    exact h1.keep ⟨rfl, rfl, rfl, by simp, fun k hk => Below.heap_alloc _ _ _ hk⟩
  have hk2 : ∀ g, D g → g < w.heap.size → (w2.alloc (.cells #[.slice fa fn fc, .int .i64 0, .slice none 0 0, .slice none 0 0, .slice none 0 0, .bool false, .int .i64 0, .int .i64 0] 110)).heap[g]? = w.heap[g]? ∧ g < w2.heap.size := fun g hg hl => ⟨(Below.heap_alloc _ _ _ (by omega)).trans (HB2.out.block g hl), by omega⟩
  have HRun := hide (cblock_top ⟨w2.heap.size, 110, fnsOf c, fa, fn, fc⟩ c HWf.out rfl _ _ (0, 0) va vn vc ks HK.out (HOwn.out.keep hk2) (RepC.keep hk2 _ _ HRep.out) (by omega))
  clear hb2 hfn hrow hR2 hP2 hk2 HC HK
  go_wp2_with fail
  refine HRun.out.mono ?_
  rintro e w3 ⟨rfl, ⟨cn, bk, rc, hs3⟩, hb3⟩
  obtain ⟨na, nn, nc, ba, bn, bc, la, ln, lc, ls, hv⟩ := hs3.st
  obtain ⟨y0, y1, y2, y3, y4, y5, y6, y7, fy, ly⟩ := blk8 hv.cell
  have hR3 := (hb3.block w.heap.size (by omega)).trans (alloc_old (o' := .cells #[.slice fa fn fc, .int .i64 0, .slice none 0 0, .slice none 0 0, .slice none 0 0, .bool false, .int .i64 0, .int .i64 0] 110) HR2.out)
  obtain ⟨z0, z1, fz, lz⟩ := blk2p hR3
  have ls3 := hb3.size
  rw [World.size_alloc] at ls3
  have HB3 : Hid (Below w.heap.size w w3) := ⟨hb3.os.trans HB2.out.os, hb3.tape.trans HB2.out.tape, hb3.output.trans HB2.out.output, by omega, fun k hk => (hb3.block k (by omega)).trans ((Below.heap_alloc _ _ _ (by omega)).trans (HB2.out.block k hk))⟩
  clear hs3 hv hR3 hb3 c0
  generalize hfl : sensT (fnsOf c) c [] [] (0, 0) = fl at *
  have HFl := hide hfl
  clear hfl
  go_wp2
  refine bodyPost_ret (v := .agg #[.int .i64 (fl.1 : Nat), .int .i64 (fl.2 : Nat)]) (by simp [results, Tryz.results17, go_sem, z0, z1]) rfl ⟨by rw [HFl.out], ?_⟩
  repeat (first | exact HB3.out | refine Below.alloc ?_ (by simp; omega) _ | refine Below.setCell ?_ (by simp) _ | refine Below.drew ?_)
end Go.Proofs.YtgccmgjbbcndbaaGreatDoor
