import Derived.Test.YtgccmgjbbcndbaaGreatDoorM40
/- Walks of the checker: expr, kind by kind. -/
namespace Go.Proofs.YtgccmgjbbcndbaaGreatDoor
open Go.RowKit
open Go.Deep (BT)

def preF (fns : List (Nm × Nat)) (l : Lab) (n : Nat) (outer cur : List Nm) (wh : Nat) (inn : Bool) (f : Flt) : Flt :=
  if l.kd = 6 ∨ l.kd = 28 then wrongF (!decide (l.s ∈ outer ++ cur)) 3 l.line f
  else if l.kd = 7 then wrongF (callBad fns l.s n) 3 l.line f
  else if l.kd = 25 ∨ l.kd = 26 then wrongF (wh == 0) 4 l.line f
  else if l.kd = 24 then wrongF (!inn) 4 l.line f
  else f
theorem sens_nd (fns : List (Nm × Nat)) (l : Lab) (c : BT Lab) (h1 : l.kd ≠ 31) (h2 : l.kd ≠ 32) (h3 : l.kd ≠ 21) (outer cur : List Nm) (wh : Nat) (inn : Bool) (f : Flt) : sens fns (nd l c) outer cur wh inn f = sens fns c outer cur wh inn (preF fns l (blen c) outer cur wh inn f) := by
  rw [nd, sens, if_neg h1, if_neg h2, if_neg h3, sens]
  rfl
theorem preF_none {fns : List (Nm × Nat)} {l : Lab} {n : Nat} {outer cur : List Nm} {wh : Nat} {inn : Bool} {f : Flt} (h : l.kd ≠ 6 ∧ l.kd ≠ 28 ∧ l.kd ≠ 7 ∧ l.kd ≠ 25 ∧ l.kd ≠ 26 ∧ l.kd ≠ 24) : preF fns l n outer cur wh inn f = f := by
  unfold preF
  rw [if_neg (by omega), if_neg (by omega), if_neg (by omega), if_neg (by omega)]

theorem RepC.nil' {D : Nat → Prop} {w : World} {c : BT Lab} (h : RepC D w c []) : c = .nil := by
  cases c with
  | nil => rfl
  | node x y l c r => obtain ⟨v, ks, rest, e, _⟩ := h; cases e
theorem RepC.cons' {D : Nat → Prop} {w : World} {c : BT Lab} {a : Value} {vs : List Value} (h : RepC D w c (a :: vs)) : ∃ x y l c1 r ks, c = .node x y l c1 r ∧ NodeC D w l a ks ∧ RepC D w c1 ks ∧ RepC D w r vs := by
  cases c with
  | nil => rw [RepC] at h; cases h
  | node x y l c1 r =>
    obtain ⟨v, ks, rest, e, h1, h2, h3⟩ := h
    injection e with e1 e2
    subst e1 e2
    exact ⟨x, y, l, c1, r, ks, rfl, h1, h2, h3⟩
theorem sens_one (fns : List (Nm × Nat)) (x y : Nat) (l : Lab) (c : BT Lab) (outer cur : List Nm) (wh : Nat) (inn : Bool) (f : Flt) : sens fns (.node x y l c .nil) outer cur wh inn f = sens fns (nd l c) outer cur wh inn f := by
  rw [sens_xy', sens]

set_option maxRecDepth 100000 in
set_option maxHeartbeats 400000 in
theorem cex_leaf (K : CC) (l : Lab) (c : BT Lab) (hk : l.kd = 1 ∨ l.kd = 2 ∨ l.kd = 3 ∨ l.kd = 4 ∨ l.kd = 5) : ExOK K l c := by
  intro D w outer cur bk wh inn f rc v ks hst hn hr
  unfold NodeC at hn
  rw [if_neg (by omega)] at hn
  obtain ⟨b, cs, rfl, hD, hb, hl⟩ := hn
  rw [sens_nd K.fns l c (by omega) (by omega) (by omega), preF_none (by omega)]
  have hks : ks = [] := by
    unfold LayC at hl
    rcases hk with h | h | h | h | h <;> (simp only [h] at hl; exact hl.2)
  subst hks
  rw [hr.nil', sens]
  have HSt := hide hst
  have hp : ptrTy l.kd = 246 ∨ ptrTy l.kd = 249 ∨ ptrTy l.kd = 252 ∨ ptrTy l.kd = 255 := by
    rcases hk with h | h | h | h | h <;> (rw [h]; decide)
  have hm : ∀ T e, Tryz.prog.underlying T = some (.pointer e) → (Tryz.prog.info? T).map (·.zero) = some (some (.pointer none)) → ptrTy l.kd ≠ T → ∀ (v : Value) (w : World), (Instr.typeAssert (.iface (ptrTy l.kd) v) 144 T true).run Tryz.prog w = .ok (.tuple #[.pointer none, .bool false]) w := fun T e h1 h2 h3 v w => ta_miss h1 h2 h3 v w
  have ta0 := hm 199 _ Tryz.underlying199 (by kernel_rfl) (by rcases hp with h | h | h | h <;> rw [h] <;> decide)
  have ta1 := hm 205 _ Tryz.underlying205 (by kernel_rfl) (by rcases hp with h | h | h | h <;> rw [h] <;> decide)
  have ta2 := hm 207 _ Tryz.underlying207 (by kernel_rfl) (by rcases hp with h | h | h | h <;> rw [h] <;> decide)
  have ta3 := hm 210 _ Tryz.underlying210 (by kernel_rfl) (by rcases hp with h | h | h | h <;> rw [h] <;> decide)
  have ta4 := hm 215 _ Tryz.underlying215 (by kernel_rfl) (by rcases hp with h | h | h | h <;> rw [h] <;> decide)
  have ta5 := hm 218 _ Tryz.underlying218 (by kernel_rfl) (by rcases hp with h | h | h | h <;> rw [h] <;> decide)
  have ta6 := hm 200 _ Tryz.underlying200 (by kernel_rfl) (by rcases hp with h | h | h | h <;> rw [h] <;> decide)
  have ta7 := hm 223 _ Tryz.underlying223 (by kernel_rfl) (by rcases hp with h | h | h | h <;> rw [h] <;> decide)
  have ta8 := hm 196 _ Tryz.underlying196 (by kernel_rfl) (by rcases hp with h | h | h | h <;> rw [h] <;> decide)
  clear hm hp hst hl hb hk
  generalize ptrTy l.kd = t at *
  go_enter Tryz.func96, Tryz.ntmps96
  go_wp2
  go_end0
  exact ⟨rfl, HSt.out, BelD.refl _ _⟩

set_option maxRecDepth 100000 in
set_option maxHeartbeats 1000000 in
theorem cex_var (K : CC) (l : Lab) (c : BT Lab) (hk : l.kd = 6) : ExOK K l c := by
  intro D w outer cur bk wh inn f rc v ks hst hn hr
  obtain ⟨hlo, lcb, hncb⟩ := hst.lo
  unfold NodeC at hn
  rw [if_neg (by omega)] at hn
  obtain ⟨b, cs, rfl, hD, hb, hl⟩ := hn
  have e1 : ptrTy l.kd = 199 := by rw [hk]; rfl
  have e2 : strTy l.kd = 204 := by rw [hk]; rfl
  rw [e1]
  rw [e2] at hb
  rw [sens_nd K.fns l c (by omega) (by omega) (by omega)]
  unfold LayC at hl
  simp only [hk] at hl
  obtain ⟨rfl, rfl⟩ := hl
  rw [hr.nil', sens]
  have hp : preF K.fns l (blen BT.nil) outer cur wh inn f = wrongF (!decide (l.s ∈ outer ++ cur)) 3 l.line f := by unfold preF; rw [if_pos (.inl hk)]
  rw [hp]
  have HSt := hide hst
  have hsn := cseen_any hst.st l.s 0 (Nat.zero_le _)
  rw [List.drop_zero] at hsn
  have HSn := hide hsn
  have d0 : w.cell? ⟨b, 0, none⟩ = some (.int .i64 (l.line : Nat)) := cell_row hb 0 _ rfl
  have d1 : w.cell? ⟨b, 1, none⟩ = some (.string ⟨l.s.toArray⟩) := cell_row hb 1 _ rfl
  have ld := heap_lt hb
  have ta0 := fun (v : Value) (w : World) => ta_hit (P := Tryz.prog) (xT := 144) Tryz.underlying199 v w
  clear hst hsn hb hp e1 e2 hk hr
  unfold ptV
  cases hq : decide (l.s ∈ outer ++ cur)
  · rw [hq] at HSn
    go_enter Tryz.func96, Tryz.ntmps96
    go_wp2_with fail
    refine HSn.out.mono ?_
    rintro e w' ⟨rfl, rfl⟩
    go_wp2_with fail
    refine (cfail_any HSt.out.st 3 l.line).mono ?_
    rintro e w3 ⟨rfl, hs3, hb3⟩
    have HS3 := hide (HSt.out.next hs3 hb3)
    have HB3 := hide hb3
    clear hs3 hb3
    go_wp2
    go_end0
    exact ⟨rfl, HS3.out, HB3.out⟩
  · rw [hq] at HSn
    rw [show (!true) = false from rfl, wrongF_false]
    go_enter Tryz.func96, Tryz.ntmps96
    go_wp2_with fail
    refine HSn.out.mono ?_
    rintro e w' ⟨rfl, rfl⟩
    go_wp2
    go_end0
    exact ⟨rfl, HSt.out, BelD.refl _ _⟩

set_option maxRecDepth 100000 in
set_option maxHeartbeats 1000000 in
theorem cex_group (K : CC) (l : Lab) (c : BT Lab) (hk : l.kd = 8) (ih : AllN (ExOK K) c) : ExOK K l c := by
  intro D w outer cur bk wh inn f rc v ks hst hn hr
  obtain ⟨hlo, lcb, hncb⟩ := hst.lo
  unfold NodeC at hn
  rw [if_neg (by omega)] at hn
  obtain ⟨b, cs, rfl, hD, hb, hl⟩ := hn
  have e1 : ptrTy l.kd = 207 := by rw [hk]; rfl
  have e2 : strTy l.kd = 209 := by rw [hk]; rfl
  rw [e1]
  rw [e2] at hb
  rw [sens_nd K.fns l c (by omega) (by omega) (by omega)]
  unfold LayC at hl
  simp only [hk] at hl
  obtain ⟨a, rfl, rfl⟩ := hl
  obtain ⟨x1, y1, l1, c1, r1, ks1, rfl, hn1, hr1, hz⟩ := hr.cons'
  obtain rfl := hz.nil'
  rw [preF_none (by omega), sens_one]
  have HC := hide (ih.1 D w outer cur bk wh inn f rc a ks1 hst hn1 hr1)
  have d0 := cell_row hb 0 a rfl
  have ld := heap_lt hb
  have ta0 := fun (v : Value) (w : World) => ta_miss (P := Tryz.prog) (t := 207) (T := 199) (xT := 144) (z := .pointer none) Tryz.underlying199 (by kernel_rfl) (by decide) v w
  have ta1 := fun (v : Value) (w : World) => ta_miss (P := Tryz.prog) (t := 207) (T := 205) (xT := 144) (z := .pointer none) Tryz.underlying205 (by kernel_rfl) (by decide) v w
  have ta2 := fun (v : Value) (w : World) => ta_hit (P := Tryz.prog) (xT := 144) Tryz.underlying207 v w
  clear hst hb e1 e2 hk hr hn1 hr1 hz ih
  unfold ptV
  go_enter Tryz.func96, Tryz.ntmps96
  go_wp2_with fail
  refine HC.out.mono ?_
  rintro e w1 ⟨rfl, hs1, hb1⟩
  have HS1 := hide hs1
  have HB1 := hide hb1
  clear hs1 hb1
  go_wp2
  go_end0
  exact ⟨rfl, HS1.out, HB1.out⟩

set_option maxRecDepth 100000 in
set_option maxHeartbeats 1000000 in
theorem cex_len (K : CC) (l : Lab) (c : BT Lab) (hk : l.kd = 10) (ih : AllN (ExOK K) c) : ExOK K l c := by
  intro D w outer cur bk wh inn f rc v ks hst hn hr
  obtain ⟨hlo, lcb, hncb⟩ := hst.lo
  unfold NodeC at hn
  rw [if_neg (by omega)] at hn
  obtain ⟨b, cs, rfl, hD, hb, hl⟩ := hn
  have e1 : ptrTy l.kd = 215 := by rw [hk]; rfl
  have e2 : strTy l.kd = 217 := by rw [hk]; rfl
  rw [e1]
  rw [e2] at hb
  rw [sens_nd K.fns l c (by omega) (by omega) (by omega)]
  unfold LayC at hl
  simp only [hk] at hl
  obtain ⟨a, rfl, rfl⟩ := hl
  obtain ⟨x1, y1, l1, c1, r1, ks1, rfl, hn1, hr1, hz⟩ := hr.cons'
  obtain rfl := hz.nil'
  rw [preF_none (by omega), sens_one]
  have HC := hide (ih.1 D w outer cur bk wh inn f rc a ks1 hst hn1 hr1)
  have d0 := cell_row hb 1 a rfl
  have ld := heap_lt hb
  have ta0 := fun (v : Value) (w : World) => ta_miss (P := Tryz.prog) (t := 215) (T := 199) (xT := 144) (z := .pointer none) Tryz.underlying199 (by kernel_rfl) (by decide) v w
  have ta1 := fun (v : Value) (w : World) => ta_miss (P := Tryz.prog) (t := 215) (T := 205) (xT := 144) (z := .pointer none) Tryz.underlying205 (by kernel_rfl) (by decide) v w
  have ta2 := fun (v : Value) (w : World) => ta_miss (P := Tryz.prog) (t := 215) (T := 207) (xT := 144) (z := .pointer none) Tryz.underlying207 (by kernel_rfl) (by decide) v w
  have ta3 := fun (v : Value) (w : World) => ta_miss (P := Tryz.prog) (t := 215) (T := 210) (xT := 144) (z := .pointer none) Tryz.underlying210 (by kernel_rfl) (by decide) v w
  have ta4 := fun (v : Value) (w : World) => ta_hit (P := Tryz.prog) (xT := 144) Tryz.underlying215 v w
  clear hst hb e1 e2 hk hr hn1 hr1 hz ih
  unfold ptV
  go_enter Tryz.func96, Tryz.ntmps96
  go_wp2_with fail
  refine HC.out.mono ?_
  rintro e w1 ⟨rfl, hs1, hb1⟩
  have HS1 := hide hs1
  have HB1 := hide hb1
  clear hs1 hb1
  go_wp2
  go_end0
  exact ⟨rfl, HS1.out, HB1.out⟩

set_option maxRecDepth 100000 in
set_option maxHeartbeats 1000000 in
theorem cex_not (K : CC) (l : Lab) (c : BT Lab) (hk : l.kd = 13) (ih : AllN (ExOK K) c) : ExOK K l c := by
  intro D w outer cur bk wh inn f rc v ks hst hn hr
  obtain ⟨hlo, lcb, hncb⟩ := hst.lo
  unfold NodeC at hn
  rw [if_neg (by omega)] at hn
  obtain ⟨b, cs, rfl, hD, hb, hl⟩ := hn
  have e1 : ptrTy l.kd = 223 := by rw [hk]; rfl
  have e2 : strTy l.kd = 225 := by rw [hk]; rfl
  rw [e1]
  rw [e2] at hb
  rw [sens_nd K.fns l c (by omega) (by omega) (by omega)]
  unfold LayC at hl
  simp only [hk] at hl
  obtain ⟨a, rfl, rfl⟩ := hl
  obtain ⟨x1, y1, l1, c1, r1, ks1, rfl, hn1, hr1, hz⟩ := hr.cons'
  obtain rfl := hz.nil'
  rw [preF_none (by omega), sens_one]
  have HC := hide (ih.1 D w outer cur bk wh inn f rc a ks1 hst hn1 hr1)
  have d0 := cell_row hb 2 a rfl
  have ld := heap_lt hb
  have ta0 := fun (v : Value) (w : World) => ta_miss (P := Tryz.prog) (t := 223) (T := 199) (xT := 144) (z := .pointer none) Tryz.underlying199 (by kernel_rfl) (by decide) v w
  have ta1 := fun (v : Value) (w : World) => ta_miss (P := Tryz.prog) (t := 223) (T := 205) (xT := 144) (z := .pointer none) Tryz.underlying205 (by kernel_rfl) (by decide) v w
  have ta2 := fun (v : Value) (w : World) => ta_miss (P := Tryz.prog) (t := 223) (T := 207) (xT := 144) (z := .pointer none) Tryz.underlying207 (by kernel_rfl) (by decide) v w
  have ta3 := fun (v : Value) (w : World) => ta_miss (P := Tryz.prog) (t := 223) (T := 210) (xT := 144) (z := .pointer none) Tryz.underlying210 (by kernel_rfl) (by decide) v w
  have ta4 := fun (v : Value) (w : World) => ta_miss (P := Tryz.prog) (t := 223) (T := 215) (xT := 144) (z := .pointer none) Tryz.underlying215 (by kernel_rfl) (by decide) v w
  have ta5 := fun (v : Value) (w : World) => ta_miss (P := Tryz.prog) (t := 223) (T := 218) (xT := 144) (z := .pointer none) Tryz.underlying218 (by kernel_rfl) (by decide) v w
  have ta6 := fun (v : Value) (w : World) => ta_miss (P := Tryz.prog) (t := 223) (T := 200) (xT := 144) (z := .pointer none) Tryz.underlying200 (by kernel_rfl) (by decide) v w
  have ta7 := fun (v : Value) (w : World) => ta_hit (P := Tryz.prog) (xT := 144) Tryz.underlying223 v w
  clear hst hb e1 e2 hk hr hn1 hr1 hz ih
  unfold ptV
  go_enter Tryz.func96, Tryz.ntmps96
  go_wp2_with fail
  refine HC.out.mono ?_
  rintro e w1 ⟨rfl, hs1, hb1⟩
  have HS1 := hide hs1
  have HB1 := hide hb1
  clear hs1 hb1
  go_wp2
  go_end0
  exact ⟨rfl, HS1.out, HB1.out⟩

set_option maxRecDepth 100000 in
set_option maxHeartbeats 1000000 in
theorem cex_neg (K : CC) (l : Lab) (c : BT Lab) (hk : l.kd = 14) (ih : AllN (ExOK K) c) : ExOK K l c := by
  intro D w outer cur bk wh inn f rc v ks hst hn hr
  obtain ⟨hlo, lcb, hncb⟩ := hst.lo
  unfold NodeC at hn
  rw [if_neg (by omega)] at hn
  obtain ⟨b, cs, rfl, hD, hb, hl⟩ := hn
  have e1 : ptrTy l.kd = 223 := by rw [hk]; rfl
  have e2 : strTy l.kd = 225 := by rw [hk]; rfl
  rw [e1]
  rw [e2] at hb
  rw [sens_nd K.fns l c (by omega) (by omega) (by omega)]
  unfold LayC at hl
  simp only [hk] at hl
  obtain ⟨a, rfl, rfl⟩ := hl
  obtain ⟨x1, y1, l1, c1, r1, ks1, rfl, hn1, hr1, hz⟩ := hr.cons'
  obtain rfl := hz.nil'
  rw [preF_none (by omega), sens_one]
  have HC := hide (ih.1 D w outer cur bk wh inn f rc a ks1 hst hn1 hr1)
  have d0 := cell_row hb 2 a rfl
  have ld := heap_lt hb
  have ta0 := fun (v : Value) (w : World) => ta_miss (P := Tryz.prog) (t := 223) (T := 199) (xT := 144) (z := .pointer none) Tryz.underlying199 (by kernel_rfl) (by decide) v w
  have ta1 := fun (v : Value) (w : World) => ta_miss (P := Tryz.prog) (t := 223) (T := 205) (xT := 144) (z := .pointer none) Tryz.underlying205 (by kernel_rfl) (by decide) v w
  have ta2 := fun (v : Value) (w : World) => ta_miss (P := Tryz.prog) (t := 223) (T := 207) (xT := 144) (z := .pointer none) Tryz.underlying207 (by kernel_rfl) (by decide) v w
  have ta3 := fun (v : Value) (w : World) => ta_miss (P := Tryz.prog) (t := 223) (T := 210) (xT := 144) (z := .pointer none) Tryz.underlying210 (by kernel_rfl) (by decide) v w
  have ta4 := fun (v : Value) (w : World) => ta_miss (P := Tryz.prog) (t := 223) (T := 215) (xT := 144) (z := .pointer none) Tryz.underlying215 (by kernel_rfl) (by decide) v w
  have ta5 := fun (v : Value) (w : World) => ta_miss (P := Tryz.prog) (t := 223) (T := 218) (xT := 144) (z := .pointer none) Tryz.underlying218 (by kernel_rfl) (by decide) v w
  have ta6 := fun (v : Value) (w : World) => ta_miss (P := Tryz.prog) (t := 223) (T := 200) (xT := 144) (z := .pointer none) Tryz.underlying200 (by kernel_rfl) (by decide) v w
  have ta7 := fun (v : Value) (w : World) => ta_hit (P := Tryz.prog) (xT := 144) Tryz.underlying223 v w
  clear hst hb e1 e2 hk hr hn1 hr1 hz ih
  unfold ptV
  go_enter Tryz.func96, Tryz.ntmps96
  go_wp2_with fail
  refine HC.out.mono ?_
  rintro e w1 ⟨rfl, hs1, hb1⟩
  have HS1 := hide hs1
  have HB1 := hide hb1
  clear hs1 hb1
  go_wp2
  go_end0
  exact ⟨rfl, HS1.out, HB1.out⟩

set_option maxRecDepth 100000 in
set_option maxHeartbeats 1000000 in
theorem cex_push (K : CC) (l : Lab) (c : BT Lab) (hk : l.kd = 11) (ih : AllN (ExOK K) c) (hwf : Wf 0 c) : ExOK K l c := by
  intro D w outer cur bk wh inn f rc v ks hst hn hr
  obtain ⟨hlo, lcb, hncb⟩ := hst.lo
  unfold NodeC at hn
  rw [if_neg (by omega)] at hn
  obtain ⟨b, cs, rfl, hD, hb, hl⟩ := hn
  have e1 : ptrTy l.kd = 218 := by rw [hk]; rfl
  have e2 : strTy l.kd = 220 := by rw [hk]; rfl
  rw [e1]
  rw [e2] at hb
  rw [sens_nd K.fns l c (by omega) (by omega) (by omega)]
  unfold LayC at hl
  simp only [hk] at hl
  obtain ⟨a1, a2, rfl, rfl⟩ := hl
  obtain ⟨x1, y1, l1, c1, r1, ks1, rfl, hn1, hr1, hz⟩ := hr.cons'
  obtain ⟨x2, y2, l2, c2, r2, ks2, rfl, hn2, hr2, hz2⟩ := hz.cons'
  obtain rfl := hz2.nil'
  have hc0 := sens_cur0 K.fns _ hwf.one0 outer cur wh inn f
  rw [preF_none (by omega), sens_xy', hc0, sens_one]
  have HC := hide (ih.1 D w outer cur bk wh inn f rc a1 ks1 hst hn1 hr1)
  have HC2 := hide (fun W g (hs : K.St D W (outer ++ cur) bk wh inn g rc) (hbd : BelD D w W) => ih.2.1 D W outer cur bk wh inn g rc a2 ks2 hs (hn2.beld hbd) (hr2.beld hbd))
  have d0 := cell_row hb 1 a1 rfl
  have ld := heap_lt hb
  have HBk := hide hb
  have ta0 := fun (v : Value) (w : World) => ta_miss (P := Tryz.prog) (t := 218) (T := 199) (xT := 144) (z := .pointer none) Tryz.underlying199 (by kernel_rfl) (by decide) v w
  have ta1 := fun (v : Value) (w : World) => ta_miss (P := Tryz.prog) (t := 218) (T := 205) (xT := 144) (z := .pointer none) Tryz.underlying205 (by kernel_rfl) (by decide) v w
  have ta2 := fun (v : Value) (w : World) => ta_miss (P := Tryz.prog) (t := 218) (T := 207) (xT := 144) (z := .pointer none) Tryz.underlying207 (by kernel_rfl) (by decide) v w
  have ta3 := fun (v : Value) (w : World) => ta_miss (P := Tryz.prog) (t := 218) (T := 210) (xT := 144) (z := .pointer none) Tryz.underlying210 (by kernel_rfl) (by decide) v w
  have ta4 := fun (v : Value) (w : World) => ta_miss (P := Tryz.prog) (t := 218) (T := 215) (xT := 144) (z := .pointer none) Tryz.underlying215 (by kernel_rfl) (by decide) v w
  have ta5 := fun (v : Value) (w : World) => ta_hit (P := Tryz.prog) (xT := 144) Tryz.underlying218 v w
  clear hst hb e1 e2 hk hr hn1 hr1 hz ih hwf hc0 hn2 hr2 hz2
  unfold ptV
  go_enter Tryz.func96, Tryz.ntmps96
  go_wp2_with fail
  refine HC.out.mono ?_
  rintro e w1 ⟨rfl, hs1, hb1⟩
  have HS1 := hide hs1
  have HB1 := hide hb1
  have hbk1 := (hb1.block b hD).trans HBk.out
  have d1 := cell_row hbk1 2 a2 rfl
  have ld1 := heap_lt hbk1
  clear hs1 hb1 d0 ld hbk1
  go_wp2_with fail
  refine (HC2.out _ _ HS1.out HB1.out).mono ?_
  rintro e w2 ⟨rfl, hs2, hb2⟩
  have HS2 := hide hs2
  have HB2 : Hid (BelD D w w2) := HB1.out.trans hb2
  clear hs2 hb2
  go_wp2
  go_end0
  exact ⟨rfl, HS2.out, HB2.out⟩

set_option maxRecDepth 100000 in
set_option maxHeartbeats 1000000 in
theorem cex_index (K : CC) (l : Lab) (c : BT Lab) (hk : l.kd = 12) (ih : AllN (ExOK K) c) (hwf : Wf 0 c) : ExOK K l c := by
  intro D w outer cur bk wh inn f rc v ks hst hn hr
  obtain ⟨hlo, lcb, hncb⟩ := hst.lo
  unfold NodeC at hn
  rw [if_neg (by omega)] at hn
  obtain ⟨b, cs, rfl, hD, hb, hl⟩ := hn
  have e1 : ptrTy l.kd = 200 := by rw [hk]; rfl
  have e2 : strTy l.kd = 222 := by rw [hk]; rfl
  rw [e1]
  rw [e2] at hb
  rw [sens_nd K.fns l c (by omega) (by omega) (by omega)]
  unfold LayC at hl
  simp only [hk] at hl
  obtain ⟨a1, a2, rfl, rfl⟩ := hl
  obtain ⟨x1, y1, l1, c1, r1, ks1, rfl, hn1, hr1, hz⟩ := hr.cons'
  obtain ⟨x2, y2, l2, c2, r2, ks2, rfl, hn2, hr2, hz2⟩ := hz.cons'
  obtain rfl := hz2.nil'
  have hc0 := sens_cur0 K.fns _ hwf.one0 outer cur wh inn f
  rw [preF_none (by omega), sens_xy', hc0, sens_one]
  have HC := hide (ih.1 D w outer cur bk wh inn f rc a1 ks1 hst hn1 hr1)
  have HC2 := hide (fun W g (hs : K.St D W (outer ++ cur) bk wh inn g rc) (hbd : BelD D w W) => ih.2.1 D W outer cur bk wh inn g rc a2 ks2 hs (hn2.beld hbd) (hr2.beld hbd))
  have d0 := cell_row hb 1 a1 rfl
  have ld := heap_lt hb
  have HBk := hide hb
  have ta0 := fun (v : Value) (w : World) => ta_miss (P := Tryz.prog) (t := 200) (T := 199) (xT := 144) (z := .pointer none) Tryz.underlying199 (by kernel_rfl) (by decide) v w
  have ta1 := fun (v : Value) (w : World) => ta_miss (P := Tryz.prog) (t := 200) (T := 205) (xT := 144) (z := .pointer none) Tryz.underlying205 (by kernel_rfl) (by decide) v w
  have ta2 := fun (v : Value) (w : World) => ta_miss (P := Tryz.prog) (t := 200) (T := 207) (xT := 144) (z := .pointer none) Tryz.underlying207 (by kernel_rfl) (by decide) v w
  have ta3 := fun (v : Value) (w : World) => ta_miss (P := Tryz.prog) (t := 200) (T := 210) (xT := 144) (z := .pointer none) Tryz.underlying210 (by kernel_rfl) (by decide) v w
  have ta4 := fun (v : Value) (w : World) => ta_miss (P := Tryz.prog) (t := 200) (T := 215) (xT := 144) (z := .pointer none) Tryz.underlying215 (by kernel_rfl) (by decide) v w
  have ta5 := fun (v : Value) (w : World) => ta_miss (P := Tryz.prog) (t := 200) (T := 218) (xT := 144) (z := .pointer none) Tryz.underlying218 (by kernel_rfl) (by decide) v w
  have ta6 := fun (v : Value) (w : World) => ta_hit (P := Tryz.prog) (xT := 144) Tryz.underlying200 v w
  clear hst hb e1 e2 hk hr hn1 hr1 hz ih hwf hc0 hn2 hr2 hz2
  unfold ptV
  go_enter Tryz.func96, Tryz.ntmps96
  go_wp2_with fail
  refine HC.out.mono ?_
  rintro e w1 ⟨rfl, hs1, hb1⟩
  have HS1 := hide hs1
  have HB1 := hide hb1
  have hbk1 := (hb1.block b hD).trans HBk.out
  have d1 := cell_row hbk1 2 a2 rfl
  have ld1 := heap_lt hbk1
  clear hs1 hb1 d0 ld hbk1
  go_wp2_with fail
  refine (HC2.out _ _ HS1.out HB1.out).mono ?_
  rintro e w2 ⟨rfl, hs2, hb2⟩
  have HS2 := hide hs2
  have HB2 : Hid (BelD D w w2) := HB1.out.trans hb2
  clear hs2 hb2
  go_wp2
  go_end0
  exact ⟨rfl, HS2.out, HB2.out⟩

end Go.Proofs.YtgccmgjbbcndbaaGreatDoor
/- Walks of the checker: expr, lists, calls, signs; every forest of expressions. -/
namespace Go.Proofs.YtgccmgjbbcndbaaGreatDoor
open Go.RowKit
open Go.Deep (BT)

theorem own_is {w : World} {base : Nat} {e : TypeId} {size : Nat} {v : Value} {n : Nat} {xs : List Value} (h : w.ownsRow base e size v n xs) : ∃ a n c, v = .slice a n c := by
  rcases h.2 with ⟨rfl, _⟩ | ⟨g, cap, cur, rfl, _⟩
  · exact ⟨_, _, _, rfl⟩
  · exact ⟨_, _, _, rfl⟩

set_option maxRecDepth 100000 in
set_option maxHeartbeats 1000000 in
theorem cex_list (K : CC) (l : Lab) (c : BT Lab) (hk : l.kd = 9) (ih : AllN (ExOK K) c) (hwf : Wf 0 c) (hsz : blen c ≤ 500000) : ExOK K l c := by
  intro D w outer cur bk wh inn f rc v ks hst hn hr
  obtain ⟨hlo, lcb, hncb⟩ := hst.lo
  unfold NodeC at hn
  rw [if_neg (by omega)] at hn
  obtain ⟨b, cs, rfl, hD, hb, hl⟩ := hn
  have e1 : ptrTy l.kd = 210 := by rw [hk]; rfl
  have e2 : strTy l.kd = 214 := by rw [hk]; rfl
  rw [e1]
  rw [e2] at hb
  rw [sens_nd K.fns l c (by omega) (by omega) (by omega)]
  unfold LayC at hl
  simp only [hk] at hl
  obtain ⟨sl, rfl, ho⟩ := hl
  rw [preF_none (by omega)]
  obtain ⟨va, vn, vc, rfl⟩ : ∃ va vn vc, sl = .slice va vn vc := own_is ho.1
  have HC := hide (cexprs_any K c ih hwf D w outer cur bk wh inn f rc va vn vc ks hst ho hr (by rw [hr.len]; exact hsz))
  have d0 := cell_row hb 1 _ rfl
  have ld := heap_lt hb
  have ta0 := fun (v : Value) (w : World) => ta_miss (P := Tryz.prog) (t := 210) (T := 199) (xT := 144) (z := .pointer none) Tryz.underlying199 (by kernel_rfl) (by decide) v w
  have ta1 := fun (v : Value) (w : World) => ta_miss (P := Tryz.prog) (t := 210) (T := 205) (xT := 144) (z := .pointer none) Tryz.underlying205 (by kernel_rfl) (by decide) v w
  have ta2 := fun (v : Value) (w : World) => ta_miss (P := Tryz.prog) (t := 210) (T := 207) (xT := 144) (z := .pointer none) Tryz.underlying207 (by kernel_rfl) (by decide) v w
  have ta3 := fun (v : Value) (w : World) => ta_hit (P := Tryz.prog) (xT := 144) Tryz.underlying210 v w
  clear hst hb e1 e2 hk hr ih hwf ho
  unfold ptV
  go_enter Tryz.func96, Tryz.ntmps96
  go_wp2_with fail
  refine HC.out.mono ?_
  rintro e w1 ⟨rfl, hs1, hb1⟩
  have HS1 := hide hs1
  have HB1 := hide hb1
  clear hs1 hb1
  go_wp2
  go_end0
  exact ⟨rfl, HS1.out, HB1.out⟩

set_option maxRecDepth 100000 in
set_option maxHeartbeats 1000000 in
theorem cex_call (K : CC) (l : Lab) (c : BT Lab) (hk : l.kd = 7) (ih : AllN (ExOK K) c) (hwf : Wf 0 c) (hsz : blen c ≤ 500000) : ExOK K l c := by
  intro D w outer cur bk wh inn f rc v ks hst hn hr
  obtain ⟨hlo, lcb, hncb⟩ := hst.lo
  unfold NodeC at hn
  rw [if_neg (by omega)] at hn
  obtain ⟨b, cs, rfl, hD, hb, hl⟩ := hn
  have e1 : ptrTy l.kd = 205 := by rw [hk]; rfl
  have e2 : strTy l.kd = 234 := by rw [hk]; rfl
  rw [e1]
  rw [e2] at hb
  rw [sens_nd K.fns l c (by omega) (by omega) (by omega)]
  unfold LayC at hl
  simp only [hk] at hl
  obtain ⟨sl, rfl, ho⟩ := hl
  have hp : preF K.fns l (blen c) outer cur wh inn f = wrongF (callBad K.fns l.s (blen c)) 3 l.line f := by unfold preF; rw [if_neg (by omega), if_pos hk]
  rw [hp]
  obtain ⟨va, vn, vc, rfl⟩ : ∃ va vn vc, sl = .slice va vn vc := own_is ho.1
  have HC := hide (ccall_any K c ih hwf l.line l.s D w outer cur bk wh inn f rc b va vn vc ks hst hD hb ho hr (by rw [hr.len]; exact hsz))
  have ld := heap_lt hb
  have ta0 := fun (v : Value) (w : World) => ta_miss (P := Tryz.prog) (t := 205) (T := 199) (xT := 144) (z := .pointer none) Tryz.underlying199 (by kernel_rfl) (by decide) v w
  have ta1 := fun (v : Value) (w : World) => ta_hit (P := Tryz.prog) (xT := 144) Tryz.underlying205 v w
  clear hst hb e1 e2 hk hr ih hwf ho hp
  unfold ptV
  go_enter Tryz.func96, Tryz.ntmps96
  go_wp2_with fail
  refine HC.out.mono ?_
  rintro e w1 ⟨rfl, hs1, hb1⟩
  have HS1 := hide hs1
  have HB1 := hide hb1
  clear hs1 hb1
  go_wp2
  go_end0
  exact ⟨rfl, HS1.out, HB1.out⟩

theorem bin_lay' {D : Nat → Prop} {w : World} {l : Lab} {cs : Array Value} {ks : List Value} (hk : 127 ≤ l.kd ∧ l.kd ≤ 140) (h : LayC D w l cs ks) : ∃ a b, cs = #[lnV l.line, .int .i64 ((l.kd - 100 : Nat) : Nat), a, b] ∧ ks = [a, b] := by
  have h14 : l.kd = 127 ∨ l.kd = 128 ∨ l.kd = 129 ∨ l.kd = 130 ∨ l.kd = 131 ∨ l.kd = 132 ∨ l.kd = 133 ∨ l.kd = 134 ∨ l.kd = 135 ∨ l.kd = 136 ∨ l.kd = 137 ∨ l.kd = 138 ∨ l.kd = 139 ∨ l.kd = 140 := by omega
  unfold LayC at h
  rcases h14 with e | e | e | e | e | e | e | e | e | e | e | e | e | e <;> (simp only [e] at h ⊢; exact h)
theorem bin_ty' {kd : Nat} (hk : 127 ≤ kd ∧ kd ≤ 140) : ptrTy kd = 196 ∧ strTy kd = 198 := by
  have h14 : kd = 127 ∨ kd = 128 ∨ kd = 129 ∨ kd = 130 ∨ kd = 131 ∨ kd = 132 ∨ kd = 133 ∨ kd = 134 ∨ kd = 135 ∨ kd = 136 ∨ kd = 137 ∨ kd = 138 ∨ kd = 139 ∨ kd = 140 := by omega
  rcases h14 with e | e | e | e | e | e | e | e | e | e | e | e | e | e <;> (subst e; exact ⟨rfl, rfl⟩)

set_option maxRecDepth 100000 in
set_option maxHeartbeats 1000000 in
theorem cex_bin (K : CC) (l : Lab) (c : BT Lab) (hk : 127 ≤ l.kd ∧ l.kd ≤ 140) (ih : AllN (ExOK K) c) (hwf : Wf 0 c) : ExOK K l c := by
  intro D w outer cur bk wh inn f rc v ks hst hn hr
  obtain ⟨hlo, lcb, hncb⟩ := hst.lo
  unfold NodeC at hn
  rw [if_neg (by omega)] at hn
  obtain ⟨b, cs, rfl, hD, hb, hl⟩ := hn
  obtain ⟨e1, e2⟩ := bin_ty' hk
  rw [e1]
  rw [e2] at hb
  rw [sens_nd K.fns l c (by omega) (by omega) (by omega)]
  replace hl := bin_lay' hk hl
  obtain ⟨a1, a2, rfl, rfl⟩ := hl
  obtain ⟨x1, y1, l1, c1, r1, ks1, rfl, hn1, hr1, hz⟩ := hr.cons'
  obtain ⟨x2, y2, l2, c2, r2, ks2, rfl, hn2, hr2, hz2⟩ := hz.cons'
  obtain rfl := hz2.nil'
  have hc0 := sens_cur0 K.fns _ hwf.one0 outer cur wh inn f
  rw [preF_none (by omega), sens_xy', hc0, sens_one]
  have HC := hide (ih.1 D w outer cur bk wh inn f rc a1 ks1 hst hn1 hr1)
  have HC2 := hide (fun W g (hs : K.St D W (outer ++ cur) bk wh inn g rc) (hbd : BelD D w W) => ih.2.1 D W outer cur bk wh inn g rc a2 ks2 hs (hn2.beld hbd) (hr2.beld hbd))
  have d0 := cell_row hb 2 a1 rfl
  have ld := heap_lt hb
  have HBk := hide hb
  have ta0 := fun (v : Value) (w : World) => ta_miss (P := Tryz.prog) (t := 196) (T := 199) (xT := 144) (z := .pointer none) Tryz.underlying199 (by kernel_rfl) (by decide) v w
  have ta1 := fun (v : Value) (w : World) => ta_miss (P := Tryz.prog) (t := 196) (T := 205) (xT := 144) (z := .pointer none) Tryz.underlying205 (by kernel_rfl) (by decide) v w
  have ta2 := fun (v : Value) (w : World) => ta_miss (P := Tryz.prog) (t := 196) (T := 207) (xT := 144) (z := .pointer none) Tryz.underlying207 (by kernel_rfl) (by decide) v w
  have ta3 := fun (v : Value) (w : World) => ta_miss (P := Tryz.prog) (t := 196) (T := 210) (xT := 144) (z := .pointer none) Tryz.underlying210 (by kernel_rfl) (by decide) v w
  have ta4 := fun (v : Value) (w : World) => ta_miss (P := Tryz.prog) (t := 196) (T := 215) (xT := 144) (z := .pointer none) Tryz.underlying215 (by kernel_rfl) (by decide) v w
  have ta5 := fun (v : Value) (w : World) => ta_miss (P := Tryz.prog) (t := 196) (T := 218) (xT := 144) (z := .pointer none) Tryz.underlying218 (by kernel_rfl) (by decide) v w
  have ta6 := fun (v : Value) (w : World) => ta_miss (P := Tryz.prog) (t := 196) (T := 200) (xT := 144) (z := .pointer none) Tryz.underlying200 (by kernel_rfl) (by decide) v w
  have ta7 := fun (v : Value) (w : World) => ta_miss (P := Tryz.prog) (t := 196) (T := 223) (xT := 144) (z := .pointer none) Tryz.underlying223 (by kernel_rfl) (by decide) v w
  have ta8 := fun (v : Value) (w : World) => ta_hit (P := Tryz.prog) (xT := 144) Tryz.underlying196 v w
  clear hst hb e1 e2 hk hr hn1 hr1 hz ih hwf hc0 hn2 hr2 hz2
  unfold ptV
  go_enter Tryz.func96, Tryz.ntmps96
  go_wp2_with fail
  refine HC.out.mono ?_
  rintro e w1 ⟨rfl, hs1, hb1⟩
  have HS1 := hide hs1
  have HB1 := hide hb1
  have hbk1 := (hb1.block b hD).trans HBk.out
  have d1 := cell_row hbk1 3 a2 rfl
  have ld1 := heap_lt hbk1
  clear hs1 hb1 d0 ld hbk1
  go_wp2_with fail
  refine (HC2.out _ _ HS1.out HB1.out).mono ?_
  rintro e w2 ⟨rfl, hs2, hb2⟩
  have HS2 := hide hs2
  have HB2 : Hid (BelD D w w2) := HB1.out.trans hb2
  clear hs2 hb2
  go_wp2
  go_end0
  exact ⟨rfl, HS2.out, HB2.out⟩

theorem exK_cases {kd : Nat} (h : exK kd = true) : (kd = 1 ∨ kd = 2 ∨ kd = 3 ∨ kd = 4 ∨ kd = 5) ∨ kd = 6 ∨ kd = 7 ∨ kd = 8 ∨ kd = 9 ∨ kd = 10 ∨ kd = 11 ∨ kd = 12 ∨ kd = 13 ∨ kd = 14 ∨ (127 ≤ kd ∧ kd ≤ 140) := by
  unfold exK at h
  simp only [Bool.or_eq_true, Bool.and_eq_true, decide_eq_true_eq] at h
  omega
theorem Wf.exs {x y : Nat} {l : Lab} {c r : BT Lab} (h : Wf 0 (.node x y l c r)) : exK l.kd = true ∧ Wf 0 c ∧ Wf 0 r := by
  rcases h.2 with ⟨_, h1, h2⟩ | ⟨h1, _⟩ | ⟨h1, _⟩ | ⟨h1, _⟩ | ⟨h1, _⟩ | ⟨h1, _⟩ | ⟨h1, _⟩
  · exact ⟨h1, h2, h.1⟩
  all_goals omega
theorem ex_all (K : CC) : ∀ f : BT Lab, Wf 0 f → bsize f ≤ 500000 → AllN (ExOK K) f := by
  intro f
  induction f with
  | nil => intro _ _; trivial
  | node x y l c r ih1 ih2 =>
    intro h hs
    obtain ⟨h1, h2, h3⟩ := h.exs
    rw [bsize] at hs
    have ih := ih1 h2 (by omega)
    have hl := blen_size c
    refine ⟨?_, ih2 h3 (by omega)⟩
    rcases exK_cases h1 with e | e | e | e | e | e | e | e | e | e | e
    · exact cex_leaf K l c e
    · exact cex_var K l c e
    · exact cex_call K l c e ih h2 (by omega)
    · exact cex_group K l c e ih
    · exact cex_list K l c e ih h2 (by omega)
    · exact cex_len K l c e ih
    · exact cex_push K l c e ih h2
    · exact cex_index K l c e ih h2
    · exact cex_not K l c e ih
    · exact cex_neg K l c e ih
    · exact cex_bin K l c e ih h2
end Go.Proofs.YtgccmgjbbcndbaaGreatDoor
/- Walks of the checker: statements, blocks, return. -/
namespace Go.Proofs.YtgccmgjbbcndbaaGreatDoor
open Go.RowKit
open Go.Deep (BT)

theorem NodeC.isIface {D : Nat → Prop} {w : World} {l : Lab} {v : Value} {ks : List Value} (h : NodeC D w l v ks) (h1 : l.kd ≠ 31) (h2 : l.kd ≠ 32) : ∃ t x, v = .iface t x := by
  unfold NodeC at h
  rw [if_neg (by omega)] at h
  obtain ⟨b, cs, e, _⟩ := h
  exact ⟨_, _, e⟩
theorem exK_ne {kd : Nat} (h : exK kd = true) : kd ≠ 31 ∧ kd ≠ 32 ∧ kd ≠ 21 := by
  unfold exK at h
  simp only [Bool.or_eq_true, Bool.and_eq_true, decide_eq_true_eq] at h
  omega

def StOK (K : CC) (l : Lab) (c : BT Lab) : Prop := ∀ (D : Nat → Prop) (w : World) (outer cur : List Nm) (bl : List Nat) (wh : Nat) (inn : Bool) (f : Flt) (rc : Nat) (v : Value) (ks : List Value),
  K.St D w (outer ++ cur) (bl ++ [outer.length]) wh inn f rc → NodeC D w l v ks → RepC D w c ks → (outer ++ cur).length + bsize (nd l c) ≤ 700000 → bl.length + bsize (nd l c) ≤ 700000 → wh + bsize (nd l c) ≤ 700000 →
  Calls Tryz.prog 82 #[.pointer (some ⟨K.cb, 0, none⟩), v] w fun e w' => e = .returned (.tuple #[]) ∧ K.St D w' (outer ++ (sens K.fns (nd l c) outer cur wh inn f).1) (bl ++ [outer.length]) wh inn (sens K.fns (nd l c) outer cur wh inn f).2 rc ∧ BelD D w w'

set_option maxRecDepth 100000 in
set_option maxHeartbeats 1000000 in
theorem cstatements_any (K : CC) (c : BT Lab) (hok : AllN (StOK K) c) (D : Nat → Prop) (w : World) (outer cur : List Nm) (bl : List Nat) (wh : Nat) (inn : Bool) (f : Flt) (rc : Nat) (va : Option Addr) (vn vc : Nat) (ks : List Value)
    (hst : K.St D w (outer ++ cur) (bl ++ [outer.length]) wh inn f rc) (hown : OwnsD D w 76 1 (.slice va vn vc) ks.length ks) (hrep : RepC D w c ks) (hb1 : (outer ++ cur).length + bsize c ≤ 700000) (hb2 : bl.length + bsize c ≤ 700000) (hb3 : wh + bsize c ≤ 700000) :
    Calls Tryz.prog 58 #[.pointer (some ⟨K.cb, 0, none⟩), .slice va vn vc] w fun e w' => e = .returned (.tuple #[]) ∧ K.St D w' (outer ++ (sens K.fns c outer cur wh inn f).1) (bl ++ [outer.length]) wh inn (sens K.fns c outer cur wh inn f).2 rc ∧ BelD D w w' := by
  have hvn : vn = ks.length := (own_cells hown.1).1
  subst hvn
  have HSt0 := hide hst
  have HOwn := hide hown
  have HRep := hide hrep
  have hlen := hrep.len
  have HLen := hide hlen
  have hls := blen_size c
  have hkl : ks.length ≤ 700000 := by omega
  rw [List.length_append] at hb1
  clear hst hown hrep hlen
  go_enter Tryz.func58, Tryz.ntmps58
  go_wp2
  go_loopg [8] ks.length (fun k v wr => ∃ (i : Nat) (cn : List Nm) (fl : Flt), v = .int .i64 i ∧ i + k = ks.length ∧ cn.length + bsize (dropT i c) ≤ cur.length + bsize c ∧ K.St D wr (outer ++ cn) (bl ++ [outer.length]) wh inn fl rc ∧ sens K.fns (dropT i c) outer cn wh inn fl = sens K.fns c outer cur wh inn f ∧ BelD D w wr)
  case atStart => exact ⟨0, cur, f, rfl, by omega, by rw [show dropT 0 c = c from by cases c <;> rfl]; exact Nat.le_refl _, HSt0.out, rfl, BelD.refl _ _⟩
  case round =>
    clear HSt0
    obtain ⟨i, cn, fl, rfl, hik, hcn, hst, hse, hbel⟩ := hrel
    have HSt := hide hst
    have HSe := hide hse
    have HBel := hide hbel
    clear hst hse hbel
    by_cases hlt : i < ks.length
    · have hr := HRep.out.beld HBel.out
      obtain ⟨x, y, l, cc, r, hd, v, ks', hv, hn, hrk⟩ := RepC.at' i c ks hr (by rw [← HLen.out]; exact hlt)
      obtain ⟨g, rfl, _, hcap, lg, hcell⟩ := own_row (HOwn.out.beld HBel.out).1 (by omega)
      have d0 := hcell i v hv
      have hE := hide (hok.at' i c x y l cc r hd)
      have hs1 := sens_xy' K.fns x y l cc r outer cn wh inn fl
      have hdn := dropT_size i c
      have hsz : bsize (dropT i c) = bsize (nd l cc) + bsize r := by rw [hd, nd_size, bsize]
      have hcl := sens_cur K.fns (nd l cc) outer cn wh inn fl
      have hds := dropT_succ i c x y l cc r hd
      have HNx : Hid (sens K.fns (dropT (i + 1) c) outer (sens K.fns (nd l cc) outer cn wh inn fl).1 wh inn (sens K.fns (nd l cc) outer cn wh inn fl).2 = sens K.fns c outer cur wh inn f) := by
        show _ = _
        rw [hds, ← HSe.out, hd, hs1]
      have HDs := hide hds
      have HC := hide (hE.out D wr outer cn bl wh inn fl rc v ks' HSt.out hn hrk (by rw [List.length_append]; omega) (by omega) (by omega))
      clear hr hd hv hn hrk hcell hs1 hds
      go_wp2_with fail
      refine HC.out.mono ?_
      rintro e w1 ⟨rfl, hs1, hb1⟩
      have HS1 := hide hs1
      have HB1 : Hid (BelD D w w1) := HBel.out.trans hb1
      clear hs1 hb1
      go_wp2
      go_roundg (gk - 1)
      case measure => omega
      case rel => exact ⟨i + 1, _, _, rfl, by omega, by rw [HDs.out]; omega, HS1.out, HNx.out, HB1.out⟩
    · have HE : Hid ((cn, fl) = sens K.fns c outer cur wh inn f) := by
        have h0 : dropT i c = .nil := by
          have : blen (dropT i c) = 0 := by rw [dropT_len, ← HLen.out]; omega
          cases hd : dropT i c with
          | nil => rfl
          | node x y l c r => rw [hd] at this; simp [blen] at this
        have := HSe.out
        rw [h0] at this
        exact this
      go_wp2
      go_end0
      rw [← HE.out]
      exact ⟨rfl, HSt.out, HBel.out⟩

set_option maxRecDepth 100000 in
set_option maxHeartbeats 1000000 in
theorem cblock_any (K : CC) (c : BT Lab) (hok : AllN (StOK K) c) (D : Nat → Prop) (w : World) (ns : List Nm) (bk : List Nat) (wh : Nat) (inn : Bool) (f : Flt) (rc : Nat) (va : Option Addr) (vn vc : Nat) (ks : List Value)
    (hst : K.St D w ns bk wh inn f rc) (hown : OwnsD D w 76 1 (.slice va vn vc) ks.length ks) (hrep : RepC D w c ks) (hb1 : ns.length + bsize c ≤ 700000) (hb2 : bk.length + bsize c ≤ 700000) (hb3 : wh + bsize c ≤ 700000) :
    Calls Tryz.prog 30 #[.pointer (some ⟨K.cb, 0, none⟩), .slice va vn vc] w fun e w' => e = .returned (.tuple #[]) ∧ K.St D w' ns bk wh inn (sens K.fns c ns [] wh inn f).2 rc ∧ BelD D w w' := by
  have HO := hide (copen_any hst.st (by omega))
  have HSt := hide hst
  have HRun := hide (fun (W : World) (hs : K.St D W (ns ++ []) (bk ++ [ns.length]) wh inn f rc) (hbd : BelD D w W) => cstatements_any K c hok D W ns [] bk wh inn f rc va vn vc ks hs (hown.beld hbd) (hrep.beld hbd) (by simpa using hb1) hb2 hb3)
  clear hst hown hrep
  go_enter Tryz.func30, Tryz.ntmps30
  go_wp2_with fail
  refine HO.out.mono ?_
  rintro e w1 ⟨rfl, hs1, hb1⟩
  have HS1 := hide (HSt.out.next hs1 hb1)
  have HB1 := hide hb1
  clear hs1 hb1
  go_wp2_with fail
  refine (HRun.out _ (by rw [List.append_nil]; exact HS1.out) HB1.out).mono ?_
  rintro e w2 ⟨rfl, hs2, hb2⟩
  have HS2 := hide hs2
  have HB2 : Hid (BelD D w w2) := HB1.out.trans hb2
  clear hs2 hb2
  go_wp2_with fail
  refine (cclose_any HS2.out.st (by simp)).mono ?_
  rintro e w3 ⟨rfl, hs3, hb3⟩
  rw [List.take_left] at hs3
  have HS3 := hide (HS2.out.next hs3 hb3)
  have HB3 : Hid (BelD D w w3) := HB2.out.trans hb3
  clear hs3 hb3
  go_wp2
  go_end0
  exact ⟨rfl, HS3.out, HB3.out⟩

set_option maxRecDepth 100000 in
set_option maxHeartbeats 1000000 in
theorem cleave_any (K : CC) (l : Lab) (c : BT Lab) (ih : AllN (ExOK K) c) (hwf : Wf 0 c) (D : Nat → Prop) (w : World) (outer cur : List Nm) (bk : List Nat) (wh : Nat) (inn : Bool) (f : Flt) (rc : Nat) (b : Nat) (a : Value) (ks : List Value)
    (hst : K.St D w (outer ++ cur) bk wh inn f rc) (hD : D b) (hblk : w.heap[b]? = some (.cells #[.int .i64 (l.line : Nat), a] 162 (0, 0))) (hks : (ks = [] ∧ a = .nilIface) ∨ ks = [a]) (hrep : RepC D w c ks) :
    Calls Tryz.prog 100 #[.pointer (some ⟨K.cb, 0, none⟩), .pointer (some ⟨b, 0, none⟩)] w fun e w' => e = .returned (.tuple #[]) ∧ K.St D w' (outer ++ cur) bk wh inn (sens K.fns c outer cur wh inn (wrongF (!inn) 4 l.line f)).2 rc ∧ BelD D w w' := by
  obtain ⟨hlo, lcb, hncb⟩ := hst.lo
  have HSt := hide hst
  have HBlk := hide hblk
  obtain ⟨na, nn, nc, ba, bn, bc, la, ln, lc, ls, hv⟩ := hst.st
  obtain ⟨c0, c1, c2, c3, c4, c5, c6, c7, fz, lb⟩ := blk8 hv.cell
  have d0 := cell_row hblk 0 _ rfl
  have d1 := cell_row hblk 1 _ rfl
  have ld := heap_lt hblk
  clear hst hblk hv c0 c1 c2 c3 c4 c6 c7 fz
  rcases hks with ⟨rfl, rfl⟩ | rfl
  · rw [hrep.nil', sens]
    clear hrep
    cases inn
    · go_enter Tryz.func100, Tryz.ntmps100
      go_wp2_with fail
      refine (cfail_any HSt.out.st 4 l.line).mono ?_
      rintro e w3 ⟨rfl, hs3, hb3⟩
      have HS3 := hide (HSt.out.next hs3 hb3)
      have HB3 := hide hb3
      have hbk3 := (hb3.block b hD).trans HBlk.out
      clear hs3 hb3 d0 d1 ld c5
      have d1 := cell_row hbk3 1 _ rfl
      have ld := heap_lt hbk3
      clear hbk3
      go_wp2
      go_end0
      exact ⟨rfl, HS3.out, HB3.out⟩
    · rw [show (!true) = false from rfl, wrongF_false]
      go_enter Tryz.func100, Tryz.ntmps100
      go_wp2
      go_end0
      exact ⟨rfl, HSt.out, BelD.refl _ _⟩
  · obtain ⟨x1, y1, l1, c1, r1, ks1, rfl, hn1, hr1, hz⟩ := hrep.cons'
    obtain rfl := hz.nil'
    rw [sens_one]
    have hif : ∃ t x, a = .iface t x := hn1.isIface (exK_ne hwf.exs.1).1 (exK_ne hwf.exs.1).2.1
    obtain ⟨t, x, rfl⟩ := hif
    have HC := hide (fun W g (hs : K.St D W (outer ++ cur) bk wh inn g rc) (hbd : BelD D w W) => ih.1 D W outer cur bk wh inn g rc (.iface t x) ks1 hs (hn1.beld hbd) (hr1.beld hbd))
    clear hrep hn1 hr1 hz ih hwf
    cases inn
    · go_enter Tryz.func100, Tryz.ntmps100
      go_wp2_with fail
      refine (cfail_any HSt.out.st 4 l.line).mono ?_
      rintro e w3 ⟨rfl, hs3, hb3⟩
      have HS3 := hide (HSt.out.next hs3 hb3)
      have HB3 := hide hb3
      have hbk3 := (hb3.block b hD).trans HBlk.out
      clear hs3 hb3 d0 d1 ld c5
      have d1 := cell_row hbk3 1 _ rfl
      have ld := heap_lt hbk3
      clear hbk3
      go_wp2_with fail
      refine (HC.out _ _ HS3.out HB3.out).mono ?_
      rintro e w4 ⟨rfl, hs4, hb4⟩
      have HS4 := hide hs4
      have HB4 : Hid (BelD D w w4) := HB3.out.trans hb4
      clear hs4 hb4
      go_wp2
      go_end0
      exact ⟨rfl, HS4.out, HB4.out⟩
    · rw [show (!true) = false from rfl, wrongF_false]
      go_enter Tryz.func100, Tryz.ntmps100
      go_wp2_with fail
      refine (HC.out _ _ HSt.out (BelD.refl _ _)).mono ?_
      rintro e w4 ⟨rfl, hs4, hb4⟩
      have HS4 := hide hs4
      have HB4 := hide hb4
      clear hs4 hb4
      go_wp2
      go_end0
      exact ⟨rfl, HS4.out, HB4.out⟩
end Go.Proofs.YtgccmgjbbcndbaaGreatDoor
/- Walks of the checker: statement, kind by kind; every forest of statements. -/
namespace Go.Proofs.YtgccmgjbbcndbaaGreatDoor
open Go.RowKit
open Go.Deep (BT)

set_option maxRecDepth 100000 in
set_option maxHeartbeats 1000000 in
theorem cst_print (K : CC) (l : Lab) (c : BT Lab) (hk : l.kd = 27) (ih : AllN (ExOK K) c) (hwf : Wf 0 c) : StOK K l c := by
  intro D w outer cur bl wh inn f rc v ks hst hn hr hz1 hz2 hz3
  obtain ⟨hlo, lcb, hncb⟩ := hst.lo
  unfold NodeC at hn
  rw [if_neg (by omega)] at hn
  obtain ⟨b, cs, rfl, hD, hb, hl⟩ := hn
  have e1 : ptrTy l.kd = 168 := by rw [hk]; rfl
  have e2 : strTy l.kd = 169 := by rw [hk]; rfl
  rw [e1]
  rw [e2] at hb
  unfold LayC at hl
  simp only [hk] at hl
  obtain ⟨a, rfl, rfl⟩ := hl
  have hnd := sens_nd K.fns l c (by omega) (by omega) (by omega) outer cur wh inn f
  rw [preF_none (by omega)] at hnd
  rw [hnd, sens_cur0 K.fns c hwf]
  obtain ⟨x1, y1, l1, c1, r1, ks1, rfl, hn1, hr1, hz⟩ := hr.cons'
  obtain rfl := hz.nil'
  rw [sens_one]
  have HC := hide (ih.1 D w outer cur _ wh inn f rc a ks1 hst hn1 hr1)
  have d0 := cell_row hb 1 a rfl
  have ld := heap_lt hb
  have ta0 := fun (v : Value) (w : World) => ta_miss (P := Tryz.prog) (t := 168) (T := 50) (xT := 76) (z := .pointer none) Tryz.underlying50 (by kernel_rfl) (by decide) v w
  have ta1 := fun (v : Value) (w : World) => ta_miss (P := Tryz.prog) (t := 168) (T := 153) (xT := 76) (z := .pointer none) Tryz.underlying153 (by kernel_rfl) (by decide) v w
  have ta2 := fun (v : Value) (w : World) => ta_miss (P := Tryz.prog) (t := 168) (T := 156) (xT := 76) (z := .pointer none) Tryz.underlying156 (by kernel_rfl) (by decide) v w
  have ta3 := fun (v : Value) (w : World) => ta_miss (P := Tryz.prog) (t := 168) (T := 141) (xT := 76) (z := .pointer none) Tryz.underlying141 (by kernel_rfl) (by decide) v w
  have ta4 := fun (v : Value) (w : World) => ta_miss (P := Tryz.prog) (t := 168) (T := 160) (xT := 76) (z := .pointer none) Tryz.underlying160 (by kernel_rfl) (by decide) v w
  have ta5 := fun (v : Value) (w : World) => ta_miss (P := Tryz.prog) (t := 168) (T := 163) (xT := 76) (z := .pointer none) Tryz.underlying163 (by kernel_rfl) (by decide) v w
  have ta6 := fun (v : Value) (w : World) => ta_miss (P := Tryz.prog) (t := 168) (T := 166) (xT := 76) (z := .pointer none) Tryz.underlying166 (by kernel_rfl) (by decide) v w
  have ta7 := fun (v : Value) (w : World) => ta_hit (P := Tryz.prog) (xT := 76) Tryz.underlying168 v w
  clear hst hb e1 e2 hk hr hn1 hr1 hz ih hwf hnd hz1 hz2 hz3
  unfold ptV
  go_enter Tryz.func82, Tryz.ntmps82
  go_wp2_with fail
  refine (HC.out).mono ?_
  rintro e w1 ⟨rfl, hs1, hb1⟩
  have HS1 := hide hs1
  have HB1 : Hid (BelD D w w1) := hb1
  clear hs1 hb1 
  go_wp2
  go_end0
  exact ⟨rfl, HS1.out, HB1.out⟩

set_option maxRecDepth 100000 in
set_option maxHeartbeats 1000000 in
theorem cst_do (K : CC) (l : Lab) (c : BT Lab) (hk : l.kd = 30) (ih : AllN (ExOK K) c) (hwf : Wf 0 c) : StOK K l c := by
  intro D w outer cur bl wh inn f rc v ks hst hn hr hz1 hz2 hz3
  obtain ⟨hlo, lcb, hncb⟩ := hst.lo
  unfold NodeC at hn
  rw [if_neg (by omega)] at hn
  obtain ⟨b, cs, rfl, hD, hb, hl⟩ := hn
  have e1 : ptrTy l.kd = 174 := by rw [hk]; rfl
  have e2 : strTy l.kd = 176 := by rw [hk]; rfl
  rw [e1]
  rw [e2] at hb
  unfold LayC at hl
  simp only [hk] at hl
  obtain ⟨a, rfl, rfl⟩ := hl
  have hnd := sens_nd K.fns l c (by omega) (by omega) (by omega) outer cur wh inn f
  rw [preF_none (by omega)] at hnd
  rw [hnd, sens_cur0 K.fns c hwf]
  obtain ⟨x1, y1, l1, c1, r1, ks1, rfl, hn1, hr1, hz⟩ := hr.cons'
  obtain rfl := hz.nil'
  rw [sens_one]
  have HC := hide (ih.1 D w outer cur _ wh inn f rc a ks1 hst hn1 hr1)
  have d0 := cell_row hb 0 a rfl
  have ld := heap_lt hb
  have ta0 := fun (v : Value) (w : World) => ta_miss (P := Tryz.prog) (t := 174) (T := 50) (xT := 76) (z := .pointer none) Tryz.underlying50 (by kernel_rfl) (by decide) v w
  have ta1 := fun (v : Value) (w : World) => ta_miss (P := Tryz.prog) (t := 174) (T := 153) (xT := 76) (z := .pointer none) Tryz.underlying153 (by kernel_rfl) (by decide) v w
  have ta2 := fun (v : Value) (w : World) => ta_miss (P := Tryz.prog) (t := 174) (T := 156) (xT := 76) (z := .pointer none) Tryz.underlying156 (by kernel_rfl) (by decide) v w
  have ta3 := fun (v : Value) (w : World) => ta_miss (P := Tryz.prog) (t := 174) (T := 141) (xT := 76) (z := .pointer none) Tryz.underlying141 (by kernel_rfl) (by decide) v w
  have ta4 := fun (v : Value) (w : World) => ta_miss (P := Tryz.prog) (t := 174) (T := 160) (xT := 76) (z := .pointer none) Tryz.underlying160 (by kernel_rfl) (by decide) v w
  have ta5 := fun (v : Value) (w : World) => ta_miss (P := Tryz.prog) (t := 174) (T := 163) (xT := 76) (z := .pointer none) Tryz.underlying163 (by kernel_rfl) (by decide) v w
  have ta6 := fun (v : Value) (w : World) => ta_miss (P := Tryz.prog) (t := 174) (T := 166) (xT := 76) (z := .pointer none) Tryz.underlying166 (by kernel_rfl) (by decide) v w
  have ta7 := fun (v : Value) (w : World) => ta_miss (P := Tryz.prog) (t := 174) (T := 168) (xT := 76) (z := .pointer none) Tryz.underlying168 (by kernel_rfl) (by decide) v w
  have ta8 := fun (v : Value) (w : World) => ta_miss (P := Tryz.prog) (t := 174) (T := 171) (xT := 76) (z := .pointer none) Tryz.underlying171 (by kernel_rfl) (by decide) v w
  have ta9 := fun (v : Value) (w : World) => ta_hit (P := Tryz.prog) (xT := 76) Tryz.underlying174 v w
  clear hst hb e1 e2 hk hr hn1 hr1 hz ih hwf hnd hz1 hz2 hz3
  unfold ptV
  go_enter Tryz.func82, Tryz.ntmps82
  go_wp2_with fail
  refine (HC.out).mono ?_
  rintro e w1 ⟨rfl, hs1, hb1⟩
  have HS1 := hide hs1
  have HB1 : Hid (BelD D w w1) := hb1
  clear hs1 hb1 
  go_wp2
  go_end0
  exact ⟨rfl, HS1.out, HB1.out⟩

set_option maxRecDepth 100000 in
set_option maxHeartbeats 1000000 in
theorem cst_break (K : CC) (l : Lab) (c : BT Lab) (hk : l.kd = 25)   : StOK K l c := by
  intro D w outer cur bl wh inn f rc v ks hst hn hr hz1 hz2 hz3
  obtain ⟨hlo, lcb, hncb⟩ := hst.lo
  unfold NodeC at hn
  rw [if_neg (by omega)] at hn
  obtain ⟨b, cs, rfl, hD, hb, hl⟩ := hn
  have e1 : ptrTy l.kd = 163 := by rw [hk]; rfl
  have e2 : strTy l.kd = 165 := by rw [hk]; rfl
  rw [e1]
  rw [e2] at hb
  unfold LayC at hl
  simp only [hk] at hl
  obtain ⟨rfl, rfl⟩ := hl
  have hnd := sens_nd K.fns l c (by omega) (by omega) (by omega) outer cur wh inn f
  have hp : preF K.fns l (blen c) outer cur wh inn f = wrongF (wh == 0) 4 l.line f := by unfold preF; rw [if_neg (by omega), if_neg (by omega), if_pos (by omega)]
  rw [hp] at hnd
  rw [hnd, hr.nil', sens]
  have HC := hide (cinloop_any hst.st l.line)
  have HSt := hide hst
  have d0 : w.cell? ⟨b, 0, none⟩ = some (.int .i64 (l.line : Nat)) := cell_row hb 0 _ rfl
  have ld := heap_lt hb
  have ta0 := fun (v : Value) (w : World) => ta_miss (P := Tryz.prog) (t := 163) (T := 50) (xT := 76) (z := .pointer none) Tryz.underlying50 (by kernel_rfl) (by decide) v w
  have ta1 := fun (v : Value) (w : World) => ta_miss (P := Tryz.prog) (t := 163) (T := 153) (xT := 76) (z := .pointer none) Tryz.underlying153 (by kernel_rfl) (by decide) v w
  have ta2 := fun (v : Value) (w : World) => ta_miss (P := Tryz.prog) (t := 163) (T := 156) (xT := 76) (z := .pointer none) Tryz.underlying156 (by kernel_rfl) (by decide) v w
  have ta3 := fun (v : Value) (w : World) => ta_miss (P := Tryz.prog) (t := 163) (T := 141) (xT := 76) (z := .pointer none) Tryz.underlying141 (by kernel_rfl) (by decide) v w
  have ta4 := fun (v : Value) (w : World) => ta_miss (P := Tryz.prog) (t := 163) (T := 160) (xT := 76) (z := .pointer none) Tryz.underlying160 (by kernel_rfl) (by decide) v w
  have ta5 := fun (v : Value) (w : World) => ta_hit (P := Tryz.prog) (xT := 76) Tryz.underlying163 v w
  clear hst hb e1 e2 hk hr hnd hz1 hz2 hz3 hp
  unfold ptV
  go_enter Tryz.func82, Tryz.ntmps82
  go_wp2_with fail
  refine HC.out.mono ?_
  rintro e w1 ⟨rfl, hs1, hb1⟩
  have HS1 := hide (HSt.out.next hs1 hb1)
  have HB1 := hide hb1
  clear hs1 hb1
  go_wp2
  go_end0
  exact ⟨rfl, HS1.out, HB1.out⟩

set_option maxRecDepth 100000 in
set_option maxHeartbeats 1000000 in
theorem cst_cont (K : CC) (l : Lab) (c : BT Lab) (hk : l.kd = 26)   : StOK K l c := by
  intro D w outer cur bl wh inn f rc v ks hst hn hr hz1 hz2 hz3
  obtain ⟨hlo, lcb, hncb⟩ := hst.lo
  unfold NodeC at hn
  rw [if_neg (by omega)] at hn
  obtain ⟨b, cs, rfl, hD, hb, hl⟩ := hn
  have e1 : ptrTy l.kd = 166 := by rw [hk]; rfl
  have e2 : strTy l.kd = 167 := by rw [hk]; rfl
  rw [e1]
  rw [e2] at hb
  unfold LayC at hl
  simp only [hk] at hl
  obtain ⟨rfl, rfl⟩ := hl
  have hnd := sens_nd K.fns l c (by omega) (by omega) (by omega) outer cur wh inn f
  have hp : preF K.fns l (blen c) outer cur wh inn f = wrongF (wh == 0) 4 l.line f := by unfold preF; rw [if_neg (by omega), if_neg (by omega), if_pos (by omega)]
  rw [hp] at hnd
  rw [hnd, hr.nil', sens]
  have HC := hide (cinloop_any hst.st l.line)
  have HSt := hide hst
  have d0 : w.cell? ⟨b, 0, none⟩ = some (.int .i64 (l.line : Nat)) := cell_row hb 0 _ rfl
  have ld := heap_lt hb
  have ta0 := fun (v : Value) (w : World) => ta_miss (P := Tryz.prog) (t := 166) (T := 50) (xT := 76) (z := .pointer none) Tryz.underlying50 (by kernel_rfl) (by decide) v w
  have ta1 := fun (v : Value) (w : World) => ta_miss (P := Tryz.prog) (t := 166) (T := 153) (xT := 76) (z := .pointer none) Tryz.underlying153 (by kernel_rfl) (by decide) v w
  have ta2 := fun (v : Value) (w : World) => ta_miss (P := Tryz.prog) (t := 166) (T := 156) (xT := 76) (z := .pointer none) Tryz.underlying156 (by kernel_rfl) (by decide) v w
  have ta3 := fun (v : Value) (w : World) => ta_miss (P := Tryz.prog) (t := 166) (T := 141) (xT := 76) (z := .pointer none) Tryz.underlying141 (by kernel_rfl) (by decide) v w
  have ta4 := fun (v : Value) (w : World) => ta_miss (P := Tryz.prog) (t := 166) (T := 160) (xT := 76) (z := .pointer none) Tryz.underlying160 (by kernel_rfl) (by decide) v w
  have ta5 := fun (v : Value) (w : World) => ta_miss (P := Tryz.prog) (t := 166) (T := 163) (xT := 76) (z := .pointer none) Tryz.underlying163 (by kernel_rfl) (by decide) v w
  have ta6 := fun (v : Value) (w : World) => ta_hit (P := Tryz.prog) (xT := 76) Tryz.underlying166 v w
  clear hst hb e1 e2 hk hr hnd hz1 hz2 hz3 hp
  unfold ptV
  go_enter Tryz.func82, Tryz.ntmps82
  go_wp2_with fail
  refine HC.out.mono ?_
  rintro e w1 ⟨rfl, hs1, hb1⟩
  have HS1 := hide (HSt.out.next hs1 hb1)
  have HB1 := hide hb1
  clear hs1 hb1
  go_wp2
  go_end0
  exact ⟨rfl, HS1.out, HB1.out⟩

set_option maxRecDepth 100000 in
set_option maxHeartbeats 1000000 in
theorem cst_ret (K : CC) (l : Lab) (c : BT Lab) (hk : l.kd = 24) (ih : AllN (ExOK K) c) (hwf : Wf 0 c) : StOK K l c := by
  intro D w outer cur bl wh inn f rc v ks hst hn hr hz1 hz2 hz3
  obtain ⟨hlo, lcb, hncb⟩ := hst.lo
  unfold NodeC at hn
  rw [if_neg (by omega)] at hn
  obtain ⟨b, cs, rfl, hD, hb, hl⟩ := hn
  have e1 : ptrTy l.kd = 160 := by rw [hk]; rfl
  have e2 : strTy l.kd = 162 := by rw [hk]; rfl
  rw [e1]
  rw [e2] at hb
  unfold LayC at hl
  simp only [hk] at hl
  obtain ⟨a, rfl, hks⟩ := hl
  have hnd := sens_nd K.fns l c (by omega) (by omega) (by omega) outer cur wh inn f
  have hp : preF K.fns l (blen c) outer cur wh inn f = wrongF (!inn) 4 l.line f := by unfold preF; rw [if_neg (by omega), if_neg (by omega), if_neg (by omega), if_pos (by omega)]
  rw [hp] at hnd
  rw [hnd, sens_cur0 K.fns c hwf]
  have HC := hide (cleave_any K l c ih hwf D w outer cur _ wh inn f rc b a ks hst hD hb hks hr)
  have ld := heap_lt hb
  have ta0 := fun (v : Value) (w : World) => ta_miss (P := Tryz.prog) (t := 160) (T := 50) (xT := 76) (z := .pointer none) Tryz.underlying50 (by kernel_rfl) (by decide) v w
  have ta1 := fun (v : Value) (w : World) => ta_miss (P := Tryz.prog) (t := 160) (T := 153) (xT := 76) (z := .pointer none) Tryz.underlying153 (by kernel_rfl) (by decide) v w
  have ta2 := fun (v : Value) (w : World) => ta_miss (P := Tryz.prog) (t := 160) (T := 156) (xT := 76) (z := .pointer none) Tryz.underlying156 (by kernel_rfl) (by decide) v w
  have ta3 := fun (v : Value) (w : World) => ta_miss (P := Tryz.prog) (t := 160) (T := 141) (xT := 76) (z := .pointer none) Tryz.underlying141 (by kernel_rfl) (by decide) v w
  have ta4 := fun (v : Value) (w : World) => ta_hit (P := Tryz.prog) (xT := 76) Tryz.underlying160 v w
  clear hst hb e1 e2 hk hr hnd hz1 hz2 hz3 hp ih hwf hks
  unfold ptV
  go_enter Tryz.func82, Tryz.ntmps82
  go_wp2_with fail
  refine (HC.out).mono ?_
  rintro e w1 ⟨rfl, hs1, hb1⟩
  have HS1 := hide hs1
  have HB1 : Hid (BelD D w w1) := hb1
  clear hs1 hb1 
  go_wp2
  go_end0
  exact ⟨rfl, HS1.out, HB1.out⟩

set_option maxRecDepth 100000 in
set_option maxHeartbeats 1000000 in
theorem cst_let (K : CC) (l : Lab) (c : BT Lab) (hk : l.kd = 21) (ih : AllN (ExOK K) c) (hwf : Wf 0 c) : StOK K l c := by
  intro D w outer cur bl wh inn f rc v ks hst hn hr hz1 hz2 hz3
  obtain ⟨hlo, lcb, hncb⟩ := hst.lo
  unfold NodeC at hn
  rw [if_neg (by omega)] at hn
  obtain ⟨b, cs, rfl, hD, hb, hl⟩ := hn
  have e1 : ptrTy l.kd = 153 := by rw [hk]; rfl
  have e2 : strTy l.kd = 155 := by rw [hk]; rfl
  rw [e1]
  rw [e2] at hb
  unfold LayC at hl
  simp only [hk] at hl
  obtain ⟨a, rfl, rfl⟩ := hl
  have hnd : sens K.fns (nd l c) outer cur wh inn f = ((sens K.fns c outer cur wh inn (wrongF (decide (l.s ∈ cur)) 3 l.line f)).1 ++ [l.s], (sens K.fns c outer cur wh inn (wrongF (decide (l.s ∈ cur)) 3 l.line f)).2) := by
    rw [nd, sens, if_neg (by omega), if_neg (by omega), if_pos hk, sens]
  rw [hnd, sens_cur0 K.fns c hwf]
  obtain ⟨x1, y1, l1, c1, r1, ks1, rfl, hn1, hr1, hz⟩ := hr.cons'
  obtain rfl := hz.nil'
  rw [sens_one]
  have HF := hide (cfresh_any hst.st l.line l.s)
  have HSt := hide hst
  have HC := hide (fun W g (hs : K.St D W (outer ++ cur) (bl ++ [outer.length]) wh inn g rc) (hbd : BelD D w W) => ih.1 D W outer cur _ wh inn g rc a ks1 hs (hn1.beld hbd) (hr1.beld hbd))
  have d0 : w.cell? ⟨b, 0, none⟩ = some (.int .i64 (l.line : Nat)) := cell_row hb 0 _ rfl
  have d1 : w.cell? ⟨b, 1, none⟩ = some (.string ⟨l.s.toArray⟩) := cell_row hb 1 _ rfl
  have d2 := cell_row hb 2 a rfl
  have ld := heap_lt hb
  have HBk := hide hb
  have hnl : (outer ++ cur).length + 1 ≤ 700000 := by have := nd_size l (.node x1 y1 l1 c1 .nil); omega
  have ta0 := fun (v : Value) (w : World) => ta_miss (P := Tryz.prog) (t := 153) (T := 50) (xT := 76) (z := .pointer none) Tryz.underlying50 (by kernel_rfl) (by decide) v w
  have ta1 := fun (v : Value) (w : World) => ta_hit (P := Tryz.prog) (xT := 76) Tryz.underlying153 v w
  clear hst hb e1 e2 hk hr hn1 hr1 hz ih hwf hnd hz1 hz2 hz3
  unfold ptV
  go_enter Tryz.func82, Tryz.ntmps82
  go_wp2_with fail
  refine HF.out.mono ?_
  rintro e w1 ⟨rfl, hs1, hb1⟩
  have HS1 := hide (HSt.out.next hs1 hb1)
  have HB1 := hide hb1
  have hbk1 := (hb1.block b hD).trans HBk.out
  clear hs1 hb1 d0 d1 d2 ld
  have d2 := cell_row hbk1 2 a rfl
  have ld := heap_lt hbk1
  clear hbk1
  go_wp2_with fail
  refine (HC.out _ _ HS1.out HB1.out).mono ?_
  rintro e w2 ⟨rfl, hs2, hb2⟩
  have HS2 := hide hs2
  have HB2 : Hid (BelD D w w2) := HB1.out.trans hb2
  clear hs2 hb2 
  have hbk2 := (HB2.out.block b hD).trans HBk.out
  clear d2 ld
  have d1 : w2.cell? ⟨b, 1, none⟩ = some (.string ⟨l.s.toArray⟩) := cell_row hbk2 1 _ rfl
  have ld := heap_lt hbk2
  obtain ⟨na, nn, nc, ba, bn, bc, la, ln, lc, ls, hv⟩ := HS2.out.st
  have lcb2 := heap_lt hv.cell
  have HV := hide (hv.keep (w' := w2.drew) (fun _ _ => rfl) (Nat.le_refl _))
  have HP := hide (spushStr HV.out.stk2 (by rw [nmC_len]; omega) ⟨l.s.toArray⟩ (by simp))
  clear hbk2 hv
  go_wp2
  go_region_law (refine step_call rfl 97 _ _ rfl #[.pointer (some ⟨K.cb, 2, none⟩), .string ⟨l.s.toArray⟩] (by kernel_rfl) HP.out ?_; rintro e w3 ⟨rfl, hp3⟩; refine ⟨_, rfl, ?_⟩)
  all_goals go_wp2
  all_goals go_end0
  all_goals obtain ⟨k1, k2⟩ := HV.out.pushName l.s (by omega) hp3
  all_goals rw [List.append_assoc] at k1
  all_goals have k3 : BelD D w2 w3 := ⟨k2.os, k2.tape, k2.output, k2.size, k2.block⟩
  all_goals exact ⟨rfl, HS2.out.next k1 k3, HB2.out.trans k3⟩

set_option maxRecDepth 100000 in
set_option maxHeartbeats 1000000 in
theorem cst_set (K : CC) (l : Lab) (c : BT Lab) (hk : l.kd = 28) (ih : AllN (ExOK K) c) (hwf : Wf 0 c) : StOK K l c := by
  intro D w outer cur bl wh inn f rc v ks hst hn hr hz1 hz2 hz3
  obtain ⟨hlo, lcb, hncb⟩ := hst.lo
  unfold NodeC at hn
  rw [if_neg (by omega)] at hn
  obtain ⟨b, cs, rfl, hD, hb, hl⟩ := hn
  have e1 : ptrTy l.kd = 171 := by rw [hk]; rfl
  have e2 : strTy l.kd = 173 := by rw [hk]; rfl
  rw [e1]
  rw [e2] at hb
  unfold LayC at hl
  simp only [hk] at hl
  obtain ⟨b2, a, rfl, hD2, hb2, rfl⟩ := hl
  have hnd := sens_nd K.fns l c (by omega) (by omega) (by omega) outer cur wh inn f
  have hp : preF K.fns l (blen c) outer cur wh inn f = (sens K.fns (nd ⟨6, l.line, l.s, 0, []⟩ .nil) outer cur wh inn f).2 := by
    rw [sens_nd K.fns _ _ (by simp) (by simp) (by simp), sens]
    unfold preF
    rw [if_pos (by omega), if_pos (by simp)]
  rw [hp] at hnd
  rw [hnd, sens_cur0 K.fns c hwf]
  obtain ⟨x1, y1, l1, c1, r1, ks1, rfl, hn1, hr1, hz⟩ := hr.cons'
  obtain rfl := hz.nil'
  rw [sens_one]
  have hv6 : NodeC D w ⟨6, l.line, l.s, 0, []⟩ (.iface 199 (ptV b2)) [] := NodeC.new (l := ⟨6, l.line, l.s, 0, []⟩) (by simp) hD2 hb2 ⟨rfl, rfl⟩
  have HC := hide (cex_var K ⟨6, l.line, l.s, 0, []⟩ .nil rfl D w outer cur _ wh inn f rc _ [] hst hv6 rfl)
  have HC2 := hide (fun W g (hs : K.St D W (outer ++ cur) (bl ++ [outer.length]) wh inn g rc) (hbd : BelD D w W) => ih.1 D W outer cur _ wh inn g rc a ks1 hs (hn1.beld hbd) (hr1.beld hbd))
  have d0 := cell_row hb 0 _ rfl
  have ld := heap_lt hb
  have HBk := hide hb
  have ta0 := fun (v : Value) (w : World) => ta_miss (P := Tryz.prog) (t := 171) (T := 50) (xT := 76) (z := .pointer none) Tryz.underlying50 (by kernel_rfl) (by decide) v w
  have ta1 := fun (v : Value) (w : World) => ta_miss (P := Tryz.prog) (t := 171) (T := 153) (xT := 76) (z := .pointer none) Tryz.underlying153 (by kernel_rfl) (by decide) v w
  have ta2 := fun (v : Value) (w : World) => ta_miss (P := Tryz.prog) (t := 171) (T := 156) (xT := 76) (z := .pointer none) Tryz.underlying156 (by kernel_rfl) (by decide) v w
  have ta3 := fun (v : Value) (w : World) => ta_miss (P := Tryz.prog) (t := 171) (T := 141) (xT := 76) (z := .pointer none) Tryz.underlying141 (by kernel_rfl) (by decide) v w
  have ta4 := fun (v : Value) (w : World) => ta_miss (P := Tryz.prog) (t := 171) (T := 160) (xT := 76) (z := .pointer none) Tryz.underlying160 (by kernel_rfl) (by decide) v w
  have ta5 := fun (v : Value) (w : World) => ta_miss (P := Tryz.prog) (t := 171) (T := 163) (xT := 76) (z := .pointer none) Tryz.underlying163 (by kernel_rfl) (by decide) v w
  have ta6 := fun (v : Value) (w : World) => ta_miss (P := Tryz.prog) (t := 171) (T := 166) (xT := 76) (z := .pointer none) Tryz.underlying166 (by kernel_rfl) (by decide) v w
  have ta7 := fun (v : Value) (w : World) => ta_miss (P := Tryz.prog) (t := 171) (T := 168) (xT := 76) (z := .pointer none) Tryz.underlying168 (by kernel_rfl) (by decide) v w
  have ta8 := fun (v : Value) (w : World) => ta_hit (P := Tryz.prog) (xT := 76) Tryz.underlying171 v w
  clear hst hb e1 e2 hk hr hn1 hr1 hz ih hwf hnd hz1 hz2 hz3 hp hv6 hb2
  unfold ptV
  go_enter Tryz.func82, Tryz.ntmps82
  go_wp2_with fail
  refine (HC.out).mono ?_
  rintro e w1 ⟨rfl, hs1, hb1⟩
  have HS1 := hide hs1
  have HB1 : Hid (BelD D w w1) := hb1
  clear hs1 hb1 d0 ld
  have hbk1 := (HB1.out.block b hD).trans HBk.out
  have d1 := cell_row hbk1 1 _ rfl
  have ld := heap_lt hbk1
  clear hbk1
  go_wp2_with fail
  refine (HC2.out _ _ HS1.out HB1.out).mono ?_
  rintro e w2 ⟨rfl, hs2, hb2⟩
  have HS2 := hide hs2
  have HB2 : Hid (BelD D w w2) := HB1.out.trans hb2
  clear hs2 hb2 
  go_wp2
  go_end0
  exact ⟨rfl, HS2.out, HB2.out⟩

set_option maxRecDepth 100000 in
set_option maxHeartbeats 1000000 in
theorem cst_put (K : CC) (l : Lab) (c : BT Lab) (hk : l.kd = 29) (ih : AllN (ExOK K) c) (hwf : Wf 0 c) : StOK K l c := by
  intro D w outer cur bl wh inn f rc v ks hst hn hr hz1 hz2 hz3
  obtain ⟨hlo, lcb, hncb⟩ := hst.lo
  unfold NodeC at hn
  rw [if_neg (by omega)] at hn
  obtain ⟨b, cs, rfl, hD, hb, hl⟩ := hn
  have e1 : ptrTy l.kd = 171 := by rw [hk]; rfl
  have e2 : strTy l.kd = 173 := by rw [hk]; rfl
  rw [e1]
  rw [e2] at hb
  unfold LayC at hl
  simp only [hk] at hl
  obtain ⟨b2, o, p, a, rfl, hD2, hb2, rfl⟩ := hl
  have hnd := sens_nd K.fns l c (by omega) (by omega) (by omega) outer cur wh inn f
  rw [preF_none (by omega)] at hnd
  rw [hnd, sens_cur0 K.fns c hwf]
  obtain ⟨x1, y1, l1, c1, r1, ks1, rfl, hn1, hr1, hz⟩ := hr.cons'
  obtain ⟨x2, y2, l2, c2, r2, ks2, rfl, hn2, hr2, hzz⟩ := hz.cons'
  obtain ⟨x3, y3, l3, c3, r3, ks3, rfl, hn3, hr3, hzzz⟩ := hzz.cons'
  obtain rfl := hzzz.nil'
  have hw12 : Wf 0 (.node x1 y1 l1 c1 (.node x2 y2 l2 c2 .nil)) := ⟨⟨trivial, hwf.1.2⟩, hwf.2⟩
  have h12 : sens K.fns (.node x1 y1 l1 c1 (.node x2 y2 l2 c2 (.node x3 y3 l3 c3 .nil))) outer cur wh inn f = sens K.fns (nd l3 c3) outer cur wh inn (sens K.fns (nd (lab0 12 l.line) (.node x1 y1 l1 c1 (.node x2 y2 l2 c2 .nil))) outer cur wh inn f).2 := by
    rw [sens_nd K.fns (lab0 12 l.line) _ (by simp [lab0]) (by simp [lab0]) (by simp [lab0]), preF_none (by simp [lab0])]
    rw [sens_xy' K.fns x1, sens_xy' K.fns x2, sens_one]
    rw [sens_xy' K.fns x1 y1 l1 c1 (.node x2 y2 l2 c2 .nil), sens_one]
    rw [sens_cur0 K.fns (nd l1 c1) hwf.one0, sens_cur0 K.fns (nd l2 c2) hwf.1.one0]
  rw [h12]
  have hv12 : NodeC D w (lab0 12 l.line) (.iface 200 (ptV b2)) [o, p] := NodeC.new (l := lab0 12 l.line) (by simp [lab0]) hD2 hb2 ⟨o, p, rfl, rfl⟩
  have HC := hide (cex_index K (lab0 12 l.line) (.node x1 y1 l1 c1 (.node x2 y2 l2 c2 .nil)) rfl ⟨ih.1, ih.2.1, trivial⟩ hw12 D w outer cur _ wh inn f rc _ [o, p] hst hv12 ⟨o, ks1, [p], rfl, hn1, hr1, ⟨p, ks2, [], rfl, hn2, hr2, rfl⟩⟩)
  have HC2 := hide (fun W g (hs : K.St D W (outer ++ cur) (bl ++ [outer.length]) wh inn g rc) (hbd : BelD D w W) => ih.2.2.1 D W outer cur _ wh inn g rc a ks3 hs (hn3.beld hbd) (hr3.beld hbd))
  have d0 := cell_row hb 0 _ rfl
  have ld := heap_lt hb
  have HBk := hide hb
  have ta0 := fun (v : Value) (w : World) => ta_miss (P := Tryz.prog) (t := 171) (T := 50) (xT := 76) (z := .pointer none) Tryz.underlying50 (by kernel_rfl) (by decide) v w
  have ta1 := fun (v : Value) (w : World) => ta_miss (P := Tryz.prog) (t := 171) (T := 153) (xT := 76) (z := .pointer none) Tryz.underlying153 (by kernel_rfl) (by decide) v w
  have ta2 := fun (v : Value) (w : World) => ta_miss (P := Tryz.prog) (t := 171) (T := 156) (xT := 76) (z := .pointer none) Tryz.underlying156 (by kernel_rfl) (by decide) v w
  have ta3 := fun (v : Value) (w : World) => ta_miss (P := Tryz.prog) (t := 171) (T := 141) (xT := 76) (z := .pointer none) Tryz.underlying141 (by kernel_rfl) (by decide) v w
  have ta4 := fun (v : Value) (w : World) => ta_miss (P := Tryz.prog) (t := 171) (T := 160) (xT := 76) (z := .pointer none) Tryz.underlying160 (by kernel_rfl) (by decide) v w
  have ta5 := fun (v : Value) (w : World) => ta_miss (P := Tryz.prog) (t := 171) (T := 163) (xT := 76) (z := .pointer none) Tryz.underlying163 (by kernel_rfl) (by decide) v w
  have ta6 := fun (v : Value) (w : World) => ta_miss (P := Tryz.prog) (t := 171) (T := 166) (xT := 76) (z := .pointer none) Tryz.underlying166 (by kernel_rfl) (by decide) v w
  have ta7 := fun (v : Value) (w : World) => ta_miss (P := Tryz.prog) (t := 171) (T := 168) (xT := 76) (z := .pointer none) Tryz.underlying168 (by kernel_rfl) (by decide) v w
  have ta8 := fun (v : Value) (w : World) => ta_hit (P := Tryz.prog) (xT := 76) Tryz.underlying171 v w
  clear hst hb e1 e2 hk hr hn1 hr1 hz ih hwf hnd hz1 hz2 hz3 hv12 hb2 h12 hw12 hn2 hr2 hzz hn3 hr3 hzzz
  unfold ptV
  go_enter Tryz.func82, Tryz.ntmps82
  go_wp2_with fail
  refine (HC.out).mono ?_
  rintro e w1 ⟨rfl, hs1, hb1⟩
  have HS1 := hide hs1
  have HB1 : Hid (BelD D w w1) := hb1
  clear hs1 hb1 d0 ld
  have hbk1 := (HB1.out.block b hD).trans HBk.out
  have d1 := cell_row hbk1 1 _ rfl
  have ld := heap_lt hbk1
  clear hbk1
  go_wp2_with fail
  refine (HC2.out _ _ HS1.out HB1.out).mono ?_
  rintro e w2 ⟨rfl, hs2, hb2⟩
  have HS2 := hide hs2
  have HB2 : Hid (BelD D w w2) := HB1.out.trans hb2
  clear hs2 hb2 
  go_wp2
  go_end0
  exact ⟨rfl, HS2.out, HB2.out⟩

end Go.Proofs.YtgccmgjbbcndbaaGreatDoor
