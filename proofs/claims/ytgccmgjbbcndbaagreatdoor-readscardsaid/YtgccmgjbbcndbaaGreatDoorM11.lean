import Derived.Test.YtgccmgjbbcndbaaGreatDoorM02
import Derived.Test.YtgccmgjbbcndbaaGreatDoorM01
import Derived.Test.YtgccmgjbbcndbaaGreatDoorM09
import Derived.Test.YtgccmgjbbcndbaaGreatDoorM10
/- Plain mathematics: what the parser takes: the tokens that are left are the end of those that were there; the last one taken of a name, an index, a group. -/
namespace Go.Proofs.YtgccmgjbbcndbaaGreatDoor
open Go.Deep (BT)

def EndOk : List Tk → Prop
  | [] => False
  | x :: r => 1 ≤ x.line ∧ (x.k = 0 ∨ EndOk r)

structure WF (s : PS) : Prop where
  good : s.bad = 0 → EndOk s.ts
  bad : s.bad ≠ 0 → s.ts = [endT]

def Reach (s s' : PS) : Prop := WF s' ∧ (s'.bad = 0 → s.bad = 0 ∧ ∃ pre, s.ts = pre ++ s'.ts)
def Took (k : Nat) (s s' : PS) : Prop := s'.bad = 0 → s.bad = 0 ∧ ∃ pre x, s.ts = pre ++ x :: s'.ts ∧ x.k = k

theorem Reach.refl {s : PS} (h : WF s) : Reach s s := ⟨h, fun hb => ⟨hb, [], rfl⟩⟩
theorem Reach.trans {s s1 s2 : PS} (h : Reach s s1) (k : Reach s1 s2) : Reach s s2 := by
  refine ⟨k.1, fun hb => ?_⟩
  obtain ⟨h1, p1, e1⟩ := k.2 hb
  obtain ⟨h2, p2, e2⟩ := h.2 h1
  exact ⟨h2, p2 ++ p1, by rw [e2, e1, List.append_assoc]⟩
theorem Reach.took {k : Nat} {s s1 s2 : PS} (h : Reach s s1) (t : Took k s1 s2) : Took k s s2 := by
  intro hb
  obtain ⟨h1, p1, x, e1, hx⟩ := t hb
  obtain ⟨h2, p2, e2⟩ := h.2 h1
  exact ⟨h2, p2 ++ p1, x, by rw [e2, e1, List.append_assoc], hx⟩

theorem EndOk.ne {l : List Tk} (h : EndOk l) : l ≠ [] := by
  intro e; subst e; exact h

theorem take_ts {s : PS} (hk : kT s ≠ 0) : s.ts = hdT s :: (takeS s).ts ∧ (takeS s).bad = s.bad := by
  unfold takeS
  rw [if_neg hk]
  refine ⟨?_, rfl⟩
  unfold kT hdT at hk
  cases hts : s.ts with
  | nil => rw [hts] at hk; exact absurd rfl hk
  | cons x r => simp [hdT, hts]

theorem take_reach {s : PS} (h : WF s) : Reach s (takeS s) := by
  by_cases hk : kT s = 0
  · have e : takeS s = s := by unfold takeS; rw [if_pos hk]
    rw [e]; exact Reach.refl h
  · obtain ⟨e1, e2⟩ := take_ts hk
    refine ⟨⟨fun hb => ?_, fun hb => ?_⟩, fun hb => ⟨by rw [← e2]; exact hb, [hdT s], e1⟩⟩
    · have h1 := h.good (by rw [← e2]; exact hb)
      rw [e1] at h1
      rcases h1.2 with h2 | h2
      · exact absurd h2 hk
      · exact h2
    · rw [e2] at hb
      exact absurd (bad_k (h.bad hb)) hk
theorem take_took {s : PS} (hk : kT s ≠ 0) : Took (kT s) s (takeS s) := by
  obtain ⟨e1, e2⟩ := take_ts hk
  exact fun hb => ⟨by rw [← e2]; exact hb, [], hdT s, e1, rfl⟩
theorem hd_line {s : PS} (h : WF s) (hb : s.bad = 0) : 1 ≤ (hdT s).line := by
  have h1 := h.good hb
  unfold hdT
  cases hts : s.ts with
  | nil => rw [hts] at h1; exact h1.elim
  | cons x r => rw [hts] at h1; exact h1.1
theorem failW_bad {s : PS} (h : WF s) : (failS s).bad ≠ 0 := by
  unfold failS
  split
  · rename_i h0; have := hd_line h h0; show (hdT s).line ≠ 0; omega
  · assumption
theorem fail_reach {s : PS} (h : WF s) : Reach s (failS s) := by
  refine ⟨⟨fun hb => absurd hb (failW_bad h), fun _ => ?_⟩, fun hb => absurd hb (failW_bad h)⟩
  unfold failS
  split
  · rfl
  · rename_i h0; exact h.bad h0
theorem want_reach {s : PS} (k : Nat) (h : WF s) : Reach s (wantS k s) := by
  unfold wantS
  split
  · exact take_reach h
  · exact fail_reach h
theorem want_took {s : PS} {k : Nat} (hk : k ≠ 0) (h : WF s) : Took k s (wantS k s) := by
  unfold wantS
  split
  · rename_i e; rw [← e]; exact take_took (by omega)
  · exact fun hb => absurd hb (failW_bad h)

theorem prms_reach : ∀ n acc s r, WF s → prms n acc s = some r → Reach s r.2 := by
  intro n
  induction n with
  | zero => intro acc s r _ hr; rw [prms] at hr; cases hr
  | succ n ih =>
    intro acc s r h hr
    rw [prms] at hr
    have h1 := want_reach 1 h
    split at hr
    · have h2 := h1.trans (take_reach h1.1)
      exact h2.trans (ih _ _ _ h2.1 hr)
    · have := (Option.some.inj hr).symm
      rw [this]
      exact h1.trans (want_reach 19 h1.1)
theorem params_reach {n : Nat} {s : PS} {r : List (Nat × List UInt8) × PS} (h : WF s) (hr : params n s = some r) : Reach s r.2 := by
  unfold params at hr
  split at hr
  · have := (Option.some.inj hr).symm
    rw [this]; exact take_reach h
  · exact prms_reach _ _ _ _ h hr

set_option maxHeartbeats 1000000 in
theorem pars_reach : ∀ n t a acc s r, WF s → pars n t a acc s = some r → Reach s r.2 := by
  intro n
  induction n with
  | zero => intro t a acc s r _ hr; rw [pars] at hr; cases hr
  | succ n ih =>
    intro t a acc s r h hr
    rw [pars] at hr
    have one : ∀ {y : BT Lab} {s1 : PS}, some (y, s1) = some r → Reach s s1 → Reach s r.2 := fun hh he => by cases hh; exact he
    have go : ∀ {t1 a1 : Nat} {acc1 : BT Lab} {s1 : PS}, Reach s s1 → pars n t1 a1 acc1 s1 = some r → Reach s r.2 := fun h1 h2 => h1.trans (ih _ _ _ _ _ h1.1 h2)
    have two : ∀ {t1 a1 : Nat} {acc1 : BT Lab} {s1 : PS} {f : BT Lab × PS → Option (BT Lab × PS)}, Reach s s1 → (pars n t1 a1 acc1 s1).bind f = some r → (∀ x, Reach s x.2 → f x = some r → Reach s r.2) → Reach s r.2 := by
      intro t1 a1 acc1 s1 f h1 h2 h3
      obtain ⟨x, k1, k2⟩ := bind_some h2
      exact h3 x (h1.trans (ih _ _ _ _ _ h1.1 k1)) k2
    have h0 := Reach.refl h
    have ht := take_reach h
    by_cases t0 : t = 0
    · rw [if_pos t0] at hr
      by_cases a6 : a = 6
      · rw [if_pos a6] at hr; exact go h0 hr
      · rw [if_neg a6] at hr; exact two h0 hr (fun x hx hf => go hx hf)
    rw [if_neg t0] at hr
    by_cases t1 : t = 1
    · rw [if_pos t1] at hr
      split at hr
      · exact two ht hr (fun x hx hf => go hx hf)
      · exact one hr h0
    rw [if_neg t1] at hr
    by_cases t2 : t = 2
    · rw [if_pos t2] at hr
      split at hr
      · exact two ht hr (fun x hx hf => one hf hx)
      split at hr
      · exact two ht hr (fun x hx hf => one hf hx)
      · exact two h0 hr (fun x hx hf => go hx hf)
    rw [if_neg t2] at hr
    by_cases t3 : t = 3
    · rw [if_pos t3] at hr
      split at hr
      · exact two ht hr (fun x hx hf => go (hx.trans (want_reach 23 hx.1)) hf)
      · exact one hr h0
    rw [if_neg t3] at hr
    by_cases t4 : t = 4
    · rw [if_pos t4] at hr
      by_cases c1 : kT s = 2
      · rw [if_pos c1] at hr; exact one hr ht
      rw [if_neg c1] at hr
      by_cases c2 : kT s = 3
      · rw [if_pos c2] at hr; exact one hr ht
      rw [if_neg c2] at hr
      by_cases c3 : kT s = 13
      · rw [if_pos c3] at hr; exact one hr ht
      rw [if_neg c3] at hr
      by_cases c4 : kT s = 14
      · rw [if_pos c4] at hr; exact one hr ht
      rw [if_neg c4] at hr
      by_cases c5 : kT s = 15
      · rw [if_pos c5] at hr; exact one hr ht
      rw [if_neg c5] at hr
      by_cases c6 : kT s = 1
      · rw [if_pos c6] at hr
        by_cases c7 : kT (takeS s) = 18
        · rw [if_pos c7] at hr; exact two (ht.trans (take_reach ht.1)) hr (fun x hx hf => one hf hx)
        · rw [if_neg c7] at hr; exact one hr ht
      rw [if_neg c6] at hr
      by_cases c7 : kT s = 18
      · rw [if_pos c7] at hr; exact two ht hr (fun x hx hf => one hf (hx.trans (want_reach 19 hx.1)))
      rw [if_neg c7] at hr
      by_cases c8 : kT s = 22
      · rw [if_pos c8] at hr; exact two ht hr (fun x hx hf => one hf hx)
      rw [if_neg c8] at hr
      by_cases c9 : kT s = 16
      · rw [if_pos c9] at hr; exact two (ht.trans (want_reach 18 ht.1)) hr (fun x hx hf => one hf (hx.trans (want_reach 19 hx.1)))
      rw [if_neg c9] at hr
      by_cases c10 : kT s = 17
      · rw [if_pos c10] at hr; exact two (ht.trans (want_reach 18 ht.1)) hr (fun x hx hf => two (hx.trans (want_reach 24 hx.1)) hf (fun y hy hg => one hg (hy.trans (want_reach 19 hy.1))))
      rw [if_neg c10] at hr
      exact one hr (fail_reach h)
    rw [if_neg t4] at hr
    by_cases t5 : t = 5
    · rw [if_pos t5] at hr
      split at hr
      · exact one hr ht
      · exact two h0 hr (fun x hx hf => go hx hf)
    rw [if_neg t5] at hr
    by_cases t6 : t = 6
    · rw [if_pos t6] at hr
      split at hr
      · exact two ht hr (fun x hx hf => go hx hf)
      · exact one hr (want_reach a h)
    rw [if_neg t6] at hr
    by_cases t7 : t = 7
    · rw [if_pos t7] at hr; exact go (want_reach 20 h) hr
    rw [if_neg t7] at hr
    by_cases t8 : t = 8
    · rw [if_pos t8] at hr
      split at hr
      · exact one hr ht
      split at hr
      · exact one hr h0
      · exact two h0 hr (fun x hx hf => go hx hf)
    rw [if_neg t8] at hr
    by_cases t9 : t = 9
    · rw [if_pos t9] at hr
      have hse : ∀ {y : BT Lab} {s1 : PS}, some (y, wantS 25 s1) = some r → Reach s s1 → Reach s r.2 := fun hh he => one hh (he.trans (want_reach 25 he.1))
      by_cases c1 : kT s = 5
      · rw [if_pos c1] at hr
        have h1 := ht.trans (want_reach 1 ht.1)
        exact two (h1.trans (want_reach 26 h1.1)) hr (fun x hx hf => hse hf hx)
      rw [if_neg c1] at hr
      by_cases c2 : kT s = 6
      · rw [if_pos c2] at hr
        refine two ht hr (fun x hx hf => two hx hf (fun y hy hg => ?_))
        by_cases c3 : kT y.2 = 7
        · rw [if_pos c3] at hg; exact two (hy.trans (take_reach hy.1)) hg (fun z hz hh => one hh hz)
        · rw [if_neg c3] at hg; exact one hg hy
      rw [if_neg c2] at hr
      by_cases c3 : kT s = 8
      · rw [if_pos c3] at hr; exact two ht hr (fun x hx hf => two hx hf (fun y hy hg => one hg hy))
      rw [if_neg c3] at hr
      by_cases c4 : kT s = 9
      · rw [if_pos c4] at hr
        by_cases c5 : kT (takeS s) = 25
        · rw [if_pos c5] at hr; exact hse hr ht
        · rw [if_neg c5] at hr; exact two ht hr (fun x hx hf => hse hf hx)
      rw [if_neg c4] at hr
      by_cases c5 : kT s = 10
      · rw [if_pos c5] at hr; exact hse hr ht
      rw [if_neg c5] at hr
      by_cases c6 : kT s = 11
      · rw [if_pos c6] at hr; exact hse hr ht
      rw [if_neg c6] at hr
      by_cases c7 : kT s = 12
      · rw [if_pos c7] at hr; exact two ht hr (fun x hx hf => hse hf hx)
      rw [if_neg c7] at hr
      refine two h0 hr (fun x hx hf => ?_)
      by_cases c8 : canSet x.1 = true ∧ kT x.2 = 26
      · rw [if_pos c8] at hf; exact two (hx.trans (take_reach hx.1)) hf (fun y hy hg => hse hg hy)
      rw [if_neg c8] at hf
      by_cases c9 : kT x.2 = 26
      · rw [if_pos c9] at hf; exact two (hx.trans (fail_reach hx.1)) hf (fun y hy hg => hse hg hy)
      · rw [if_neg c9] at hf; exact hse hf hx
    rw [if_neg t9] at hr
    by_cases t10 : t = 10
    · rw [if_pos t10] at hr
      split at hr
      · exact one hr h0
      split at hr
      · exact two h0 hr (fun x hx hf => go hx hf)
      · exact two h0 hr (fun x hx hf => go hx hf)
    rw [if_neg t10] at hr
    obtain ⟨p, h1, h2⟩ := bind_some hr
    have hw1 := ht.trans (want_reach 1 ht.1)
    have hw2 := hw1.trans (want_reach 18 hw1.1)
    have hw3 := hw2.trans (params_reach hw2.1 h1)
    exact two hw3 h2 (fun x hx hf => one hf hx)

/- the last token that was taken -/
def LastK (s : PS) (r : BT Lab × PS) : Prop := ((rootLab r.1).kd = 6 → Took 1 s r.2) ∧ ((rootLab r.1).kd = 12 → Took 23 s r.2) ∧ ((rootLab r.1).kd = 8 → Took 19 s r.2)
theorem LastK.reach {s s1 : PS} {r : BT Lab × PS} (h : LastK s1 r) (hr : Reach s s1) : LastK s r := ⟨fun e => hr.took (h.1 e), fun e => hr.took (h.2.1 e), fun e => hr.took (h.2.2 e)⟩
theorem LastK.no {s : PS} {r : BT Lab × PS} {k : Nat} (hk : (rootLab r.1).kd = k) (h6 : k ≠ 6) (h12 : k ≠ 12) (h8 : k ≠ 8) : LastK s r := ⟨fun e => absurd (hk.symm.trans e) h6, fun e => absurd (hk.symm.trans e) h12, fun e => absurd (hk.symm.trans e) h8⟩

theorem pars_loop_last : ∀ n a acc s r, pars n 1 a acc s = some r → r = (acc, s) ∨ 100 ≤ (rootLab r.1).kd := by
  intro n
  induction n with
  | zero => intro a acc s r hr; exact absurd hr (pars_zero _ _ _ _ _)
  | succ n ih =>
    intro a acc s r hr
    by_cases hk : rowOf (kT s) = a + 1
    · obtain ⟨y, h1, h2⟩ := pars_loop1 hk hr
      rcases ih _ _ _ _ h2 with e | e
      · right; rw [e]; show 100 ≤ 100 + kT s; omega
      · exact .inr e
    · exact .inl (pars_loop0 hk hr)
theorem pars_index_last : ∀ n acc s r, WF s → pars n 3 0 acc s = some r → r = (acc, s) ∨ ((rootLab r.1).kd = 12 ∧ Took 23 s r.2) := by
  intro n
  induction n with
  | zero => intro acc s r _ hr; exact absurd hr (pars_zero _ _ _ _ _)
  | succ n ih =>
    intro acc s r h hr
    by_cases hk : kT s = 22
    · obtain ⟨y, h1, h2⟩ := pars_index hk hr
      have ht := take_reach h
      have hy := ht.trans (pars_reach _ _ _ _ _ _ ht.1 h1)
      have hw := hy.trans (want_reach 23 hy.1)
      right
      rcases ih _ _ _ hw.1 h2 with e | e
      · rw [e]; exact ⟨rfl, hy.took (want_took (by decide) hy.1)⟩
      · exact ⟨e.1, hw.took e.2⟩
    · exact .inl (pars_index0 hk hr)
theorem pars_atom_last {n : Nat} {s : PS} {r : BT Lab × PS} (h : WF s) (hr : pars (n + 1) 4 0 .nil s = some r) : LastK s r := by
  have ht := take_reach h
  by_cases k1 : kT s = 1
  · by_cases k2 : kT (takeS s) = 18
    · obtain ⟨l, _, e⟩ := pars_call k1 k2 hr
      rw [e]; exact LastK.no (k := 7) rfl (by decide) (by decide) (by decide)
    · rw [pars_name k1 k2 hr]
      refine ⟨fun _ => ?_, fun e => absurd (show (6 : Nat) = 12 from e) (by decide), fun e => absurd (show (6 : Nat) = 8 from e) (by decide)⟩
      have := take_took (s := s) (by omega)
      rw [k1] at this; exact this
  by_cases k2 : kT s = 18
  · obtain ⟨x, h1, e⟩ := pars_group k2 hr
    have hx := ht.trans (pars_reach _ _ _ _ _ _ ht.1 h1)
    rw [e]
    exact ⟨fun e => absurd (show (8 : Nat) = 6 from e) (by decide), fun e => absurd (show (8 : Nat) = 12 from e) (by decide), fun _ => hx.took (want_took (by decide) hx.1)⟩
  by_cases k3 : kT s = 2
  · rw [pars_int k3 hr]; exact LastK.no (k := 1) rfl (by decide) (by decide) (by decide)
  by_cases k4 : kT s = 3
  · rw [pars_text k4 hr]; exact LastK.no (k := 2) rfl (by decide) (by decide) (by decide)
  by_cases k5 : kT s = 13
  · rw [pars_true k5 hr]; exact LastK.no (k := 3) rfl (by decide) (by decide) (by decide)
  by_cases k6 : kT s = 14
  · rw [pars_false k6 hr]; exact LastK.no (k := 4) rfl (by decide) (by decide) (by decide)
  by_cases k7 : kT s = 15
  · rw [pars_null k7 hr]; exact LastK.no (k := 5) rfl (by decide) (by decide) (by decide)
  by_cases k8 : kT s = 22
  · obtain ⟨l, _, e⟩ := pars_array k8 hr
    rw [e]; exact LastK.no (k := 9) rfl (by decide) (by decide) (by decide)
  by_cases k9 : kT s = 16
  · obtain ⟨l, _, e⟩ := pars_len k9 hr
    rw [e]; exact LastK.no (k := 10) rfl (by decide) (by decide) (by decide)
  by_cases k10 : kT s = 17
  · obtain ⟨l, m, _, _, e⟩ := pars_push k10 hr
    rw [e]; exact LastK.no (k := 11) rfl (by decide) (by decide) (by decide)
  rw [pars_none k3 k4 k5 k6 k7 k1 k2 k8 k9 k10 hr]
  exact LastK.no (k := 0) rfl (by decide) (by decide) (by decide)
theorem pars_unary_last {n : Nat} {s : PS} {r : BT Lab × PS} (h : WF s) (hr : pars n 2 0 .nil s = some r) : LastK s r := by
  cases n with
  | zero => exact absurd hr (pars_zero _ _ _ _ _)
  | succ n =>
    by_cases k1 : kT s = 28
    · obtain ⟨x, _, e⟩ := pars_not k1 hr
      rw [e]; exact LastK.no (k := 13) rfl (by decide) (by decide) (by decide)
    by_cases k2 : kT s = 35
    · obtain ⟨x, _, e⟩ := pars_neg k2 hr
      rw [e]; exact LastK.no (k := 14) rfl (by decide) (by decide) (by decide)
    obtain ⟨x, h1, h2⟩ := pars_part k1 k2 hr
    have hx := pars_reach _ _ _ _ _ _ h h1
    cases n with
    | zero => exact absurd h1 (pars_zero _ _ _ _ _)
    | succ n =>
      rcases pars_index_last _ _ _ _ hx.1 h2 with e | e
      · rw [e]; exact pars_atom_last h h1
      · exact ⟨fun e' => absurd (e.1.symm.trans e') (by decide), fun _ => hx.took e.2, fun e' => absurd (e.1.symm.trans e') (by decide)⟩
theorem pars_expr_last : ∀ n a s r, WF s → a ≤ 6 → pars n 0 a .nil s = some r → LastK s r := by
  intro n
  induction n with
  | zero => intro a s r _ _ hr; exact absurd hr (pars_zero _ _ _ _ _)
  | succ n ih =>
    intro a s r h ha hr
    by_cases a6 : a = 6
    · subst a6; exact pars_unary_last h (pars_expr6 hr)
    · obtain ⟨x, h1, h2⟩ := pars_expr a6 hr
      rcases pars_loop_last _ _ _ _ _ h2 with e | e
      · rw [e]; exact ih _ _ _ h (by omega) h1
      · exact LastK.no rfl (by omega) (by omega) (by omega)
end Go.Proofs.YtgccmgjbbcndbaaGreatDoor
/- Plain mathematics: the parser has an answer wherever its fuel is enough for the tokens that are left. -/
namespace Go.Proofs.YtgccmgjbbcndbaaGreatDoor
open Go.Deep (BT)

def Less (s s' : PS) : Prop := s'.bad = 0 → s.bad = 0 ∧ s'.ts.length < s.ts.length
theorem Took.less {k : Nat} {s s' : PS} (h : Took k s s') : Less s s' := by
  intro hb
  obtain ⟨h1, p, x, e, _⟩ := h hb
  exact ⟨h1, by rw [e]; simp; omega⟩
theorem Less.reach {s s1 s2 : PS} (h : Less s s1) (k : Reach s1 s2) : Less s s2 := by
  intro hb
  obtain ⟨h1, p, e⟩ := k.2 hb
  obtain ⟨h2, l⟩ := h h1
  refine ⟨h2, ?_⟩
  rw [e] at l; simp at l; omega
theorem Reach.less {s s1 s2 : PS} (h : Reach s s1) (k : Less s1 s2) : Less s s2 := by
  intro hb
  obtain ⟨h1, l⟩ := k hb
  obtain ⟨h2, p, e⟩ := h.2 h1
  refine ⟨h2, ?_⟩
  rw [e]; simp; omega

def msr (s : PS) : Nat := if s.bad = 0 then s.ts.length else 0
theorem msr_reach {s s' : PS} (h : Reach s s') : msr s' ≤ msr s := by
  unfold msr
  split
  · rename_i hb
    obtain ⟨h1, p, e⟩ := h.2 hb
    rw [if_pos h1, e]; simp
  · exact Nat.zero_le _
theorem msr_pos {s : PS} (h : WF s) (hb : s.bad = 0) : 1 ≤ msr s := by
  unfold msr
  rw [if_pos hb]
  have := (h.good hb).ne
  cases hts : s.ts with
  | nil => exact absurd hts this
  | cons x r => simp
theorem msr_less {s s' : PS} (h : WF s) (hb : s.bad = 0) (hl : Less s s') : msr s' < msr s := by
  have := msr_pos h hb
  by_cases hb' : s'.bad = 0
  · unfold msr; rw [if_pos hb', if_pos hb]; exact (hl hb').2
  · unfold msr; rw [if_neg hb']; exact this
theorem kT_good {s : PS} (h : WF s) (hk : kT s ≠ 0) : s.bad = 0 := by
  rcases Nat.eq_zero_or_pos s.bad with e | e
  · exact e
  · exact absurd (bad_k (h.bad (by omega))) hk
theorem msr_take {s : PS} (h : WF s) (hk : kT s ≠ 0) : msr (takeS s) < msr s := msr_less h (kT_good h hk) (take_took hk).less

theorem block_less {n : Nat} {s : PS} {r : BT Lab × PS} (h : WF s) (hr : pars n 7 0 .nil s = some r) : Less s r.2 := by
  cases n with
  | zero => exact absurd hr (pars_zero _ _ _ _ _)
  | succ n =>
    have hw := want_reach 20 h
    exact (want_took (by decide) h).less.reach (pars_reach _ _ _ _ _ _ hw.1 (pars_block hr))
theorem end_less {s s1 : PS} (h : Reach s s1) : Less s (wantS 25 s1) := h.less (want_took (by decide) h.1).less

theorem stmt_less {n : Nat} {s : PS} {r : BT Lab × PS} (h : WF s) (hr : pars n 9 0 .nil s = some r) : Less s r.2 := by
  cases n with
  | zero => exact absurd hr (pars_zero _ _ _ _ _)
  | succ n =>
    have h0 := Reach.refl h
    have ht := take_reach h
    by_cases c1 : kT s = 5
    · obtain ⟨x, h1, e⟩ := pars_slet c1 hr
      have hw1 := ht.trans (want_reach 1 ht.1)
      have hw2 := hw1.trans (want_reach 26 hw1.1)
      rw [e]; exact end_less (hw2.trans (pars_reach _ _ _ _ _ _ hw2.1 h1))
    by_cases c2 : kT s = 6
    · obtain ⟨x, bl, h1, h2, h3⟩ := pars_sif c2 hr
      have hx := ht.trans (pars_reach _ _ _ _ _ _ ht.1 h1)
      have hb := hx.less (block_less hx.1 h2)
      rcases h3 with ⟨_, c, h4, e⟩ | ⟨_, e⟩
      · have hbr := hx.trans (pars_reach _ _ _ _ _ _ hx.1 h2)
        have hbt := take_reach hbr.1
        have hc := pars_reach _ _ _ _ _ _ hbt.1 h4
        rw [e]; exact hb.reach (hbt.trans hc)
      · rw [e]; exact hb
    by_cases c3 : kT s = 8
    · obtain ⟨x, bl, h1, h2, e⟩ := pars_swhile c3 hr
      have hx := ht.trans (pars_reach _ _ _ _ _ _ ht.1 h1)
      have hb := block_less hx.1 h2
      rw [e]; exact hx.less hb
    by_cases c4 : kT s = 9
    · by_cases c5 : kT (takeS s) = 25
      · rw [pars_sret0 c4 c5 hr]; exact end_less ht
      · obtain ⟨x, h1, e⟩ := pars_sret c4 c5 hr
        rw [e]; exact end_less (ht.trans (pars_reach _ _ _ _ _ _ ht.1 h1))
    by_cases c5 : kT s = 10
    · rw [pars_sbreak c5 hr]; exact end_less ht
    by_cases c6 : kT s = 11
    · rw [pars_scont c6 hr]; exact end_less ht
    by_cases c7 : kT s = 12
    · obtain ⟨x, h1, e⟩ := pars_sprint c7 hr
      rw [e]; exact end_less (ht.trans (pars_reach _ _ _ _ _ _ ht.1 h1))
    obtain ⟨x, h1, h2⟩ := pars_simple (by omega) hr
    have hx := h0.trans (pars_reach _ _ _ _ _ _ h h1)
    rcases h2 with ⟨_, _, v, h3, e⟩ | ⟨_, _, v, h3, e⟩ | ⟨_, e⟩
    · have hv := hx.trans (take_reach hx.1)
      rw [e]; exact end_less (hv.trans (pars_reach _ _ _ _ _ _ hv.1 h3))
    · have hv := hx.trans (fail_reach hx.1)
      rw [e]; exact end_less (hv.trans (pars_reach _ _ _ _ _ _ hv.1 h3))
    · rw [e]; exact end_less hx

theorem pars_fn {n : Nat} {s : PS} {r : BT Lab × PS} (h : pars (n + 1) 11 0 .nil s = some r) : ∃ p b, params n (wantS 18 (wantS 1 (takeS s))) = some p ∧ pars n 7 0 .nil p.2 = some b ∧ r = (nd ⟨20, (hdT (takeS s)).line, (hdT (takeS s)).s, 0, p.1⟩ b.1, b.2) := by
  rw [pars, if_neg (by decide), if_neg (by decide), if_neg (by decide), if_neg (by decide), if_neg (by decide), if_neg (by decide), if_neg (by decide), if_neg (by decide), if_neg (by decide), if_neg (by decide), if_neg (by decide)] at h
  obtain ⟨p, h1, h2⟩ := bind_some h
  obtain ⟨b, h3, h4⟩ := bind_some h2
  exact ⟨p, b, h1, h3, (Option.some.inj h4).symm⟩
theorem fn_less {n : Nat} {s : PS} {r : BT Lab × PS} (h : WF s) (hr : pars n 11 0 .nil s = some r) : Less s r.2 := by
  cases n with
  | zero => exact absurd hr (pars_zero _ _ _ _ _)
  | succ n =>
    obtain ⟨p, b, h1, h2, e⟩ := pars_fn hr
    have ht := take_reach h
    have hw1 := ht.trans (want_reach 1 ht.1)
    have hw2 := hw1.trans (want_reach 18 hw1.1)
    have hw3 := hw2.trans (params_reach hw2.1 h1)
    have hb := block_less hw3.1 h2
    rw [e]; exact hw3.less hb

theorem prms_total : ∀ n acc s, WF s → msr s < n → ∃ r, prms n acc s = some r := by
  intro n
  induction n with
  | zero => intro acc s _ hm; omega
  | succ n ih =>
    intro acc s h hm
    rw [prms]
    have h1 := want_reach 1 h
    split
    · rename_i hk
      exact ih _ _ (take_reach h1.1).1 (by have := msr_take h1.1 (by omega); have := msr_reach h1; omega)
    · exact ⟨_, rfl⟩
theorem params_total {n : Nat} {s : PS} (h : WF s) (hm : msr s < n) : ∃ r, params n s = some r := by
  unfold params
  split
  · exact ⟨_, rfl⟩
  · exact prms_total _ _ _ h hm

def cost (t a : Nat) : Nat := if t = 0 then 9 - a else if t = 1 then 1 else if t = 2 then 2 else if t = 3 then 1 else if t = 4 then 1 else if t = 5 then 10 else if t = 6 then 1 else if t = 7 then 12 else if t = 8 then 11 else if t = 9 then 10 else if t = 10 then 14 else 13

theorem bind_total {α β : Type} {o : Option α} {f : α → Option β} (h : ∃ x, o = some x) (k : ∀ x, o = some x → ∃ y, f x = some y) : ∃ y, o.bind f = some y := by
  obtain ⟨x, e⟩ := h
  obtain ⟨y, e2⟩ := k x e
  exact ⟨y, by rw [e]; exact e2⟩

set_option maxHeartbeats 1000000 in
theorem pars_total : ∀ n t a acc s, WF s → (t = 0 → a ≤ 6) → (t = 11 → kT s ≠ 0) → 20 * msr s + cost t a ≤ n → ∃ r, pars n t a acc s = some r := by
  intro n
  induction n with
  | zero =>
    intro t a acc s _ ha _ hm
    exfalso
    have : 1 ≤ cost t a := by
      unfold cost
      split
      · rename_i e; have := ha e; omega
      · repeat' split
        all_goals omega
    omega
  | succ n ih =>
    intro t a acc s h ha hfn hm
    rw [pars]
    have h0 := Reach.refl h
    have ht := take_reach h
    have go : ∀ {t1 a1 : Nat} {acc1 : BT Lab} {s1 : PS}, Reach s s1 → (t1 = 0 → a1 ≤ 6) → t1 ≠ 11 → 20 * msr s1 + cost t1 a1 ≤ n → ∃ r, pars n t1 a1 acc1 s1 = some r := fun h1 h2 h3 h4 => ih _ _ _ _ h1.1 h2 (fun e => absurd e h3) h4
    have rch : ∀ {t1 a1 : Nat} {acc1 : BT Lab} {s1 : PS} {x : BT Lab × PS}, Reach s s1 → pars n t1 a1 acc1 s1 = some x → Reach s x.2 ∧ msr x.2 ≤ msr s1 := fun h1 h2 => ⟨h1.trans (pars_reach _ _ _ _ _ _ h1.1 h2), msr_reach (pars_reach _ _ _ _ _ _ h1.1 h2)⟩
    have c00 : cost 0 0 = 9 := rfl
    have c1 : ∀ a, cost 1 a = 1 := fun _ => rfl
    have c2 : ∀ a, cost 2 a = 2 := fun _ => rfl
    have c3 : ∀ a, cost 3 a = 1 := fun _ => rfl
    have c4 : ∀ a, cost 4 a = 1 := fun _ => rfl
    have c5 : ∀ a, cost 5 a = 10 := fun _ => rfl
    have c6 : ∀ a, cost 6 a = 1 := fun _ => rfl
    have c7 : ∀ a, cost 7 a = 12 := fun _ => rfl
    have c8 : ∀ a, cost 8 a = 11 := fun _ => rfl
    have c9 : ∀ a, cost 9 a = 10 := fun _ => rfl
    have c10 : ∀ a, cost 10 a = 14 := fun _ => rfl
    have c11 : ∀ a, cost 11 a = 13 := fun _ => rfl
    have mt : kT s ≠ 0 → msr (takeS s) < msr s := msr_take h
    by_cases t0 : t = 0
    · rw [if_pos t0]
      subst t0
      have ha' := ha rfl
      have hc : cost 0 a = 9 - a := rfl
      by_cases a6 : a = 6
      · rw [if_pos a6]; exact go h0 (fun e => absurd e (by decide)) (by decide) (by rw [c2]; omega)
      · rw [if_neg a6]
        have hc1 : cost 0 (a + 1) = 9 - (a + 1) := rfl
        refine bind_total (go h0 (fun _ => by omega) (by decide) (by omega)) (fun x hx => ?_)
        obtain ⟨k1, k2⟩ := rch h0 hx
        exact go k1 (fun e => absurd e (by decide)) (by decide) (by rw [c1]; omega)
    rw [if_neg t0]
    by_cases t1 : t = 1
    · rw [if_pos t1]
      subst t1
      rw [c1] at hm
      by_cases hk : rowOf (kT s) = a + 1
      · rw [if_pos hk]
        have hk0 : kT s ≠ 0 := by intro e; rw [e] at hk; exact absurd hk (by simp [rowOf])
        have := mt hk0
        have ha5 : a + 1 ≤ 6 := by
          rw [← hk]; unfold rowOf; repeat' split
          all_goals omega
        have hc1 : cost 0 (a + 1) = 9 - (a + 1) := rfl
        refine bind_total (go ht (fun _ => ha5) (by decide) (by omega)) (fun x hx => ?_)
        obtain ⟨k1, k2⟩ := rch ht hx
        exact go k1 (fun e => absurd e (by decide)) (by decide) (by rw [c1]; omega)
      · rw [if_neg hk]; exact ⟨_, rfl⟩
    rw [if_neg t1]
    by_cases t2 : t = 2
    · rw [if_pos t2]
      subst t2
      rw [c2] at hm
      by_cases d1 : kT s = 28
      · rw [if_pos d1]
        have := mt (by omega)
        exact bind_total (go ht (fun e => absurd e (by decide)) (by decide) (by rw [c2]; omega)) (fun x hx => ⟨_, rfl⟩)
      rw [if_neg d1]
      by_cases d2 : kT s = 35
      · rw [if_pos d2]
        have := mt (by omega)
        exact bind_total (go ht (fun e => absurd e (by decide)) (by decide) (by rw [c2]; omega)) (fun x hx => ⟨_, rfl⟩)
      rw [if_neg d2]
      refine bind_total (go h0 (fun e => absurd e (by decide)) (by decide) (by rw [c4]; omega)) (fun x hx => ?_)
      obtain ⟨k1, k2⟩ := rch h0 hx
      exact go k1 (fun e => absurd e (by decide)) (by decide) (by rw [c3]; omega)
    rw [if_neg t2]
    by_cases t3 : t = 3
    · rw [if_pos t3]
      subst t3
      rw [c3] at hm
      by_cases d1 : kT s = 22
      · rw [if_pos d1]
        have := mt (by omega)
        refine bind_total (go ht (fun _ => by omega) (by decide) (by omega)) (fun x hx => ?_)
        obtain ⟨k1, k2⟩ := rch ht hx
        have k3 := want_reach 23 k1.1
        have := msr_reach k3
        exact go (k1.trans k3) (fun e => absurd e (by decide)) (by decide) (by rw [c3]; omega)
      · rw [if_neg d1]; exact ⟨_, rfl⟩
    rw [if_neg t3]
    by_cases t4 : t = 4
    · rw [if_pos t4]
      subst t4
      rw [c4] at hm
      by_cases d1 : kT s = 2
      · rw [if_pos d1]; exact ⟨_, rfl⟩
      rw [if_neg d1]
      by_cases d2 : kT s = 3
      · rw [if_pos d2]; exact ⟨_, rfl⟩
      rw [if_neg d2]
      by_cases d3 : kT s = 13
      · rw [if_pos d3]; exact ⟨_, rfl⟩
      rw [if_neg d3]
      by_cases d4 : kT s = 14
      · rw [if_pos d4]; exact ⟨_, rfl⟩
      rw [if_neg d4]
      by_cases d5 : kT s = 15
      · rw [if_pos d5]; exact ⟨_, rfl⟩
      rw [if_neg d5]
      by_cases d6 : kT s = 1
      · rw [if_pos d6]
        have := mt (by omega)
        by_cases d7 : kT (takeS s) = 18
        · rw [if_pos d7]
          have k3 := take_reach ht.1
          have := msr_reach k3
          exact bind_total (go (ht.trans k3) (fun e => absurd e (by decide)) (by decide) (by rw [c5]; omega)) (fun x hx => ⟨_, rfl⟩)
        · rw [if_neg d7]; exact ⟨_, rfl⟩
      rw [if_neg d6]
      by_cases d7 : kT s = 18
      · rw [if_pos d7]
        have := mt (by omega)
        exact bind_total (go ht (fun _ => by omega) (by decide) (by omega)) (fun x hx => ⟨_, rfl⟩)
      rw [if_neg d7]
      by_cases d8 : kT s = 22
      · rw [if_pos d8]
        have := mt (by omega)
        exact bind_total (go ht (fun e => absurd e (by decide)) (by decide) (by rw [c5]; omega)) (fun x hx => ⟨_, rfl⟩)
      rw [if_neg d8]
      have k3 := want_reach 18 ht.1
      have k4 := msr_reach k3
      by_cases d9 : kT s = 16
      · rw [if_pos d9]
        have := mt (by omega)
        exact bind_total (go (ht.trans k3) (fun _ => by omega) (by decide) (by omega)) (fun x hx => ⟨_, rfl⟩)
      rw [if_neg d9]
      by_cases d10 : kT s = 17
      · rw [if_pos d10]
        have := mt (by omega)
        refine bind_total (go (ht.trans k3) (fun _ => by omega) (by decide) (by omega)) (fun x hx => ?_)
        obtain ⟨j1, j2⟩ := rch (ht.trans k3) hx
        have j3 := want_reach 24 j1.1
        have := msr_reach j3
        exact bind_total (go (j1.trans j3) (fun _ => by omega) (by decide) (by omega)) (fun y hy => ⟨_, rfl⟩)
      rw [if_neg d10]; exact ⟨_, rfl⟩
    rw [if_neg t4]
    by_cases t5 : t = 5
    · rw [if_pos t5]
      subst t5
      rw [c5] at hm
      by_cases d1 : kT s = a
      · rw [if_pos d1]; exact ⟨_, rfl⟩
      · rw [if_neg d1]
        refine bind_total (go h0 (fun _ => by omega) (by decide) (by omega)) (fun x hx => ?_)
        obtain ⟨k1, k2⟩ := rch h0 hx
        exact go k1 (fun e => absurd e (by decide)) (by decide) (by rw [c6]; omega)
    rw [if_neg t5]
    by_cases t6 : t = 6
    · rw [if_pos t6]
      subst t6
      rw [c6] at hm
      by_cases d1 : kT s = 24
      · rw [if_pos d1]
        have := mt (by omega)
        refine bind_total (go ht (fun _ => by omega) (by decide) (by omega)) (fun x hx => ?_)
        obtain ⟨k1, k2⟩ := rch ht hx
        exact go k1 (fun e => absurd e (by decide)) (by decide) (by rw [c6]; omega)
      · rw [if_neg d1]; exact ⟨_, rfl⟩
    rw [if_neg t6]
    by_cases t7 : t = 7
    · rw [if_pos t7]
      subst t7
      rw [c7] at hm
      have k3 := want_reach 20 h
      have := msr_reach k3
      exact go k3 (fun e => absurd e (by decide)) (by decide) (by rw [c8]; omega)
    rw [if_neg t7]
    by_cases t8 : t = 8
    · rw [if_pos t8]
      subst t8
      rw [c8] at hm
      by_cases d1 : kT s = 21
      · rw [if_pos d1]; exact ⟨_, rfl⟩
      rw [if_neg d1]
      by_cases d2 : s.bad ≠ 0
      · rw [if_pos d2]; exact ⟨_, rfl⟩
      rw [if_neg d2]
      refine bind_total (go h0 (fun e => absurd e (by decide)) (by decide) (by rw [c9]; omega)) (fun x hx => ?_)
      obtain ⟨k1, k2⟩ := rch h0 hx
      have := msr_less h (by omega) (stmt_less h hx)
      exact go k1 (fun e => absurd e (by decide)) (by decide) (by rw [c8]; omega)
    rw [if_neg t8]
    by_cases t9 : t = 9
    · rw [if_pos t9]
      subst t9
      rw [c9] at hm
      by_cases d1 : kT s = 5
      · rw [if_pos d1]
        have := mt (by omega)
        have k1 := want_reach 1 ht.1
        have k2 := want_reach 26 k1.1
        have := msr_reach k1
        have := msr_reach k2
        exact bind_total (go ((ht.trans k1).trans k2) (fun _ => by omega) (by decide) (by omega)) (fun x hx => ⟨_, rfl⟩)
      rw [if_neg d1]
      by_cases d2 : kT s = 6
      · rw [if_pos d2]
        have := mt (by omega)
        refine bind_total (go ht (fun _ => by omega) (by decide) (by omega)) (fun x hx => ?_)
        obtain ⟨k1, k2⟩ := rch ht hx
        refine bind_total (go k1 (fun e => absurd e (by decide)) (by decide) (by rw [c7]; omega)) (fun y hy => ?_)
        obtain ⟨k3, k4⟩ := rch k1 hy
        by_cases d3 : kT y.2 = 7
        · rw [if_pos d3]
          have k5 := take_reach k3.1
          have := msr_reach k5
          exact bind_total (go (k3.trans k5) (fun e => absurd e (by decide)) (by decide) (by rw [c7]; omega)) (fun z hz => ⟨_, rfl⟩)
        · rw [if_neg d3]; exact ⟨_, rfl⟩
      rw [if_neg d2]
      by_cases d3 : kT s = 8
      · rw [if_pos d3]
        have := mt (by omega)
        refine bind_total (go ht (fun _ => by omega) (by decide) (by omega)) (fun x hx => ?_)
        obtain ⟨k1, k2⟩ := rch ht hx
        exact bind_total (go k1 (fun e => absurd e (by decide)) (by decide) (by rw [c7]; omega)) (fun y hy => ⟨_, rfl⟩)
      rw [if_neg d3]
      by_cases d4 : kT s = 9
      · rw [if_pos d4]
        have := mt (by omega)
        by_cases d5 : kT (takeS s) = 25
        · rw [if_pos d5]; exact ⟨_, rfl⟩
        · rw [if_neg d5]; exact bind_total (go ht (fun _ => by omega) (by decide) (by omega)) (fun x hx => ⟨_, rfl⟩)
      rw [if_neg d4]
      by_cases d5 : kT s = 10
      · rw [if_pos d5]; exact ⟨_, rfl⟩
      rw [if_neg d5]
      by_cases d6 : kT s = 11
      · rw [if_pos d6]; exact ⟨_, rfl⟩
      rw [if_neg d6]
      by_cases d7 : kT s = 12
      · rw [if_pos d7]
        have := mt (by omega)
        exact bind_total (go ht (fun _ => by omega) (by decide) (by omega)) (fun x hx => ⟨_, rfl⟩)
      rw [if_neg d7]
      refine bind_total (go h0 (fun _ => by omega) (by decide) (by omega)) (fun x hx => ?_)
      obtain ⟨k1, k2⟩ := rch h0 hx
      by_cases d8 : canSet x.1 = true ∧ kT x.2 = 26
      · rw [if_pos d8]
        have k3 := take_reach k1.1
        have := msr_reach k3
        exact bind_total (go (k1.trans k3) (fun _ => by omega) (by decide) (by omega)) (fun y hy => ⟨_, rfl⟩)
      rw [if_neg d8]
      by_cases d9 : kT x.2 = 26
      · rw [if_pos d9]
        have k3 := fail_reach k1.1
        have := msr_reach k3
        exact bind_total (go (k1.trans k3) (fun _ => by omega) (by decide) (by omega)) (fun y hy => ⟨_, rfl⟩)
      · rw [if_neg d9]; exact ⟨_, rfl⟩
    rw [if_neg t9]
    by_cases t10 : t = 10
    · rw [if_pos t10]
      subst t10
      rw [c10] at hm
      by_cases d1 : kT s = 0
      · rw [if_pos d1]; exact ⟨_, rfl⟩
      rw [if_neg d1]
      have hb := kT_good h d1
      by_cases d2 : kT s = 4
      · rw [if_pos d2]
        refine bind_total (ih _ _ _ _ h (fun e => absurd e (by decide)) (fun _ => d1) (by rw [c11]; omega)) (fun x hx => ?_)
        obtain ⟨k1, k2⟩ := rch h0 hx
        have := msr_less h hb (fn_less h hx)
        exact go k1 (fun e => absurd e (by decide)) (by decide) (by rw [c10]; omega)
      · rw [if_neg d2]
        refine bind_total (go h0 (fun e => absurd e (by decide)) (by decide) (by rw [c9]; omega)) (fun x hx => ?_)
        obtain ⟨k1, k2⟩ := rch h0 hx
        have := msr_less h hb (stmt_less h hx)
        exact go k1 (fun e => absurd e (by decide)) (by decide) (by rw [c10]; omega)
    rw [if_neg t10]
    have hc : cost t a = 13 := by unfold cost; simp only [if_neg t0, if_neg t1, if_neg t2, if_neg t3, if_neg t4, if_neg t5, if_neg t6, if_neg t7, if_neg t8, if_neg t9, if_neg t10]
    have k1 := want_reach 1 ht.1
    have k2 := want_reach 18 k1.1
    have := msr_reach k1
    have := msr_reach k2
    have := msr_reach ht
    refine bind_total (params_total k2.1 (by omega)) (fun p hp => ?_)
    have k3 := params_reach k2.1 hp
    have := msr_reach k3
    exact bind_total (go (((ht.trans k1).trans k2).trans k3) (fun e => absurd e (by decide)) (by decide) (by rw [c7]; omega)) (fun x hx => ⟨_, rfl⟩)

/- an expression takes a token at least; what stands at its root -/
theorem atom_less {n : Nat} {s : PS} {r : BT Lab × PS} (h : WF s) (hr : pars n 4 0 .nil s = some r) : Less s r.2 := by
  by_cases k0 : kT s = 0
  · cases n with
    | zero => exact absurd hr (pars_zero _ _ _ _ _)
    | succ n =>
      rw [pars_none (by omega) (by omega) (by omega) (by omega) (by omega) (by omega) (by omega) (by omega) (by omega) (by omega) hr]
      exact fun hb => absurd hb (failW_bad h)
  · cases n with
    | zero => exact absurd hr (pars_zero _ _ _ _ _)
    | succ n =>
      have ht := take_reach h
      have hl := (take_took k0).less
      have up : ∀ {s1 : PS}, Reach (takeS s) s1 → Less s s1 := fun h1 => hl.reach h1
      have h0 := Reach.refl ht.1
      by_cases k1 : kT s = 1
      · by_cases k2 : kT (takeS s) = 18
        · obtain ⟨l, h1, e⟩ := pars_call k1 k2 hr
          have h2 := take_reach ht.1
          have h3 := pars_reach _ _ _ _ _ _ h2.1 h1
          rw [e]; exact up (h2.trans h3)
        · rw [pars_name k1 k2 hr]; exact up h0
      by_cases k2 : kT s = 18
      · obtain ⟨x, h1, e⟩ := pars_group k2 hr
        have hx := pars_reach _ _ _ _ _ _ ht.1 h1
        rw [e]; exact up (hx.trans (want_reach 19 hx.1))
      by_cases k3 : kT s = 2
      · rw [pars_int k3 hr]; exact up h0
      by_cases k4 : kT s = 3
      · rw [pars_text k4 hr]; exact up h0
      by_cases k5 : kT s = 13
      · rw [pars_true k5 hr]; exact up h0
      by_cases k6 : kT s = 14
      · rw [pars_false k6 hr]; exact up h0
      by_cases k7 : kT s = 15
      · rw [pars_null k7 hr]; exact up h0
      by_cases k8 : kT s = 22
      · obtain ⟨l, h1, e⟩ := pars_array k8 hr
        have hx := pars_reach _ _ _ _ _ _ ht.1 h1
        rw [e]; exact up hx
      by_cases k9 : kT s = 16
      · obtain ⟨l, h1, e⟩ := pars_len k9 hr
        have h2 := want_reach 18 ht.1
        have hx := h2.trans (pars_reach _ _ _ _ _ _ h2.1 h1)
        rw [e]; exact up (hx.trans (want_reach 19 hx.1))
      by_cases k10 : kT s = 17
      · obtain ⟨l, m, h1, h2, e⟩ := pars_push k10 hr
        have h3 := want_reach 18 ht.1
        have h4 := h3.trans (pars_reach _ _ _ _ _ _ h3.1 h1)
        have h5 := h4.trans (want_reach 24 h4.1)
        have h6 := h5.trans (pars_reach _ _ _ _ _ _ h5.1 h2)
        rw [e]; exact up (h6.trans (want_reach 19 h6.1))
      rw [pars_none k3 k4 k5 k6 k7 k1 k2 k8 k9 k10 hr]
      exact fun hb => absurd hb (failW_bad h)
theorem unary_less {n : Nat} {s : PS} {r : BT Lab × PS} (h : WF s) (hr : pars n 2 0 .nil s = some r) : Less s r.2 := by
  cases n with
  | zero => exact absurd hr (pars_zero _ _ _ _ _)
  | succ n =>
    have ht := take_reach h
    by_cases k1 : kT s = 28
    · obtain ⟨x, h1, e⟩ := pars_not k1 hr
      have hx := pars_reach _ _ _ _ _ _ ht.1 h1
      rw [e]; exact (take_took (by omega)).less.reach hx
    by_cases k2 : kT s = 35
    · obtain ⟨x, h1, e⟩ := pars_neg k2 hr
      have hx := pars_reach _ _ _ _ _ _ ht.1 h1
      rw [e]; exact (take_took (by omega)).less.reach hx
    obtain ⟨x, h1, h2⟩ := pars_part k1 k2 hr
    have hx := pars_reach _ _ _ _ _ _ h h1
    exact (atom_less h h1).reach (pars_reach _ _ _ _ _ _ hx.1 h2)
theorem expr_less : ∀ n a s r, WF s → pars n 0 a .nil s = some r → Less s r.2 := by
  intro n
  induction n with
  | zero => intro a s r _ hr; exact absurd hr (pars_zero _ _ _ _ _)
  | succ n ih =>
    intro a s r h hr
    by_cases a6 : a = 6
    · subst a6; exact unary_less h (pars_expr6 hr)
    · obtain ⟨x, h1, h2⟩ := pars_expr a6 hr
      have hx := pars_reach _ _ _ _ _ _ h h1
      exact (ih _ _ _ h h1).reach (pars_reach _ _ _ _ _ _ hx.1 h2)

def exprKd (kd : Nat) : Prop := kd ≤ 14 ∨ (127 ≤ kd ∧ kd ≤ 140)
theorem loop_kd : ∀ n a acc s r, exprKd (rootLab acc).kd → pars n 1 a acc s = some r → exprKd (rootLab r.1).kd := by
  intro n
  induction n with
  | zero => intro a acc s r _ hr; exact absurd hr (pars_zero _ _ _ _ _)
  | succ n ih =>
    intro a acc s r h hr
    by_cases hk : rowOf (kT s) = a + 1
    · obtain ⟨y, h1, h2⟩ := pars_loop1 hk hr
      refine ih _ _ _ _ (.inr ?_) h2
      show 127 ≤ 100 + kT s ∧ 100 + kT s ≤ 140
      unfold rowOf at hk
      repeat' split at hk
      all_goals omega
    · rw [pars_loop0 hk hr]; exact h
theorem index_kd : ∀ n acc s r, exprKd (rootLab acc).kd → pars n 3 0 acc s = some r → exprKd (rootLab r.1).kd := by
  intro n
  induction n with
  | zero => intro acc s r _ hr; exact absurd hr (pars_zero _ _ _ _ _)
  | succ n ih =>
    intro acc s r h hr
    by_cases hk : kT s = 22
    · obtain ⟨y, h1, h2⟩ := pars_index hk hr
      refine ih _ _ _ ?_ h2
      exact .inl (show (12 : Nat) ≤ 14 by decide)
    · rw [pars_index0 hk hr]; exact h
theorem atom_kd {n : Nat} {s : PS} {r : BT Lab × PS} (hr : pars n 4 0 .nil s = some r) : exprKd (rootLab r.1).kd := by
  cases n with
  | zero => exact absurd hr (pars_zero _ _ _ _ _)
  | succ n =>
    by_cases k1 : kT s = 1
    · by_cases k2 : kT (takeS s) = 18
      · obtain ⟨l, _, e⟩ := pars_call k1 k2 hr
        rw [e]; exact .inl (show (7 : Nat) ≤ 14 by decide)
      · rw [pars_name k1 k2 hr]; exact .inl (show (6 : Nat) ≤ 14 by decide)
    by_cases k2 : kT s = 18
    · obtain ⟨x, h1, e⟩ := pars_group k2 hr
      rw [e]; exact .inl (show (8 : Nat) ≤ 14 by decide)
    by_cases k3 : kT s = 2
    · rw [pars_int k3 hr]; exact .inl (show (1 : Nat) ≤ 14 by decide)
    by_cases k4 : kT s = 3
    · rw [pars_text k4 hr]; exact .inl (show (2 : Nat) ≤ 14 by decide)
    by_cases k5 : kT s = 13
    · rw [pars_true k5 hr]; exact .inl (show (3 : Nat) ≤ 14 by decide)
    by_cases k6 : kT s = 14
    · rw [pars_false k6 hr]; exact .inl (show (4 : Nat) ≤ 14 by decide)
    by_cases k7 : kT s = 15
    · rw [pars_null k7 hr]; exact .inl (show (5 : Nat) ≤ 14 by decide)
    by_cases k8 : kT s = 22
    · obtain ⟨l, _, e⟩ := pars_array k8 hr
      rw [e]; exact .inl (show (9 : Nat) ≤ 14 by decide)
    by_cases k9 : kT s = 16
    · obtain ⟨l, _, e⟩ := pars_len k9 hr
      rw [e]; exact .inl (show (10 : Nat) ≤ 14 by decide)
    by_cases k10 : kT s = 17
    · obtain ⟨l, m, _, _, e⟩ := pars_push k10 hr
      rw [e]; exact .inl (show (11 : Nat) ≤ 14 by decide)
    rw [pars_none k3 k4 k5 k6 k7 k1 k2 k8 k9 k10 hr]
    exact .inl (show (0 : Nat) ≤ 14 by decide)
theorem unary_kd {n : Nat} {s : PS} {r : BT Lab × PS} (hr : pars n 2 0 .nil s = some r) : exprKd (rootLab r.1).kd := by
  cases n with
  | zero => exact absurd hr (pars_zero _ _ _ _ _)
  | succ n =>
    by_cases k1 : kT s = 28
    · obtain ⟨x, _, e⟩ := pars_not k1 hr
      rw [e]; exact .inl (show (13 : Nat) ≤ 14 by decide)
    by_cases k2 : kT s = 35
    · obtain ⟨x, _, e⟩ := pars_neg k2 hr
      rw [e]; exact .inl (show (14 : Nat) ≤ 14 by decide)
    obtain ⟨x, h1, h2⟩ := pars_part k1 k2 hr
    exact index_kd _ _ _ _ (atom_kd h1) h2
theorem expr_kd : ∀ n a s r, pars n 0 a .nil s = some r → exprKd (rootLab r.1).kd := by
  intro n
  induction n with
  | zero => intro a s r hr; exact absurd hr (pars_zero _ _ _ _ _)
  | succ n ih =>
    intro a s r hr
    by_cases a6 : a = 6
    · subst a6; exact unary_kd (pars_expr6 hr)
    · obtain ⟨x, h1, h2⟩ := pars_expr a6 hr
      exact loop_kd _ _ _ _ _ (ih _ _ _ h1) h2

end Go.Proofs.YtgccmgjbbcndbaaGreatDoor
/- Plain mathematics: signs that lie too deep; names that can be seen, places of statements: the first fault in the order of the text. -/
namespace Go.Proofs.YtgccmgjbbcndbaaGreatDoor
open Go.Deep (BT)

/- the line of the first sign that opens in 30 others; 0: none does -/
def nest : List Tk → Int → Nat
  | [], _ => 0
  | t :: r, o =>
    if t.k = 18 ∨ t.k = 20 ∨ t.k = 22 then (if 30 ≤ o then t.line else nest r (o + 1))
    else if t.k = 19 ∨ t.k = 21 ∨ t.k = 23 then nest r (o - 1)
    else nest r o

abbrev Nm := List UInt8
abbrev Flt := Nat × Nat
def wrongF (is : Bool) (code line : Nat) (f : Flt) : Flt := if is && f.1 == 0 then (code, line) else f

def fnIx : List (Nm × Nat) → Nm → Option Nat
  | [], _ => none
  | f :: r, s => if f.1 = s then some f.2 else fnIx r s
def callBad (fns : List (Nm × Nat)) (s : Nm) (n : Nat) : Bool := match fnIx fns s with
  | none => true
  | some m => m != n

/- a forest, in order: names of the blocks around, of the block at hand; whiles around; within a function?; the fault so far -/
def sens (fns : List (Nm × Nat)) : BT Lab → List Nm → List Nm → Nat → Bool → Flt → List Nm × Flt
  | .nil, _, cur, _, _, f => (cur, f)
  | .node _ _ l ch sib, outer, cur, wh, inn, f =>
    if l.kd = 31 then sens fns sib outer cur wh inn (sens fns ch (outer ++ cur) [] wh inn f).2
    else if l.kd = 32 then sens fns sib outer cur wh inn (sens fns ch (outer ++ cur) [] (wh + 1) inn f).2
    else if l.kd = 21 then
      sens fns sib outer ((sens fns ch outer cur wh inn (wrongF (decide (l.s ∈ cur)) 3 l.line f)).1 ++ [l.s]) wh inn (sens fns ch outer cur wh inn (wrongF (decide (l.s ∈ cur)) 3 l.line f)).2
    else
      let f1 := if l.kd = 6 ∨ l.kd = 28 then wrongF (!decide (l.s ∈ outer ++ cur)) 3 l.line f
        else if l.kd = 7 then wrongF (callBad fns l.s (blen ch)) 3 l.line f
        else if l.kd = 25 ∨ l.kd = 26 then wrongF (wh == 0) 4 l.line f
        else if l.kd = 24 then wrongF (!inn) 4 l.line f
        else f
      sens fns sib outer (sens fns ch outer cur wh inn f1).1 wh inn (sens fns ch outer cur wh inn f1).2

def prmF : List (Nat × Nm) → List Nm → Flt → List Nm × Flt
  | [], cur, f => (cur, f)
  | p :: r, cur, f => prmF r (cur ++ [p.2]) (wrongF (decide (p.2 ∈ cur)) 3 p.1 f)

/- a whole program: the functions that were reached, the global names so far -/
def sensT (fns : List (Nm × Nat)) : BT Lab → List Nm → List Nm → Flt → Flt
  | .nil, _, _, f => f
  | .node x y l ch sib, seen, cur, f =>
    if l.kd = 20 then
      let f1 := wrongF (decide (l.s ∈ seen)) 3 l.line f
      let p := prmF l.ps [] f1
      sensT fns sib (seen ++ [l.s]) cur (sens fns ch cur p.1 0 true p.2).2
    else sensT fns sib seen (sens fns (.node x y l ch .nil) [] cur 0 false f).1 (sens fns (.node x y l ch .nil) [] cur 0 false f).2

def fnsOf : BT Lab → List (Nm × Nat)
  | .nil => []
  | .node _ _ l _ sib => if l.kd = 20 then (l.s, l.ps.length) :: fnsOf sib else fnsOf sib

/- what Compile answers: the fault, or the functions' names -/
def startS (ts : List Tk) : PS := ⟨ts, 0⟩

theorem wrongF_keep (is : Bool) (code line : Nat) (f : Flt) (h : f.1 ≠ 0) : wrongF is code line f = f := by
  unfold wrongF
  rw [if_neg]
  simp [h]
theorem sens_sib (fns : List (Nm × Nat)) (x y : Nat) (l : Lab) (ch sib : BT Lab) (outer cur : List Nm) (wh : Nat) (inn : Bool) (f : Flt) :
    sens fns (.node x y l ch sib) outer cur wh inn f = sens fns sib outer (sens fns (.node x y l ch .nil) outer cur wh inn f).1 wh inn (sens fns (.node x y l ch .nil) outer cur wh inn f).2 := by
  by_cases h1 : l.kd = 31
  · simp only [sens, if_pos h1]
  · by_cases h2 : l.kd = 32
    · simp only [sens, if_neg h1, if_pos h2]
    · by_cases h3 : l.kd = 21
      · simp only [sens, if_neg h1, if_neg h2, if_pos h3]
      · simp only [sens, if_neg h1, if_neg h2, if_neg h3]
end Go.Proofs.YtgccmgjbbcndbaaGreatDoor
/- Plain mathematics: an expression is one tree at most; an index has two below it at most. -/
namespace Go.Proofs.YtgccmgjbbcndbaaGreatDoor
open Go.Deep (BT)

def OneT (f : BT Lab) : Prop := blen f ≤ 1 ∧ ((rootLab f).kd = 12 → blen (kidsOf f) ≤ 2)
theorem OneT.leaf {l : Lab} {c : BT Lab} (h : l.kd ≠ 12) : OneT (nd l c) := ⟨Nat.le_refl _, fun e => absurd e h⟩
theorem oneT_nil : OneT .nil := ⟨Nat.zero_le _, fun e => absurd (show (0 : Nat) = 12 from e) (by decide)⟩

theorem oneT_loop : ∀ n a acc s r, OneT acc → pars n 1 a acc s = some r → OneT r.1 := by
  intro n
  induction n with
  | zero => intro a acc s r _ hr; exact absurd hr (pars_zero _ _ _ _ _)
  | succ n ih =>
    intro a acc s r h hr
    by_cases hk : rowOf (kT s) = a + 1
    · obtain ⟨y, h1, h2⟩ := pars_loop1 hk hr
      refine ih _ _ _ _ ?_ h2
      exact OneT.leaf (show 100 + kT s ≠ 12 by omega)
    · rw [pars_loop0 hk hr]; exact h
theorem oneT_atom {n : Nat} {s : PS} {r : BT Lab × PS} (hr : pars n 4 0 .nil s = some r) : OneT r.1 := by
  cases n with
  | zero => exact absurd hr (pars_zero _ _ _ _ _)
  | succ n =>
    by_cases k1 : kT s = 1
    · by_cases k2 : kT (takeS s) = 18
      · obtain ⟨l, _, e⟩ := pars_call k1 k2 hr
        rw [e]; exact OneT.leaf (show (7 : Nat) ≠ 12 by decide)
      · rw [pars_name k1 k2 hr]; exact OneT.leaf (show (6 : Nat) ≠ 12 by decide)
    by_cases k2 : kT s = 18
    · obtain ⟨x, h1, e⟩ := pars_group k2 hr
      rw [e]; exact OneT.leaf (show (8 : Nat) ≠ 12 by decide)
    by_cases k3 : kT s = 2
    · rw [pars_int k3 hr]; exact OneT.leaf (show (1 : Nat) ≠ 12 by decide)
    by_cases k4 : kT s = 3
    · rw [pars_text k4 hr]; exact OneT.leaf (show (2 : Nat) ≠ 12 by decide)
    by_cases k5 : kT s = 13
    · rw [pars_true k5 hr]; exact OneT.leaf (show (3 : Nat) ≠ 12 by decide)
    by_cases k6 : kT s = 14
    · rw [pars_false k6 hr]; exact OneT.leaf (show (4 : Nat) ≠ 12 by decide)
    by_cases k7 : kT s = 15
    · rw [pars_null k7 hr]; exact OneT.leaf (show (5 : Nat) ≠ 12 by decide)
    by_cases k8 : kT s = 22
    · obtain ⟨l, _, e⟩ := pars_array k8 hr
      rw [e]; exact OneT.leaf (show (9 : Nat) ≠ 12 by decide)
    by_cases k9 : kT s = 16
    · obtain ⟨l, _, e⟩ := pars_len k9 hr
      rw [e]; exact OneT.leaf (show (10 : Nat) ≠ 12 by decide)
    by_cases k10 : kT s = 17
    · obtain ⟨l, m, _, _, e⟩ := pars_push k10 hr
      rw [e]; exact OneT.leaf (show (11 : Nat) ≠ 12 by decide)
    rw [pars_none k3 k4 k5 k6 k7 k1 k2 k8 k9 k10 hr]
    exact oneT_nil

theorem oneT_all : ∀ n, (∀ a s r, pars n 0 a .nil s = some r → OneT r.1) ∧ (∀ s r, pars n 2 0 .nil s = some r → OneT r.1) ∧ (∀ acc s r, OneT acc → pars n 3 0 acc s = some r → OneT r.1) := by
  intro n
  induction n with
  | zero => exact ⟨fun a s r hr => absurd hr (pars_zero _ _ _ _ _), fun s r hr => absurd hr (pars_zero _ _ _ _ _), fun acc s r _ hr => absurd hr (pars_zero _ _ _ _ _)⟩
  | succ n ih =>
    refine ⟨fun a s r hr => ?_, fun s r hr => ?_, fun acc s r h hr => ?_⟩
    · by_cases a6 : a = 6
      · subst a6; exact ih.2.1 _ _ (pars_expr6 hr)
      · obtain ⟨x, h1, h2⟩ := pars_expr a6 hr
        exact oneT_loop _ _ _ _ _ (ih.1 _ _ _ h1) h2
    · by_cases k1 : kT s = 28
      · obtain ⟨x, _, e⟩ := pars_not k1 hr
        rw [e]; exact OneT.leaf (show (13 : Nat) ≠ 12 by decide)
      by_cases k2 : kT s = 35
      · obtain ⟨x, _, e⟩ := pars_neg k2 hr
        rw [e]; exact OneT.leaf (show (14 : Nat) ≠ 12 by decide)
      obtain ⟨x, h1, h2⟩ := pars_part k1 k2 hr
      exact ih.2.2 _ _ _ (oneT_atom h1) h2
    · by_cases hk : kT s = 22
      · obtain ⟨y, h1, h2⟩ := pars_index hk hr
        refine ih.2.2 _ _ _ ?_ h2
        have h3 := ih.1 _ _ _ h1
        refine ⟨Nat.le_refl _, fun _ => ?_⟩
        show blen (bapp acc y.1) ≤ 2
        rw [bapp_len]; have := h.1; have := h3.1; omega
      · rw [pars_index0 hk hr]; exact h
end Go.Proofs.YtgccmgjbbcndbaaGreatDoor
/- Plain mathematics: the shape and the size of what was read without a fault; groups taken away. -/
namespace Go.Proofs.YtgccmgjbbcndbaaGreatDoor
open Go.Deep (BT)

def bsize : BT Lab → Nat
  | .nil => 0
  | .node _ _ l c r => 1 + l.ps.length + bsize c + bsize r
def T32 : BT Lab → Prop
  | .nil => True
  | .node _ _ l _ r => l.kd ≠ 32 ∧ T32 r
def Sane : BT Lab → Prop
  | .nil => True
  | .node _ _ l c r => (l.kd = 8 → blen c = 1) ∧ (l.kd = 23 → ∃ e b, c = bapp e (nd (lab0 32 0) b) ∧ blen e = 1 ∧ T32 e) ∧ (l.kd ≠ 23 → T32 c) ∧ Sane c ∧ Sane r

theorem bsize_app : ∀ f g : BT Lab, bsize (bapp f g) = bsize f + bsize g := by
  intro f
  induction f with
  | nil => intro g; simp [bapp, bsize]
  | node x y l c r _ ih => intro g; simp only [bapp, bsize, ih]; omega
theorem T32.app : ∀ f g : BT Lab, T32 f → T32 g → T32 (bapp f g) := by
  intro f
  induction f with
  | nil => intro g _ h; exact h
  | node x y l c r _ ih => intro g h1 h2; exact ⟨h1.1, ih g h1.2 h2⟩
theorem Sane.app : ∀ f g : BT Lab, Sane f → Sane g → Sane (bapp f g) := by
  intro f
  induction f with
  | nil => intro g _ h; exact h
  | node x y l c r _ ih => intro g h1 h2; exact ⟨h1.1, h1.2.1, h1.2.2.1, h1.2.2.2.1, ih g h1.2.2.2.2 h2⟩

structure Well (k : Nat) (f : BT Lab) (s s' : PS) : Prop where
  sane : Sane f
  t32 : T32 f
  size : bsize f + 2 * msr s' ≤ k + 2 * msr s

theorem nd_sane {l : Lab} {c : BT Lab} (h8 : l.kd = 8 → blen c = 1) (h23 : l.kd ≠ 23) (hc : Sane c) (ht : T32 c) : Sane (nd l c) := ⟨h8, fun e => absurd e h23, fun _ => ht, hc, trivial⟩
theorem nd_T32 {l : Lab} {c : BT Lab} (h : l.kd ≠ 32) : T32 (nd l c) := ⟨h, trivial⟩
theorem nd_size (l : Lab) (c : BT Lab) : bsize (nd l c) = 1 + l.ps.length + bsize c := by simp [nd, bsize]

theorem msr_want {s : PS} {k : Nat} (hk : k ≠ 0) (h : WF s) (hb : (wantS k s).bad = 0) : msr (wantS k s) < msr s := msr_less h (want_took hk h hb).1 (want_took hk h).less
theorem good_of {s s' : PS} (h : Reach s s') (hb : s'.bad = 0) : s.bad = 0 := (h.2 hb).1

theorem prms_len : ∀ n acc s r, WF s → prms n acc s = some r → r.2.bad = 0 → r.1.length + 2 * msr r.2 ≤ acc.length + 2 * msr s := by
  intro n
  induction n with
  | zero => intro acc s r _ hr; rw [prms] at hr; cases hr
  | succ n ih =>
    intro acc s r h hr hb
    rw [prms] at hr
    have h1 := want_reach 1 h
    by_cases hk : kT (wantS 1 s) = 24
    · rw [if_pos hk] at hr
      have h2 := take_reach h1.1
      have := ih _ _ _ h2.1 hr hb
      have hg := kT_good h1.1 (show kT (wantS 1 s) ≠ 0 by omega)
      have := msr_want (by decide) h hg
      have := msr_reach h2
      simp only [List.length_append, List.length_singleton] at *
      omega
    · rw [if_neg hk] at hr
      have e := (Option.some.inj hr).symm
      rw [e] at hb ⊢
      have h2 := want_reach 19 h1.1
      have := msr_want (by decide) h (good_of h2 hb)
      have := msr_reach h2
      simp only [List.length_append, List.length_singleton]
      omega
theorem params_len {n : Nat} {s : PS} {r : List (Nat × List UInt8) × PS} (h : WF s) (hr : params n s = some r) (hb : r.2.bad = 0) : r.1.length + 2 * msr r.2 ≤ 2 * msr s := by
  unfold params at hr
  split at hr
  · have e := (Option.some.inj hr).symm
    rw [e]; have := msr_reach (take_reach h); simp; omega
  · have := prms_len _ _ _ _ h hr hb; simpa using this

def oneTag (t : Nat) : Prop := t = 0 ∨ t = 2 ∨ t = 4 ∨ t = 9 ∨ t = 11
def accTag (t : Nat) : Prop := t = 1 ∨ t = 3

theorem setNode_well {x v : BT Lab} (hx : Sane x) (h1 : blen x = 1) (hv : Sane v) (hvt : T32 v) (hc : canSet x = true) : Sane (setNode x v) ∧ T32 (setNode x v) ∧ bsize (setNode x v) ≤ bsize x + bsize v ∧ blen (setNode x v) = 1 := by
  cases x with
  | nil => simp [blen] at h1
  | node i j l c r =>
    by_cases h6 : l.kd = 6
    · have e : setNode (.node i j l c r) v = nd ⟨28, l.line, l.s, 0, []⟩ v := by unfold setNode; rw [if_pos (by exact h6)]; rfl
      rw [e]
      refine ⟨nd_sane (fun e => absurd (show (28 : Nat) = 8 from e) (by decide)) (show (28 : Nat) ≠ 23 by decide) hv hvt, nd_T32 (show (28 : Nat) ≠ 32 by decide), ?_, rfl⟩
      rw [nd_size]; simp [bsize]; omega
    · have e : setNode (.node i j l c r) v = nd (lab0 29 l.line) (bapp c v) := by unfold setNode; rw [if_neg (by exact h6)]; rfl
      have h12 : l.kd = 12 := by
        unfold canSet at hc
        simp only [rootLab, Bool.or_eq_true, beq_iff_eq] at hc
        omega
      rw [e]
      refine ⟨nd_sane (fun e => absurd (show (29 : Nat) = 8 from e) (by decide)) (show (29 : Nat) ≠ 23 by decide) (Sane.app _ _ hx.2.2.2.1 hv) (T32.app _ _ (hx.2.2.1 (by omega)) hvt), nd_T32 (show (29 : Nat) ≠ 32 by decide), ?_, rfl⟩
      rw [nd_size, bsize_app]; simp [bsize, lab0]; omega
end Go.Proofs.YtgccmgjbbcndbaaGreatDoor
/- Plain mathematics: what was read without a fault is well formed and no greater than its tokens. -/
namespace Go.Proofs.YtgccmgjbbcndbaaGreatDoor
open Go.Deep (BT)

def Fit (t : Nat) (acc : BT Lab) (s : PS) (r : BT Lab × PS) : Prop := Sane r.1 ∧ T32 r.1 ∧ bsize r.1 + 2 * msr r.2 ≤ bsize acc + 2 * msr s ∧ (oneTag t ∨ accTag t → blen r.1 = 1)

theorem Fit.leaf {t : Nat} {acc : BT Lab} {s s' : PS} {l : Lab} (h8 : l.kd ≠ 8) (h23 : l.kd ≠ 23) (h32 : l.kd ≠ 32) (hp : l.ps = []) (hm : 1 + 2 * msr s' ≤ 2 * msr s) : Fit t acc s (nd l .nil, s') := by
  refine ⟨nd_sane (fun e => absurd e h8) h23 trivial trivial, nd_T32 h32, ?_, fun _ => rfl⟩
  show bsize (nd l .nil) + 2 * msr s' ≤ _
  rw [nd_size, hp]; simp [bsize]; omega
theorem Fit.wrap {t : Nat} {acc c : BT Lab} {s s' : PS} {l : Lab} (h8 : l.kd = 8 → blen c = 1) (h23 : l.kd ≠ 23) (h32 : l.kd ≠ 32) (hp : l.ps = []) (hc : Sane c) (ht : T32 c) (hm : 1 + bsize c + 2 * msr s' ≤ bsize acc + 2 * msr s) : Fit t acc s (nd l c, s') := by
  refine ⟨nd_sane h8 h23 hc ht, nd_T32 h32, ?_, fun _ => rfl⟩
  show bsize (nd l c) + 2 * msr s' ≤ _
  rw [nd_size, hp]; simp; omega

set_option maxHeartbeats 2000000 in
theorem pars_fit : ∀ n t a acc s r, WF s → pars n t a acc s = some r → r.2.bad = 0 → Sane acc → T32 acc → (accTag t → blen acc = 1) → Fit t acc s r := by
  intro n
  induction n with
  | zero => intro t a acc s r _ hr; exact absurd hr (pars_zero _ _ _ _ _)
  | succ n ih =>
    intro t a acc s r h hr hb hsa hta hac
    have ht := take_reach h
    have mt : kT s ≠ 0 → msr (takeS s) < msr s := msr_take h
    have sub : ∀ {t1 a1 : Nat} {s1 : PS} {x : BT Lab × PS}, ¬ accTag t1 → WF s1 → pars n t1 a1 .nil s1 = some x → x.2.bad = 0 → Fit t1 .nil s1 x := fun h1 h2 h3 h4 => ih _ _ _ _ _ h2 h3 h4 trivial trivial (fun e => absurd e h1)
    have b0 : bsize (.nil : BT Lab) = 0 := rfl
    by_cases t0 : t = 0
    · subst t0
      by_cases a6 : a = 6
      · subst a6
        rw [pars, if_pos rfl, if_pos rfl] at hr
        have f := sub (by unfold accTag; omega) h hr hb
        exact ⟨f.1, f.2.1, by have := f.2.2.1; omega, fun _ => f.2.2.2 (.inl (.inr (.inl rfl)))⟩
      · rw [pars, if_pos rfl, if_neg a6] at hr
        obtain ⟨x, k1, k2⟩ := bind_some hr
        have hx := pars_reach _ _ _ _ _ _ h k1
        have hy := pars_reach _ _ _ _ _ _ hx.1 k2
        have f := sub (by unfold accTag; omega) h k1 (good_of hy hb)
        have f2 := ih _ _ _ _ _ hx.1 k2 hb f.1 f.2.1 (fun _ => f.2.2.2 (.inl (.inl rfl)))
        exact ⟨f2.1, f2.2.1, by have := f.2.2.1; have := f2.2.2.1; omega, fun _ => f2.2.2.2 (.inr (.inl rfl))⟩
    by_cases t1 : t = 1
    · subst t1
      by_cases hk : rowOf (kT s) = a + 1
      · obtain ⟨y, k1, k2⟩ := pars_loop1 hk hr
        have hk0 : kT s ≠ 0 := by intro e; rw [e] at hk; exact absurd hk (by simp [rowOf])
        have hy := pars_reach _ _ _ _ _ _ ht.1 k1
        have hz := pars_reach _ _ _ _ _ _ hy.1 k2
        have f := sub (by unfold accTag; omega) ht.1 k1 (good_of hz hb)
        have hs1 : Sane (nd (lab0 (100 + kT s) (hdT s).line) (bapp acc y.1)) := nd_sane (fun e => absurd (show 100 + kT s = 8 from e) (by omega)) (show 100 + kT s ≠ 23 by omega) (Sane.app _ _ hsa f.1) (T32.app _ _ hta f.2.1)
        have f2 := ih _ _ _ _ _ hy.1 k2 hb hs1 (nd_T32 (show 100 + kT s ≠ 32 by omega)) (fun _ => rfl)
        refine ⟨f2.1, f2.2.1, ?_, fun _ => f2.2.2.2 (.inr (.inl rfl))⟩
        have h1 := f.2.2.1
        have h2 := f2.2.2.1
        rw [nd_size, bsize_app] at h2
        have := mt hk0
        simp [lab0] at h2; omega
      · rw [pars_loop0 hk hr]
        exact ⟨hsa, hta, Nat.le_refl _, fun _ => hac (.inl rfl)⟩
    by_cases t2 : t = 2
    · subst t2
      rw [pars, if_neg (by decide), if_neg (by decide), if_pos rfl] at hr
      by_cases d1 : kT s = 28
      · rw [if_pos d1] at hr
        obtain ⟨x, k1, k2⟩ := bind_some hr
        have e := (Option.some.inj k2).symm
        subst e
        have f := sub (by unfold accTag; omega) ht.1 k1 hb
        exact Fit.wrap (fun e => absurd (show (13 : Nat) = 8 from e) (by decide)) (show (13 : Nat) ≠ 23 by decide) (show (13 : Nat) ≠ 32 by decide) rfl f.1 f.2.1 (by have := f.2.2.1; have := mt (by omega); omega)
      rw [if_neg d1] at hr
      by_cases d2 : kT s = 35
      · rw [if_pos d2] at hr
        obtain ⟨x, k1, k2⟩ := bind_some hr
        have e := (Option.some.inj k2).symm
        subst e
        have f := sub (by unfold accTag; omega) ht.1 k1 hb
        exact Fit.wrap (fun e => absurd (show (14 : Nat) = 8 from e) (by decide)) (show (14 : Nat) ≠ 23 by decide) (show (14 : Nat) ≠ 32 by decide) rfl f.1 f.2.1 (by have := f.2.2.1; have := mt (by omega); omega)
      rw [if_neg d2] at hr
      obtain ⟨x, k1, k2⟩ := bind_some hr
      have hx := pars_reach _ _ _ _ _ _ h k1
      have hy := pars_reach _ _ _ _ _ _ hx.1 k2
      have f := sub (by unfold accTag; omega) h k1 (good_of hy hb)
      have f2 := ih _ _ _ _ _ hx.1 k2 hb f.1 f.2.1 (fun _ => f.2.2.2 (.inl (.inr (.inr (.inl rfl)))))
      exact ⟨f2.1, f2.2.1, by have := f.2.2.1; have := f2.2.2.1; omega, fun _ => f2.2.2.2 (.inr (.inr rfl))⟩
    by_cases t3 : t = 3
    · subst t3
      rw [pars, if_neg (by decide), if_neg (by decide), if_neg (by decide), if_pos rfl] at hr
      by_cases d1 : kT s = 22
      · rw [if_pos d1] at hr
        obtain ⟨y, k1, k2⟩ := bind_some hr
        have hy := pars_reach _ _ _ _ _ _ ht.1 k1
        have hw := want_reach 23 hy.1
        have hz := pars_reach _ _ _ _ _ _ hw.1 k2
        have f := sub (by unfold accTag; omega) ht.1 k1 (good_of hw (good_of hz hb))
        have hs1 : Sane (nd (lab0 12 (hdT s).line) (bapp acc y.1)) := nd_sane (fun e => absurd (show (12 : Nat) = 8 from e) (by decide)) (show (12 : Nat) ≠ 23 by decide) (Sane.app _ _ hsa f.1) (T32.app _ _ hta f.2.1)
        have f2 := ih _ _ _ _ _ hw.1 k2 hb hs1 (nd_T32 (show (12 : Nat) ≠ 32 by decide)) (fun _ => rfl)
        refine ⟨f2.1, f2.2.1, ?_, fun _ => f2.2.2.2 (.inr (.inr rfl))⟩
        have h1 := f.2.2.1
        have h2 := f2.2.2.1
        have h3 := msr_reach hw
        rw [nd_size, bsize_app] at h2
        have := mt (by omega)
        simp [lab0] at h2; omega
      · rw [if_neg d1] at hr
        have e := (Option.some.inj hr).symm
        subst e
        exact ⟨hsa, hta, Nat.le_refl _, fun _ => hac (.inr rfl)⟩
    by_cases t4 : t = 4
    · subst t4
      have lf : ∀ {l : Lab}, kT s ≠ 0 → l.kd ≠ 8 → l.kd ≠ 23 → l.kd ≠ 32 → l.ps = [] → r = (nd l .nil, takeS s) → Fit 4 acc s r := by
        intro l h0 h8 h23 h32 hp e
        rw [e]; exact Fit.leaf h8 h23 h32 hp (by have := mt h0; omega)
      by_cases d1 : kT s = 2
      · exact lf (by omega) (show (1 : Nat) ≠ 8 by decide) (show (1 : Nat) ≠ 23 by decide) (show (1 : Nat) ≠ 32 by decide) rfl (by rw [pars, if_neg (by decide), if_neg (by decide), if_neg (by decide), if_neg (by decide), if_pos rfl, if_pos d1] at hr; exact (Option.some.inj hr).symm)
      by_cases d2 : kT s = 3
      · exact lf (by omega) (show (2 : Nat) ≠ 8 by decide) (show (2 : Nat) ≠ 23 by decide) (show (2 : Nat) ≠ 32 by decide) rfl (by rw [pars, if_neg (by decide), if_neg (by decide), if_neg (by decide), if_neg (by decide), if_pos rfl, if_neg d1, if_pos d2] at hr; exact (Option.some.inj hr).symm)
      rw [pars, if_neg (by decide), if_neg (by decide), if_neg (by decide), if_neg (by decide), if_pos rfl, if_neg d1, if_neg d2] at hr
      by_cases d3 : kT s = 13
      · rw [if_pos d3] at hr
        exact lf (by omega) (show (3 : Nat) ≠ 8 by decide) (show (3 : Nat) ≠ 23 by decide) (show (3 : Nat) ≠ 32 by decide) rfl (Option.some.inj hr).symm
      rw [if_neg d3] at hr
      by_cases d4 : kT s = 14
      · rw [if_pos d4] at hr
        exact lf (by omega) (show (4 : Nat) ≠ 8 by decide) (show (4 : Nat) ≠ 23 by decide) (show (4 : Nat) ≠ 32 by decide) rfl (Option.some.inj hr).symm
      rw [if_neg d4] at hr
      by_cases d5 : kT s = 15
      · rw [if_pos d5] at hr
        exact lf (by omega) (show (5 : Nat) ≠ 8 by decide) (show (5 : Nat) ≠ 23 by decide) (show (5 : Nat) ≠ 32 by decide) rfl (Option.some.inj hr).symm
      rw [if_neg d5] at hr
      by_cases d6 : kT s = 1
      · rw [if_pos d6] at hr
        have := mt (by omega)
        by_cases d7 : kT (takeS s) = 18
        · rw [if_pos d7] at hr
          obtain ⟨x, k1, k2⟩ := bind_some hr
          have e := (Option.some.inj k2).symm
          subst e
          have h2 := take_reach ht.1
          have f := sub (by unfold accTag; omega) h2.1 k1 hb
          exact Fit.wrap (fun e => absurd (show (7 : Nat) = 8 from e) (by decide)) (show (7 : Nat) ≠ 23 by decide) (show (7 : Nat) ≠ 32 by decide) rfl f.1 f.2.1 (by have := f.2.2.1; have := msr_reach h2; omega)
        · rw [if_neg d7] at hr
          exact lf (by omega) (show (6 : Nat) ≠ 8 by decide) (show (6 : Nat) ≠ 23 by decide) (show (6 : Nat) ≠ 32 by decide) rfl (Option.some.inj hr).symm
      rw [if_neg d6] at hr
      by_cases d7 : kT s = 18
      · rw [if_pos d7] at hr
        have := mt (by omega)
        obtain ⟨x, k1, k2⟩ := bind_some hr
        have e := (Option.some.inj k2).symm
        subst e
        have hx := pars_reach _ _ _ _ _ _ ht.1 k1
        have hw := want_reach 19 hx.1
        have f := sub (by unfold accTag; omega) ht.1 k1 (good_of hw hb)
        exact Fit.wrap (fun _ => f.2.2.2 (.inl (.inl rfl))) (show (8 : Nat) ≠ 23 by decide) (show (8 : Nat) ≠ 32 by decide) rfl f.1 f.2.1 (by have := f.2.2.1; have := msr_reach hw; omega)
      rw [if_neg d7] at hr
      by_cases d8 : kT s = 22
      · rw [if_pos d8] at hr
        have := mt (by omega)
        obtain ⟨x, k1, k2⟩ := bind_some hr
        have e := (Option.some.inj k2).symm
        subst e
        have f := sub (by unfold accTag; omega) ht.1 k1 hb
        exact Fit.wrap (fun e => absurd (show (9 : Nat) = 8 from e) (by decide)) (show (9 : Nat) ≠ 23 by decide) (show (9 : Nat) ≠ 32 by decide) rfl f.1 f.2.1 (by have := f.2.2.1; omega)
      rw [if_neg d8] at hr
      have h18 := want_reach 18 ht.1
      have m18 := msr_reach h18
      by_cases d9 : kT s = 16
      · rw [if_pos d9] at hr
        have := mt (by omega)
        obtain ⟨x, k1, k2⟩ := bind_some hr
        have e := (Option.some.inj k2).symm
        subst e
        have hx := pars_reach _ _ _ _ _ _ h18.1 k1
        have hw := want_reach 19 hx.1
        have f := sub (by unfold accTag; omega) h18.1 k1 (good_of hw hb)
        exact Fit.wrap (fun e => absurd (show (10 : Nat) = 8 from e) (by decide)) (show (10 : Nat) ≠ 23 by decide) (show (10 : Nat) ≠ 32 by decide) rfl f.1 f.2.1 (by have := f.2.2.1; have := msr_reach hw; omega)
      rw [if_neg d9] at hr
      by_cases d10 : kT s = 17
      · rw [if_pos d10] at hr
        have := mt (by omega)
        obtain ⟨x, k1, k2⟩ := bind_some hr
        obtain ⟨y, k3, k4⟩ := bind_some k2
        have e := (Option.some.inj k4).symm
        subst e
        have hx := pars_reach _ _ _ _ _ _ h18.1 k1
        have h24 := want_reach 24 hx.1
        have hy := pars_reach _ _ _ _ _ _ h24.1 k3
        have hw := want_reach 19 hy.1
        have f2 := sub (by unfold accTag; omega) h24.1 k3 (good_of hw hb)
        have f := sub (by unfold accTag; omega) h18.1 k1 (good_of h24 (good_of hy (good_of hw hb)))
        exact Fit.wrap (fun e => absurd (show (11 : Nat) = 8 from e) (by decide)) (show (11 : Nat) ≠ 23 by decide) (show (11 : Nat) ≠ 32 by decide) rfl (Sane.app _ _ f.1 f2.1) (T32.app _ _ f.2.1 f2.2.1) (by rw [bsize_app]; have := f.2.2.1; have := f2.2.2.1; have := msr_reach hw; have := msr_reach h24; omega)
      rw [if_neg d10] at hr
      have e := (Option.some.inj hr).symm
      subst e
      exact absurd hb (failW_bad h)
    by_cases t5 : t = 5
    · subst t5
      have nt : ¬ (oneTag 5 ∨ accTag 5) := by unfold oneTag accTag; omega
      rw [pars, if_neg (by decide), if_neg (by decide), if_neg (by decide), if_neg (by decide), if_neg (by decide), if_pos rfl] at hr
      by_cases d1 : kT s = a
      · rw [if_pos d1] at hr
        have e := (Option.some.inj hr).symm
        subst e
        exact ⟨trivial, trivial, by have := msr_reach ht; show bsize (.nil : BT Lab) + 2 * msr (takeS s) ≤ _; omega, fun e => absurd e nt⟩
      · rw [if_neg d1] at hr
        obtain ⟨x, k1, k2⟩ := bind_some hr
        have hx := pars_reach _ _ _ _ _ _ h k1
        have hy := pars_reach _ _ _ _ _ _ hx.1 k2
        have f := sub (by unfold accTag; omega) h k1 (good_of hy hb)
        have f2 := ih _ _ _ _ _ hx.1 k2 hb f.1 f.2.1 (fun e => absurd e (by unfold accTag; omega))
        exact ⟨f2.1, f2.2.1, by have := f.2.2.1; have := f2.2.2.1; omega, fun e => absurd e nt⟩
    by_cases t6 : t = 6
    · subst t6
      have nt : ¬ (oneTag 6 ∨ accTag 6) := by unfold oneTag accTag; omega
      rw [pars, if_neg (by decide), if_neg (by decide), if_neg (by decide), if_neg (by decide), if_neg (by decide), if_neg (by decide), if_pos rfl] at hr
      by_cases d1 : kT s = 24
      · rw [if_pos d1] at hr
        obtain ⟨y, k1, k2⟩ := bind_some hr
        have hy := pars_reach _ _ _ _ _ _ ht.1 k1
        have hz := pars_reach _ _ _ _ _ _ hy.1 k2
        have f := sub (by unfold accTag; omega) ht.1 k1 (good_of hz hb)
        have f2 := ih _ _ _ _ _ hy.1 k2 hb (Sane.app _ _ hsa f.1) (T32.app _ _ hta f.2.1) (fun e => absurd e (by unfold accTag; omega))
        refine ⟨f2.1, f2.2.1, ?_, fun e => absurd e nt⟩
        have h2 := f2.2.2.1
        rw [bsize_app] at h2
        have := f.2.2.1; have := msr_reach ht; omega
      · rw [if_neg d1] at hr
        have e := (Option.some.inj hr).symm
        subst e
        exact ⟨hsa, hta, by have := msr_reach (want_reach a h); show bsize acc + 2 * msr (wantS a s) ≤ _; omega, fun e => absurd e nt⟩
    by_cases t7 : t = 7
    · subst t7
      have nt : ¬ (oneTag 7 ∨ accTag 7) := by unfold oneTag accTag; omega
      rw [pars, if_neg (by decide), if_neg (by decide), if_neg (by decide), if_neg (by decide), if_neg (by decide), if_neg (by decide), if_neg (by decide), if_pos rfl] at hr
      have hw := want_reach 20 h
      have f := sub (by unfold accTag; omega) hw.1 hr hb
      exact ⟨f.1, f.2.1, by have := f.2.2.1; have := msr_reach hw; omega, fun e => absurd e nt⟩
    by_cases t8 : t = 8
    · subst t8
      have nt : ¬ (oneTag 8 ∨ accTag 8) := by unfold oneTag accTag; omega
      rw [pars, if_neg (by decide), if_neg (by decide), if_neg (by decide), if_neg (by decide), if_neg (by decide), if_neg (by decide), if_neg (by decide), if_neg (by decide), if_pos rfl] at hr
      by_cases d1 : kT s = 21
      · rw [if_pos d1] at hr
        have e := (Option.some.inj hr).symm
        subst e
        exact ⟨hsa, hta, by have := msr_reach ht; show bsize acc + 2 * msr (takeS s) ≤ _; omega, fun e => absurd e nt⟩
      rw [if_neg d1] at hr
      by_cases d2 : s.bad ≠ 0
      · rw [if_pos d2] at hr
        have e := (Option.some.inj hr).symm
        subst e
        exact absurd hb d2
      rw [if_neg d2] at hr
      obtain ⟨x, k1, k2⟩ := bind_some hr
      have hx := pars_reach _ _ _ _ _ _ h k1
      have hy := pars_reach _ _ _ _ _ _ hx.1 k2
      have f := sub (by unfold accTag; omega) h k1 (good_of hy hb)
      have f2 := ih _ _ _ _ _ hx.1 k2 hb (Sane.app _ _ hsa f.1) (T32.app _ _ hta f.2.1) (fun e => absurd e (by unfold accTag; omega))
      refine ⟨f2.1, f2.2.1, ?_, fun e => absurd e nt⟩
      have h2 := f2.2.2.1
      rw [bsize_app] at h2
      have := f.2.2.1; omega
    by_cases t9 : t = 9
    · subst t9
      rw [pars, if_neg (by decide), if_neg (by decide), if_neg (by decide), if_neg (by decide), if_neg (by decide), if_neg (by decide), if_neg (by decide), if_neg (by decide), if_neg (by decide), if_pos rfl] at hr
      by_cases d1 : kT s = 5
      · rw [if_pos d1] at hr
        have := mt (by omega)
        obtain ⟨x, k1, k2⟩ := bind_some hr
        have e := (Option.some.inj k2).symm
        subst e
        have w1 := want_reach 1 ht.1
        have w2 := want_reach 26 w1.1
        have hx := pars_reach _ _ _ _ _ _ w2.1 k1
        have w3 := want_reach 25 hx.1
        have f := sub (by unfold accTag; omega) w2.1 k1 (good_of w3 hb)
        exact Fit.wrap (fun e => absurd (show (21 : Nat) = 8 from e) (by decide)) (show (21 : Nat) ≠ 23 by decide) (show (21 : Nat) ≠ 32 by decide) rfl f.1 f.2.1 (by have := f.2.2.1; have := msr_reach w1; have := msr_reach w2; have := msr_reach w3; omega)
      rw [if_neg d1] at hr
      by_cases d2 : kT s = 6
      · rw [if_pos d2] at hr
        have := mt (by omega)
        obtain ⟨x, k1, k2⟩ := bind_some hr
        obtain ⟨y, k3, k4⟩ := bind_some k2
        have hx := pars_reach _ _ _ _ _ _ ht.1 k1
        have hy := pars_reach _ _ _ _ _ _ hx.1 k3
        by_cases d3 : kT y.2 = 7
        · rw [if_pos d3] at k4
          obtain ⟨z, k5, k6⟩ := bind_some k4
          have e := (Option.some.inj k6).symm
          subst e
          have hyg := kT_good hy.1 (show kT y.2 ≠ 0 by omega)
          have h7 := take_reach hy.1
          have f3 := sub (by unfold accTag; omega) h7.1 k5 hb
          have f2 := sub (by unfold accTag; omega) hx.1 k3 hyg
          have f := sub (by unfold accTag; omega) ht.1 k1 (good_of hy hyg)
          have hb2 : Sane (nd (lab0 31 0) y.1) := nd_sane (fun e => absurd (show (31 : Nat) = 8 from e) (by decide)) (show (31 : Nat) ≠ 23 by decide) f2.1 f2.2.1
          have hb3 : Sane (nd (lab0 31 0) z.1) := nd_sane (fun e => absurd (show (31 : Nat) = 8 from e) (by decide)) (show (31 : Nat) ≠ 23 by decide) f3.1 f3.2.1
          have ht2 : ∀ c, T32 (nd (lab0 31 0) c) := fun c => nd_T32 (show (31 : Nat) ≠ 32 by decide)
          exact Fit.wrap (fun e => absurd (show (22 : Nat) = 8 from e) (by decide)) (show (22 : Nat) ≠ 23 by decide) (show (22 : Nat) ≠ 32 by decide) rfl (Sane.app _ _ f.1 (Sane.app _ _ hb2 hb3)) (T32.app _ _ f.2.1 (T32.app _ _ (ht2 _) (ht2 _))) (by rw [bsize_app, bsize_app, nd_size, nd_size]; have := f.2.2.1; have := f2.2.2.1; have := f3.2.2.1; have := msr_take hy.1 (show kT y.2 ≠ 0 by omega); simp [lab0]; omega)
        · rw [if_neg d3] at k4
          have e := (Option.some.inj k4).symm
          subst e
          have f2 := sub (by unfold accTag; omega) hx.1 k3 hb
          have f := sub (by unfold accTag; omega) ht.1 k1 (good_of hy hb)
          have hb2 : Sane (nd (lab0 31 0) y.1) := nd_sane (fun e => absurd (show (31 : Nat) = 8 from e) (by decide)) (show (31 : Nat) ≠ 23 by decide) f2.1 f2.2.1
          exact Fit.wrap (fun e => absurd (show (22 : Nat) = 8 from e) (by decide)) (show (22 : Nat) ≠ 23 by decide) (show (22 : Nat) ≠ 32 by decide) rfl (Sane.app _ _ f.1 hb2) (T32.app _ _ f.2.1 (nd_T32 (show (31 : Nat) ≠ 32 by decide))) (by rw [bsize_app, nd_size]; have := f.2.2.1; have := f2.2.2.1; simp [lab0]; omega)
      rw [if_neg d2] at hr
      by_cases d3 : kT s = 8
      · rw [if_pos d3] at hr
        have := mt (by omega)
        obtain ⟨x, k1, k2⟩ := bind_some hr
        obtain ⟨y, k3, k4⟩ := bind_some k2
        have e := (Option.some.inj k4).symm
        subst e
        have hx := pars_reach _ _ _ _ _ _ ht.1 k1
        have hy := pars_reach _ _ _ _ _ _ hx.1 k3
        have f2 := sub (by unfold accTag; omega) hx.1 k3 hb
        have f := sub (by unfold accTag; omega) ht.1 k1 (good_of hy hb)
        have hb2 : Sane (nd (lab0 32 0) y.1) := nd_sane (fun e => absurd (show (32 : Nat) = 8 from e) (by decide)) (show (32 : Nat) ≠ 23 by decide) f2.1 f2.2.1
        refine ⟨⟨fun e => absurd (show (23 : Nat) = 8 from e) (by decide), fun _ => ⟨x.1, y.1, rfl, f.2.2.2 (.inl (.inl rfl)), f.2.1⟩, fun e => absurd (show (23 : Nat) = 23 from rfl) e, Sane.app _ _ f.1 hb2, trivial⟩, nd_T32 (show (23 : Nat) ≠ 32 by decide), ?_, fun _ => rfl⟩
        show bsize (nd _ _) + 2 * msr y.2 ≤ _
        rw [nd_size, bsize_app, nd_size]
        have := f.2.2.1; have := f2.2.2.1; simp [lab0]; omega
      rw [if_neg d3] at hr
      by_cases d4 : kT s = 9
      · rw [if_pos d4] at hr
        have := mt (by omega)
        by_cases d5 : kT (takeS s) = 25
        · rw [if_pos d5] at hr
          have e := (Option.some.inj hr).symm
          subst e
          exact Fit.leaf (show (24 : Nat) ≠ 8 by decide) (show (24 : Nat) ≠ 23 by decide) (show (24 : Nat) ≠ 32 by decide) rfl (by have := msr_reach (want_reach 25 ht.1); omega)
        · rw [if_neg d5] at hr
          obtain ⟨x, k1, k2⟩ := bind_some hr
          have e := (Option.some.inj k2).symm
          subst e
          have hx := pars_reach _ _ _ _ _ _ ht.1 k1
          have w3 := want_reach 25 hx.1
          have f := sub (by unfold accTag; omega) ht.1 k1 (good_of w3 hb)
          exact Fit.wrap (fun e => absurd (show (24 : Nat) = 8 from e) (by decide)) (show (24 : Nat) ≠ 23 by decide) (show (24 : Nat) ≠ 32 by decide) rfl f.1 f.2.1 (by have := f.2.2.1; have := msr_reach w3; omega)
      rw [if_neg d4] at hr
      by_cases d5 : kT s = 10
      · rw [if_pos d5] at hr
        have := mt (by omega)
        have e := (Option.some.inj hr).symm
        subst e
        exact Fit.leaf (show (25 : Nat) ≠ 8 by decide) (show (25 : Nat) ≠ 23 by decide) (show (25 : Nat) ≠ 32 by decide) rfl (by have := msr_reach (want_reach 25 ht.1); omega)
      rw [if_neg d5] at hr
      by_cases d6 : kT s = 11
      · rw [if_pos d6] at hr
        have := mt (by omega)
        have e := (Option.some.inj hr).symm
        subst e
        exact Fit.leaf (show (26 : Nat) ≠ 8 by decide) (show (26 : Nat) ≠ 23 by decide) (show (26 : Nat) ≠ 32 by decide) rfl (by have := msr_reach (want_reach 25 ht.1); omega)
      rw [if_neg d6] at hr
      by_cases d7 : kT s = 12
      · rw [if_pos d7] at hr
        have := mt (by omega)
        obtain ⟨x, k1, k2⟩ := bind_some hr
        have e := (Option.some.inj k2).symm
        subst e
        have hx := pars_reach _ _ _ _ _ _ ht.1 k1
        have w3 := want_reach 25 hx.1
        have f := sub (by unfold accTag; omega) ht.1 k1 (good_of w3 hb)
        exact Fit.wrap (fun e => absurd (show (27 : Nat) = 8 from e) (by decide)) (show (27 : Nat) ≠ 23 by decide) (show (27 : Nat) ≠ 32 by decide) rfl f.1 f.2.1 (by have := f.2.2.1; have := msr_reach w3; omega)
      rw [if_neg d7] at hr
      obtain ⟨x, k1, k2⟩ := bind_some hr
      have hx := pars_reach _ _ _ _ _ _ h k1
      by_cases d8 : canSet x.1 = true ∧ kT x.2 = 26
      · rw [if_pos d8] at k2
        obtain ⟨v, k3, k4⟩ := bind_some k2
        have e := (Option.some.inj k4).symm
        subst e
        have h26 := take_reach hx.1
        have hv := pars_reach _ _ _ _ _ _ h26.1 k3
        have w3 := want_reach 25 hv.1
        have f2 := sub (by unfold accTag; omega) h26.1 k3 (good_of w3 hb)
        have f := sub (by unfold accTag; omega) h k1 (good_of h26 (good_of hv (good_of w3 hb)))
        obtain ⟨q1, q2, q3, q4⟩ := setNode_well f.1 (f.2.2.2 (.inl (.inl rfl))) f2.1 f2.2.1 d8.1
        refine ⟨q1, q2, ?_, fun _ => q4⟩
        show bsize (setNode x.1 v.1) + 2 * msr (wantS 25 v.2) ≤ _
        have := f.2.2.1; have := f2.2.2.1; have := msr_reach w3; have := msr_reach h26
        omega
      rw [if_neg d8] at k2
      by_cases d9 : kT x.2 = 26
      · rw [if_pos d9] at k2
        obtain ⟨v, k3, k4⟩ := bind_some k2
        have e := (Option.some.inj k4).symm
        subst e
        have hf := fail_reach hx.1
        have hv := pars_reach _ _ _ _ _ _ hf.1 k3
        exact absurd (good_of hv (good_of (want_reach 25 hv.1) hb)) (failW_bad hx.1)
      · rw [if_neg d9] at k2
        have e := (Option.some.inj k2).symm
        subst e
        have w3 := want_reach 25 hx.1
        have f := sub (by unfold accTag; omega) h k1 (good_of w3 hb)
        exact Fit.wrap (fun e => absurd (show (30 : Nat) = 8 from e) (by decide)) (show (30 : Nat) ≠ 23 by decide) (show (30 : Nat) ≠ 32 by decide) rfl f.1 f.2.1 (by have := f.2.2.1; have := msr_want (k := 25) (by decide) hx.1 hb; omega)
    by_cases t10 : t = 10
    · subst t10
      have nt : ¬ (oneTag 10 ∨ accTag 10) := by unfold oneTag accTag; omega
      rw [pars, if_neg (by decide), if_neg (by decide), if_neg (by decide), if_neg (by decide), if_neg (by decide), if_neg (by decide), if_neg (by decide), if_neg (by decide), if_neg (by decide), if_neg (by decide), if_pos rfl] at hr
      by_cases d1 : kT s = 0
      · rw [if_pos d1] at hr
        have e := (Option.some.inj hr).symm
        subst e
        exact ⟨hsa, hta, Nat.le_refl _, fun e => absurd e nt⟩
      rw [if_neg d1] at hr
      have two : ∀ {t1 : Nat}, ¬ accTag t1 → ((pars n t1 0 .nil s).bind fun x => pars n 10 0 (bapp acc x.1) x.2) = some r → Fit 10 acc s r := by
        intro t1 hn hr
        obtain ⟨x, k1, k2⟩ := bind_some hr
        have hx := pars_reach _ _ _ _ _ _ h k1
        have hy := pars_reach _ _ _ _ _ _ hx.1 k2
        have f := sub hn h k1 (good_of hy hb)
        have f2 := ih _ _ _ _ _ hx.1 k2 hb (Sane.app _ _ hsa f.1) (T32.app _ _ hta f.2.1) (fun e => absurd e (by unfold accTag; omega))
        refine ⟨f2.1, f2.2.1, ?_, fun e => absurd e nt⟩
        have h2 := f2.2.2.1
        rw [bsize_app] at h2
        have := f.2.2.1; omega
      by_cases d2 : kT s = 4
      · rw [if_pos d2] at hr; exact two (by unfold accTag; omega) hr
      · rw [if_neg d2] at hr; exact two (by unfold accTag; omega) hr
    rw [pars, if_neg t0, if_neg t1, if_neg t2, if_neg t3, if_neg t4, if_neg t5, if_neg t6, if_neg t7, if_neg t8, if_neg t9, if_neg t10] at hr
    obtain ⟨p, k1, k2⟩ := bind_some hr
    obtain ⟨x, k3, k4⟩ := bind_some k2
    have e := (Option.some.inj k4).symm
    subst e
    have w1 := want_reach 1 ht.1
    have w2 := want_reach 18 w1.1
    have hp := params_reach w2.1 k1
    have hx := pars_reach _ _ _ _ _ _ hp.1 k3
    have hpg := good_of hx hb
    have f := sub (by unfold accTag; omega) hp.1 k3 hb
    refine ⟨nd_sane (fun e => absurd (show (20 : Nat) = 8 from e) (by decide)) (show (20 : Nat) ≠ 23 by decide) f.1 f.2.1, nd_T32 (show (20 : Nat) ≠ 32 by decide), ?_, fun _ => rfl⟩
    show bsize (nd _ _) + 2 * msr x.2 ≤ _
    rw [nd_size]
    have h1 := f.2.2.1
    have h2 := params_len w2.1 k1 hpg
    have h3 := msr_want (k := 18) (by decide) w1.1 (good_of hp hpg)
    have h4 := msr_reach w1
    have h5 := msr_reach ht
    show 1 + p.1.length + bsize x.1 + 2 * msr x.2 ≤ _
    omega
end Go.Proofs.YtgccmgjbbcndbaaGreatDoor
/- Plain mathematics: groups taken away: the same look at names, the same count. -/
namespace Go.Proofs.YtgccmgjbbcndbaaGreatDoor
open Go.Deep (BT)

def ung : BT Lab → BT Lab
  | .nil => .nil
  | .node x y l c r => if l.kd = 8 then bapp (ung c) (ung r) else .node x y l (ung c) (ung r)

def Shp : BT Lab → Prop
  | .nil => True
  | .node _ _ l c r => l.kd ≠ 8 ∧ (l.kd = 23 → ∃ x1 y1 l1 c1 x2 y2 l2 c2, c = .node x1 y1 l1 c1 (.node x2 y2 l2 c2 .nil) ∧ l1.kd ≠ 32 ∧ l2.kd = 32) ∧ (l.kd ≠ 23 → T32 c) ∧ Shp c ∧ Shp r

theorem bapp_nil : ∀ f : BT Lab, bapp f .nil = f := by
  intro f
  induction f with
  | nil => rfl
  | node x y l c r _ ih => rw [bapp, ih]
theorem bapp_assoc : ∀ f g h : BT Lab, bapp (bapp f g) h = bapp f (bapp g h) := by
  intro f
  induction f with
  | nil => intro g h; rfl
  | node x y l c r _ ih => intro g h; rw [bapp, bapp, ih]; rfl
theorem ung_app : ∀ f g : BT Lab, ung (bapp f g) = bapp (ung f) (ung g) := by
  intro f
  induction f with
  | nil => intro g; rfl
  | node x y l c r _ ih =>
    intro g
    rw [bapp, ung, ung, ih]
    split
    · rw [bapp_assoc]
    · rfl
theorem ung_len : ∀ f : BT Lab, Sane f → blen (ung f) = blen f := by
  intro f
  induction f with
  | nil => intro _; rfl
  | node x y l c r ih1 ih2 =>
    intro h
    rw [ung]
    split
    · rename_i h8
      rw [bapp_len, ih1 h.2.2.2.1, ih2 h.2.2.2.2, h.1 h8, blen]; omega
    · rw [blen, blen, ih2 h.2.2.2.2]
theorem ung_size : ∀ f : BT Lab, bsize (ung f) ≤ bsize f := by
  intro f
  induction f with
  | nil => exact Nat.le_refl _
  | node x y l c r ih1 ih2 =>
    rw [ung]
    split
    · rw [bsize_app, bsize]; omega
    · rw [bsize, bsize]; omega
theorem ung_T32 : ∀ f : BT Lab, Sane f → T32 f → T32 (ung f) := by
  intro f
  induction f with
  | nil => intro _ _; trivial
  | node x y l c r ih1 ih2 =>
    intro h ht
    rw [ung]
    split
    · rename_i h8
      exact T32.app _ _ (ih1 h.2.2.2.1 (h.2.2.1 (by omega))) (ih2 h.2.2.2.2 ht.2)
    · exact ⟨ht.1, ih2 h.2.2.2.2 ht.2⟩
theorem Shp.app : ∀ f g : BT Lab, Shp f → Shp g → Shp (bapp f g) := by
  intro f
  induction f with
  | nil => intro g _ h; exact h
  | node x y l c r _ ih => intro g h1 h2; exact ⟨h1.1, h1.2.1, h1.2.2.1, h1.2.2.2.1, ih g h1.2.2.2.2 h2⟩
theorem ung_shp : ∀ f : BT Lab, Sane f → Shp (ung f) := by
  intro f
  induction f with
  | nil => intro _; trivial
  | node x y l c r ih1 ih2 =>
    intro h
    rw [ung]
    split
    · exact Shp.app _ _ (ih1 h.2.2.2.1) (ih2 h.2.2.2.2)
    · rename_i h8
      refine ⟨h8, fun e => ?_, fun e => ung_T32 _ h.2.2.2.1 (h.2.2.1 e), ih1 h.2.2.2.1, ih2 h.2.2.2.2⟩
      obtain ⟨q, b, e1, e2, e3⟩ := h.2.1 e
      have hs := h.2.2.2.1
      rw [e1] at hs ⊢
      have hq : Sane q := by
        clear e1 e2 e3 ih1 ih2 h
        induction q with
        | nil => trivial
        | node x' y' l' c' r' _ ih => exact ⟨hs.1, hs.2.1, hs.2.2.1, hs.2.2.2.1, ih hs.2.2.2.2⟩
      have hl := ung_len q hq
      have ht := ung_T32 q hq e3
      rw [ung_app]
      have hn : ung (nd (lab0 32 0) b) = .node 0 0 (lab0 32 0) (ung b) .nil := by unfold nd; rw [ung, if_neg (by show (32 : Nat) ≠ 8; decide)]; rfl
      rw [hn]
      cases hu : ung q with
      | nil => rw [hu, e2] at hl; simp [blen] at hl
      | node x' y' l' c' r' =>
        rw [hu] at hl ht
        have hr' : r' = .nil := by
          cases r' with
          | nil => rfl
          | node a b c d e => rw [e2] at hl; simp [blen] at hl
        subst hr'
        exact ⟨_, _, _, _, _, _, _, _, rfl, ht.1, rfl⟩

theorem sens_app (fns : List (Nm × Nat)) : ∀ (f g : BT Lab) (outer cur : List Nm) (wh : Nat) (inn : Bool) (v : Flt),
    sens fns (bapp f g) outer cur wh inn v = sens fns g outer (sens fns f outer cur wh inn v).1 wh inn (sens fns f outer cur wh inn v).2 := by
  intro f
  induction f with
  | nil => intro g outer cur wh inn v; rfl
  | node x y l c r _ ih =>
    intro g outer cur wh inn v
    rw [bapp, sens_sib, ih, sens_sib fns x y l c r]
theorem sens_ung (fns : List (Nm × Nat)) : ∀ (f : BT Lab), Sane f → ∀ (outer cur : List Nm) (wh : Nat) (inn : Bool) (v : Flt), sens fns (ung f) outer cur wh inn v = sens fns f outer cur wh inn v := by
  intro f
  induction f with
  | nil => intro _ outer cur wh inn v; rfl
  | node x y l c r ih1 ih2 =>
    intro h outer cur wh inn v
    have i1 := ih1 h.2.2.2.1
    have i2 := ih2 h.2.2.2.2
    rw [ung]
    split
    · rename_i h8
      rw [sens_app, i1, i2]
      conv => rhs; rw [sens]
      rw [if_neg (by omega), if_neg (by omega), if_neg (by omega)]
      simp only [h8]
      rfl
    · simp only [sens, i1, i2, ung_len c h.2.2.2.1]
/- the names that a forest lets are put behind those that are there -/
theorem sens_cur (fns : List (Nm × Nat)) : ∀ (f : BT Lab) (outer cur : List Nm) (wh : Nat) (inn : Bool) (v : Flt), (sens fns f outer cur wh inn v).1.length ≤ cur.length + bsize f := by
  intro f
  induction f with
  | nil => intro outer cur wh inn v; simp [sens, bsize]
  | node x y l c r ih1 ih2 =>
    intro outer cur wh inn v
    rw [bsize]
    by_cases h1 : l.kd = 31
    · simp only [sens, if_pos h1]
      exact Nat.le_trans (ih2 _ _ _ _ _) (by omega)
    by_cases h2 : l.kd = 32
    · simp only [sens, if_neg h1, if_pos h2]
      exact Nat.le_trans (ih2 _ _ _ _ _) (by omega)
    by_cases h3 : l.kd = 21
    · simp only [sens, if_neg h1, if_neg h2, if_pos h3]
      refine Nat.le_trans (ih2 _ _ _ _ _) ?_
      rw [List.length_append, List.length_singleton]
      have := ih1 outer cur wh inn (wrongF (decide (l.s ∈ cur)) 3 l.line v)
      omega
    · simp only [sens, if_neg h1, if_neg h2, if_neg h3]
      refine Nat.le_trans (ih2 _ _ _ _ _) ?_
      exact Nat.le_trans (Nat.add_le_add_right (ih1 _ _ _ _ _) _) (by omega)
end Go.Proofs.YtgccmgjbbcndbaaGreatDoor
/- Plain mathematics: which kinds of nodes are read. -/
namespace Go.Proofs.YtgccmgjbbcndbaaGreatDoor
open Go.Deep (BT)

def okKd (kd : Nat) : Bool := (decide (1 ≤ kd) && decide (kd ≤ 14)) || (decide (21 ≤ kd) && decide (kd ≤ 32)) || (decide (127 ≤ kd) && decide (kd ≤ 140))
def Kd : BT Lab → Prop
  | .nil => True
  | .node _ _ l c r => okKd l.kd = true ∧ Kd c ∧ Kd r
def KdT : BT Lab → Prop
  | .nil => True
  | .node _ _ l c r => (l.kd = 20 ∨ okKd l.kd = true) ∧ Kd c ∧ KdT r

theorem Kd.app : ∀ f g : BT Lab, Kd f → Kd g → Kd (bapp f g) := by
  intro f
  induction f with
  | nil => intro g _ h; exact h
  | node x y l c r _ ih => intro g h1 h2; exact ⟨h1.1, h1.2.1, ih g h1.2.2 h2⟩
theorem KdT.app : ∀ f g : BT Lab, KdT f → KdT g → KdT (bapp f g) := by
  intro f
  induction f with
  | nil => intro g _ h; exact h
  | node x y l c r _ ih => intro g h1 h2; exact ⟨h1.1, h1.2.1, ih g h1.2.2 h2⟩
theorem Kd.top : ∀ f : BT Lab, Kd f → KdT f := by
  intro f
  induction f with
  | nil => intro h; exact h
  | node x y l c r _ ih => intro h; exact ⟨.inr h.1, h.2.1, ih h.2.2⟩
theorem Kd.nd {l : Lab} {c : BT Lab} (h : okKd l.kd = true) (hc : Kd c) : Kd (nd l c) := ⟨h, hc, trivial⟩
theorem Kd.kids {f : BT Lab} (h : Kd f) : Kd (kidsOf f) := by
  cases f with
  | nil => trivial
  | node x y l c r => exact h.2.1
theorem Kd.ung : ∀ f : BT Lab, Kd f → Kd (ung f) := by
  intro f
  induction f with
  | nil => intro h; exact h
  | node x y l c r ih1 ih2 =>
    intro h
    rw [YtgccmgjbbcndbaaGreatDoor.ung]
    split
    · exact Kd.app _ _ (ih1 h.2.1) (ih2 h.2.2)
    · exact ⟨h.1, ih1 h.2.1, ih2 h.2.2⟩

set_option maxHeartbeats 1000000 in
theorem pars_kd : ∀ n t a acc s r, pars n t a acc s = some r → t ≤ 9 → Kd acc → Kd r.1 := by
  intro n
  induction n with
  | zero => intro t a acc s r hr; exact absurd hr (pars_zero _ _ _ _ _)
  | succ n ih =>
    intro t a acc s r hr ht9 hacc
    have sub : ∀ {t1 a1 : Nat} {s1 : PS} {x : BT Lab × PS}, t1 ≤ 9 → pars n t1 a1 .nil s1 = some x → Kd x.1 := fun h1 h2 => ih _ _ _ _ _ h2 h1 trivial
    have one : ∀ {y : BT Lab} {s1 : PS}, some (y, s1) = some r → Kd y → Kd r.1 := fun hh he => by cases hh; exact he
    rw [pars] at hr
    by_cases t0 : t = 0
    · rw [if_pos t0] at hr
      by_cases a6 : a = 6
      · rw [if_pos a6] at hr; exact sub (by decide) hr
      · rw [if_neg a6] at hr
        obtain ⟨x, k1, k2⟩ := bind_some hr
        exact ih _ _ _ _ _ k2 (by decide) (sub (by decide) k1)
    rw [if_neg t0] at hr
    by_cases t1 : t = 1
    · rw [if_pos t1] at hr
      by_cases hk : rowOf (kT s) = a + 1
      · rw [if_pos hk] at hr
        obtain ⟨y, k1, k2⟩ := bind_some hr
        refine ih _ _ _ _ _ k2 (by decide) (Kd.nd ?_ (Kd.app _ _ hacc (sub (by decide) k1)))
        show okKd (100 + kT s) = true
        have : 27 ≤ kT s ∧ kT s ≤ 40 := by
          unfold rowOf at hk
          repeat' split at hk
          all_goals omega
        unfold okKd
        simp only [Bool.or_eq_true, Bool.and_eq_true, decide_eq_true_eq]
        omega
      · rw [if_neg hk] at hr; exact one hr hacc
    rw [if_neg t1] at hr
    by_cases t2 : t = 2
    · rw [if_pos t2] at hr
      by_cases d1 : kT s = 28
      · rw [if_pos d1] at hr
        obtain ⟨x, k1, k2⟩ := bind_some hr
        exact one k2 (Kd.nd rfl (sub (by decide) k1))
      rw [if_neg d1] at hr
      by_cases d2 : kT s = 35
      · rw [if_pos d2] at hr
        obtain ⟨x, k1, k2⟩ := bind_some hr
        exact one k2 (Kd.nd rfl (sub (by decide) k1))
      rw [if_neg d2] at hr
      obtain ⟨x, k1, k2⟩ := bind_some hr
      exact ih _ _ _ _ _ k2 (by decide) (sub (by decide) k1)
    rw [if_neg t2] at hr
    by_cases t3 : t = 3
    · rw [if_pos t3] at hr
      by_cases d1 : kT s = 22
      · rw [if_pos d1] at hr
        obtain ⟨y, k1, k2⟩ := bind_some hr
        exact ih _ _ _ _ _ k2 (by decide) (Kd.nd rfl (Kd.app _ _ hacc (sub (by decide) k1)))
      · rw [if_neg d1] at hr; exact one hr hacc
    rw [if_neg t3] at hr
    by_cases t4 : t = 4
    · rw [if_pos t4] at hr
      by_cases d1 : kT s = 2
      · rw [if_pos d1] at hr; exact one hr (Kd.nd rfl trivial)
      rw [if_neg d1] at hr
      by_cases d2 : kT s = 3
      · rw [if_pos d2] at hr; exact one hr (Kd.nd rfl trivial)
      rw [if_neg d2] at hr
      by_cases d3 : kT s = 13
      · rw [if_pos d3] at hr; exact one hr (Kd.nd rfl trivial)
      rw [if_neg d3] at hr
      by_cases d4 : kT s = 14
      · rw [if_pos d4] at hr; exact one hr (Kd.nd rfl trivial)
      rw [if_neg d4] at hr
      by_cases d5 : kT s = 15
      · rw [if_pos d5] at hr; exact one hr (Kd.nd rfl trivial)
      rw [if_neg d5] at hr
      by_cases d6 : kT s = 1
      · rw [if_pos d6] at hr
        by_cases d7 : kT (takeS s) = 18
        · rw [if_pos d7] at hr
          obtain ⟨x, k1, k2⟩ := bind_some hr
          exact one k2 (Kd.nd rfl (sub (by decide) k1))
        · rw [if_neg d7] at hr; exact one hr (Kd.nd rfl trivial)
      rw [if_neg d6] at hr
      by_cases d7 : kT s = 18
      · rw [if_pos d7] at hr
        obtain ⟨x, k1, k2⟩ := bind_some hr
        exact one k2 (Kd.nd rfl (sub (by decide) k1))
      rw [if_neg d7] at hr
      by_cases d8 : kT s = 22
      · rw [if_pos d8] at hr
        obtain ⟨x, k1, k2⟩ := bind_some hr
        exact one k2 (Kd.nd rfl (sub (by decide) k1))
      rw [if_neg d8] at hr
      by_cases d9 : kT s = 16
      · rw [if_pos d9] at hr
        obtain ⟨x, k1, k2⟩ := bind_some hr
        exact one k2 (Kd.nd rfl (sub (by decide) k1))
      rw [if_neg d9] at hr
      by_cases d10 : kT s = 17
      · rw [if_pos d10] at hr
        obtain ⟨x, k1, k2⟩ := bind_some hr
        obtain ⟨y, k3, k4⟩ := bind_some k2
        exact one k4 (Kd.nd rfl (Kd.app _ _ (sub (by decide) k1) (sub (by decide) k3)))
      rw [if_neg d10] at hr
      exact one hr trivial
    rw [if_neg t4] at hr
    by_cases t5 : t = 5
    · rw [if_pos t5] at hr
      by_cases d1 : kT s = a
      · rw [if_pos d1] at hr; exact one hr trivial
      · rw [if_neg d1] at hr
        obtain ⟨x, k1, k2⟩ := bind_some hr
        exact ih _ _ _ _ _ k2 (by decide) (sub (by decide) k1)
    rw [if_neg t5] at hr
    by_cases t6 : t = 6
    · rw [if_pos t6] at hr
      by_cases d1 : kT s = 24
      · rw [if_pos d1] at hr
        obtain ⟨y, k1, k2⟩ := bind_some hr
        exact ih _ _ _ _ _ k2 (by decide) (Kd.app _ _ hacc (sub (by decide) k1))
      · rw [if_neg d1] at hr; exact one hr hacc
    rw [if_neg t6] at hr
    by_cases t7 : t = 7
    · rw [if_pos t7] at hr; exact sub (by decide) hr
    rw [if_neg t7] at hr
    by_cases t8 : t = 8
    · rw [if_pos t8] at hr
      by_cases d1 : kT s = 21
      · rw [if_pos d1] at hr; exact one hr hacc
      rw [if_neg d1] at hr
      by_cases d2 : s.bad ≠ 0
      · rw [if_pos d2] at hr; exact one hr hacc
      rw [if_neg d2] at hr
      obtain ⟨x, k1, k2⟩ := bind_some hr
      exact ih _ _ _ _ _ k2 (by decide) (Kd.app _ _ hacc (sub (by decide) k1))
    rw [if_neg t8, if_pos (by omega)] at hr
    by_cases d1 : kT s = 5
    · rw [if_pos d1] at hr
      obtain ⟨x, k1, k2⟩ := bind_some hr
      exact one k2 (Kd.nd rfl (sub (by decide) k1))
    rw [if_neg d1] at hr
    by_cases d2 : kT s = 6
    · rw [if_pos d2] at hr
      obtain ⟨x, k1, k2⟩ := bind_some hr
      obtain ⟨y, k3, k4⟩ := bind_some k2
      have hy := sub (t1 := 7) (by decide) k3
      by_cases d3 : kT y.2 = 7
      · rw [if_pos d3] at k4
        obtain ⟨z, k5, k6⟩ := bind_some k4
        exact one k6 (Kd.nd rfl (Kd.app _ _ (sub (by decide) k1) (Kd.app _ _ (Kd.nd rfl hy) (Kd.nd rfl (sub (by decide) k5)))))
      · rw [if_neg d3] at k4
        exact one k4 (Kd.nd rfl (Kd.app _ _ (sub (by decide) k1) (Kd.nd rfl hy)))
    rw [if_neg d2] at hr
    by_cases d3 : kT s = 8
    · rw [if_pos d3] at hr
      obtain ⟨x, k1, k2⟩ := bind_some hr
      obtain ⟨y, k3, k4⟩ := bind_some k2
      exact one k4 (Kd.nd rfl (Kd.app _ _ (sub (by decide) k1) (Kd.nd rfl (sub (by decide) k3))))
    rw [if_neg d3] at hr
    by_cases d4 : kT s = 9
    · rw [if_pos d4] at hr
      by_cases d5 : kT (takeS s) = 25
      · rw [if_pos d5] at hr; exact one hr (Kd.nd rfl trivial)
      · rw [if_neg d5] at hr
        obtain ⟨x, k1, k2⟩ := bind_some hr
        exact one k2 (Kd.nd rfl (sub (by decide) k1))
    rw [if_neg d4] at hr
    by_cases d5 : kT s = 10
    · rw [if_pos d5] at hr; exact one hr (Kd.nd rfl trivial)
    rw [if_neg d5] at hr
    by_cases d6 : kT s = 11
    · rw [if_pos d6] at hr; exact one hr (Kd.nd rfl trivial)
    rw [if_neg d6] at hr
    by_cases d7 : kT s = 12
    · rw [if_pos d7] at hr
      obtain ⟨x, k1, k2⟩ := bind_some hr
      exact one k2 (Kd.nd rfl (sub (by decide) k1))
    rw [if_neg d7] at hr
    obtain ⟨x, k1, k2⟩ := bind_some hr
    have hx := sub (t1 := 0) (by decide) k1
    by_cases d8 : canSet x.1 = true ∧ kT x.2 = 26
    · rw [if_pos d8] at k2
      obtain ⟨v, k3, k4⟩ := bind_some k2
      have hv := sub (t1 := 0) (by decide) k3
      refine one k4 ?_
      unfold setNode
      split
      · exact Kd.nd rfl hv
      · exact Kd.nd rfl (Kd.app _ _ hx.kids hv)
    rw [if_neg d8] at k2
    by_cases d9 : kT x.2 = 26
    · rw [if_pos d9] at k2
      obtain ⟨v, k3, k4⟩ := bind_some k2
      exact one k4 (Kd.nd rfl hx)
    · rw [if_neg d9] at k2
      exact one k2 (Kd.nd rfl hx)

theorem prog_kd : ∀ n acc s r, pars n 10 0 acc s = some r → KdT acc → KdT r.1 := by
  intro n
  induction n with
  | zero => intro acc s r hr; exact absurd hr (pars_zero _ _ _ _ _)
  | succ n ih =>
    intro acc s r hr hacc
    rw [pars, if_neg (by decide), if_neg (by decide), if_neg (by decide), if_neg (by decide), if_neg (by decide), if_neg (by decide), if_neg (by decide), if_neg (by decide), if_neg (by decide), if_neg (by decide), if_pos rfl] at hr
    by_cases d1 : kT s = 0
    · rw [if_pos d1] at hr; cases hr; exact hacc
    rw [if_neg d1] at hr
    by_cases d2 : kT s = 4
    · rw [if_pos d2] at hr
      obtain ⟨x, k1, k2⟩ := bind_some hr
      refine ih _ _ _ k2 (KdT.app _ _ hacc ?_)
      cases n with
      | zero => exact absurd k1 (pars_zero _ _ _ _ _)
      | succ m =>
        obtain ⟨p, b, _, h2, e⟩ := pars_fn k1
        rw [e]
        exact ⟨.inl rfl, pars_kd _ _ _ _ _ _ h2 (by decide) trivial, trivial⟩
    · rw [if_neg d2] at hr
      obtain ⟨x, k1, k2⟩ := bind_some hr
      exact ih _ _ _ k2 (KdT.app _ _ hacc (pars_kd _ _ _ _ _ _ k1 (by decide) trivial).top)
end Go.Proofs.YtgccmgjbbcndbaaGreatDoor
/- Functions in the order of a program: the first of its name, and the names before it. -/
namespace Go.Proofs.YtgccmgjbbcndbaaGreatDoor
open Go.Deep (BT)

theorem mem_take {fns : List (Nm × Nat)} {s : Nm} {n : Nat} : s ∈ (fns.take n).map (·.1) ↔ ∃ j, ∃ h : j < fns.length, j < n ∧ fns[j].1 = s := by
  constructor
  · intro h
    obtain ⟨p, hp, e⟩ := List.mem_map.mp h
    obtain ⟨j, hj, e2⟩ := List.getElem_of_mem hp
    rw [List.length_take] at hj
    refine ⟨j, by omega, by omega, ?_⟩
    rw [List.getElem_take] at e2
    rw [e2]; exact e
  · rintro ⟨j, h, hj, e⟩
    refine List.mem_map.mpr ⟨fns[j], ?_, e⟩
    have : (fns.take n)[j]'(by rw [List.length_take]; omega) = fns[j] := List.getElem_take
    rw [← this]; exact List.getElem_mem _

theorem first_seen {fns : List (Nm × Nat)} {n : Nat} {s : Nm} {q : Int} (hn : n < fns.length) (he : fns[n].1 = s)
    (hq : (∃ i, ∃ h : i < fns.length, q = (i : Nat) ∧ fns[i].1 = s ∧ ∀ j, j < i → ∀ h' : j < fns.length, fns[j].1 ≠ s) ∨ (q = -1 ∧ ∀ j, ∀ h : j < fns.length, fns[j].1 ≠ s)) :
    (q != (n : Int)) = decide (s ∈ (fns.take n).map (·.1)) := by
  rcases hq with ⟨i, hi, rfl, e, hno⟩ | ⟨_, hno⟩
  · rw [Bool.eq_iff_iff, bne_iff_ne, decide_eq_true_eq, mem_take]
    constructor
    · intro h
      refine ⟨i, hi, ?_, e⟩
      have : ¬ n < i := fun hl => hno n hl hn he
      omega
    · rintro ⟨j, hj, hjn, e2⟩ h
      have : ¬ j < i := fun hl => hno j hl hj e2
      omega
  · exact absurd he (hno n hn)

theorem fns_next {fns : List (Nm × Nat)} {n : Nat} {p : Nm × Nat} {r : List (Nm × Nat)} (h : fns.drop n = p :: r) : ∃ hn : n < fns.length, fns[n] = p ∧ fns.drop (n + 1) = r ∧ (fns.take (n + 1)).map (·.1) = (fns.take n).map (·.1) ++ [p.1] := by
  have hn : n < fns.length := by
    apply Decidable.byContradiction
    intro h2
    rw [List.drop_eq_nil_of_le (by omega)] at h
    cases h
  rw [List.drop_eq_getElem_cons hn] at h
  injection h with h1 h2
  refine ⟨hn, h1, h2, ?_⟩
  rw [List.take_succ_eq_append_getElem hn, List.map_append, h1]
  rfl

/- a program's forest, tree by tree -/
theorem sensT_fn (fns : List (Nm × Nat)) (x y : Nat) (l : Lab) (ch sib : BT Lab) (seen cur : List Nm) (f : Flt) (h : l.kd = 20) : sensT fns (.node x y l ch sib) seen cur f = sensT fns sib (seen ++ [l.s]) cur (sens fns ch cur (prmF l.ps [] (wrongF (decide (l.s ∈ seen)) 3 l.line f)).1 0 true (prmF l.ps [] (wrongF (decide (l.s ∈ seen)) 3 l.line f)).2).2 := by
  rw [sensT, if_pos h]
theorem sensT_st (fns : List (Nm × Nat)) (x y : Nat) (l : Lab) (ch sib : BT Lab) (seen cur : List Nm) (f : Flt) (h : l.kd ≠ 20) : sensT fns (.node x y l ch sib) seen cur f = sensT fns sib seen (sens fns (.node x y l ch .nil) [] cur 0 false f).1 (sens fns (.node x y l ch .nil) [] cur 0 false f).2 := by
  rw [sensT, if_neg h]
theorem fnsOf_fn (x y : Nat) (l : Lab) (ch sib : BT Lab) (h : l.kd = 20) : fnsOf (.node x y l ch sib) = (l.s, l.ps.length) :: fnsOf sib := by
  rw [fnsOf, if_pos h]
theorem fnsOf_st (x y : Nat) (l : Lab) (ch sib : BT Lab) (h : l.kd ≠ 20) : fnsOf (.node x y l ch sib) = fnsOf sib := by
  rw [fnsOf, if_neg h]
end Go.Proofs.YtgccmgjbbcndbaaGreatDoor
/- Plain mathematics: groups taken away from a whole program. -/
namespace Go.Proofs.YtgccmgjbbcndbaaGreatDoor
open Go.Deep (BT)

theorem KdT.ung : ∀ f : BT Lab, KdT f → KdT (ung f) := by
  intro f
  induction f with
  | nil => intro h; exact h
  | node x y l c r ih1 ih2 =>
    intro h
    rw [YtgccmgjbbcndbaaGreatDoor.ung]
    split
    · exact KdT.app _ _ (Kd.top _ (Kd.ung c h.2.1)) (ih2 h.2.2)
    · exact ⟨h.1, Kd.ung c h.2.1, ih2 h.2.2⟩

theorem okKd_fn {kd : Nat} (h : okKd kd = true) : kd ≠ 20 := by
  intro e; subst e; exact absurd h (by decide)

theorem fnsOf_app : ∀ f g : BT Lab, Kd f → fnsOf (bapp f g) = fnsOf g := by
  intro f
  induction f with
  | nil => intro g _; rfl
  | node x y l c r _ ih => intro g h; rw [bapp, fnsOf_st _ _ _ _ _ (okKd_fn h.1)]; exact ih g h.2.2
theorem fnsOf_ung : ∀ f : BT Lab, KdT f → fnsOf (ung f) = fnsOf f := by
  intro f
  induction f with
  | nil => intro _; rfl
  | node x y l c r _ ih =>
    intro h
    rw [ung]
    split
    · rename_i h8
      rw [fnsOf_app _ _ (Kd.ung c h.2.1), ih h.2.2, fnsOf_st _ _ _ _ _ (by omega)]
    · rw [fnsOf, fnsOf, ih h.2.2]

theorem sensT_app (fns : List (Nm × Nat)) : ∀ (f g : BT Lab), Kd f → ∀ (seen cur : List Nm) (v : Flt), sensT fns (bapp f g) seen cur v = sensT fns g seen (sens fns f [] cur 0 false v).1 (sens fns f [] cur 0 false v).2 := by
  intro f
  induction f with
  | nil => intro g _ seen cur v; rfl
  | node x y l c r _ ih =>
    intro g h seen cur v
    rw [bapp, sensT_st _ _ _ _ _ _ _ _ _ (okKd_fn h.1), ih g h.2.2, sens_sib fns x y l c r]
theorem sensT_ung (fns : List (Nm × Nat)) : ∀ (f : BT Lab), Sane f → KdT f → ∀ (seen cur : List Nm) (v : Flt), sensT fns (ung f) seen cur v = sensT fns f seen cur v := by
  intro f
  induction f with
  | nil => intro _ _ seen cur v; rfl
  | node x y l c r _ ih =>
    intro hs hk seen cur v
    have i2 := ih hs.2.2.2.2 hk.2.2
    have hs1 : Sane (.node x y l c .nil) := ⟨hs.1, hs.2.1, hs.2.2.1, hs.2.2.2.1, trivial⟩
    have i1 := sens_ung fns (.node x y l c .nil) hs1
    rw [ung] at i1 ⊢
    by_cases h8 : l.kd = 8
    · rw [if_pos h8] at i1 ⊢
      rw [show ung .nil = .nil from rfl, bapp_nil] at i1
      rw [sensT_app fns _ _ (Kd.ung c hk.2.1), i1, i2, sensT_st _ _ _ _ _ _ _ _ _ (by omega)]
    · rw [if_neg h8] at i1 ⊢
      by_cases h20 : l.kd = 20
      · rw [sensT_fn _ _ _ _ _ _ _ _ _ h20, sensT_fn _ _ _ _ _ _ _ _ _ h20, i2, sens_ung fns c hs.2.2.2.1]
      · rw [sensT_st _ _ _ _ _ _ _ _ _ h20, sensT_st _ _ _ _ _ _ _ _ _ h20, i2]
        rw [show ung .nil = .nil from rfl] at i1
        rw [i1]
end Go.Proofs.YtgccmgjbbcndbaaGreatDoor
/- Plain mathematics: what the tokens of a text are like. -/
namespace Go.Proofs.YtgccmgjbbcndbaaGreatDoor
open Go.Deep (BT)

theorem ite_le {p : Prop} [Decidable p] {a b m : Nat} (ha : a ≤ m) (hb : b ≤ m) : (if p then a else b) ≤ m := by
  split
  · exact ha
  · exact hb
theorem wordNo_le (l : List UInt8) : wordNo l ≤ 17 := by
  unfold wordNo
  repeat refine ite_le (by decide) ?_
  exact Nat.zero_le _
theorem sign2_le (c d : UInt8) : sign2 c d ≤ 40 := by
  unfold sign2
  repeat refine ite_le (by decide) ?_
  exact Nat.zero_le _
theorem sign1_le (c : UInt8) : sign1 c ≤ 40 := by
  unfold sign1
  repeat refine ite_le (by decide) ?_
  exact Nat.zero_le _
theorem signAt_fit (l : List UInt8) (h : (signAt l).2 ≠ 0) : 1 ≤ (signAt l).1 ∧ (signAt l).1 ≤ 40 := by
  unfold signAt at h ⊢
  split
  · exact absurd rfl h
  · rename_i c
    simp only at h
    split
    · rename_i h1; rw [if_pos h1] at h; exact absurd rfl h
    · rename_i h1
      have := sign1_le c
      have h2 : sign1 c ≠ 0 := fun e => h1 (by rw [e]; rfl)
      exact ⟨by show 1 ≤ sign1 c; omega, this⟩
  · rename_i c d r
    simp only at h
    split
    · rename_i h1
      have := sign2_le c d
      have h2 : sign2 c d ≠ 0 := by simpa using h1
      exact ⟨by show 1 ≤ sign2 c d; omega, this⟩
    · rename_i h0
      rw [if_neg h0] at h
      split
      · rename_i h1; rw [if_pos h1] at h; exact absurd rfl h
      · rename_i h1
        have := sign1_le c
        have h2 : sign1 c ≠ 0 := fun e => h1 (by rw [e]; rfl)
        exact ⟨by show 1 ≤ sign1 c; omega, this⟩

theorem tokAt_fit (c : UInt8) (r : List UInt8) (t : Tk) (n : Nat) (h : tokAt (c :: r) = some (t, n)) : 1 ≤ t.k ∧ t.k ≤ 40 ∧ 1 ≤ n := by
  rw [tokAt] at h
  split at h
  · rename_i hd
    split at h
    · injection h with h; injection h with h1 h2; subst h1 h2
      refine ⟨by simp, by simp, ?_⟩
      rw [List.takeWhile_cons, if_pos hd]; simp
    · cases h
  · split at h
    · rename_i hl
      have hn : isNam c = true := by unfold isNam; rw [hl]; rfl
      split at h
      · rename_i hw
        injection h with h; injection h with h1 h2; subst h1 h2
        have := wordNo_le ((c :: r).takeWhile isNam)
        have hw2 : wordNo ((c :: r).takeWhile isNam) ≠ 0 := by simpa using hw
        refine ⟨by show 1 ≤ wordNo _; omega, by show wordNo _ ≤ 40; omega, ?_⟩
        rw [List.takeWhile_cons, if_pos hn]; simp
      · split at h
        · injection h with h; injection h with h1 h2; subst h1 h2
          refine ⟨by simp, by simp, ?_⟩
          rw [List.takeWhile_cons, if_pos hn]; simp
        · cases h
    · split at h
      · split at h
        · injection h with h; injection h with h1 h2; subst h1 h2
          exact ⟨by simp, by simp, by omega⟩
        · cases h
      · split at h
        · cases h
        · rename_i h0
          injection h with h; injection h with h1 h2; subst h1 h2
          have hz : (signAt (c :: r)).2 ≠ 0 := fun e => h0 (by rw [e]; rfl)
          exact ⟨(signAt_fit _ hz).1, (signAt_fit _ hz).2, by omega⟩

def LexOk (line : Nat) (m : Nat) : List Tk → Prop
  | [] => False
  | x :: r => line ≤ x.line ∧ x.line ≤ line + m ∧ x.k ≤ 40 ∧ ((x.k = 0 ∧ r = []) ∨ (x.k ≠ 0 ∧ LexOk line m r))

theorem LexOk.weak {a b m k : Nat} (h1 : b ≤ a) (h2 : a + m ≤ b + k) : ∀ ts, LexOk a m ts → LexOk b k ts := by
  intro ts
  induction ts with
  | nil => intro h; exact h
  | cons x r ih =>
    rintro ⟨k1, k2, k3, k4⟩
    refine ⟨by omega, by omega, k3, ?_⟩
    rcases k4 with h | ⟨h, h'⟩
    · exact .inl h
    · exact .inr ⟨h, ih h'⟩

def LexFit (line m : Nat) : Nat ⊕ List Tk → Prop
  | .inl n => line ≤ n ∧ n ≤ line + m
  | .inr ts => ts.length ≤ m + 1 ∧ LexOk line m ts
theorem LexFit.weak {a b m k : Nat} {x : Nat ⊕ List Tk} (h : LexFit a m x) (h1 : b ≤ a) (h2 : a + m ≤ b + k) (h3 : m ≤ k) : LexFit b k x := by
  cases x with
  | inl n => obtain ⟨k1, k2⟩ := h; exact ⟨by omega, by omega⟩
  | inr ts => obtain ⟨k1, k2⟩ := h; exact ⟨by omega, LexOk.weak h1 h2 _ k2⟩

theorem lex_fit : ∀ (f : Nat) (l : List UInt8) (line : Nat) (said : Bool), LexFit line l.length (lex f l line said) := by
  intro f
  induction f with
  | zero => intro l line said; rw [lex]; exact ⟨Nat.le_refl _, by omega⟩
  | succ f ih =>
    intro l line said
    cases l with
    | nil => rw [lex]; exact ⟨by simp, Nat.le_refl _, by simp, by simp, .inl ⟨rfl, rfl⟩⟩
    | cons c r =>
      rw [lex, List.length_cons]
      split
      · exact (ih r (line + 1) false).weak (by omega) (by omega) (by omega)
      · split
        · exact ⟨Nat.le_refl _, by omega⟩
        · split
          · exact (ih r line _).weak (by omega) (by omega) (by omega)
          · cases ht : tokAt (c :: r) with
            | none => exact ⟨Nat.le_refl _, by omega⟩
            | some p =>
              obtain ⟨t, n⟩ := p
              obtain ⟨k1, k2, k3⟩ := tokAt_fit c r t n ht
              have := ih ((c :: r).drop n) line false
              have hl : ((c :: r).drop n).length ≤ r.length := by rw [List.length_drop, List.length_cons]; omega
              show LexFit line (r.length + 1) (match lex f ((c :: r).drop n) line false with
                | .inl l => .inl l
                | .inr ts => .inr ({ t with line := line } :: ts))
              cases hx : lex f ((c :: r).drop n) line false with
              | inl m => rw [hx] at this; obtain ⟨j1, j2⟩ := this; exact ⟨by omega, by omega⟩
              | inr ts =>
                rw [hx] at this
                obtain ⟨j1, j2⟩ := this
                exact ⟨by rw [List.length_cons]; omega, Nat.le_refl _, by show line ≤ _; omega, k2, .inr ⟨by show t.k ≠ 0; omega, LexOk.weak (by omega) (by omega) _ j2⟩⟩

/- what the reader asks of the tokens -/
theorem LexOk.ends {line m : Nat} (h1 : 1 ≤ line) : ∀ ts, LexOk line m ts → EndOk ts := by
  intro ts
  induction ts with
  | nil => intro h; exact h
  | cons x r ih =>
    rintro ⟨k1, _, _, k4⟩
    refine ⟨by omega, ?_⟩
    rcases k4 with ⟨h, _⟩ | ⟨_, h⟩
    · exact .inl h
    · exact .inr (ih h)
theorem LexOk.last {line m : Nat} : ∀ ts, LexOk line m ts → ∀ i (h : i < ts.length), ts[i].k = 0 ↔ i + 1 = ts.length := by
  intro ts
  induction ts with
  | nil => intro h; exact absurd h id
  | cons x r ih =>
    rintro ⟨_, _, _, k4⟩ i hi
    rcases k4 with ⟨h, rfl⟩ | ⟨h, h2⟩
    · simp only [List.length_cons, List.length_nil] at hi ⊢
      obtain rfl : i = 0 := by omega
      simp [h]
    · cases i with
      | zero =>
        have : r ≠ [] := by rintro rfl; exact h2
        have : 0 < r.length := List.length_pos_iff.mpr this
        simp only [List.getElem_cons_zero, List.length_cons]
        omega
      | succ i =>
        simp only [List.getElem_cons_succ, List.length_cons] at hi ⊢
        have := ih h2 i (by omega)
        omega
theorem LexOk.mem {line m : Nat} : ∀ ts, LexOk line m ts → ∀ t ∈ ts, line ≤ t.line ∧ t.line ≤ line + m ∧ t.k ≤ 40 := by
  intro ts
  induction ts with
  | nil => intro _ t ht; cases ht
  | cons x r ih =>
    rintro ⟨k1, k2, k3, k4⟩ t ht
    rcases List.mem_cons.mp ht with rfl | ht
    · exact ⟨k1, k2, k3⟩
    · rcases k4 with ⟨_, rfl⟩ | ⟨_, h2⟩
      · cases ht
      · exact ih h2 t ht
end Go.Proofs.YtgccmgjbbcndbaaGreatDoor
/- Plain mathematics: the next token as the program's scanner goes: spaces first, then a token; and that all of them are those of the document. -/
namespace Go.Proofs.YtgccmgjbbcndbaaGreatDoor

/- lines that are passed; the token (its line is not told) and how far it goes; the end is token 0 -/
def nextQ (k : Nat) : List UInt8 → Option (Tk × Nat)
  | [] => some (⟨0, 0, [], 0⟩, k)
  | c :: r => (tokAt (c :: r)).map fun x => (x.1, k + x.2)
def nextP (l : List UInt8) : Nat × Option (Tk × Nat) := ((skpF false l).2.1, if (skpF false l).2.2 then nextQ (skpF false l).1 (l.drop (skpF false l).1) else none)

def preT (acc : List Tk) : Nat ⊕ List Tk → Nat ⊕ List Tk
  | .inl n => .inl n
  | .inr ts => .inr (acc ++ ts)
theorem preT_nil (x : Nat ⊕ List Tk) : preT [] x = x := by cases x <;> rfl
theorem preT_app (a b : List Tk) (x : Nat ⊕ List Tk) : preT a (preT b x) = preT (a ++ b) x := by cases x <;> simp [preT]

theorem tok_bad {c : UInt8} (r : List UInt8) (h : isPrt c = false) : tokAt (c :: r) = none := by
  have hn : ¬ (32 ≤ c.toNat ∧ c.toNat ≤ 126) := by
    intro e
    rw [isPrt, decide_eq_true e.1, decide_eq_true e.2] at h
    cases h
  have hd : isDig c = false := by
    rw [isDig]
    by_cases h1 : 48 ≤ c.toNat
    · rw [decide_eq_false (show ¬ c.toNat ≤ 57 by omega)]; simp
    · rw [decide_eq_false h1]; rfl
  have hl : isLet c = false := by
    rw [isLet]
    rw [Bool.or_eq_false_iff]
    constructor
    · by_cases h1 : 97 ≤ c.toNat
      · rw [decide_eq_false (show ¬ c.toNat ≤ 122 by omega)]; simp
      · rw [decide_eq_false h1]; rfl
    · by_cases h1 : 65 ≤ c.toNat
      · rw [decide_eq_false (show ¬ c.toNat ≤ 90 by omega)]; simp
      · rw [decide_eq_false h1]; rfl
  have hc : ∀ d : UInt8, 32 ≤ d.toNat → d.toNat ≤ 126 → (c == d) = false := by
    intro d h1 h2
    rw [beq_eq_false_iff_ne]
    intro e
    subst e
    exact hn ⟨h1, h2⟩
  have hs1 : sign1 c = 0 := by
    unfold sign1
    simp only [hc 40 (by decide) (by decide), hc 41 (by decide) (by decide), hc 123 (by decide) (by decide), hc 125 (by decide) (by decide), hc 91 (by decide) (by decide), hc 93 (by decide) (by decide), hc 44 (by decide) (by decide), hc 59 (by decide) (by decide), hc 61 (by decide) (by decide), hc 33 (by decide) (by decide), hc 60 (by decide) (by decide), hc 62 (by decide) (by decide), hc 43 (by decide) (by decide), hc 45 (by decide) (by decide), hc 42 (by decide) (by decide), hc 47 (by decide) (by decide), hc 37 (by decide) (by decide), Bool.false_eq_true, if_false]
  have hs2 : ∀ d, sign2 c d = 0 := by
    intro d
    unfold sign2
    simp only [hc 61 (by decide) (by decide), hc 33 (by decide) (by decide), hc 60 (by decide) (by decide), hc 62 (by decide) (by decide), hc 38 (by decide) (by decide), hc 124 (by decide) (by decide), Bool.false_and, Bool.false_eq_true, if_false]
  have hsg : (signAt (c :: r)) = (0, 0) := by
    cases r with
    | nil => rw [signAt, hs1]; rfl
    | cons d r => rw [signAt, hs2, hs1]; rfl
  rw [tokAt]
  simp only [hd, hl, hc 34 (by decide) (by decide), hsg, Bool.false_eq_true, if_false]
  rfl

/- spaces and remarks, as the document reads them -/
theorem lex_skp : ∀ (l : List UInt8) (f ln : Nat) (sd : Bool), l.length < f →
    lex f l ln sd = if (skpF sd l).2.2 then lex (f - (skpF sd l).1) (l.drop (skpF sd l).1) (ln + (skpF sd l).2.1) false else .inl (ln + (skpF sd l).2.1) := by
  intro l
  induction l with
  | nil =>
    intro f ln sd hf
    obtain ⟨f, rfl⟩ : ∃ g, f = g + 1 := ⟨f - 1, by simp at hf; omega⟩
    cases sd <;> simp [skpF, lex]
  | cons c r ih =>
    intro f ln sd hf
    obtain ⟨f, rfl⟩ : ∃ g, f = g + 1 := ⟨f - 1, by simp at hf; omega⟩
    have hf' : r.length < f := by simp at hf; omega
    rw [lex]
    by_cases h10 : (c == 10) = true
    · rw [if_pos h10]
      have hk : skpF sd (c :: r) = ((skpF false r).1 + 1, (skpF false r).2.1 + 1, (skpF false r).2.2) := by
        cases sd <;> rw [skpF, if_pos h10]
      rw [hk, ih f (ln + 1) false hf']
      simp only [List.drop_succ_cons, Nat.add_sub_add_right, show ∀ a, ln + 1 + a = ln + (a + 1) from fun a => by omega]
    · rw [if_neg h10]
      by_cases hb : (c != 9 && !(isPrt c)) = true
      · rw [if_pos hb]
        have h9 : c ≠ 9 := by intro e; subst e; exact absurd hb (by decide)
        have hp : isPrt c = false := by
          cases hq : isPrt c
          · rfl
          · rw [hq] at hb; simp at hb
        cases sd with
        | true => rw [skpF, if_neg h10, if_pos hb]; rfl
        | false =>
          have h32 : c ≠ 32 := by intro e; subst e; exact absurd hp (by decide)
          have h47 : c ≠ 47 := by intro e; subst e; exact absurd hp (by decide)
          have hk : skpF false (c :: r) = (0, 0, true) := skp_stop (by simpa using h10) h32 h9 (fun e => h47 e.1)
          rw [hk]
          simp only [if_true, List.drop_zero, Nat.sub_zero, Nat.add_zero]
          rw [lex, if_neg h10, if_pos hb]
      · rw [if_neg hb]
        cases sd with
        | true =>
          rw [if_pos (by simp), skpF, if_neg h10, if_neg hb]
          simp only [Bool.true_or, List.drop_succ_cons, Nat.add_sub_add_right]
          exact ih f ln true hf'
        | false =>
          by_cases hs : (c == 32 || c == 9) = true
          · have h47 : (c == 47) = false := by
              rw [beq_eq_false_iff_ne]; intro e; subst e; exact absurd hs (by decide)
            rw [if_pos (by simp only [Bool.false_or, Bool.or_eq_true]; simp only [Bool.or_eq_true] at hs; rcases hs with h | h; exact .inr h; exact .inl (.inr h))]
            rw [skpF, if_neg h10, if_pos hs]
            simp only [h47, Bool.false_and, Bool.or_false, List.drop_succ_cons, Nat.add_sub_add_right]
            exact ih f ln false hf'
          · by_cases hr : (c == 47 && r.head? == some 47) = true
            · rw [if_pos (by rw [hr]; simp), skpF, if_neg h10, if_neg hs, if_pos hr]
              simp only [hr, Bool.false_or, List.drop_succ_cons, Nat.add_sub_add_right]
              exact ih f ln true hf'
            · have hk : skpF false (c :: r) = (0, 0, true) := by rw [skpF, if_neg h10, if_neg hs, if_neg hr]
              rw [hk]
              simp only [if_true, List.drop_zero, Nat.sub_zero, Nat.add_zero]
              rw [lex, if_neg h10, if_neg hb]

theorem lex_fuel : ∀ (f : Nat) (l : List UInt8) (g ln : Nat) (sd : Bool), l.length < f → l.length < g → lex f l ln sd = lex g l ln sd := by
  intro f
  induction f with
  | zero => intro l g ln sd h; omega
  | succ f ih =>
    intro l g ln sd hf hg
    obtain ⟨g, rfl⟩ : ∃ h, g = h + 1 := ⟨g - 1, by omega⟩
    cases l with
    | nil => rw [lex, lex]
    | cons c r =>
      have h1 : r.length < f := by simp at hf; omega
      have h2 : r.length < g := by simp at hg; omega
      rw [lex, lex]
      split
      · exact ih _ _ _ _ h1 h2
      split
      · rfl
      split
      · exact ih _ _ _ _ h1 h2
      cases ht : tokAt (c :: r) with
      | none => rfl
      | some x =>
        obtain ⟨t, n⟩ := x
        have hn := (tokAt_fit c r t n ht).2.2
        have hd : ((c :: r).drop n).length ≤ r.length := by simp; omega
        simp only
        rw [ih ((c :: r).drop n) g ln false (by omega) (by omega)]

/- behind spaces no space and no remark stands -/
theorem skp_done : ∀ (l : List UInt8) (sd : Bool), (skpF sd l).2.2 = true → ∀ c r, l.drop (skpF sd l).1 = c :: r → c ≠ 10 ∧ c ≠ 32 ∧ c ≠ 9 ∧ ¬ (c = 47 ∧ r.head? = some 47) := by
  intro l
  induction l with
  | nil => intro sd _ c r h; simp at h
  | cons d q ih =>
    intro sd h c r hd
    cases sd with
    | true =>
      rw [skpF] at h hd
      split at h
      · rename_i h1
        rw [if_pos h1] at hd
        exact ih false h c r (by simpa using hd)
      · rename_i h1
        rw [if_neg h1] at hd
        split at h
        · cases h
        · rename_i h2
          rw [if_neg h2] at hd
          exact ih true h c r (by simpa using hd)
    | false =>
      rw [skpF] at h hd
      split at h
      · rename_i h1
        rw [if_pos h1] at hd
        exact ih false h c r (by simpa using hd)
      · rename_i h1
        rw [if_neg h1] at hd
        split at h
        · rename_i h2
          rw [if_pos h2] at hd
          exact ih false h c r (by simpa using hd)
        · rename_i h2
          rw [if_neg h2] at hd
          split at h
          · rename_i h3
            rw [if_pos h3] at hd
            exact ih true h c r (by simpa using hd)
          · rename_i h3
            rw [if_neg h3] at hd
            simp only [List.drop_zero, List.cons.injEq] at hd
            obtain ⟨rfl, rfl⟩ := hd
            simp only [Bool.or_eq_true, beq_iff_eq, not_or] at h2
            simp only [Bool.and_eq_true, beq_iff_eq] at h3
            exact ⟨by simpa using h1, h2.1, h2.2, h3⟩

theorem nx_none (l : List UInt8) (ln : Nat) (h : (nextP l).2 = none) : lex (l.length + 1) l ln false = .inl (ln + (nextP l).1) := by
  rw [lex_skp l _ ln false (by omega)]
  have hle := (skp_le l false).1
  unfold nextP at h ⊢
  cases hs : (skpF false l).2.2 with
  | false => simp
  | true =>
    simp only [hs, if_true] at h ⊢
    cases hd : l.drop (skpF false l).1 with
    | nil => rw [hd, nextQ] at h; cases h
    | cons c r =>
      rw [hd, nextQ] at h
      have ht : tokAt (c :: r) = none := by
        cases ht : tokAt (c :: r) with
        | none => rfl
        | some x => rw [ht] at h; cases h
      obtain ⟨f, hf⟩ : ∃ f, l.length + 1 - (skpF false l).1 = f + 1 := ⟨l.length - (skpF false l).1, by omega⟩
      obtain ⟨h10, h32, h9, h47⟩ := skp_done l false hs c r hd
      rw [hf, lex, if_neg (by simpa using h10)]
      by_cases hp : isPrt c = true
      · rw [if_neg (by simp [hp]), if_neg (by simp only [Bool.false_or, Bool.or_eq_true, Bool.and_eq_true, beq_iff_eq]; rintro ((h | h) | h); exact h47 h; exact h9 h; exact h32 h), ht]
      · have hp' : isPrt c = false := by simpa using hp
        rw [if_pos (by simp [hp', h9])]

theorem nx_some (l : List UInt8) (ln : Nat) (x : Tk × Nat) (h : (nextP l).2 = some x) : lex (l.length + 1) l ln false = (if x.1.k = 0 then .inr [⟨0, ln + (nextP l).1, [], 0⟩] else preT [⟨x.1.k, ln + (nextP l).1, x.1.s, x.1.n⟩] (lex ((l.drop x.2).length + 1) (l.drop x.2) (ln + (nextP l).1) false)) ∧ x.2 ≤ l.length ∧ (x.1.k = 0 → x.1 = ⟨0, 0, [], 0⟩) ∧ (x.1.k ≠ 0 → 1 ≤ x.2) ∧ (nextP l).1 ≤ x.2 := by
  rw [lex_skp l _ ln false (by omega)]
  have hle := skp_le l false
  unfold nextP at h ⊢
  cases hs : (skpF false l).2.2 with
  | false => rw [hs] at h; cases h
  | true =>
    simp only [hs, if_true] at h ⊢
    cases hd : l.drop (skpF false l).1 with
    | nil =>
      rw [hd, nextQ] at h
      obtain rfl := Option.some.inj h
      have hl : l.length + 1 - (skpF false l).1 = 1 := by
        have := congrArg List.length hd
        simp at this
        omega
      rw [if_pos rfl, hl, lex]
      exact ⟨rfl, hle.1, fun _ => rfl, fun e => absurd rfl e, hle.2⟩
    | cons c r =>
      have hlen : (c :: r).length = l.length - (skpF false l).1 := by rw [← hd]; simp
      rw [hd, nextQ] at h
      cases ht : tokAt (c :: r) with
      | none => rw [ht] at h; cases h
      | some y =>
        rw [ht] at h
        obtain ⟨t, n⟩ := y
        obtain rfl : (t, (skpF false l).1 + n) = x := Option.some.inj h
        obtain ⟨k1, _, k3⟩ := tokAt_fit c r t n ht
        have hn := tok_len (c :: r) t n ht
        obtain ⟨f, hf⟩ : ∃ f, l.length + 1 - (skpF false l).1 = f + 1 := ⟨l.length - (skpF false l).1, by omega⟩
        obtain ⟨h10, h32, h9, h47⟩ := skp_done l false hs c r hd
        refine ⟨?_, by simp only; omega, fun e => absurd e (by simp only; omega), fun _ => by simp only; omega, by simp only; omega⟩
        have hp : isPrt c = true := by
          cases hp : isPrt c with
          | true => rfl
          | false => rw [tok_bad r hp] at ht; cases ht
        rw [hf, lex, if_neg (by simpa using h10), if_neg (by simp [hp]), if_neg (by simp only [Bool.false_or, Bool.or_eq_true, Bool.and_eq_true, beq_iff_eq]; rintro ((h | h) | h); exact h47 h; exact h9 h; exact h32 h), ht]
        have hdn : (c :: r).drop n = l.drop ((skpF false l).1 + n) := by rw [← hd, List.drop_drop]
        have hll : (l.drop ((skpF false l).1 + n)).length < f := by
          simp only [List.length_drop]
          simp only [List.length_cons] at hlen
          omega
        simp only
        rw [if_neg (by omega), hdn, lex_fuel f _ ((l.drop ((skpF false l).1 + n)).length + 1) _ _ hll (by omega)]
        cases lex ((l.drop ((skpF false l).1 + n)).length + 1) (l.drop ((skpF false l).1 + n)) (ln + (skpF false l).2.1) false <;> rfl
end Go.Proofs.YtgccmgjbbcndbaaGreatDoor
/- The code's scanner: which word, which sign; next. -/
namespace Go.Proofs.YtgccmgjbbcndbaaGreatDoor
open Go.RowKit

theorem word_find (t : List UInt8) : wordNo t = ((wordL.find? fun p => p.1 == t).map (·.2)).getD 0 := by
  by_cases h0 : t = [102, 110]
  · subst h0; rfl
  by_cases h1 : t = [108, 101, 116]
  · subst h1; rfl
  by_cases h2 : t = [105, 102]
  · subst h2; rfl
  by_cases h3 : t = [101, 108, 115, 101]
  · subst h3; rfl
  by_cases h4 : t = [119, 104, 105, 108, 101]
  · subst h4; rfl
  by_cases h5 : t = [114, 101, 116, 117, 114, 110]
  · subst h5; rfl
  by_cases h6 : t = [98, 114, 101, 97, 107]
  · subst h6; rfl
  by_cases h7 : t = [99, 111, 110, 116, 105, 110, 117, 101]
  · subst h7; rfl
  by_cases h8 : t = [112, 114, 105, 110, 116]
  · subst h8; rfl
  by_cases h9 : t = [116, 114, 117, 101]
  · subst h9; rfl
  by_cases h10 : t = [102, 97, 108, 115, 101]
  · subst h10; rfl
  by_cases h11 : t = [110, 117, 108, 108]
  · subst h11; rfl
  by_cases h12 : t = [108, 101, 110]
  · subst h12; rfl
  by_cases h13 : t = [112, 117, 115, 104]
  · subst h13; rfl
  unfold wordNo wordL
  simp only [beq_eq_false_iff_ne.2 h0, beq_eq_false_iff_ne.2 h1, beq_eq_false_iff_ne.2 h2, beq_eq_false_iff_ne.2 h3, beq_eq_false_iff_ne.2 h4, beq_eq_false_iff_ne.2 h5, beq_eq_false_iff_ne.2 h6, beq_eq_false_iff_ne.2 h7, beq_eq_false_iff_ne.2 h8, beq_eq_false_iff_ne.2 h9, beq_eq_false_iff_ne.2 h10, beq_eq_false_iff_ne.2 h11, beq_eq_false_iff_ne.2 h12, beq_eq_false_iff_ne.2 h13, beq_eq_false_iff_ne.2 (Ne.symm h0), beq_eq_false_iff_ne.2 (Ne.symm h1), beq_eq_false_iff_ne.2 (Ne.symm h2), beq_eq_false_iff_ne.2 (Ne.symm h3), beq_eq_false_iff_ne.2 (Ne.symm h4), beq_eq_false_iff_ne.2 (Ne.symm h5), beq_eq_false_iff_ne.2 (Ne.symm h6), beq_eq_false_iff_ne.2 (Ne.symm h7), beq_eq_false_iff_ne.2 (Ne.symm h8), beq_eq_false_iff_ne.2 (Ne.symm h9), beq_eq_false_iff_ne.2 (Ne.symm h10), beq_eq_false_iff_ne.2 (Ne.symm h11), beq_eq_false_iff_ne.2 (Ne.symm h12), beq_eq_false_iff_ne.2 (Ne.symm h13), Bool.false_eq_true, if_false, List.find?_cons, List.find?_nil, Option.map_none, Option.getD_none]
theorem word_pos {t : List UInt8} {p : List UInt8 × Nat} (h : (wordL.find? fun p => p.1 == t) = some p) : wordNo t = p.2 ∧ p.2 ≠ 0 := by
  refine ⟨by rw [word_find, h]; rfl, ?_⟩
  have : ∀ q ∈ wordL, q.2 ≠ 0 := by decide
  exact this p (List.mem_of_find?_eq_some h)
theorem word_none {t : List UInt8} (h : (wordL.find? fun p => p.1 == t) = none) : wordNo t = 0 := by rw [word_find, h]; rfl

theorem pre1 (c a : UInt8) (r : List UInt8) : hasPre (c :: r) [a] = (c == a) := by
  unfold hasPre; simp
theorem pre2 (c d a b : UInt8) (r : List UInt8) : hasPre (c :: d :: r) [a, b] = (c == a && d == b) := by
  unfold hasPre
  rw [Bool.eq_iff_iff]; simp
theorem pre2s (c a b : UInt8) : hasPre [c] [a, b] = false := by
  unfold hasPre; simp

def SgIs (l : List UInt8) : Prop := (∃ p, signL.find? (fun p => hasPre l p.1) = some p ∧ signAt l = (p.2, p.1.length) ∧ p.1.length ≠ 0) ∨ (signL.find? (fun p => hasPre l p.1) = none ∧ signAt l = (0, 0))

theorem sign_one (c : UInt8) : SgIs [c] := by
  unfold SgIs signL
  simp only [List.find?_cons, List.find?_nil, pre2s, pre1]
  by_cases o40 : c = 40
  · subst o40; exact .inl ⟨([40], 18), rfl, rfl, by decide⟩
  by_cases o41 : c = 41
  · subst o41; exact .inl ⟨([41], 19), rfl, rfl, by decide⟩
  by_cases o123 : c = 123
  · subst o123; exact .inl ⟨([123], 20), rfl, rfl, by decide⟩
  by_cases o125 : c = 125
  · subst o125; exact .inl ⟨([125], 21), rfl, rfl, by decide⟩
  by_cases o91 : c = 91
  · subst o91; exact .inl ⟨([91], 22), rfl, rfl, by decide⟩
  by_cases o93 : c = 93
  · subst o93; exact .inl ⟨([93], 23), rfl, rfl, by decide⟩
  by_cases o44 : c = 44
  · subst o44; exact .inl ⟨([44], 24), rfl, rfl, by decide⟩
  by_cases o59 : c = 59
  · subst o59; exact .inl ⟨([59], 25), rfl, rfl, by decide⟩
  by_cases o61 : c = 61
  · subst o61; exact .inl ⟨([61], 26), rfl, rfl, by decide⟩
  by_cases o33 : c = 33
  · subst o33; exact .inl ⟨([33], 28), rfl, rfl, by decide⟩
  by_cases o60 : c = 60
  · subst o60; exact .inl ⟨([60], 30), rfl, rfl, by decide⟩
  by_cases o62 : c = 62
  · subst o62; exact .inl ⟨([62], 32), rfl, rfl, by decide⟩
  by_cases o43 : c = 43
  · subst o43; exact .inl ⟨([43], 34), rfl, rfl, by decide⟩
  by_cases o45 : c = 45
  · subst o45; exact .inl ⟨([45], 35), rfl, rfl, by decide⟩
  by_cases o42 : c = 42
  · subst o42; exact .inl ⟨([42], 36), rfl, rfl, by decide⟩
  by_cases o47 : c = 47
  · subst o47; exact .inl ⟨([47], 37), rfl, rfl, by decide⟩
  by_cases o37 : c = 37
  · subst o37; exact .inl ⟨([37], 38), rfl, rfl, by decide⟩
  right
  simp only [beq_eq_false_iff_ne.2 o40, beq_eq_false_iff_ne.2 o41, beq_eq_false_iff_ne.2 o123, beq_eq_false_iff_ne.2 o125, beq_eq_false_iff_ne.2 o91, beq_eq_false_iff_ne.2 o93, beq_eq_false_iff_ne.2 o44, beq_eq_false_iff_ne.2 o59, beq_eq_false_iff_ne.2 o61, beq_eq_false_iff_ne.2 o33, beq_eq_false_iff_ne.2 o60, beq_eq_false_iff_ne.2 o62, beq_eq_false_iff_ne.2 o43, beq_eq_false_iff_ne.2 o45, beq_eq_false_iff_ne.2 o42, beq_eq_false_iff_ne.2 o47, beq_eq_false_iff_ne.2 o37]
  refine ⟨trivial, ?_⟩
  unfold signAt sign1
  simp only [beq_eq_false_iff_ne.2 o40, beq_eq_false_iff_ne.2 o41, beq_eq_false_iff_ne.2 o123, beq_eq_false_iff_ne.2 o125, beq_eq_false_iff_ne.2 o91, beq_eq_false_iff_ne.2 o93, beq_eq_false_iff_ne.2 o44, beq_eq_false_iff_ne.2 o59, beq_eq_false_iff_ne.2 o61, beq_eq_false_iff_ne.2 o33, beq_eq_false_iff_ne.2 o60, beq_eq_false_iff_ne.2 o62, beq_eq_false_iff_ne.2 o43, beq_eq_false_iff_ne.2 o45, beq_eq_false_iff_ne.2 o42, beq_eq_false_iff_ne.2 o47, beq_eq_false_iff_ne.2 o37, Bool.false_eq_true, if_false]
  rfl
theorem sign_two (c d : UInt8) (r : List UInt8) : SgIs (c :: d :: r) := by
  unfold SgIs signL
  simp only [List.find?_cons, List.find?_nil, pre2, pre1]
  cases t27 : (c == 61 && d == 61)
  case true =>
    simp only [Bool.and_eq_true, beq_iff_eq] at t27
    obtain ⟨rfl, rfl⟩ := t27
    exact .inl ⟨([61, 61], 27), rfl, rfl, by decide⟩
  cases t29 : (c == 33 && d == 61)
  case true =>
    simp only [Bool.and_eq_true, beq_iff_eq] at t29
    obtain ⟨rfl, rfl⟩ := t29
    exact .inl ⟨([33, 61], 29), rfl, rfl, by decide⟩
  cases t31 : (c == 60 && d == 61)
  case true =>
    simp only [Bool.and_eq_true, beq_iff_eq] at t31
    obtain ⟨rfl, rfl⟩ := t31
    exact .inl ⟨([60, 61], 31), rfl, rfl, by decide⟩
  cases t33 : (c == 62 && d == 61)
  case true =>
    simp only [Bool.and_eq_true, beq_iff_eq] at t33
    obtain ⟨rfl, rfl⟩ := t33
    exact .inl ⟨([62, 61], 33), rfl, rfl, by decide⟩
  cases t39 : (c == 38 && d == 38)
  case true =>
    simp only [Bool.and_eq_true, beq_iff_eq] at t39
    obtain ⟨rfl, rfl⟩ := t39
    exact .inl ⟨([38, 38], 39), rfl, rfl, by decide⟩
  cases t40 : (c == 124 && d == 124)
  case true =>
    simp only [Bool.and_eq_true, beq_iff_eq] at t40
    obtain ⟨rfl, rfl⟩ := t40
    exact .inl ⟨([124, 124], 40), rfl, rfl, by decide⟩
  have h2 : sign2 c d = 0 := by
    unfold sign2
    simp only [t27, t29, t31, t33, t39, t40, Bool.false_eq_true, if_false]
  have hs : signAt (c :: d :: r) = if sign1 c == 0 then (0, 0) else (sign1 c, 1) := by
    rw [signAt, h2]; rfl
  rw [hs]
  clear hs h2 t27 t29 t31 t33 t39 t40
  by_cases o40 : c = 40
  · subst o40; exact .inl ⟨([40], 18), rfl, rfl, by decide⟩
  by_cases o41 : c = 41
  · subst o41; exact .inl ⟨([41], 19), rfl, rfl, by decide⟩
  by_cases o123 : c = 123
  · subst o123; exact .inl ⟨([123], 20), rfl, rfl, by decide⟩
  by_cases o125 : c = 125
  · subst o125; exact .inl ⟨([125], 21), rfl, rfl, by decide⟩
  by_cases o91 : c = 91
  · subst o91; exact .inl ⟨([91], 22), rfl, rfl, by decide⟩
  by_cases o93 : c = 93
  · subst o93; exact .inl ⟨([93], 23), rfl, rfl, by decide⟩
  by_cases o44 : c = 44
  · subst o44; exact .inl ⟨([44], 24), rfl, rfl, by decide⟩
  by_cases o59 : c = 59
  · subst o59; exact .inl ⟨([59], 25), rfl, rfl, by decide⟩
  by_cases o61 : c = 61
  · subst o61; exact .inl ⟨([61], 26), rfl, rfl, by decide⟩
  by_cases o33 : c = 33
  · subst o33; exact .inl ⟨([33], 28), rfl, rfl, by decide⟩
  by_cases o60 : c = 60
  · subst o60; exact .inl ⟨([60], 30), rfl, rfl, by decide⟩
  by_cases o62 : c = 62
  · subst o62; exact .inl ⟨([62], 32), rfl, rfl, by decide⟩
  by_cases o43 : c = 43
  · subst o43; exact .inl ⟨([43], 34), rfl, rfl, by decide⟩
  by_cases o45 : c = 45
  · subst o45; exact .inl ⟨([45], 35), rfl, rfl, by decide⟩
  by_cases o42 : c = 42
  · subst o42; exact .inl ⟨([42], 36), rfl, rfl, by decide⟩
  by_cases o47 : c = 47
  · subst o47; exact .inl ⟨([47], 37), rfl, rfl, by decide⟩
  by_cases o37 : c = 37
  · subst o37; exact .inl ⟨([37], 38), rfl, rfl, by decide⟩
  right
  simp only [beq_eq_false_iff_ne.2 o40, beq_eq_false_iff_ne.2 o41, beq_eq_false_iff_ne.2 o123, beq_eq_false_iff_ne.2 o125, beq_eq_false_iff_ne.2 o91, beq_eq_false_iff_ne.2 o93, beq_eq_false_iff_ne.2 o44, beq_eq_false_iff_ne.2 o59, beq_eq_false_iff_ne.2 o61, beq_eq_false_iff_ne.2 o33, beq_eq_false_iff_ne.2 o60, beq_eq_false_iff_ne.2 o62, beq_eq_false_iff_ne.2 o43, beq_eq_false_iff_ne.2 o45, beq_eq_false_iff_ne.2 o42, beq_eq_false_iff_ne.2 o47, beq_eq_false_iff_ne.2 o37]
  refine ⟨trivial, ?_⟩
  unfold sign1
  simp only [beq_eq_false_iff_ne.2 o40, beq_eq_false_iff_ne.2 o41, beq_eq_false_iff_ne.2 o123, beq_eq_false_iff_ne.2 o125, beq_eq_false_iff_ne.2 o91, beq_eq_false_iff_ne.2 o93, beq_eq_false_iff_ne.2 o44, beq_eq_false_iff_ne.2 o59, beq_eq_false_iff_ne.2 o61, beq_eq_false_iff_ne.2 o33, beq_eq_false_iff_ne.2 o60, beq_eq_false_iff_ne.2 o62, beq_eq_false_iff_ne.2 o43, beq_eq_false_iff_ne.2 o45, beq_eq_false_iff_ne.2 o42, beq_eq_false_iff_ne.2 o47, beq_eq_false_iff_ne.2 o37, Bool.false_eq_true, if_false]
  rfl
theorem sign_is (c : UInt8) (r : List UInt8) : SgIs (c :: r) := by
  cases r with
  | nil => exact sign_one c
  | cons d r => exact sign_two c d r
end Go.Proofs.YtgccmgjbbcndbaaGreatDoor
