import Derived.Test.YtgccmgjbbcndbaaGreatDoorM05
/- Walk of the code's scanner: skip. -/
namespace Go.Proofs.YtgccmgjbbcndbaaGreatDoor
open Go.RowKit

theorem hasPre_rem (l : List UInt8) (j : Nat) (h : j < l.length) : hasPre (l.drop j) [47, 47] = (l[j] == 47 && (l.drop (j + 1)).head? == some 47) := by
  unfold hasPre
  rw [List.drop_eq_getElem_cons h]
  cases hd : l.drop (j + 1) with
  | nil => simp
  | cons d r =>
    simp only [List.length_cons, List.length_nil, List.take_succ_cons, List.take_zero, List.head?_cons]
    have : decide (0 + 1 + 1 ≤ r.length + 1 + 1) = true := by simp
    rw [this, Bool.true_and]
    simp [Bool.beq_eq_decide_eq]

theorem stringsPrefix_is {l p : List UInt8} {v : Bool} (h : hasPre l p = v) (w : World) : Calls Tryz.prog 63 #[.string ⟨l.toArray⟩, .string ⟨p.toArray⟩] w fun e w' => e = .returned (.bool v) ∧ w' = w := by
  subst h; exact stringsPrefix l p w

def SkRel (b te : Nat) (l : List UInt8) (i line : Nat) (w : World) (k : Nat) (wr : World) : Prop :=
  ∃ j ln, i ≤ j ∧ j ≤ l.length ∧ j + k = l.length ∧ ln ≤ j + 1 ∧ i + (skpF false (l.drop i)).1 = j + (skpF false (l.drop j)).1 ∧ line + (skpF false (l.drop i)).2.1 = ln + (skpF false (l.drop j)).2.1 ∧ (skpF false (l.drop i)).2.2 = (skpF false (l.drop j)).2.2 ∧ Sc b te wr l j ln ∧ Only b w wr

set_option maxRecDepth 100000 in
set_option maxHeartbeats 4000000 in
theorem skip_any {b te : Nat} {w : World} {l : List UInt8} {i line : Nat} (h : Sc b te w l i line) (hl : l.length ≤ 100000) (hi : i ≤ l.length) (hln : line ≤ i + 1) :
    Calls Tryz.prog 47 #[.pointer (some ⟨b, 0, none⟩)] w fun e w' => e = .returned (.bool (skpF false (l.drop i)).2.2) ∧ Sc b te w' l (i + (skpF false (l.drop i)).1) (line + (skpF false (l.drop i)).2.1) ∧ Only b w w' := by
  have HH := hide h
  clear h
  go_enter Tryz.func47, Tryz.ntmps47
  go_wp2
  go_loopg [] (l.length - i) (fun k wr => SkRel b te l i line w k wr)
  case atStart => exact ⟨i, line, Nat.le_refl _, hi, by omega, hln, rfl, rfl, rfl, HH.out, Only.refl _ _⟩
  case round =>
    clear HH
    obtain ⟨j, ln, hij, hjl, hjk, hlj, hr1, hr2, hr3, hsc, ho⟩ := hrel
    obtain ⟨c0, c1, c2, fz, lb⟩ := hsc.cells
    have HSc := hide hsc
    have HO := hide ho
    have HR := hide (And.intro hr1 (And.intro hr2 hr3))
    clear hr1 hr2 hr3 hsc ho
    by_cases hlt : j < l.length
    · have hE : ∀ h, ((⟨l.toArray⟩ : ByteArray)[j]'h) = l[j] := fun h => byte_at l j h
      have hD : l.drop j = l[j] :: l.drop (j + 1) := List.drop_eq_getElem_cons hlt
      by_cases h10 : l[j] = 10
      · have t1 : ((l[j].toNat : Int) == 10) = true := bt_eq (d := 10) rfl h10
        have HK : Hid (skpF false (l.drop j) = ((skpF false (l.drop (j + 1))).1 + 1, (skpF false (l.drop (j + 1))).2.1 + 1, (skpF false (l.drop (j + 1))).2.2)) := by show _ = _; rw [hD]; exact skp_nl h10
        clear h10 hD
        go_wp2
        go_quiet (fail)
        have hs5 : Sc b te (wr.drewN nq) l j ln := HSc.out.keep rfl
        have HO5 : Hid (Only b w (wr.drewN nq)) := HO.out.drewN _
        clear c0 c1 c2 fz lb HSc HO
        generalize wr.drewN nq = w5 at *
        obtain ⟨c0, c1, c2, fz, lb⟩ := hs5.cells
        have HSc := hide hs5
        have HO := HO5
        clear hs5 HO5
        go_wp2
        go_quiet (fail)
        have hs6 : Sc b te (w5.drewN nq) l j ln := HSc.out.keep rfl
        have HO6 : Hid (Only b w (w5.drewN nq)) := HO.out.drewN _
        clear c0 c1 c2 fz lb HSc HO
        generalize w5.drewN nq = w6 at *
        obtain ⟨c0, c1, c2, fz, lb⟩ := hs6.cells
        have HSc := hide hs6
        have HO := HO6
        clear hs6 HO6
        go_wp2
        go_roundg (gk - 1)
        case measure => omega
        case rel =>
          refine ⟨j + 1, ln + 1, by omega, by omega, by omega, by omega, ?_, ?_, ?_, Sc.at (Sc.ln HSc.out (ln + 1) _ (by omega)) (j + 1) _ (by omega), Only.set (p := ⟨b, 1, none⟩) (Only.set (p := ⟨b, 2, none⟩) HO.out (.inl rfl) _) (.inl rfl) _⟩
          · rw [HR.out.1, HK.out]; show j + (_ + 1) = _; omega
          · rw [HR.out.2.1, HK.out]; show ln + (_ + 1) = _; omega
          · rw [HR.out.2.2, HK.out]
      · have t1 : ((l[j].toNat : Int) == 10) = false := bt_ne (d := 10) rfl h10
        by_cases hsp : l[j] = 32 ∨ l[j] = 9
        · have HK : Hid (skpF false (l.drop j) = ((skpF false (l.drop (j + 1))).1 + 1, (skpF false (l.drop (j + 1))).2.1, (skpF false (l.drop (j + 1))).2.2)) := by show _ = _; rw [hD]; exact skp_sp hsp
          have hb : ((l[j].toNat : Int) == 32) = true ∨ (((l[j].toNat : Int) == 32) = false ∧ ((l[j].toNat : Int) == 9) = true) := by
            by_cases h32 : l[j] = 32
            · exact .inl (bt_eq (d := 32) rfl h32)
            · exact .inr ⟨bt_ne (d := 32) rfl h32, bt_eq (d := 9) rfl (by rcases hsp with e | e; exact absurd e h32; exact e)⟩
          clear h10 hD hsp
          rcases hb with t2 | ⟨t2, t3⟩
          all_goals
            go_wp2
            go_quiet (fail)
            have hs5 : Sc b te (wr.drewN nq) l j ln := HSc.out.keep rfl
            have HO5 : Hid (Only b w (wr.drewN nq)) := HO.out.drewN _
            clear c0 c1 c2 fz lb HSc HO
            generalize wr.drewN nq = w5 at *
            obtain ⟨c0, c1, c2, fz, lb⟩ := hs5.cells
            have HSc := hide hs5
            have HO := HO5
            clear hs5 HO5
            go_wp2
            go_quiet (fail)
            have hs6 : Sc b te (w5.drewN nq) l j ln := HSc.out.keep rfl
            have HO6 : Hid (Only b w (w5.drewN nq)) := HO.out.drewN _
            clear c0 c1 c2 fz lb HSc HO
            generalize w5.drewN nq = w6 at *
            obtain ⟨c0, c1, c2, fz, lb⟩ := hs6.cells
            have HSc := hide hs6
            have HO := HO6
            clear hs6 HO6
            go_wp2
            go_quiet (fail)
            have hs7 : Sc b te (w6.drewN nq) l j ln := HSc.out.keep rfl
            have HO7 : Hid (Only b w (w6.drewN nq)) := HO.out.drewN _
            clear c0 c1 c2 fz lb HSc HO
            generalize w6.drewN nq = w7 at *
            obtain ⟨c0, c1, c2, fz, lb⟩ := hs7.cells
            have HSc := hide hs7
            have HO := HO7
            clear hs7 HO7
            go_wp2
            go_roundg (gk - 1)
            case measure => omega
            case rel =>
              refine ⟨j + 1, ln, by omega, by omega, by omega, by omega, ?_, ?_, ?_, Sc.at HSc.out (j + 1) _ (by omega), Only.set (p := ⟨b, 1, none⟩) HO.out (.inl rfl) _⟩
              · rw [HR.out.1, HK.out]; show j + (_ + 1) = _; omega
              · rw [HR.out.2.1, HK.out]
              · rw [HR.out.2.2, HK.out]
        · have t2 : ((l[j].toNat : Int) == 32) = false := bt_ne (d := 32) rfl (fun e => hsp (.inl e))
          have t3 : ((l[j].toNat : Int) == 9) = false := bt_ne (d := 9) rfl (fun e => hsp (.inr e))
          have HP := hide (hasPre_rem l j hlt)
          have hX : (⟨l.toArray⟩ : ByteArray).extract j l.length = ⟨(l.drop j).toArray⟩ := by rw [extract_arr, List.take_of_length_le (by simp)]
          have HX := hide hX
          clear hX
          cases hp : hasPre (l.drop j) [47, 47]
          · have HK : Hid (skpF false (l.drop j) = (0, 0, true)) := by
              show _ = _
              rw [hD]
              refine skp_stop h10 (fun e => hsp (.inl e)) (fun e => hsp (.inr e)) (fun e => ?_)
              have := HP.out
              rw [hp, e.1, e.2] at this
              exact absurd this (by decide)
            clear h10 hD hsp
            go_wp2
            go_quiet (fail)
            have hs5 : Sc b te (wr.drewN nq) l j ln := HSc.out.keep rfl
            have HO5 : Hid (Only b w (wr.drewN nq)) := HO.out.drewN _
            clear c0 c1 c2 fz lb HSc HO
            generalize wr.drewN nq = w5 at *
            obtain ⟨c0, c1, c2, fz, lb⟩ := hs5.cells
            have HSc := hide hs5
            have HO := HO5
            clear hs5 HO5
            go_wp2
            go_quiet (fail)
            have hs6 : Sc b te (w5.drewN nq) l j ln := HSc.out.keep rfl
            have HO6 : Hid (Only b w (w5.drewN nq)) := HO.out.drewN _
            clear c0 c1 c2 fz lb HSc HO
            generalize w5.drewN nq = w6 at *
            obtain ⟨c0, c1, c2, fz, lb⟩ := hs6.cells
            have HSc := hide hs6
            have HO := HO6
            clear hs6 HO6
            go_wp2
            go_quiet (fail)
            have hs7 : Sc b te (w6.drewN nq) l j ln := HSc.out.keep rfl
            have HO7 : Hid (Only b w (w6.drewN nq)) := HO.out.drewN _
            clear c0 c1 c2 fz lb HSc HO
            generalize w6.drewN nq = w7 at *
            obtain ⟨c0, c1, c2, fz, lb⟩ := hs7.cells
            have HSc := hide hs7
            have HO := HO7
            clear hs7 HO7
            have hX := HX.out
            go_wp2
            go_quiet ((go_at_call 63; exact Calls.quiet_of_same (stringsPrefix_is hp _)))
            clear hX
            have hs8 : Sc b te (w7.drewN nq) l j ln := HSc.out.keep rfl
            have HO8 : Hid (Only b w (w7.drewN nq)) := HO.out.drewN _
            clear c0 c1 c2 fz lb HSc HO
            generalize w7.drewN nq = w8 at *
            obtain ⟨c0, c1, c2, fz, lb⟩ := hs8.cells
            have HSc := hide hs8
            have HO := HO8
            clear hs8 HO8
            go_wp2
            go_ret
            rw [HR.out.1, HR.out.2.1, HR.out.2.2, HK.out]
            exact ⟨rfl, HSc.out, HO.out⟩
          · have hq := HP.out
            rw [hp] at hq
            have hq2 : l[j] = 47 ∧ (l.drop (j + 1)).head? = some 47 := by
              have := hq.symm
              simp only [Bool.and_eq_true, beq_iff_eq] at this
              exact this
            have hsk : skpF false (l.drop j) = skpF true (l.drop j) := by rw [hD]; exact skp_rem hq2.1 hq2.2
            have hrm := skp_remark (l.drop j)
            have hpos : 1 ≤ (remark (l.drop j)).1 := by
              rw [hD, remark, hq2.1, if_neg (by decide), if_neg (by decide)]
              simp
            have hle := remark_le (l.drop j)
            rw [List.length_drop] at hle
            have HK := hide (hsk.trans hrm)
            clear h10 hD hsp hq hq2 hsk hrm
            go_wp2
            go_quiet (fail)
            have hs5 : Sc b te (wr.drewN nq) l j ln := HSc.out.keep rfl
            have HO5 : Hid (Only b w (wr.drewN nq)) := HO.out.drewN _
            clear c0 c1 c2 fz lb HSc HO
            generalize wr.drewN nq = w5 at *
            obtain ⟨c0, c1, c2, fz, lb⟩ := hs5.cells
            have HSc := hide hs5
            have HO := HO5
            clear hs5 HO5
            go_wp2
            go_quiet (fail)
            have hs6 : Sc b te (w5.drewN nq) l j ln := HSc.out.keep rfl
            have HO6 : Hid (Only b w (w5.drewN nq)) := HO.out.drewN _
            clear c0 c1 c2 fz lb HSc HO
            generalize w5.drewN nq = w6 at *
            obtain ⟨c0, c1, c2, fz, lb⟩ := hs6.cells
            have HSc := hide hs6
            have HO := HO6
            clear hs6 HO6
            go_wp2
            go_quiet (fail)
            have hs7 : Sc b te (w6.drewN nq) l j ln := HSc.out.keep rfl
            have HO7 : Hid (Only b w (w6.drewN nq)) := HO.out.drewN _
            clear c0 c1 c2 fz lb HSc HO
            generalize w6.drewN nq = w7 at *
            obtain ⟨c0, c1, c2, fz, lb⟩ := hs7.cells
            have HSc := hide hs7
            have HO := HO7
            clear hs7 HO7
            have hX := HX.out
            go_wp2
            go_quiet ((go_at_call 63; exact Calls.quiet_of_same (stringsPrefix_is hp _)))
            clear hX
            have hs8 : Sc b te (w7.drewN nq) l j ln := HSc.out.keep rfl
            have HO8 : Hid (Only b w (w7.drewN nq)) := HO.out.drewN _
            clear c0 c1 c2 fz lb HSc HO
            generalize w7.drewN nq = w8 at *
            obtain ⟨c0, c1, c2, fz, lb⟩ := hs8.cells
            have HSc := hide hs8
            have HO := HO8
            clear hs8 HO8
            go_wp2_with fail
            refine (comment_any HSc.out hl hjl).mono ?_
            rintro e w9 ⟨rfl, hs9, ho9⟩
            have HSc9 := hide hs9
            have HO9 : Hid (Only b w w9) := HO.out.trans ho9
            clear hs9 ho9 c0 c1 c2 fz lb
            cases hrk : (remark (l.drop j)).2
            · go_wp2
              go_ret
              have hk := HK.out
              rw [hrk] at hk
              rw [HR.out.1, HR.out.2.1, HR.out.2.2, hk]
              exact ⟨rfl, HSc9.out, HO9.out⟩
            · have HK2 : Hid (skpF false (l.drop j) = ((remark (l.drop j)).1 + (skpF false (l.drop (j + (remark (l.drop j)).1))).1, (skpF false (l.drop (j + (remark (l.drop j)).1))).2.1, (skpF false (l.drop (j + (remark (l.drop j)).1))).2.2)) := by
                show _ = _
                have hk := HK.out
                rw [hrk, if_pos rfl, List.drop_drop] at hk
                exact hk
              clear HK
              generalize (remark (l.drop j)).1 = m at *
              go_wp2
              go_roundg (gk - m)
              case measure => omega
              case rel =>
                refine ⟨j + m, ln, by omega, by omega, by omega, by omega, ?_, ?_, ?_, HSc9.out, HO9.out⟩
                · rw [HR.out.1, HK2.out]; show j + (m + _) = _; omega
                · rw [HR.out.2.1, HK2.out]
                · rw [HR.out.2.2, HK2.out]
    · have HK : Hid (skpF false (l.drop j) = (0, 0, true)) := by
        show _ = _
        rw [List.drop_eq_nil_of_le (by omega), skpF]
      go_wp2
      go_quiet (fail)
      go_wp2
      go_ret
      rw [HR.out.1, HR.out.2.1, HR.out.2.2, HK.out]
      exact ⟨rfl, HSc.out.keep rfl, HO.out.drewN _⟩
end Go.Proofs.YtgccmgjbbcndbaaGreatDoor
/- Walk of the code's scanner: escape. -/
namespace Go.Proofs.YtgccmgjbbcndbaaGreatDoor
open Go.RowKit

/- the byte that is meant behind a backslash -/
def escB (c : UInt8) : Option UInt8 := if c == 34 || c == 92 then some c else if c == 110 then some 10 else none
def EscPost (b te : Nat) (w : World) (l : List UInt8) (i line : Nat) (e : Ending) (w' : World) : Prop :=
  (∃ (h : i < l.length) (v : UInt8), escB l[i] = some v ∧ e = .returned (.tuple #[.int .u8 v.toNat, .bool true]) ∧ Sc b te w' l (i + 1) line ∧ Only b w w') ∨
  ((∀ h : i < l.length, escB l[i] = none) ∧ e = .returned (.tuple #[.int .u8 0, .bool false]) ∧ (∃ i', Sc b te w' l i' line) ∧ Only b w w')

set_option maxRecDepth 100000 in
set_option maxHeartbeats 2000000 in
theorem escape_any {b te : Nat} {w : World} {l : List UInt8} {i line : Nat} (h : Sc b te w l i line) (hl : l.length ≤ 100000) (hi : i ≤ l.length) :
    Calls Tryz.prog 70 #[.pointer (some ⟨b, 0, none⟩)] w (EscPost b te w l i line) := by
  obtain ⟨c0, c1, c2, fz, lb⟩ := h.cells
  have HSc := hide h
  clear h
  by_cases hlt : i < l.length
  · have hE : ∀ h, ((⟨l.toArray⟩ : ByteArray)[i]'h) = l[i] := fun h => byte_at l i h
    have hne : ((i : Int) == (l.length : Int)) = false := by rw [beq_eq_false_iff_ne]; omega
    go_enter Tryz.func70, Tryz.ntmps70
    go_wp2
    go_quiet (fail)
    have hs5 : Sc b te (w.drewN nq) l i line := HSc.out.keep rfl
    have HO5 : Hid (Only b w (w.drewN nq)) := (Only.refl b w).drewN _
    clear c0 c1 c2 fz lb HSc
    generalize w.drewN nq = w5 at *
    obtain ⟨c0, c1, c2, fz, lb⟩ := hs5.cells
    have HSc := hide hs5
    clear hs5
    have fin : Hid (∀ w', Sc b te w' l (i + 1) line → Only b w5 w' → ∀ v, escB l[i] = some v → EscPost b te w l i line (.returned (.tuple #[.int .u8 v.toNat, .bool true])) w') := fun w' h1 h2 v hv => .inl ⟨hlt, v, hv, rfl, h1, HO5.out.trans h2⟩
    have fin0 : Hid (∀ w', Sc b te w' l (i + 1) line → Only b w5 w' → escB l[i] = none → EscPost b te w l i line (.returned (.tuple #[.int .u8 0, .bool false])) w') := fun w' h1 h2 hv => .inr ⟨fun _ => hv, rfl, ⟨_, h1⟩, HO5.out.trans h2⟩
    have hsplit : (((l[i].toNat : Int) == 34) = true ∧ escB l[i] = some l[i]) ∨ (((l[i].toNat : Int) == 34) = false ∧ ((l[i].toNat : Int) == 92) = true ∧ escB l[i] = some l[i]) ∨ (((l[i].toNat : Int) == 34) = false ∧ ((l[i].toNat : Int) == 92) = false ∧ ((l[i].toNat : Int) == 110) = true ∧ escB l[i] = some 10) ∨ (((l[i].toNat : Int) == 34) = false ∧ ((l[i].toNat : Int) == 92) = false ∧ ((l[i].toNat : Int) == 110) = false ∧ escB l[i] = none) := by
      by_cases e1 : l[i] = 34
      · exact .inl ⟨bt_eq (d := 34) rfl e1, by unfold escB; rw [e1]; rfl⟩
      · by_cases e2 : l[i] = 92
        · exact .inr (.inl ⟨bt_ne (d := 34) rfl e1, bt_eq (d := 92) rfl e2, by unfold escB; rw [e2]; rfl⟩)
        · by_cases e3 : l[i] = 110
          · exact .inr (.inr (.inl ⟨bt_ne (d := 34) rfl e1, bt_ne (d := 92) rfl e2, bt_eq (d := 110) rfl e3, by unfold escB; rw [e3]; rfl⟩))
          · refine .inr (.inr (.inr ⟨bt_ne (d := 34) rfl e1, bt_ne (d := 92) rfl e2, bt_ne (d := 110) rfl e3, ?_⟩))
            unfold escB
            rw [if_neg (by simp [e1, e2]), if_neg (by simp [e3])]
    rcases hsplit with ⟨q1, hv⟩ | ⟨q1, q2, hv⟩ | ⟨q1, q2, q3, hv⟩ | ⟨q1, q2, q3, hv⟩
    all_goals
      have HV := hide hv
      clear hv
      go_wp2
      go_quiet (fail)
      have hs6 : Sc b te (w5.drewN nq) l i line := HSc.out.keep rfl
      have HO6 : Hid (Only b w5 (w5.drewN nq)) := (Only.refl b w5).drewN _
      clear c0 c1 c2 fz lb HSc
      generalize w5.drewN nq = w6 at *
      obtain ⟨c0, c1, c2, fz, lb⟩ := hs6.cells
      have HSc := hide hs6
      clear hs6
      go_wp2
      go_ret2
      first
        | exact fin.out _ (HSc.out.at (i + 1) _ (by omega)) (Only.set (p := ⟨b, 1, none⟩) HO6.out (.inl rfl) _) _ HV.out
        | exact fin0.out _ (HSc.out.at (i + 1) _ (by omega)) (Only.set (p := ⟨b, 1, none⟩) HO6.out (.inl rfl) _) HV.out
  · obtain rfl : i = l.length := by omega
    have hne : (((l.length : Nat) : Int) == (l.length : Int)) = true := by simp
    go_enter Tryz.func70, Tryz.ntmps70
    go_wp2
    go_quiet (fail)
    go_wp2
    go_ret2
    exact .inr ⟨fun h => absurd h (by omega), rfl, ⟨_, HSc.out.keep rfl⟩, (Only.refl b w).drewN _⟩
end Go.Proofs.YtgccmgjbbcndbaaGreatDoor
