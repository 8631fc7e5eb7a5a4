import Derived.Test.YtgccmgjbbcndbaaGreatDoorM04
import Derived.Test.YtgccmgjbbcndbaaGreatDoorM01
/- Walks of the code's scanner: comment. -/
namespace Go.Proofs.YtgccmgjbbcndbaaGreatDoor
open Go.RowKit

theorem cprinting_is {c : UInt8} {v : Bool} (h : isPrt c = v) (w : World) : Calls Tryz.prog 69 #[.int .u8 c.toNat] w fun e w' => e = .returned (.bool v) ∧ w' = w := by
  subst h; exact cprinting c w

set_option maxRecDepth 100000 in
set_option maxHeartbeats 1000000 in
theorem comment_any {b te : Nat} {w : World} {l : List UInt8} {i line : Nat} (h : Sc b te w l i line) (hl : l.length ≤ 100000) (hi : i ≤ l.length) :
    Calls Tryz.prog 64 #[.pointer (some ⟨b, 0, none⟩)] w fun e w' => e = .returned (.bool (remark (l.drop i)).2) ∧ Sc b te w' l (i + (remark (l.drop i)).1) line ∧ Only b w w' := by
  have HH := hide h
  clear h
  go_enter Tryz.func64, Tryz.ntmps64
  go_wp2
  go_loopg [] (l.length - i) (fun k wr => ∃ j, i ≤ j ∧ j ≤ l.length ∧ j + k = l.length ∧ (remark (l.drop i)).2 = (remark (l.drop j)).2 ∧ i + (remark (l.drop i)).1 = j + (remark (l.drop j)).1 ∧ Sc b te wr l j line ∧ Only b w wr)
  case atStart => exact ⟨i, Nat.le_refl _, hi, by omega, rfl, rfl, HH.out, Only.refl _ _⟩
  case round =>
    clear HH
    obtain ⟨j, hij, hjl, hjk, hr1, hr2, hsc, ho⟩ := hrel
    obtain ⟨c0, c1, c2, fz, lb⟩ := hsc.cells
    have HSc := hide hsc
    have HO := hide ho
    have HR := hide (And.intro hr1 hr2)
    clear hr1 hr2 hsc ho
    by_cases hlt : j < l.length
    · have hE : ∀ h, ((⟨l.toArray⟩ : ByteArray)[j]'h) = l[j] := fun h => byte_at l j h
      have HD : Hid (remark (l.drop j) = if l[j] == 10 then (0, true) else if l[j] != 9 && !(isPrt l[j]) then (0, false) else ((remark (l.drop (j + 1))).1 + 1, (remark (l.drop (j + 1))).2)) := by
        show _ = _
        rw [List.drop_eq_getElem_cons hlt, remark]
      by_cases h10 : l[j] = 10
      · have t1 : ((l[j].toNat : Int) != 10) = false := bt_nq (d := 10) rfl h10
        have HD' : Hid (remark (l.drop j) = (0, true)) := by
          show _ = _
          rw [HD.out, h10]; rfl
        clear HD h10
        go_wp2
        go_quiet (fail)
        go_wp2
        go_ret
        rw [HR.out.1, HR.out.2, HD'.out]
        exact ⟨rfl, HSc.out.keep rfl, HO.out.drewN _⟩
      · have t1 : ((l[j].toNat : Int) != 10) = true := bt_nn (d := 10) rfl h10
        have HD1 : Hid (remark (l.drop j) = if l[j] != 9 && !(isPrt l[j]) then (0, false) else ((remark (l.drop (j + 1))).1 + 1, (remark (l.drop (j + 1))).2)) := by
          show _ = _
          rw [HD.out, beq_eq_false_iff_ne.2 h10]; rfl
        clear HD h10
        cases hp : isPrt l[j]
        · by_cases h9 : l[j] = 9
          · have t2 : ((l[j].toNat : Int) != 9) = false := bt_nq (d := 9) rfl h9
            have HD2 : Hid (remark (l.drop j) = ((remark (l.drop (j + 1))).1 + 1, (remark (l.drop (j + 1))).2)) := by
              show _ = _
              rw [HD1.out, h9]; rfl
            clear HD1 h9
            go_wp2
            go_quiet (fail)
            have hsc5 : Sc b te (wr.drewN nq) l j line := HSc.out.keep rfl
            have HO5 : Hid (Only b w (wr.drewN nq)) := HO.out.drewN _
            clear c0 c1 c2 fz lb HSc HO
            generalize wr.drewN nq = w5 at *
            obtain ⟨c0, c1, c2, fz, lb⟩ := hsc5.cells
            have HSc := hide hsc5
            clear hsc5
            go_wp2
            go_quiet ((go_at_call 69; exact Calls.quiet_of_same (cprinting_is hp _)))
            go_wp2
            go_roundg (gk - 1)
            case measure => omega
            case rel =>
              refine ⟨j + 1, by omega, by omega, by omega, ?_, ?_, Sc.at (HSc.out.keep (w' := w5.drewN _) rfl) (j + 1) _ (by omega), Only.set (p := ⟨b, 1, none⟩) (HO5.out.drewN _) (.inl rfl) _⟩
              · rw [HR.out.1, HD2.out]
              · rw [HR.out.2, HD2.out]; show j + (_ + 1) = _; omega
          · have t2 : ((l[j].toNat : Int) != 9) = true := bt_nn (d := 9) rfl h9
            have HD2 : Hid (remark (l.drop j) = (0, false)) := by
              show _ = _
              have : (l[j] != 9) = true := by simpa using h9
              rw [HD1.out, hp, this]; rfl
            clear HD1 h9
            go_wp2
            go_quiet (fail)
            have hsc5 : Sc b te (wr.drewN nq) l j line := HSc.out.keep rfl
            have HO5 : Hid (Only b w (wr.drewN nq)) := HO.out.drewN _
            clear c0 c1 c2 fz lb HSc HO
            generalize wr.drewN nq = w5 at *
            obtain ⟨c0, c1, c2, fz, lb⟩ := hsc5.cells
            have HSc := hide hsc5
            clear hsc5
            go_wp2
            go_quiet ((go_at_call 69; exact Calls.quiet_of_same (cprinting_is hp _)))
            go_wp2
            go_ret
            rw [HR.out.1, HR.out.2, HD2.out]
            exact ⟨rfl, HSc.out.keep rfl, HO5.out.drewN _⟩
        · have HD2 : Hid (remark (l.drop j) = ((remark (l.drop (j + 1))).1 + 1, (remark (l.drop (j + 1))).2)) := by
            show _ = _
            rw [HD1.out, hp, Bool.not_true, Bool.and_false]; rfl
          clear HD1
          go_wp2
          go_quiet (fail)
          have hsc5 : Sc b te (wr.drewN nq) l j line := HSc.out.keep rfl
          have HO5 : Hid (Only b w (wr.drewN nq)) := HO.out.drewN _
          clear c0 c1 c2 fz lb HSc HO
          generalize wr.drewN nq = w5 at *
          obtain ⟨c0, c1, c2, fz, lb⟩ := hsc5.cells
          have HSc := hide hsc5
          clear hsc5
          go_wp2
          go_quiet ((go_at_call 69; exact Calls.quiet_of_same (cprinting_is hp _)))
          go_wp2
          go_roundg (gk - 1)
          case measure => omega
          case rel =>
            refine ⟨j + 1, by omega, by omega, by omega, ?_, ?_, Sc.at (HSc.out.keep (w' := w5.drewN _) rfl) (j + 1) _ (by omega), Only.set (p := ⟨b, 1, none⟩) (HO5.out.drewN _) (.inl rfl) _⟩
            · rw [HR.out.1, HD2.out]
            · rw [HR.out.2, HD2.out]; show j + (_ + 1) = _; omega
    · have HD : Hid (remark (l.drop j) = (0, true)) := by
        show _ = _
        rw [List.drop_eq_nil_of_le (by omega), remark]
      go_wp2
      go_quiet (fail)
      go_wp2
      go_ret
      rw [HR.out.1, HR.out.2, HD.out]
      exact ⟨rfl, HSc.out.keep rfl, HO.out.drewN _⟩
end Go.Proofs.YtgccmgjbbcndbaaGreatDoor
/- Walks of the code's scanner: a text's beginning. -/
namespace Go.Proofs.YtgccmgjbbcndbaaGreatDoor
open Go.RowKit

def hasPre (l p : List UInt8) : Bool := decide (p.length ≤ l.length) && (l.take p.length == p)

set_option maxHeartbeats 1000000 in
theorem slitePrefix (l p : List UInt8) (w : World) :
    Calls Tryz.prog 86 #[.string ⟨l.toArray⟩, .string ⟨p.toArray⟩] w fun e w' => e = .returned (.bool (hasPre l p)) ∧ w' = w := by
  have HX : ∀ a b, (⟨l.toArray⟩ : ByteArray).extract a b = ⟨((l.drop a).take (b - a)).toArray⟩ := extract_arr l
  by_cases h : p.length ≤ l.length
  · have HE : Hid (hasPre l p = (l.take p.length == p)) := by show _ = _; unfold hasPre; rw [decide_eq_true h]; rfl
    go_enter Tryz.func86, Tryz.ntmps86
    go_wp2
    go_ret
    refine ⟨?_, rfl⟩
    rw [HE.out]; simp
  · have HE : Hid (hasPre l p = false) := by show _ = _; unfold hasPre; rw [decide_eq_false h]; rfl
    go_enter Tryz.func86, Tryz.ntmps86
    go_wp2
    go_ret
    refine ⟨?_, rfl⟩
    rw [HE.out]; simp
theorem stringsPrefix (l p : List UInt8) (w : World) :
    Calls Tryz.prog 63 #[.string ⟨l.toArray⟩, .string ⟨p.toArray⟩] w fun e w' => e = .returned (.bool (hasPre l p)) ∧ w' = w := by
  go_enter Tryz.func63, Tryz.ntmps63
  go_wp2_with fail
  refine (slitePrefix l p _).mono ?_
  rintro e w' ⟨rfl, rfl⟩
  go_wp2
  go_ret
  exact ⟨rfl, rfl⟩
end Go.Proofs.YtgccmgjbbcndbaaGreatDoor
