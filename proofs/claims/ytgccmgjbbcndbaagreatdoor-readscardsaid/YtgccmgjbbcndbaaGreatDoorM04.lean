import Derived.Test.YtgccmgjbbcndbaaGreatDoorM03
import Derived.Test.YtgccmgjbbcndbaaGreatDoorM02
import Derived.Deep.LoopGhost
import Derived.Deep.QuietTactic
import Derived.BigQuiet
/- Walks of the code: small functions on bytes. -/
namespace Go.Proofs.YtgccmgjbbcndbaaGreatDoor
open Go.RowKit

theorem isPrt_int (c : UInt8) : (decide (32 ≤ (c.toNat : Int)) && decide ((c.toNat : Int) ≤ 126)) = isPrt c := by
  unfold isPrt; congr 1 <;> (apply decide_eq_decide.2; omega)

set_option maxHeartbeats 400000 in
theorem cdigit (c : UInt8) (w : World) : Calls Tryz.prog 50 #[.int .u8 c.toNat] w fun e w' => e = .returned (.bool (isDig c)) ∧ w' = w := by
  rw [← isDig_int]
  have hn : 0 ≤ (c.toNat : Int) := by omega
  generalize (c.toNat : Int) = n at *
  by_cases h1 : 48 ≤ n <;> by_cases h2 : n ≤ 57
  all_goals
    go_enter Tryz.func50, Tryz.ntmps50
    go_wp2
    go_ret
    exact ⟨by simp [h1, h2], rfl⟩

set_option maxHeartbeats 400000 in
theorem cprinting (c : UInt8) (w : World) : Calls Tryz.prog 69 #[.int .u8 c.toNat] w fun e w' => e = .returned (.bool (isPrt c)) ∧ w' = w := by
  rw [← isPrt_int]
  have hn : 0 ≤ (c.toNat : Int) := by omega
  generalize (c.toNat : Int) = n at *
  by_cases h1 : 32 ≤ n <;> by_cases h2 : n ≤ 126
  all_goals
    go_enter Tryz.func69, Tryz.ntmps69
    go_wp2
    go_ret
    exact ⟨by simp [h1, h2], rfl⟩

set_option maxHeartbeats 400000 in
theorem cletter (c : UInt8) (w : World) : Calls Tryz.prog 48 #[.int .u8 c.toNat] w fun e w' => e = .returned (.bool (isLet c)) ∧ w' = w := by
  rw [← isLet_int]
  have hn : 0 ≤ (c.toNat : Int) := by omega
  generalize (c.toNat : Int) = n at *
  by_cases h1 : 97 ≤ n <;> by_cases h2 : n ≤ 122 <;> by_cases h3 : 65 ≤ n <;> by_cases h4 : n ≤ 90
  all_goals
    try (exfalso; omega)
  all_goals
    go_enter Tryz.func48, Tryz.ntmps48
    go_wp2
    go_ret
    exact ⟨by simp [h1, h2, h3, h4], rfl⟩

set_option maxHeartbeats 400000 in
theorem cnamepart (c : UInt8) (w : World) : Calls Tryz.prog 66 #[.int .u8 c.toNat] w fun e w' => e = .returned (.bool (isNam c)) ∧ w' = w := by
  have hN : isNam c = (isLet c || isDig c || (c == 95)) := rfl
  have h95 : (c == 95) = ((c.toNat : Int) == 95) := by
    by_cases h : c = 95
    · subst h; rfl
    · rw [beq_eq_false_iff_ne.2 h]
      symm
      rw [beq_eq_false_iff_ne]
      intro e
      exact h (UInt8.toNat_inj.1 (by show c.toNat = 95; omega))
  have HN := hide (hN.trans (by rw [h95]))
  clear hN h95
  cases h1 : isLet c <;> cases h2 : isDig c
  all_goals
    have HN2 := HN.out
    rw [h1, h2] at HN2
    have HN := hide HN2
    clear HN2
    go_enter Tryz.func66, Tryz.ntmps66
    go_wp2_with fail
    refine (cletter _ _).mono ?_
    rintro e w' ⟨rfl, rfl⟩
    rw [h1]
    go_wp2_with (go_at_call 50; refine (cdigit _ _).mono ?_; rintro e w' ⟨rfl, rfl⟩; rw [h2])
    go_ret
    exact ⟨by rw [HN.out]; simp, rfl⟩
end Go.Proofs.YtgccmgjbbcndbaaGreatDoor
/- Walks of the code's scanner: run. -/
namespace Go.Proofs.YtgccmgjbbcndbaaGreatDoor
open Go.RowKit

def Sc (b te : Nat) (w : World) (l : List UInt8) (i line : Nat) : Prop := w.heap[b]? = some (.cells #[.string ⟨l.toArray⟩, .int .i64 (i : Nat), .int .i64 (line : Nat)] te (0, 0))

theorem Sc.cells {b te : Nat} {w : World} {l : List UInt8} {i line : Nat} (h : Sc b te w l i line) : w.cell? ⟨b, 0, none⟩ = some (.string ⟨l.toArray⟩) ∧ w.cell? ⟨b, 1, none⟩ = some (.int .i64 (i : Nat)) ∧ w.cell? ⟨b, 2, none⟩ = some (.int .i64 (line : Nat)) ∧ (∀ o, w.frozen? ⟨b, o, none⟩ = false) ∧ b < w.heap.size :=
  ⟨cell_row h 0 _ rfl, cell_row h 1 _ rfl, cell_row h 2 _ rfl, frozen_row h, heap_lt h⟩
theorem Sc.at {b te : Nat} {w : World} {l : List UInt8} {i line : Nat} (h : Sc b te w l i line) (j : Nat) (q : Int) (hq : q = j) : Sc b te (w.setCell ⟨b, 1, none⟩ (.int .i64 q)) l j line := by
  subst hq
  have := heap_set (j := 1) h (.int .i64 (j : Nat))
  unfold Sc
  simpa using this
theorem Sc.ln {b te : Nat} {w : World} {l : List UInt8} {i line : Nat} (h : Sc b te w l i line) (j : Nat) (q : Int) (hq : q = j) : Sc b te (w.setCell ⟨b, 2, none⟩ (.int .i64 q)) l i j := by
  subst hq
  have := heap_set (j := 2) h (.int .i64 (j : Nat))
  unfold Sc
  simpa using this
theorem Sc.keep {b te : Nat} {w w' : World} {l : List UInt8} {i line : Nat} (h : Sc b te w l i line) (hk : w'.heap[b]? = w.heap[b]?) : Sc b te w' l i line := hk.trans h

set_option maxRecDepth 100000 in
set_option maxHeartbeats 1000000 in
theorem run_dig {b te : Nat} {w : World} {l : List UInt8} {i line : Nat} (h : Sc b te w l i line) (hl : l.length ≤ 100000) (hi : i ≤ l.length) :
    Calls Tryz.prog 65 #[.pointer (some ⟨b, 0, none⟩), .func (.func 50) #[] #[]] w fun e w' => e = .returned (.string ⟨((l.drop i).takeWhile isDig).toArray⟩) ∧ Sc b te w' l (i + ((l.drop i).takeWhile isDig).length) line ∧ Only b w w' := by
  obtain ⟨c0, c1, c2, fz, lb⟩ := h.cells
  have HX : Hid (∀ a b, (⟨l.toArray⟩ : ByteArray).extract a b = ⟨((l.drop a).take (b - a)).toArray⟩) := extract_arr l
  have HH := hide h
  clear h
  go_enter Tryz.func65, Tryz.ntmps65
  go_wp2
  clear c0 c1 c2 fz lb
  go_loopg [] (l.length - i) (fun k wr => ∃ j, i ≤ j ∧ j ≤ l.length ∧ j + k = l.length ∧ ((l.drop i).takeWhile isDig = (l.drop i).take (j - i) ++ (l.drop j).takeWhile isDig) ∧ Sc b te wr l j line ∧ Only b w wr)
  case atStart => exact ⟨i, Nat.le_refl _, hi, by omega, tw_start _ _ _, HH.out, Only.refl _ _⟩
  case round =>
    clear HH
    obtain ⟨j, hij, hjl, hjk, htw, hsc, ho⟩ := hrel
    obtain ⟨c0, c1, c2, fz, lb⟩ := hsc.cells
    have HSc := hide hsc
    have HO := hide ho
    by_cases hlt : j < l.length
    · have hE : ∀ h, ((⟨l.toArray⟩ : ByteArray)[j]'h) = l[j] := fun h => byte_at l j h
      have HT1 := hide (fun (hp : isDig l[j] = true) => tw_step isDig l i j hij hlt hp htw)
      have HT0 := hide (fun (hp : isDig l[j] = false) => tw_stop isDig l i j (fun _ => hp) htw)
      clear htw hsc ho
      cases hp : isDig l[j]
      · have HT := hide (HT0.out hp)
        go_wp2
        go_quiet ((go_at_call 50; exact Calls.quiet_of_same (cdigit _ _)))
        have HX' := HX.out
        go_wp2
        go_quiet (fail)
        go_wp2
        go_ret
        have hlen : ((l.drop i).take (j - i)).length = j - i := by simp; omega
        rw [HT.out]
        refine ⟨?_, ?_, (HO.out.drewN _).drewN _⟩
        · simp
        · rw [hlen, show i + (j - i) = j by omega]; exact HSc.out.keep rfl
      · have HT := hide (HT1.out hp)
        go_wp2
        go_quiet ((go_at_call 50; exact Calls.quiet_of_same (cdigit _ _)))
        go_wp2
        go_roundg (gk - 1)
        case measure => omega
        case rel => exact ⟨j + 1, by omega, by omega, by omega, HT.out, Sc.at (HSc.out.keep (w' := wr.drewN _) rfl) (j + 1) _ (by omega), Only.set (p := ⟨b, 1, none⟩) (HO.out.drewN _) (.inl rfl) _⟩
    · have HT := hide (tw_stop isDig l i j (fun h => absurd h hlt) htw)
      have HX' := HX.out
      clear htw hsc ho
      go_wp2
      go_quiet (fail)
      go_wp2
      go_quiet (fail)
      go_wp2
      go_ret
      have hlen : ((l.drop i).take (j - i)).length = j - i := by simp; omega
      rw [HT.out]
      refine ⟨?_, ?_, (HO.out.drewN _).drewN _⟩
      · simp
      · rw [hlen, show i + (j - i) = j by omega]; exact HSc.out.keep rfl

set_option maxRecDepth 100000 in
set_option maxHeartbeats 1000000 in
theorem run_nam {b te : Nat} {w : World} {l : List UInt8} {i line : Nat} (h : Sc b te w l i line) (hl : l.length ≤ 100000) (hi : i ≤ l.length) :
    Calls Tryz.prog 65 #[.pointer (some ⟨b, 0, none⟩), .func (.func 66) #[] #[]] w fun e w' => e = .returned (.string ⟨((l.drop i).takeWhile isNam).toArray⟩) ∧ Sc b te w' l (i + ((l.drop i).takeWhile isNam).length) line ∧ Only b w w' := by
  obtain ⟨c0, c1, c2, fz, lb⟩ := h.cells
  have HX : Hid (∀ a b, (⟨l.toArray⟩ : ByteArray).extract a b = ⟨((l.drop a).take (b - a)).toArray⟩) := extract_arr l
  have HH := hide h
  clear h
  go_enter Tryz.func65, Tryz.ntmps65
  go_wp2
  clear c0 c1 c2 fz lb
  go_loopg [] (l.length - i) (fun k wr => ∃ j, i ≤ j ∧ j ≤ l.length ∧ j + k = l.length ∧ ((l.drop i).takeWhile isNam = (l.drop i).take (j - i) ++ (l.drop j).takeWhile isNam) ∧ Sc b te wr l j line ∧ Only b w wr)
  case atStart => exact ⟨i, Nat.le_refl _, hi, by omega, tw_start _ _ _, HH.out, Only.refl _ _⟩
  case round =>
    clear HH
    obtain ⟨j, hij, hjl, hjk, htw, hsc, ho⟩ := hrel
    obtain ⟨c0, c1, c2, fz, lb⟩ := hsc.cells
    have HSc := hide hsc
    have HO := hide ho
    by_cases hlt : j < l.length
    · have hE : ∀ h, ((⟨l.toArray⟩ : ByteArray)[j]'h) = l[j] := fun h => byte_at l j h
      have HT1 := hide (fun (hp : isNam l[j] = true) => tw_step isNam l i j hij hlt hp htw)
      have HT0 := hide (fun (hp : isNam l[j] = false) => tw_stop isNam l i j (fun _ => hp) htw)
      clear htw hsc ho
      cases hp : isNam l[j]
      · have HT := hide (HT0.out hp)
        go_wp2
        go_quiet ((go_at_call 66; exact Calls.quiet_of_same (cnamepart _ _)))
        have HX' := HX.out
        go_wp2
        go_quiet (fail)
        go_wp2
        go_ret
        have hlen : ((l.drop i).take (j - i)).length = j - i := by simp; omega
        rw [HT.out]
        refine ⟨?_, ?_, (HO.out.drewN _).drewN _⟩
        · simp
        · rw [hlen, show i + (j - i) = j by omega]; exact HSc.out.keep rfl
      · have HT := hide (HT1.out hp)
        go_wp2
        go_quiet ((go_at_call 66; exact Calls.quiet_of_same (cnamepart _ _)))
        go_wp2
        go_roundg (gk - 1)
        case measure => omega
        case rel => exact ⟨j + 1, by omega, by omega, by omega, HT.out, Sc.at (HSc.out.keep (w' := wr.drewN _) rfl) (j + 1) _ (by omega), Only.set (p := ⟨b, 1, none⟩) (HO.out.drewN _) (.inl rfl) _⟩
    · have HT := hide (tw_stop isNam l i j (fun h => absurd h hlt) htw)
      have HX' := HX.out
      clear htw hsc ho
      go_wp2
      go_quiet (fail)
      go_wp2
      go_quiet (fail)
      go_wp2
      go_ret
      have hlen : ((l.drop i).take (j - i)).length = j - i := by simp; omega
      rw [HT.out]
      refine ⟨?_, ?_, (HO.out.drewN _).drewN _⟩
      · simp
      · rw [hlen, show i + (j - i) = j by omega]; exact HSc.out.keep rfl

end Go.Proofs.YtgccmgjbbcndbaaGreatDoor
