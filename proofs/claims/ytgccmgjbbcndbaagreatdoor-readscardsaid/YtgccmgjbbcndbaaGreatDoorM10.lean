import Derived.Test.YtgccmgjbbcndbaaGreatDoorM03
/- Walk of token: a name or a word. -/
namespace Go.Proofs.YtgccmgjbbcndbaaGreatDoor
open Go.RowKit

theorem tokAt_name (l : List UInt8) (i : Nat) (hi : i < l.length) (hd : isDig l[i] = false) (ha : isLet l[i] = true) :
    tokAt (l.drop i) = if wordNo ((l.drop i).takeWhile isNam) != 0 then some (⟨wordNo ((l.drop i).takeWhile isNam), 0, [], 0⟩, ((l.drop i).takeWhile isNam).length)
      else if ((l.drop i).takeWhile isNam).length ≤ 16 then some (⟨1, 0, (l.drop i).takeWhile isNam, 0⟩, ((l.drop i).takeWhile isNam).length) else none := by
  rw [List.drop_eq_getElem_cons hi, tokAt, if_neg (by simp [hd]), if_pos ha]

theorem let_nam (c : UInt8) (h : isLet c = true) : isNam c = true := by simp [isNam, h]

theorem refKind_word (k : Nat) (h : 4 ≤ k) (h' : k ≤ 17) : 119 = refKind k := by
  unfold refKind; rw [if_neg (by omega), if_neg (by omega), if_neg (by omega), if_neg (by omega), if_pos h']
theorem refKind_sign (k : Nat) (h : 18 ≤ k) : 115 = refKind k := by
  unfold refKind; rw [if_neg (by omega), if_neg (by omega), if_neg (by omega), if_neg (by omega), if_neg (by omega)]
theorem refS_word {n : Nat} {s : List UInt8} {m : Int} (k : Nat) (h : 4 ≤ k) : refS ⟨k, n, s, m⟩ = spell k := by
  unfold refS; rw [if_neg (by show ¬ (k = 1 ∨ k = 3); omega)]

set_option maxRecDepth 100000 in
set_option maxHeartbeats 1000000 in
theorem token_name (l : List UInt8) (i : Nat) (w : World) (hl : l.length ≤ 100000) (hi : i < l.length) (hd : isDig l[i] = false) (ha : isLet l[i] = true) :
    Calls Tryz.prog 18 #[.string ⟨l.toArray⟩, .int .i64 i] w fun e w' => ∃ K S N n, e = .returned (.tuple #[.agg #[.int .u8 K, .string ⟨S.toArray⟩, .int .i64 N, .int .i64 0], .int .i64 (n : Nat)]) ∧ TokOut (tokAt (l.drop i)) K S N n ∧ Below w.heap.size w w' := by
  have hE : ∀ h, ((⟨l.toArray⟩ : ByteArray)[i]'h) = l[i] := fun h => byte_at l i h
  go_enter Tryz.func18, Tryz.ntmps18
  go_wp2_with fail
  refine (digit_byte _ _).mono ?_
  rintro e w' ⟨rfl, rfl⟩
  go_wp2_with fail
  refine (letter_byte _ _).mono ?_
  rintro e w' ⟨rfl, rfl⟩
  go_wp2
  go_loop [7, 9] (fun t d => ∃ (k : Nat) (b : Bool), t = .int .i64 k ∧ d = .bool b ∧ i ≤ k ∧ k ≤ l.length ∧ ((l.drop i).takeWhile isNam = (l.drop i).take (k - i) ++ (l.drop k).takeWhile isNam) ∧ (b = true → ∃ h : k < l.length, isNam l[k] = true) ∧ (b = false → ∀ h : k < l.length, isNam l[k] = false)) (fun t _ => l.length - (intOf t).toNat)
  case atStart => exact ⟨i, true, rfl, rfl, Nat.le_refl _, by omega, tw_start _ _ _, (fun _ => ⟨hi, let_nam _ ha⟩), (fun h => by cases h)⟩
  case round =>
    obtain ⟨k, b, rfl, rfl, hk1, hk2, htw, hb1, hb2⟩ := hrel
    cases b
    · have HT := hide (tw_stop _ l i k (hb2 rfl) htw)
      clear htw hb1 hb2
      have HV := hide (tokAt_name l i hi hd ha)
      have HL : Hid (((l.drop i).take (k - i)).length = k - i) := by
        show _ = _
        simp; omega
      rw [HT.out] at HV
      have HA : Hid (∀ c ∈ (l.drop i).take (k - i), c ≠ 32) := by rw [← HT.out]; exact fun c hc => isNam_ne c (tw_all isNam _ c hc)
      have hx := extract_arr l i k
      clear HT
      generalize (l.drop i).take (k - i) = ds at *
      go_wp2_with fail
      refine (among_any ds wordsAll _ (by rw [HL.out]; omega) (by decide)).mono ?_
      rintro e w' ⟨rfl, rfl⟩
      rw [among_words ds HA.out]
      cases hw : wordNo ds != 0
      · rw [hw] at HV
        by_cases h16 : k - i ≤ 16
        · have h16' : (k : Int) - i ≤ 16 := by omega
          have HV2 : Hid (tokAt (l.drop i) = some (⟨1, 0, ds, 0⟩, k - i)) := by
            show _ = _
            rw [HV.out, if_neg (by simp), if_pos (by rw [HL.out]; exact h16), HL.out]
          clear HV
          go_wp2
          exact bodyPost_ret (v := .tuple #[.agg #[.int .u8 110, .string ⟨ds.toArray⟩, .int .i64 0, .int .i64 0], .int .i64 (k - i : Nat)]) (by simp [results, Tryz.results18, go_sem]; omega) rfl
            ⟨110, ds, 0, k - i, rfl, by rw [HV2.out]; exact ⟨rfl, rfl, (fun _ => rfl), rfl⟩, by repeat (first | exact Below.refl _ _ | refine Below.alloc ?_ (by simp) _ | refine Below.setCell ?_ (by simp) _ | refine Below.drew ?_)⟩
        · have h16' : 16 < (k : Int) - i := by omega
          have HV2 : Hid (tokAt (l.drop i) = none) := by
            show _ = _
            rw [HV.out, if_neg (by simp), if_neg (by rw [HL.out]; exact h16)]
          clear HV
          go_wp2
          exact bodyPost_ret (v := .tuple #[.agg #[.int .u8 110, .string ⟨ds.toArray⟩, .int .i64 0, .int .i64 0], .int .i64 (0 : Nat)]) (by simp [results, Tryz.results18, go_sem]) rfl
            ⟨110, ds, 0, 0, rfl, by rw [HV2.out]; rfl, by repeat (first | exact Below.refl _ _ | refine Below.alloc ?_ (by simp) _ | refine Below.setCell ?_ (by simp) _ | refine Below.drew ?_)⟩
      · rw [hw] at HV
        have hwn : wordNo ds ≠ 0 := by simpa using hw
        have HW := hide (wordNo_spell ds hwn)
        have h8 := wordNo_len ds hwn
        have h16' : (k : Int) - i ≤ 16 := by rw [HL.out] at h8; omega
        have HV2 : Hid (tokAt (l.drop i) = some (⟨wordNo ds, 0, [], 0⟩, k - i)) := by
          show _ = _
          rw [HV.out, if_pos rfl, HL.out]
        clear HV h8 hwn
        go_wp2
        exact bodyPost_ret (v := .tuple #[.agg #[.int .u8 119, .string ⟨ds.toArray⟩, .int .i64 0, .int .i64 0], .int .i64 (k - i : Nat)]) (by simp [results, Tryz.results18, go_sem]; omega) rfl
          ⟨119, ds, 0, k - i, rfl, by rw [HV2.out]; exact ⟨rfl, refKind_word _ HW.out.2.1 HW.out.2.2, (fun _ => by rw [refS_word _ HW.out.2.1]; exact HW.out.1.symm), rfl⟩, by repeat (first | exact Below.refl _ _ | refine Below.alloc ?_ (by simp) _ | refine Below.setCell ?_ (by simp) _ | refine Below.drew ?_)⟩
    · obtain ⟨hlt, hdk⟩ := hb1 rfl
      have HT := hide (tw_step _ l i k hk1 hlt hdk htw)
      clear htw hb1 hb2 hdk
      by_cases hlt2 : k + 1 < l.length
      · have hE2 : ∀ h, ((⟨l.toArray⟩ : ByteArray)[k + 1]'h) = l[k + 1] := fun h => byte_at l (k + 1) h
        cases h1 : isLet l[k + 1]
        · cases h2 : isDig l[k + 1]
          · cases h3 : ((l[k + 1].toNat : Int) == 95)
            all_goals
              have HN : Hid (isNam l[k + 1] = ((l[k + 1].toNat : Int) == 95)) := by
                show _ = _
                rw [isNam, h1, h2, Bool.false_or, Bool.false_or]
                by_cases e : l[k + 1] = 95
                · rw [bt_eq (n := 95) rfl e, e]; rfl
                · rw [bt_ne (n := 95) rfl e]; simpa using e
              go_wp2_with fail
              refine (letter_byte _ _).mono ?_
              rintro e w' ⟨rfl, rfl⟩
              go_wp2_with fail
              refine (digit_byte _ _).mono ?_
              rintro e w' ⟨rfl, rfl⟩
              go_wp2
              go_round
              case rel => exact ⟨k + 1, _, by go_num, rfl, by omega, by omega, HT.out, (fun h => ⟨hlt2, HN.out.trans (h3.trans h)⟩), (fun h _ => HN.out.trans (h3.trans h))⟩
              case measure => simp [intOf]; omega
          · have HN : Hid (isNam l[k + 1] = true) := by
              show _ = _
              rw [isNam, h1, h2]; rfl
            go_wp2_with fail
            refine (letter_byte _ _).mono ?_
            rintro e w' ⟨rfl, rfl⟩
            go_wp2_with fail
            refine (digit_byte _ _).mono ?_
            rintro e w' ⟨rfl, rfl⟩
            go_wp2
            go_round
            case rel => exact ⟨k + 1, true, by go_num, rfl, by omega, by omega, HT.out, (fun _ => ⟨hlt2, HN.out⟩), (fun h => by cases h)⟩
            case measure => simp [intOf]; omega
        · have HN : Hid (isNam l[k + 1] = true) := by
            show _ = _
            rw [isNam, h1]; rfl
          go_wp2_with fail
          refine (letter_byte _ _).mono ?_
          rintro e w' ⟨rfl, rfl⟩
          go_wp2
          go_round
          case rel => exact ⟨k + 1, true, by go_num, rfl, by omega, by omega, HT.out, (fun _ => ⟨hlt2, HN.out⟩), (fun h => by cases h)⟩
          case measure => simp [intOf]; omega
      · go_wp2
        go_round
        case rel => exact ⟨k + 1, _, by go_num, rfl, by omega, by omega, HT.out, (fun h => by cases h), (fun h hh => absurd hh hlt2)⟩
        case measure => simp [intOf]; omega
end Go.Proofs.YtgccmgjbbcndbaaGreatDoor
/- Walk of token: strings and signs; all of it. -/
namespace Go.Proofs.YtgccmgjbbcndbaaGreatDoor
open Go.RowKit

theorem tokAt_quote (l : List UInt8) (i : Nat) (hi : i < l.length) (hc : l[i] = 34) :
    tokAt (l.drop i) = match quot false (l.drop (i + 1)) with
      | some x => some (⟨3, 0, x.1, 0⟩, x.2 + 1)
      | none => none := by
  rw [List.drop_eq_getElem_cons hi, tokAt, if_neg (by rw [hc]; decide), if_neg (by rw [hc]; decide), if_pos (by rw [hc]; rfl)]
  cases quot false (l.drop (i + 1)) <;> rfl

theorem tokAt_sign (l : List UInt8) (i : Nat) (hi : i < l.length) (hd : isDig l[i] = false) (ha : isLet l[i] = false) (hc : l[i] ≠ 34) :
    tokAt (l.drop i) = if (signAt (l.drop i)).2 == 0 then none else some (⟨(signAt (l.drop i)).1, 0, [], 0⟩, (signAt (l.drop i)).2) := by
  rw [List.drop_eq_getElem_cons hi, tokAt, if_neg (by simp [hd]), if_neg (by simp [ha]), if_neg (by simpa using hc)]

set_option maxRecDepth 100000 in
set_option maxHeartbeats 1000000 in
theorem token_quote (l : List UInt8) (i : Nat) (w : World) (hl : l.length ≤ 100000) (hi : i < l.length) (hc : l[i] = 34) :
    Calls Tryz.prog 18 #[.string ⟨l.toArray⟩, .int .i64 i] w fun e w' => ∃ K S N n, e = .returned (.tuple #[.agg #[.int .u8 K, .string ⟨S.toArray⟩, .int .i64 N, .int .i64 0], .int .i64 (n : Nat)]) ∧ TokOut (tokAt (l.drop i)) K S N n ∧ Below w.heap.size w w' := by
  have hE : ∀ h, ((⟨l.toArray⟩ : ByteArray)[i]'h) = l[i] := fun h => byte_at l i h
  have hd : isDig l[i] = false := by rw [hc]; rfl
  have ha : isLet l[i] = false := by rw [hc]; rfl
  have t34 := bt_eq (n := 34) rfl hc
  have HV := hide (tokAt_quote l i hi hc)
  clear hc
  go_enter Tryz.func18, Tryz.ntmps18
  go_wp2_with fail
  refine (digit_byte _ _).mono ?_
  rintro e w' ⟨rfl, rfl⟩
  go_wp2_with fail
  refine (letter_byte _ _).mono ?_
  rintro e w' ⟨rfl, rfl⟩
  go_wp2_with fail
  refine (quoted_any l i _ hl hi).mono ?_
  rintro e w' ⟨rfl, hb⟩
  obtain ⟨hcl, hfz⟩ := bcell hb
  have hz : w.heap.size + 1 < w'.heap.size := by have := hb.size; simp at this; omega
  have c0 : w'.cell? ⟨w.heap.size, 0, none⟩ = some (.int .u8 0) := (hcl _ _ (by simp; omega)).trans (by simp [go_sem])
  have c1 : w'.cell? ⟨w.heap.size, 1, none⟩ = some (.string ⟨#[]⟩) := (hcl _ _ (by simp; omega)).trans (by simp [go_sem])
  have c2 : w'.cell? ⟨w.heap.size, 2, none⟩ = some (.int .i64 0) := (hcl _ _ (by simp; omega)).trans (by simp [go_sem])
  have c3 : w'.cell? ⟨w.heap.size, 3, none⟩ = some (.int .i64 0) := (hcl _ _ (by simp; omega)).trans (by simp [go_sem])
  go_wp2
  cases hq : quot false (l.drop (i + 1)) with
  | none =>
    rw [hq] at HV
    exact bodyPost_ret (v := .tuple #[.agg #[.int .u8 116, .string ⟨(qstr (quot false (l.drop (i + 1)))).toArray⟩, .int .i64 0, .int .i64 0], .int .i64 (qlen (quot false (l.drop (i + 1))) : Nat)]) (by simp [results, Tryz.results18, go_sem, c0, c1, c2, c3, hq]) rfl
          ⟨116, _, 0, _, rfl, by rw [HV.out, hq]; rfl, by repeat (first | exact Below.refl _ _ | exact (((Below.refl _ _).alloc (Nat.le_refl _) _).alloc (by simp) _).trans (hb.mono (by simp; omega)) | refine Below.alloc ?_ (by simp) _ | refine Below.setCell ?_ (by simp) _ | refine Below.drew ?_)⟩
  | some x =>
    rw [hq] at HV
    exact bodyPost_ret (v := .tuple #[.agg #[.int .u8 116, .string ⟨(qstr (quot false (l.drop (i + 1)))).toArray⟩, .int .i64 0, .int .i64 0], .int .i64 (qlen (quot false (l.drop (i + 1))) : Nat)]) (by simp [results, Tryz.results18, go_sem, c0, c1, c2, c3, hq]) rfl
          ⟨116, _, 0, _, rfl, by rw [HV.out, hq]; exact ⟨rfl, rfl, (fun _ => rfl), rfl⟩, by repeat (first | exact Below.refl _ _ | exact (((Below.refl _ _).alloc (Nat.le_refl _) _).alloc (by simp) _).trans (hb.mono (by simp; omega)) | refine Below.alloc ?_ (by simp) _ | refine Below.setCell ?_ (by simp) _ | refine Below.drew ?_)⟩

set_option maxRecDepth 100000 in
set_option maxHeartbeats 1000000 in
theorem token_sign (l : List UInt8) (i : Nat) (w : World) (hl : l.length ≤ 100000) (hi : i < l.length) (hd : isDig l[i] = false) (ha : isLet l[i] = false) (hc : l[i] ≠ 34) (hs : l[i] ≠ 32) :
    Calls Tryz.prog 18 #[.string ⟨l.toArray⟩, .int .i64 i] w fun e w' => ∃ K S N n, e = .returned (.tuple #[.agg #[.int .u8 K, .string ⟨S.toArray⟩, .int .i64 N, .int .i64 0], .int .i64 (n : Nat)]) ∧ TokOut (tokAt (l.drop i)) K S N n ∧ Below w.heap.size w w' := by
  have hE : ∀ h, ((⟨l.toArray⟩ : ByteArray)[i]'h) = l[i] := fun h => byte_at l i h
  have t34 := bt_ne (n := 34) rfl hc
  have HV := hide (tokAt_sign l i hi hd ha hc)
  have HS := hide hs
  have HW := hide (signAt_spell (l.drop i))
  have HL : Hid ((signAt (l.drop i)).2 ≤ l.length - i) := by
    by_cases h0 : (signAt (l.drop i)).2 = 0
    · show _ ≤ _; omega
    · have := (signAt_spell (l.drop i) h0).2.2.2
      rw [List.length_drop] at this; exact this
  clear hc hs
  have hx := extract_arr l i
  go_enter Tryz.func18, Tryz.ntmps18
  go_wp2_with fail
  refine (digit_byte _ _).mono ?_
  rintro e w' ⟨rfl, rfl⟩
  go_wp2_with fail
  refine (letter_byte _ _).mono ?_
  rintro e w' ⟨rfl, rfl⟩
  go_wp2_with fail
  refine (sign_any l i _ hl hi HS.out).mono ?_
  rintro e w' ⟨rfl, rfl⟩
  have hle : i + (signAt (l.drop i)).2 ≤ l.length := by have := HL.out; omega
  generalize hgn : (signAt (l.drop i)).2 = n at *
  generalize hgk : (signAt (l.drop i)).1 = kk at *
  have HGN := hide hgn
  have HGK := hide hgk
  clear hgn hgk
  by_cases h0 : n = 0
  · have HV2 : Hid (tokAt (l.drop i) = none) := by
      show _ = _
      rw [HV.out, h0]; rfl
    subst h0
    go_wp2
    exact bodyPost_ret (v := .tuple #[.agg #[.int .u8 115, .string ⟨[].toArray⟩, .int .i64 0, .int .i64 0], .int .i64 (0 : Nat)]) (by simp [results, Tryz.results18, go_sem]; rfl) rfl
      ⟨115, _, 0, 0, rfl, by rw [HV2.out]; rfl, by repeat (first | exact Below.refl _ _ | refine Below.alloc ?_ (by simp) _ | refine Below.setCell ?_ (by simp) _ | refine Below.drew ?_)⟩
  · have HV2 : Hid (tokAt (l.drop i) = some (⟨kk, 0, [], 0⟩, n)) := by
      show _ = _
      rw [HV.out, if_neg (by simpa using h0)]
    have HW2 := hide (HW.out h0)
    clear h0
    go_wp2
    exact bodyPost_ret (v := .tuple #[.agg #[.int .u8 115, .string ⟨((l.drop i).take (i + n - i)).toArray⟩, .int .i64 0, .int .i64 0], .int .i64 (n : Nat)]) (by simp [results, Tryz.results18, go_sem]) rfl
      ⟨115, _, 0, n, rfl, by rw [HV2.out]; exact ⟨rfl, refKind_sign _ HW2.out.2.1, (fun _ => by rw [refS_word _ (by have := HW2.out.2.1; omega), HW2.out.1, Nat.add_sub_cancel_left]), rfl⟩, by repeat (first | exact Below.refl _ _ | refine Below.alloc ?_ (by simp) _ | refine Below.setCell ?_ (by simp) _ | refine Below.drew ?_)⟩
end Go.Proofs.YtgccmgjbbcndbaaGreatDoor
