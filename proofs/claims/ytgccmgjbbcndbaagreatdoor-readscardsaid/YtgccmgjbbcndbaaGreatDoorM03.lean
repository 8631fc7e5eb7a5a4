import Derived.Test.YtgccmgjbbcndbaaGreatDoorM01
/- Walk of quoted. -/
namespace Go.Proofs.YtgccmgjbbcndbaaGreatDoor
open Go.RowKit

theorem infoByte : (Tryz.prog.info? 5).map (fun i => (i.zero, i.size, i.bytes)) = some (some (.int .u8 0), 1, 1) := by kernel_rfl

theorem conv_own {w : World} {base : Nat} {v : Value} {bs : List UInt8} (h : w.ownsRow base 5 1 v bs.length (bs.map byteV)) :
    (convert 124 9 v).run Tryz.prog w = .ok (.string ⟨bs.toArray⟩) w := by
  rcases h.2 with ⟨rfl, h0⟩ | ⟨g, cap, cur, rfl, hb, hg, hc1, hc2, hsz, ht⟩
  · have : bs = [] := List.length_eq_zero_iff.1 h0
    subst this
    rw [run_convert_bytes_string w 124 9 5 none 0 0 Tryz.underlying124 Tryz.underlying5 Tryz.underlying9]
    rfl
  · refine run_convert_bytes_back w 124 9 5 ⟨g, 0, none⟩ cap bs Tryz.underlying124 Tryz.underlying5 Tryz.underlying9 ?_
    intro j hj
    rw [Addr.add_lit, cell_of_row w g (0 + j) cur 5 (0, 0) hg]
    have e : cur.toList[j]? = (bs.map byteV)[j]? := by
      rw [← ht, List.getElem?_take, if_pos (by omega)]
    rw [Nat.zero_add, ← Array.getElem?_toList, e]
    simp [hj, byteV]

set_option maxRecDepth 100000 in
set_option maxHeartbeats 1000000 in
theorem quoted_any (l : List UInt8) (i : Nat) (w : World) (hl : l.length ≤ 100000) (hi : i < l.length) :
    Calls Tryz.prog 35 #[.string ⟨l.toArray⟩, .int .i64 i] w fun e w' => e = .returned (.tuple #[.string ⟨(qstr (quot false (l.drop (i + 1)))).toArray⟩, .int .i64 (qlen (quot false (l.drop (i + 1))))]) ∧ Below w.heap.size w w' := by
  obtain ⟨i0, hi0, hz0, hz1, hz2⟩ := info_parts infoByte
  go_enter Tryz.func35, Tryz.ntmps35
  go_wp2
  go_loopw [6, 7] (fun v t wr => ∃ (k : Nat) (acc : List UInt8), i + 1 ≤ k ∧ k ≤ l.length ∧ t = .int .i64 k ∧ wr.ownsRow w.heap.size 5 1 v acc.length (acc.map byteV) ∧ acc.length ≤ k ∧ Below w.heap.size w wr ∧
      quot false (l.drop (i + 1)) = qapp acc (k - (i + 1)) (quot false (l.drop k))) (fun _ t _ => l.length - (intOf t).toNat)
  case atStart => 
    refine ⟨i + 1, [], Nat.le_refl _, by omega, by go_num, World.ownsRow_nil _ _ _ _, by simp, Below.refl _ _, ?_⟩
    rw [Nat.sub_self]; cases quot false (l.drop (i + 1)) <;> simp [qapp]
  case round =>
    obtain ⟨k, acc, hk1, hk2, rfl, hown, hacc, hbel, hq⟩ := hrel
    have HQ := hide hq
    clear hq
    have fin : Hid (quot false (l.drop k) = none → qstr (quot false (l.drop (i + 1))) = [] ∧ qlen (quot false (l.drop (i + 1))) = 0) := by
      intro h; rw [HQ.out, h]; exact ⟨rfl, rfl⟩
    by_cases hlt : k < l.length
    · have hE : ∀ h, ((⟨l.toArray⟩ : ByteArray)[k]'h) = l[k] := fun h => byte_at l k h
      by_cases hp0 : (32 : Int) ≤ (l[k].toNat : Int)
      · by_cases hp1 : (l[k].toNat : Int) ≤ 126
        · have hp : Hid (isPrt l[k] = true) := by
            show _ = _
            simp only [isPrt, Bool.and_eq_true, decide_eq_true_eq]; omega
          by_cases h34 : l[k] = 34
          · have t34 := bt_eq (n := 34) rfl h34
            have HR := hide (quot_end l k hlt h34)
            have HF : Hid (quot false (l.drop (i + 1)) = some (acc, k - (i + 1) + 1)) := by
              show _ = _
              rw [HQ.out, HR.out]; simp [qapp]
            have hcv := conv_own hown
            clear h34 HR HQ fin
            go_wp2
            go_ret2
            exact ⟨by rw [HF.out]; simp [qstr, qlen]; omega, hbel⟩
          · have t34 := bt_ne (n := 34) rfl h34
            by_cases h92 : l[k] = 92
            · have t92 := bt_eq (n := 92) rfl h92
              by_cases hlt2 : k + 1 < l.length
              · have hE2 : ∀ h, ((⟨l.toArray⟩ : ByteArray)[k + 1]'h) = l[k + 1] := fun h => byte_at l (k + 1) h
                by_cases e34 : l[k + 1] = 34
                · have HR := hide (quot_esc l k hlt2 h92 (.inl e34))
                  have HN : Hid (quot false (l.drop (i + 1)) = qapp (acc ++ [l[k + 1]]) (k + 2 - (i + 1)) (quot false (l.drop (k + 2)))) := by
                    show _ = _
                    rw [HQ.out, HR.out, qapp_qapp, e34, show k - (i + 1) + 2 = k + 2 - (i + 1) by omega]; rfl
                  have u34 := bt_nq (n := 34) rfl e34
                  have u110 := bt_ne (c := l[k + 1]) (d := 110) (n := 110) rfl (by rw [e34]; decide)
                  clear h34 h92 e34 HR HQ fin
                  go_wp2_with (at_builtin; refine wpl_app wr #[byteV l[k + 1]] 5 rfl (.tmp 69) (.tmp 71) 124 rfl w.heap.size 1 1 (.int .u8 0) Tryz.underlying124 infoByte rfl (by omega) _ _ _ rfl rfl hown rfl (by intro u hu; simp at hu; subst hu; rfl) (by omega) (by omega) hbel.size ?_; intro g cap w1 hown1 hgrow hat hg)
                  go_roundw
                  case rel => exact ⟨k + 2, acc ++ [l[k + 1]], by omega, by omega, by go_num, by simpa using hown1, by simp; omega, hbel.grown hgrow hbel.size (own_ge hown), HN.out⟩
                  case measure => simp [intOf]; omega
                · by_cases e92 : l[k + 1] = 92
                  · have HR := hide (quot_esc l k hlt2 h92 (.inr (.inl e92)))
                    have HN : Hid (quot false (l.drop (i + 1)) = qapp (acc ++ [l[k + 1]]) (k + 2 - (i + 1)) (quot false (l.drop (k + 2)))) := by
                      show _ = _
                      rw [HQ.out, HR.out, qapp_qapp, e92, show k - (i + 1) + 2 = k + 2 - (i + 1) by omega]; rfl
                    have u34 := bt_nn (n := 34) rfl e34
                    have u92 := bt_nq (n := 92) rfl e92
                    have u110 := bt_ne (c := l[k + 1]) (d := 110) (n := 110) rfl (by rw [e92]; decide)
                    clear h34 h92 e34 e92 HR HQ fin
                    go_wp2_with (at_builtin; refine wpl_app wr #[byteV l[k + 1]] 5 rfl (.tmp 69) (.tmp 71) 124 rfl w.heap.size 1 1 (.int .u8 0) Tryz.underlying124 infoByte rfl (by omega) _ _ _ rfl rfl hown rfl (by intro u hu; simp at hu; subst hu; rfl) (by omega) (by omega) hbel.size ?_; intro g cap w1 hown1 hgrow hat hg)
                    go_roundw
                    case rel => exact ⟨k + 2, acc ++ [l[k + 1]], by omega, by omega, by go_num, by simpa using hown1, by simp; omega, hbel.grown hgrow hbel.size (own_ge hown), HN.out⟩
                    case measure => simp [intOf]; omega
                  · by_cases e110 : l[k + 1] = 110
                    · have HR := hide (quot_esc l k hlt2 h92 (.inr (.inr e110)))
                      have HN : Hid (quot false (l.drop (i + 1)) = qapp (acc ++ [10]) (k + 2 - (i + 1)) (quot false (l.drop (k + 2)))) := by
                        show _ = _
                        rw [HQ.out, HR.out, qapp_qapp, e110, show k - (i + 1) + 2 = k + 2 - (i + 1) by omega]; rfl
                      have u34 := bt_nn (n := 34) rfl e34
                      have u92 := bt_nn (n := 92) rfl e92
                      have u110 := bt_nq (n := 110) rfl e110
                      have v110 := bt_eq (n := 110) rfl e110
                      clear h34 h92 e34 e92 e110 HR HQ fin
                      go_wp2_with (at_builtin; refine wpl_app wr #[byteV 10] 5 rfl (.tmp 69) (.tmp 71) 124 rfl w.heap.size 1 1 (.int .u8 0) Tryz.underlying124 infoByte rfl (by omega) _ _ _ rfl rfl hown rfl (by intro u hu; simp at hu; subst hu; rfl) (by omega) (by omega) hbel.size ?_; intro g cap w1 hown1 hgrow hat hg)
                      go_roundw
                      case rel => exact ⟨k + 2, acc ++ [10], by omega, by omega, by go_num, by simpa using hown1, by simp; omega, hbel.grown hgrow hbel.size (own_ge hown), HN.out⟩
                      case measure => simp [intOf]; omega
                    · have HF := hide (fin.out (quot_esc_bad l k hlt2 h92 e34 e92 e110))
                      have u34 := bt_nn (n := 34) rfl e34
                      have u92 := bt_nn (n := 92) rfl e92
                      have u110 := bt_nn (n := 110) rfl e110
                      clear h34 h92 e34 e92 e110 HQ fin
                      go_wp2
                      go_ret2
                      exact ⟨by rw [HF.out.1, HF.out.2]; rfl, hbel⟩
              · have HF := hide (fin.out (quot_esc_out l k hlt h92 (by omega)))
                clear h34 h92 HQ fin
                go_wp2
                go_ret2
                exact ⟨by rw [HF.out.1, HF.out.2]; rfl, hbel⟩
            · have HR := hide (quot_plain l k hlt hp.out h34 h92)
              have HN : Hid (quot false (l.drop (i + 1)) = qapp (acc ++ [l[k]]) (k + 1 - (i + 1)) (quot false (l.drop (k + 1)))) := by
                show _ = _
                rw [HQ.out, HR.out, qapp_qapp, show k - (i + 1) + 1 = k + 1 - (i + 1) by omega]
              have t92 := bt_ne (n := 92) rfl h92
              clear h34 h92 HR HQ fin
              go_wp2_with (at_builtin; refine wpl_app wr #[byteV l[k]] 5 rfl (.tmp 69) (.tmp 71) 124 rfl w.heap.size 1 1 (.int .u8 0) Tryz.underlying124 infoByte rfl (by omega) _ _ _ rfl rfl hown rfl (by intro u hu; simp at hu; subst hu; rfl) (by omega) (by omega) hbel.size ?_; intro g cap w1 hown1 hgrow hat hg)
              go_roundw
              case rel => exact ⟨k + 1, acc ++ [l[k]], by omega, by omega, by go_num, by simpa using hown1, by simp; omega, hbel.grown hgrow hbel.size (own_ge hown), HN.out⟩
              case measure => simp [intOf]; omega
        · have HF := hide (fin.out (quot_bad l k hlt (by simp only [isPrt, Bool.and_eq_false_iff, decide_eq_false_iff_not]; omega)))
          go_wp2
          go_ret2
          exact ⟨by rw [HF.out.1, HF.out.2]; rfl, hbel⟩
      · have HF := hide (fin.out (quot_bad l k hlt (by simp only [isPrt, Bool.and_eq_false_iff, decide_eq_false_iff_not]; omega)))
        go_wp2
        go_ret2
        exact ⟨by rw [HF.out.1, HF.out.2]; rfl, hbel⟩
    · have HF := hide (fin.out (quot_out l k (by omega)))
      go_wp2
      go_ret2
      exact ⟨by rw [HF.out.1, HF.out.2]; rfl, hbel⟩
end Go.Proofs.YtgccmgjbbcndbaaGreatDoor
/- Walk of token: a number. -/
namespace Go.Proofs.YtgccmgjbbcndbaaGreatDoor
open Go.RowKit

theorem isDig_int (c : UInt8) : (decide (48 ≤ (c.toNat : Int)) && decide ((c.toNat : Int) ≤ 57)) = isDig c := by
  unfold isDig; congr 1 <;> (apply decide_eq_decide.2; omega)
theorem isLet_int (c : UInt8) : ((decide (97 ≤ (c.toNat : Int)) && decide ((c.toNat : Int) ≤ 122)) || (decide (65 ≤ (c.toNat : Int)) && decide ((c.toNat : Int) ≤ 90))) = isLet c := by
  unfold isLet; congr 1 <;> congr 1 <;> (apply decide_eq_decide.2; omega)

theorem digit_byte (c : UInt8) (w : World) : Calls Tryz.prog 31 #[.int .u8 c.toNat] w fun e w' => e = .returned (.bool (isDig c)) ∧ w' = w := by
  have := digit_any (c.toNat : Int) w
  rw [isDig_int] at this; exact this
theorem letter_byte (c : UInt8) (w : World) : Calls Tryz.prog 32 #[.int .u8 c.toNat] w fun e w' => e = .returned (.bool (isLet c)) ∧ w' = w := by
  have := letter_any (c.toNat : Int) w
  rw [isLet_int] at this; exact this

/- what token answers at a place -/
def TokOut (q : Option (Tk × Nat)) (K : Int) (S : List UInt8) (N : Int) (n : Nat) : Prop := match q with
  | none => n = 0
  | some x => n = x.2 ∧ K = refKind x.1.k ∧ (x.1.k ≠ 2 → S = refS x.1) ∧ N = x.1.n

theorem tokAt_digit (l : List UInt8) (i : Nat) (hi : i < l.length) (hd : isDig l[i] = true) :
    tokAt (l.drop i) = match numOf ((l.drop i).takeWhile isDig) with
      | some n => some (⟨2, 0, [], n⟩, ((l.drop i).takeWhile isDig).length)
      | none => none := by
  rw [List.drop_eq_getElem_cons hi, tokAt, if_pos hd]
  cases numOf ((l[i] :: l.drop (i + 1)).takeWhile isDig) <;> rfl

set_option maxRecDepth 100000 in
set_option maxHeartbeats 1000000 in
theorem token_digit (l : List UInt8) (i : Nat) (w : World) (hl : l.length ≤ 100000) (hi : i < l.length) (hd : isDig l[i] = true) :
    Calls Tryz.prog 18 #[.string ⟨l.toArray⟩, .int .i64 i] w fun e w' => ∃ K S N n, e = .returned (.tuple #[.agg #[.int .u8 K, .string ⟨S.toArray⟩, .int .i64 N, .int .i64 0], .int .i64 (n : Nat)]) ∧ TokOut (tokAt (l.drop i)) K S N n ∧ Below w.heap.size w w' := by
  have hE : ∀ h, ((⟨l.toArray⟩ : ByteArray)[i]'h) = l[i] := fun h => byte_at l i h
  have HX : Hid (∀ a b, (⟨l.toArray⟩ : ByteArray).extract a b = ⟨((l.drop a).take (b - a)).toArray⟩) := extract_arr l
  go_enter Tryz.func18, Tryz.ntmps18
  go_wp2_with fail
  refine (digit_byte _ _).mono ?_
  rintro e w' ⟨rfl, rfl⟩
  go_wp2_with fail
  refine (letter_byte _ _).mono ?_
  rintro e w' ⟨rfl, rfl⟩
  go_wp2
  go_loop [7, 8] (fun t d => ∃ (k : Nat) (b : Bool), t = .int .i64 k ∧ d = .bool b ∧ i ≤ k ∧ k ≤ l.length ∧ ((l.drop i).takeWhile isDig = (l.drop i).take (k - i) ++ (l.drop k).takeWhile isDig) ∧ (b = true → ∃ h : k < l.length, isDig l[k] = true) ∧ (b = false → ∀ h : k < l.length, isDig l[k] = false)) (fun t _ => l.length - (intOf t).toNat)
  case atStart => exact ⟨i, true, rfl, rfl, Nat.le_refl _, by omega, tw_start _ _ _, (fun _ => ⟨hi, hd⟩), (fun h => by cases h)⟩
  case round =>
    obtain ⟨k, b, rfl, rfl, hk1, hk2, htw, hb1, hb2⟩ := hrel
    cases b
    · have HT := hide (tw_stop _ l i k (hb2 rfl) htw)
      clear htw hb1 hb2
      have HV := hide (tokAt_digit l i hi hd)
      have HL : Hid (((l.drop i).take (k - i)).length = k - i) := by
        show _ = _
        simp; omega
      rw [HT.out] at HV
      have HA : Hid (∀ c ∈ (l.drop i).take (k - i), isDig c = true) := by rw [← HT.out]; exact tw_all isDig _
      have hx := extract_arr l i k
      clear HT
      generalize (l.drop i).take (k - i) = ds at *
      go_wp2_with fail
      refine (number_any ds _ (by rw [HL.out]; omega) HA.out).mono ?_
      rintro e w' ⟨rfl, rfl⟩
      cases hn : numOf ds with
      | none =>
        rw [hn] at HV
        simp only [Option.getD_none, Option.isSome_none]
        go_wp2
        exact bodyPost_ret (v := .tuple #[.agg #[.int .u8 0, .string ⟨[].toArray⟩, .int .i64 0, .int .i64 0], .int .i64 (0 : Nat)]) (by simp [results, Tryz.results18, go_sem]) rfl
          ⟨0, [], 0, 0, rfl, by rw [HV.out]; rfl, by repeat (first | exact Below.refl _ _ | refine Below.alloc ?_ (by simp) _ | refine Below.setCell ?_ (by simp) _ | refine Below.drew ?_)⟩
      | some n =>
        rw [hn] at HV
        simp only [Option.getD_some, Option.isSome_some]
        go_wp2
        exact bodyPost_ret (v := .tuple #[.agg #[.int .u8 105, .string ⟨ds.toArray⟩, .int .i64 n, .int .i64 0], .int .i64 (k - i : Nat)]) (by simp [results, Tryz.results18, go_sem]; omega) rfl
          ⟨105, ds, n, k - i, rfl, by rw [HV.out]; exact ⟨HL.out.symm, rfl, fun h => absurd rfl h, rfl⟩, by repeat (first | exact Below.refl _ _ | refine Below.alloc ?_ (by simp) _ | refine Below.setCell ?_ (by simp) _ | refine Below.drew ?_)⟩
    · obtain ⟨hlt, hdk⟩ := hb1 rfl
      have HT := hide (tw_step _ l i k hk1 hlt hdk htw)
      clear htw hb1 hb2 hdk
      by_cases hlt2 : k + 1 < l.length
      · have hE2 : ∀ h, ((⟨l.toArray⟩ : ByteArray)[k + 1]'h) = l[k + 1] := fun h => byte_at l (k + 1) h
        go_wp2_with fail
        refine (digit_byte _ _).mono ?_
        rintro e w' ⟨rfl, rfl⟩
        go_wp2
        go_round
        case rel => exact ⟨k + 1, _, by go_num, rfl, by omega, by omega, HT.out, fun h => ⟨hlt2, h⟩, fun h _ => h⟩
        case measure => simp [intOf]; omega
      · go_wp2
        go_round
        case rel => exact ⟨k + 1, _, by go_num, rfl, by omega, by omega, HT.out, (fun h => by cases h), (fun h hh => absurd hh hlt2)⟩
        case measure => simp [intOf]; omega
end Go.Proofs.YtgccmgjbbcndbaaGreatDoor
