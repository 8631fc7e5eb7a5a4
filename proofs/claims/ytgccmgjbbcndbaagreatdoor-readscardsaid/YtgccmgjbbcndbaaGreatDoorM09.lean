import Derived.Test.YtgccmgjbbcndbaaGreatDoorM08
import Derived.Test.YtgccmgjbbcndbaaGreatDoorM01
import Derived.Lib.ParseIntBCases
/- Walk of the code's scanner: name. -/
namespace Go.Proofs.YtgccmgjbbcndbaaGreatDoor
open Go.RowKit

def wordL : List (List UInt8 × Nat) := [([102, 110], 4), ([108, 101, 116], 5), ([105, 102], 6), ([101, 108, 115, 101], 7), ([119, 104, 105, 108, 101], 8), ([114, 101, 116, 117, 114, 110], 9), ([98, 114, 101, 97, 107], 10), ([99, 111, 110, 116, 105, 110, 117, 101], 11), ([112, 114, 105, 110, 116], 12), ([116, 114, 117, 101], 13), ([102, 97, 108, 115, 101], 14), ([110, 117, 108, 108], 15), ([108, 101, 110], 16), ([112, 117, 115, 104], 17)]
def wordC : Array Value := (spellC wordL).toArray

theorem word_ix (w : World) : ∀ n (h : n < 14), (Instr.index 128 (.agg wordC) (.int .i64 (n : Nat))).run Tryz.prog w = .ok (.agg #[.string ⟨(wordL[n]'h).1.toArray⟩, .int .i64 ((wordL[n]'h).2 : Nat)]) w
  | 0, _ => by kernel_rfl
  | 1, _ => by kernel_rfl
  | 2, _ => by kernel_rfl
  | 3, _ => by kernel_rfl
  | 4, _ => by kernel_rfl
  | 5, _ => by kernel_rfl
  | 6, _ => by kernel_rfl
  | 7, _ => by kernel_rfl
  | 8, _ => by kernel_rfl
  | 9, _ => by kernel_rfl
  | 10, _ => by kernel_rfl
  | 11, _ => by kernel_rfl
  | 12, _ => by kernel_rfl
  | 13, _ => by kernel_rfl
  | n + 14, h => absurd h (by omega)

def NmPost (b te : Nat) (w : World) (l : List UInt8) (i line : Nat) (e : Ending) (w' : World) : Prop :=
  Only b w w' ∧ Sc b te w' l (i + ((l.drop i).takeWhile isNam).length) line ∧ ((∃ p, wordL.find? (fun p => p.1 == (l.drop i).takeWhile isNam) = some p ∧ e = .returned (.tuple #[.agg #[.int .i64 (p.2 : Nat), .int .i64 (line : Nat), .string ⟨#[]⟩, .int .i64 0], .bool true])) ∨
    (wordL.find? (fun p => p.1 == (l.drop i).takeWhile isNam) = none ∧ ((16 < ((l.drop i).takeWhile isNam).length ∧ e = .returned (.tuple #[.agg #[.int .i64 0, .int .i64 0, .string ⟨#[]⟩, .int .i64 0], .bool false])) ∨
      (((l.drop i).takeWhile isNam).length ≤ 16 ∧ e = .returned (.tuple #[.agg #[.int .i64 1, .int .i64 (line : Nat), .string ⟨((l.drop i).takeWhile isNam).toArray⟩, .int .i64 0], .bool true])))))

set_option maxRecDepth 100000 in
set_option maxHeartbeats 1000000 in
theorem cclone (l : List UInt8) (w : World) (h : l.length ≤ 100000) : Calls Tryz.prog 67 #[.string ⟨l.toArray⟩] w fun e w' => e = .returned (.string ⟨l.toArray⟩) ∧ Below w.heap.size w w' := by
  have hs : (⟨l.toArray⟩ : ByteArray).size ≤ 281474976710656 := by show l.toArray.size ≤ _; simp; omega
  go_enter Tryz.func67, Tryz.ntmps67
  go_wp2_with fail
  refine (Tryz.stringslite_Clone _ _ hs).mono ?_
  rintro e w' ⟨rfl, hb⟩
  go_wp2
  go_ret
  exact ⟨rfl, hb⟩

set_option maxRecDepth 100000 in
set_option maxHeartbeats 1000000 in
theorem cname_any {b te tg : Nat} {fr : Nat × Nat} {w : World} {l : List UInt8} {i line : Nat} (h : Sc b te w l i line) (hg : w.heap[0]? = some (.cells wordC tg fr)) (hb0 : b ≠ 0) (hl : l.length ≤ 100000) (hi : i < l.length) :
    Calls Tryz.prog 49 #[.pointer (some ⟨b, 0, none⟩)] w (NmPost b te w l i line) := by
  have HSc0 := hide h
  have hlb := heap_lt h
  have HG0 := hide hg
  clear h hg
  go_enter Tryz.func49, Tryz.ntmps49
  go_wp2_with fail
  refine (run_nam (HSc0.out.keep (Below.heap_alloc _ _ _ hlb)) hl (by omega)).mono ?_
  rintro e w1 ⟨rfl, hsc1, ho1⟩
  have hg1 := ho1.blk (alloc_old HG0.out) (by omega)
  have HT1 := hide (ho1.blk (heap_alloc_new w _) (by omega))
  have HSc1 := hide hsc1
  have HO1 : Hid (Only b w w1) := ((Only.refl b w).alloc _).trans ho1
  have lw1 := ho1.size
  simp only [World.size_alloc] at lw1
  generalize ht : (l.drop i).takeWhile isNam = t at *
  have htl : t.length ≤ 100000 := by rw [← ht]; have := (List.takeWhile_sublist isNam (l := l.drop i)).length_le; simp at this; omega
  have HTt := hide ht
  clear ht hsc1 ho1 HSc0 HG0
  go_wp2_with (refine wpList_load_row rfl 128 _ rfl 0 rfl tg _ fr _ hg1 Tryz.underlying128 rfl (by kernel_rfl) ?_)
  clear hg1
  go_loopg [10] 14 (fun k v wr => ∃ n : Nat, v = .int .i64 n ∧ n + k = 14 ∧ wordL.find? (fun p => p.1 == t) = (wordL.drop n).find? (fun p => p.1 == t) ∧ Sc b te wr l (i + t.length) line ∧ Only b w wr ∧ wr.heap[w.heap.size]? = some (.cells #[.int .i64 0, .int .i64 0, .string ⟨#[]⟩, .int .i64 0] 93))
  case atStart => exact ⟨0, rfl, rfl, rfl, HSc1.out, HO1.out, HT1.out⟩
  case round =>
    clear HSc1 HO1 HT1
    obtain ⟨n, rfl, hnk, hf, hsc, ho, htk⟩ := hrel
    have HF := hide hf
    have HSc := hide hsc
    have HO := hide ho
    have HT := hide htk
    obtain ⟨x0, x1, x2, x3, fx, lx⟩ := blk4 htk
    obtain ⟨c0, c1, c2, fz, lbr⟩ := hsc.cells
    have hne : b ≠ w.heap.size := by omega
    clear hf hsc ho htk
    by_cases hlt : n < 14
    · have hix := fun W => word_ix W n hlt
      have HF1 := hide (HF.out.trans (find_drop hlt))
      generalize wordC = sc at *
      generalize wordL[n] = p at *
      clear HF
      cases hp : (p.1 == t)
      · have HF2 : Hid (wordL.find? (fun p => p.1 == t) = (wordL.drop (n + 1)).find? (fun p => p.1 == t)) := by
          show _ = _
          rw [HF1.out]; simp only [hp]; rfl
        clear HF1
        go_wp2
        go_roundg (gk - 1)
        case measure => omega
        case rel => exact ⟨n + 1, rfl, by omega, HF2.out, HSc.out.keep (Below.heap_alloc _ _ _ lbr), HO.out.alloc _, alloc_old HT.out⟩
      · have HF2 : Hid (wordL.find? (fun p => p.1 == t) = some p) := by
          show _ = _
          rw [HF1.out]; simp only [hp]; rfl
        clear HF1
        go_wp2
        have hne2 : wr.heap.size ≠ b := by omega
        have hne3 : wr.heap.size ≠ w.heap.size := by omega
        go_region
        all_goals go_wp2
        all_goals
          refine bodyPost_ret (v := .tuple #[.agg #[.int .i64 (p.2 : Nat), .int .i64 (line : Nat), .string ⟨#[]⟩, .int .i64 0], .bool true]) (by simp [results, Tryz.results49, go_sem, x0, x1, x2, x3, lx]) rfl ?_
          refine ⟨?_, ?_, .inl ⟨p, by rw [HTt.out]; exact HF2.out, rfl⟩⟩
          · exact ((Only.set4 HO.out (Nat.le_refl _) _ _ _ _).alloc _).drew
          · rw [HTt.out]; exact alloc_old (HSc.out.keep (set4_same (by omega) _ _ _ _))
    · have HF2 : Hid (wordL.find? (fun p => p.1 == t) = none) := by
        show _ = _
        rw [HF.out, show n = 14 by omega]; rfl
      clear HF
      by_cases h16 : 16 < t.length
      · have t16 : decide (16 < (t.length : Int)) = true := decide_eq_true (by omega)
        have H16 := hide h16
        clear h16
        go_wp2
        refine bodyPost_ret (v := .tuple #[.agg #[.int .i64 0, .int .i64 0, .string ⟨#[]⟩, .int .i64 0], .bool false]) (by simp [results, Tryz.results49, go_sem, x0, x1, x2, x3]) rfl ?_
        refine ⟨Only.set4 HO.out (Nat.le_refl _) _ _ _ _, by rw [HTt.out]; exact HSc.out.keep (set4_same (by omega) _ _ _ _), .inr ⟨by rw [HTt.out]; exact HF2.out, .inl ⟨by rw [HTt.out]; exact H16.out, rfl⟩⟩⟩
      · have t16 : decide (16 < (t.length : Int)) = false := decide_eq_false (by omega)
        have H16 := hide h16
        clear h16
        go_wp2
        have HT' : Hid (wr.drew.heap[w.heap.size]? = some (.cells #[.int .i64 0, .int .i64 0, .string ⟨#[]⟩, .int .i64 0] 93 (0, 0))) := HT.out
        have HSc' : Hid (Sc b te wr.drew l (i + t.length) line) := HSc.out.keep rfl
        go_region_with (go_at_call 67; refine (cclone _ _ htl).mono ?_; rintro e w5 ⟨rfl, hb5⟩; have hT5 := bblk hb5 HT'.out; have hSc5 : Sc b te w5 l (i + t.length) line := bblk hb5 HSc'.out; obtain ⟨y0, y1, y2, y3, fy, ly⟩ := blk4 hT5; obtain ⟨q0, q1, q2, fq, lq⟩ := hSc5.cells; have HSc5 := hide hSc5; have HB5 := hide hb5; clear hT5 hSc5 hb5)
        all_goals go_wp2
        all_goals refine bodyPost_ret (v := .tuple #[.agg #[.int .i64 1, .int .i64 (line : Nat), .string ⟨t.toArray⟩, .int .i64 0], .bool true]) (by simp [results, Tryz.results49, go_sem, y0, y1, y2, y3]) rfl ?_
        all_goals refine ⟨Only.set4 (HO.out.drew.trans (Below.only HB5.out)) (Nat.le_refl _) _ _ _ _, by rw [HTt.out]; exact HSc5.out.keep (set4_same (by omega) _ _ _ _), .inr ⟨by rw [HTt.out]; exact HF2.out, .inr ⟨by rw [HTt.out]; exact Nat.le_of_not_lt H16.out, by rw [HTt.out]⟩⟩⟩
end Go.Proofs.YtgccmgjbbcndbaaGreatDoor
/- Walk of the code's scanner: number. -/
namespace Go.Proofs.YtgccmgjbbcndbaaGreatDoor
open Go.RowKit

theorem uintM_dig : ∀ (l : List UInt8), (∀ c ∈ l, isDig c = true) → ∀ acc : Nat, acc ≤ 18446744073709551615 →
    (decFrom acc l ≤ 18446744073709551615 → Lib.parseUintM 18446744073709551615 acc l = .ok (decFrom acc l).toNat) ∧ (18446744073709551615 < decFrom acc l → Lib.parseUintM 18446744073709551615 acc l = .range) := by
  intro l
  induction l with
  | nil => intro _ acc ha; exact ⟨fun _ => by simp [Lib.parseUintM, decFrom], fun h => by simp only [decFrom] at h; omega⟩
  | cons c r ih =>
    intro hd acc ha
    have hc := hd c (List.mem_cons_self ..)
    have hr : ∀ c ∈ r, isDig c = true := fun x hx => hd x (List.mem_cons_of_mem _ hx)
    have hc2 : 48 ≤ c.toNat ∧ c.toNat ≤ 57 := by
      unfold isDig at hc
      simpa using hc
    have he : decFrom acc (c :: r) = decFrom ((acc * 10 + (c.toNat - 48) : Nat) : Int) r := by
      rw [decFrom]
      congr 1
      omega
    have hge := decFrom_ge r hr ((acc * 10 + (c.toNat - 48) : Nat) : Int) (by omega)
    rw [he]
    simp only [Lib.parseUintM]
    rw [if_pos hc2]
    by_cases h1 : 1844674407370955162 ≤ acc
    · rw [if_pos h1]
      exact ⟨fun h => by omega, fun _ => rfl⟩
    · rw [if_neg h1]
      by_cases h2 : 18446744073709551615 < acc * 10 + (c.toNat - 48)
      · rw [if_pos h2]
        exact ⟨fun h => by omega, fun _ => rfl⟩
      · rw [if_neg h2]
        exact ih hr _ (by omega)

theorem dig_ne {c : UInt8} (h : isDig c = true) : c.toNat ≠ 43 ∧ c.toNat ≠ 45 := by
  unfold isDig at h
  simp at h
  omega
theorem pint_dig (c : UInt8) (r : List UInt8) (hd : ∀ x ∈ c :: r, isDig x = true) : Lib.parseIntB 64 (c :: r) = match numOf (c :: r) with
    | some v => .ok v
    | none => .range := by
  have hc := dig_ne (hd c (List.mem_cons_self ..))
  have hge := decFrom_ge (c :: r) hd 0 (by omega)
  have e : (2 : Nat) ^ 64 - 1 = 18446744073709551615 := by decide
  have e2 : (2 : Nat) ^ (64 - 1) = 9223372036854775808 := by decide
  rw [Lib.parseIntB_plain 64 c r hc.1 hc.2]
  unfold Lib.parseUintB
  rw [if_neg (by simp), e, e2]
  have h := uintM_dig (c :: r) hd 0 (by omega)
  unfold numOf maxI
  by_cases h1 : decFrom ((0 : Nat) : Int) (c :: r) ≤ 18446744073709551615
  · rw [h.1 h1]
    simp only [Lib.signlessC]
    have h0 : decFrom ((0 : Nat) : Int) (c :: r) = decFrom 0 (c :: r) := rfl
    rw [h0] at h1 ⊢
    by_cases h2 : decFrom 0 (c :: r) ≤ 9223372036854775807
    · rw [if_pos h2, if_neg (by omega)]
      simp only
      congr 1
      omega
    · rw [if_neg h2, if_pos (by omega)]
  · rw [h.2 (by omega)]
    have h0 : decFrom ((0 : Nat) : Int) (c :: r) = decFrom 0 (c :: r) := rfl
    rw [h0] at h1
    rw [if_neg (by omega)]
    rfl

def NuPost (b te : Nat) (w : World) (l : List UInt8) (i line : Nat) (e : Ending) (w' : World) : Prop :=
  Only b w w' ∧ Sc b te w' l (i + ((l.drop i).takeWhile isDig).length) line ∧ ((∃ v, numOf ((l.drop i).takeWhile isDig) = some v ∧ e = .returned (.tuple #[.agg #[.int .i64 2, .int .i64 (line : Nat), .string ⟨#[]⟩, .int .i64 v], .bool true])) ∨
    (numOf ((l.drop i).takeWhile isDig) = none ∧ e = .returned (.tuple #[.agg #[.int .i64 0, .int .i64 0, .string ⟨#[]⟩, .int .i64 0], .bool false])))

theorem mem_tw {p : UInt8 → Bool} {x : UInt8} : ∀ {l : List UInt8}, x ∈ l.takeWhile p → p x = true := by
  intro l
  induction l with
  | nil => intro h; simp at h
  | cons c r ih =>
    intro h
    rw [List.takeWhile_cons] at h
    split at h
    · rename_i hc
      rcases List.mem_cons.1 h with e | e
      · rw [e]; exact hc
      · exact ih e
    · simp at h

set_option maxRecDepth 100000 in
set_option maxHeartbeats 1000000 in
theorem cnumber_any {b te : Nat} {ev : Value} {w : World} {l : List UInt8} {i line : Nat} (h : Sc b te w l i line) (hv : w.cell? ⟨3, 0, none⟩ = some ev) (hev : ev = .nilIface ∨ ∃ te pe, ev = .iface te pe) (hb0 : b ≠ 3) (hl : l.length ≤ 100000) (hi : i < l.length) (hd : isDig l[i] = true) :
    Calls Tryz.prog 51 #[.pointer (some ⟨b, 0, none⟩)] w (NuPost b te w l i line) := by
  have HSc0 := hide h
  have hlb := heap_lt h
  have HV0 := hide hv
  clear h hv
  go_enter Tryz.func51, Tryz.ntmps51
  go_wp2_with fail
  refine (run_dig (HSc0.out.keep (Below.heap_alloc _ _ _ hlb)) hl (by omega)).mono ?_
  rintro e w1 ⟨rfl, hsc1, ho1⟩
  have HT1 := hide (ho1.blk (heap_alloc_new w _) (by omega))
  have HSc1 := hide hsc1
  have HO1 : Hid (Only b w w1) := ((Only.refl b w).alloc _).trans ho1
  have lw1 := ho1.size
  simp only [World.size_alloc] at lw1
  have lv : 3 < w.heap.size := block_lt_of_cell HV0.out
  have HV1 : Hid (w1.cell? ⟨3, 0, none⟩ = some ev) := (World.cell?_of_block (HO1.out.block _ lv (fun e => hb0 e.symm))).trans HV0.out
  generalize ht : (l.drop i).takeWhile isDig = t at *
  have htl : t.length ≤ 100000 := by rw [← ht]; have := (List.takeWhile_sublist isDig (l := l.drop i)).length_le; simp at this; omega
  have htd : ∀ c ∈ t, isDig c = true := by
    intro c hc
    rw [← ht] at hc
    exact mem_tw hc
  obtain ⟨c0, r0, hcr⟩ : ∃ c r, t = c :: r := by
    rw [← ht, List.drop_eq_getElem_cons hi, List.takeWhile_cons_of_pos hd]
    exact ⟨_, _, rfl⟩
  have hpi : Lib.parseIntB 64 t = match numOf t with
    | some v => .ok v
    | none => .range := by rw [hcr]; exact pint_dig c0 r0 (by rw [← hcr]; exact htd)
  have HTt := hide ht
  clear ht hsc1 ho1 HSc0 HV0 htd hcr
  cases hn : numOf t with
  | some v =>
    rw [hn] at hpi
    have HN := hide hn
    have HPI := hide hpi
    clear hn hpi
    go_wp2_with fail
    refine (Tryz.strconv_ParseInt_10_at64_ok ⟨t.toArray⟩ (by show t.toArray.size ≤ _; simp; omega) v (by simpa using HPI.out) _).mono ?_
    rintro e w2 ⟨rfl, hw2⟩
    have hb2 : Below w1.heap.size w1 w2 := by
      rcases hw2 with rfl | ⟨t', rfl⟩
      · exact Below.refl _ _
      · exact Lib.bytesWorld_below _ _ _
    have hT2 := bblk hb2 HT1.out
    have hSc2 : Sc b te w2 l (i + t.length) line := bblk hb2 HSc1.out
    obtain ⟨y0, y1, y2, y3, fy, ly⟩ := blk4 hT2
    obtain ⟨q0, q1, q2, fq, lq⟩ := hSc2.cells
    have HSc2 := hide hSc2
    have HO2 : Hid (Only b w w2) := HO1.out.trans (Below.only hb2)
    clear hT2 hSc2 hb2 hw2
    go_wp2
    refine bodyPost_ret (v := .tuple #[.agg #[.int .i64 2, .int .i64 (line : Nat), .string ⟨#[]⟩, .int .i64 v], .bool true]) (by simp [results, Tryz.results51, go_sem, y0, y1, y2, y3]) rfl ?_
    exact ⟨Only.set4 HO2.out (Nat.le_refl _) _ _ _ _, by rw [HTt.out]; exact HSc2.out.keep (set4_same (by omega) _ _ _ _), .inl ⟨v, by rw [HTt.out]; exact HN.out, rfl⟩⟩
  | none =>
    rw [hn] at hpi
    have HN := hide hn
    have HPI := hide hpi
    clear hn hpi
    go_wp2_with fail
    refine (Tryz.strconv_ParseInt_10_at64_range ⟨t.toArray⟩ (by show t.toArray.size ≤ _; simp; omega) (by simpa using HPI.out) ev _ HV1.out hev).mono ?_
    rintro e w2 ⟨N, rfl, _, _, hb2⟩
    have hT2 := bblk hb2 HT1.out
    have hSc2 : Sc b te w2 l (i + t.length) line := bblk hb2 HSc1.out
    obtain ⟨y0, y1, y2, y3, fy, ly⟩ := blk4 hT2
    have HSc2 := hide hSc2
    have HO2 : Hid (Only b w w2) := HO1.out.trans (Below.only hb2)
    clear hT2 hSc2 hb2
    go_wp2
    refine bodyPost_ret (v := .tuple #[.agg #[.int .i64 0, .int .i64 0, .string ⟨#[]⟩, .int .i64 0], .bool false]) (by simp [results, Tryz.results51, go_sem, y0, y1, y2, y3]) rfl ?_
    exact ⟨Only.set4 HO2.out (Nat.le_refl _) _ _ _ _, by rw [HTt.out]; exact HSc2.out.keep (set4_same (by omega) _ _ _ _), .inr ⟨by rw [HTt.out]; exact HN.out, rfl⟩⟩
end Go.Proofs.YtgccmgjbbcndbaaGreatDoor
