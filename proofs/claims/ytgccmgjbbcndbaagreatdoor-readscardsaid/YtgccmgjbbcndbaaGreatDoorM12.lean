import Derived.Test.YtgccmgjbbcndbaaGreatDoorM11
import Derived.Test.YtgccmgjbbcndbaaGreatDoorRows
import Derived.OpenShut
import Derived.ChangeSame
import Derived.MakeChecks
/- Walk of the code's scanner: next. -/
namespace Go.Proofs.YtgccmgjbbcndbaaGreatDoor
open Go.RowKit

def NxPost (b te : Nat) (w : World) (l : List UInt8) (i line : Nat) (e : Ending) (w' : World) : Prop :=
  Only b w w' ∧ ((∃ x, (nextP (l.drop i)).2 = some x ∧ e = .returned (.tuple #[.agg #[.int .i64 (x.1.k : Nat), .int .i64 ((line + (nextP (l.drop i)).1 : Nat) : Nat), .string ⟨x.1.s.toArray⟩, .int .i64 x.1.n], .bool true]) ∧ Sc b te w' l (i + x.2) (line + (nextP (l.drop i)).1)) ∨
    ((nextP (l.drop i)).2 = none ∧ e = .returned (.tuple #[.agg #[.int .i64 0, .int .i64 0, .string ⟨#[]⟩, .int .i64 0], .bool false]) ∧ ∃ j, Sc b te w' l j (line + (nextP (l.drop i)).1)))

/- the tables and the error of a number that is too great, as the start lays them -/
structure Glob (w : World) : Prop where
  signs : ∃ tg fr, w.heap[1]? = some (.cells signC tg fr)
  words : ∃ tg fr, w.heap[0]? = some (.cells wordC tg fr)
  range : ∃ ev, w.cell? ⟨3, 0, none⟩ = some ev ∧ (ev = .nilIface ∨ ∃ te pe, ev = .iface te pe)
theorem Glob.keep {w w' : World} (h : Glob w) (hk : ∀ k, k < 4 → k < w.heap.size → w'.heap[k]? = w.heap[k]?) : Glob w' := by
  obtain ⟨⟨t1, f1, h1⟩, ⟨t2, f2, h2⟩, ⟨ev, h3, h4⟩⟩ := h
  exact ⟨⟨t1, f1, (hk _ (by decide) (heap_lt h1)).trans h1⟩, ⟨t2, f2, (hk _ (by decide) (heap_lt h2)).trans h2⟩, ⟨ev, (World.cell?_of_block (hk _ (by decide) (block_lt_of_cell h3))).trans h3, h4⟩⟩
theorem Glob.only {b : Nat} {w w' : World} (h : Glob w) (ho : Only b w w') (hb : 4 ≤ b) : Glob w' := h.keep (fun k h1 h2 => ho.block k h2 (by omega))
theorem Glob.below {w w' : World} (h : Glob w) (ho : Below w.heap.size w w') : Glob w' := h.keep (fun k _ h2 => ho.block k h2)

theorem nx_tok {l : List UInt8} {i : Nat} (hok : (skpF false (l.drop i)).2.2 = true) (hlt : i + (skpF false (l.drop i)).1 < l.length) : (nextP (l.drop i)).2 = (tokAt (l.drop (i + (skpF false (l.drop i)).1))).map fun x => (x.1, (skpF false (l.drop i)).1 + x.2) := by
  unfold nextP
  simp only [hok, if_true, List.drop_drop]
  rw [List.drop_eq_getElem_cons hlt, nextQ]

theorem let_dig {c : UInt8} (h : isLet c = true) : isDig c = false := by
  unfold isLet at h
  unfold isDig
  simp only [Bool.or_eq_true, Bool.and_eq_true, decide_eq_true_eq] at h
  rw [Bool.and_eq_false_iff]
  by_cases h1 : c.toNat ≤ 57
  · left; rw [decide_eq_false_iff_not]; omega
  · right; rw [decide_eq_false_iff_not]; exact h1
theorem nx_ok {b te : Nat} {w W : World} {l : List UInt8} {i line j lj n m len : Nat} {t : Tk} (hO : Only b w W) (hsc : Sc b te W l (j + len) lj) (hj : i + n = j) (hlj : line + m = lj) (h1 : (nextP (l.drop i)).1 = m) (hN : (nextP (l.drop i)).2 = (tokAt (l.drop j)).map fun x => (x.1, n + x.2)) (ht : tokAt (l.drop j) = some (t, len)) :
    NxPost b te w l i line (.returned (.tuple #[.agg #[.int .i64 (t.k : Nat), .int .i64 (lj : Nat), .string ⟨t.s.toArray⟩, .int .i64 t.n], .bool true])) W := by
  refine ⟨hO, .inl ⟨(t, n + len), by rw [hN, ht]; rfl, by rw [h1, hlj], ?_⟩⟩
  rw [h1, hlj, show i + (n + len) = j + len by omega]; exact hsc
theorem nx_no {b te : Nat} {w W : World} {l : List UInt8} {i line j lj n m : Nat} (hO : Only b w W) (hsc : ∃ q, Sc b te W l q lj) (hlj : line + m = lj) (h1 : (nextP (l.drop i)).1 = m) (hN : (nextP (l.drop i)).2 = (tokAt (l.drop j)).map fun x => (x.1, n + x.2)) (ht : tokAt (l.drop j) = none) :
    NxPost b te w l i line (.returned (.tuple #[.agg #[.int .i64 0, .int .i64 0, .string ⟨#[]⟩, .int .i64 0], .bool false])) W := by
  refine ⟨hO, .inr ⟨by rw [hN, ht]; rfl, rfl, ?_⟩⟩
  rw [h1, hlj]; exact hsc

set_option maxRecDepth 100000 in
set_option maxHeartbeats 4000000 in
theorem next_any {b te : Nat} {w : World} {l : List UInt8} {i line : Nat} (h : Sc b te w l i line) (hg : Glob w) (hb0 : 4 ≤ b) (hl : l.length ≤ 100000) (hi : i ≤ l.length) (hln : line ≤ i + 1) :
    Calls Tryz.prog 27 #[.pointer (some ⟨b, 0, none⟩)] w (NxPost b te w l i line) := by
  have HSc0 := hide h
  have HG0 := hide hg
  have hlb := heap_lt h
  have HLe := hide (skp_le (l.drop i) false)
  clear h hg
  go_enter Tryz.func27, Tryz.ntmps27
  go_wp2_with fail
  refine (skip_any (HSc0.out.keep (Below.heap_alloc _ _ _ hlb)) hl hi hln).mono ?_
  rintro e w1 ⟨rfl, hsc1, ho1⟩
  have HT1 := hide (ho1.blk (heap_alloc_new w (.cells #[.int .i64 0, .int .i64 0, .string ⟨#[]⟩, .int .i64 0] 93)) (by omega))
  have HSc1 := hide hsc1
  have HO1 : Hid (Only b w w1) := ((Only.refl b w).alloc _).trans ho1
  have HG1 := hide (HG0.out.only HO1.out hb0)
  have lw1 := ho1.size
  simp only [World.size_alloc] at lw1
  have HL1 : Hid ((nextP (l.drop i)).1 = (skpF false (l.drop i)).2.1) := rfl
  have HTk := hide (fun h1 h2 => nx_tok (l := l) (i := i) h1 h2)
  have HEnd : Hid ((skpF false (l.drop i)).2.2 = true → i + (skpF false (l.drop i)).1 = l.length → (nextP (l.drop i)).2 = some (⟨0, 0, [], 0⟩, (skpF false (l.drop i)).1)) := by
    intro h1 h2
    unfold nextP
    simp only [h1, if_true, List.drop_drop]
    have hd : l.drop (i + (skpF false (l.drop i)).1) = [] := List.drop_of_length_le (by omega)
    rw [hd, nextQ]
  have HNo : Hid ((skpF false (l.drop i)).2.2 = false → (nextP (l.drop i)).2 = none) := by
    intro h1
    unfold nextP
    simp [h1]
  have hle := HLe.out.1
  rw [List.length_drop] at hle
  have hle2 := HLe.out.2
  generalize hsn : (skpF false (l.drop i)).1 = n at *
  generalize hsm : (skpF false (l.drop i)).2.1 = m at *
  obtain ⟨x0, x1, x2, x3, fx, lx⟩ := blk4 HT1.out
  obtain ⟨c0, c1, c2, fz, lb1⟩ := hsc1.cells
  clear hsc1 ho1 HSc0 HG0 HLe hsn hsm
  cases hok : (skpF false (l.drop i)).2.2
  · have HN := hide (HNo.out hok)
    clear HTk HEnd HNo hok
    go_wp2
    refine bodyPost_ret (v := .tuple #[.agg #[.int .i64 0, .int .i64 0, .string ⟨#[]⟩, .int .i64 0], .bool false]) (by simp [results, Tryz.results27, go_sem, x0, x1, x2, x3]) rfl ?_
    exact ⟨Only.set4 HO1.out (Nat.le_refl _) _ _ _ _, .inr ⟨HN.out, rfl, _, by rw [HL1.out]; exact HSc1.out.keep (set4_same (by omega) _ _ _ _)⟩⟩
  · by_cases hend : i + n = l.length
    · have HN := hide (HEnd.out hok hend)
      have t1 : (((i + n : Nat) : Int) == (l.length : Int)) = true := by rw [hend]; simp
      clear HTk HEnd HNo hok
      have HEn := hide hend
      clear hend
      go_wp2
      go_quiet (fail)
      go_wp2
      refine bodyPost_ret (v := .tuple #[.agg #[.int .i64 0, .int .i64 ((line + m : Nat) : Nat), .string ⟨#[]⟩, .int .i64 0], .bool true]) (by simp [results, Tryz.results27, go_sem, x0, x1, x2, x3]) rfl ?_
      exact ⟨Only.set4 (HO1.out.drewN nq) (Nat.le_refl _) _ _ _ _, .inl ⟨_, HN.out, by rw [HL1.out]; rfl, by rw [HL1.out]; exact HSc1.out.keep (set4_same (w := w1.drewN nq) (by omega) _ _ _ _)⟩⟩
    · have hlt : i + n < l.length := by omega
      have HN := hide (HTk.out hok hlt)
      clear HTk HEnd HNo hok hend
      have hlm : line + m ≤ 100001 := by omega
      generalize hj : i + n = j at *
      have HJ := hide hj
      generalize hlj : line + m = lj at *
      have HLj := hide hlj
      clear hj hlj
      have t1 : ((j : Int) == (l.length : Int)) = false := by rw [beq_eq_false_iff_ne]; omega
      have hE : ∀ h, ((⟨l.toArray⟩ : ByteArray)[j]'h) = l[j] := fun h => byte_at l j h
      go_wp2
      go_quiet (fail)
      have HSc2 : Hid (Sc b te (w1.drewN nq) l j lj) := HSc1.out.keep rfl
      have HO2 : Hid (Only b w (w1.drewN nq)) := HO1.out.drewN _
      have HT2 : Hid ((w1.drewN nq).heap[w.heap.size]? = _) := HT1.out
      have HG2 : Hid (Glob (w1.drewN nq)) := HG1.out.keep (fun _ _ _ => rfl)
      have lw2 : w.heap.size + 1 ≤ (w1.drewN nq).heap.size := lw1
      clear x0 x1 x2 x3 fx lx c0 c1 c2 fz lb1 HSc1 HO1 HT1 HG1 lw1
      generalize w1.drewN nq = w2 at *
      obtain ⟨c0, c1, c2, fz, lb1⟩ := HSc2.out.cells
      go_wp2
      go_quiet (fail)
      have HSc3 : Hid (Sc b te (w2.drewN nq) l j lj) := HSc2.out.keep rfl
      have HO3 : Hid (Only b w (w2.drewN nq)) := HO2.out.drewN _
      have HT3 : Hid ((w2.drewN nq).heap[w.heap.size]? = _) := HT2.out
      have HG3 : Hid (Glob (w2.drewN nq)) := HG2.out.keep (fun _ _ _ => rfl)
      have lw3 : w.heap.size + 1 ≤ (w2.drewN nq).heap.size := lw2
      clear c0 c1 c2 fz lb1 HSc2 HO2 HT2 HG2 lw2 hE
      generalize w2.drewN nq = w3 at *
      obtain ⟨⟨tg1, fr1, hg1⟩, ⟨tg2, fr2, hg2⟩, ⟨ev, hv1, hv2⟩⟩ := HG3.out
      cases ha : isLet l[j]
      · cases hd : isDig l[j]
        · by_cases hq : l[j] = 34
          · have t34 : ((l[j].toNat : Int) == 34) = true := bt_eq (d := 34) rfl hq
            have HTok := hide (tokAt_quote l j hlt hq)
            have HQ := hide (cquoted_any HSc3.out hl hlt)
            clear hq hg1 hg2 hv1 hv2
            go_wp2_with fail
            refine (cletter _ _).mono ?_
            rintro e w' ⟨rfl, rfl⟩
            rw [ha]
            go_wp2_with fail
            refine (cdigit _ _).mono ?_
            rintro e w' ⟨rfl, rfl⟩
            rw [hd]
            go_wp2_with fail
            refine HQ.out.mono ?_
            rintro e w4 ⟨ho4, ⟨x, hx, rfl, hsc4⟩ | ⟨hx, rfl, j', hsc4⟩⟩
            · have HSc4 : Hid (Sc b te w4 l (j + (x.2 + 1)) lj) := by rw [show j + (x.2 + 1) = j + 1 + x.2 by omega]; exact hsc4
              have HTk2 : Hid (tokAt (l.drop j) = some (⟨3, 0, x.1, 0⟩, x.2 + 1)) := by show _ = _; rw [HTok.out, hx]
              clear hsc4 hx
              have hT4 := ho4.blk HT3.out (by omega)
              obtain ⟨y0, y1, y2, y3, fy, ly⟩ := blk4 hT4
              have HO4 : Hid (Only b w w4) := HO3.out.trans ho4
              clear hT4 ho4
              go_wp2
              refine bodyPost_ret (v := .tuple #[.agg #[.int .i64 3, .int .i64 (lj : Nat), .string ⟨x.1.toArray⟩, .int .i64 0], .bool true]) (by simp [results, Tryz.results27, go_sem, y0, y1, y2, y3]) rfl ?_
              exact nx_ok (t := ⟨3, 0, _, _⟩) (Only.set4 HO4.out (Nat.le_refl _) _ _ _ _) (HSc4.out.keep (set4_same (by omega) _ _ _ _)) HJ.out HLj.out HL1.out HN.out HTk2.out
            · have HSc4 := hide hsc4
              have HTk2 : Hid (tokAt (l.drop j) = none) := by show _ = _; rw [HTok.out, hx]
              clear hsc4 hx
              have hT4 := ho4.blk HT3.out (by omega)
              obtain ⟨y0, y1, y2, y3, fy, ly⟩ := blk4 hT4
              have HO4 : Hid (Only b w w4) := HO3.out.trans ho4
              clear hT4 ho4
              go_wp2
              refine bodyPost_ret (v := .tuple #[.agg #[.int .i64 0, .int .i64 0, .string ⟨#[]⟩, .int .i64 0], .bool false]) (by simp [results, Tryz.results27, go_sem, y0, y1, y2, y3]) rfl ?_
              exact nx_no (Only.set4 HO4.out (Nat.le_refl _) _ _ _ _) ⟨_, HSc4.out.keep (set4_same (by omega) _ _ _ _)⟩ HLj.out HL1.out HN.out HTk2.out
          · have t34 : ((l[j].toNat : Int) == 34) = false := bt_ne (d := 34) rfl hq
            have HTok := hide (tokAt_sign l j hlt hd ha hq)
            have HQ := hide (csign_any HSc3.out hg1 hl hlt)
            have HSi : Hid (SgIs (l.drop j)) := by rw [List.drop_eq_getElem_cons hlt]; exact sign_is _ _
            clear hq hg1 hg2 hv1 hv2
            go_wp2_with fail
            refine (cletter _ _).mono ?_
            rintro e w' ⟨rfl, rfl⟩
            rw [ha]
            go_wp2_with fail
            refine (cdigit _ _).mono ?_
            rintro e w' ⟨rfl, rfl⟩
            rw [hd]
            go_wp2_with fail
            refine HQ.out.mono ?_
            rintro e w4 ⟨ho4, ⟨p, hx, rfl, hsc4⟩ | ⟨hx, rfl, hsc4⟩⟩
            · have HSc4 := hide hsc4
              have HTk2 : Hid (tokAt (l.drop j) = some (⟨p.2, 0, [], 0⟩, p.1.length)) := by
                show _ = _
                rcases HSi.out with ⟨p', e1, e2, e3⟩ | ⟨e1, _⟩
                · rw [hx] at e1
                  obtain rfl := Option.some.inj e1
                  rw [HTok.out, e2, if_neg (by simpa using e3)]
                · rw [hx] at e1; cases e1
              clear hsc4 hx
              have hT4 := ho4.blk HT3.out (by omega)
              obtain ⟨y0, y1, y2, y3, fy, ly⟩ := blk4 hT4
              have HO4 : Hid (Only b w w4) := HO3.out.trans ho4
              clear hT4 ho4
              go_wp2
              refine bodyPost_ret (v := .tuple #[.agg #[.int .i64 (p.2 : Nat), .int .i64 (lj : Nat), .string ⟨#[]⟩, .int .i64 0], .bool true]) (by simp [results, Tryz.results27, go_sem, y0, y1, y2, y3]) rfl ?_
              exact nx_ok (t := ⟨(p.2 : Nat), 0, _, _⟩) (Only.set4 HO4.out (Nat.le_refl _) _ _ _ _) (HSc4.out.keep (set4_same (by omega) _ _ _ _)) HJ.out HLj.out HL1.out HN.out HTk2.out
            · have HSc4 := hide hsc4
              have HTk2 : Hid (tokAt (l.drop j) = none) := by
                show _ = _
                rcases HSi.out with ⟨p', e1, e2, e3⟩ | ⟨e1, e2⟩
                · rw [hx] at e1; cases e1
                · rw [HTok.out, e2]; rfl
              clear hsc4 hx
              have hT4 := ho4.blk HT3.out (by omega)
              obtain ⟨y0, y1, y2, y3, fy, ly⟩ := blk4 hT4
              have HO4 : Hid (Only b w w4) := HO3.out.trans ho4
              clear hT4 ho4
              go_wp2
              refine bodyPost_ret (v := .tuple #[.agg #[.int .i64 0, .int .i64 0, .string ⟨#[]⟩, .int .i64 0], .bool false]) (by simp [results, Tryz.results27, go_sem, y0, y1, y2, y3]) rfl ?_
              exact nx_no (Only.set4 HO4.out (Nat.le_refl _) _ _ _ _) ⟨_, HSc4.out.keep (set4_same (by omega) _ _ _ _)⟩ HLj.out HL1.out HN.out HTk2.out
        · have HTok := hide (tokAt_digit l j hlt hd)
          have HQ := hide (cnumber_any HSc3.out hv1 hv2 (by omega) hl hlt hd)
          clear hg1 hg2 hv1 hv2
          go_wp2_with fail
          refine (cletter _ _).mono ?_
          rintro e w' ⟨rfl, rfl⟩
          rw [ha]
          go_wp2_with fail
          refine (cdigit _ _).mono ?_
          rintro e w' ⟨rfl, rfl⟩
          rw [hd]
          go_wp2_with fail
          refine HQ.out.mono ?_
          rintro e w4 ⟨ho4, hsc4, ⟨v, hx, rfl⟩ | ⟨hx, rfl⟩⟩
          · have HSc4 := hide hsc4
            have HTk2 : Hid (tokAt (l.drop j) = some (⟨2, 0, [], v⟩, ((l.drop j).takeWhile isDig).length)) := by show _ = _; rw [HTok.out, hx]
            clear hsc4 hx
            have hT4 := ho4.blk HT3.out (by omega)
            obtain ⟨y0, y1, y2, y3, fy, ly⟩ := blk4 hT4
            have HO4 : Hid (Only b w w4) := HO3.out.trans ho4
            clear hT4 ho4
            go_wp2
            refine bodyPost_ret (v := .tuple #[.agg #[.int .i64 2, .int .i64 (lj : Nat), .string ⟨#[]⟩, .int .i64 v], .bool true]) (by simp [results, Tryz.results27, go_sem, y0, y1, y2, y3]) rfl ?_
            exact nx_ok (t := ⟨2, 0, _, _⟩) (Only.set4 HO4.out (Nat.le_refl _) _ _ _ _) (HSc4.out.keep (set4_same (by omega) _ _ _ _)) HJ.out HLj.out HL1.out HN.out HTk2.out
          · have HSc4 := hide hsc4
            have HTk2 : Hid (tokAt (l.drop j) = none) := by show _ = _; rw [HTok.out, hx]
            clear hsc4 hx
            have hT4 := ho4.blk HT3.out (by omega)
            obtain ⟨y0, y1, y2, y3, fy, ly⟩ := blk4 hT4
            have HO4 : Hid (Only b w w4) := HO3.out.trans ho4
            clear hT4 ho4
            go_wp2
            refine bodyPost_ret (v := .tuple #[.agg #[.int .i64 0, .int .i64 0, .string ⟨#[]⟩, .int .i64 0], .bool false]) (by simp [results, Tryz.results27, go_sem, y0, y1, y2, y3]) rfl ?_
            exact nx_no (Only.set4 HO4.out (Nat.le_refl _) _ _ _ _) ⟨_, HSc4.out.keep (set4_same (by omega) _ _ _ _)⟩ HLj.out HL1.out HN.out HTk2.out
      · have hd : isDig l[j] = false := let_dig ha
        have HTok := hide (tokAt_name l j hlt hd ha)
        have HQ := hide (cname_any HSc3.out hg2 (by omega) hl hlt)
        clear hg1 hg2 hv1 hv2 hd
        go_wp2_with fail
        refine (cletter _ _).mono ?_
        rintro e w' ⟨rfl, rfl⟩
        rw [ha]
        go_wp2_with fail
        refine HQ.out.mono ?_
        rintro e w4 ⟨ho4, hsc4, ⟨p, hx, rfl⟩ | ⟨hx, ⟨h16, rfl⟩ | ⟨h16, rfl⟩⟩⟩
        · have HSc4 := hide hsc4
          have HTk2 : Hid (tokAt (l.drop j) = some (⟨p.2, 0, [], 0⟩, ((l.drop j).takeWhile isNam).length)) := by
            show _ = _
            obtain ⟨e1, e2⟩ := word_pos hx
            rw [HTok.out, e1, if_pos (by simpa using e2)]
          clear hsc4 hx
          have hT4 := ho4.blk HT3.out (by omega)
          obtain ⟨y0, y1, y2, y3, fy, ly⟩ := blk4 hT4
          have HO4 : Hid (Only b w w4) := HO3.out.trans ho4
          clear hT4 ho4
          go_wp2
          refine bodyPost_ret (v := .tuple #[.agg #[.int .i64 (p.2 : Nat), .int .i64 (lj : Nat), .string ⟨#[]⟩, .int .i64 0], .bool true]) (by simp [results, Tryz.results27, go_sem, y0, y1, y2, y3]) rfl ?_
          exact nx_ok (t := ⟨(p.2 : Nat), 0, _, _⟩) (Only.set4 HO4.out (Nat.le_refl _) _ _ _ _) (HSc4.out.keep (set4_same (by omega) _ _ _ _)) HJ.out HLj.out HL1.out HN.out HTk2.out
        · have HSc4 := hide hsc4
          have HTk2 : Hid (tokAt (l.drop j) = none) := by
            show _ = _
            rw [HTok.out, word_none hx, if_neg (by decide), if_neg (by omega)]
          clear hsc4 hx h16
          have hT4 := ho4.blk HT3.out (by omega)
          obtain ⟨y0, y1, y2, y3, fy, ly⟩ := blk4 hT4
          have HO4 : Hid (Only b w w4) := HO3.out.trans ho4
          clear hT4 ho4
          go_wp2
          refine bodyPost_ret (v := .tuple #[.agg #[.int .i64 0, .int .i64 0, .string ⟨#[]⟩, .int .i64 0], .bool false]) (by simp [results, Tryz.results27, go_sem, y0, y1, y2, y3]) rfl ?_
          exact nx_no (Only.set4 HO4.out (Nat.le_refl _) _ _ _ _) ⟨_, HSc4.out.keep (set4_same (by omega) _ _ _ _)⟩ HLj.out HL1.out HN.out HTk2.out
        · have HSc4 := hide hsc4
          have HTk2 : Hid (tokAt (l.drop j) = some (⟨1, 0, (l.drop j).takeWhile isNam, 0⟩, ((l.drop j).takeWhile isNam).length)) := by
            show _ = _
            rw [HTok.out, word_none hx, if_neg (by decide), if_pos h16]
          clear hsc4 hx h16
          have hT4 := ho4.blk HT3.out (by omega)
          obtain ⟨y0, y1, y2, y3, fy, ly⟩ := blk4 hT4
          have HO4 : Hid (Only b w w4) := HO3.out.trans ho4
          clear hT4 ho4
          go_wp2
          refine bodyPost_ret (v := .tuple #[.agg #[.int .i64 1, .int .i64 (lj : Nat), .string ⟨((l.drop j).takeWhile isNam).toArray⟩, .int .i64 0], .bool true]) (by simp [results, Tryz.results27, go_sem, y0, y1, y2, y3]) rfl ?_
          exact nx_ok (t := ⟨1, 0, _, _⟩) (Only.set4 HO4.out (Nat.le_refl _) _ _ _ _) (HSc4.out.keep (set4_same (by omega) _ _ _ _)) HJ.out HLj.out HL1.out HN.out HTk2.out
end Go.Proofs.YtgccmgjbbcndbaaGreatDoor
/- What the row's list of variables gives the walks. -/
namespace Go.Proofs.YtgccmgjbbcndbaaGreatDoor
open Go.RowKit Go.ChangeShapes

theorem flat2 {α : Type} (f : α → List Value) : ∀ (zs : List α) (cs : List Value), cs.length = zs.length * 2 → (∀ i (h : i < zs.length), (cs.drop (i * 2)).take 2 = f zs[i]) → cs = zs.flatMap f := by
  intro zs
  induction zs with
  | nil => intro cs hl _; simpa using hl
  | cons z r ih =>
    intro cs hl h
    have h0 := h 0 (by simp)
    have h1 := ih (cs.drop 2) (by simp at hl ⊢; omega) (fun i hi => by
      have := h (i + 1) (by simp; omega)
      rw [List.drop_drop, show 2 + i * 2 = (i + 1) * 2 by omega]
      simpa using this)
    rw [List.flatMap_cons, ← h1]
    have h00 : cs.take 2 = f z := by simpa using h0
    rw [← h00, List.take_append_drop]

theorem cells_of_pairs {H : Type} {enc : TypeId × Value → H} {P : Program} {w : World} {base : Nat} {sp : Nat → Bool} {held : Bool} {fuel : Nat} {t e : TypeId} {n : Nat} {k : IntKind} {f0 f1 : Field} {cs : List Value} {zs : List (List UInt8 × Int)} {p : List MemPlace}
    (ht : P.underlying t = some (.array n e)) (he : P.underlying e = some (.struct #[f0, f1])) (h0 : P.underlying f0.type = some .string) (h1 : P.underlying f1.type = some (.int k)) (o0 : f0.offset = 0) (o1 : f1.offset = 1) (c0 : P.cellsOf f0.type = 1) (c1 : P.cellsOf f1.type = 1) (hce : P.cellsOf e = 2) (hct : P.cellsOf t = n * 2)
    (h : DataW.trod enc P w base sp held fuel t cs = some (.agg (zs.map fun z => .agg [.lit (.string z.1), .lit (.int k z.2)]), p)) : cs = zs.flatMap fun z => [.string ⟨z.1.toArray⟩, .int k z.2] := by
  obtain ⟨xs, m, rfl, hx, hl, hn, hel⟩ := DataW.trod_array ht h
  simp only [Prod.mk.injEq, DataW.agg.injEq] at hx
  have hzn : zs.length = n := by have := congrArg List.length hx.1; simp at this; omega
  refine flat2 _ zs cs (by rw [hl, hct, hzn]) (fun i hi => ?_)
  have hi' : i < xs.length := by omega
  have hi1 := hel i (by omega)
  rw [hce, List.getElem?_eq_getElem hi'] at hi1
  obtain ⟨y0, y1, m2, e1, e2, e3, e4⟩ := trod_struct2 he hi1
  rw [o0, c0] at e3
  rw [o1, c1] at e4
  obtain ⟨s, q1, q2, _⟩ := DataW.trod_string h0 e3
  obtain ⟨v, q3, q4, _⟩ := DataW.trod_int h1 e4
  have hxi : (xs[i]).1 = (DataW.agg [.lit (.string zs[i].1), .lit (.int k zs[i].2)] : DataW H) := by
    have := congrArg (·[i]?) hx.1
    simp only [List.getElem?_map, List.getElem?_eq_getElem hi, List.getElem?_eq_getElem hi', Option.map_some, Option.some.injEq] at this
    exact this.symm
  rw [e1, q2, q4] at hxi
  simp only [DataW.agg.injEq, List.cons.injEq, DataW.lit.injEq, Lit.string.injEq, Lit.int.injEq, and_true, true_and] at hxi
  obtain ⟨r1, r2⟩ := hxi
  generalize hd : (cs.drop (i * 2)).take 2 = ds at *
  have hdl : ds.length = 2 := by rw [e2, hce]
  match ds, hdl with
  | [a, b], _ =>
    simp at q1 q3
    subst q1 q3
    rw [← r1, ← r2]

theorem gWords : Tryz.prog.globalNamed "gambit/scan.words" = some 0 := by kernel_rfl
theorem gSigns : Tryz.prog.globalNamed "gambit/scan.signs" = some 1 := by kernel_rfl
theorem gRange : Tryz.prog.globalNamed "strconv.ErrRange" = some 3 := by kernel_rfl
theorem tWords : (Tryz.prog.globals[0]?).map (·.type) = some 128 := by kernel_rfl
theorem tSigns : (Tryz.prog.globals[1]?).map (·.type) = some 136 := by kernel_rfl
theorem spellU : Tryz.prog.underlying 127 = some (.struct #[Field.mk "text" 9 0 false "" "gambit/scan" 0, Field.mk "kind" 91 1 false "" "gambit/scan" 16]) := by kernel_rfl

theorem var_block {P : Program} {w : World} {n : String} {g : Nat} {cs : Array Value} (hg : P.globalNamed n = some g) (h : w.var? P n = some cs) : ∃ t fr, w.heap[g]? = some (.cells cs t fr) := by
  unfold World.var? at h
  rw [hg] at h
  simp only [Option.bind_some] at h
  split at h
  · rename_i c t fr hh
    cases h
    exact ⟨t, fr, hh⟩
  · cases h

theorem trod_if {H : Type} {enc : TypeId × Value → H} {P : Program} {w : World} {base : Nat} {sp : Nat → Bool} {held : Bool} {fuel : Nat} {t : TypeId} {ms : Array (String × TypeId)} {cs : List Value} {x : DataW H × List MemPlace} (ht : P.underlying t = some (.interface ms)) (h : DataW.trod enc P w base sp held fuel t cs = some x) :
    cs = [.nilIface] ∨ ∃ u v, cs = [.iface u v] := by
  cases fuel with
  | zero => simp [DataW.trod] at h
  | succ n =>
    unfold DataW.trod at h
    rw [ht] at h
    split at h <;> simp_all
theorem tRange : (Tryz.prog.globals[3]?).map (·.type) = some 131 := by kernel_rfl

theorem glob_of_laid {W : World} (h : laidMetH Tryz.prog Rows.readsRow.laid W) : Glob W := by
  rw [MakeChecks.laidMetH_plain _ _ _ (by kernel_rfl)] at h
  obtain ⟨ps, ⟨g0, t0, cs0, f0, p0, q0, hg0, ht0, hv0, hd0, ⟨g1, t1, cs1, f1, p1, q1, hg1, ht1, hv1, hd1, ⟨g2, t2, cs2, f2, p2, q2, hg2, ht2, hv2, hd2, ⟨g3, t3, cs3, f3, p3, q3, hg3, ht3, hv3, hd3, ⟨g4, t4, cs4, f4, p4, q4, hg4, ht4, hv4, hd4, ⟨g5, t5, cs5, f5, p5, q5, hg5, ht5, hv5, hd5, ⟨g6, t6, cs6, f6, p6, q6, hg6, ht6, hv6, hd6, _, _⟩, _⟩, _⟩, _⟩, _⟩, _⟩, _⟩, _, _⟩ := h
  clear hd0 hd1 hd2 hd4 hv0 hv1 hv2 hv4 ht0 ht1 ht2 ht4 hg0 hg1 hg2 hg4
  obtain rfl := Option.some.inj (gRange.symm.trans hg3)
  obtain rfl := Option.some.inj (gWords.symm.trans hg5)
  obtain rfl := Option.some.inj (gSigns.symm.trans hg6)
  obtain rfl := Option.some.inj (tWords.symm.trans ht5)
  obtain rfl := Option.some.inj (tSigns.symm.trans ht6)
  have hw := cells_of_pairs (zs := wordL.map fun x => (x.1, (x.2 : Int))) Tryz.underlying128 spellU Tryz.underlying9 (by kernel_rfl) rfl rfl (by kernel_rfl) (by kernel_rfl) (by kernel_rfl) (by kernel_rfl) (k := .i64) hd5
  have hs := cells_of_pairs (zs := signL.map fun x => (x.1, (x.2 : Int))) Tryz.underlying136 spellU Tryz.underlying9 (by kernel_rfl) rfl rfl (by kernel_rfl) (by kernel_rfl) (by kernel_rfl) (by kernel_rfl) (k := .i64) hd6
  refine ⟨?_, ?_, ?_⟩
  · obtain ⟨t, fr, hh⟩ := var_block gSigns hv6
    refine ⟨t, fr, ?_⟩
    rw [hh, ← Array.toArray_toList (xs := cs6), hs]
    rfl
  · obtain ⟨t, fr, hh⟩ := var_block gWords hv5
    refine ⟨t, fr, ?_⟩
    rw [hh, ← Array.toArray_toList (xs := cs5), hw]
    rfl
  · obtain rfl := Option.some.inj (tRange.symm.trans ht3)
    obtain ⟨t, fr, hh⟩ := var_block gRange hv3
    have hc : W.cell? ⟨3, 0, none⟩ = cs3.toList[0]? := by rw [cell_of_row W _ 0 cs3 _ _ hh, Array.getElem?_toList]
    rcases trod_if Tryz.underlying131 hd3 with e | ⟨u, v, e⟩
    · exact ⟨.nilIface, by rw [hc, e]; rfl, .inl rfl⟩
    · exact ⟨.iface u v, by rw [hc, e]; rfl, .inr ⟨u, v, rfl⟩⟩
end Go.Proofs.YtgccmgjbbcndbaaGreatDoor
