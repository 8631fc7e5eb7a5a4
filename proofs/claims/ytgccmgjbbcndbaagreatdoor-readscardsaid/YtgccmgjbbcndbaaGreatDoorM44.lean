import Derived.Test.YtgccmgjbbcndbaaGreatDoorM43
import Derived.Laws.CopyOwn
import Derived.Deep.OwnRows
import Derived.Test.YtgccmgjbbcndbaaGreatDoorM33
/- Walk of gambit.Compile. -/
namespace Go.Proofs.YtgccmgjbbcndbaaGreatDoor
open Go.RowKit
open Go.Deep (BT)

def fsV (fs : List (Nm × Nat)) : List Value := fs.map fun p => .string ⟨p.1.toArray⟩

def CoPost (l : List UInt8) (w : World) (e : Ending) (w' : World) : Prop :=
  Below w.heap.size w w' ∧ (((compileP l).1.1 ≠ 0 ∧ e = .returned (.tuple #[.pointer none, .agg #[.int .i64 ((compileP l).1.1 : Nat), .int .i64 ((compileP l).1.2 : Nat)]])) ∨
    ∃ fs gb va vn vc, compileP l = ((0, 0), fs) ∧ fs.length ≤ 100000 ∧ e = .returned (.tuple #[.pointer (some ⟨gb, 0, none⟩), .agg #[.int .i64 0, .int .i64 0]]) ∧ w.heap.size ≤ gb ∧ w'.heap[gb]? = some (.cells #[.slice va vn vc] 47 (0, 0)) ∧
      w'.ownsRow 0 9 1 (.slice va vn vc) fs.length (fsV fs) ∧ (∀ g, (Value.slice va vn vc).ownBlock = some g → w.heap.size ≤ g))

def CoRel (fs : List (Nm × Nat)) (W : World) (gb : Nat) (k : Nat) (v : Value) (wr : World) : Prop :=
  ∃ (i : Nat) (va : Option Addr) (vc : Nat), v = .int .i64 i ∧ i + k = fs.length ∧ wr.heap[gb]? = some (.cells #[.slice va i vc] 47 (0, 0)) ∧ wr.ownsRow 0 9 1 (.slice va i vc) i (fsV (fs.take i)) ∧ (∀ g, (Value.slice va i vc).ownBlock = some g → W.heap.size ≤ g) ∧ Only gb W wr

theorem only_app {gb i g2 : Nat} {va : Option Addr} {vc : Nat} {W wr w2 : World} {T : Obj} {u : Value} (h : Only gb W wr) (hlo : ∀ g, (Value.slice va i vc).ownBlock = some g → W.heap.size ≤ g) (hgb : gb < W.heap.size)
    (hgrow : (wr.alloc T).grownBy w2 (Value.slice va i vc).ownBlock) (hat : (Value.slice va i vc).ownBlock = some g2 ∨ g2 = (wr.alloc T).heap.size) : Only gb W (w2.setCell ⟨gb, 0, none⟩ u) ∧ W.heap.size ≤ g2 ∧ w2.heap[gb]? = wr.heap[gb]? := by
  have hs := h.size
  have hs2 := hgrow.size
  rw [World.size_alloc] at hs2
  have hk : ∀ k, k < W.heap.size → w2.heap[k]? = wr.heap[k]? := fun k hk => (hgrow.block k (by simp; omega) (fun e => by have := hlo k e.symm; omega)).trans (Below.heap_alloc _ _ _ (by omega))
  refine ⟨⟨hgrow.os.trans h.os, hgrow.tape.trans h.tape, hgrow.output.trans h.output, by simp [World.setCell]; omega, fun k h1 h2 => ?_⟩, ?_, hk gb hgb⟩
  · rw [Below.heap_setCell _ _ _ _ (by exact h2), hk k h1]
    exact h.block k h1 h2
  · rcases hat with e | e
    · exact hlo g2 e
    · rw [e, World.size_alloc]; omega

set_option maxRecDepth 100000 in
set_option maxHeartbeats 600000 in
theorem codeCompile_any (l : List UInt8) (w : World) (hg : Glob w) (hw : 4 ≤ w.heap.size) :
    Calls Tryz.prog 5 #[.string ⟨l.toArray⟩] w (CoPost l w) := by
  have HRt := hide (readText_any l (w.alloc (.cells #[.int .i64 0, .int .i64 0] 29)) (hg.below (Below.alloc (Below.refl _ _) (Nat.le_refl _) _)) (by simp; omega))
  clear hg
  go_enter Tryz.func5, Tryz.ntmps5
  go_wp2_with fail
  refine HRt.out.mono ?_
  rintro e w1 ⟨hb1, ⟨hf, rfl⟩ | ⟨c, pb, va, vn, vc, cs, hcp, rfl, hpb, hpc, hpo, hrep, hwf, hbs⟩⟩
  · have hR := bblk hb1 (heap_alloc_new w (.cells #[.int .i64 0, .int .i64 0] 29))
    have HB1 : Hid (Below w.heap.size w w1) := Below.trans (Below.alloc (Below.refl _ _) (Nat.le_refl _) _) (hb1.mono (by simp))
    obtain ⟨x0, x1, fx, lx⟩ := blk2p hR
    generalize hfl : (compileP l).1 = fl at *
    have HFl := hide hfl
    have t4 : ((fl.1 : Int) == 0) = false := kn0 hf
    have HF := hide hf
    clear hf hfl hR hb1 HRt
    go_wp2
    go_region
    all_goals go_wp2
    all_goals refine bodyPost_ret (v := .tuple #[.pointer none, .agg #[.int .i64 (fl.1 : Nat), .int .i64 (fl.2 : Nat)]]) (by simp [results, Tryz.results5, go_sem, x0, x1, lx]) rfl ?_
    all_goals refine ⟨?_, .inl (by rw [HFl.out]; exact ⟨HF.out, rfl⟩)⟩
    all_goals repeat (first | exact HB1.out | refine Below.alloc ?_ (by simp [World.setCell]; omega) _ | refine Below.setCell ?_ (by simp; omega) _ | refine Below.setCell ?_ (by simp) _ | refine Below.drew ?_)
  · have hR := bblk hb1 (heap_alloc_new w (.cells #[.int .i64 0, .int .i64 0] 29))
    have HB1 : Hid (Below w.heap.size w w1) := Below.trans (Below.alloc (Below.refl _ _) (Nat.le_refl _) _) (hb1.mono (by simp))
    have HR := hide hR
    have HPc := hide hpc
    have HPo := hide hpo
    have HRep := hide hrep
    have HWf := hide hwf
    have HCp := hide hcp
    have ls1 := hb1.size
    rw [World.size_alloc] at ls1
    have hk1 : ∀ g, (w.alloc (.cells #[.int .i64 0, .int .i64 0] 29)).heap.size ≤ g → g < w1.heap.size → ((w1.alloc (.cells #[.int .i64 0, .int .i64 0] 29)).alloc (.cells #[.slice none 0 0] 47)).heap[g]? = w1.heap[g]? ∧ g < w1.heap.size := fun g h1 h2 => ⟨(Below.heap_alloc _ _ _ (by simp; omega)).trans (Below.heap_alloc _ _ _ h2), h2⟩
    have HFs := hide (functions_any c hwf _ ((w1.alloc (.cells #[.int .i64 0, .int .i64 0] 29)).alloc (.cells #[.slice none 0 0] 47)) pb va vn vc cs (alloc_old (alloc_old hpc)) (hpo.keep hk1) (RepC.keep hk1 _ _ hrep) (by omega))
    clear hR hb1 hpc hpo hrep hwf hcp HRt hk1
    go_wp2_with fail
    refine HFs.out.mono ?_
    rintro e w2 ⟨fa, fn, fc, rfl, hb2, hfn, hrow⟩
    have hP2 := bblk hb2 (heap_alloc_new (w1.alloc (.cells #[.int .i64 0, .int .i64 0] 29)) (.cells #[.slice none 0 0] 47))
    rw [World.size_alloc] at hP2
    have hR2 := bblk hb2 (alloc_old (alloc_old HR.out))
    have hfl := hfn.len
    have hff := hfn.few
    subst hfl
    have HFn := hide hfn
    have HB2 : Hid (Below w.heap.size w w2) := HB1.out.trans (Below.trans (Below.alloc (Below.alloc (Below.refl _ _) (by omega) _) (by simp; omega) _) (hb2.mono (by simp; omega)))
    have ls2 := hb2.size
    simp only [World.size_alloc] at ls2
    have HR2 := hide hR2
    have HP2 := hide hP2
    have HRow := hide hrow
    clear hfn HFs hb2 hR2 hP2 hrow
    generalize hfs : fnsOf c = fs at *
    clear hfs
    go_wp2
    go_loopg [23] fs.length (fun k v wr => CoRel fs w2 (w1.heap.size + 1) k v wr)
    case atStart => exact ⟨0, none, 0, rfl, by omega, HP2.out, World.ownsRow_nil _ _ _ _, by simp [Value.ownBlock], Only.refl _ _⟩
    case round =>
      obtain ⟨i, na, nc, rfl, hik, hgb, hown, hlo, honly⟩ := hrel
      have lsr := honly.size
      have d0 := cell_row hgb 0 _ rfl
      have fd := frozen_row hgb
      have lgb := heap_lt hgb
      have HGb := hide hgb
      have HOwn := hide hown
      have HLo := hide hlo
      have HOn := hide honly
      by_cases hlt : i < fs.length
      · obtain ⟨g, fb, pa, pc, rfl, hDg, lg, hg1, hDp, lp, hp1, _⟩ := HFn.out.at' i hlt
        have hDg2 : g ≠ w1.heap.size + 1 := by
          rcases hDg with h | h
          · omega
          · have := (HRow.out g h).1; simp at this; omega
        have hDp2 : fb ≠ w1.heap.size + 1 := by
          rcases hDp with h | h
          · omega
          · have := (HRow.out fb h).1; simp at this; omega
        have e0 := (World.cell?_of_block (honly.block g lg hDg2)).trans hg1
        have e1 := (World.cell?_of_block (honly.block fb lp hDp2)).trans hp1
        have hcap := HFn.out.cap
        have lg2 : g < wr.heap.size := by omega
        have lp2 : fb < wr.heap.size := by omega
        generalize hnm : fs[i].1 = nm at *
        have HNm := hide hnm
        clear hgb hlo honly hDg hDp hg1 hp1 hnm
        go_wp2
        go_region_law (refine step_app2 _ wr.heap.size #[.string ⟨nm.toArray⟩] 9 (by show (wr.alloc _).heap[wr.heap.size]? = _; exact heap_alloc_new wr (.cells #[.string ⟨nm.toArray⟩] 9)) rfl (.tmp 31) (.tmp 37) 34 rfl 0 1 16 (.string ⟨#[]⟩) Tryz.underlying34 infoStr rfl (by omega) (.slice na i nc) i (fsV (fs.take i)) rfl rfl (hown.alloc _) rfl (fun u hu => by simp at hu; rw [hu]; rfl) (by omega) (by omega) (Nat.zero_le _) ?_; intro g2 cap2 w3 hown2 hgrow2 hat2 hg2; obtain ⟨k1, k2, k3⟩ := only_app (u := .slice (some ⟨g2, 0, none⟩) (i + 1) cap2) HOn.out HLo.out (by omega) (show (wr.alloc (.cells #[.string ⟨nm.toArray⟩] 9)).grownBy w3 _ from ⟨hgrow2.os, hgrow2.tape, hgrow2.output, hgrow2.size, hgrow2.block⟩) hat2; have hgb3 := k3.trans HGb.out; have z0 := cell_row hgb3 0 _ rfl; have fz := frozen_row hgb3; have HGb3 := hide hgb3; have HK1 := hide k1; have lz := heap_lt hgb3; have HOwn2 := hide hown2; clear k1 k3 hgb3 hgrow2 hat2 hown2)
        all_goals
          go_wp2
          go_roundg (gk - 1)
          case measure => omega
          case rel =>
            refine ⟨i + 1, some ⟨g2, 0, none⟩, cap2, rfl, by omega, ?_, ?_, ?_, HK1.out⟩
            · have := heap_set (j := 0) HGb3.out (.slice (some ⟨g2, 0, none⟩) (i + 1) cap2)
              simpa using this
            · have h1 := own_same HOwn2.out (w' := w3.setCell ⟨w1.heap.size + 1, 0, none⟩ (.slice (some ⟨g2, 0, none⟩) (i + 1) cap2)) (fun k hk _ => Below.heap_setCell _ _ _ _ (by simp only [Value.ownBlock, Option.some.injEq] at hk; show k ≠ w1.heap.size + 1; omega))
              rw [show fsV (fs.take (i + 1)) = fsV (fs.take i) ++ [.string ⟨nm.toArray⟩] from by unfold fsV; rw [List.take_add_one, List.getElem?_eq_getElem hlt, List.map_append]; simp [HNm.out]]
              exact h1
            · intro k hk
              simp only [Value.ownBlock, Option.some.injEq] at hk
              omega
      · have hif : i = fs.length := by omega
        have hR3 := (honly.block w.heap.size (by omega) (by omega)).trans HR2.out
        obtain ⟨x0, x1, fx, lx⟩ := blk2p hR3
        have HOn2 : Hid (Below w.heap.size w wr) := ⟨honly.os.trans HB2.out.os, honly.tape.trans HB2.out.tape, honly.output.trans HB2.out.output, by omega, fun k hk => (honly.block k (by omega) (by omega)).trans (HB2.out.block k hk)⟩
        clear hgb hown hlo honly hR3
        go_wp2
        refine bodyPost_ret (v := .tuple #[.pointer (some ⟨w1.heap.size + 1, 0, none⟩), .agg #[.int .i64 0, .int .i64 0]]) (by simp [results, Tryz.results5, go_sem, x0, x1]) rfl ?_
        have hkk : ∀ g, w.heap.size < g → (((wr.setCell ⟨w.heap.size, 0, none⟩ (.int .i64 0)).setCell ⟨w.heap.size, 1, none⟩ (.int .i64 0))).heap[g]? = wr.heap[g]? := by
          intro g h1
          rw [Below.heap_setCell _ _ _ _ (by show g ≠ w.heap.size; omega), Below.heap_setCell _ _ _ _ (by show g ≠ w.heap.size; omega)]
        refine ⟨?_, .inr ⟨fs, w1.heap.size + 1, na, i, nc, HCp.out, hff, rfl, by omega, (hkk _ (by omega)).trans HGb.out, ?_, fun g e => by have := HLo.out g e; omega⟩⟩
        · repeat (first | exact HOn2.out | refine Below.alloc ?_ (by simp [World.setCell]; omega) _ | refine Below.setCell ?_ (by simp) _ | refine Below.drew ?_)
        · have h1 := own_same HOwn.out (w' := ((wr.setCell ⟨w.heap.size, 0, none⟩ (.int .i64 0)).setCell ⟨w.heap.size, 1, none⟩ (.int .i64 0))) (fun k hk _ => hkk k (by have := HLo.out k hk; omega))
          rw [hif, List.take_length] at h1
          rw [hif]
          exact h1
end Go.Proofs.YtgccmgjbbcndbaaGreatDoor
/- Walk of (*Program).Functions. -/
namespace Go.Proofs.YtgccmgjbbcndbaaGreatDoor
open Go.RowKit
open Go.Deep (BT)

def NsPost (fs : List (Nm × Nat)) (w : World) (e : Ending) (w' : World) : Prop :=
  Below w.heap.size w w' ∧ ∃ va vn vc, e = .returned (.slice va vn vc) ∧ w'.ownsRow 0 9 1 (.slice va vn vc) fs.length (fsV fs) ∧ (∀ g, (Value.slice va vn vc).ownBlock = some g → w.heap.size ≤ g)

set_option maxRecDepth 100000 in
set_option maxHeartbeats 600000 in
theorem names_any (fs : List (Nm × Nat)) (w : World) (gb : Nat) (va : Option Addr) (vn vc : Nat) (hfew : fs.length ≤ 100000) (hgb : w.heap[gb]? = some (.cells #[.slice va vn vc] 47 (0, 0))) (hown : w.ownsRow 0 9 1 (.slice va vn vc) fs.length (fsV fs)) :
    Calls Tryz.prog 7 #[.pointer (some ⟨gb, 0, none⟩)] w (NsPost fs w) := by
  have hvn : vn = fs.length := (own_cells hown).1
  subst hvn
  have c0 := cell_row hgb 0 _ rfl
  have lg := heap_lt hgb
  have hmk := run_make_row' (P := Tryz.prog) 34 9 (.string ⟨#[]⟩) 16 Tryz.underlying34 infoStr rfl .i64 .i64 fs.length (by omega) (by omega) w
  have HOwn := hide hown
  obtain ⟨Z, hZ⟩ : ∃ Z, Z = (madeCells #[.string ⟨#[]⟩] fs.length) := ⟨_, rfl⟩
  have hZl : Z.toList.length = fs.length := by rw [hZ, Array.length_toList, size_madeCells]
  rw [← hZ] at hmk
  have hfl : (fsV fs).length = fs.length := by simp [fsV]
  obtain ⟨X, hX⟩ : ∃ X, X = fsV fs := ⟨_, rfl⟩
  have HX := hide hX
  have hxl : X.length = fs.length := by rw [hX, hfl]
  have h1 : ∀ v ∈ X, v.oneCell' = true := by
    intro v hv
    rw [hX] at hv
    unfold fsV at hv
    obtain ⟨p, _, rfl⟩ := List.mem_map.mp hv
    rfl
  have HCell : Hid (0 < X.length → ∃ ad, va = some ad ∧ ∀ j v, X[j]? = some v → (w.alloc (.cells Z 9)).cell? (ad.add j) = some v) := by
    intro h0
    obtain ⟨g, k1, k2, k3, k4, k5⟩ := own_row HOwn.out (by omega)
    refine ⟨_, k1, fun j v hv => ?_⟩
    rw [hX] at hv
    have : (Addr.mk g 0 none).add j = ⟨g, j, none⟩ := by simp [Addr.add]; omega
    rw [this, World.cell?_of_block (Below.heap_alloc _ _ _ k4)]
    exact k5 j v hv
  have HZ := hide hZl
  have H1 := hide h1
  have HHp : Hid ((w.alloc (.cells Z 9)).heap[w.heap.size]? = some (.cells Z.toList.toArray 9 (0, 0))) := by
    show _ = _
    rw [Array.toArray_toList]; exact heap_alloc_new w _
  have HMn : Hid (X.length = Nat.min fs.length fs.length) := by
    show _ = _
    rw [hxl]; exact (Nat.min_self _).symm
  have HFt : Hid (0 + X.length ≤ Z.toList.length) := by show _ ≤ _; omega
  have hs1 : (Tryz.prog.info? 9).map (·.size) = some 1 := by kernel_rfl
  have HS1 := hide hs1
  clear hown hX hZ hfl h1 hZl hgb hs1
  have hcp : ∃ w2, (Builtin.copy_ #[34, 34] 3 #[.slice (some ⟨w.heap.size, 0, none⟩) fs.length fs.length, .slice va fs.length vc]).run Tryz.prog (w.alloc (.cells Z 9)) = .ok (goInt X.length) w2 ∧ w2.heap[w.heap.size]? = some (.cells X.toArray 9 (0, 0)) ∧ Below w.heap.size w w2 := by
    have hZl := HZ.out
    by_cases h0 : X.length = 0
    · have hx0 : X = [] := List.eq_nil_of_length_eq_zero h0
      have hz0 : Z = #[] := by
        have : Z.toList = [] := List.eq_nil_of_length_eq_zero (by omega)
        rw [← Array.toArray_toList (xs := Z), this]
      have hn : Nat.min fs.length fs.length = 0 := by have := HMn.out; omega
      have := run_copy_none (P := Tryz.prog) (w.alloc (.cells Z 9)) 34 34 3 9 (some ⟨w.heap.size, 0, none⟩) va fs.length fs.length fs.length vc Tryz.underlying34 HS1.out hn
      refine ⟨_, by rw [h0]; exact this, ?_, Below.alloc (Below.refl _ _) (Nat.le_refl _) _⟩
      rw [hx0, hz0]
      exact heap_alloc_new w _
    · obtain ⟨ad, k1, k2⟩ := HCell.out (by omega)
      subst k1
      have := run_copy_row (P := Tryz.prog) (w.alloc (.cells Z 9)) 34 34 3 9 w.heap.size 0 fs.length fs.length ad fs.length vc Z 9 X Tryz.underlying34 HS1.out (heap_alloc_new w _) HMn.out k2 (by have := HFt.out; simpa using this) H1.out
      refine ⟨_, this, ?_, below_setRow (Below.alloc (Below.refl _ _) (Nat.le_refl _) _) (Nat.le_refl _) _⟩
      rw [setRow_heap _ _ _ _ 9 (0, 0) (heap_alloc_new w _)]
      have hd : Z.toList.drop (0 + X.length) = [] := List.drop_eq_nil_of_le (by omega)
      rw [hd]; simp
  obtain ⟨w2, hrun, hg2, hb2⟩ := hcp
  have HG2 := hide hg2
  have HB2 := hide hb2
  clear hg2 hb2
  go_enter Tryz.func7, Tryz.ntmps7
  go_wp2
  refine bodyPost_ret (v := .slice (some ⟨w.heap.size, 0, none⟩) fs.length fs.length) (by simp [results, Tryz.results7, go_sem]) rfl ?_
  refine ⟨HB2.out, _, _, _, rfl, ⟨by simp [fsV], .inr ⟨_, _, _, rfl, Nat.zero_le _, HG2.out, Nat.le_refl _, by simp only [maxLen]; omega, by simp [hxl], ?_⟩⟩, ?_⟩
  · rw [HX.out]
    exact List.take_of_length_le (by simp [fsV])
  · intro g e
    simp only [Value.ownBlock, Option.some.injEq] at e
    omega
end Go.Proofs.YtgccmgjbbcndbaaGreatDoor
/- Walk of gambitlaw.sameTexts. -/
namespace Go.Proofs.YtgccmgjbbcndbaaGreatDoor
open Go.RowKit

set_option maxRecDepth 100000 in
set_option maxHeartbeats 600000 in
theorem sameTexts_any (fs : List (Nm × Nat)) (hfew : fs.length ≤ 100000) (w : World) (va : Option Addr) (vn vc : Nat) (ua : Option Addr) (un uc : Nat) (h1 : w.ownsRow 0 9 1 (.slice va vn vc) fs.length (fsV fs)) (h2 : w.ownsRow 0 9 1 (.slice ua un uc) fs.length (fsV fs)) :
    Calls Tryz.prog 8 #[.slice va vn vc, .slice ua un uc] w fun e w' => e = .returned (.bool true) ∧ Below w.heap.size w w' := by
  have hvn : vn = fs.length := (own_cells h1).1
  have hun : un = fs.length := (own_cells h2).1
  subst hvn hun
  have H1 := hide h1
  have H2 := hide h2
  clear h1 h2
  go_enter Tryz.func8, Tryz.ntmps8
  go_wp2
  go_loopg [5] fs.length (fun k v wr => ∃ i : Nat, v = .int .i64 i ∧ i + k = fs.length ∧ Below w.heap.size w wr)
  case atStart => exact ⟨0, rfl, by omega, Below.refl _ _⟩
  case round =>
    obtain ⟨i, rfl, hik, hbel⟩ := hrel
    have HB := hide hbel
    by_cases hlt : i < fs.length
    · obtain ⟨g1, e1, _, c1, l1, k1⟩ := own_row H1.out (by omega)
      obtain ⟨g2, e2, _, c2, l2, k2⟩ := own_row H2.out (by omega)
      subst e1 e2
      have hv : (fsV fs)[i]? = some (.string ⟨fs[i].1.toArray⟩) := by simp [fsV, List.getElem?_eq_getElem hlt]
      have d1 := (World.cell?_of_block (hbel.block g1 l1)).trans (k1 i _ hv)
      have d2 := (World.cell?_of_block (hbel.block g2 l2)).trans (k2 i _ hv)
      have ls := hbel.size
      have m1 : g1 < wr.heap.size := by omega
      have m2 : g2 < wr.heap.size := by omega
      generalize fs[i].1.toArray = nm at *
      clear hbel k1 k2 hv
      go_wp2
      go_quiet (fail)
      go_wp2
      go_roundg (gk - 1)
      case measure => omega
      case rel => exact ⟨i + 1, rfl, by omega, ⟨HB.out.os, HB.out.tape, HB.out.output, HB.out.size, HB.out.block⟩⟩
    · clear hbel
      go_wp2
      exact bodyPost_ret (v := .bool true) (by simp [results, Tryz.results8, go_sem]) rfl ⟨rfl, HB.out⟩
end Go.Proofs.YtgccmgjbbcndbaaGreatDoor
/- Walk of gambitlaw.compiled. -/
namespace Go.Proofs.YtgccmgjbbcndbaaGreatDoor
open Go.RowKit
open Go.Deep (BT)

def CdPost (l : List UInt8) (w : World) (e : Ending) (w' : World) : Prop :=
  Below w.heap.size w w' ∧ ∃ p q, e = .returned (.tuple #[.pointer p, .pointer q, .bool true]) ∧ ((compileP l).1.1 = 0 → ∃ b, p = some ⟨b, 0, none⟩)

def WnRel (fs : List (Nm × Nat)) (W : World) (k : Nat) (v9 v10 : Value) (wr : World) : Prop :=
  ∃ (i : Nat) (ua : Option Addr) (un uc : Nat), v9 = .slice ua un uc ∧ v10 = .int .i64 i ∧ i + k = fs.length ∧ wr.ownsRow 0 9 1 (.slice ua un uc) i (fsV (fs.take i)) ∧ (∀ g, (Value.slice ua un uc).ownBlock = some g → W.heap.size ≤ g) ∧ Below W.heap.size W wr

theorem below_app {g2 : Nat} {v : Value} {W wr w2 : World} (h : Below W.heap.size W wr) (hlo : ∀ g, v.ownBlock = some g → W.heap.size ≤ g) (hgrow : wr.grownBy w2 v.ownBlock) (hat : v.ownBlock = some g2 ∨ g2 = wr.heap.size + 1) : Below W.heap.size W w2 ∧ W.heap.size ≤ g2 := by
  have hs := h.size
  have hs2 := hgrow.size
  refine ⟨⟨hgrow.os.trans h.os, hgrow.tape.trans h.tape, hgrow.output.trans h.output, by omega, fun k hk => (hgrow.block k (by omega) (fun e => by have := hlo k e.symm; omega)).trans (h.block k hk)⟩, ?_⟩
  rcases hat with e | e
  · exact hlo g2 e
  · omega

set_option maxRecDepth 100000 in
set_option maxHeartbeats 1000000 in
theorem compiled_any (l : List UInt8) (w : World) (hg : Glob w) (hw : 4 ≤ w.heap.size) (hr : ∀ l w, Calls Tryz.prog 6 #[.string ⟨l.toArray⟩] w (CrPost l w)) :
    Calls Tryz.prog 4 #[.string ⟨l.toArray⟩] w (CdPost l w) := by
  have HC := hide (codeCompile_any l w hg hw)
  have HR := hide (hr l)
  clear hr
  clear hg
  go_enter Tryz.func4, Tryz.ntmps4
  go_wp2_with fail
  refine HC.out.mono ?_
  rintro e w1 ⟨hb1, ⟨hf, rfl⟩ | ⟨fs, gb, va, vn, vc, hcp, hfew, rfl, hgb, hgc, hgo, hglo⟩⟩
  · have HB1 := hide hb1
    have HF := hide hf
    clear hb1 hf HC
    go_wp2_with fail
    refine (HR.out _).mono ?_
    rintro e w2 ⟨hb2, ⟨hf2, rfl⟩ | ⟨fs, pb, la, ln, lc, fa, fc, cs, hcp, hfew, rfl, hpb, hpc, hpo, hat, hplo⟩⟩
    · have hF2 := bblk hb2 (heap_alloc_new w1 (.cells #[.int .i64 ((compileP l).1.1 : Nat), .int .i64 ((compileP l).1.2 : Nat)] 29))
      have HB2 : Hid (Below w.heap.size w w2) := HB1.out.trans (Below.trans (Below.alloc (Below.refl _ _) HB1.out.size _) (hb2.mono (by have := HB1.out.size; simp; omega)))
      obtain ⟨x0, x1, fx, lx⟩ := blk2p hF2
      clear hF2 hb2 hf2
      generalize hfl : (compileP l).1 = fl at *
      have HFl := hide hfl
      clear hfl
      go_wp2
      refine bodyPost_ret (v := .tuple #[.pointer none, .pointer none, .bool true]) (by simp [results, Tryz.results4, go_sem]) rfl ?_
      refine ⟨?_, none, none, rfl, fun h => absurd h (by rw [HFl.out]; exact HF.out)⟩
      exact Below.alloc HB2.out HB2.out.size _
    · exact absurd (by rw [hcp]) HF.out
  · have HB1 := hide hb1
    have HGc := hide hgc
    have HGo := hide hgo
    have HGl := hide hglo
    clear hb1 HC hgc hgo hglo
    go_wp2_with fail
    refine (HR.out _).mono ?_
    rintro e w2 ⟨hb2, ⟨hf2, rfl⟩ | ⟨fs2, pb, la, ln, lc, fa, fc, cs, hcp2, hfew2, rfl, hpb, hpc, hpo, hat, hplo⟩⟩
    · exact absurd (by rw [hcp]) hf2
    · have hfe : fs2 = fs := by rw [hcp] at hcp2; simpa using hcp2.symm
      subst hfe
      have hF2 := bblk hb2 (heap_alloc_new w1 (.cells #[.int .i64 0, .int .i64 0] 29))
      have HB2 : Hid (Below w.heap.size w w2) := HB1.out.trans (Below.trans (Below.alloc (Below.refl _ _) HB1.out.size _) (hb2.mono (by have := HB1.out.size; simp; omega)))
      obtain ⟨x0, x1, fx, lx⟩ := blk2p hF2
      have hG2 := bblk hb2 (alloc_old (o' := .cells #[.int .i64 0, .int .i64 0] 29) HGc.out)
      have hO2 : w2.ownsRow 0 9 1 (.slice va vn vc) fs2.length (fsV fs2) := own_same HGo.out (fun k hk hl => (hb2.block k (by simp; omega)).trans (Below.heap_alloc _ _ _ hl))
      have HNm := hide (names_any fs2 (w2.alloc (.cells #[.int .i64 0, .int .i64 0] 29)) gb va vn vc hfew (alloc_old hG2) (own_same hO2 (fun k _ hl => Below.heap_alloc _ _ _ hl)))
      have HPc := hide hpc
      have HPo := hide hpo
      have HAt := hide hat
      have HCp := hide hcp
      clear hF2 hb2 hpc hpo hat hplo hcp hcp2 hG2 hO2
      go_wp2_with fail
      refine HNm.out.mono ?_
      rintro e w3 ⟨hb3, na, nn, nc, rfl, hno, hnlo⟩
      have HB3 : Hid (Below w.heap.size w w3) := HB2.out.trans (Below.trans (Below.alloc (Below.refl _ _) HB2.out.size _) (hb3.mono (by have := HB2.out.size; simp; omega)))
      have hP3 := bblk hb3 (alloc_old (o' := .cells #[.int .i64 0, .int .i64 0] 29) HPc.out)
      have hPo3 : w3.ownsRow 0 41 6 (.slice fa fs2.length fc) fs2.length cs := own_same HPo.out (fun k hk hl => (hb3.block k (by simp; omega)).trans (Below.heap_alloc _ _ _ hl))
      obtain ⟨y0, y1, fy, ly⟩ := blk2p hP3
      have HP3 := hide hP3
      have HPo3 := hide hPo3
      have HNo := hide hno
      have ls3 := HB3.out.size
      clear hP3 hPo3 hno hb3
      go_wp2
      go_loopg [10, 11] fs2.length (fun k v10 v11 wr => WnRel fs2 w3 k v10 v11 wr)
      case atStart => exact ⟨0, none, 0, 0, rfl, rfl, by omega, World.ownsRow_nil _ _ _ _, by simp [Value.ownBlock], Below.refl _ _⟩
      case round =>
        obtain ⟨i, ua, un, uc, rfl, rfl, hik, hown, hulo, hbel⟩ := hrel
        have hun : un = i := (own_cells hown).1
        subst hun
        have lsr := hbel.size
        have z1 := (World.cell?_of_block (hbel.block pb ly)).trans y1
        have lz : pb < wr.heap.size := by omega
        have HOwn := hide hown
        have HLo := hide hulo
        have HBr := hide hbel
        by_cases hlt : un < fs2.length
        · obtain ⟨gn, e1, _, c1, l1, k1⟩ := own_row HPo3.out (by omega)
          subst e1
          have d1 := (World.cell?_of_block (hbel.block gn l1)).trans (k1 _ _ (HAt.out un hlt).1)
          have l2 : gn < wr.heap.size := by omega
          generalize hnm : fs2[un].1 = nm at *
          have HNmE := hide hnm
          clear k1 hnm hbel hulo
          go_wp2_with (at_builtin; refine wpl_app wr #[.string ⟨nm.toArray⟩] 9 rfl (.tmp 46) (.tmp 55) 34 rfl 0 1 16 (.string ⟨#[]⟩) Tryz.underlying34 infoStr rfl (by omega) _ _ _ rfl rfl hown rfl (fun u hu => by simp at hu; rw [hu]; rfl) (by omega) (by omega) (Nat.zero_le _) ?_; intro g1 cap1 w4 hown1 hgrow1 hat1 hg1; have HK := hide (below_app HBr.out HLo.out hgrow1 hat1); have HOwn1 := hide hown1; clear hown1 hgrow1 hat1)
          go_roundg (gk - 1)
          case measure => omega
          case rel =>
            refine ⟨un + 1, some ⟨g1, 0, none⟩, un + 1, cap1, rfl, rfl, by omega, ?_, fun k hk => ?_, HK.out.1⟩
            · rw [show fsV (fs2.take (un + 1)) = fsV (fs2.take un) ++ [.string ⟨nm.toArray⟩] from by unfold fsV; rw [List.take_add_one, List.getElem?_eq_getElem hlt, List.map_append]; simp [HNmE.out]]
              exact HOwn1.out
            · simp only [Value.ownBlock, Option.some.injEq] at hk
              rw [← hk]; exact HK.out.2
        · have hif : un = fs2.length := by omega
          subst hif
          have h1 : wr.ownsRow 0 9 1 (.slice na nn nc) fs2.length (fsV fs2) := own_same HNo.out (fun k hk hl => hbel.block k hl)
          have h2 : wr.ownsRow 0 9 1 (.slice ua fs2.length uc) fs2.length (fsV fs2) := by
            have := HOwn.out
            rw [List.take_length] at this
            exact this
          have HSm := hide (sameTexts_any fs2 hfew wr na nn nc ua fs2.length uc h1 h2)
          clear h1 h2 hbel hulo hown
          go_wp2_with fail
          refine HSm.out.mono ?_
          rintro e w5 ⟨rfl, hb5⟩
          have HB5 : Hid (Below w.heap.size w w5) := HB3.out.trans (Below.trans (HBr.out.mono ls3) (hb5.mono (by omega)))
          clear hb5
          go_wp2
          refine bodyPost_ret (v := .tuple #[.pointer (some ⟨gb, 0, none⟩), .pointer (some ⟨pb, 0, none⟩), .bool true]) (by simp [results, Tryz.results4, go_sem]) rfl ?_
          exact ⟨HB5.out, _, _, rfl, fun _ => ⟨gb, rfl⟩⟩
end Go.Proofs.YtgccmgjbbcndbaaGreatDoor
/- Walk of gambitlaw.Reads. -/
namespace Go.Proofs.YtgccmgjbbcndbaaGreatDoor
open Go.RowKit

def rightT : List UInt8 := [102, 110, 32, 102, 40, 120, 41, 32, 123, 32, 114, 101, 116, 117, 114, 110, 32, 120, 32, 43, 32, 120, 59, 32, 125, 32, 112, 114, 105, 110, 116, 32, 102, 40, 50, 41, 59, 32, 112, 114, 105, 110, 116, 32, 102, 40, 34, 97, 34, 41, 59, 32, 112, 114, 105, 110, 116, 32, 102, 40, 51, 41, 59]

theorem right_ok : (compileP rightT).1.1 = 0 := by decide +kernel

set_option maxRecDepth 100000 in
set_option maxHeartbeats 1000000 in
theorem reads_any (l : List UInt8) (w : World) (hg : Glob w) (hr : ∀ l w, Calls Tryz.prog 6 #[.string ⟨l.toArray⟩] w (CrPost l w)) :
    Calls Tryz.prog 3 #[.string ⟨l.toArray⟩] w fun e w' => e = .returned (.bool true) ∧ Below w.heap.size w w' := by
  have hsz : 4 ≤ w.heap.size := by
    obtain ⟨ev, h, _⟩ := hg.range
    have := block_lt_of_cell h
    simp at this; omega
  have HC1 := hide (compiled_any rightT w hg hsz hr)
  have HC2 := hide (fun w' (hb : Below w.heap.size w w') => compiled_any l w' (hg.below hb) (Nat.le_trans hsz hb.size) hr)
  have HOk := hide right_ok
  clear hg hr
  go_enter Tryz.func3, Tryz.ntmps3
  go_wp2_with fail
  refine HC1.out.mono ?_
  rintro e w1 ⟨hb1, p, q, rfl, hp⟩
  obtain ⟨b, rfl⟩ := hp HOk.out
  have HB1 := hide hb1
  have HC2' := hide (HC2.out w1 hb1)
  clear hb1 HC1 HC2 HOk hp
  go_wp2_with fail
  refine HC2'.out.mono ?_
  rintro e w2 ⟨hb2, p2, q2, rfl, _⟩
  have HB2 : Hid (Below w.heap.size w w2) := HB1.out.trans (hb2.mono HB1.out.size)
  clear hb2
  go_wp2
  exact bodyPost_ret (v := .bool true) (by simp [results, Tryz.results3, go_sem]) rfl ⟨rfl, HB2.out⟩
end Go.Proofs.YtgccmgjbbcndbaaGreatDoor
