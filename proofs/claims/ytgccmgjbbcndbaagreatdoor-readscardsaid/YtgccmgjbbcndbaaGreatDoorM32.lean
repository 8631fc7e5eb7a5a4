import Derived.Test.YtgccmgjbbcndbaaGreatDoorM31
import Derived.StillTailTactics
import Derived.Test.YtgccmgjbbcndbaaGreatDoorM11
/- Walk of Sense: node, a call. -/
namespace Go.Proofs.YtgccmgjbbcndbaaGreatDoor
open Go.RowKit
open Go.Deep (BT)

/- the still form in a box that no tactic unfolds -/
structure StB (P : Program) (ops : Array Oper) (w : World) (Q : Act → Prop) (l : List Oper) (a : Act) : Prop where
  out : wpStill P ops w Q l a
theorem box_region {P : Program} {id : Nat} {Q : Exit → Act → World → Prop} {a : Act} {w : World} {l : List Oper} (n : Nat) (hm : P.follows .mixedOrders = true) (hB : Region.lexTailB .any l.toArray n = true)
    (h : StB P l.toArray { w with drawn := w.drawn + 1 } (fun a' => wpList P l.toArray Q (l.drop n) a' { w with drawn := w.drawn + 1 }) (l.take n) a) : (Code.region id l.toArray true).wp P Q a w := wp_region_still_tail n hm hB h.out
theorem box_nil {P : Program} {ops : Array Oper} {w : World} {Q : Act → Prop} {a : Act} (h : Q a) : StB P ops w Q [] a := ⟨wpStill_nil h⟩
theorem box_step {P : Program} {ops : Array Oper} {w : World} {Q : Act → Prop} {a : Act} {o : Oper} {rest : List Oper}
    (h : ∀ K : Act → Prop, (∀ a, StB P ops w Q rest a → K a) → if Region.wanted o (yielded ops a.tmps) then o.still P a w K else K (a.put o.dst undef)) : StB P ops w Q (o :: rest) a :=
  ⟨wpStill_step (fun K hK => h K (fun a hb => hK a hb.out))⟩
theorem box_skip {P : Program} {ops : Array Oper} {w : World} {Q : Act → Prop} {a : Act} {o : Oper} {rest : List Oper} (h : ∀ K : Act → Prop, (∀ a, StB P ops w Q rest a → K a) → K (a.put o.dst undef)) (hg : Region.wanted o (yielded ops a.tmps) = false) : StB P ops w Q (o :: rest) a := by
  refine ⟨?_⟩
  unfold wpStill
  rw [if_neg (by rw [hg]; decide)]
  exact h _ (fun _ h => h.out)
theorem box_move {P : Program} {ops : Array Oper} {w : World} {Q : Act → Prop} {a : Act} {o : Oper} {rest : List Oper} (x : Operand) (h : ∀ K : Act → Prop, (∀ a, StB P ops w Q rest a → K a) → K (a.put o.dst (a.eval x))) (hop : o.op = .move x) (hg : Region.wanted o (yielded ops a.tmps) = true) : StB P ops w Q (o :: rest) a := by
  refine ⟨?_⟩
  unfold wpStill
  rw [if_pos hg]
  unfold Oper.still
  have : (execOp a.eval o).run P w = .ok (.value (a.eval x)) w := by unfold execOp; rw [hop]; rfl
  rw [this]
  exact ⟨rfl, h _ (fun _ h => h.out)⟩

theorem sens_call (fns : List (Nm × Nat)) (l : Lab) (c : BT Lab) (outer cur : List Nm) (wh : Nat) (inn : Bool) (f : Flt) (h : l.kd = 7) : sens fns (nd l c) outer cur wh inn f = sens fns c outer cur wh inn (wrongF (callBad fns l.s (blen c)) 3 l.line f) := by
  unfold nd
  rw [sens, if_neg (by omega), if_neg (by omega), if_neg (by omega)]
  simp only [h, sens]
  rfl
theorem callBad_none {fns : List (Nm × Nat)} {s : Nm} (n : Nat) (h : ∀ j, ∀ h : j < fns.length, fns[j].1 ≠ s) : callBad fns s n = true := by
  unfold callBad; rw [fnIx_none fns s h]
theorem callBad_some {fns : List (Nm × Nat)} {s : Nm} (n i : Nat) (h : i < fns.length) (e : fns[i].1 = s) (hno : ∀ j, j < i → ∀ h' : j < fns.length, fns[j].1 ≠ s) : callBad fns s n = (fns[i].2 != n) := by
  unfold callBad; rw [fnIx_at fns s i h e hno]

set_option maxRecDepth 100000 in
set_option maxHeartbeats 8000000 in
theorem node_7 (K : Ctx) (l : Lab) (c : BT Lab) (hkd : l.kd = 7) (hok : ForestOK K c) (hshp : Shp c) (ht32 : T32 c) : NodeOK K l c := by
  have hk32 : l.kd ≠ 32 := by omega
  have hI : isS l.kd = [99, 97, 108, 108] := by rw [hkd]; rfl
  have hsens := fun (outer cur : List Nm) (wh : Nat) (inn : Bool) (f : Flt) => sens_call K.fns l c outer cur wh inn f (hkd)
  intro D w outer ob cur blk wh inn f ln nn S va vn vc pa pn pc c1 hst hrt hb1 hb2 hb3
  have hw32 : wh + w32 l.kd = wh := by unfold w32; rw [if_neg hk32]; rfl
  rw [hw32] at hst ⊢
  rw [hI]
  clear hI
  have HSens := hide (hsens outer cur wh inn f)
  have HSt0 := hide hst
  have HRt0 := hide hrt
  have HSt1 := hide (hst.protect (.cells #[.string ⟨#[99, 97, 108, 108]⟩, .int .i64 ln, .string ⟨S.toArray⟩, .int .i64 nn, .slice va vn vc, .slice pa pn pc] 41))
  have HOk := hide hok
  have HShp := hide hshp
  have HT := hide ht32
  have hvn : vn = blen c := (own_cells hrt.own.1).1
  have hbls := blen_size c
  have hnds := nd_size l c
  have hrt1 : RepT (fun g => D g ∨ g = w.heap.size) (w.alloc (.cells #[.string ⟨#[99, 97, 108, 108]⟩, .int .i64 ln, .string ⟨S.toArray⟩, .int .i64 nn, .slice va vn vc, .slice pa pn pc] 41)) l c ln nn S va vn vc pa pn pc c1 := hrt.keep (fun g hg hl => ⟨Below.heap_alloc _ _ _ hl, .inl hg⟩)
  have HRt1' := hide hrt1
  subst hvn
  obtain ⟨w1, hw1⟩ : ∃ w1, w1 = w.alloc (.cells #[.string ⟨#[99, 97, 108, 108]⟩, .int .i64 ln, .string ⟨S.toArray⟩, .int .i64 nn, .slice va (blen c) vc, .slice pa pn pc] 41) := ⟨_, rfl⟩
  have HRt1 : Hid (RepT (fun g => D g ∨ g = w.heap.size) w1 l c ln nn S va (blen c) vc pa pn pc c1) := by rw [hw1]; exact HRt1'.out
  have HX1 : Hid (w1.heap[w.heap.size]? = some (.cells #[.string ⟨#[99, 97, 108, 108]⟩, .int .i64 ln, .string ⟨S.toArray⟩, .int .i64 nn, .slice va (blen c) vc, .slice pa pn pc] 41)) := by show _ = _; rw [hw1]; exact heap_alloc_new w (.cells #[.string ⟨#[99, 97, 108, 108]⟩, .int .i64 ln, .string ⟨S.toArray⟩, .int .i64 nn, .slice va (blen c) vc, .slice pa pn pc] 41)
  have HB0 : Hid (BelD D w w1) := by rw [hw1]; exact beld_new HSt0.out (.cells #[.string ⟨#[99, 97, 108, 108]⟩, .int .i64 ln, .string ⟨S.toArray⟩, .int .i64 nn, .slice va (blen c) vc, .slice pa pn pc] 41)
  have HEq := hide hw1
  have hsw1 : w1.heap.size = w.heap.size + 1 := by rw [hw1]; simp
  have HLt0 := hide HRt0.out.line
  have HNm0 := hide HRt0.out.name
  clear hsens hst hrt hrt1 hok hshp ht32 hw32 hk32 hw1 HRt1' HRt0
  have hln : ln = l.line := HLt0.out (by rw [hkd]; rfl)
  have hS : S = l.s := HNm0.out (by rw [hkd]; rfl)
  have HS := hide hS
  have HLn := hide hln
  clear hS hln
  clear hkd HLt0 HNm0
  have HStA : Hid (K.St (fun g => D g ∨ g = w.heap.size) w1 outer ob cur blk wh inn f) := by rw [HEq.out]; exact HSt1.out
  obtain ⟨na, nm, nc, ba, bm, bc, bs, hss⟩ := HStA.out.st
  obtain ⟨y0, y1, y2, y3, y4, y5, y6, y7, fy, ly⟩ := blk8 hss.cell
  obtain ⟨x0, x1, x2, x3, x4, x5, fX, lX⟩ := blk6 HX1.out
  have hfr := HStA.out.fr
  have z0 := cell_row hfr.cell 0 _ rfl
  have z1 := cell_row hfr.cell 1 _ rfl
  have lz := heap_lt hfr.cell
  have hfl := hfr.len
  have hff := hfr.few
  have HFr2 := hide (hfr.keep (w' := w1.drew) ⟨rfl, rfl, rfl, Nat.le_refl _, fun _ _ => rfl⟩)
  clear hss hfr
  go_enter Tryz.func23, Tryz.ntmps23
  go_wp2
  rw [← HEq.out]
  refine box_region 6 (by kernel_rfl) (by kernel_rfl) ?_
  simp only [List.take_succ_cons, List.take_zero, List.drop_succ_cons, List.drop_zero]
  iterate 6 (refine box_step (fun K' hK' => ?_); go_simp; refine hK' _ ?_; clear hK' K')
  refine box_nil ?_
  go_wp2_with fail
  refine (fun_any HFr2.out S).mono ?_
  rintro e w' ⟨q, rfl, hq, rfl⟩
  have HQ := hide hq
  clear hq x0 x1 x2 x3 x4 x5 fX lX
  have hq := HQ.out
  have HStB := hide (HStA.out.keep (w' := w1.drew) (fun _ _ => rfl) ⟨rfl, rfl, rfl, Nat.le_refl _, fun _ _ => rfl⟩)
  have HBB : Hid (BelD (fun g => D g ∨ g = w.heap.size) w1 w1.drew) := ⟨rfl, rfl, rfl, Nat.le_refl _, fun _ _ => rfl⟩
  clear HQ HSt1 HStA y0 y1 y2 y3 y4 y5 y6 y7 fy ly z0 z1 lz
  go_wp2
  generalize w1.drew = w2 at *
  obtain ⟨na', nm', nc', ba', bm', bc', bs', hss'⟩ := HStB.out.st
  obtain ⟨y0, y1, y2, y3, y4, y5, y6, y7, fy, ly⟩ := blk8 hss'.cell
  obtain ⟨x0, x1, x2, x3, x4, x5, fX, lX⟩ := blk6 ((HBB.out.block w.heap.size (.inr rfl)).trans HX1.out)
  have z0 := cell_row HFr2.out.cell 0 _ rfl
  have z1 := cell_row HFr2.out.cell 1 _ rfl
  have lz := heap_lt HFr2.out.cell
  clear hss'
  rcases hq with ⟨i, hi, rfl, he, hno⟩ | ⟨hqe, hno⟩
  · have HCB := hide (callBad_some (blen c) i hi he hno)
    obtain ⟨g, hfa, hDg, lg, hcp, v2, pa', pc', v5⟩ := HFr2.out.at' i hi
    have tN : (((K.fns[i].2 : Nat) : Int) != ((blen c : Nat) : Int)) = (K.fns[i].2 != blen c) := by
      rw [Bool.eq_iff_iff, bne_iff_ne, bne_iff_ne]; omega
    rw [hfa] at z1
    clear he hno v2
    generalize hm : K.fns[i].2 = m at *
    generalize hb : (m != blen c) = bb at *
    have HBm := hide hb
    clear hm hb
    have hng : (decide ((i : Int) < 0) || bb) = bb := by
      have : ¬ ((i : Int) < 0) := by omega
      rw [decide_eq_false this]; rfl
    have HNg := hide hng
    clear hng
    refine box_region 23 (by kernel_rfl) (by kernel_rfl) ?_
    simp only [List.take_succ_cons, List.take_zero, List.drop_succ_cons, List.drop_zero]
    iterate 23 (refine box_step (fun K' hK' => ?_); go_simp; refine hK' _ ?_; clear hK' K')
    refine box_nil ?_
    go_wp2_with fail
    rw [HNg.out]
    refine (wrong_any (HStB.out.st.keep (w' := w2.drew) (fun _ _ => rfl)) (bb) 3 l.line _ _ rfl HLn.out).mono ?_
    rintro e w3 ⟨rfl, hs3, hb3'⟩
    rw [← HCB.out, HS.out] at hs3
    have HB2 : Hid (BelD (fun g => D g ∨ g = w.heap.size) w1 w3) := HBB.out.trans ⟨hb3'.os, hb3'.tape, hb3'.output, hb3'.size, hb3'.block⟩
    have HSt2 := hide (HStB.out.next hs3 ⟨hb3'.os, hb3'.tape, hb3'.output, hb3'.size, hb3'.block⟩)
    clear hs3 hb3' y0 y1 y2 y3 y4 y5 y6 y7 fy ly x0 x1 x2 x3 x4 x5 fX lX z0 z1 lz
    go_wp2
    go_loopg [7] (blen c) (fun k v wr => ∃ (n : Nat) (cn : List Nm) (fn : Flt), v = .int .i64 n ∧ n + k = blen c ∧ cn.length + bsize (dropT n c) ≤ (cur).length + bsize c ∧ K.St (fun g => D g ∨ g = w.heap.size) wr outer ob cn blk wh inn fn ∧ sens K.fns (dropT n c) outer cn wh inn fn = sens K.fns c outer (cur) wh inn (wrongF (callBad K.fns l.s (blen c)) 3 l.line f) ∧ BelD (fun g => D g ∨ g = w.heap.size) w1 wr)
    case atStart => exact ⟨0, cur, wrongF (callBad K.fns l.s (blen c)) 3 l.line f, rfl, by omega, Nat.le_refl _, HSt2.out, rfl, HB2.out⟩
    case round =>
      clear HSt2 HB2
      obtain ⟨n, cn, fn, rfl, hnk, hcn, hst, hse, hbel⟩ := hrel
      have hX := (hbel.block w.heap.size (.inr rfl)).trans HX1.out
      obtain ⟨x0, x1, x2, x3, x4, x5, fX, lX⟩ := blk6 hX
      have HSt := hide hst
      have HSe := hide hse
      have HBel := hide hbel
      clear hst hse hbel
      by_cases hlt : n < blen c
      · have hk : ∀ g, (D g ∨ g = w.heap.size) → g < w1.heap.size → wr.heap[g]? = w1.heap[g]? ∧ (D g ∨ g = w.heap.size) := fun g hg _ => ⟨HBel.out.block g hg, hg⟩
        obtain ⟨x, y, l', cc, r, hd, ln', mm, S', va2, vn2, vc2, pa2, pn2, pc2, c2, hrt, k0, k1, k2, k3, k4, k5⟩ := RepF.at' n c c1 HShp.out (RepF.keep hk _ _ HRt1.out.kids) hlt
        obtain ⟨g, rfl, _, hcap, lg, hcell⟩ := own_row (HRt1.out.own.keep hk).1 (by omega)
        have d0 := hcell _ _ k0
        have d1 := hcell _ _ k1
        have d2 := hcell _ _ k2
        have d3 := hcell _ _ k3
        have d4 := hcell _ _ k4
        have d5 := hcell _ _ k5
        have h32 : l'.kd ≠ 32 := by have := dropT_T32 n c HT.out; rw [hd] at this; exact this.1
        have hw : wh + w32 l'.kd = wh := by unfold w32; rw [if_neg h32]; rfl
        have hsz : bsize (dropT n c) = bsize (nd l' cc) + bsize r := by rw [hd, nd_size, bsize]
        have hdn := dropT_size n c
        have HNd := hide (HOk.out n x y l' cc r hd)
        have HDs := hide (dropT_succ n c x y l' cc r hd)
        have HRt := hide hrt
        have HSx := hide ((congrArg (fun q => sens K.fns q outer cn wh inn fn) hd).trans (sens_xy K.fns x y l' cc r outer cn wh inn fn))
        have hcur := sens_cur K.fns (nd l' cc) outer cn wh inn fn
        have HW := hide hw
        clear hcell hd hrt hw h32
        clear k0 k1 k2 k3 k4 k5
        go_wp2_with fail
        refine (HNd.out _ wr outer ob cn blk wh inn fn ln' mm S' va2 vn2 vc2 pa2 pn2 pc2 c2 (by rw [HW.out]; exact HSt.out) HRt.out (by simp only [List.length_append] at hb1 ⊢; omega) (by omega) (by omega)).mono ?_
        rintro e w3 ⟨rfl, hs3, hbl3⟩
        rw [HW.out] at hs3
        have HSt3 := hide hs3
        have HB3 : Hid (BelD (fun g => D g ∨ g = w.heap.size) w1 w3) := HBel.out.trans hbl3
        clear hs3 hbl3
        go_wp2
        go_roundg (gk - 1)
        case measure => omega
        case rel => exact ⟨n + 1, _, _, rfl, by omega, by rw [HDs.out]; omega, HSt3.out, by rw [HDs.out, ← HSx.out]; exact HSe.out, HB3.out⟩
      · have HE : Hid ((cn, fn) = sens K.fns c outer (cur) wh inn (wrongF (callBad K.fns l.s (blen c)) 3 l.line f)) := by
          have h0 : dropT n c = .nil := blen_zero _ (by rw [dropT_len]; omega)
          have := HSe.out
          rw [h0] at this
          exact this
        clear HSe
        go_wp2
        go_end0
        have hbl := HB0.out.trans (HBel.out.weak (fun g hg => .inl hg))
        rw [HSens.out, ← HE.out]
        exact ⟨rfl, HSt0.out.back HSt.out.st hbl, hbl⟩
  · have HCB := hide (callBad_none (blen c) hno)
    clear hno
    have hneg : decide (q < 0) = true := by rw [hqe]; rfl
    clear hqe
    refine box_region 23 (by kernel_rfl) (by kernel_rfl) ?_
    simp only [List.take_succ_cons, List.take_zero, List.drop_succ_cons, List.drop_zero]
    iterate 3 (refine box_step (fun K' hK' => ?_); go_simp; refine hK' _ ?_; clear hK' K')
    refine box_move (.tmp 51) (fun K' hK' => ?_) (by kernel_rfl) (by kernel_rfl)
    go_simp
    refine hK' _ ?_
    clear hK' K'
    iterate 16 (refine box_skip (fun K' hK' => ?_) (by kernel_rfl); go_simp; refine hK' _ ?_; clear hK' K')
    iterate 3 (refine box_step (fun K' hK' => ?_); go_simp; refine hK' _ ?_; clear hK' K')
    refine box_nil ?_
    go_wp2_with fail
    refine (wrong_any (HStB.out.st.keep (w' := w2.drew) (fun _ _ => rfl)) (true) 3 l.line _ _ rfl HLn.out).mono ?_
    rintro e w3 ⟨rfl, hs3, hb3'⟩
    rw [← HCB.out, HS.out] at hs3
    have HB2 : Hid (BelD (fun g => D g ∨ g = w.heap.size) w1 w3) := HBB.out.trans ⟨hb3'.os, hb3'.tape, hb3'.output, hb3'.size, hb3'.block⟩
    have HSt2 := hide (HStB.out.next hs3 ⟨hb3'.os, hb3'.tape, hb3'.output, hb3'.size, hb3'.block⟩)
    clear hs3 hb3' y0 y1 y2 y3 y4 y5 y6 y7 fy ly x0 x1 x2 x3 x4 x5 fX lX z0 z1 lz
    go_wp2
    go_loopg [7] (blen c) (fun k v wr => ∃ (n : Nat) (cn : List Nm) (fn : Flt), v = .int .i64 n ∧ n + k = blen c ∧ cn.length + bsize (dropT n c) ≤ (cur).length + bsize c ∧ K.St (fun g => D g ∨ g = w.heap.size) wr outer ob cn blk wh inn fn ∧ sens K.fns (dropT n c) outer cn wh inn fn = sens K.fns c outer (cur) wh inn (wrongF (callBad K.fns l.s (blen c)) 3 l.line f) ∧ BelD (fun g => D g ∨ g = w.heap.size) w1 wr)
    case atStart => exact ⟨0, cur, wrongF (callBad K.fns l.s (blen c)) 3 l.line f, rfl, by omega, Nat.le_refl _, HSt2.out, rfl, HB2.out⟩
    case round =>
      clear HSt2 HB2
      obtain ⟨n, cn, fn, rfl, hnk, hcn, hst, hse, hbel⟩ := hrel
      have hX := (hbel.block w.heap.size (.inr rfl)).trans HX1.out
      obtain ⟨x0, x1, x2, x3, x4, x5, fX, lX⟩ := blk6 hX
      have HSt := hide hst
      have HSe := hide hse
      have HBel := hide hbel
      clear hst hse hbel
      by_cases hlt : n < blen c
      · have hk : ∀ g, (D g ∨ g = w.heap.size) → g < w1.heap.size → wr.heap[g]? = w1.heap[g]? ∧ (D g ∨ g = w.heap.size) := fun g hg _ => ⟨HBel.out.block g hg, hg⟩
        obtain ⟨x, y, l', cc, r, hd, ln', mm, S', va2, vn2, vc2, pa2, pn2, pc2, c2, hrt, k0, k1, k2, k3, k4, k5⟩ := RepF.at' n c c1 HShp.out (RepF.keep hk _ _ HRt1.out.kids) hlt
        obtain ⟨g, rfl, _, hcap, lg, hcell⟩ := own_row (HRt1.out.own.keep hk).1 (by omega)
        have d0 := hcell _ _ k0
        have d1 := hcell _ _ k1
        have d2 := hcell _ _ k2
        have d3 := hcell _ _ k3
        have d4 := hcell _ _ k4
        have d5 := hcell _ _ k5
        have h32 : l'.kd ≠ 32 := by have := dropT_T32 n c HT.out; rw [hd] at this; exact this.1
        have hw : wh + w32 l'.kd = wh := by unfold w32; rw [if_neg h32]; rfl
        have hsz : bsize (dropT n c) = bsize (nd l' cc) + bsize r := by rw [hd, nd_size, bsize]
        have hdn := dropT_size n c
        have HNd := hide (HOk.out n x y l' cc r hd)
        have HDs := hide (dropT_succ n c x y l' cc r hd)
        have HRt := hide hrt
        have HSx := hide ((congrArg (fun q => sens K.fns q outer cn wh inn fn) hd).trans (sens_xy K.fns x y l' cc r outer cn wh inn fn))
        have hcur := sens_cur K.fns (nd l' cc) outer cn wh inn fn
        have HW := hide hw
        clear hcell hd hrt hw h32
        clear k0 k1 k2 k3 k4 k5
        go_wp2_with fail
        refine (HNd.out _ wr outer ob cn blk wh inn fn ln' mm S' va2 vn2 vc2 pa2 pn2 pc2 c2 (by rw [HW.out]; exact HSt.out) HRt.out (by simp only [List.length_append] at hb1 ⊢; omega) (by omega) (by omega)).mono ?_
        rintro e w3 ⟨rfl, hs3, hbl3⟩
        rw [HW.out] at hs3
        have HSt3 := hide hs3
        have HB3 : Hid (BelD (fun g => D g ∨ g = w.heap.size) w1 w3) := HBel.out.trans hbl3
        clear hs3 hbl3
        go_wp2
        go_roundg (gk - 1)
        case measure => omega
        case rel => exact ⟨n + 1, _, _, rfl, by omega, by rw [HDs.out]; omega, HSt3.out, by rw [HDs.out, ← HSx.out]; exact HSe.out, HB3.out⟩
      · have HE : Hid ((cn, fn) = sens K.fns c outer (cur) wh inn (wrongF (callBad K.fns l.s (blen c)) 3 l.line f)) := by
          have h0 : dropT n c = .nil := blen_zero _ (by rw [dropT_len]; omega)
          have := HSe.out
          rw [h0] at this
          exact this
        clear HSe
        go_wp2
        go_end0
        have hbl := HB0.out.trans (HBel.out.weak (fun g hg => .inl hg))
        rw [HSens.out, ← HE.out]
        exact ⟨rfl, HSt0.out.back HSt.out.st hbl, hbl⟩
end Go.Proofs.YtgccmgjbbcndbaaGreatDoor
/- The look at names, over every forest that was read. -/
namespace Go.Proofs.YtgccmgjbbcndbaaGreatDoor
open Go.RowKit
open Go.Deep (BT)

theorem kd_cases : ∀ kd, kd ≤ 140 → okKd kd = true → kd = 8 ∨ plainKd kd = true ∨ kd = 6 ∨ kd = 7 ∨ kd = 21 ∨ kd = 23 ∨ kd = 24 ∨ kd = 25 ∨ kd = 26 ∨ kd = 28 ∨ kd = 31 ∨ kd = 32 := by decide +kernel
theorem okKd_le {kd : Nat} (h : okKd kd = true) : kd ≤ 140 := by
  unfold okKd at h
  simp only [Bool.or_eq_true, Bool.and_eq_true, decide_eq_true_eq] at h
  omega

theorem forest_all (K : Ctx) : ∀ f : BT Lab, Shp f → Kd f → ForestOK K f := by
  intro f
  induction f with
  | nil =>
    intro _ _ i x y l c r hd
    cases i <;> (rw [dropT] at hd; cases hd)
  | node x y l c r ih1 ih2 =>
    intro hs hk i x' y' l' c' r' hd
    cases i with
    | succ i => rw [dropT] at hd; exact ih2 hs.2.2.2.2 hk.2.2 i x' y' l' c' r' hd
    | zero =>
      rw [dropT] at hd
      injection hd with _ _ e1 e2 _
      subst e1 e2
      have hok := ih1 hs.2.2.2.1 hk.2.1
      have hsc := hs.2.2.2.1
      have ht : l.kd ≠ 23 → T32 c := hs.2.2.1
      rcases kd_cases l.kd (okKd_le hk.1) hk.1 with h | h | h | h | h | h | h | h | h | h | h | h
      · exact absurd h hs.1
      · exact node_plain K l c h hok hsc (ht (by intro e; rw [e] at h; exact absurd h (by decide)))
      · exact node_6 K l c h hok hsc (ht (by omega))
      · exact node_7 K l c h hok hsc (ht (by omega))
      · exact node_21 K l c h hok hsc (ht (by omega))
      · obtain ⟨x1, y1, l1, c1, x2, y2, l2, c2, e, h1, h2⟩ := hs.2.1 h
        exact node_23 K l c h x1 y1 l1 c1 x2 y2 l2 c2 e h1 h2 (hok 0 x1 y1 l1 c1 _ (by rw [e]; rfl)) (hok 1 x2 y2 l2 c2 .nil (by rw [e]; rfl)) hsc
      · exact node_24 K l c h hok hsc (ht (by omega))
      · exact node_25 K l c h hok hsc (ht (by omega))
      · exact node_26 K l c h hok hsc (ht (by omega))
      · exact node_28 K l c h hok hsc (ht (by omega))
      · exact node_31 K l c h hok hsc (ht (by omega))
      · exact node_32 K l c h hok hsc (ht (by omega))
end Go.Proofs.YtgccmgjbbcndbaaGreatDoor
