import Derived.Test.YtgccmgjbbcndbaaGreatDoorM30
/- Walk of Sense: node, let and blocks. -/
namespace Go.Proofs.YtgccmgjbbcndbaaGreatDoor
open Go.RowKit
open Go.Deep (BT)

theorem sens_let (fns : List (Nm × Nat)) (l : Lab) (c : BT Lab) (outer cur : List Nm) (wh : Nat) (inn : Bool) (f : Flt) (h : l.kd = 21) : sens fns (nd l c) outer cur wh inn f = ((sens fns c outer cur wh inn (wrongF (decide (l.s ∈ cur)) 3 l.line f)).1 ++ [l.s], (sens fns c outer cur wh inn (wrongF (decide (l.s ∈ cur)) 3 l.line f)).2) := by
  unfold nd
  rw [sens, if_neg (by omega), if_neg (by omega), if_pos h, sens]
theorem sens_block (fns : List (Nm × Nat)) (l : Lab) (c : BT Lab) (outer cur : List Nm) (wh : Nat) (inn : Bool) (f : Flt) (h : l.kd = 31 ∨ l.kd = 32) : sens fns (nd l c) outer cur wh inn f = (cur, (sens fns c (outer ++ cur) [] (wh + w32 l.kd) inn f).2) := by
  unfold nd
  rcases h with h | h
  · rw [sens, if_pos h, sens]
    have : w32 l.kd = 0 := by unfold w32; rw [h]; rfl
    rw [this, Nat.add_zero]
  · rw [sens, if_neg (by omega), if_pos h, sens]
    have : w32 l.kd = 1 := by unfold w32; rw [h]; rfl
    rw [this]

set_option maxRecDepth 100000 in
set_option maxHeartbeats 2000000 in
theorem node_21 (K : Ctx) (l : Lab) (c : BT Lab) (hkd : l.kd = 21) (hok : ForestOK K c) (hshp : Shp c) (ht32 : T32 c) : NodeOK K l c := by
  have hk32 : l.kd ≠ 32 := by omega
  have hI : isS l.kd = [108, 101, 116] := by rw [hkd]; rfl
  have hsens := fun (outer cur : List Nm) (wh : Nat) (inn : Bool) (f : Flt) => sens_let K.fns l c outer cur wh inn f (hkd)
  intro D w outer ob cur blk wh inn f ln nn S va vn vc pa pn pc c1 hst hrt hb1 hb2 hb3
  have hw32 : wh + w32 l.kd = wh := by unfold w32; rw [if_neg hk32]; rfl
  rw [hw32] at hst ⊢
  rw [hI]
  clear hI
  have HSens := hide (hsens outer cur wh inn f)
  have HSt0 := hide hst
  have HRt0 := hide hrt
  have HSt1 := hide (hst.protect (.cells #[.string ⟨#[108, 101, 116]⟩, .int .i64 ln, .string ⟨S.toArray⟩, .int .i64 nn, .slice va vn vc, .slice pa pn pc] 41))
  have HOk := hide hok
  have HShp := hide hshp
  have HT := hide ht32
  have hvn : vn = blen c := (own_cells hrt.own.1).1
  have hbls := blen_size c
  have hnds := nd_size l c
  have hrt1 : RepT (fun g => D g ∨ g = w.heap.size) (w.alloc (.cells #[.string ⟨#[108, 101, 116]⟩, .int .i64 ln, .string ⟨S.toArray⟩, .int .i64 nn, .slice va vn vc, .slice pa pn pc] 41)) l c ln nn S va vn vc pa pn pc c1 := hrt.keep (fun g hg hl => ⟨Below.heap_alloc _ _ _ hl, .inl hg⟩)
  have HRt1' := hide hrt1
  subst hvn
  obtain ⟨w1, hw1⟩ : ∃ w1, w1 = w.alloc (.cells #[.string ⟨#[108, 101, 116]⟩, .int .i64 ln, .string ⟨S.toArray⟩, .int .i64 nn, .slice va (blen c) vc, .slice pa pn pc] 41) := ⟨_, rfl⟩
  have HRt1 : Hid (RepT (fun g => D g ∨ g = w.heap.size) w1 l c ln nn S va (blen c) vc pa pn pc c1) := by rw [hw1]; exact HRt1'.out
  have HX1 : Hid (w1.heap[w.heap.size]? = some (.cells #[.string ⟨#[108, 101, 116]⟩, .int .i64 ln, .string ⟨S.toArray⟩, .int .i64 nn, .slice va (blen c) vc, .slice pa pn pc] 41)) := by show _ = _; rw [hw1]; exact heap_alloc_new w (.cells #[.string ⟨#[108, 101, 116]⟩, .int .i64 ln, .string ⟨S.toArray⟩, .int .i64 nn, .slice va (blen c) vc, .slice pa pn pc] 41)
  have HB0 : Hid (BelD D w w1) := by rw [hw1]; exact beld_new HSt0.out (.cells #[.string ⟨#[108, 101, 116]⟩, .int .i64 ln, .string ⟨S.toArray⟩, .int .i64 nn, .slice va (blen c) vc, .slice pa pn pc] 41)
  have HEq := hide hw1
  have hsw1 : w1.heap.size = w.heap.size + 1 := by rw [hw1]; simp
  have HLt0 := hide HRt0.out.line
  have HNm0 := hide HRt0.out.name
  clear hsens hst hrt hrt1 hok hshp ht32 hw32 hk32 hw1 HRt1' HRt0
  have hln : ln = l.line := HLt0.out (by rw [hkd]; rfl)
  have hS : S = l.s := HNm0.out (by rw [hkd]; rfl)
  have HS := hide hS
  have HLn := hide hln
  clear hS hln
  clear hkd HLt0 HNm0
  go_enter Tryz.func23, Tryz.ntmps23
  go_wp2_with fail
  refine (had_any HSt1.out.st (by omega) S).mono ?_
  rintro e w2 ⟨rfl, hs2, hb2'⟩
  generalize hq : decide (S ∈ cur) = q
  have HQ := hide hq
  clear hq
  have HStA := hide (HSt1.out.next hs2 (beld_of hb2' HSt1.out.lo))
  have HBA : Hid (BelD (fun g => D g ∨ g = w.heap.size) w1 w2) := by rw [HEq.out]; exact beld_of hb2' HSt1.out.lo
  obtain ⟨x0, x1, x2, x3, x4, x5, fX, lX⟩ := blk6 ((HBA.out.block w.heap.size (.inr rfl)).trans HX1.out)
  clear hs2 hb2'
  go_wp2_with fail
  refine (wrong_any HStA.out.st (q) 3 l.line _ _ rfl HLn.out).mono ?_
  rintro e w3 ⟨rfl, hs3, hb3'⟩
  have HSt2 := hide (HStA.out.next hs3 hb3')
  have HB2 : Hid (BelD (fun g => D g ∨ g = w.heap.size) w1 w3) := HBA.out.trans hb3'
  clear hs3 hb3'
  go_wp2
  rw [← HQ.out, HS.out] at HSt2
  clear x0 x1 x2 x3 x4 x5 fX lX
  go_loopg [7] (blen c) (fun k v wr => ∃ (n : Nat) (cn : List Nm) (fn : Flt), v = .int .i64 n ∧ n + k = blen c ∧ cn.length + bsize (dropT n c) ≤ (cur).length + bsize c ∧ K.St (fun g => D g ∨ g = w.heap.size) wr outer ob cn blk wh inn fn ∧ sens K.fns (dropT n c) outer cn wh inn fn = sens K.fns c outer (cur) wh inn (wrongF (decide (l.s ∈ cur)) 3 l.line f) ∧ BelD (fun g => D g ∨ g = w.heap.size) w1 wr)
  case atStart => exact ⟨0, cur, wrongF (decide (l.s ∈ cur)) 3 l.line f, rfl, by omega, Nat.le_refl _, HSt2.out, rfl, HB2.out⟩
  case round =>
    clear HSt2 HB2
    obtain ⟨n, cn, fn, rfl, hnk, hcn, hst, hse, hbel⟩ := hrel
    have hX := (hbel.block w.heap.size (.inr rfl)).trans HX1.out
    obtain ⟨x0, x1, x2, x3, x4, x5, fX, lX⟩ := blk6 hX
    have HSt := hide hst
    have HSe := hide hse
    have HBel := hide hbel
    clear hst hse hbel
    by_cases hlt : n < blen c
    · have hk : ∀ g, (D g ∨ g = w.heap.size) → g < w1.heap.size → wr.heap[g]? = w1.heap[g]? ∧ (D g ∨ g = w.heap.size) := fun g hg _ => ⟨HBel.out.block g hg, hg⟩
      obtain ⟨x, y, l', cc, r, hd, ln', mm, S', va2, vn2, vc2, pa2, pn2, pc2, c2, hrt, k0, k1, k2, k3, k4, k5⟩ := RepF.at' n c c1 HShp.out (RepF.keep hk _ _ HRt1.out.kids) hlt
      obtain ⟨g, rfl, _, hcap, lg, hcell⟩ := own_row (HRt1.out.own.keep hk).1 (by omega)
      have d0 := hcell _ _ k0
      have d1 := hcell _ _ k1
      have d2 := hcell _ _ k2
      have d3 := hcell _ _ k3
      have d4 := hcell _ _ k4
      have d5 := hcell _ _ k5
      have h32 : l'.kd ≠ 32 := by have := dropT_T32 n c HT.out; rw [hd] at this; exact this.1
      have hw : wh + w32 l'.kd = wh := by unfold w32; rw [if_neg h32]; rfl
      have hsz : bsize (dropT n c) = bsize (nd l' cc) + bsize r := by rw [hd, nd_size, bsize]
      have hdn := dropT_size n c
      have HNd := hide (HOk.out n x y l' cc r hd)
      have HDs := hide (dropT_succ n c x y l' cc r hd)
      have HRt := hide hrt
      have HSx := hide ((congrArg (fun q => sens K.fns q outer cn wh inn fn) hd).trans (sens_xy K.fns x y l' cc r outer cn wh inn fn))
      have hcur := sens_cur K.fns (nd l' cc) outer cn wh inn fn
      have HW := hide hw
      clear hcell hd hrt hw h32
      clear k0 k1 k2 k3 k4 k5
      go_wp2_with fail
      refine (HNd.out _ wr outer ob cn blk wh inn fn ln' mm S' va2 vn2 vc2 pa2 pn2 pc2 c2 (by rw [HW.out]; exact HSt.out) HRt.out (by simp only [List.length_append] at hb1 ⊢; omega) (by omega) (by omega)).mono ?_
      rintro e w3 ⟨rfl, hs3, hbl3⟩
      rw [HW.out] at hs3
      have HSt3 := hide hs3
      have HB3 : Hid (BelD (fun g => D g ∨ g = w.heap.size) w1 w3) := HBel.out.trans hbl3
      clear hs3 hbl3
      go_wp2
      go_roundg (gk - 1)
      case measure => omega
      case rel => exact ⟨n + 1, _, _, rfl, by omega, by rw [HDs.out]; omega, HSt3.out, by rw [HDs.out, ← HSx.out]; exact HSe.out, HB3.out⟩
    · have HE : Hid ((cn, fn) = sens K.fns c outer (cur) wh inn (wrongF (decide (l.s ∈ cur)) 3 l.line f)) := by
        have h0 : dropT n c = .nil := blen_zero _ (by rw [dropT_len]; omega)
        have := HSe.out
        rw [h0] at this
        exact this
      clear HSe
      go_wp2_with fail
      refine (let_any HSt.out.st (by simp only [List.length_append] at hb1 ⊢; omega) HSt.out.lo S).mono ?_
      rintro e w5 ⟨rfl, hs5, hb5⟩
      have HSt5 := hide (HSt.out.next hs5 hb5)
      have HB5 := hide (HBel.out.trans hb5)
      clear hs5 hb5
      go_wp2
      go_end0
      have hbl := HB0.out.trans (HB5.out.weak (fun g hg => .inl hg))
      rw [HSens.out, ← HE.out, ← HS.out]
      exact ⟨rfl, HSt0.out.back HSt5.out.st hbl, hbl⟩

set_option maxRecDepth 100000 in
set_option maxHeartbeats 2000000 in
theorem node_31 (K : Ctx) (l : Lab) (c : BT Lab) (hkd : l.kd = 31) (hok : ForestOK K c) (hshp : Shp c) (ht32 : T32 c) : NodeOK K l c := by
  intro D w outer ob cur blk wh inn f ln nn S va vn vc pa pn pc c1 hst hrt hb1 hb2 hb3
  have hsens := sens_block K.fns l c outer cur wh inn f (.inl hkd)
  have hI : isS l.kd = [98, 108, 111, 99, 107] := by rw [hkd]; rfl
  have hw : w32 l.kd = 0 := by unfold w32; rw [hkd]; rfl
  rw [hI]
  have hnds := nd_size l c
  have hcall := block_sense K c hok hshp ht32 (fun g => D g ∨ g = w.heap.size) (w.alloc (.cells #[.string ⟨#[98, 108, 111, 99, 107]⟩, .int .i64 ln, .string ⟨S.toArray⟩, .int .i64 nn, .slice va vn vc, .slice pa pn pc] 41)) outer ob cur blk (wh + w32 l.kd) inn f va vn vc none 0 0 c1 [] (hst.protect (.cells #[.string ⟨#[98, 108, 111, 99, 107]⟩, .int .i64 ln, .string ⟨S.toArray⟩, .int .i64 nn, .slice va vn vc, .slice pa pn pc] 41)) ((hrt.own).keep (fun g hg hl => ⟨Below.heap_alloc _ _ _ hl, .inl hg⟩)) (RepF.keep (fun g hg hl => ⟨Below.heap_alloc _ _ _ hl, .inl hg⟩) _ _ hrt.kids) (own_nil _ _ _ _) (by simp only [List.length_nil]; omega) (by omega) (by omega) (by simp)
  have HC := hide hcall
  have HSens := hide hsens
  have HSt0 := hide hst
  clear hcall hsens hst hrt hok hshp ht32 hI hkd hnds hw
  go_enter Tryz.func23, Tryz.ntmps23
  go_wp2_with fail
  refine HC.out.mono ?_
  rintro e w2 ⟨rfl, hs2, hb2'⟩
  have HSt2 := hide hs2
  have HB2 := hide hb2'
  clear hs2 hb2'
  go_wp2
  refine bodyPost_ret (v := .tuple #[]) (by simp [results, Tryz.results23]) rfl ?_
  have hbl := (beld_new HSt0.out (.cells #[.string ⟨#[98, 108, 111, 99, 107]⟩, .int .i64 ln, .string ⟨S.toArray⟩, .int .i64 nn, .slice va vn vc, .slice pa pn pc] 41)).trans (HB2.out.weak (fun g hg => .inl hg))
  rw [HSens.out]
  exact ⟨rfl, HSt0.out.back HSt2.out.st hbl, hbl⟩

set_option maxRecDepth 100000 in
set_option maxHeartbeats 2000000 in
theorem node_32 (K : Ctx) (l : Lab) (c : BT Lab) (hkd : l.kd = 32) (hok : ForestOK K c) (hshp : Shp c) (ht32 : T32 c) : NodeOK K l c := by
  intro D w outer ob cur blk wh inn f ln nn S va vn vc pa pn pc c1 hst hrt hb1 hb2 hb3
  have hsens := sens_block K.fns l c outer cur wh inn f (.inr hkd)
  have hI : isS l.kd = [98, 108, 111, 99, 107] := by rw [hkd]; rfl
  have hw : w32 l.kd = 1 := by unfold w32; rw [hkd]; rfl
  rw [hI]
  have hnds := nd_size l c
  have hcall := block_sense K c hok hshp ht32 (fun g => D g ∨ g = w.heap.size) (w.alloc (.cells #[.string ⟨#[98, 108, 111, 99, 107]⟩, .int .i64 ln, .string ⟨S.toArray⟩, .int .i64 nn, .slice va vn vc, .slice pa pn pc] 41)) outer ob cur blk (wh + w32 l.kd) inn f va vn vc none 0 0 c1 [] (hst.protect (.cells #[.string ⟨#[98, 108, 111, 99, 107]⟩, .int .i64 ln, .string ⟨S.toArray⟩, .int .i64 nn, .slice va vn vc, .slice pa pn pc] 41)) ((hrt.own).keep (fun g hg hl => ⟨Below.heap_alloc _ _ _ hl, .inl hg⟩)) (RepF.keep (fun g hg hl => ⟨Below.heap_alloc _ _ _ hl, .inl hg⟩) _ _ hrt.kids) (own_nil _ _ _ _) (by simp only [List.length_nil]; omega) (by omega) (by omega) (by simp)
  have HC := hide hcall
  have HSens := hide hsens
  have HSt0 := hide hst
  clear hcall hsens hst hrt hok hshp ht32 hI hkd hnds hw
  go_enter Tryz.func23, Tryz.ntmps23
  go_wp2_with fail
  refine HC.out.mono ?_
  rintro e w2 ⟨rfl, hs2, hb2'⟩
  have HSt2 := hide hs2
  have HB2 := hide hb2'
  clear hs2 hb2'
  go_wp2
  refine bodyPost_ret (v := .tuple #[]) (by simp [results, Tryz.results23]) rfl ?_
  have hbl := (beld_new HSt0.out (.cells #[.string ⟨#[98, 108, 111, 99, 107]⟩, .int .i64 ln, .string ⟨S.toArray⟩, .int .i64 nn, .slice va vn vc, .slice pa pn pc] 41)).trans (HB2.out.weak (fun g hg => .inl hg))
  rw [HSens.out]
  exact ⟨rfl, HSt0.out.back HSt2.out.st hbl, hbl⟩

end Go.Proofs.YtgccmgjbbcndbaaGreatDoor
/- Walk of Sense: node, while. -/
namespace Go.Proofs.YtgccmgjbbcndbaaGreatDoor
open Go.RowKit
open Go.Deep (BT)

theorem sens_while (fns : List (Nm × Nat)) (l : Lab) (x1 y1 : Nat) (l1 : Lab) (c1 : BT Lab) (x2 y2 : Nat) (l2 : Lab) (c2 : BT Lab) (outer cur : List Nm) (wh : Nat) (inn : Bool) (f : Flt) (h : l.kd = 23) :
    sens fns (nd l (.node x1 y1 l1 c1 (.node x2 y2 l2 c2 .nil))) outer cur wh inn f = sens fns (nd l2 c2) outer (sens fns (nd l1 c1) outer cur wh inn f).1 wh inn (sens fns (nd l1 c1) outer cur wh inn f).2 := by
  have h1 : sens fns (nd l (.node x1 y1 l1 c1 (.node x2 y2 l2 c2 .nil))) outer cur wh inn f = sens fns (.node x1 y1 l1 c1 (.node x2 y2 l2 c2 .nil)) outer cur wh inn f := by
    unfold nd
    conv => lhs; rw [sens]
    rw [if_neg (by omega), if_neg (by omega), if_neg (by omega)]
    simp only [h]
    rfl
  rw [h1, sens_xy, sens_xy]
  rfl

set_option maxRecDepth 100000 in
set_option maxHeartbeats 2000000 in
theorem node_23 (K : Ctx) (l : Lab) (c : BT Lab) (hkd : l.kd = 23) (x1 y1 : Nat) (l1 : Lab) (c1 : BT Lab) (x2 y2 : Nat) (l2 : Lab) (c2 : BT Lab) (hc : c = .node x1 y1 l1 c1 (.node x2 y2 l2 c2 .nil)) (hl1 : l1.kd ≠ 32) (hl2 : l2.kd = 32) (hok1 : NodeOK K l1 c1) (hok2 : NodeOK K l2 c2) (hshp : Shp c) : NodeOK K l c := by
  intro D w outer ob cur blk wh inn f ln nn S va vn vc pa pn pc cc hst hrt hb1 hb2 hb3
  have hw32 : wh + w32 l.kd = wh := by unfold w32; rw [hkd]; rfl
  rw [hw32] at hst ⊢
  have hI : isS l.kd = [119, 104, 105, 108, 101] := by rw [hkd]; rfl
  rw [hI]
  have hsens : sens K.fns (nd l c) outer cur wh inn f = sens K.fns (nd l2 c2) outer (sens K.fns (nd l1 c1) outer cur wh inn f).1 wh inn (sens K.fns (nd l1 c1) outer cur wh inn f).2 := by rw [hc]; exact sens_while K.fns l x1 y1 l1 c1 x2 y2 l2 c2 outer cur wh inn f hkd
  have hnds : bsize (nd l c) = 1 + l.ps.length + (bsize (nd l1 c1) + bsize (nd l2 c2)) := by rw [nd_size, hc, nd_size, nd_size]; simp only [bsize]; omega
  have hvn : vn = 2 := by have := (own_cells hrt.own.1).1; rw [this, hc]; rfl
  subst hvn
  obtain ⟨g, rfl, hx2, hcap0, lg, hcell⟩ := own_row hrt.own.1 (by rw [hc]; simp [blen])
  have hcap : 2 ≤ vc := by rw [← hx2] at hcap0; exact hcap0
  clear hx2 hcap0
  have hDg : D g := hrt.own.2 g rfl
  obtain ⟨_, _, l1', c1', _, hd1, ln1, mm1, S1, va1, vn1, vc1, pa1, pn1, pc1, cs1, hrt1, k0, k1, k2, k3, k4, k5⟩ := RepF.at' 0 c cc hshp hrt.kids (by rw [hc]; simp [blen])
  obtain ⟨_, _, l2', c2', _, hd2, ln2, mm2, S2, va2, vn2, vc2, pa2, pn2, pc2, cs2, hrt2, j0, j1, j2, j3, j4, j5⟩ := RepF.at' 1 c cc hshp hrt.kids (by rw [hc]; simp [blen])
  rw [hc] at hd1 hd2
  simp only [dropT] at hd1 hd2
  injection hd1 with _ _ e1 e2 _
  injection hd2 with _ _ e3 e4 _
  subst e1 e2 e3 e4
  have d0 := hcell _ _ k0
  have d1 := hcell _ _ k1
  have d2 := hcell _ _ k2
  have d3 := hcell _ _ k3
  have d4 := hcell _ _ k4
  have d5 := hcell _ _ k5
  have p0 := hcell _ _ j0
  have p1 := hcell _ _ j1
  have p2 := hcell _ _ j2
  have p3 := hcell _ _ j3
  have p4 := hcell _ _ j4
  have p5 := hcell _ _ j5
  simp only [Nat.zero_mul, Nat.zero_add, Nat.one_mul, Nat.reduceAdd] at d0 d1 d2 d3 d4 d5 p0 p1 p2 p3 p4 p5
  have hw1 : wh + w32 l1.kd = wh := by unfold w32; rw [if_neg hl1]; rfl
  have hw2 : wh + w32 l2.kd = wh + 1 := by unfold w32; rw [hl2]; rfl
  have hcur := sens_cur K.fns (nd l1 c1) outer cur wh inn f
  have HSens := hide hsens
  have HSt0 := hide hst
  have HSt1 := hide (hst.protect (.cells #[.string ⟨#[119, 104, 105, 108, 101]⟩, .int .i64 ln, .string ⟨S.toArray⟩, .int .i64 nn, .slice (some ⟨g, 0, none⟩) 2 vc, .slice pa pn pc] 41))
  have HR1 : Hid (RepT (fun g => D g ∨ g = w.heap.size) (w.alloc (.cells #[.string ⟨#[119, 104, 105, 108, 101]⟩, .int .i64 ln, .string ⟨S.toArray⟩, .int .i64 nn, .slice (some ⟨g, 0, none⟩) 2 vc, .slice pa pn pc] 41)) l1 c1 ln1 mm1 S1 va1 vn1 vc1 pa1 pn1 pc1 cs1) := hrt1.keep (fun g hg hl => ⟨Below.heap_alloc _ _ _ hl, .inl hg⟩)
  have HR2 : Hid (RepT (fun g => D g ∨ g = w.heap.size) (w.alloc (.cells #[.string ⟨#[119, 104, 105, 108, 101]⟩, .int .i64 ln, .string ⟨S.toArray⟩, .int .i64 nn, .slice (some ⟨g, 0, none⟩) 2 vc, .slice pa pn pc] 41)) l2 c2 ln2 mm2 S2 va2 vn2 vc2 pa2 pn2 pc2 cs2) := hrt2.keep (fun g hg hl => ⟨Below.heap_alloc _ _ _ hl, .inl hg⟩)
  have HW1 := hide hw1
  have HW2 := hide hw2
  have HOk1 := hide hok1
  have HOk2 := hide hok2
  have HC2 := hide (fun j u (h : w.cell? ⟨g, j, none⟩ = some u) => (World.cell?_of_block (w' := w.alloc (.cells #[.string ⟨#[119, 104, 105, 108, 101]⟩, .int .i64 ln, .string ⟨S.toArray⟩, .int .i64 nn, .slice (some ⟨g, 0, none⟩) 2 vc, .slice pa pn pc] 41)) (Below.heap_alloc w (.cells #[.string ⟨#[119, 104, 105, 108, 101]⟩, .int .i64 ln, .string ⟨S.toArray⟩, .int .i64 nn, .slice (some ⟨g, 0, none⟩) 2 vc, .slice pa pn pc] 41) g lg)).trans h)
  have q0 := HC2.out _ _ p0
  have q1 := HC2.out _ _ p1
  have q2 := HC2.out _ _ p2
  have q3 := HC2.out _ _ p3
  have q4 := HC2.out _ _ p4
  have q5 := HC2.out _ _ p5
  clear hcell k0 k1 k2 k3 k4 k5 j0 j1 j2 j3 j4 j5 hsens hst hrt hrt1 hrt2 hok1 hok2 hw1 hw2 hw32 hI hc hshp hkd hl1 hl2 HC2 p0 p1 p2 p3 p4 p5
  have HQ := hide (And.intro q0 (And.intro q1 (And.intro q2 (And.intro q3 (And.intro q4 q5)))))
  clear q0 q1 q2 q3 q4 q5
  go_enter Tryz.func23, Tryz.ntmps23
  go_wp2_with fail
  refine (HOk1.out _ _ outer ob cur blk wh inn f ln1 mm1 S1 va1 vn1 vc1 pa1 pn1 pc1 cs1 (by rw [HW1.out]; exact HSt1.out) HR1.out (by omega) (by omega) (by omega)).mono ?_
  rintro e w2 ⟨rfl, hs2, hb2'⟩
  rw [HW1.out] at hs2
  have HSt2 := hide hs2
  have HB2 := hide hb2'
  obtain ⟨na, nm, nc, ba, bm, bc, bs, hss⟩ := hs2.st
  obtain ⟨y0, y1, y2, y3, y4, y5, y6, y7, fy, ly⟩ := blk8 hss.cell
  have HSS := hide hss
  obtain ⟨x0', x1', x2', x3', x4', x5', fX, lX⟩ := blk6 ((hb2'.block w.heap.size (.inr rfl)).trans (heap_alloc_new w (.cells #[.string ⟨#[119, 104, 105, 108, 101]⟩, .int .i64 ln, .string ⟨S.toArray⟩, .int .i64 nn, .slice (some ⟨g, 0, none⟩) 2 vc, .slice pa pn pc] 41)))
  have hgb := World.cell?_of_block (a := ⟨g, 6, none⟩) (hb2'.block g (.inl hDg))
  have r0 := (World.cell?_of_block (a := ⟨g, 6, none⟩) (hb2'.block g (.inl hDg))).trans HQ.out.1
  have r1 := (World.cell?_of_block (a := ⟨g, 7, none⟩) (hb2'.block g (.inl hDg))).trans HQ.out.2.1
  have r2 := (World.cell?_of_block (a := ⟨g, 8, none⟩) (hb2'.block g (.inl hDg))).trans HQ.out.2.2.1
  have r3 := (World.cell?_of_block (a := ⟨g, 9, none⟩) (hb2'.block g (.inl hDg))).trans HQ.out.2.2.2.1
  have r4 := (World.cell?_of_block (a := ⟨g, 10, none⟩) (hb2'.block g (.inl hDg))).trans HQ.out.2.2.2.2.1
  have r5 := (World.cell?_of_block (a := ⟨g, 11, none⟩) (hb2'.block g (.inl hDg))).trans HQ.out.2.2.2.2.2
  have lg2 : g < w2.heap.size := by have := hb2'.size; simp at this; omega
  have hsbne : K.sb ≠ g := fun e => hss.lo1 (by rw [e]; exact .inl hDg)
  have hsbx : K.sb ≠ w.heap.size := fun e => hss.lo1 (.inr e)
  have hwhm := hss.few.2
  clear hs2 hb2' hss d0 d1 d2 d3 d4 d5 hgb
  have HB3 : Hid (BelD (fun g => D g ∨ g = w.heap.size) w2 (w2.setCell ⟨K.sb, 4, none⟩ (.int .i64 ((wh : Int) + 1)))) := BelD.set (p := ⟨K.sb, 4, none⟩) (BelD.refl _ _) HSS.out.lo1 _
  have HSt3 : Hid (K.St (fun g => D g ∨ g = w.heap.size) (w2.setCell ⟨K.sb, 4, none⟩ (.int .i64 ((wh : Int) + 1))) outer ob (sens K.fns (nd l1 c1) outer cur wh inn f).1 blk (wh + 1) inn (sens K.fns (nd l1 c1) outer cur wh inn f).2) := by
    refine HSt2.out.next ⟨na, nm, nc, ba, bm, bc, bs, HSS.out.put (wh + 1) inn _ (by omega) ?_ (fun g _ hne => Below.heap_setCell _ _ _ _ (by exact hne))⟩ HB3.out
    have := heap_set (j := 4) HSS.out.cell (.int .i64 ((wh : Int) + 1))
    simpa using this
  have hs3 : (w2.setCell ⟨K.sb, 4, none⟩ (.int .i64 ((wh : Int) + 1))).heap.size = w2.heap.size := by simp [World.setCell]
  have HR3 := hide (HR2.out.keep (w' := w2.setCell ⟨K.sb, 4, none⟩ (.int .i64 ((wh : Int) + 1))) (fun g hg _ => ⟨(HB3.out.block g hg).trans (HB2.out.block g hg), hg⟩))
  go_wp2_with fail
  refine (HOk2.out _ _ outer ob _ blk wh inn _ ln2 mm2 S2 va2 vn2 vc2 pa2 pn2 pc2 cs2 (by rw [HW2.out]; exact HSt3.out) HR3.out (by simp only [List.length_append] at hb1 ⊢; omega) (by omega) (by omega)).mono ?_
  rintro e w4 ⟨rfl, hs4, hb4⟩
  rw [HW2.out] at hs4
  have HSt4 := hide hs4
  have HB4 : Hid (BelD (fun g => D g ∨ g = w.heap.size) (w.alloc (.cells #[.string ⟨#[119, 104, 105, 108, 101]⟩, .int .i64 ln, .string ⟨S.toArray⟩, .int .i64 nn, .slice (some ⟨g, 0, none⟩) 2 vc, .slice pa pn pc] 41)) w4) := HB2.out.trans (HB3.out.trans hb4)
  obtain ⟨na', nm', nc', ba', bm', bc', bs', hss'⟩ := hs4.st
  clear y0 y1 y2 y3 y4 y5 y6 y7 fy ly x0' x1' x2' x3' x4' x5' fX lX r0 r1 r2 r3 r4 r5
  obtain ⟨y0, y1, y2, y3, y4, y5, y6, y7, fy, ly⟩ := blk8 hss'.cell
  have HSS' := hide hss'
  clear hs4 hb4 hss'
  go_wp2
  refine bodyPost_ret (v := .tuple #[]) (by simp [results, Tryz.results23]) rfl ?_
  have HB5 : BelD (fun g => D g ∨ g = w.heap.size) w4 (w4.setCell ⟨K.sb, 4, none⟩ (.int .i64 (wh : Nat))) := BelD.set (p := ⟨K.sb, 4, none⟩) (BelD.refl _ _) HSS'.out.lo1 _
  have hbl := (beld_new HSt0.out (.cells #[.string ⟨#[119, 104, 105, 108, 101]⟩, .int .i64 ln, .string ⟨S.toArray⟩, .int .i64 nn, .slice (some ⟨g, 0, none⟩) 2 vc, .slice pa pn pc] 41)).trans ((HB4.out.trans HB5).weak (fun g hg => .inl hg))
  rw [HSens.out]
  refine ⟨rfl, HSt0.out.back ⟨na', nm', nc', ba', bm', bc', bs', HSS'.out.put wh inn _ (by omega) ?_ (fun g _ hne => Below.heap_setCell _ _ _ _ (by exact hne))⟩ hbl, hbl⟩
  have := heap_set (j := 4) HSS'.out.cell (.int .i64 (wh : Nat))
  simpa using this
end Go.Proofs.YtgccmgjbbcndbaaGreatDoor
