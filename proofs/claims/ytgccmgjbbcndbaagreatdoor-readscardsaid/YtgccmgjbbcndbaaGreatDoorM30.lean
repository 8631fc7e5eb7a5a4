import Derived.Test.YtgccmgjbbcndbaaGreatDoorM29
/- Walk of Sense: node, where a name, a place is asked. -/
namespace Go.Proofs.YtgccmgjbbcndbaaGreatDoor
open Go.RowKit
open Go.Deep (BT)

theorem sens_name (fns : List (Nm × Nat)) (l : Lab) (c : BT Lab) (outer cur : List Nm) (wh : Nat) (inn : Bool) (f : Flt) (h : l.kd = 6 ∨ l.kd = 28) : sens fns (nd l c) outer cur wh inn f = sens fns c outer cur wh inn (wrongF (!decide (l.s ∈ outer ++ cur)) 3 l.line f) := by
  unfold nd
  rw [sens, if_neg (by omega), if_neg (by omega), if_neg (by omega)]
  simp only [h, if_true, sens]
theorem sens_loop (fns : List (Nm × Nat)) (l : Lab) (c : BT Lab) (outer cur : List Nm) (wh : Nat) (inn : Bool) (f : Flt) (h : l.kd = 25 ∨ l.kd = 26) : sens fns (nd l c) outer cur wh inn f = sens fns c outer cur wh inn (wrongF (wh == 0) 4 l.line f) := by
  unfold nd
  rw [sens, if_neg (by omega), if_neg (by omega), if_neg (by omega)]
  simp only [h, if_true, sens]
  rw [if_neg (by omega), if_neg (by omega)]
theorem sens_ret (fns : List (Nm × Nat)) (l : Lab) (c : BT Lab) (outer cur : List Nm) (wh : Nat) (inn : Bool) (f : Flt) (h : l.kd = 24) : sens fns (nd l c) outer cur wh inn f = sens fns c outer cur wh inn (wrongF (!inn) 4 l.line f) := by
  unfold nd
  rw [sens, if_neg (by omega), if_neg (by omega), if_neg (by omega)]
  simp only [h, sens]
  rfl

set_option maxRecDepth 100000 in
set_option maxHeartbeats 2000000 in
theorem node_6 (K : Ctx) (l : Lab) (c : BT Lab) (hkd : l.kd = 6) (hok : ForestOK K c) (hshp : Shp c) (ht32 : T32 c) : NodeOK K l c := by
  have hk32 : l.kd ≠ 32 := by omega
  have hI : isS l.kd = [110, 97, 109, 101] := by rw [hkd]; rfl
  have hsens := fun (outer cur : List Nm) (wh : Nat) (inn : Bool) (f : Flt) => sens_name K.fns l c outer cur wh inn f (.inl hkd)
  intro D w outer ob cur blk wh inn f ln nn S va vn vc pa pn pc c1 hst hrt hb1 hb2 hb3
  have hw32 : wh + w32 l.kd = wh := by unfold w32; rw [if_neg hk32]; rfl
  rw [hw32] at hst ⊢
  rw [hI]
  clear hI
  have HSens := hide (hsens outer cur wh inn f)
  have HSt0 := hide hst
  have HRt0 := hide hrt
  have HSt1 := hide (hst.protect (.cells #[.string ⟨#[110, 97, 109, 101]⟩, .int .i64 ln, .string ⟨S.toArray⟩, .int .i64 nn, .slice va vn vc, .slice pa pn pc] 41))
  have HOk := hide hok
  have HShp := hide hshp
  have HT := hide ht32
  have hvn : vn = blen c := (own_cells hrt.own.1).1
  have hbls := blen_size c
  have hnds := nd_size l c
  have hrt1 : RepT (fun g => D g ∨ g = w.heap.size) (w.alloc (.cells #[.string ⟨#[110, 97, 109, 101]⟩, .int .i64 ln, .string ⟨S.toArray⟩, .int .i64 nn, .slice va vn vc, .slice pa pn pc] 41)) l c ln nn S va vn vc pa pn pc c1 := hrt.keep (fun g hg hl => ⟨Below.heap_alloc _ _ _ hl, .inl hg⟩)
  have HRt1' := hide hrt1
  subst hvn
  obtain ⟨w1, hw1⟩ : ∃ w1, w1 = w.alloc (.cells #[.string ⟨#[110, 97, 109, 101]⟩, .int .i64 ln, .string ⟨S.toArray⟩, .int .i64 nn, .slice va (blen c) vc, .slice pa pn pc] 41) := ⟨_, rfl⟩
  have HRt1 : Hid (RepT (fun g => D g ∨ g = w.heap.size) w1 l c ln nn S va (blen c) vc pa pn pc c1) := by rw [hw1]; exact HRt1'.out
  have HX1 : Hid (w1.heap[w.heap.size]? = some (.cells #[.string ⟨#[110, 97, 109, 101]⟩, .int .i64 ln, .string ⟨S.toArray⟩, .int .i64 nn, .slice va (blen c) vc, .slice pa pn pc] 41)) := by show _ = _; rw [hw1]; exact heap_alloc_new w (.cells #[.string ⟨#[110, 97, 109, 101]⟩, .int .i64 ln, .string ⟨S.toArray⟩, .int .i64 nn, .slice va (blen c) vc, .slice pa pn pc] 41)
  have HB0 : Hid (BelD D w w1) := by rw [hw1]; exact beld_new HSt0.out (.cells #[.string ⟨#[110, 97, 109, 101]⟩, .int .i64 ln, .string ⟨S.toArray⟩, .int .i64 nn, .slice va (blen c) vc, .slice pa pn pc] 41)
  have HEq := hide hw1
  have hsw1 : w1.heap.size = w.heap.size + 1 := by rw [hw1]; simp
  have HLt0 := hide HRt0.out.line
  have HNm0 := hide HRt0.out.name
  clear hsens hst hrt hrt1 hok hshp ht32 hw32 hk32 hw1 HRt1' HRt0
  have hln : ln = l.line := HLt0.out (by rw [hkd]; rfl)
  have hS : S = l.s := HNm0.out (by rw [hkd]; rfl)
  have HS := hide hS
  have HLn := hide hln
  clear hS hln
  clear hkd HLt0 HNm0
  go_enter Tryz.func23, Tryz.ntmps23
  go_wp2_with fail
  refine (seen_any HSt1.out.st (by omega) S).mono ?_
  rintro e w2 ⟨rfl, hs2, hb2'⟩
  generalize hq : decide (S ∈ outer ++ cur) = q
  have HQ := hide hq
  clear hq
  have HStA := hide (HSt1.out.next hs2 (beld_of hb2' HSt1.out.lo))
  have HBA : Hid (BelD (fun g => D g ∨ g = w.heap.size) w1 w2) := by rw [HEq.out]; exact beld_of hb2' HSt1.out.lo
  obtain ⟨x0, x1, x2, x3, x4, x5, fX, lX⟩ := blk6 ((HBA.out.block w.heap.size (.inr rfl)).trans HX1.out)
  clear hs2 hb2'
  go_wp2_with fail
  refine (wrong_any HStA.out.st (!q) 3 l.line _ _ rfl HLn.out).mono ?_
  rintro e w3 ⟨rfl, hs3, hb3'⟩
  have HSt2 := hide (HStA.out.next hs3 hb3')
  have HB2 : Hid (BelD (fun g => D g ∨ g = w.heap.size) w1 w3) := HBA.out.trans hb3'
  clear hs3 hb3'
  go_wp2
  rw [← HQ.out, HS.out] at HSt2
  clear x0 x1 x2 x3 x4 x5 fX lX
  go_loopg [7] (blen c) (fun k v wr => ∃ (n : Nat) (cn : List Nm) (fn : Flt), v = .int .i64 n ∧ n + k = blen c ∧ cn.length + bsize (dropT n c) ≤ (cur).length + bsize c ∧ K.St (fun g => D g ∨ g = w.heap.size) wr outer ob cn blk wh inn fn ∧ sens K.fns (dropT n c) outer cn wh inn fn = sens K.fns c outer (cur) wh inn (wrongF (!decide (l.s ∈ outer ++ cur)) 3 l.line f) ∧ BelD (fun g => D g ∨ g = w.heap.size) w1 wr)
  case atStart => exact ⟨0, cur, wrongF (!decide (l.s ∈ outer ++ cur)) 3 l.line f, rfl, by omega, Nat.le_refl _, HSt2.out, rfl, HB2.out⟩
  case round =>
    clear HSt2 HB2
    obtain ⟨n, cn, fn, rfl, hnk, hcn, hst, hse, hbel⟩ := hrel
    have hX := (hbel.block w.heap.size (.inr rfl)).trans HX1.out
    obtain ⟨x0, x1, x2, x3, x4, x5, fX, lX⟩ := blk6 hX
    have HSt := hide hst
    have HSe := hide hse
    have HBel := hide hbel
    clear hst hse hbel
    by_cases hlt : n < blen c
    · have hk : ∀ g, (D g ∨ g = w.heap.size) → g < w1.heap.size → wr.heap[g]? = w1.heap[g]? ∧ (D g ∨ g = w.heap.size) := fun g hg _ => ⟨HBel.out.block g hg, hg⟩
      obtain ⟨x, y, l', cc, r, hd, ln', mm, S', va2, vn2, vc2, pa2, pn2, pc2, c2, hrt, k0, k1, k2, k3, k4, k5⟩ := RepF.at' n c c1 HShp.out (RepF.keep hk _ _ HRt1.out.kids) hlt
      obtain ⟨g, rfl, _, hcap, lg, hcell⟩ := own_row (HRt1.out.own.keep hk).1 (by omega)
      have d0 := hcell _ _ k0
      have d1 := hcell _ _ k1
      have d2 := hcell _ _ k2
      have d3 := hcell _ _ k3
      have d4 := hcell _ _ k4
      have d5 := hcell _ _ k5
      have h32 : l'.kd ≠ 32 := by have := dropT_T32 n c HT.out; rw [hd] at this; exact this.1
      have hw : wh + w32 l'.kd = wh := by unfold w32; rw [if_neg h32]; rfl
      have hsz : bsize (dropT n c) = bsize (nd l' cc) + bsize r := by rw [hd, nd_size, bsize]
      have hdn := dropT_size n c
      have HNd := hide (HOk.out n x y l' cc r hd)
      have HDs := hide (dropT_succ n c x y l' cc r hd)
      have HRt := hide hrt
      have HSx := hide ((congrArg (fun q => sens K.fns q outer cn wh inn fn) hd).trans (sens_xy K.fns x y l' cc r outer cn wh inn fn))
      have hcur := sens_cur K.fns (nd l' cc) outer cn wh inn fn
      have HW := hide hw
      clear hcell hd hrt hw h32
      clear k0 k1 k2 k3 k4 k5
      go_wp2_with fail
      refine (HNd.out _ wr outer ob cn blk wh inn fn ln' mm S' va2 vn2 vc2 pa2 pn2 pc2 c2 (by rw [HW.out]; exact HSt.out) HRt.out (by simp only [List.length_append] at hb1 ⊢; omega) (by omega) (by omega)).mono ?_
      rintro e w3 ⟨rfl, hs3, hbl3⟩
      rw [HW.out] at hs3
      have HSt3 := hide hs3
      have HB3 : Hid (BelD (fun g => D g ∨ g = w.heap.size) w1 w3) := HBel.out.trans hbl3
      clear hs3 hbl3
      go_wp2
      go_roundg (gk - 1)
      case measure => omega
      case rel => exact ⟨n + 1, _, _, rfl, by omega, by rw [HDs.out]; omega, HSt3.out, by rw [HDs.out, ← HSx.out]; exact HSe.out, HB3.out⟩
    · have HE : Hid ((cn, fn) = sens K.fns c outer (cur) wh inn (wrongF (!decide (l.s ∈ outer ++ cur)) 3 l.line f)) := by
        have h0 : dropT n c = .nil := blen_zero _ (by rw [dropT_len]; omega)
        have := HSe.out
        rw [h0] at this
        exact this
      clear HSe
      go_wp2
      go_end0
      have hbl := HB0.out.trans (HBel.out.weak (fun g hg => .inl hg))
      rw [HSens.out, ← HE.out]
      exact ⟨rfl, HSt0.out.back HSt.out.st hbl, hbl⟩

set_option maxRecDepth 100000 in
set_option maxHeartbeats 2000000 in
theorem node_28 (K : Ctx) (l : Lab) (c : BT Lab) (hkd : l.kd = 28) (hok : ForestOK K c) (hshp : Shp c) (ht32 : T32 c) : NodeOK K l c := by
  have hk32 : l.kd ≠ 32 := by omega
  have hI : isS l.kd = [115, 101, 116] := by rw [hkd]; rfl
  have hsens := fun (outer cur : List Nm) (wh : Nat) (inn : Bool) (f : Flt) => sens_name K.fns l c outer cur wh inn f (.inr hkd)
  intro D w outer ob cur blk wh inn f ln nn S va vn vc pa pn pc c1 hst hrt hb1 hb2 hb3
  have hw32 : wh + w32 l.kd = wh := by unfold w32; rw [if_neg hk32]; rfl
  rw [hw32] at hst ⊢
  rw [hI]
  clear hI
  have HSens := hide (hsens outer cur wh inn f)
  have HSt0 := hide hst
  have HRt0 := hide hrt
  have HSt1 := hide (hst.protect (.cells #[.string ⟨#[115, 101, 116]⟩, .int .i64 ln, .string ⟨S.toArray⟩, .int .i64 nn, .slice va vn vc, .slice pa pn pc] 41))
  have HOk := hide hok
  have HShp := hide hshp
  have HT := hide ht32
  have hvn : vn = blen c := (own_cells hrt.own.1).1
  have hbls := blen_size c
  have hnds := nd_size l c
  have hrt1 : RepT (fun g => D g ∨ g = w.heap.size) (w.alloc (.cells #[.string ⟨#[115, 101, 116]⟩, .int .i64 ln, .string ⟨S.toArray⟩, .int .i64 nn, .slice va vn vc, .slice pa pn pc] 41)) l c ln nn S va vn vc pa pn pc c1 := hrt.keep (fun g hg hl => ⟨Below.heap_alloc _ _ _ hl, .inl hg⟩)
  have HRt1' := hide hrt1
  subst hvn
  obtain ⟨w1, hw1⟩ : ∃ w1, w1 = w.alloc (.cells #[.string ⟨#[115, 101, 116]⟩, .int .i64 ln, .string ⟨S.toArray⟩, .int .i64 nn, .slice va (blen c) vc, .slice pa pn pc] 41) := ⟨_, rfl⟩
  have HRt1 : Hid (RepT (fun g => D g ∨ g = w.heap.size) w1 l c ln nn S va (blen c) vc pa pn pc c1) := by rw [hw1]; exact HRt1'.out
  have HX1 : Hid (w1.heap[w.heap.size]? = some (.cells #[.string ⟨#[115, 101, 116]⟩, .int .i64 ln, .string ⟨S.toArray⟩, .int .i64 nn, .slice va (blen c) vc, .slice pa pn pc] 41)) := by show _ = _; rw [hw1]; exact heap_alloc_new w (.cells #[.string ⟨#[115, 101, 116]⟩, .int .i64 ln, .string ⟨S.toArray⟩, .int .i64 nn, .slice va (blen c) vc, .slice pa pn pc] 41)
  have HB0 : Hid (BelD D w w1) := by rw [hw1]; exact beld_new HSt0.out (.cells #[.string ⟨#[115, 101, 116]⟩, .int .i64 ln, .string ⟨S.toArray⟩, .int .i64 nn, .slice va (blen c) vc, .slice pa pn pc] 41)
  have HEq := hide hw1
  have hsw1 : w1.heap.size = w.heap.size + 1 := by rw [hw1]; simp
  have HLt0 := hide HRt0.out.line
  have HNm0 := hide HRt0.out.name
  clear hsens hst hrt hrt1 hok hshp ht32 hw32 hk32 hw1 HRt1' HRt0
  have hln : ln = l.line := HLt0.out (by rw [hkd]; rfl)
  have hS : S = l.s := HNm0.out (by rw [hkd]; rfl)
  have HS := hide hS
  have HLn := hide hln
  clear hS hln
  clear hkd HLt0 HNm0
  go_enter Tryz.func23, Tryz.ntmps23
  go_wp2_with fail
  refine (seen_any HSt1.out.st (by omega) S).mono ?_
  rintro e w2 ⟨rfl, hs2, hb2'⟩
  generalize hq : decide (S ∈ outer ++ cur) = q
  have HQ := hide hq
  clear hq
  have HStA := hide (HSt1.out.next hs2 (beld_of hb2' HSt1.out.lo))
  have HBA : Hid (BelD (fun g => D g ∨ g = w.heap.size) w1 w2) := by rw [HEq.out]; exact beld_of hb2' HSt1.out.lo
  obtain ⟨x0, x1, x2, x3, x4, x5, fX, lX⟩ := blk6 ((HBA.out.block w.heap.size (.inr rfl)).trans HX1.out)
  clear hs2 hb2'
  go_wp2_with fail
  refine (wrong_any HStA.out.st (!q) 3 l.line _ _ rfl HLn.out).mono ?_
  rintro e w3 ⟨rfl, hs3, hb3'⟩
  have HSt2 := hide (HStA.out.next hs3 hb3')
  have HB2 : Hid (BelD (fun g => D g ∨ g = w.heap.size) w1 w3) := HBA.out.trans hb3'
  clear hs3 hb3'
  go_wp2
  rw [← HQ.out, HS.out] at HSt2
  clear x0 x1 x2 x3 x4 x5 fX lX
  go_loopg [7] (blen c) (fun k v wr => ∃ (n : Nat) (cn : List Nm) (fn : Flt), v = .int .i64 n ∧ n + k = blen c ∧ cn.length + bsize (dropT n c) ≤ (cur).length + bsize c ∧ K.St (fun g => D g ∨ g = w.heap.size) wr outer ob cn blk wh inn fn ∧ sens K.fns (dropT n c) outer cn wh inn fn = sens K.fns c outer (cur) wh inn (wrongF (!decide (l.s ∈ outer ++ cur)) 3 l.line f) ∧ BelD (fun g => D g ∨ g = w.heap.size) w1 wr)
  case atStart => exact ⟨0, cur, wrongF (!decide (l.s ∈ outer ++ cur)) 3 l.line f, rfl, by omega, Nat.le_refl _, HSt2.out, rfl, HB2.out⟩
  case round =>
    clear HSt2 HB2
    obtain ⟨n, cn, fn, rfl, hnk, hcn, hst, hse, hbel⟩ := hrel
    have hX := (hbel.block w.heap.size (.inr rfl)).trans HX1.out
    obtain ⟨x0, x1, x2, x3, x4, x5, fX, lX⟩ := blk6 hX
    have HSt := hide hst
    have HSe := hide hse
    have HBel := hide hbel
    clear hst hse hbel
    by_cases hlt : n < blen c
    · have hk : ∀ g, (D g ∨ g = w.heap.size) → g < w1.heap.size → wr.heap[g]? = w1.heap[g]? ∧ (D g ∨ g = w.heap.size) := fun g hg _ => ⟨HBel.out.block g hg, hg⟩
      obtain ⟨x, y, l', cc, r, hd, ln', mm, S', va2, vn2, vc2, pa2, pn2, pc2, c2, hrt, k0, k1, k2, k3, k4, k5⟩ := RepF.at' n c c1 HShp.out (RepF.keep hk _ _ HRt1.out.kids) hlt
      obtain ⟨g, rfl, _, hcap, lg, hcell⟩ := own_row (HRt1.out.own.keep hk).1 (by omega)
      have d0 := hcell _ _ k0
      have d1 := hcell _ _ k1
      have d2 := hcell _ _ k2
      have d3 := hcell _ _ k3
      have d4 := hcell _ _ k4
      have d5 := hcell _ _ k5
      have h32 : l'.kd ≠ 32 := by have := dropT_T32 n c HT.out; rw [hd] at this; exact this.1
      have hw : wh + w32 l'.kd = wh := by unfold w32; rw [if_neg h32]; rfl
      have hsz : bsize (dropT n c) = bsize (nd l' cc) + bsize r := by rw [hd, nd_size, bsize]
      have hdn := dropT_size n c
      have HNd := hide (HOk.out n x y l' cc r hd)
      have HDs := hide (dropT_succ n c x y l' cc r hd)
      have HRt := hide hrt
      have HSx := hide ((congrArg (fun q => sens K.fns q outer cn wh inn fn) hd).trans (sens_xy K.fns x y l' cc r outer cn wh inn fn))
      have hcur := sens_cur K.fns (nd l' cc) outer cn wh inn fn
      have HW := hide hw
      clear hcell hd hrt hw h32
      clear k0 k1 k2 k3 k4 k5
      go_wp2_with fail
      refine (HNd.out _ wr outer ob cn blk wh inn fn ln' mm S' va2 vn2 vc2 pa2 pn2 pc2 c2 (by rw [HW.out]; exact HSt.out) HRt.out (by simp only [List.length_append] at hb1 ⊢; omega) (by omega) (by omega)).mono ?_
      rintro e w3 ⟨rfl, hs3, hbl3⟩
      rw [HW.out] at hs3
      have HSt3 := hide hs3
      have HB3 : Hid (BelD (fun g => D g ∨ g = w.heap.size) w1 w3) := HBel.out.trans hbl3
      clear hs3 hbl3
      go_wp2
      go_roundg (gk - 1)
      case measure => omega
      case rel => exact ⟨n + 1, _, _, rfl, by omega, by rw [HDs.out]; omega, HSt3.out, by rw [HDs.out, ← HSx.out]; exact HSe.out, HB3.out⟩
    · have HE : Hid ((cn, fn) = sens K.fns c outer (cur) wh inn (wrongF (!decide (l.s ∈ outer ++ cur)) 3 l.line f)) := by
        have h0 : dropT n c = .nil := blen_zero _ (by rw [dropT_len]; omega)
        have := HSe.out
        rw [h0] at this
        exact this
      clear HSe
      go_wp2
      go_end0
      have hbl := HB0.out.trans (HBel.out.weak (fun g hg => .inl hg))
      rw [HSens.out, ← HE.out]
      exact ⟨rfl, HSt0.out.back HSt.out.st hbl, hbl⟩

set_option maxRecDepth 100000 in
set_option maxHeartbeats 2000000 in
theorem node_25 (K : Ctx) (l : Lab) (c : BT Lab) (hkd : l.kd = 25) (hok : ForestOK K c) (hshp : Shp c) (ht32 : T32 c) : NodeOK K l c := by
  have hk32 : l.kd ≠ 32 := by omega
  have hI : isS l.kd = [98, 114, 101, 97, 107] := by rw [hkd]; rfl
  have hsens := fun (outer cur : List Nm) (wh : Nat) (inn : Bool) (f : Flt) => sens_loop K.fns l c outer cur wh inn f (.inl hkd)
  intro D w outer ob cur blk wh inn f ln nn S va vn vc pa pn pc c1 hst hrt hb1 hb2 hb3
  have hw32 : wh + w32 l.kd = wh := by unfold w32; rw [if_neg hk32]; rfl
  rw [hw32] at hst ⊢
  rw [hI]
  clear hI
  have HSens := hide (hsens outer cur wh inn f)
  have HSt0 := hide hst
  have HRt0 := hide hrt
  have HSt1 := hide (hst.protect (.cells #[.string ⟨#[98, 114, 101, 97, 107]⟩, .int .i64 ln, .string ⟨S.toArray⟩, .int .i64 nn, .slice va vn vc, .slice pa pn pc] 41))
  have HOk := hide hok
  have HShp := hide hshp
  have HT := hide ht32
  have hvn : vn = blen c := (own_cells hrt.own.1).1
  have hbls := blen_size c
  have hnds := nd_size l c
  have hrt1 : RepT (fun g => D g ∨ g = w.heap.size) (w.alloc (.cells #[.string ⟨#[98, 114, 101, 97, 107]⟩, .int .i64 ln, .string ⟨S.toArray⟩, .int .i64 nn, .slice va vn vc, .slice pa pn pc] 41)) l c ln nn S va vn vc pa pn pc c1 := hrt.keep (fun g hg hl => ⟨Below.heap_alloc _ _ _ hl, .inl hg⟩)
  have HRt1' := hide hrt1
  subst hvn
  obtain ⟨w1, hw1⟩ : ∃ w1, w1 = w.alloc (.cells #[.string ⟨#[98, 114, 101, 97, 107]⟩, .int .i64 ln, .string ⟨S.toArray⟩, .int .i64 nn, .slice va (blen c) vc, .slice pa pn pc] 41) := ⟨_, rfl⟩
  have HRt1 : Hid (RepT (fun g => D g ∨ g = w.heap.size) w1 l c ln nn S va (blen c) vc pa pn pc c1) := by rw [hw1]; exact HRt1'.out
  have HX1 : Hid (w1.heap[w.heap.size]? = some (.cells #[.string ⟨#[98, 114, 101, 97, 107]⟩, .int .i64 ln, .string ⟨S.toArray⟩, .int .i64 nn, .slice va (blen c) vc, .slice pa pn pc] 41)) := by show _ = _; rw [hw1]; exact heap_alloc_new w (.cells #[.string ⟨#[98, 114, 101, 97, 107]⟩, .int .i64 ln, .string ⟨S.toArray⟩, .int .i64 nn, .slice va (blen c) vc, .slice pa pn pc] 41)
  have HB0 : Hid (BelD D w w1) := by rw [hw1]; exact beld_new HSt0.out (.cells #[.string ⟨#[98, 114, 101, 97, 107]⟩, .int .i64 ln, .string ⟨S.toArray⟩, .int .i64 nn, .slice va (blen c) vc, .slice pa pn pc] 41)
  have HEq := hide hw1
  have hsw1 : w1.heap.size = w.heap.size + 1 := by rw [hw1]; simp
  have HLt0 := hide HRt0.out.line
  have HNm0 := hide HRt0.out.name
  clear hsens hst hrt hrt1 hok hshp ht32 hw32 hk32 hw1 HRt1' HRt0
  have hln : ln = l.line := HLt0.out (by rw [hkd]; rfl)
  have HLn := hide hln
  clear hln
  clear hkd HLt0 HNm0
  obtain ⟨na, nm, nc, ba, bm, bc, bs, hss⟩ := HSt1.out.st
  obtain ⟨y0, y1, y2, y3, y4, y5, y6, y7, fy, ly⟩ := blk8 hss.cell
  have hsb := hss.lo1
  clear hss
  have HStA := HSt1
  have HBA : Hid (BelD (fun g => D g ∨ g = w.heap.size) w1 (w.alloc (.cells #[.string ⟨#[98, 114, 101, 97, 107]⟩, .int .i64 ln, .string ⟨S.toArray⟩, .int .i64 nn, .slice va (blen c) vc, .slice pa pn pc] 41))) := by rw [HEq.out]; exact BelD.refl _ _
  have tW : (((wh : Nat) : Int) == 0) = (wh == 0) := by
    rw [Bool.eq_iff_iff, beq_iff_eq, beq_iff_eq]; omega
  go_enter Tryz.func23, Tryz.ntmps23
  go_wp2
  go_region_with ((go_at_call 25; refine (wrong_any (HStA.out.st.keep (w' := World.drew _) (fun _ _ => rfl)) (wh == 0) 4 l.line _ _ rfl HLn.out).mono ?_; rintro e w3 ⟨rfl, hs3, hb3'⟩))
  all_goals
    have HB2 : Hid (BelD (fun g => D g ∨ g = w.heap.size) w1 w3) := HBA.out.trans ⟨hb3'.os, hb3'.tape, hb3'.output, hb3'.size, hb3'.block⟩
    have HSt2 := hide (HStA.out.next hs3 ⟨hb3'.os, hb3'.tape, hb3'.output, hb3'.size, hb3'.block⟩)
    clear hs3 hb3'
    go_wp2
    clear y0 y1 y2 y3 y4 y5 y6 y7 fy
    go_loopg [7] (blen c) (fun k v wr => ∃ (n : Nat) (cn : List Nm) (fn : Flt), v = .int .i64 n ∧ n + k = blen c ∧ cn.length + bsize (dropT n c) ≤ (cur).length + bsize c ∧ K.St (fun g => D g ∨ g = w.heap.size) wr outer ob cn blk wh inn fn ∧ sens K.fns (dropT n c) outer cn wh inn fn = sens K.fns c outer (cur) wh inn (wrongF (wh == 0) 4 l.line f) ∧ BelD (fun g => D g ∨ g = w.heap.size) w1 wr)
    case atStart => exact ⟨0, cur, wrongF (wh == 0) 4 l.line f, rfl, by omega, Nat.le_refl _, HSt2.out, rfl, HB2.out⟩
    case round =>
      clear HSt2 HB2
      obtain ⟨n, cn, fn, rfl, hnk, hcn, hst, hse, hbel⟩ := hrel
      have hX := (hbel.block w.heap.size (.inr rfl)).trans HX1.out
      obtain ⟨x0, x1, x2, x3, x4, x5, fX, lX⟩ := blk6 hX
      have HSt := hide hst
      have HSe := hide hse
      have HBel := hide hbel
      clear hst hse hbel
      by_cases hlt : n < blen c
      · have hk : ∀ g, (D g ∨ g = w.heap.size) → g < w1.heap.size → wr.heap[g]? = w1.heap[g]? ∧ (D g ∨ g = w.heap.size) := fun g hg _ => ⟨HBel.out.block g hg, hg⟩
        obtain ⟨x, y, l', cc, r, hd, ln', mm, S', va2, vn2, vc2, pa2, pn2, pc2, c2, hrt, k0, k1, k2, k3, k4, k5⟩ := RepF.at' n c c1 HShp.out (RepF.keep hk _ _ HRt1.out.kids) hlt
        obtain ⟨g, rfl, _, hcap, lg, hcell⟩ := own_row (HRt1.out.own.keep hk).1 (by omega)
        have d0 := hcell _ _ k0
        have d1 := hcell _ _ k1
        have d2 := hcell _ _ k2
        have d3 := hcell _ _ k3
        have d4 := hcell _ _ k4
        have d5 := hcell _ _ k5
        have h32 : l'.kd ≠ 32 := by have := dropT_T32 n c HT.out; rw [hd] at this; exact this.1
        have hw : wh + w32 l'.kd = wh := by unfold w32; rw [if_neg h32]; rfl
        have hsz : bsize (dropT n c) = bsize (nd l' cc) + bsize r := by rw [hd, nd_size, bsize]
        have hdn := dropT_size n c
        have HNd := hide (HOk.out n x y l' cc r hd)
        have HDs := hide (dropT_succ n c x y l' cc r hd)
        have HRt := hide hrt
        have HSx := hide ((congrArg (fun q => sens K.fns q outer cn wh inn fn) hd).trans (sens_xy K.fns x y l' cc r outer cn wh inn fn))
        have hcur := sens_cur K.fns (nd l' cc) outer cn wh inn fn
        have HW := hide hw
        clear hcell hd hrt hw h32
        clear k0 k1 k2 k3 k4 k5
        go_wp2_with fail
        refine (HNd.out _ wr outer ob cn blk wh inn fn ln' mm S' va2 vn2 vc2 pa2 pn2 pc2 c2 (by rw [HW.out]; exact HSt.out) HRt.out (by simp only [List.length_append] at hb1 ⊢; omega) (by omega) (by omega)).mono ?_
        rintro e w3 ⟨rfl, hs3, hbl3⟩
        rw [HW.out] at hs3
        have HSt3 := hide hs3
        have HB3 : Hid (BelD (fun g => D g ∨ g = w.heap.size) w1 w3) := HBel.out.trans hbl3
        clear hs3 hbl3
        go_wp2
        go_roundg (gk - 1)
        case measure => omega
        case rel => exact ⟨n + 1, _, _, rfl, by omega, by rw [HDs.out]; omega, HSt3.out, by rw [HDs.out, ← HSx.out]; exact HSe.out, HB3.out⟩
      · have HE : Hid ((cn, fn) = sens K.fns c outer (cur) wh inn (wrongF (wh == 0) 4 l.line f)) := by
          have h0 : dropT n c = .nil := blen_zero _ (by rw [dropT_len]; omega)
          have := HSe.out
          rw [h0] at this
          exact this
        clear HSe
        go_wp2
        go_end0
        have hbl := HB0.out.trans (HBel.out.weak (fun g hg => .inl hg))
        rw [HSens.out, ← HE.out]
        exact ⟨rfl, HSt0.out.back HSt.out.st hbl, hbl⟩

set_option maxRecDepth 100000 in
set_option maxHeartbeats 2000000 in
theorem node_26 (K : Ctx) (l : Lab) (c : BT Lab) (hkd : l.kd = 26) (hok : ForestOK K c) (hshp : Shp c) (ht32 : T32 c) : NodeOK K l c := by
  have hk32 : l.kd ≠ 32 := by omega
  have hI : isS l.kd = [99, 111, 110, 116, 105, 110, 117, 101] := by rw [hkd]; rfl
  have hsens := fun (outer cur : List Nm) (wh : Nat) (inn : Bool) (f : Flt) => sens_loop K.fns l c outer cur wh inn f (.inr hkd)
  intro D w outer ob cur blk wh inn f ln nn S va vn vc pa pn pc c1 hst hrt hb1 hb2 hb3
  have hw32 : wh + w32 l.kd = wh := by unfold w32; rw [if_neg hk32]; rfl
  rw [hw32] at hst ⊢
  rw [hI]
  clear hI
  have HSens := hide (hsens outer cur wh inn f)
  have HSt0 := hide hst
  have HRt0 := hide hrt
  have HSt1 := hide (hst.protect (.cells #[.string ⟨#[99, 111, 110, 116, 105, 110, 117, 101]⟩, .int .i64 ln, .string ⟨S.toArray⟩, .int .i64 nn, .slice va vn vc, .slice pa pn pc] 41))
  have HOk := hide hok
  have HShp := hide hshp
  have HT := hide ht32
  have hvn : vn = blen c := (own_cells hrt.own.1).1
  have hbls := blen_size c
  have hnds := nd_size l c
  have hrt1 : RepT (fun g => D g ∨ g = w.heap.size) (w.alloc (.cells #[.string ⟨#[99, 111, 110, 116, 105, 110, 117, 101]⟩, .int .i64 ln, .string ⟨S.toArray⟩, .int .i64 nn, .slice va vn vc, .slice pa pn pc] 41)) l c ln nn S va vn vc pa pn pc c1 := hrt.keep (fun g hg hl => ⟨Below.heap_alloc _ _ _ hl, .inl hg⟩)
  have HRt1' := hide hrt1
  subst hvn
  obtain ⟨w1, hw1⟩ : ∃ w1, w1 = w.alloc (.cells #[.string ⟨#[99, 111, 110, 116, 105, 110, 117, 101]⟩, .int .i64 ln, .string ⟨S.toArray⟩, .int .i64 nn, .slice va (blen c) vc, .slice pa pn pc] 41) := ⟨_, rfl⟩
  have HRt1 : Hid (RepT (fun g => D g ∨ g = w.heap.size) w1 l c ln nn S va (blen c) vc pa pn pc c1) := by rw [hw1]; exact HRt1'.out
  have HX1 : Hid (w1.heap[w.heap.size]? = some (.cells #[.string ⟨#[99, 111, 110, 116, 105, 110, 117, 101]⟩, .int .i64 ln, .string ⟨S.toArray⟩, .int .i64 nn, .slice va (blen c) vc, .slice pa pn pc] 41)) := by show _ = _; rw [hw1]; exact heap_alloc_new w (.cells #[.string ⟨#[99, 111, 110, 116, 105, 110, 117, 101]⟩, .int .i64 ln, .string ⟨S.toArray⟩, .int .i64 nn, .slice va (blen c) vc, .slice pa pn pc] 41)
  have HB0 : Hid (BelD D w w1) := by rw [hw1]; exact beld_new HSt0.out (.cells #[.string ⟨#[99, 111, 110, 116, 105, 110, 117, 101]⟩, .int .i64 ln, .string ⟨S.toArray⟩, .int .i64 nn, .slice va (blen c) vc, .slice pa pn pc] 41)
  have HEq := hide hw1
  have hsw1 : w1.heap.size = w.heap.size + 1 := by rw [hw1]; simp
  have HLt0 := hide HRt0.out.line
  have HNm0 := hide HRt0.out.name
  clear hsens hst hrt hrt1 hok hshp ht32 hw32 hk32 hw1 HRt1' HRt0
  have hln : ln = l.line := HLt0.out (by rw [hkd]; rfl)
  have HLn := hide hln
  clear hln
  clear hkd HLt0 HNm0
  obtain ⟨na, nm, nc, ba, bm, bc, bs, hss⟩ := HSt1.out.st
  obtain ⟨y0, y1, y2, y3, y4, y5, y6, y7, fy, ly⟩ := blk8 hss.cell
  have hsb := hss.lo1
  clear hss
  have HStA := HSt1
  have HBA : Hid (BelD (fun g => D g ∨ g = w.heap.size) w1 (w.alloc (.cells #[.string ⟨#[99, 111, 110, 116, 105, 110, 117, 101]⟩, .int .i64 ln, .string ⟨S.toArray⟩, .int .i64 nn, .slice va (blen c) vc, .slice pa pn pc] 41))) := by rw [HEq.out]; exact BelD.refl _ _
  have tW : (((wh : Nat) : Int) == 0) = (wh == 0) := by
    rw [Bool.eq_iff_iff, beq_iff_eq, beq_iff_eq]; omega
  go_enter Tryz.func23, Tryz.ntmps23
  go_wp2
  go_region_with ((go_at_call 25; refine (wrong_any (HStA.out.st.keep (w' := World.drew _) (fun _ _ => rfl)) (wh == 0) 4 l.line _ _ rfl HLn.out).mono ?_; rintro e w3 ⟨rfl, hs3, hb3'⟩))
  all_goals
    have HB2 : Hid (BelD (fun g => D g ∨ g = w.heap.size) w1 w3) := HBA.out.trans ⟨hb3'.os, hb3'.tape, hb3'.output, hb3'.size, hb3'.block⟩
    have HSt2 := hide (HStA.out.next hs3 ⟨hb3'.os, hb3'.tape, hb3'.output, hb3'.size, hb3'.block⟩)
    clear hs3 hb3'
    go_wp2
    clear y0 y1 y2 y3 y4 y5 y6 y7 fy
    go_loopg [7] (blen c) (fun k v wr => ∃ (n : Nat) (cn : List Nm) (fn : Flt), v = .int .i64 n ∧ n + k = blen c ∧ cn.length + bsize (dropT n c) ≤ (cur).length + bsize c ∧ K.St (fun g => D g ∨ g = w.heap.size) wr outer ob cn blk wh inn fn ∧ sens K.fns (dropT n c) outer cn wh inn fn = sens K.fns c outer (cur) wh inn (wrongF (wh == 0) 4 l.line f) ∧ BelD (fun g => D g ∨ g = w.heap.size) w1 wr)
    case atStart => exact ⟨0, cur, wrongF (wh == 0) 4 l.line f, rfl, by omega, Nat.le_refl _, HSt2.out, rfl, HB2.out⟩
    case round =>
      clear HSt2 HB2
      obtain ⟨n, cn, fn, rfl, hnk, hcn, hst, hse, hbel⟩ := hrel
      have hX := (hbel.block w.heap.size (.inr rfl)).trans HX1.out
      obtain ⟨x0, x1, x2, x3, x4, x5, fX, lX⟩ := blk6 hX
      have HSt := hide hst
      have HSe := hide hse
      have HBel := hide hbel
      clear hst hse hbel
      by_cases hlt : n < blen c
      · have hk : ∀ g, (D g ∨ g = w.heap.size) → g < w1.heap.size → wr.heap[g]? = w1.heap[g]? ∧ (D g ∨ g = w.heap.size) := fun g hg _ => ⟨HBel.out.block g hg, hg⟩
        obtain ⟨x, y, l', cc, r, hd, ln', mm, S', va2, vn2, vc2, pa2, pn2, pc2, c2, hrt, k0, k1, k2, k3, k4, k5⟩ := RepF.at' n c c1 HShp.out (RepF.keep hk _ _ HRt1.out.kids) hlt
        obtain ⟨g, rfl, _, hcap, lg, hcell⟩ := own_row (HRt1.out.own.keep hk).1 (by omega)
        have d0 := hcell _ _ k0
        have d1 := hcell _ _ k1
        have d2 := hcell _ _ k2
        have d3 := hcell _ _ k3
        have d4 := hcell _ _ k4
        have d5 := hcell _ _ k5
        have h32 : l'.kd ≠ 32 := by have := dropT_T32 n c HT.out; rw [hd] at this; exact this.1
        have hw : wh + w32 l'.kd = wh := by unfold w32; rw [if_neg h32]; rfl
        have hsz : bsize (dropT n c) = bsize (nd l' cc) + bsize r := by rw [hd, nd_size, bsize]
        have hdn := dropT_size n c
        have HNd := hide (HOk.out n x y l' cc r hd)
        have HDs := hide (dropT_succ n c x y l' cc r hd)
        have HRt := hide hrt
        have HSx := hide ((congrArg (fun q => sens K.fns q outer cn wh inn fn) hd).trans (sens_xy K.fns x y l' cc r outer cn wh inn fn))
        have hcur := sens_cur K.fns (nd l' cc) outer cn wh inn fn
        have HW := hide hw
        clear hcell hd hrt hw h32
        clear k0 k1 k2 k3 k4 k5
        go_wp2_with fail
        refine (HNd.out _ wr outer ob cn blk wh inn fn ln' mm S' va2 vn2 vc2 pa2 pn2 pc2 c2 (by rw [HW.out]; exact HSt.out) HRt.out (by simp only [List.length_append] at hb1 ⊢; omega) (by omega) (by omega)).mono ?_
        rintro e w3 ⟨rfl, hs3, hbl3⟩
        rw [HW.out] at hs3
        have HSt3 := hide hs3
        have HB3 : Hid (BelD (fun g => D g ∨ g = w.heap.size) w1 w3) := HBel.out.trans hbl3
        clear hs3 hbl3
        go_wp2
        go_roundg (gk - 1)
        case measure => omega
        case rel => exact ⟨n + 1, _, _, rfl, by omega, by rw [HDs.out]; omega, HSt3.out, by rw [HDs.out, ← HSx.out]; exact HSe.out, HB3.out⟩
      · have HE : Hid ((cn, fn) = sens K.fns c outer (cur) wh inn (wrongF (wh == 0) 4 l.line f)) := by
          have h0 : dropT n c = .nil := blen_zero _ (by rw [dropT_len]; omega)
          have := HSe.out
          rw [h0] at this
          exact this
        clear HSe
        go_wp2
        go_end0
        have hbl := HB0.out.trans (HBel.out.weak (fun g hg => .inl hg))
        rw [HSens.out, ← HE.out]
        exact ⟨rfl, HSt0.out.back HSt.out.st hbl, hbl⟩

set_option maxRecDepth 100000 in
set_option maxHeartbeats 2000000 in
theorem node_24 (K : Ctx) (l : Lab) (c : BT Lab) (hkd : l.kd = 24) (hok : ForestOK K c) (hshp : Shp c) (ht32 : T32 c) : NodeOK K l c := by
  have hk32 : l.kd ≠ 32 := by omega
  have hI : isS l.kd = [114, 101, 116, 117, 114, 110] := by rw [hkd]; rfl
  have hsens := fun (outer cur : List Nm) (wh : Nat) (inn : Bool) (f : Flt) => sens_ret K.fns l c outer cur wh inn f (hkd)
  intro D w outer ob cur blk wh inn f ln nn S va vn vc pa pn pc c1 hst hrt hb1 hb2 hb3
  have hw32 : wh + w32 l.kd = wh := by unfold w32; rw [if_neg hk32]; rfl
  rw [hw32] at hst ⊢
  rw [hI]
  clear hI
  have HSens := hide (hsens outer cur wh inn f)
  have HSt0 := hide hst
  have HRt0 := hide hrt
  have HSt1 := hide (hst.protect (.cells #[.string ⟨#[114, 101, 116, 117, 114, 110]⟩, .int .i64 ln, .string ⟨S.toArray⟩, .int .i64 nn, .slice va vn vc, .slice pa pn pc] 41))
  have HOk := hide hok
  have HShp := hide hshp
  have HT := hide ht32
  have hvn : vn = blen c := (own_cells hrt.own.1).1
  have hbls := blen_size c
  have hnds := nd_size l c
  have hrt1 : RepT (fun g => D g ∨ g = w.heap.size) (w.alloc (.cells #[.string ⟨#[114, 101, 116, 117, 114, 110]⟩, .int .i64 ln, .string ⟨S.toArray⟩, .int .i64 nn, .slice va vn vc, .slice pa pn pc] 41)) l c ln nn S va vn vc pa pn pc c1 := hrt.keep (fun g hg hl => ⟨Below.heap_alloc _ _ _ hl, .inl hg⟩)
  have HRt1' := hide hrt1
  subst hvn
  obtain ⟨w1, hw1⟩ : ∃ w1, w1 = w.alloc (.cells #[.string ⟨#[114, 101, 116, 117, 114, 110]⟩, .int .i64 ln, .string ⟨S.toArray⟩, .int .i64 nn, .slice va (blen c) vc, .slice pa pn pc] 41) := ⟨_, rfl⟩
  have HRt1 : Hid (RepT (fun g => D g ∨ g = w.heap.size) w1 l c ln nn S va (blen c) vc pa pn pc c1) := by rw [hw1]; exact HRt1'.out
  have HX1 : Hid (w1.heap[w.heap.size]? = some (.cells #[.string ⟨#[114, 101, 116, 117, 114, 110]⟩, .int .i64 ln, .string ⟨S.toArray⟩, .int .i64 nn, .slice va (blen c) vc, .slice pa pn pc] 41)) := by show _ = _; rw [hw1]; exact heap_alloc_new w (.cells #[.string ⟨#[114, 101, 116, 117, 114, 110]⟩, .int .i64 ln, .string ⟨S.toArray⟩, .int .i64 nn, .slice va (blen c) vc, .slice pa pn pc] 41)
  have HB0 : Hid (BelD D w w1) := by rw [hw1]; exact beld_new HSt0.out (.cells #[.string ⟨#[114, 101, 116, 117, 114, 110]⟩, .int .i64 ln, .string ⟨S.toArray⟩, .int .i64 nn, .slice va (blen c) vc, .slice pa pn pc] 41)
  have HEq := hide hw1
  have hsw1 : w1.heap.size = w.heap.size + 1 := by rw [hw1]; simp
  have HLt0 := hide HRt0.out.line
  have HNm0 := hide HRt0.out.name
  clear hsens hst hrt hrt1 hok hshp ht32 hw32 hk32 hw1 HRt1' HRt0
  have hln : ln = l.line := HLt0.out (by rw [hkd]; rfl)
  have HLn := hide hln
  clear hln
  clear hkd HLt0 HNm0
  obtain ⟨na, nm, nc, ba, bm, bc, bs, hss⟩ := HSt1.out.st
  obtain ⟨y0, y1, y2, y3, y4, y5, y6, y7, fy, ly⟩ := blk8 hss.cell
  have hsb := hss.lo1
  clear hss
  have HStA := HSt1
  have HBA : Hid (BelD (fun g => D g ∨ g = w.heap.size) w1 (w.alloc (.cells #[.string ⟨#[114, 101, 116, 117, 114, 110]⟩, .int .i64 ln, .string ⟨S.toArray⟩, .int .i64 nn, .slice va (blen c) vc, .slice pa pn pc] 41))) := by rw [HEq.out]; exact BelD.refl _ _
  go_enter Tryz.func23, Tryz.ntmps23
  go_wp2
  go_region_with ((go_at_call 25; refine (wrong_any (HStA.out.st.keep (w' := World.drew _) (fun _ _ => rfl)) (!inn) 4 l.line _ _ rfl HLn.out).mono ?_; rintro e w3 ⟨rfl, hs3, hb3'⟩))
  all_goals
    have HB2 : Hid (BelD (fun g => D g ∨ g = w.heap.size) w1 w3) := HBA.out.trans ⟨hb3'.os, hb3'.tape, hb3'.output, hb3'.size, hb3'.block⟩
    have HSt2 := hide (HStA.out.next hs3 ⟨hb3'.os, hb3'.tape, hb3'.output, hb3'.size, hb3'.block⟩)
    clear hs3 hb3'
    go_wp2
    clear y0 y1 y2 y3 y4 y5 y6 y7 fy
    go_loopg [7] (blen c) (fun k v wr => ∃ (n : Nat) (cn : List Nm) (fn : Flt), v = .int .i64 n ∧ n + k = blen c ∧ cn.length + bsize (dropT n c) ≤ (cur).length + bsize c ∧ K.St (fun g => D g ∨ g = w.heap.size) wr outer ob cn blk wh inn fn ∧ sens K.fns (dropT n c) outer cn wh inn fn = sens K.fns c outer (cur) wh inn (wrongF (!inn) 4 l.line f) ∧ BelD (fun g => D g ∨ g = w.heap.size) w1 wr)
    case atStart => exact ⟨0, cur, wrongF (!inn) 4 l.line f, rfl, by omega, Nat.le_refl _, HSt2.out, rfl, HB2.out⟩
    case round =>
      clear HSt2 HB2
      obtain ⟨n, cn, fn, rfl, hnk, hcn, hst, hse, hbel⟩ := hrel
      have hX := (hbel.block w.heap.size (.inr rfl)).trans HX1.out
      obtain ⟨x0, x1, x2, x3, x4, x5, fX, lX⟩ := blk6 hX
      have HSt := hide hst
      have HSe := hide hse
      have HBel := hide hbel
      clear hst hse hbel
      by_cases hlt : n < blen c
      · have hk : ∀ g, (D g ∨ g = w.heap.size) → g < w1.heap.size → wr.heap[g]? = w1.heap[g]? ∧ (D g ∨ g = w.heap.size) := fun g hg _ => ⟨HBel.out.block g hg, hg⟩
        obtain ⟨x, y, l', cc, r, hd, ln', mm, S', va2, vn2, vc2, pa2, pn2, pc2, c2, hrt, k0, k1, k2, k3, k4, k5⟩ := RepF.at' n c c1 HShp.out (RepF.keep hk _ _ HRt1.out.kids) hlt
        obtain ⟨g, rfl, _, hcap, lg, hcell⟩ := own_row (HRt1.out.own.keep hk).1 (by omega)
        have d0 := hcell _ _ k0
        have d1 := hcell _ _ k1
        have d2 := hcell _ _ k2
        have d3 := hcell _ _ k3
        have d4 := hcell _ _ k4
        have d5 := hcell _ _ k5
        have h32 : l'.kd ≠ 32 := by have := dropT_T32 n c HT.out; rw [hd] at this; exact this.1
        have hw : wh + w32 l'.kd = wh := by unfold w32; rw [if_neg h32]; rfl
        have hsz : bsize (dropT n c) = bsize (nd l' cc) + bsize r := by rw [hd, nd_size, bsize]
        have hdn := dropT_size n c
        have HNd := hide (HOk.out n x y l' cc r hd)
        have HDs := hide (dropT_succ n c x y l' cc r hd)
        have HRt := hide hrt
        have HSx := hide ((congrArg (fun q => sens K.fns q outer cn wh inn fn) hd).trans (sens_xy K.fns x y l' cc r outer cn wh inn fn))
        have hcur := sens_cur K.fns (nd l' cc) outer cn wh inn fn
        have HW := hide hw
        clear hcell hd hrt hw h32
        clear k0 k1 k2 k3 k4 k5
        go_wp2_with fail
        refine (HNd.out _ wr outer ob cn blk wh inn fn ln' mm S' va2 vn2 vc2 pa2 pn2 pc2 c2 (by rw [HW.out]; exact HSt.out) HRt.out (by simp only [List.length_append] at hb1 ⊢; omega) (by omega) (by omega)).mono ?_
        rintro e w3 ⟨rfl, hs3, hbl3⟩
        rw [HW.out] at hs3
        have HSt3 := hide hs3
        have HB3 : Hid (BelD (fun g => D g ∨ g = w.heap.size) w1 w3) := HBel.out.trans hbl3
        clear hs3 hbl3
        go_wp2
        go_roundg (gk - 1)
        case measure => omega
        case rel => exact ⟨n + 1, _, _, rfl, by omega, by rw [HDs.out]; omega, HSt3.out, by rw [HDs.out, ← HSx.out]; exact HSe.out, HB3.out⟩
      · have HE : Hid ((cn, fn) = sens K.fns c outer (cur) wh inn (wrongF (!inn) 4 l.line f)) := by
          have h0 : dropT n c = .nil := blen_zero _ (by rw [dropT_len]; omega)
          have := HSe.out
          rw [h0] at this
          exact this
        clear HSe
        go_wp2
        go_end0
        have hbl := HB0.out.trans (HBel.out.weak (fun g hg => .inl hg))
        rw [HSens.out, ← HE.out]
        exact ⟨rfl, HSt0.out.back HSt.out.st hbl, hbl⟩

end Go.Proofs.YtgccmgjbbcndbaaGreatDoor
