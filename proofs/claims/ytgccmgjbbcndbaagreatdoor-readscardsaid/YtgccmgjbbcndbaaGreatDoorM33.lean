import Derived.Test.YtgccmgjbbcndbaaGreatDoorM32
import Derived.Test.YtgccmgjbbcndbaaGreatDoorM11
import Derived.Test.YtgccmgjbbcndbaaGreatDoorM28
import Derived.Test.YtgccmgjbbcndbaaGreatDoorM27
import Derived.Test.YtgccmgjbbcndbaaGreatDoorM13
/- Walk of Sense: a whole program. -/
namespace Go.Proofs.YtgccmgjbbcndbaaGreatDoor
open Go.RowKit
open Go.Deep (BT)

theorem fn_name : ∀ kd, kd ≤ 140 → (kd = 20 ∨ okKd kd = true) → kd ≠ 20 → (isS kd == [102, 110]) = false := by decide +kernel
theorem prog_at (K : Ctx) : ∀ (i : Nat) (c : BT Lab), Shp c → KdT c → ∀ x y l cc r, dropT i c = .node x y l cc r → l.kd ≤ 140 ∧ (l.kd = 20 ∨ okKd l.kd = true) ∧ (l.kd = 20 → ForestOK K cc ∧ Shp cc ∧ T32 cc) ∧ (l.kd ≠ 20 → NodeOK K l cc) := by
  intro i
  induction i with
  | zero =>
    intro c hs hk x y l cc r hd
    rw [show dropT 0 c = c from by cases c <;> rfl] at hd
    subst hd
    refine ⟨?_, hk.1, fun h => ⟨forest_all K cc hs.2.2.2.1 hk.2.1, hs.2.2.2.1, hs.2.2.1 (by omega)⟩, fun h => ?_⟩
    · rcases hk.1 with h | h
      · omega
      · exact okKd_le h
    · have ho : okKd l.kd = true := hk.1.resolve_left h
      exact forest_all K (.node x y l cc .nil) ⟨hs.1, hs.2.1, hs.2.2.1, hs.2.2.2.1, trivial⟩ ⟨ho, hk.2.1, trivial⟩ 0 x y l cc .nil rfl
  | succ i ih =>
    intro c hs hk x y l cc r hd
    cases c with
    | nil => rw [dropT] at hd; cases hd
    | node x' y' l' c' r' => rw [dropT] at hd; exact ih r' hs.2.2.2.2 hk.2.2 x y l cc r hd

set_option maxRecDepth 100000 in
set_option maxHeartbeats 400000 in
theorem all_any (K : Ctx) (c : BT Lab) (c1 : List Value) (D : Nat → Prop) (w : World) (f : Flt) (hst : K.St D w [] [] [] 0 0 false f) (hown : OwnsD D w 41 6 (.slice K.la K.ln K.lc) (blen c) c1) (hrep : RepF D w c c1) (hshp : Shp c) (ht32 : T32 c) (hkd : KdT c) (hfns : K.fns = fnsOf c) (hb : bsize c ≤ 99000) :
    Calls Tryz.prog 14 #[.pointer (some ⟨K.sb, 0, none⟩)] w fun e w' => e = .returned (.tuple #[]) ∧ ∃ cur, K.St D w' [] [] cur 0 0 false (sensT K.fns c [] [] f) ∧ BelD D w w' := by
  have HSt0 := hide hst
  have HOwn := hide hown
  have HRep := hide hrep
  have HShp := hide hshp
  have HT := hide ht32
  have HKd := hide hkd
  have HFns := hide hfns
  have hbls := blen_size c
  have hln : K.ln = blen c := (own_cells hown.1).1
  have HLn := hide hln
  have hlo := hst.lo
  clear hst hown hrep hshp ht32 hkd hfns hln
  go_enter Tryz.func14, Tryz.ntmps14
  go_wp2
  go_loopg [2, 3] (blen c) (fun k vn vi wr => ∃ (i n : Nat) (cn : List Nm) (fl : Flt), vn = .int .i64 n ∧ vi = .int .i64 i ∧ i + k = blen c ∧ n ≤ i ∧ cn.length + bsize (dropT i c) ≤ bsize c ∧ K.St D wr [] [] cn 0 0 false fl ∧ K.fns.drop n = fnsOf (dropT i c) ∧ sensT K.fns (dropT i c) ((K.fns.take n).map (·.1)) cn fl = sensT K.fns c [] [] f ∧ BelD D w wr)
  case atStart => exact ⟨0, 0, [], f, rfl, rfl, by omega, Nat.le_refl _, by simp [dropT], HSt0.out, HFns.out, rfl, BelD.refl _ _⟩
  case round =>
    clear HSt0
    obtain ⟨i, n, cn, fl, rfl, rfl, hik, hni, hcn, hst, hdr, hse, hbel⟩ := hrel
    obtain ⟨na, nm, nc, ba, bm, bc, bs, hss⟩ := hst.st
    obtain ⟨y0, y1, y2, y3, y4, y5, y6, y7, fy, ly⟩ := blk8 hss.cell
    have z0 := cell_row hst.fr.cell 0 _ rfl
    have z1 := cell_row hst.fr.cell 1 _ rfl
    have lz := heap_lt hst.fr.cell
    have hlow := hst.lo
    rw [HLn.out] at z0
    have HSS := hide hss
    have HSt := hide hst
    have HSe := hide hse
    have HBel := hide hbel
    have HDr := hide hdr
    clear hst hse hbel hdr hss
    by_cases hlt : i < blen c
    · have hk : ∀ g, D g → g < w.heap.size → wr.heap[g]? = w.heap[g]? ∧ D g := fun g hg _ => ⟨HBel.out.block g hg, hg⟩
      obtain ⟨x, y, l, cc, r, hd, ln', mm, S', va2, vn2, vc2, pa2, pn2, pc2, c2, hrt, k0, k1, k2, k3, k4, k5⟩ := RepF.at' i c c1 HShp.out (RepF.keep hk _ _ HRep.out) hlt
      obtain ⟨g, hla, _, hcap, lg, hcell⟩ := own_row (HOwn.out.keep hk).1 (by omega)
      rw [hla] at z0
      have d0 := hcell _ _ k0
      have d1 := hcell _ _ k1
      have d2 := hcell _ _ k2
      have d3 := hcell _ _ k3
      have d4 := hcell _ _ k4
      have d5 := hcell _ _ k5
      have hDg : D g := (HOwn.out.keep hk).2 g (by rw [hla]; rfl)
      have h32 : l.kd ≠ 32 := by have := dropT_T32 i c HT.out; rw [hd] at this; exact this.1
      have hsz : bsize (dropT i c) = bsize (nd l cc) + bsize r := by rw [hd, nd_size, bsize]
      have hdn := dropT_size i c
      have HDs := hide (dropT_succ i c x y l cc r hd)
      obtain ⟨h140, hok, hfn, hst⟩ := prog_at K i c HShp.out HKd.out x y l cc r hd
      have HFn := hide hfn
      have HNd := hide hst
      have HRt := hide hrt
      have HD := hide hd
      have HLa := hide hla
      clear hcell hd hrt hla hfn hst k0 k1 k2 k3 k4 k5
      by_cases h20 : l.kd = 20
      · have hI : isS l.kd = [102, 110] := by rw [h20]; rfl
        have hIA : (isS l.kd).toArray = #[102, 110] := by rw [hI]
        rw [hIA] at d0
        clear hIA
        have HFn' := hide (HFn.out h20)
        obtain ⟨xs, hxo, hxm⟩ := HRt.out.prm h20
        have hvn : vn2 = blen cc := (own_cells HRt.out.own.1).1
        have hpn : pn2 = xs.length := (own_cells hxo.1).1
        subst hvn hpn
        have hS : S' = l.s := HRt.out.name (by rw [h20]; rfl)
        have hL : ln' = l.line := HRt.out.line (by rw [h20]; rfl)
        have hps : l.ps.length = xs.length := by rw [← hxm]; simp
        have hnds := nd_size l cc
        obtain ⟨hnl, hnf, hdr', htk⟩ := fns_next (HDr.out.trans ((congrArg fnsOf HD.out).trans (fnsOf_fn x y l cc r h20)))
        have HNf := hide hnf
        have HDr' := hide hdr'
        have HTk := hide htk
        have HSx := hide ((congrArg (fun q => sensT K.fns q ((K.fns.take n).map (·.1)) cn fl) HD.out).symm.trans HSe.out)
        have HSx2 := hide (sensT_fn K.fns x y l cc r ((K.fns.take n).map (·.1)) cn fl h20)
        have HSt1 := hide (HSt.out.protect (.cells #[.string ⟨#[102, 110]⟩, .int .i64 ln', .string ⟨S'.toArray⟩, .int .i64 mm, .slice va2 (blen cc) vc2, .slice pa2 xs.length pc2] 41))
        have hk1 : ∀ g, D g → g < wr.heap.size → (wr.alloc (.cells #[.string ⟨#[102, 110]⟩, .int .i64 ln', .string ⟨S'.toArray⟩, .int .i64 mm, .slice va2 (blen cc) vc2, .slice pa2 xs.length pc2] 41)).heap[g]? = wr.heap[g]? ∧ (D g ∨ g = wr.heap.size) := fun g hg hl => ⟨Below.heap_alloc _ _ _ hl, .inl hg⟩
        have HRt1' := hide (HRt.out.keep hk1)
        have HXo' := hide (hxo.keep hk1)
        obtain ⟨w1, hw1⟩ : ∃ w1, w1 = wr.alloc (.cells #[.string ⟨#[102, 110]⟩, .int .i64 ln', .string ⟨S'.toArray⟩, .int .i64 mm, .slice va2 (blen cc) vc2, .slice pa2 xs.length pc2] 41) := ⟨_, rfl⟩
        have HX1 : Hid (w1.heap[wr.heap.size]? = some (.cells #[.string ⟨#[102, 110]⟩, .int .i64 ln', .string ⟨S'.toArray⟩, .int .i64 mm, .slice va2 (blen cc) vc2, .slice pa2 xs.length pc2] 41)) := by show _ = _; rw [hw1]; exact heap_alloc_new wr (.cells #[.string ⟨#[102, 110]⟩, .int .i64 ln', .string ⟨S'.toArray⟩, .int .i64 mm, .slice va2 (blen cc) vc2, .slice pa2 xs.length pc2] 41)
        have HB0 : Hid (BelD D wr w1) := by rw [hw1]; exact beld_new HSt.out (.cells #[.string ⟨#[102, 110]⟩, .int .i64 ln', .string ⟨S'.toArray⟩, .int .i64 mm, .slice va2 (blen cc) vc2, .slice pa2 xs.length pc2] 41)
        have HStA : Hid (K.St (fun g => D g ∨ g = wr.heap.size) w1 [] [] cn 0 0 false fl) := by rw [hw1]; exact HSt1.out
        have HOw1 : Hid (OwnsD (fun g => D g ∨ g = wr.heap.size) w1 41 6 (.slice va2 (blen cc) vc2) (blen cc) c2) := by rw [hw1]; exact HRt1'.out.own
        have HRf1 : Hid (RepF (fun g => D g ∨ g = wr.heap.size) w1 cc c2) := by rw [hw1]; exact HRt1'.out.kids
        have HXo1 : Hid (OwnsD (fun g => D g ∨ g = wr.heap.size) w1 79 4 (.slice pa2 xs.length pc2) xs.length (tkCs xs)) := by rw [hw1]; exact HXo'.out
        have HEq := hide hw1
        have hsw1 : w1.heap.size = wr.heap.size + 1 := by rw [hw1]; simp
        have HFr2 := hide (HStA.out.fr.keep (w' := w1.drew) ⟨rfl, rfl, rfl, Nat.le_refl _, fun _ _ => rfl⟩)
        have HXm := hide hxm
        have HS := hide hS
        have HL := hide hL
        clear hw1 hk1 HRt1' HXo' HSt1 hxo hxm hS hL hnf hdr' htk hI h140 hok HFn HNd
        have HK20 := hide h20
        clear h20
        go_wp2
        rw [← HEq.out]
        clear y0 y1 y2 y3 y4 y5 y6 y7 fy ly z0 z1 lz d0 d1 d2 d3 d4 d5 HSS na nm nc ba bm bc bs
        obtain ⟨na, nm, nc, ba, bm, bc, bs, hss⟩ := HStA.out.st
        obtain ⟨y0, y1, y2, y3, y4, y5, y6, y7, fy, ly⟩ := blk8 hss.cell
        obtain ⟨x0, x1, x2, x3, x4, x5, fX, lX⟩ := blk6 HX1.out
        clear hss
        go_still_tail 6, (by kernel_rfl)
        go_wp2_with fail
        refine (fun_any HFr2.out S').mono ?_
        rintro e w' ⟨q, rfl, hq, rfl⟩
        rw [HS.out] at hq
        have hfs := first_seen hnl (by rw [HNf.out]) hq
        have HStB := hide (HStA.out.keep (w' := w1.drew) (fun _ _ => rfl) ⟨rfl, rfl, rfl, Nat.le_refl _, fun _ _ => rfl⟩)
        have HBB : Hid (BelD (fun g => D g ∨ g = wr.heap.size) w1 w1.drew) := ⟨rfl, rfl, rfl, Nat.le_refl _, fun _ _ => rfl⟩
        clear hq HStA y0 y1 y2 y3 y4 y5 y6 y7 fy ly x0 x1 x2 x3 x4 x5 fX lX HFr2 na nm nc ba bm bc bs
        generalize hbb : decide (l.s ∈ (K.fns.take n).map (·.1)) = bb at *
        have HBb := hide hbb
        clear hbb
        generalize w1.drew = w2 at *
        obtain ⟨na, nm, nc, ba, bm, bc, bs, hss⟩ := HStB.out.st
        obtain ⟨y0, y1, y2, y3, y4, y5, y6, y7, fy, ly⟩ := blk8 hss.cell
        obtain ⟨x0, x1, x2, x3, x4, x5, fX, lX⟩ := blk6 ((HBB.out.block wr.heap.size (.inr rfl)).trans HX1.out)
        clear hss
        go_wp2_with fail
        refine (wrong_any HStB.out.st bb 3 l.line _ _ rfl HL.out).mono ?_
        rintro e w3 ⟨rfl, hs3, hb3⟩
        have HSt3 := hide (HStB.out.next hs3 hb3)
        have HB3 : Hid (BelD (fun g => D g ∨ g = wr.heap.size) w1 w3) := HBB.out.trans hb3
        clear y0 y1 y2 y3 y4 y5 y6 y7 fy ly x0 x1 x2 x3 x4 x5 fX lX na nm nc ba bm bc bs hs3 hb3
        obtain ⟨na, nm, nc, ba, bm, bc, bs, hss⟩ := HSt3.out.st
        obtain ⟨y0, y1, y2, y3, y4, y5, y6, y7, fy, ly⟩ := blk8 hss.cell
        obtain ⟨x0, x1, x2, x3, x4, x5, fX, lX⟩ := blk6 ((HB3.out.block wr.heap.size (.inr rfl)).trans HX1.out)
        have HSS := hide hss
        have hsbx : K.sb ≠ wr.heap.size := fun e => hss.lo1 (.inr e)
        have HB4 : Hid (BelD (fun g => D g ∨ g = wr.heap.size) w1 (w3.setCell ⟨K.sb, 5, none⟩ (.bool true))) := HB3.out.trans (BelD.set (p := ⟨K.sb, 5, none⟩) (BelD.refl _ _) hss.lo1 _)
        have HSt4 : Hid (K.St (fun g => D g ∨ g = wr.heap.size) (w3.setCell ⟨K.sb, 5, none⟩ (.bool true)) [] [] cn 0 0 true (wrongF bb 3 l.line fl)) := by
          refine HSt3.out.next ⟨na, nm, nc, ba, bm, bc, bs, HSS.out.put 0 true _ (by omega) ?_ (fun g _ hne => Below.heap_setCell _ _ _ _ (by exact hne))⟩ (BelD.set (p := ⟨K.sb, 5, none⟩) (BelD.refl _ _) HSS.out.lo1 _)
          have := heap_set (j := 5) HSS.out.cell (.bool true)
          simpa using this
        have hk4 : ∀ g, (D g ∨ g = wr.heap.size) → g < w1.heap.size → (w3.setCell ⟨K.sb, 5, none⟩ (.bool true)).heap[g]? = w1.heap[g]? ∧ (D g ∨ g = wr.heap.size) := fun g hg _ => ⟨HB4.out.block g hg, hg⟩
        have HCall := hide (block_sense K cc HFn'.out.1 HFn'.out.2.1 HFn'.out.2.2 _ _ [] [] cn 0 0 true _ va2 _ vc2 pa2 _ pc2 c2 xs HSt4.out (HOw1.out.keep hk4) (RepF.keep hk4 _ _ HRf1.out) (HXo1.out.keep hk4) (by simp only [List.nil_append]; omega) (by omega) (by omega) (by omega))
        clear hss hk4
        go_wp2_with fail
        refine HCall.out.mono ?_
        rintro e w5 ⟨rfl, hs5, hb5⟩
        rw [HXm.out, List.nil_append] at hs5
        have HSt5 := hide hs5
        have HB5 : Hid (BelD (fun g => D g ∨ g = wr.heap.size) w1 w5) := HB4.out.trans hb5
        clear y0 y1 y2 y3 y4 y5 y6 y7 fy ly x0 x1 x2 x3 x4 x5 fX lX hs5 hb5 HSS HCall HSt4 na nm nc ba bm bc bs
        obtain ⟨na, nm, nc, ba, bm, bc, bs, hss⟩ := HSt5.out.st
        obtain ⟨y0, y1, y2, y3, y4, y5, y6, y7, fy, ly⟩ := blk8 hss.cell
        have HSS := hide hss
        clear hss
        go_wp2
        have hb6 : BelD D wr (w5.setCell ⟨K.sb, 5, none⟩ (.bool false)) := HB0.out.trans ((HB5.out.trans (BelD.set (p := ⟨K.sb, 5, none⟩) (BelD.refl _ _) HSS.out.lo1 _)).weak (fun g hg => .inl hg))
        have HB6 := hide (HBel.out.trans hb6)
        have HSt6 : Hid (K.St D (w5.setCell ⟨K.sb, 5, none⟩ (.bool false)) [] [] cn 0 0 false (sens K.fns cc cn (prmF l.ps [] (wrongF bb 3 l.line fl)).1 0 true (prmF l.ps [] (wrongF bb 3 l.line fl)).2).2) := by
          refine HSt.out.back ⟨na, nm, nc, ba, bm, bc, bs, HSS.out.put 0 false _ (by omega) ?_ (fun g _ hne => Below.heap_setCell _ _ _ _ (by exact hne))⟩ hb6
          have := heap_set (j := 5) HSS.out.cell (.bool false)
          simpa using this
        clear hb6
        go_roundg (gk - 1)
        case measure => omega
        case rel => exact ⟨i + 1, n + 1, cn, _, rfl, rfl, by omega, by omega, by rw [HDs.out]; omega, HSt6.out, by rw [HDs.out]; exact HDr'.out, by rw [HDs.out, HTk.out, ← HSx.out, HSx2.out], HB6.out⟩
      · have t := fn_name l.kd h140 hok h20
        have hw : 0 + w32 l.kd = 0 := by unfold w32; rw [if_neg h32]
        have HW := hide hw
        have hcur := sens_cur K.fns (nd l cc) [] cn 0 false fl
        have HN := hide (HNd.out h20)
        have HF2 := hide ((HDr.out.trans (congrArg fnsOf HD.out)).trans (fnsOf_st x y l cc r h20))
        have hnil : sens K.fns (.node x y l cc .nil) [] cn 0 false fl = sens K.fns (nd l cc) [] cn 0 false fl := by rw [sens_xy, sens]
        have hsx := ((congrArg (fun q => sensT K.fns q ((K.fns.take n).map (·.1)) cn fl) HD.out).symm.trans HSe.out)
        rw [sensT_st K.fns x y l cc r _ cn fl h20, hnil] at hsx
        have HSx := hide hsx
        have HB1 := hide (beld_new HSt.out (.cells #[.string ⟨(isS l.kd).toArray⟩, .int .i64 ln', .string ⟨S'.toArray⟩, .int .i64 mm, .slice va2 vn2 vc2, .slice pa2 pn2 pc2] 41))
        have HSt1 := hide (HSt.out.keep (fun g hl => Below.heap_alloc _ _ _ hl) HB1.out)
        have HRt1 := hide (HRt.out.keep (w' := wr.alloc (.cells #[.string ⟨(isS l.kd).toArray⟩, .int .i64 ln', .string ⟨S'.toArray⟩, .int .i64 mm, .slice va2 vn2 vc2, .slice pa2 pn2 pc2] 41)) (D' := D) (fun g hg hl => ⟨Below.heap_alloc _ _ _ hl, hg⟩))
        clear hw hnil hsx h32 h140 hok
        have HK20 := hide h20
        clear h20
        go_wp2_with fail
        refine (HN.out D _ [] [] cn 0 0 false fl ln' mm S' va2 vn2 vc2 pa2 pn2 pc2 c2 (by rw [HW.out]; exact HSt1.out) HRt1.out (by simp only [List.nil_append]; omega) (by omega) (by omega)).mono ?_
        rintro e w3 ⟨rfl, hs3, hbl3⟩
        rw [HW.out] at hs3
        have HSt3 := hide hs3
        have HB3 : Hid (BelD D w w3) := HBel.out.trans (HB1.out.trans hbl3)
        clear hs3 hbl3
        go_wp2
        go_roundg (gk - 1)
        case measure => omega
        case rel => exact ⟨i + 1, n, _, _, rfl, rfl, by omega, by omega, by rw [HDs.out]; omega, HSt3.out, by rw [HDs.out]; exact HF2.out, by rw [HDs.out]; exact HSx.out, HB3.out⟩
    · have HE : Hid (fl = sensT K.fns c [] [] f) := by
        have h0 : dropT i c = .nil := blen_zero _ (by rw [dropT_len]; omega)
        have := HSe.out
        rw [h0] at this
        exact this
      clear HSe
      go_wp2
      go_end0
      rw [← HE.out]
      exact ⟨rfl, cn, HSt.out, HBel.out⟩
end Go.Proofs.YtgccmgjbbcndbaaGreatDoor
/- Walk of gambitref.Compile: a text that is too long, or that has a place that is no token. -/
namespace Go.Proofs.YtgccmgjbbcndbaaGreatDoor
open Go.RowKit
open Go.Deep (BT)

theorem blk2 {w : World} {g : Nat} {a0 a1 : Value} {t : TypeId} (h : w.heap[g]? = some (.cells #[a0, a1] t (0, 0))) :
    w.cell? ⟨g, 0, none⟩ = some a0 ∧ w.cell? ⟨g, 1, none⟩ = some a1 ∧ (∀ o, w.frozen? ⟨g, o, none⟩ = false) ∧ g < w.heap.size :=
  ⟨cell_row h 0 _ rfl, cell_row h 1 _ rfl, frozen_row h, heap_lt h⟩

set_option maxRecDepth 100000 in
set_option maxHeartbeats 400000 in
theorem compile_long (l : List UInt8) (w : World) (hl : 2000 < l.length) :
    Calls Tryz.prog 6 #[.string ⟨l.toArray⟩] w fun e w' => e = .returned (.tuple #[.pointer none, .agg #[.int .i64 1, .int .i64 0]]) ∧ Below w.heap.size w w' := by
  have hl' : 2000 < (l.length : Int) := by omega
  have t : decide (2000 < (l.length : Int)) = true := decide_eq_true hl'
  clear hl hl'
  go_enter Tryz.func6, Tryz.ntmps6
  go_wp2
  refine bodyPost_ret (v := .tuple #[.pointer none, .agg #[.int .i64 1, .int .i64 0]]) (by simp [results, Tryz.results6, go_sem]) rfl ⟨rfl, ?_⟩
  repeat (first | exact Below.refl _ _ | refine Below.alloc ?_ (by simp) _ | refine Below.setCell ?_ (by simp) _ | refine Below.drew ?_)

set_option maxRecDepth 100000 in
set_option maxHeartbeats 400000 in
theorem compile_bad (l : List UInt8) (w : World) (hl : l.length ≤ 2000) (n : Nat) (hn : lex (l.length + 1) l 1 false = .inl n) (h1 : 1 ≤ n) (h2 : n ≤ 2001) :
    Calls Tryz.prog 6 #[.string ⟨l.toArray⟩] w fun e w' => e = .returned (.tuple #[.pointer none, .agg #[.int .i64 2, .int .i64 n]]) ∧ Below w.heap.size w w' := by
  have t : decide (2000 < (l.length : Int)) = false := decide_eq_false (by omega)
  have t2 : decide (0 < (n : Int)) = true := decide_eq_true (by omega)
  have HN := hide hn
  have HC := hide (fun w => tokens_any l w (by omega))
  clear hn
  go_enter Tryz.func6, Tryz.ntmps6
  go_wp2_with fail
  refine (HC.out _).mono ?_
  rintro e w' ⟨v, k, rfl, ho, hbel⟩
  rw [HN.out] at ho
  obtain rfl : k = n := ho
  have hR := bblk hbel (heap_alloc_new w (.cells #[.int .i64 0, .int .i64 0] 29))
  obtain ⟨x0, x1, fX, lX⟩ := blk2 hR
  have HBel : Hid (Below w.heap.size w w') := Below.trans (Below.alloc (Below.refl _ _) (Nat.le_refl _) _) (hbel.mono (by simp))
  clear hbel HC hR
  go_wp2
  refine bodyPost_ret (v := .tuple #[.pointer none, .agg #[.int .i64 2, .int .i64 (k : Nat)]]) (by simp [results, Tryz.results6, go_sem, x0, x1]) rfl ⟨rfl, ?_⟩
  repeat (first | exact HBel.out | refine Below.alloc ?_ (by simp) _ | refine Below.setCell ?_ (by simp) _ | refine Below.drew ?_)
end Go.Proofs.YtgccmgjbbcndbaaGreatDoor
/- Walk of gambitref.Compile: tokens that are no program. -/
namespace Go.Proofs.YtgccmgjbbcndbaaGreatDoor
open Go.RowKit
open Go.Deep (BT)

theorem toks_of {xs : List (Tk × List UInt8)} {ts : List Tk} (hm : xs.map (·.1) = ts) (hk : tkOk xs) (hl : ts.length ≤ 2001) (ho : LexOk 1 2000 ts) : Toks xs := by
  subst hm
  rw [List.length_map] at hl
  refine ⟨hk, by omega, fun i h => ?_, fun x hx => ?_⟩
  · have := LexOk.last _ ho i (by rw [List.length_map]; exact h)
    simpa using this
  · have := LexOk.mem _ ho x.1 (List.mem_map.mpr ⟨x, hx, rfl⟩)
    exact ⟨this.1, by omega, this.2.2⟩
theorem LexOk.pos {line m : Nat} {ts : List Tk} (h : LexOk line m ts) : 0 < ts.length := by
  cases ts with
  | nil => exact absurd h id
  | cons x r => simp

theorem own_slice {w : World} {base : Nat} {e : TypeId} {size : Nat} {v : Value} {n : Nat} {xs : List Value} (h : w.ownsRow base e size v n xs) (hn : 0 < n) :
    ∃ g cap cur, v = .slice (some ⟨g, 0, none⟩) n cap ∧ base ≤ g ∧ w.heap[g]? = some (.cells cur e (0, 0)) ∧ n ≤ cap ∧ cur.toList.take (n * size) = xs := by
  obtain ⟨hl, ⟨h2, h3⟩ | ⟨g, cap, cur, hv, hb, hg, hcap, _, _, ht⟩⟩ := h
  · omega
  · exact ⟨g, cap, cur, hv, hb, hg, hcap, ht⟩

set_option maxRecDepth 100000 in
set_option maxHeartbeats 400000 in
theorem compile_syn (l : List UInt8) (w : World) (hl : l.length ≤ 2000) (ts : List Tk) (hn : lex (l.length + 1) l 1 false = .inr ts) (h1 : ts.length ≤ 2001) (h2 : LexOk 1 2000 ts) (r : BT Lab × PS) (hr : pars 100000 10 0 .nil ⟨ts, 0⟩ = some r) (hb : r.2.bad ≠ 0) :
    Calls Tryz.prog 6 #[.string ⟨l.toArray⟩] w fun e w' => e = .returned (.tuple #[.pointer none, .agg #[.int .i64 2, .int .i64 (r.2.bad : Nat)]]) ∧ Below w.heap.size w w' := by
  have t : decide (2000 < (l.length : Int)) = false := decide_eq_false (by omega)
  have HN := hide hn
  have HC := hide (fun w => tokens_any l w (by omega))
  have HR := hide hr
  clear hn hr
  go_enter Tryz.func6, Tryz.ntmps6
  go_wp2_with fail
  refine (HC.out _).mono ?_
  rintro e w1 ⟨v, k, rfl, ho, hbel⟩
  rw [HN.out] at ho
  obtain ⟨rfl, xs, hxm, hxk, hown⟩ := ho
  have hxl : ts.length = xs.length := by rw [← hxm]; simp
  have hpos := h2.pos
  obtain ⟨g, cap, cur, rfl, hg1, hg2, hg3, hg4⟩ := own_slice hown (by omega)
  have hT := toks_of hxm hxk h1 h2
  have hR := bblk hbel (heap_alloc_new w (.cells #[.int .i64 0, .int .i64 0] 29))
  obtain ⟨x0, x1, fX, lX⟩ := blk2 hR
  have HRb := hide hR
  have HBel : Hid (Below w.heap.size w w1) := Below.trans (Below.alloc (Below.refl _ _) (Nat.le_refl _) _) (hbel.mono (by simp))
  have HG := hide hg2
  have lg := heap_lt hg2
  have HRS : Hid (RS w1.heap.size g cap 61 xs (w1.alloc (.cells #[.slice (some ⟨g, 0, none⟩) xs.length cap, .int .i64 0, .int .i64 0] 61)) ⟨ts, 0⟩) := by
    refine ⟨0, hT, heap_alloc_new w1 _, ⟨cur, alloc_old hg2, hg4⟩, by omega, by omega, hg3, fun _ => by rw [← hxm]; rfl, fun e => absurd rfl e⟩
  clear hbel HC hR hown hg2 hg4 hxk hT
  go_wp2_with fail
  refine (prog_any (by decide) _ _ r HRS.out HR.out).mono ?_
  rintro e w2 ⟨va, vn, vc, n, cs, rfl, hown, _, hrs, honly, _⟩
  have hRr := honly.blk (alloc_old (o' := .cells #[.slice (some ⟨g, 0, none⟩) xs.length cap, .int .i64 0, .int .i64 0] 61) HRb.out) (by omega)
  obtain ⟨hbc, hbl⟩ := hrs.badCell
  have lb : w1.heap.size < w2.heap.size := by have := honly.size; simp at this; omega
  have t2 : decide (0 < (r.2.bad : Int)) = true := decide_eq_true (by omega)
  have HB2 : Hid (Below w.heap.size w w2) := HBel.out.trans (Below.trans (b := w1.alloc (.cells #[.slice (some ⟨g, 0, none⟩) xs.length cap, .int .i64 0, .int .i64 0] 61)) (Below.alloc (Below.refl _ _) (by omega) _) ⟨honly.os, honly.tape, honly.output, honly.size, fun k hk => honly.block k (by simp; omega) (by omega)⟩)
  clear x0 x1 fX lX HRS honly hrs hown
  obtain ⟨x0, x1, fX, lX⟩ := blk2 hRr
  clear hRr
  generalize hbad : r.2.bad = bad at *
  have HBad := hide hbad
  clear hbad
  go_wp2
  go_region
  all_goals go_wp2
  all_goals refine bodyPost_ret (v := .tuple #[.pointer none, .agg #[.int .i64 2, .int .i64 (bad : Nat)]]) (by simp [results, Tryz.results6, go_sem, x0, x1, lX]) rfl ⟨by rw [HBad.out], ?_⟩
  all_goals repeat (first | exact HB2.out | refine Below.alloc ?_ (by simp; omega) _ | refine Below.setCell ?_ (by simp) _ | refine Below.drew ?_)
end Go.Proofs.YtgccmgjbbcndbaaGreatDoor
/- Walk of gambitref.Compile: too deep. -/
namespace Go.Proofs.YtgccmgjbbcndbaaGreatDoor
open Go.RowKit
open Go.Deep (BT)

set_option maxRecDepth 100000 in
set_option maxHeartbeats 400000 in
theorem compile_deep (l : List UInt8) (w : World) (hl : l.length ≤ 2000) (ts : List Tk) (hn : lex (l.length + 1) l 1 false = .inr ts) (h1 : ts.length ≤ 2001) (h2 : LexOk 1 2000 ts) (r : BT Lab × PS) (hr : pars 100000 10 0 .nil ⟨ts, 0⟩ = some r) (hb : r.2.bad = 0) (hd : nest ts 0 ≠ 0) :
    Calls Tryz.prog 6 #[.string ⟨l.toArray⟩] w fun e w' => e = .returned (.tuple #[.pointer none, .agg #[.int .i64 1, .int .i64 (nest ts 0 : Nat)]]) ∧ Below w.heap.size w w' := by
  have t : decide (2000 < (l.length : Int)) = false := decide_eq_false (by omega)
  have HN := hide hn
  have HC := hide (fun w => tokens_any l w (by omega))
  have HR := hide hr
  have hdl : nest ts 0 ≤ 2001 := nest_le ts 0 (fun t ht => by have := LexOk.mem _ h2 t ht; omega)
  clear hn hr
  go_enter Tryz.func6, Tryz.ntmps6
  go_wp2_with fail
  refine (HC.out _).mono ?_
  rintro e w1 ⟨v, k, rfl, ho, hbel⟩
  rw [HN.out] at ho
  obtain ⟨rfl, xs, hxm, hxk, hown⟩ := ho
  have hxl : ts.length = xs.length := by rw [← hxm]; simp
  have hpos := h2.pos
  obtain ⟨g, cap, cur, rfl, hg1, hg2, hg3, hg4⟩ := own_slice hown (by omega)
  have hT := toks_of hxm hxk h1 h2
  have hR := bblk hbel (heap_alloc_new w (.cells #[.int .i64 0, .int .i64 0] 29))
  obtain ⟨x0, x1, fX, lX⟩ := blk2 hR
  have HRb := hide hR
  have HBel : Hid (Below w.heap.size w w1) := Below.trans (Below.alloc (Below.refl _ _) (Nat.le_refl _) _) (hbel.mono (by simp))
  have HG := hide hg2
  have lg := heap_lt hg2
  have HTk := hide hT
  have HG4 := hide hg4
  have HXm := hide hxm
  have HRS : Hid (RS w1.heap.size g cap 61 xs (w1.alloc (.cells #[.slice (some ⟨g, 0, none⟩) xs.length cap, .int .i64 0, .int .i64 0] 61)) ⟨ts, 0⟩) := by
    refine ⟨0, hT, heap_alloc_new w1 _, ⟨cur, alloc_old hg2, hg4⟩, by omega, by omega, hg3, fun _ => by rw [← hxm]; rfl, fun e => absurd rfl e⟩
  clear hbel HC hR hown hg2 hg4 hxk hT
  go_wp2_with fail
  refine (prog_any (by decide) _ _ r HRS.out HR.out).mono ?_
  rintro e w2 ⟨va, vn, vc, n, cs, rfl, hown, _, hrs, honly, _⟩
  have hRr := honly.blk (alloc_old (o' := .cells #[.slice (some ⟨g, 0, none⟩) xs.length cap, .int .i64 0, .int .i64 0] 61) HRb.out) (by omega)
  obtain ⟨hbc, hbl⟩ := hrs.badCell
  rw [hb] at hbc
  clear hbl
  have lb : w1.heap.size < w2.heap.size := by have := honly.size; simp at this; omega
  have HB2 : Hid (Below w.heap.size w w2) := HBel.out.trans (Below.trans (b := w1.alloc (.cells #[.slice (some ⟨g, 0, none⟩) xs.length cap, .int .i64 0, .int .i64 0] 61)) (Below.alloc (Below.refl _ _) (by omega) _) ⟨honly.os, honly.tape, honly.output, honly.size, fun k hk => honly.block k (by simp; omega) (by omega)⟩)
  have HG2 := hide (honly.blk (alloc_old (o' := .cells #[.slice (some ⟨g, 0, none⟩) xs.length cap, .int .i64 0, .int .i64 0] 61) HG.out) (by omega))
  have HRow : Hid (TokRow g cap xs (w2.alloc (.cells #[.slice va vn vc, .slice none 0 0] 38))) := ⟨HTk.out, ⟨cur, alloc_old HG2.out, HG4.out⟩, hg3⟩
  clear x0 x1 fX lX HRS honly hrs hown
  obtain ⟨x0, x1, fX, lX⟩ := blk2 hRr
  have HRr := hide hRr
  clear hRr hxm
  go_wp2_with fail
  refine (nested_any _ HRow.out).mono ?_
  rintro e w3 ⟨rfl, hbel3⟩
  rw [HXm.out]
  have hR3 := bblk hbel3 (alloc_old HRr.out)
  have HB3 : Hid (Below w.heap.size w w3) := HB2.out.trans (Below.trans (Below.alloc (Below.refl _ _) (by omega) _) (hbel3.mono (by simp; omega)))
  clear x0 x1 fX lX hbc hbel3
  obtain ⟨x0, x1, fX, lX⟩ := blk2 hR3
  clear hR3
  generalize hdd : nest ts 0 = dd at *
  have HDd := hide hdd
  clear hdd
  have t2 : decide (0 < (dd : Int)) = true := decide_eq_true (by omega)
  go_wp2
  all_goals refine bodyPost_ret (v := .tuple #[.pointer none, .agg #[.int .i64 1, .int .i64 (dd : Nat)]]) (by simp [results, Tryz.results6, go_sem, x0, x1]) rfl ⟨by rw [HDd.out], ?_⟩
  all_goals repeat (first | exact HB3.out | refine Below.alloc ?_ (by simp; omega) _ | refine Below.setCell ?_ (by simp) _ | refine Below.drew ?_)
end Go.Proofs.YtgccmgjbbcndbaaGreatDoor
/- The functions' row that Compile gathers: laws on the heap. -/
namespace Go.Proofs.YtgccmgjbbcndbaaGreatDoor
open Go.RowKit
open Go.Deep (BT)

theorem own_set {w : World} {base : Nat} {e : TypeId} {size g n cap : Nat} {xs : List Value} (h : w.ownsRow base e size (.slice (some ⟨g, 0, none⟩) n cap) n xs) (j : Nat) (u : Value) :
    (w.setCell ⟨g, j, none⟩ u).ownsRow base e size (.slice (some ⟨g, 0, none⟩) n cap) n (xs.set j u) := by
  obtain ⟨hl, ⟨h2, h3⟩ | ⟨g', cap', cur, hv, hb, hg, hcap, hm, hs, ht⟩⟩ := h
  · cases h2
  · cases hv
    refine ⟨by rw [List.length_set]; exact hl, .inr ⟨g, cap, _, rfl, hb, heap_set hg u, hcap, hm, by simp [hs], ?_⟩⟩
    rw [← ht, Array.toList_setIfInBounds, List.take_set]

theorem own_set6 {w : World} {base : Nat} {e : TypeId} {g m n cap : Nat} {cs : List Value} {z0 z1 z2 z3 z4 z5 : Value} (hm : cs.length = m * 6) (h : w.ownsRow base e 6 (.slice (some ⟨g, 0, none⟩) n cap) n (cs ++ [z0, z1, z2, z3, z4, z5])) (u0 u1 u2 u3 u4 u5 : Value) :
    ((((((w.setCell ⟨g, m * 6, none⟩ u0).setCell ⟨g, m * 6 + 1, none⟩ u1).setCell ⟨g, m * 6 + 2, none⟩ u2).setCell ⟨g, m * 6 + 3, none⟩ u3).setCell ⟨g, m * 6 + 4, none⟩ u4).setCell ⟨g, m * 6 + 5, none⟩ u5).ownsRow base e 6 (.slice (some ⟨g, 0, none⟩) n cap) n (cs ++ [u0, u1, u2, u3, u4, u5]) := by
  have h6 := own_set (own_set (own_set (own_set (own_set (own_set h (m * 6) u0) (m * 6 + 1) u1) (m * 6 + 2) u2) (m * 6 + 3) u3) (m * 6 + 4) u4) (m * 6 + 5) u5
  have hx : (((((((cs ++ [z0, z1, z2, z3, z4, z5]).set (m * 6) u0).set (m * 6 + 1) u1).set (m * 6 + 2) u2).set (m * 6 + 3) u3).set (m * 6 + 4) u4).set (m * 6 + 5) u5) = cs ++ [u0, u1, u2, u3, u4, u5] := by
    rw [← hm]
    simp
  rw [hx] at h6
  exact h6

def fnAt (fs : List (Nm × Nat)) (cs : List Value) : Prop := ∀ j (_ : j < fs.length), cs[j * 6 + 2]? = some (.string ⟨fs[j].1.toArray⟩) ∧ ∃ pa pc, cs[j * 6 + 5]? = some (.slice pa fs[j].2 pc)

theorem fnAt_app {fs : List (Nm × Nat)} {cs : List Value} (h : fnAt fs cs) (hl : cs.length = fs.length * 6) (s : Nm) (n : Nat) (u0 u1 u3 u4 : Value) (pa : Option Addr) (pc : Nat) : fnAt (fs ++ [(s, n)]) (cs ++ [u0, u1, .string ⟨s.toArray⟩, u3, u4, .slice pa n pc]) := by
  intro j hj
  by_cases hlt : j < fs.length
  · obtain ⟨k1, qa, qc, k2⟩ := h j hlt
    rw [List.getElem_append_left hlt, List.getElem?_append_left (by omega), List.getElem?_append_left (by omega)]
    exact ⟨k1, qa, qc, k2⟩
  · have hje : j = fs.length := by simp at hj; omega
    subst hje
    rw [List.getElem_append_right (Nat.le_refl _), List.getElem?_append_right (by omega), List.getElem?_append_right (by omega), hl]
    simp

structure FnI (W : World) (pb : Nat) (va : Option Addr) (vn vc : Nat) (fs : List (Nm × Nat)) (wr : World) (fa : Option Addr) (fc : Nat) (cs : List Value) : Prop where
  cell : wr.heap[pb]? = some (.cells #[.slice va vn vc, .slice fa fs.length fc] 38 (0, 0))
  own : wr.ownsRow 0 41 6 (.slice fa fs.length fc) fs.length cs
  at' : fnAt fs cs
  lo : ∀ g, (Value.slice fa fs.length fc).ownBlock = some g → W.heap.size ≤ g
  only : Only pb W wr

def zNd : Array Value := #[.string ⟨#[]⟩, .int .i64 0, .string ⟨#[]⟩, .int .i64 0, .slice none 0 0, .slice none 0 0]

theorem zNd_one : ∀ u ∈ zNd.toList, u.oneCell' = true := by
  intro u hu
  simp only [zNd, List.mem_cons, List.not_mem_nil, or_false] at hu
  rcases hu with rfl | rfl | rfl | rfl | rfl | rfl <;> rfl
theorem lt_one (m : Nat) : (m : Int) < (m : Int) + 1 := by omega

/- what stands behind the append of an empty Node -/
structure FnM (W : World) (pb : Nat) (va : Option Addr) (vn vc : Nat) (fs : List (Nm × Nat)) (w2 : World) (fa : Option Addr) (fc : Nat) (cs : List Value) (g2 cap2 : Nat) : Prop where
  cell : w2.heap[pb]? = some (.cells #[.slice va vn vc, .slice fa fs.length fc] 38 (0, 0))
  own : w2.ownsRow 0 41 6 (.slice (some ⟨g2, 0, none⟩) (fs.length + 1) cap2) (fs.length + 1) (cs ++ zNd.toList)
  len : cs.length = fs.length * 6
  at' : fnAt fs cs
  lo : W.heap.size ≤ g2
  ne : g2 ≠ pb
  only : Only pb W w2

theorem FnI.mid {W : World} {pb : Nat} {va : Option Addr} {vn vc : Nat} {fs : List (Nm × Nat)} {wr w2 : World} {fa : Option Addr} {fc : Nat} {cs : List Value} {g2 cap2 : Nat} (h : FnI W pb va vn vc fs wr fa fc cs) (hpb : pb < W.heap.size)
    (hown : w2.ownsRow 0 41 6 (.slice (some ⟨g2, 0, none⟩) (fs.length + 1) cap2) (fs.length + 1) (cs ++ zNd.toList))
    (hgrow : (wr.alloc (.cells zNd 41)).grownBy w2 (Value.slice fa fs.length fc).ownBlock) (hat : (Value.slice fa fs.length fc).ownBlock = some g2 ∨ g2 = (wr.alloc (.cells zNd 41)).heap.size) : FnM W pb va vn vc fs w2 fa fc cs g2 cap2 := by
  have hs := h.only.size
  have hs2 := hgrow.size
  rw [World.size_alloc] at hs2
  have hk : ∀ k, k < W.heap.size → w2.heap[k]? = wr.heap[k]? := fun k hk => (hgrow.block k (by simp; omega) (fun e => by have := h.lo k e.symm; omega)).trans (Below.heap_alloc _ _ _ (by omega))
  have hg2 : W.heap.size ≤ g2 := by
    rcases hat with e | e
    · exact h.lo g2 e
    · rw [e, World.size_alloc]; omega
  exact ⟨(hk pb hpb).trans h.cell, hown, h.own.1, h.at', hg2, by omega, ⟨hgrow.os.trans h.only.os, hgrow.tape.trans h.only.tape, hgrow.output.trans h.only.output, by omega, fun k h1 h2 => (hk k h1).trans (h.only.block k h1 h2)⟩⟩

theorem FnM.zs {W : World} {pb : Nat} {va : Option Addr} {vn vc : Nat} {fs : List (Nm × Nat)} {w2 : World} {fa : Option Addr} {fc : Nat} {cs : List Value} {g2 cap2 : Nat} (h : FnM W pb va vn vc fs w2 fa fc cs g2 cap2) :
    w2.cell? ⟨g2, fs.length * 6, none⟩ = some (.string ⟨#[]⟩) ∧ w2.cell? ⟨g2, fs.length * 6 + 1, none⟩ = some (.int .i64 0) ∧ w2.cell? ⟨g2, fs.length * 6 + 2, none⟩ = some (.string ⟨#[]⟩) ∧ w2.cell? ⟨g2, fs.length * 6 + 3, none⟩ = some (.int .i64 0) ∧ w2.cell? ⟨g2, fs.length * 6 + 4, none⟩ = some (.slice none 0 0) ∧ w2.cell? ⟨g2, fs.length * 6 + 5, none⟩ = some (.slice none 0 0) := by
  obtain ⟨g, k1, _, _, _, k5⟩ := own_row h.own (by omega)
  cases k1
  have hl := h.len
  have hz : ∀ k, (cs ++ zNd.toList)[fs.length * 6 + k]? = zNd.toList[k]? := fun k => by rw [List.getElem?_append_right (by omega), hl, Nat.add_sub_cancel_left]
  exact ⟨k5 _ _ (hz 0), k5 _ _ (hz 1), k5 _ _ (hz 2), k5 _ _ (hz 3), k5 _ _ (hz 4), k5 _ _ (hz 5)⟩
theorem FnM.frz {W : World} {pb : Nat} {va : Option Addr} {vn vc : Nat} {fs : List (Nm × Nat)} {w2 : World} {fa : Option Addr} {fc : Nat} {cs : List Value} {g2 cap2 : Nat} (h : FnM W pb va vn vc fs w2 fa fc cs g2 cap2) : ∀ o, w2.frozen? ⟨g2, o, none⟩ = false := by
  obtain ⟨hl, ⟨h2, h3⟩ | ⟨g', cap', cur, hv, hb, hg, hcap, hm, hs, ht⟩⟩ := h.own
  · omega
  · cases hv; exact frozen_row hg
theorem FnM.lt {W : World} {pb : Nat} {va : Option Addr} {vn vc : Nat} {fs : List (Nm × Nat)} {w2 : World} {fa : Option Addr} {fc : Nat} {cs : List Value} {g2 cap2 : Nat} (h : FnM W pb va vn vc fs w2 fa fc cs g2 cap2) : g2 < w2.heap.size ∧ fs.length + 1 ≤ cap2 := by
  obtain ⟨g, k1, _, k3, k4, k5⟩ := own_row h.own (by omega)
  cases k1
  exact ⟨k4, k3⟩

theorem FnM.done1 {W : World} {pb : Nat} {va : Option Addr} {vn vc : Nat} {fs : List (Nm × Nat)} {w2 : World} {fa : Option Addr} {fc : Nat} {cs : List Value} {g2 cap2 : Nat} (h : FnM W pb va vn vc fs w2 fa fc cs g2 cap2) (u0 u1 u3 u4 : Value) (s : Nm) (n : Nat) (pa : Option Addr) (pc : Nat) :
    FnI W pb va vn vc (fs ++ [(s, n)]) (((((((w2.setCell ⟨g2, fs.length * 6, none⟩ u0).setCell ⟨g2, fs.length * 6 + 1, none⟩ u1).setCell ⟨g2, fs.length * 6 + 2, none⟩ (.string ⟨s.toArray⟩)).setCell ⟨g2, fs.length * 6 + 3, none⟩ u3).setCell ⟨g2, fs.length * 6 + 4, none⟩ u4).setCell ⟨g2, fs.length * 6 + 5, none⟩ (.slice pa n pc)).setCell ⟨pb, 1, none⟩ (.slice (some ⟨g2, 0, none⟩) (fs.length + 1) cap2)) (some ⟨g2, 0, none⟩) cap2 (cs ++ [u0, u1, .string ⟨s.toArray⟩, u3, u4, .slice pa n pc]) := by
  have hne := h.ne
  have hlen : (fs ++ [(s, n)]).length = fs.length + 1 := by simp
  refine ⟨?_, ?_, fnAt_app h.at' h.len s n u0 u1 u3 u4 pa pc, ?_, ?_⟩
  · rw [hlen]
    have := heap_set (j := 1) (set_old (set_old (set_old (set_old (set_old (set_old h.cell (p := ⟨g2, fs.length * 6, none⟩) (u := u0) (by exact hne.symm)) (p := ⟨g2, fs.length * 6 + 1, none⟩) (u := u1) (by exact hne.symm)) (p := ⟨g2, fs.length * 6 + 2, none⟩) (u := (.string ⟨s.toArray⟩)) (by exact hne.symm)) (p := ⟨g2, fs.length * 6 + 3, none⟩) (u := u3) (by exact hne.symm)) (p := ⟨g2, fs.length * 6 + 4, none⟩) (u := u4) (by exact hne.symm)) (p := ⟨g2, fs.length * 6 + 5, none⟩) (u := .slice pa n pc) (by exact hne.symm)) (.slice (some ⟨g2, 0, none⟩) (fs.length + 1) cap2)
    simpa using this
  · rw [hlen]
    have := own_set6 h.len (show w2.ownsRow 0 41 6 (.slice (some ⟨g2, 0, none⟩) (fs.length + 1) cap2) (fs.length + 1) (cs ++ [.string ⟨#[]⟩, .int .i64 0, .string ⟨#[]⟩, .int .i64 0, .slice none 0 0, .slice none 0 0]) from h.own) u0 u1 (.string ⟨s.toArray⟩) u3 u4 (.slice pa n pc)
    exact own_same this (fun k hk _ => Below.heap_setCell _ _ _ _ (by simp only [Value.ownBlock, Option.some.injEq] at hk; rw [← hk]; exact hne))
  · intro g e
    simp only [Value.ownBlock, Option.some.injEq] at e
    rw [← e]; exact h.lo
  · exact Only.set (Only.set (Only.set (Only.set (Only.set (Only.set (Only.set h.only (.inr h.lo) _) (.inr h.lo) _) (.inr h.lo) _) (.inr h.lo) _) (.inr h.lo) _) (.inr h.lo) _) (.inl rfl) _

theorem FnM.done2 {W : World} {pb : Nat} {va : Option Addr} {vn vc : Nat} {fs : List (Nm × Nat)} {w2 : World} {fa : Option Addr} {fc : Nat} {cs : List Value} {g2 cap2 : Nat} (h : FnM W pb va vn vc fs w2 fa fc cs g2 cap2) (u0 u1 u3 u4 : Value) (s : Nm) (n : Nat) (pa : Option Addr) (pc : Nat) :
    FnI W pb va vn vc (fs ++ [(s, n)]) (((((((w2.setCell ⟨pb, 1, none⟩ (.slice (some ⟨g2, 0, none⟩) (fs.length + 1) cap2)).setCell ⟨g2, fs.length * 6, none⟩ u0).setCell ⟨g2, fs.length * 6 + 1, none⟩ u1).setCell ⟨g2, fs.length * 6 + 2, none⟩ (.string ⟨s.toArray⟩)).setCell ⟨g2, fs.length * 6 + 3, none⟩ u3).setCell ⟨g2, fs.length * 6 + 4, none⟩ u4).setCell ⟨g2, fs.length * 6 + 5, none⟩ (.slice pa n pc)) (some ⟨g2, 0, none⟩) cap2 (cs ++ [u0, u1, .string ⟨s.toArray⟩, u3, u4, .slice pa n pc]) := by
  have hne := h.ne
  have hlen : (fs ++ [(s, n)]).length = fs.length + 1 := by simp
  have hc : (w2.setCell ⟨pb, 1, none⟩ (.slice (some ⟨g2, 0, none⟩) (fs.length + 1) cap2)).heap[pb]? = some (.cells #[.slice va vn vc, .slice (some ⟨g2, 0, none⟩) (fs.length + 1) cap2] 38 (0, 0)) := by
    have := heap_set (j := 1) h.cell (.slice (some ⟨g2, 0, none⟩) (fs.length + 1) cap2)
    simpa using this
  refine ⟨?_, ?_, fnAt_app h.at' h.len s n u0 u1 u3 u4 pa pc, ?_, ?_⟩
  · rw [hlen]
    exact set_old (set_old (set_old (set_old (set_old (set_old hc (p := ⟨g2, fs.length * 6, none⟩) (u := u0) (by exact hne.symm)) (p := ⟨g2, fs.length * 6 + 1, none⟩) (u := u1) (by exact hne.symm)) (p := ⟨g2, fs.length * 6 + 2, none⟩) (u := (.string ⟨s.toArray⟩)) (by exact hne.symm)) (p := ⟨g2, fs.length * 6 + 3, none⟩) (u := u3) (by exact hne.symm)) (p := ⟨g2, fs.length * 6 + 4, none⟩) (u := u4) (by exact hne.symm)) (p := ⟨g2, fs.length * 6 + 5, none⟩) (u := .slice pa n pc) (by exact hne.symm)
  · rw [hlen]
    have h1 : (w2.setCell ⟨pb, 1, none⟩ (.slice (some ⟨g2, 0, none⟩) (fs.length + 1) cap2)).ownsRow 0 41 6 (.slice (some ⟨g2, 0, none⟩) (fs.length + 1) cap2) (fs.length + 1) (cs ++ [.string ⟨#[]⟩, .int .i64 0, .string ⟨#[]⟩, .int .i64 0, .slice none 0 0, .slice none 0 0]) := own_same h.own (fun k hk _ => Below.heap_setCell _ _ _ _ (by simp only [Value.ownBlock, Option.some.injEq] at hk; rw [← hk]; exact hne))
    exact own_set6 h.len h1 u0 u1 (.string ⟨s.toArray⟩) u3 u4 (.slice pa n pc)
  · intro g e
    simp only [Value.ownBlock, Option.some.injEq] at e
    rw [← e]; exact h.lo
  · exact Only.set (Only.set (Only.set (Only.set (Only.set (Only.set (Only.set h.only (.inl rfl) _) (.inr h.lo) _) (.inr h.lo) _) (.inr h.lo) _) (.inr h.lo) _) (.inr h.lo) _) (.inr h.lo) _
end Go.Proofs.YtgccmgjbbcndbaaGreatDoor
/- What gambitref.Compile answers. -/
namespace Go.Proofs.YtgccmgjbbcndbaaGreatDoor
open Go.RowKit

def CrPost (l : List UInt8) (w : World) (e : Ending) (w' : World) : Prop :=
  Below w.heap.size w w' ∧ (((compileP l).1.1 ≠ 0 ∧ e = .returned (.tuple #[.pointer none, .agg #[.int .i64 ((compileP l).1.1 : Nat), .int .i64 ((compileP l).1.2 : Nat)]])) ∨
    ∃ fs pb la ln lc fa fc cs, compileP l = ((0, 0), fs) ∧ fs.length ≤ 100000 ∧ e = .returned (.tuple #[.pointer (some ⟨pb, 0, none⟩), .agg #[.int .i64 0, .int .i64 0]]) ∧ w.heap.size < pb ∧
      w'.heap[pb]? = some (.cells #[.slice la ln lc, .slice fa fs.length fc] 38 (0, 0)) ∧ w'.ownsRow 0 41 6 (.slice fa fs.length fc) fs.length cs ∧ fnAt fs cs ∧ (∀ g, (Value.slice fa fs.length fc).ownBlock = some g → w.heap.size < g))
end Go.Proofs.YtgccmgjbbcndbaaGreatDoor
