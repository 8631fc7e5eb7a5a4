import Derived.Test.YtgccmgjbbcndbaaGreatDoorM35
/- Walks of the code's parser: part, unary. -/
namespace Go.Proofs.YtgccmgjbbcndbaaGreatDoor
open Go.RowKit
open Go.Deep (BT)

def PaRel (b tb cap te : Nat) (ts : List Tk) (n : Nat) (r : BT Lab × PS) (w : World) (k : Nat) (v : Value) (wr : World) : Prop :=
  ∃ (acc : BT Lab) (st : PS) (ty : TypeId) (x : Value), v = .iface ty x ∧ k ≤ n ∧ pars k 3 0 acc st = some r ∧ PR b tb cap te ts wr st ∧ Only b w wr ∧ (st.bad = 0 → RepC (fun g => w.heap.size ≤ g) wr acc [.iface ty x])

set_option maxRecDepth 100000 in
set_option maxHeartbeats 4000000 in
theorem part_any {b tb cap te : Nat} {ts : List Tk} {n : Nat} (ih : ∀ m, m ≤ n → CodePars b tb cap te ts m) (w : World) (s : PS) (r : BT Lab × PS) (x : BT Lab × PS) (hs : PR b tb cap te ts w s) (hx : pars n 4 0 .nil s = some x) (hp : pars n 3 0 x.1 x.2 = some r) :
    Calls Tryz.prog 126 #[.pointer (some ⟨b, 0, none⟩)] w (ExPost b tb cap te ts w r) := by
  have HS := hide hs
  have lb := hs.lt
  have HP0 := hide hp
  have HX := hide (fun (W : World) (h : PR b tb cap te ts W s) => (ih n (Nat.le_refl _)).atom W s x h hx)
  have hf1 := cf1
  clear hp hs hx
  go_enter Tryz.func126, Tryz.ntmps126
  go_wp2_with fail
  refine (HX.out _ HS.out).mono ?_
  rintro e w1 ⟨ty1, x1, rfl, h1, ho1, hr1⟩
  have HP1 := hide ho1
  have HO1 : Hid (Only b w w1) := (Only.refl b w).trans HP1.out
  have lw1 := HO1.out.size
  have HR1 := hide hr1
  have H1 := hide h1
  clear h1 ho1 hr1
  go_wp2
  go_loopg [3] n (fun k v wr => PaRel b tb cap te ts n r w k v wr)
  case atStart => exact ⟨x.1, x.2, ty1, x1, rfl, Nat.le_refl _, HP0.out, H1.out, HO1.out, HR1.out⟩
  case round =>
    clear HP0 H1 HO1 HR1 HP1 HX HS lw1
    obtain ⟨acc, st, ty, x0, rfl, hkn, hpk, hrs, hO, hrep⟩ := hrel
    cases gk with
    | zero => exact absurd hpk (pars_zero _ _ _ _ _)
    | succ m =>
    have HRS := hide hrs
    have HOr := hide hO
    have HRep := hide hrep
    have lwr := hO.size
    by_cases c22 : kT st = 22
    · obtain ⟨z, hz1, hz2⟩ := pars_index c22 hpk
      have HZ2 := hide hz2
      have HZ1 := hide hz1
      have HX := hide (fun (W : World) (h : PR b tb cap te ts W (takeS st)) => pexpr_any (ih m (by omega)) W (takeS st) z h hz1)
      have tk : ((kT st : Int) == 22) = true := ke (c := 22) rfl c22
      have HB0 : Hid (st.bad = 0) := hrs.notEnd (by omega)
      clear hz1 hz2 c22 hpk hrs hO hrep
      go_wp2_with fail
      refine (kind_any HRS.out).mono ?_
      rintro e w4 ⟨rfl, h4, hb4⟩
      have HP4 := hide (Below.only (b := b) hb4)
      have HO4 : Hid (Only b wr w4) := (Only.refl b wr).trans HP4.out
      have lw4 := HO4.out.size
      have H4 := hide h4
      clear h4 hb4
      go_wp2_with fail
      refine (take_any H4.out).mono ?_
      rintro e w5 ⟨ln5, nn5, S5, rfl, htk5, h5, ho5⟩
      have HP5 := hide ho5
      have HO5 : Hid (Only b wr w5) := HO4.out.trans HP5.out
      have lw5 := HO5.out.size
      have HTk5 := hide htk5
      have H5 := hide h5
      clear h5 ho5 htk5
      go_wp2_with fail
      refine (HX.out _ H5.out).mono ?_
      rintro e w6 ⟨ty6, x6, rfl, h6, ho6, hr6⟩
      have HP6 := hide ho6
      have HO6 : Hid (Only b wr w6) := HO5.out.trans HP6.out
      have lw6 := HO6.out.size
      have HR6 := hide hr6
      have H6 := hide h6
      clear h6 ho6 hr6
      have HCl : Hid (ExPost b tb cap te ts w (nd (lab0 12 (hdT st).line) (bapp acc z.1), z.2) (.returned (.iface 200 (.pointer (some ⟨w6.heap.size, 0, none⟩)))) (w6.alloc (.cells #[.int .i64 ln5, .iface ty x0, .iface ty6 x6] 222))) := by
        refine ex_close (l := lab0 12 (hdT st).line) (ch := bapp acc z.1) (ks := [.iface ty x0, .iface ty6 x6]) H6.out (HOr.out.trans HO6.out) rfl (by simp [lab0]) rfl rfl (fun hb => ⟨⟨_, _, by rw [(HTk5.out HB0.out).1]; rfl, rfl⟩, ?_⟩)
        exact RepC.app _ _ [_] [_] (RepC.only (by omega) HO6.out (HRep.out HB0.out)) (RepC.weak (by omega) (HR6.out hb))
      have HClP := hide (PR.alloc H6.out (.cells #[.int .i64 ln5, .iface ty x0, .iface ty6 x6] 222))
      go_wp2_with fail
      refine (want_any HClP.out 23).mono ?_
      rintro e w7 ⟨kk7, ln7, nn7, S7, rfl, htk7, h7, ho7⟩
      have HP7 := hide ho7
      have HO7 : Hid (Only b wr w7) := (HO6.out.alloc _).trans HP7.out
      have lw7 := HO7.out.size
      have HTk7 := hide htk7
      have H7 := hide h7
      clear h7 ho7 htk7
      go_wp2
      go_roundg m
      case measure => omega
      case rel =>
        refine ⟨_, _, _, _, rfl, by omega, HZ2.out, H7.out, HOr.out.trans HO7.out, fun hb => ?_⟩
        obtain ⟨t', x', e', _, _, hrr⟩ := HCl.out
        injection e' with e'
        rw [← e'] at hrr
        exact RepC.only (by omega) HP7.out (hrr (want_goodC hb))
    · have HE := hide (pars_index0 c22 hpk)
      have tk : ((kT st : Int) == 22) = false := kn (c := 22) rfl c22
      clear c22 hpk hrs hO hrep
      go_wp2_with fail
      refine (kind_any HRS.out).mono ?_
      rintro e w4 ⟨rfl, h4, hb4⟩
      have HP4 := hide (Below.only (b := b) hb4)
      have HO4 : Hid (Only b wr w4) := (Only.refl b wr).trans HP4.out
      have lw4 := HO4.out.size
      have H4 := hide h4
      clear h4 hb4
      go_wp2
      go_ret
      rw [HE.out]
      exact ⟨_, _, rfl, H4.out, HOr.out.trans HO4.out, fun hb => RepC.only (by omega) HO4.out (HRep.out hb)⟩

set_option maxRecDepth 100000 in
set_option maxHeartbeats 4000000 in
theorem punary_any {b tb cap te : Nat} {ts : List Tk} {n : Nat} (ih : ∀ m, m ≤ n → CodePars b tb cap te ts m) (w : World) (s : PS) (r : BT Lab × PS) (hs : PR b tb cap te ts w s) (hp : pars (n + 1) 2 0 .nil s = some r) :
    Calls Tryz.prog 111 #[.pointer (some ⟨b, 0, none⟩)] w (ExPost b tb cap te ts w r) := by
  have HS := hide hs
  have lb := hs.lt
  by_cases c28 : kT s = 28
  · obtain ⟨x, hx, hr⟩ := pars_not c28 hp
    have HR := hide hr
    have HB0 : Hid (s.bad = 0) := hs.notEnd (by omega)
    have HX := hide (fun (W : World) (h : PR b tb cap te ts W (takeS s)) => (ih n (Nat.le_refl _)).unary W (takeS s) x h hx)
    have t28 : ((kT s : Int) == 28) = true := ke (c := 28) rfl c28
    have HK := hide c28
    clear hp hs hx hr c28
    go_enter Tryz.func111, Tryz.ntmps111
    go_wp2_with fail
    refine (kind_any HS.out).mono ?_
    rintro e w1 ⟨rfl, h1, hb1⟩
    have HP1 := hide (Below.only (b := b) hb1)
    have HO1 : Hid (Only b w w1) := (Only.refl b w).trans HP1.out
    have lw1 := HO1.out.size
    have H1 := hide h1
    clear h1 hb1
    go_wp2_with fail
    refine (take_any H1.out).mono ?_
    rintro e w2 ⟨ln2, nn2, S2, rfl, htk2, h2, ho2⟩
    have HP2 := hide ho2
    have HO2 : Hid (Only b w w2) := HO1.out.trans HP2.out
    have lw2 := HO2.out.size
    have HTk2 := hide htk2
    have H2 := hide h2
    clear h2 ho2 htk2
    have HT1 := hide (heap_alloc_new w2 (.cells #[.int .i64 (kT s : Nat), .int .i64 ln2, .string ⟨S2.toArray⟩, .int .i64 nn2] 93))
    have HTP := hide (PR.drew (PR.alloc H2.out (.cells #[.int .i64 (kT s : Nat), .int .i64 ln2, .string ⟨S2.toArray⟩, .int .i64 nn2] 93)))
    have HTO := hide ((HO2.out.alloc (.cells #[.int .i64 (kT s : Nat), .int .i64 ln2, .string ⟨S2.toArray⟩, .int .i64 nn2] 93)).drew)
    have hne : w2.heap.size ≠ b := by omega
    go_wp2
    generalize hW : w2.alloc (.cells #[.int .i64 (kT s : Nat), .int .i64 ln2, .string ⟨S2.toArray⟩, .int .i64 nn2] 93) = W2 at *
    have HW := hide hW
    clear hW
    generalize hgw : w2.heap.size = tk1 at *
    have HGw := hide hgw
    clear hgw
    obtain ⟨y0, y1, y2, y3, fy, ly⟩ := blk4 HT1.out
    have lW2 : w.heap.size ≤ W2.heap.size := HTO.out.size
    have HXd := hide (HX.out _ HTP.out)
    go_region_with (go_at_call 111; refine HXd.out.mono ?_; rintro e w9 ⟨ty9, x9, rfl, h9, ho9, hr9⟩; have hT3 := ho9.blk (show W2.drew.heap[tk1]? = _ from HT1.out) hne; obtain ⟨z0, z1, z2, z3, fz, lz⟩ := blk4 hT3; clear hT3)
    all_goals go_wp2
    all_goals go_ret
    all_goals rw [HR.out]
    all_goals refine ex_close (l := lab0 13 (hdT s).line) (ch := x.1) (ks := [.iface ty9 x9]) h9 (HTO.out.trans ho9) rfl (by simp [lab0]) rfl rfl (fun hb => ⟨⟨_, ?_, rfl⟩, RepC.weak (by show _ ≤ W2.heap.size; omega) (hr9 hb)⟩)
    all_goals rw [(HTk2.out HB0.out).1, HK.out]; rfl
  by_cases c35 : kT s = 35
  · obtain ⟨x, hx, hr⟩ := pars_neg c35 hp
    have HR := hide hr
    have HB0 : Hid (s.bad = 0) := hs.notEnd (by omega)
    have HX := hide (fun (W : World) (h : PR b tb cap te ts W (takeS s)) => (ih n (Nat.le_refl _)).unary W (takeS s) x h hx)
    have t28 : ((kT s : Int) == 28) = false := kn (c := 28) rfl c28
    have t35 : ((kT s : Int) == 35) = true := ke (c := 35) rfl c35
    have HK := hide c35
    clear hp hs hx hr c35 c28
    go_enter Tryz.func111, Tryz.ntmps111
    go_wp2_with fail
    refine (kind_any HS.out).mono ?_
    rintro e w1 ⟨rfl, h1, hb1⟩
    have HP1 := hide (Below.only (b := b) hb1)
    have HO1 : Hid (Only b w w1) := (Only.refl b w).trans HP1.out
    have lw1 := HO1.out.size
    have H1 := hide h1
    clear h1 hb1
    go_wp2_with fail
    refine (kind_any H1.out).mono ?_
    rintro e w2 ⟨rfl, h2, hb2⟩
    have HP2 := hide (Below.only (b := b) hb2)
    have HO2 : Hid (Only b w w2) := HO1.out.trans HP2.out
    have lw2 := HO2.out.size
    have H2 := hide h2
    clear h2 hb2
    go_wp2_with fail
    refine (take_any H2.out).mono ?_
    rintro e w3 ⟨ln3, nn3, S3, rfl, htk3, h3, ho3⟩
    have HP3 := hide ho3
    have HO3 : Hid (Only b w w3) := HO2.out.trans HP3.out
    have lw3 := HO3.out.size
    have HTk3 := hide htk3
    have H3 := hide h3
    clear h3 ho3 htk3
    have HT1 := hide (heap_alloc_new w3 (.cells #[.int .i64 (kT s : Nat), .int .i64 ln3, .string ⟨S3.toArray⟩, .int .i64 nn3] 93))
    have HTP := hide (PR.drew (PR.alloc H3.out (.cells #[.int .i64 (kT s : Nat), .int .i64 ln3, .string ⟨S3.toArray⟩, .int .i64 nn3] 93)))
    have HTO := hide ((HO3.out.alloc (.cells #[.int .i64 (kT s : Nat), .int .i64 ln3, .string ⟨S3.toArray⟩, .int .i64 nn3] 93)).drew)
    have hne : w3.heap.size ≠ b := by omega
    go_wp2
    generalize hW : w3.alloc (.cells #[.int .i64 (kT s : Nat), .int .i64 ln3, .string ⟨S3.toArray⟩, .int .i64 nn3] 93) = W2 at *
    have HW := hide hW
    clear hW
    generalize hgw : w3.heap.size = tk1 at *
    have HGw := hide hgw
    clear hgw
    obtain ⟨y0, y1, y2, y3, fy, ly⟩ := blk4 HT1.out
    have lW2 : w.heap.size ≤ W2.heap.size := HTO.out.size
    have HXd := hide (HX.out _ HTP.out)
    go_region_with (go_at_call 111; refine HXd.out.mono ?_; rintro e w9 ⟨ty9, x9, rfl, h9, ho9, hr9⟩; have hT3 := ho9.blk (show W2.drew.heap[tk1]? = _ from HT1.out) hne; obtain ⟨z0, z1, z2, z3, fz, lz⟩ := blk4 hT3; clear hT3)
    all_goals go_wp2
    all_goals go_ret
    all_goals rw [HR.out]
    all_goals refine ex_close (l := lab0 14 (hdT s).line) (ch := x.1) (ks := [.iface ty9 x9]) h9 (HTO.out.trans ho9) rfl (by simp [lab0]) rfl rfl (fun hb => ⟨⟨_, ?_, rfl⟩, RepC.weak (by show _ ≤ W2.heap.size; omega) (hr9 hb)⟩)
    all_goals rw [(HTk3.out HB0.out).1, HK.out]; rfl
  obtain ⟨x, hx, hr⟩ := pars_part c28 c35 hp
  have HX := hide (fun (W : World) (h : PR b tb cap te ts W s) => part_any ih W s r x h hx hr)
  have t28 : ((kT s : Int) == 28) = false := kn (c := 28) rfl c28
  have t35 : ((kT s : Int) == 35) = false := kn (c := 35) rfl c35
  clear hp hs hx hr c28 c35
  go_enter Tryz.func111, Tryz.ntmps111
  go_wp2_with fail
  refine (kind_any HS.out).mono ?_
  rintro e w1 ⟨rfl, h1, hb1⟩
  have HP1 := hide (Below.only (b := b) hb1)
  have HO1 : Hid (Only b w w1) := (Only.refl b w).trans HP1.out
  have lw1 := HO1.out.size
  have H1 := hide h1
  clear h1 hb1
  go_wp2_with fail
  refine (kind_any H1.out).mono ?_
  rintro e w2 ⟨rfl, h2, hb2⟩
  have HP2 := hide (Below.only (b := b) hb2)
  have HO2 : Hid (Only b w w2) := HO1.out.trans HP2.out
  have lw2 := HO2.out.size
  have H2 := hide h2
  clear h2 hb2
  go_wp2_with fail
  refine (HX.out _ H2.out).mono ?_
  rintro e w3 ⟨ty3, x3, rfl, h3, ho3, hr3⟩
  have HP3 := hide ho3
  have HO3 : Hid (Only b w w3) := HO2.out.trans HP3.out
  have lw3 := HO3.out.size
  have HR3 := hide hr3
  have H3 := hide h3
  clear h3 ho3 hr3
  go_wp2
  go_ret
  exact ⟨_, _, rfl, H3.out, HO3.out, fun hb => RepC.weak (by omega) (HR3.out hb)⟩
end Go.Proofs.YtgccmgjbbcndbaaGreatDoor
