import Derived.Test.YtgccmgjbbcndbaaGreatDoorM36
/- Walks of the code's parser: binary. -/
namespace Go.Proofs.YtgccmgjbbcndbaaGreatDoor
open Go.RowKit
open Go.Deep (BT)

theorem row_bounds {k a : Nat} (h : rowOf k = a + 1) : k = 27 ∨ k = 29 ∨ k = 30 ∨ k = 31 ∨ k = 32 ∨ k = 33 ∨ k = 34 ∨ k = 35 ∨ k = 36 ∨ k = 37 ∨ k = 38 ∨ k = 39 ∨ k = 40 := by
  unfold rowOf at h
  split at h
  · omega
  split at h
  · omega
  split at h
  · omega
  split at h
  · omega
  split at h
  · omega
  split at h
  · omega
  · omega
theorem row_le {k : Nat} : rowOf k ≤ 6 := by
  unfold rowOf
  split
  · omega
  split
  · omega
  split
  · omega
  split
  · omega
  split
  · omega
  split
  · omega
  · omega
theorem bin_ty {k a : Nat} (h : rowOf k = a + 1) : ¬ (100 + k = 31 ∨ 100 + k = 32) ∧ 196 = ptrTy (100 + k) ∧ 198 = strTy (100 + k) := by
  rcases row_bounds h with rfl | rfl | rfl | rfl | rfl | rfl | rfl | rfl | rfl | rfl | rfl | rfl | rfl <;> exact ⟨by decide, rfl, rfl⟩
theorem bin_lay {k a : Nat} (h : rowOf k = a + 1) (D : Nat → Prop) (w : World) (line : Nat) (x y : Value) : LayC D w (lab0 (100 + k) line) #[lnV line, .int .i64 (k : Nat), x, y] [x, y] := by
  rcases row_bounds h with rfl | rfl | rfl | rfl | rfl | rfl | rfl | rfl | rfl | rfl | rfl | rfl | rfl <;> exact ⟨x, y, rfl, rfl⟩

def BiRel (b tb cap te : Nat) (ts : List Tk) (a n : Nat) (r : BT Lab × PS) (w : World) (k : Nat) (v : Value) (wr : World) : Prop :=
  ∃ (acc : BT Lab) (st : PS) (ty : TypeId) (x : Value), v = .iface ty x ∧ k ≤ n ∧ pars k 1 a acc st = some r ∧ PR b tb cap te ts wr st ∧ Only b w wr ∧ (st.bad = 0 → RepC (fun g => w.heap.size ≤ g) wr acc [.iface ty x])

set_option maxRecDepth 100000 in
set_option maxHeartbeats 4000000 in
theorem pbinary_any {b tb cap te : Nat} {ts : List Tk} {n : Nat} (ih : ∀ m, m ≤ n → CodePars b tb cap te ts m) (w : World) (s : PS) (a : Nat) (r : BT Lab × PS) (ha : a ≤ 6) (hs : PR b tb cap te ts w s) (hp : pars (n + 1) 0 a .nil s = some r) :
    Calls Tryz.prog 92 #[.pointer (some ⟨b, 0, none⟩), .int .i64 ((a + 1 : Nat) : Nat)] w (ExPost b tb cap te ts w r) := by
  have HS := hide hs
  have lb := hs.lt
  by_cases c6 : a = 6
  · subst c6
    have HX := hide (fun (W : World) (h : PR b tb cap te ts W s) => (ih n (Nat.le_refl _)).unary W s r h (pars_expr6 hp))
    clear hp hs ha
    go_enter Tryz.func92, Tryz.ntmps92
    go_wp2_with fail
    refine (HX.out _ HS.out).mono ?_
    rintro e w1 ⟨ty1, x1, rfl, h1, ho1, hr1⟩
    have HP1 := hide ho1
    have HO1 : Hid (Only b w w1) := (Only.refl b w).trans HP1.out
    have lw1 := HO1.out.size
    have HR1 := hide hr1
    have H1 := hide h1
    clear h1 ho1 hr1
    go_wp2
    go_ret
    exact ⟨_, _, rfl, H1.out, HO1.out, fun hb => RepC.weak (by omega) (HR1.out hb)⟩
  · obtain ⟨x, hx, hpr⟩ := pars_expr c6 hp
    have HX := hide (fun (W : World) (h : PR b tb cap te ts W s) => (ih n (Nat.le_refl _)).expr W s (a + 1) x (by omega) h hx)
    have HP0 := hide hpr
    have t6 : decide (6 < ((a + 1 : Nat) : Int)) = false := decide_eq_false (by omega)
    clear hp hs hx hpr
    go_enter Tryz.func92, Tryz.ntmps92
    go_wp2_with fail
    refine (HX.out _ HS.out).mono ?_
    rintro e w1 ⟨ty1, x1, rfl, h1, ho1, hr1⟩
    have HP1 := hide ho1
    have HO1 : Hid (Only b w w1) := (Only.refl b w).trans HP1.out
    have lw1 := HO1.out.size
    have HR1 := hide hr1
    have H1 := hide h1
    clear h1 ho1 hr1
    go_wp2
    go_loopg [5] n (fun k v wr => BiRel b tb cap te ts a n r w k v wr)
    case atStart => exact ⟨x.1, x.2, ty1, x1, rfl, Nat.le_refl _, HP0.out, H1.out, HO1.out, HR1.out⟩
    case round =>
      clear HP0 H1 HO1 HR1 HP1 HX HS lw1
      obtain ⟨acc, st, ty, x0, rfl, hkn, hpk, hrs, hO, hrep⟩ := hrel
      cases gk with
      | zero => exact absurd hpk (pars_zero _ _ _ _ _)
      | succ m =>
      have HRS := hide hrs
      have HOr := hide hO
      have HRep := hide hrep
      have lwr := hO.size
      have hk40 := hrs.k40
      have hrl := row_le (k := kT st)
      by_cases cr : rowOf (kT st) = a + 1
      · obtain ⟨z, hz1, hz2⟩ := pars_loop1 cr hpk
        have HZ2 := hide hz2
        have HX := hide (fun (W : World) (h : PR b tb cap te ts W (takeS st)) => (ih m (by omega)).expr W (takeS st) (a + 1) z (by omega) h hz1)
        have tk : ((rowOf (kT st) : Int) == ((a + 1 : Nat) : Int)) = true := by rw [cr]; simp
        have HB0 : Hid (st.bad = 0) := hrs.notEnd (by have := row_bounds cr; omega)
        have HCr := hide cr
        clear hz1 hz2 cr hpk hrs hO hrep
        go_wp2_with fail
        refine (kind_any HRS.out).mono ?_
        rintro e w4 ⟨rfl, h4, hb4⟩
        have HP4 := hide (Below.only (b := b) hb4)
        have HO4 : Hid (Only b wr w4) := (Only.refl b wr).trans HP4.out
        have lw4 := HO4.out.size
        have H4 := hide h4
        clear h4 hb4
        go_wp2_with fail
        refine (row_any _ hk40 _).mono ?_
        rintro e w' ⟨rfl, rfl⟩
        go_wp2_with fail
        refine (take_any H4.out).mono ?_
        rintro e w5 ⟨ln5, nn5, S5, rfl, htk5, h5, ho5⟩
        have HP5 := hide ho5
        have HO5 : Hid (Only b wr w5) := HO4.out.trans HP5.out
        have lw5 := HO5.out.size
        have HTk5 := hide htk5
        have H5 := hide h5
        clear h5 ho5 htk5
        have HT1 := hide (heap_alloc_new w5 (.cells #[.int .i64 (kT st : Nat), .int .i64 ln5, .string ⟨S5.toArray⟩, .int .i64 nn5] 93))
        go_wp2_with fail
        refine (HX.out _ (PR.alloc H5.out _)).mono ?_
        rintro e w6 ⟨ty6, x6, rfl, h6, ho6, hr6⟩
        have HP6 := hide ho6
        have HO6 : Hid (Only b wr w6) := (HO5.out.alloc _).trans HP6.out
        have lw6 := HO6.out.size
        have HR6 := hide hr6
        have H6 := hide h6
        clear h6 ho6 hr6
        have hT6 := HP6.out.blk HT1.out (by omega)
        obtain ⟨y0, y1, y2, y3, fy, ly⟩ := blk4 hT6
        clear hT6
        go_wp2
        go_roundg m
        case measure => omega
        case rel =>
          refine ⟨_, _, _, _, rfl, by omega, HZ2.out, PR.alloc H6.out _, (HOr.out.trans HO6.out).alloc _, fun hb => ?_⟩
          have hcl := ex_close (w := w) (W := w6) (r := (nd (lab0 (100 + kT st) (hdT st).line) (bapp acc z.1), z.2)) (l := lab0 (100 + kT st) (hdT st).line) (ch := bapp acc z.1) (ks := [.iface ty x0, .iface ty6 x6]) (cs := #[lnV (hdT st).line, .int .i64 (kT st : Nat), .iface ty x0, .iface ty6 x6]) H6.out (HOr.out.trans HO6.out) rfl (bin_ty HCr.out).1 (bin_ty HCr.out).2.1 (bin_ty HCr.out).2.2 (fun hb => ⟨bin_lay HCr.out _ _ _ _ _, RepC.app _ _ [_] [_] (RepC.only (by omega) HO6.out (HRep.out HB0.out)) (RepC.weak (by simp; omega) (HR6.out hb))⟩)
          obtain ⟨t', x', e', _, _, hrr⟩ := hcl
          injection e' with e'
          rw [← e'] at hrr
          rw [(HTk5.out HB0.out).1]
          exact hrr hb
      · have HE := hide (pars_loop0 cr hpk)
        have tk : ((rowOf (kT st) : Int) == ((a + 1 : Nat) : Int)) = false := by rw [beq_eq_false_iff_ne]; omega
        clear cr hpk hrs hO hrep
        go_wp2_with fail
        refine (kind_any HRS.out).mono ?_
        rintro e w4 ⟨rfl, h4, hb4⟩
        have HP4 := hide (Below.only (b := b) hb4)
        have HO4 : Hid (Only b wr w4) := (Only.refl b wr).trans HP4.out
        have lw4 := HO4.out.size
        have H4 := hide h4
        clear h4 hb4
        go_wp2_with fail
        refine (row_any _ hk40 _).mono ?_
        rintro e w' ⟨rfl, rfl⟩
        go_wp2
        go_ret
        rw [HE.out]
        exact ⟨_, _, rfl, H4.out, HOr.out.trans HO4.out, fun hb => RepC.only (by omega) HO4.out (HRep.out hb)⟩
end Go.Proofs.YtgccmgjbbcndbaaGreatDoor
/- Walks of the code's parser: block. -/
namespace Go.Proofs.YtgccmgjbbcndbaaGreatDoor
open Go.RowKit
open Go.Deep (BT)

/- at the end of the text nothing can stand -/
theorem fail_ts (s : PS) (h : s.bad = 0) : (failS s).ts = [endT] := by unfold failS; rw [if_pos h]
theorem end4 {n : Nat} {s : PS} {r : BT Lab × PS} (hk : kT s = 0) (h : pars n 4 0 .nil s = some r) : r.2 = failS s := by
  cases n with
  | zero => exact absurd h (pars_zero _ _ _ _ _)
  | succ n => rw [pars_none (by omega) (by omega) (by omega) (by omega) (by omega) (by omega) (by omega) (by omega) (by omega) (by omega) h]
theorem end2 {n : Nat} {s : PS} {r : BT Lab × PS} (h0 : s.bad = 0) (hf : (failS s).bad ≠ 0) (hk : kT s = 0) (h : pars n 2 0 .nil s = some r) : r.2 = failS s := by
  cases n with
  | zero => exact absurd h (pars_zero _ _ _ _ _)
  | succ n =>
    obtain ⟨x, h1, h2⟩ := pars_part (by omega) (by omega) h
    have e := end4 hk h1
    rw [pars_sticky (by rw [e]; exact fail_ts s h0) (by rw [e]; exact hf) _ _ _ _ _ h2, e]
theorem end0 {s : PS} (h0 : s.bad = 0) (hf : (failS s).bad ≠ 0) (hk : kT s = 0) : ∀ n a r, pars n 0 a .nil s = some r → r.2 = failS s := by
  intro n
  induction n with
  | zero => intro a r h; exact absurd h (pars_zero _ _ _ _ _)
  | succ n ih =>
    intro a r h
    by_cases h6 : a = 6
    · subst h6; exact end2 h0 hf hk (pars_expr6 h)
    · obtain ⟨x, h1, h2⟩ := pars_expr h6 h
      have e := ih _ _ h1
      rw [pars_sticky (by rw [e]; exact fail_ts s h0) (by rw [e]; exact hf) _ _ _ _ _ h2, e]
theorem fail_same {s : PS} (h : s.bad ≠ 0) : failS s = s := by unfold failS; rw [if_neg h]
theorem want_same {k : Nat} {s : PS} (hk : k ≠ 0) (h : s.bad ≠ 0) (ht : s.ts = [endT]) : wantS k s = s := by
  unfold wantS
  rw [if_neg (by unfold kT hdT; rw [ht]; show ¬ (0 = k); omega), fail_same h]
theorem end9 {n : Nat} {s : PS} {r : BT Lab × PS} (h0 : s.bad = 0) (hf : (failS s).bad ≠ 0) (hk : kT s = 0) (h : pars n 9 0 .nil s = some r) : r.2 = failS s := by
  cases n with
  | zero => exact absurd h (pars_zero _ _ _ _ _)
  | succ n =>
    obtain ⟨x, h1, h2⟩ := pars_simple (by omega) h
    have e := end0 h0 hf hk _ _ _ h1
    have ek : kT x.2 = 0 := by rw [e]; unfold failS; rw [if_pos h0]; rfl
    rcases h2 with ⟨_, h3, _⟩ | ⟨_, h3, _⟩ | ⟨_, h3⟩
    · omega
    · omega
    · rw [h3]
      show wantS 25 x.2 = _
      rw [want_same (by decide) (by rw [e]; exact hf) (by rw [e]; exact fail_ts s h0), e]

def BlRel (b tb cap te : Nat) (ts : List Tk) (n : Nat) (r : BT Lab × PS) (w : World) (k : Nat) (v : Value) (wr : World) : Prop :=
  ∃ (acc : BT Lab) (st : PS) (va : Option Addr) (vn vc : Nat) (cs : List Value), v = .slice va vn vc ∧ k ≤ n ∧ pars k 8 0 acc st = some r ∧ PR b tb cap te ts wr st ∧ Only b w wr ∧ cs.length + k ≤ n + 1 ∧
    OwnsD (fun g => w.heap.size ≤ g) wr 76 1 (.slice va vn vc) cs.length cs ∧ (st.bad = 0 → RepC (fun g => w.heap.size ≤ g ∧ (Value.slice va vn vc).ownBlock ≠ some g) wr acc cs)

set_option maxRecDepth 100000 in
set_option maxHeartbeats 4000000 in
theorem pblock_any {b tb cap te : Nat} {ts : List Tk} {n : Nat} (ih : ∀ m, m ≤ n → CodePars b tb cap te ts m) (hn : n ≤ 500000) (w : World) (s : PS) (r : BT Lab × PS) (hs : PR b tb cap te ts w s) (hp : pars (n + 1) 7 0 .nil s = some r) :
    Calls Tryz.prog 74 #[.pointer (some ⟨b, 0, none⟩)] w (LsPost 76 b tb cap te ts w r) := by
  have HS := hide hs
  obtain ⟨lb, lt, lne⟩ := hs.lt
  have HP0 := hide (pars_block hp)
  clear hp hs
  go_enter Tryz.func74, Tryz.ntmps74
  go_wp2_with fail
  refine (want_any HS.out 20).mono ?_
  rintro e w1 ⟨kk1, ln1, nn1, S1, rfl, htk1, h1, ho1⟩
  have HP1 := hide ho1
  have HO1 : Hid (Only b w w1) := (Only.refl b w).trans HP1.out
  have lw1 := HO1.out.size
  have HTk1 := hide htk1
  have H1 := hide h1
  clear h1 ho1 htk1
  go_wp2
  go_loopg [3] n (fun k v wr => BlRel b tb cap te ts n r w k v wr)
  case atStart => exact ⟨.nil, _, none, 0, 0, [], rfl, Nat.le_refl _, HP0.out, H1.out, HO1.out, by simp, own_nil _ _ _ _, fun _ => rfl⟩
  case round =>
    clear HP0 H1 HO1 HP1 HS lw1 HTk1
    obtain ⟨acc, st, va, vn, vc, cs, rfl, hkn, hpk, hrs, hO, hcn, hown, hrep⟩ := hrel
    cases gk with
    | zero => exact absurd hpk (pars_zero _ _ _ _ _)
    | succ m =>
    have HRS := hide hrs
    have HOr := hide hO
    have HOwn := hide hown
    have HRep := hide hrep
    have lwr := hO.size
    have hne : (Value.slice va vn vc).ownBlock ≠ some b := fun e => by have h : w.heap.size ≤ b := hown.2 b e; omega
    have HFb : Hid (st.bad = 0 → 1 ≤ (hdT st).line) := fun e => (hrs.lines e).1
    have HStk := hide hrs.sticky
    by_cases c21 : kT st = 21
    · have HE := hide (pars_bend c21 hpk)
      have tk : ((kT st : Int) != 21) = false := by rw [c21]; rfl
      have HW : Hid (wantS 21 st = takeS st) := by show _ = _; unfold wantS; rw [if_pos c21]
      clear c21 hpk hrs hO hrep hown
      go_wp2_with fail
      refine (kind_any HRS.out).mono ?_
      rintro e w4 ⟨rfl, h4, hb4⟩
      have HP4 := hide (Below.only (b := b) hb4)
      have HO4 : Hid (Only b wr w4) := (Only.refl b wr).trans HP4.out
      have lw4 := HO4.out.size
      have H4 := hide h4
      clear h4 hb4
      go_wp2_with fail
      refine (want_any H4.out 21).mono ?_
      rintro e w5 ⟨kk5, ln5, nn5, S5, rfl, htk5, h5, ho5⟩
      have HP5 := hide ho5
      have HO5 : Hid (Only b wr w5) := HO4.out.trans HP5.out
      have lw5 := HO5.out.size
      have HTk5 := hide htk5
      have H5 := hide h5
      clear h5 ho5 htk5
      go_wp2
      go_ret
      rw [HE.out]
      refine ⟨va, vn, vc, cs, rfl, ⟨own_same HOwn.out.1 (fun k hk hl => HO5.out.block k hl (fun e => hne (by rw [← e]; exact hk))), HOwn.out.2⟩, by rw [← HW.out]; exact H5.out, HOr.out.trans HO5.out, fun hb => ?_⟩
      rw [take_badC] at hb
      exact RepC.keep (fun k hk hl => ⟨HO5.out.block k hl (by omega), hk.1⟩) _ _ (HRep.out hb)
    by_cases c0 : kT st = 0
    · have HE : Hid (r.2 = wantS 21 st ∧ r.2.bad ≠ 0) := by
        have hw : wantS 21 st = failS st := by unfold wantS; rw [if_neg c21]
        by_cases h0 : st.bad = 0
        · obtain ⟨x, hx, hx2⟩ := pars_bstmt c21 h0 hpk
          have hf := fail_ne HFb.out
          have e := end9 h0 hf c0 hx
          have e2 := pars_sticky (by rw [e]; exact fail_ts st h0) (by rw [e]; exact hf) _ _ _ _ _ hx2
          rw [e2, e, hw]; exact ⟨rfl, hf⟩
        · have e2 := pars_sticky (HStk.out h0) h0 _ _ _ _ _ hpk
          rw [e2, hw, fail_same h0]; exact ⟨rfl, h0⟩
      have tk : ((kT st : Int) != 21) = true := by rw [c0]; rfl
      have tk0 : ((kT st : Int) != 0) = false := by rw [c0]; rfl
      clear c21 c0 hpk hrs hO hrep hown
      go_wp2_with fail
      refine (kind_any HRS.out).mono ?_
      rintro e w4 ⟨rfl, h4, hb4⟩
      have HP4 := hide (Below.only (b := b) hb4)
      have HO4 : Hid (Only b wr w4) := (Only.refl b wr).trans HP4.out
      have lw4 := HO4.out.size
      have H4 := hide h4
      clear h4 hb4
      go_wp2_with fail
      refine (kind_any H4.out).mono ?_
      rintro e w5 ⟨rfl, h5, hb5⟩
      have HP5 := hide (Below.only (b := b) hb5)
      have HO5 : Hid (Only b wr w5) := HO4.out.trans HP5.out
      have lw5 := HO5.out.size
      have H5 := hide h5
      clear h5 hb5
      go_wp2_with fail
      refine (want_any H5.out 21).mono ?_
      rintro e w6 ⟨kk6, ln6, nn6, S6, rfl, htk6, h6, ho6⟩
      have HP6 := hide ho6
      have HO6 : Hid (Only b wr w6) := HO5.out.trans HP6.out
      have lw6 := HO6.out.size
      have HTk6 := hide htk6
      have H6 := hide h6
      clear h6 ho6 htk6
      go_wp2
      go_ret
      refine ⟨va, vn, vc, cs, rfl, ⟨own_same HOwn.out.1 (fun k hk hl => HO6.out.block k hl (fun e => hne (by rw [← e]; exact hk))), HOwn.out.2⟩, by rw [HE.out.1]; exact H6.out, HOr.out.trans HO6.out, fun hb => absurd hb HE.out.2⟩
    have HB0 : Hid (st.bad = 0) := hrs.notEnd c0
    obtain ⟨z, hz1, hz2⟩ := pars_bstmt c21 HB0.out hpk
    have HZ2 := hide hz2
    have HX := hide (fun (W : World) (h : PR b tb cap te ts W st) => (ih m (by omega)).stmt W st z h hz1)
    have tk : ((kT st : Int) != 21) = true := by simp; omega
    have tk0 : ((kT st : Int) != 0) = true := by simpa using c0
    clear c21 c0 hpk hrs hO hrep hown hz1 hz2
    go_wp2_with fail
    refine (kind_any HRS.out).mono ?_
    rintro e w4 ⟨rfl, h4, hb4⟩
    have HP4 := hide (Below.only (b := b) hb4)
    have HO4 : Hid (Only b wr w4) := (Only.refl b wr).trans HP4.out
    have lw4 := HO4.out.size
    have H4 := hide h4
    clear h4 hb4
    go_wp2_with fail
    refine (kind_any H4.out).mono ?_
    rintro e w5 ⟨rfl, h5, hb5⟩
    have HP5 := hide (Below.only (b := b) hb5)
    have HO5 : Hid (Only b wr w5) := HO4.out.trans HP5.out
    have lw5 := HO5.out.size
    have H5 := hide h5
    clear h5 hb5
    go_wp2_with fail
    refine (HX.out _ H5.out).mono ?_
    rintro e w6 ⟨ty6, x6, rfl, h6, ho6, hr6⟩
    have HP6 := hide ho6
    have HO6 : Hid (Only b wr w6) := HO5.out.trans HP6.out
    have lw6 := HO6.out.size
    have HR6 := hide hr6
    have H6 := hide h6
    clear h6 ho6 hr6
    have hown5 : w6.ownsRow 0 76 1 (.slice va vn vc) cs.length cs := own_same HOwn.out.1 (fun k hk hl => HO6.out.block k hl (fun e => hne (by rw [← e]; exact hk)))
    go_wp2_with (at_builtin; refine wpl_app w6 #[.iface ty6 x6] 76 rfl (.tmp 14) (.tmp 17) 54 rfl 0 1 16 .nilIface Tryz.underlying54 infoStmt rfl (by omega) _ _ _ rfl rfl hown5 rfl (fun u hu => by simp at hu; rw [hu]; rfl) (by omega) (by omega) (Nat.zero_le _) ?_; intro g7 cap7 w7 hown7 hgrow7 hat7 hg7)
    replace hgrow7 : w6.grownBy w7 (Value.slice va vn vc).ownBlock := hgrow7
    replace hat7 : (Value.slice va vn vc).ownBlock = some g7 ∨ g7 = w6.heap.size + 1 := hat7
    have hrow : ∀ k, (Value.slice va vn vc).ownBlock = some k → k ≠ b ∧ k ≠ tb ∧ w.heap.size ≤ k := fun k e => by have h : w.heap.size ≤ k := HOwn.out.2 k e; omega
    go_roundg m
    case measure => omega
    case rel =>
      refine ⟨bapp acc z.1, z.2, some ⟨g7, 0, none⟩, cs.length + 1, cap7, cs ++ [.iface ty6 x6], rfl, by omega, HZ2.out, PR.grown H6.out hgrow7 (fun e => (hrow b e).1 rfl) (fun e => (hrow tb e).2.1 rfl), (HOr.out.trans HO6.out).grown hgrow7 (fun k e => .inr (hrow k e).2.2), by simp; omega, ⟨by simpa using hown7, fun k hk => ?_⟩, fun hb => ?_⟩
      · simp only [Value.ownBlock, Option.some.injEq] at hk
        rw [← hk]
        rcases hat7 with h | h
        · exact (hrow g7 h).2.2
        · show w.heap.size ≤ g7; omega
      · exact appC lb lwr (HRep.out HB0.out) HO6.out (RepC.weak (by omega) (HR6.out hb)) HOwn.out.1 hgrow7 hat7
end Go.Proofs.YtgccmgjbbcndbaaGreatDoor
/- Walks of the code's parser: let, if, while. -/
namespace Go.Proofs.YtgccmgjbbcndbaaGreatDoor
open Go.RowKit
open Go.Deep (BT)

/- a block of statements as a part of a tree -/
theorem RepC.blk {D : Nat → Prop} {w : World} {kd : Nat} (hk : kd = 31 ∨ kd = 32) {va : Option Addr} {vn vc : Nat} {cs : List Value} {f : BT Lab} (ho : OwnsD D w 76 1 (.slice va vn vc) cs.length cs) (hr : RepC D w f cs) : RepC D w (nd (lab0 kd 0) f) [.slice va vn vc] := by
  refine RepC.one ?_ hr
  unfold NodeC
  rw [if_pos (show (lab0 kd 0).kd = 31 ∨ (lab0 kd 0).kd = 32 from hk)]
  exact ⟨⟨_, _, _, rfl⟩, ho⟩
theorem OwnsD.later {b n m : Nat} {w w' : World} (hm : m ≤ n) (hb : b < n) (ho : Only b w w') {T : TypeId} {v : Value} {k : Nat} {cs : List Value} (h : OwnsD (fun g => n ≤ g) w T 1 v k cs) : OwnsD (fun g => m ≤ g) w' T 1 v k cs :=
  h.keep (fun g hg hl => ⟨ho.block g hl (by omega), by omega⟩)

set_option maxRecDepth 100000 in
set_option maxHeartbeats 4000000 in
theorem plet_any {b tb cap te : Nat} {ts : List Tk} {n : Nat} (ih : CodePars b tb cap te ts n) (w : World) (s : PS) (r : BT Lab × PS) (hk : kT s = 5) (hs : PR b tb cap te ts w s) (hp : pars (n + 1) 9 0 .nil s = some r) :
    Calls Tryz.prog 75 #[.pointer (some ⟨b, 0, none⟩)] w (ExPost b tb cap te ts w r) := by
  obtain ⟨x, hx, hr⟩ := pars_slet hk hp
  have HS := hide hs
  have lb := hs.lt
  have HR := hide hr
  have HXp := hide hx
  have HW : Hid (wantS 5 s = takeS s) := by show _ = _; unfold wantS; rw [if_pos hk]
  have HX := hide (fun (W : World) (h : PR b tb cap te ts W (wantS 26 (wantS 1 (takeS s)))) => pexpr_any ih W (wantS 26 (wantS 1 (takeS s))) x h hx)
  clear hp hs hk hx hr
  go_enter Tryz.func75, Tryz.ntmps75
  go_wp2_with fail
  refine (want_any HS.out 5).mono ?_
  rintro e w1 ⟨kk1, ln1, nn1, S1, rfl, htk1, h1, ho1⟩
  have HP1 := hide ho1
  have HO1 : Hid (Only b w w1) := (Only.refl b w).trans HP1.out
  have lw1 := HO1.out.size
  have HTk1 := hide htk1
  rw [HW.out] at h1
  have H1 := hide h1
  clear h1 ho1 htk1
  go_wp2_with fail
  refine (ident_any H1.out).mono ?_
  rintro e w2 ⟨ln2, S2, rfl, htk2, h2, ho2⟩
  have HP2 := hide ho2
  have HO2 : Hid (Only b w w2) := HO1.out.trans HP2.out
  have lw2 := HO2.out.size
  have HTk2 := hide htk2
  have H2 := hide h2
  clear h2 ho2 htk2
  have HT2 := hide (heap_alloc_new w2 (.cells #[.int .i64 ln2, .string ⟨S2.toArray⟩] 52))
  have lw2b : w2.heap.size < (w2.alloc (.cells #[.int .i64 ln2, .string ⟨S2.toArray⟩] 52)).heap.size := by simp
  go_wp2_with fail
  refine (want_any (PR.alloc H2.out _) 26).mono ?_
  rintro e w3 ⟨kk3, ln3, nn3, S3, rfl, htk3, h3, ho3⟩
  have HP3 := hide ho3
  have HO3 : Hid (Only b w w3) := (HO2.out.alloc _).trans HP3.out
  have lw3 := HO3.out.size
  have HTk3 := hide htk3
  have H3 := hide h3
  clear h3 ho3 htk3
  have HT3 := hide (HP3.out.blk HT2.out (by omega))
  go_wp2_with fail
  refine (HX.out _ H3.out).mono ?_
  rintro e w4 ⟨ty4, x4, rfl, h4, ho4, hr4⟩
  have HP4 := hide ho4
  have HO4 : Hid (Only b w w4) := HO3.out.trans HP4.out
  have lw4 := HO4.out.size
  have HR4 := hide hr4
  have H4 := hide h4
  clear h4 ho4 hr4
  have HT4 := hide (HP4.out.blk HT3.out (by omega))
  go_wp2_with fail
  refine (want_any H4.out 25).mono ?_
  rintro e w5 ⟨kk5, ln5, nn5, S5, rfl, htk5, h5, ho5⟩
  have HP5 := hide ho5
  have HO5 : Hid (Only b w w5) := HO4.out.trans HP5.out
  have lw5 := HO5.out.size
  have HTk5 := hide htk5
  have H5 := hide h5
  clear h5 ho5 htk5
  have hT5 := HP5.out.blk HT4.out (by omega)
  have y0 := cell_row hT5 0 _ rfl
  have y1 := cell_row hT5 1 _ rfl
  have ly := heap_lt hT5
  clear hT5
  go_wp2
  go_ret
  rw [HR.out]
  refine ex_close (l := ⟨21, (hdT (takeS s)).line, (hdT (takeS s)).s, 0, []⟩) (ch := x.1) (ks := [.iface ty4 x4]) H5.out HO5.out rfl (by simp) rfl rfl (fun hb => ⟨⟨_, ?_, rfl⟩, RepC.later (by omega) (by omega) HP5.out (HR4.out (want_goodC hb))⟩)
  have hg := want_goodC (pars_good H3.out.sticky HXp.out (want_goodC hb))
  rw [(HTk2.out hg).1, (HTk2.out hg).2]; rfl

set_option maxRecDepth 100000 in
set_option maxHeartbeats 4000000 in
theorem pwhile_any {b tb cap te : Nat} {ts : List Tk} {n : Nat} (ih : CodePars b tb cap te ts n) (w : World) (s : PS) (r : BT Lab × PS) (hk : kT s = 8) (hs : PR b tb cap te ts w s) (hp : pars (n + 1) 9 0 .nil s = some r) :
    Calls Tryz.prog 56 #[.pointer (some ⟨b, 0, none⟩)] w (ExPost b tb cap te ts w r) := by
  obtain ⟨x, bl, hx, hbl, hr⟩ := pars_swhile hk hp
  have HS := hide hs
  have lb := hs.lt
  have HB0 : Hid (s.bad = 0) := hs.notEnd (by omega)
  have HR := hide hr
  have HBp := hide hbl
  have t5 : ((kT s : Int) == 5) = false := kn (c := 5) rfl (by omega)
  have t6 : ((kT s : Int) == 6) = false := kn (c := 6) rfl (by omega)
  have t8 : ((kT s : Int) == 8) = true := ke (c := 8) rfl hk
  have HBl := hide (fun (W : World) (h : PR b tb cap te ts W x.2) => ih.block W x.2 bl h hbl)
  have HX := hide (fun (W : World) (h : PR b tb cap te ts W (takeS s)) => pexpr_any ih W (takeS s) x h hx)
  have hf1 := cf1
  clear hp hs hk hx hbl hr
  go_enter Tryz.func56, Tryz.ntmps56
  go_wp2_with fail
  refine (kind_any HS.out).mono ?_
  rintro e w1 ⟨rfl, h1, hb1⟩
  have HP1 := hide (Below.only (b := b) hb1)
  have HO1 : Hid (Only b w w1) := (Only.refl b w).trans HP1.out
  have lw1 := HO1.out.size
  have H1 := hide h1
  clear h1 hb1
  go_wp2_with fail
  refine (take_any H1.out).mono ?_
  rintro e w2 ⟨ln2, nn2, S2, rfl, htk2, h2, ho2⟩
  have HP2 := hide ho2
  have HO2 : Hid (Only b w w2) := HO1.out.trans HP2.out
  have lw2 := HO2.out.size
  have HTk2 := hide htk2
  have H2 := hide h2
  clear h2 ho2 htk2
  go_wp2_with fail
  refine (HX.out _ H2.out).mono ?_
  rintro e w3 ⟨ty3, x3, rfl, h3, ho3, hr3⟩
  have HP3 := hide ho3
  have HO3 : Hid (Only b w w3) := HO2.out.trans HP3.out
  have lw3 := HO3.out.size
  have HR3 := hide hr3
  have H3 := hide h3
  clear h3 ho3 hr3
  go_wp2_with fail
  refine (HBl.out _ H3.out).mono ?_
  rintro e w4 ⟨va4, vn4, vc4, cs4, rfl, hown4, h4, ho4, hr4⟩
  have HP4 := hide ho4
  have HO4 : Hid (Only b w w4) := HO3.out.trans HP4.out
  have lw4 := HO4.out.size
  have HR4 := hide hr4
  have HOwn4 := hide hown4
  have H4 := hide h4
  clear h4 ho4 hr4 hown4
  go_wp2
  go_ret
  rw [HR.out]
  refine ex_close (l := lab0 23 (hdT s).line) (ch := bapp x.1 (nd (lab0 32 0) bl.1)) (ks := [.iface ty3 x3, .slice va4 vn4 vc4]) H4.out HO4.out rfl (by simp [lab0]) rfl rfl (fun hb => ⟨⟨_, _, _, _, _, ?_, rfl⟩, RepC.app _ _ [_] [_] (RepC.later (by omega) (by omega) HP4.out (HR3.out (pars_good H3.out.sticky HBp.out hb))) (RepC.blk (.inr rfl) (HOwn4.out.keep (fun k hk _ => ⟨rfl, by have h : w3.heap.size ≤ k := hk; omega⟩)) (RepC.weak (by omega) (HR4.out hb)))⟩)
  rw [(HTk2.out HB0.out).1]; rfl

set_option maxRecDepth 100000 in
set_option maxHeartbeats 4000000 in
theorem pif0_any {b tb cap te : Nat} {ts : List Tk} {n : Nat} (ih : CodePars b tb cap te ts n) (w : World) (s : PS) (r : BT Lab × PS) (hk : kT s = 6) (x bl : BT Lab × PS) (hx : pars n 0 0 .nil (takeS s) = some x) (hbl : pars n 7 0 .nil x.2 = some bl) (h7 : kT bl.2 ≠ 7) (hr : r = (nd (lab0 22 (hdT s).line) (bapp x.1 (nd (lab0 31 0) bl.1)), bl.2)) (hs : PR b tb cap te ts w s) :
    Calls Tryz.prog 76 #[.pointer (some ⟨b, 0, none⟩)] w (ExPost b tb cap te ts w r) := by
  have HS := hide hs
  have lb := hs.lt
  have HB0 : Hid (s.bad = 0) := hs.notEnd (by omega)
  have HR := hide hr
  have HBp := hide hbl
  have HBl := hide (fun (W : World) (h : PR b tb cap te ts W x.2) => ih.block W x.2 bl h hbl)
  have HX := hide (fun (W : World) (h : PR b tb cap te ts W (takeS s)) => pexpr_any ih W (takeS s) x h hx)
  have hf1 := cf1
  have tk : (kT bl.2 == 7) = false := by simpa using h7
  have HM : Hid (mayS 7 bl.2 = bl.2) := by show _ = _; unfold mayS; rw [if_neg h7]
  clear hs hk hx hbl hr h7
  go_enter Tryz.func76, Tryz.ntmps76
  go_wp2_with fail
  refine (take_any HS.out).mono ?_
  rintro e w1 ⟨ln1, nn1, S1, rfl, htk1, h1, ho1⟩
  have HP1 := hide ho1
  have HO1 : Hid (Only b w w1) := (Only.refl b w).trans HP1.out
  have lw1 := HO1.out.size
  have HTk1 := hide htk1
  have H1 := hide h1
  clear h1 ho1 htk1
  go_wp2_with fail
  refine (HX.out _ H1.out).mono ?_
  rintro e w2 ⟨ty2, x2, rfl, h2, ho2, hr2⟩
  have HP2 := hide ho2
  have HO2 : Hid (Only b w w2) := HO1.out.trans HP2.out
  have lw2 := HO2.out.size
  have HR2 := hide hr2
  have H2 := hide h2
  clear h2 ho2 hr2
  go_wp2_with fail
  refine (HBl.out _ H2.out).mono ?_
  rintro e w3 ⟨va3, vn3, vc3, cs3, rfl, hown3, h3, ho3, hr3⟩
  have HP3 := hide ho3
  have HO3 : Hid (Only b w w3) := HO2.out.trans HP3.out
  have lw3 := HO3.out.size
  have HR3 := hide hr3
  have HOwn3 := hide hown3
  have H3 := hide h3
  clear h3 ho3 hr3 hown3
  have HT3 := hide (heap_alloc_new w3 (.cells #[.int .i64 ln1, .iface ty2 x2, .slice va3 vn3 vc3, .slice none 0 0] 158))
  have lw3b : w3.heap.size < (w3.alloc (.cells #[.int .i64 ln1, .iface ty2 x2, .slice va3 vn3 vc3, .slice none 0 0] 158)).heap.size := by simp
  go_wp2_with fail
  refine (accept_any (PR.alloc H3.out _) 7).mono ?_
  rintro e w4 ⟨rfl, h4, ho4⟩
  have HP4 := hide ho4
  have HO4 : Hid (Only b w w4) := (HO3.out.alloc _).trans HP4.out
  have lw4 := HO4.out.size
  rw [tk]
  rw [HM.out] at h4
  have H4 := hide h4
  clear h4 ho4
  have HT4 := hide (HP4.out.blk HT3.out (by omega))
  go_wp2
  go_ret
  rw [HR.out]
  refine ⟨_, _, rfl, H4.out, HO4.out, fun hb => ?_⟩
  have k2 : ∀ g, w1.heap.size ≤ g → g < w2.heap.size → w4.heap[g]? = w2.heap[g]? ∧ w.heap.size ≤ g := fun g hg hl => ⟨((HP3.out.alloc _).trans HP4.out).block g hl (by omega), by omega⟩
  have k3 : ∀ g, w2.heap.size ≤ g → g < w3.heap.size → w4.heap[g]? = w3.heap[g]? ∧ w.heap.size ≤ g := fun g hg hl => ⟨(((Only.refl b w3).alloc _).trans HP4.out).block g hl (by omega), by omega⟩
  refine RepC.one (l := lab0 22 (hdT s).line) (ks := [.iface ty2 x2, .slice va3 vn3 vc3]) (NodeC.new (by simp [lab0]) (by show w.heap.size ≤ w3.heap.size; omega) HT4.out ⟨_, _, _, _, _, _, _, _, ?_, .inl ⟨rfl, rfl⟩⟩) ?_
  · rw [(HTk1.out HB0.out).1]; rfl
  · exact RepC.app _ _ [_] [_] (RepC.keep k2 _ _ (HR2.out (pars_good H2.out.sticky HBp.out hb))) (RepC.blk (.inl rfl) (HOwn3.out.keep k3) (RepC.keep k3 _ _ (HR3.out hb)))

set_option maxRecDepth 100000 in
set_option maxHeartbeats 4000000 in
theorem pif1_any {b tb cap te : Nat} {ts : List Tk} {n : Nat} (ih : CodePars b tb cap te ts n) (w : World) (s : PS) (r : BT Lab × PS) (hk : kT s = 6) (x bl : BT Lab × PS) (hx : pars n 0 0 .nil (takeS s) = some x) (hbl : pars n 7 0 .nil x.2 = some bl) (h7 : kT bl.2 = 7) (c : BT Lab × PS) (hc : pars n 7 0 .nil (takeS bl.2) = some c) (hr : r = (nd (lab0 22 (hdT s).line) (bapp x.1 (bapp (nd (lab0 31 0) bl.1) (nd (lab0 31 0) c.1))), c.2)) (hs : PR b tb cap te ts w s) :
    Calls Tryz.prog 76 #[.pointer (some ⟨b, 0, none⟩)] w (ExPost b tb cap te ts w r) := by
  have HS := hide hs
  have lb := hs.lt
  have HB0 : Hid (s.bad = 0) := hs.notEnd (by omega)
  have HR := hide hr
  have HBp := hide hbl
  have HBl := hide (fun (W : World) (h : PR b tb cap te ts W x.2) => ih.block W x.2 bl h hbl)
  have HX := hide (fun (W : World) (h : PR b tb cap te ts W (takeS s)) => pexpr_any ih W (takeS s) x h hx)
  have hf1 := cf1
  have tk : (kT bl.2 == 7) = true := by simpa using h7
  have HM : Hid (mayS 7 bl.2 = takeS bl.2) := by show _ = _; unfold mayS; rw [if_pos h7]
  have HCl := hide (fun (W : World) (h : PR b tb cap te ts W (takeS bl.2)) => ih.block W (takeS bl.2) c h hc)
  have HCp := hide hc
  clear hs hk hx hbl hr h7 hc
  go_enter Tryz.func76, Tryz.ntmps76
  go_wp2_with fail
  refine (take_any HS.out).mono ?_
  rintro e w1 ⟨ln1, nn1, S1, rfl, htk1, h1, ho1⟩
  have HP1 := hide ho1
  have HO1 : Hid (Only b w w1) := (Only.refl b w).trans HP1.out
  have lw1 := HO1.out.size
  have HTk1 := hide htk1
  have H1 := hide h1
  clear h1 ho1 htk1
  go_wp2_with fail
  refine (HX.out _ H1.out).mono ?_
  rintro e w2 ⟨ty2, x2, rfl, h2, ho2, hr2⟩
  have HP2 := hide ho2
  have HO2 : Hid (Only b w w2) := HO1.out.trans HP2.out
  have lw2 := HO2.out.size
  have HR2 := hide hr2
  have H2 := hide h2
  clear h2 ho2 hr2
  go_wp2_with fail
  refine (HBl.out _ H2.out).mono ?_
  rintro e w3 ⟨va3, vn3, vc3, cs3, rfl, hown3, h3, ho3, hr3⟩
  have HP3 := hide ho3
  have HO3 : Hid (Only b w w3) := HO2.out.trans HP3.out
  have lw3 := HO3.out.size
  have HR3 := hide hr3
  have HOwn3 := hide hown3
  have H3 := hide h3
  clear h3 ho3 hr3 hown3
  have HT3 := hide (heap_alloc_new w3 (.cells #[.int .i64 ln1, .iface ty2 x2, .slice va3 vn3 vc3, .slice none 0 0] 158))
  have lw3b : w3.heap.size < (w3.alloc (.cells #[.int .i64 ln1, .iface ty2 x2, .slice va3 vn3 vc3, .slice none 0 0] 158)).heap.size := by simp
  go_wp2_with fail
  refine (accept_any (PR.alloc H3.out _) 7).mono ?_
  rintro e w4 ⟨rfl, h4, ho4⟩
  have HP4 := hide ho4
  have HO4 : Hid (Only b w w4) := (HO3.out.alloc _).trans HP4.out
  have lw4 := HO4.out.size
  rw [tk]
  rw [HM.out] at h4
  have H4 := hide h4
  clear h4 ho4
  have HT4 := hide (HP4.out.blk HT3.out (by omega))
  obtain ⟨y0, y1, y2, y3, fy, ly⟩ := blk4 HT4.out
  go_wp2_with fail
  refine (HCl.out _ H4.out).mono ?_
  rintro e w5 ⟨va5, vn5, vc5, cs5, rfl, hown5, h5, ho5, hr5⟩
  have HP5 := hide ho5
  have HO5 : Hid (Only b w w5) := HO4.out.trans HP5.out
  have lw5 := HO5.out.size
  have HR5 := hide hr5
  have HOwn5 := hide hown5
  have H5 := hide h5
  clear h5 ho5 hr5 hown5
  have HT5 := hide (HP5.out.blk HT4.out (by omega))
  clear y0 y1 y2 y3 fy ly
  obtain ⟨y0, y1, y2, y3, fy, ly⟩ := blk4 HT5.out
  go_wp2
  go_ret
  rw [HR.out]
  have hold : ∀ k, k ≠ w3.heap.size → (w5.setCell ⟨w3.heap.size, 3, none⟩ (.slice va5 vn5 vc5)).heap[k]? = w5.heap[k]? := fun k hk => Below.heap_setCell _ _ _ _ (by exact hk)
  refine ⟨_, _, rfl, PR.other H5.out (by show b ≠ w3.heap.size; omega) (by show tb ≠ w3.heap.size; omega) _, Only.set (p := ⟨w3.heap.size, 3, none⟩) HO5.out (.inr (by show w.heap.size ≤ w3.heap.size; omega)) _, fun hb => ?_⟩
  have hb4 : bl.2.bad = 0 := by have := pars_good H4.out.sticky HCp.out hb; rw [take_badC] at this; exact this
  have hnew : (w5.setCell ⟨w3.heap.size, 3, none⟩ (.slice va5 vn5 vc5)).heap[w3.heap.size]? = some (.cells #[.int .i64 ln1, .iface ty2 x2, .slice va3 vn3 vc3, .slice va5 vn5 vc5] 158 (0, 0)) := by
    have := heap_set (j := 3) HT5.out (.slice va5 vn5 vc5)
    simpa using this
  have k2 : ∀ g, w1.heap.size ≤ g → g < w2.heap.size → (w5.setCell ⟨w3.heap.size, 3, none⟩ (.slice va5 vn5 vc5)).heap[g]? = w2.heap[g]? ∧ w.heap.size ≤ g := fun g hg hl => ⟨(hold g (by have := HP3.out.size; omega)).trans (((HP3.out.alloc _).trans (HP4.out.trans HP5.out)).block g hl (by omega)), by omega⟩
  have k3 : ∀ g, w2.heap.size ≤ g → g < w3.heap.size → (w5.setCell ⟨w3.heap.size, 3, none⟩ (.slice va5 vn5 vc5)).heap[g]? = w3.heap[g]? ∧ w.heap.size ≤ g := fun g hg hl => ⟨(hold g (by omega)).trans ((((Only.refl b w3).alloc _).trans (HP4.out.trans HP5.out)).block g hl (by omega)), by omega⟩
  have k5 : ∀ g, w4.heap.size ≤ g → g < w5.heap.size → (w5.setCell ⟨w3.heap.size, 3, none⟩ (.slice va5 vn5 vc5)).heap[g]? = w5.heap[g]? ∧ w.heap.size ≤ g := fun g hg hl => ⟨hold g (by have := heap_lt HT4.out; omega), by omega⟩
  refine RepC.one (l := lab0 22 (hdT s).line) (ks := [.iface ty2 x2, .slice va3 vn3 vc3, .slice va5 vn5 vc5]) (NodeC.new (by simp [lab0]) (by show w.heap.size ≤ w3.heap.size; omega) hnew ⟨_, _, _, _, _, _, _, _, ?_, .inr rfl⟩) ?_
  · rw [(HTk1.out HB0.out).1]; rfl
  · refine RepC.app _ _ [_] [_, _] (RepC.keep k2 _ _ (HR2.out (pars_good H2.out.sticky HBp.out hb4))) (RepC.app _ _ [_] [_] (RepC.blk (.inl rfl) (HOwn3.out.keep k3) (RepC.keep k3 _ _ (HR3.out hb4))) (RepC.blk (.inl rfl) (HOwn5.out.keep k5) (RepC.keep k5 _ _ (HR5.out hb))))

end Go.Proofs.YtgccmgjbbcndbaaGreatDoor
/- Walks of the code's parser: canBeSet, simple, statement. -/
namespace Go.Proofs.YtgccmgjbbcndbaaGreatDoor
open Go.RowKit
open Go.Deep (BT)

theorem ta_hit {P : Program} {T e xT : TypeId} (hu : P.underlying T = some (.pointer e)) (v : Value) (w : World) : (Instr.typeAssert (.iface T v) xT T true).run P w = .ok (.tuple #[v, .bool true]) w := by
  simp [Instr.typeAssert, run_underlying hu]
theorem ta_miss {P : Program} {T e t xT : TypeId} {z : Value} (hu : P.underlying T = some (.pointer e)) (hz : (P.info? T).map (·.zero) = some (some z)) (h : t ≠ T) (v : Value) (w : World) : (Instr.typeAssert (.iface t v) xT T true).run P w = .ok (.tuple #[z, .bool false]) w := by
  obtain ⟨i, hi, hz⟩ : ∃ i, P.info? T = some i ∧ i.zero = some z := by
    cases hi : P.info? T with
    | none => rw [hi] at hz; cases hz
    | some i => rw [hi] at hz; exact ⟨i, rfl, Option.some.inj hz⟩
  simp [Instr.typeAssert, run_underlying hu, h, zeroValue, typeInfo, hi, hz]

def cbs (t : TypeId) : Bool := t == 199 || t == 200

set_option maxRecDepth 100000 in
set_option maxHeartbeats 1000000 in
theorem canset_any (t : TypeId) (x : Value) (w : World) : Calls Tryz.prog 93 #[.iface t x] w fun e w' => e = .returned (.bool (cbs t)) ∧ w' = w := by
  by_cases h1 : t = 199
  · subst h1
    have a1 := fun w => ta_hit (P := Tryz.prog) (xT := 144) Tryz.underlying199 x w
    have a2 := fun w => ta_miss (P := Tryz.prog) (t := 199) (T := 200) (xT := 144) (z := .pointer none) Tryz.underlying200 (by kernel_rfl) (by decide) x w
    go_enter Tryz.func93, Tryz.ntmps93
    go_wp2
    go_ret
    exact ⟨rfl, rfl⟩
  by_cases h2 : t = 200
  · subst h2
    have a1 := fun w => ta_miss (P := Tryz.prog) (t := 200) (T := 199) (xT := 144) (z := .pointer none) Tryz.underlying199 (by kernel_rfl) (by decide) x w
    have a2 := fun w => ta_hit (P := Tryz.prog) (xT := 144) Tryz.underlying200 x w
    clear h1
    go_enter Tryz.func93, Tryz.ntmps93
    go_wp2
    go_ret
    exact ⟨rfl, rfl⟩
  · have a1 := fun w => ta_miss (P := Tryz.prog) (t := t) (T := 199) (xT := 144) (z := .pointer none) Tryz.underlying199 (by kernel_rfl) h1 x w
    have a2 := fun w => ta_miss (P := Tryz.prog) (t := t) (T := 200) (xT := 144) (z := .pointer none) Tryz.underlying200 (by kernel_rfl) h2 x w
    have HC : Hid (cbs t = false) := by
      show _ = _
      unfold cbs
      rw [beq_eq_false_iff_ne.2 h1, beq_eq_false_iff_ne.2 h2]; rfl
    clear h1 h2
    go_enter Tryz.func93, Tryz.ntmps93
    go_wp2
    go_ret
    exact ⟨ret_bool HC.out.symm, rfl⟩

theorem ptr_set (kd : Nat) : cbs (ptrTy kd) = (kd == 6 || kd == 12) := by
  by_cases h6 : kd = 6
  · subst h6; rfl
  by_cases h12 : kd = 12
  · subst h12; rfl
  rw [beq_eq_false_iff_ne.2 h6, beq_eq_false_iff_ne.2 h12]
  unfold ptrTy
  split <;> first | rfl | (exfalso; omega)

/- what can be set, and what stands in its place -/
theorem set_rep {D : Nat → Prop} {W : World} {f v : BT Lab} {t : TypeId} {x vv : Value} (h : RepC D W f [.iface t x]) (hv : RepC D W v [vv]) :
    cbs t = canSet f ∧ (canSet f = true → ∃ l ch ks, setNode f v = nd l ch ∧ ¬ (l.kd = 31 ∨ l.kd = 32) ∧ ptrTy l.kd = 171 ∧ strTy l.kd = 173 ∧ LayC D W l #[.iface t x, vv] ks ∧ RepC D W ch ks) := by
  cases f with
  | nil => rw [RepC] at h; cases h
  | node x0 y0 l ch sib =>
    obtain ⟨v0, ks, rest, e, h1, h2, h3⟩ := h
    injection e with e1 e2
    subst e1 e2
    unfold NodeC at h1
    split at h1
    · obtain ⟨⟨_, _, _, e⟩, _⟩ := h1; cases e
    · obtain ⟨b2, cs, e, hD, hb, hl⟩ := h1
      injection e with e1 e2
      subst e1 e2
      refine ⟨ptr_set l.kd, fun hc => ?_⟩
      have hc' : (l.kd == 6 || l.kd == 12) = true := hc
      simp only [Bool.or_eq_true, beq_iff_eq] at hc'
      rcases hc' with h6 | h12
      · unfold LayC at hl
        rw [h6] at hl
        simp only at hl
        obtain ⟨rfl, rfl⟩ := hl
        have hb' : W.heap[b2]? = some (.cells #[lnV l.line, stV l.s] 204 (0, 0)) := by rw [hb, h6]; rfl
        refine ⟨⟨28, l.line, l.s, 0, []⟩, v, [vv], ?_, by simp, rfl, rfl, ⟨b2, vv, ?_, hD, hb', rfl⟩, hv⟩
        · unfold setNode rootLab; rw [if_pos h6]
        · rw [h6]; rfl
      · unfold LayC at hl
        rw [h12] at hl
        simp only at hl
        obtain ⟨a, b, rfl, rfl⟩ := hl
        have hb' : W.heap[b2]? = some (.cells #[lnV l.line, a, b] 222 (0, 0)) := by rw [hb, h12]; rfl
        refine ⟨lab0 29 l.line, bapp ch v, [a, b, vv], ?_, by simp [lab0], rfl, rfl, ⟨b2, a, b, vv, ?_, hD, hb', rfl⟩, RepC.app _ _ [a, b] [vv] h2 hv⟩
        · unfold setNode rootLab kidsOf; rw [if_neg (show ¬ l.kd = 6 by omega)]
        · rw [h12]; rfl
end Go.Proofs.YtgccmgjbbcndbaaGreatDoor
/- Walks of the code's parser: simple, statement. -/
namespace Go.Proofs.YtgccmgjbbcndbaaGreatDoor
open Go.RowKit
open Go.Deep (BT)

theorem blk2p {w : World} {g : Nat} {a0 a1 : Value} {t : TypeId} (h : w.heap[g]? = some (.cells #[a0, a1] t (0, 0))) :
    w.cell? ⟨g, 0, none⟩ = some a0 ∧ w.cell? ⟨g, 1, none⟩ = some a1 ∧ (∀ o, w.frozen? ⟨g, o, none⟩ = false) ∧ g < w.heap.size :=
  ⟨cell_row h 0 _ rfl, cell_row h 1 _ rfl, frozen_row h, heap_lt h⟩

def SiPost (b tb cap te : Nat) (ts : List Tk) (w : World) (r : BT Lab × PS) (e : Ending) (w' : World) : Prop :=
  ∃ r' : BT Lab × PS, ExPost b tb cap te ts w r' e w' ∧ r.1 = r'.1 ∧ r.2 = wantS 25 r'.2

set_option maxRecDepth 100000 in
set_option maxHeartbeats 4000000 in
theorem sret0_any {b tb cap te : Nat} {ts : List Tk} {n : Nat} (w : World) (s : PS) (r : BT Lab × PS) (hk : kT s = 9) (hk2 : kT (takeS s) = 25) (hs : PR b tb cap te ts w s) (hp : pars (n + 1) 9 0 .nil s = some r) :
    Calls Tryz.prog 79 #[.pointer (some ⟨b, 0, none⟩)] w (SiPost b tb cap te ts w r) := by
  have HS := hide hs
  have lb := hs.lt
  have hf1 := cf1
  have HR := hide (pars_sret0 hk hk2 hp)
  have HB0 : Hid (s.bad = 0) := hs.notEnd (by omega)
  have t25 : ((kT (takeS s) : Int) != 25) = false := by rw [hk2]; rfl
  have t9 : ((kT s : Int) == 9) = true := ke (c := 9) rfl hk
  clear hp hs hk hk2
  go_enter Tryz.func79, Tryz.ntmps79
  go_wp2_with fail
  refine (kind_any HS.out).mono ?_
  rintro e w1 ⟨rfl, h1, hb1⟩
  have HP1 := hide (Below.only (b := b) hb1)
  have HO1 : Hid (Only b w w1) := (Only.refl b w).trans HP1.out
  have lw1 := HO1.out.size
  have H1 := hide h1
  clear h1 hb1
  go_wp2_with fail
  refine (take_any H1.out).mono ?_
  rintro e w2 ⟨ln2, nn2, S2, rfl, htk2, h2, ho2⟩
  have HP2 := hide ho2
  have HO2 : Hid (Only b w w2) := HO1.out.trans HP2.out
  have lw2 := HO2.out.size
  have HTk2 := hide htk2
  have H2 := hide h2
  clear h2 ho2 htk2
  have HT2 := hide (heap_alloc_new w2 (.cells #[.int .i64 ln2, .nilIface] 162))
  go_wp2_with fail
  refine (kind_any (PR.alloc H2.out _)).mono ?_
  rintro e w3 ⟨rfl, h3, hb3⟩
  have HP3 := hide (Below.only (b := b) hb3)
  have HO3 : Hid (Only b w w3) := (HO2.out.alloc _).trans HP3.out
  have lw3 := HO3.out.size
  have H3 := hide h3
  clear h3 hb3
  go_wp2
  go_ret
  rw [HR.out]
  refine ⟨(nd (lab0 24 (hdT s).line) .nil, takeS s), ⟨_, _, rfl, H3.out, HO3.out, fun hb => ?_⟩, rfl, rfl⟩
  refine RepC.one (l := lab0 24 (hdT s).line) (ks := []) (NodeC.new (by simp [lab0]) (by show w.heap.size ≤ w2.heap.size; omega) (HP3.out.blk HT2.out (by omega)) ⟨_, ?_, .inl ⟨rfl, rfl⟩⟩) rfl
  rw [(HTk2.out HB0.out).1]; rfl

set_option maxRecDepth 100000 in
set_option maxHeartbeats 4000000 in
theorem sret_any {b tb cap te : Nat} {ts : List Tk} {n : Nat} (ih : CodePars b tb cap te ts n) (w : World) (s : PS) (r : BT Lab × PS) (hk : kT s = 9) (hk2 : kT (takeS s) ≠ 25) (hs : PR b tb cap te ts w s) (hp : pars (n + 1) 9 0 .nil s = some r) :
    Calls Tryz.prog 79 #[.pointer (some ⟨b, 0, none⟩)] w (SiPost b tb cap te ts w r) := by
  have HS := hide hs
  have lb := hs.lt
  have hf1 := cf1
  obtain ⟨x, hx, hr⟩ := pars_sret hk hk2 hp
  have HR := hide hr
  have HB0 : Hid (s.bad = 0) := hs.notEnd (by omega)
  have t25 : ((kT (takeS s) : Int) != 25) = true := by simp; omega
  have HX := hide (fun (W : World) (h : PR b tb cap te ts W (takeS s)) => pexpr_any ih W (takeS s) x h hx)
  have t9 : ((kT s : Int) == 9) = true := ke (c := 9) rfl hk
  clear hp hs hk hk2 hx hr
  go_enter Tryz.func79, Tryz.ntmps79
  go_wp2_with fail
  refine (kind_any HS.out).mono ?_
  rintro e w1 ⟨rfl, h1, hb1⟩
  have HP1 := hide (Below.only (b := b) hb1)
  have HO1 : Hid (Only b w w1) := (Only.refl b w).trans HP1.out
  have lw1 := HO1.out.size
  have H1 := hide h1
  clear h1 hb1
  go_wp2_with fail
  refine (take_any H1.out).mono ?_
  rintro e w2 ⟨ln2, nn2, S2, rfl, htk2, h2, ho2⟩
  have HP2 := hide ho2
  have HO2 : Hid (Only b w w2) := HO1.out.trans HP2.out
  have lw2 := HO2.out.size
  have HTk2 := hide htk2
  have H2 := hide h2
  clear h2 ho2 htk2
  have HT2 := hide (heap_alloc_new w2 (.cells #[.int .i64 ln2, .nilIface] 162))
  have lw2b : w2.heap.size < (w2.alloc (.cells #[.int .i64 ln2, .nilIface] 162)).heap.size := by simp
  go_wp2_with fail
  refine (kind_any (PR.alloc H2.out _)).mono ?_
  rintro e w3 ⟨rfl, h3, hb3⟩
  have HP3 := hide (Below.only (b := b) hb3)
  have HO3 : Hid (Only b w w3) := (HO2.out.alloc _).trans HP3.out
  have lw3 := HO3.out.size
  have H3 := hide h3
  clear h3 hb3
  have HT3 := hide (HP3.out.blk HT2.out (by omega))
  go_wp2_with fail
  refine (HX.out _ H3.out).mono ?_
  rintro e w4 ⟨ty4, x4, rfl, h4, ho4, hr4⟩
  have HP4 := hide ho4
  have HO4 : Hid (Only b w w4) := HO3.out.trans HP4.out
  have lw4 := HO4.out.size
  have HR4 := hide hr4
  have H4 := hide h4
  clear h4 ho4 hr4
  have HT4 := hide (HP4.out.blk HT3.out (by omega))
  obtain ⟨y0, y1, fy, ly⟩ := blk2p HT4.out
  go_wp2
  go_ret
  rw [HR.out]
  have hold : ∀ k, k ≠ w2.heap.size → (w4.setCell ⟨w2.heap.size, 1, none⟩ (.iface ty4 x4)).heap[k]? = w4.heap[k]? := fun k hk => Below.heap_setCell _ _ _ _ (by exact hk)
  refine ⟨(nd (lab0 24 (hdT s).line) x.1, x.2), ⟨_, _, rfl, PR.other H4.out (by show b ≠ w2.heap.size; omega) (by show tb ≠ w2.heap.size; omega) _, Only.set (p := ⟨w2.heap.size, 1, none⟩) HO4.out (.inr (by show w.heap.size ≤ w2.heap.size; omega)) _, fun hb => ?_⟩, rfl, rfl⟩
  have hnew : (w4.setCell ⟨w2.heap.size, 1, none⟩ (.iface ty4 x4)).heap[w2.heap.size]? = some (.cells #[.int .i64 ln2, .iface ty4 x4] 162 (0, 0)) := by
    have := heap_set (j := 1) HT4.out (.iface ty4 x4)
    simpa using this
  have lw3b := heap_lt HT3.out
  refine RepC.one (l := lab0 24 (hdT s).line) (ks := [.iface ty4 x4]) (NodeC.new (by simp [lab0]) (by show w.heap.size ≤ w2.heap.size; omega) hnew ⟨_, ?_, .inr rfl⟩) (RepC.keep (fun g (hg : w3.heap.size ≤ g) _ => ⟨hold g (by omega), by omega⟩) _ _ (HR4.out hb))
  rw [(HTk2.out HB0.out).1]; rfl

set_option maxRecDepth 100000 in
set_option maxHeartbeats 4000000 in
theorem sbreak_any {b tb cap te : Nat} {ts : List Tk} {n : Nat} (w : World) (s : PS) (r : BT Lab × PS) (hk : kT s = 10) (hs : PR b tb cap te ts w s) (hp : pars (n + 1) 9 0 .nil s = some r) :
    Calls Tryz.prog 79 #[.pointer (some ⟨b, 0, none⟩)] w (SiPost b tb cap te ts w r) := by
  have HS := hide hs
  have lb := hs.lt
  have hf1 := cf1
  have HR := hide (pars_sbreak hk hp)
  have HB0 : Hid (s.bad = 0) := hs.notEnd (by omega)
  have t9 : ((kT s : Int) == 9) = false := kn (c := 9) rfl (by omega)
  have t10 : ((kT s : Int) == 10) = true := ke (c := 10) rfl hk
  clear hp hs hk
  go_enter Tryz.func79, Tryz.ntmps79
  go_wp2_with fail
  refine (kind_any HS.out).mono ?_
  rintro e w1 ⟨rfl, h1, hb1⟩
  have HP1 := hide (Below.only (b := b) hb1)
  have HO1 : Hid (Only b w w1) := (Only.refl b w).trans HP1.out
  have lw1 := HO1.out.size
  have H1 := hide h1
  clear h1 hb1
  go_wp2_with fail
  refine (take_any H1.out).mono ?_
  rintro e w2 ⟨ln2, nn2, S2, rfl, htk2, h2, ho2⟩
  have HP2 := hide ho2
  have HO2 : Hid (Only b w w2) := HO1.out.trans HP2.out
  have lw2 := HO2.out.size
  have HTk2 := hide htk2
  have H2 := hide h2
  clear h2 ho2 htk2
  go_wp2
  go_ret
  rw [HR.out]
  refine ⟨(nd (lab0 25 (hdT s).line) .nil, takeS s), ex_close (l := lab0 25 (hdT s).line) (ch := .nil) (ks := []) H2.out HO2.out rfl (by simp [lab0]) rfl rfl (fun _ => ⟨⟨?_, rfl⟩, rfl⟩), rfl, rfl⟩
  rw [(HTk2.out HB0.out).1]; rfl

set_option maxRecDepth 100000 in
set_option maxHeartbeats 4000000 in
theorem scont_any {b tb cap te : Nat} {ts : List Tk} {n : Nat} (w : World) (s : PS) (r : BT Lab × PS) (hk : kT s = 11) (hs : PR b tb cap te ts w s) (hp : pars (n + 1) 9 0 .nil s = some r) :
    Calls Tryz.prog 79 #[.pointer (some ⟨b, 0, none⟩)] w (SiPost b tb cap te ts w r) := by
  have HS := hide hs
  have lb := hs.lt
  have hf1 := cf1
  have HR := hide (pars_scont hk hp)
  have HB0 : Hid (s.bad = 0) := hs.notEnd (by omega)
  have t9 : ((kT s : Int) == 9) = false := kn (c := 9) rfl (by omega)
  have t10 : ((kT s : Int) == 10) = false := kn (c := 10) rfl (by omega)
  have t11 : ((kT s : Int) == 11) = true := ke (c := 11) rfl hk
  clear hp hs hk
  go_enter Tryz.func79, Tryz.ntmps79
  go_wp2_with fail
  refine (kind_any HS.out).mono ?_
  rintro e w1 ⟨rfl, h1, hb1⟩
  have HP1 := hide (Below.only (b := b) hb1)
  have HO1 : Hid (Only b w w1) := (Only.refl b w).trans HP1.out
  have lw1 := HO1.out.size
  have H1 := hide h1
  clear h1 hb1
  go_wp2_with fail
  refine (take_any H1.out).mono ?_
  rintro e w2 ⟨ln2, nn2, S2, rfl, htk2, h2, ho2⟩
  have HP2 := hide ho2
  have HO2 : Hid (Only b w w2) := HO1.out.trans HP2.out
  have lw2 := HO2.out.size
  have HTk2 := hide htk2
  have H2 := hide h2
  clear h2 ho2 htk2
  go_wp2
  go_ret
  rw [HR.out]
  refine ⟨(nd (lab0 26 (hdT s).line) .nil, takeS s), ex_close (l := lab0 26 (hdT s).line) (ch := .nil) (ks := []) H2.out HO2.out rfl (by simp [lab0]) rfl rfl (fun _ => ⟨⟨?_, rfl⟩, rfl⟩), rfl, rfl⟩
  rw [(HTk2.out HB0.out).1]; rfl

set_option maxRecDepth 100000 in
set_option maxHeartbeats 4000000 in
theorem sprint_any {b tb cap te : Nat} {ts : List Tk} {n : Nat} (ih : CodePars b tb cap te ts n) (w : World) (s : PS) (r : BT Lab × PS) (hk : kT s = 12) (hs : PR b tb cap te ts w s) (hp : pars (n + 1) 9 0 .nil s = some r) :
    Calls Tryz.prog 79 #[.pointer (some ⟨b, 0, none⟩)] w (SiPost b tb cap te ts w r) := by
  have HS := hide hs
  have lb := hs.lt
  have hf1 := cf1
  obtain ⟨x, hx, hr⟩ := pars_sprint hk hp
  have HR := hide hr
  have HB0 : Hid (s.bad = 0) := hs.notEnd (by omega)
  have HX := hide (fun (W : World) (h : PR b tb cap te ts W (takeS s)) => pexpr_any ih W (takeS s) x h hx)
  have t9 : ((kT s : Int) == 9) = false := kn (c := 9) rfl (by omega)
  have t10 : ((kT s : Int) == 10) = false := kn (c := 10) rfl (by omega)
  have t11 : ((kT s : Int) == 11) = false := kn (c := 11) rfl (by omega)
  have t12 : ((kT s : Int) == 12) = true := ke (c := 12) rfl hk
  clear hp hs hk hx hr
  go_enter Tryz.func79, Tryz.ntmps79
  go_wp2_with fail
  refine (kind_any HS.out).mono ?_
  rintro e w1 ⟨rfl, h1, hb1⟩
  have HP1 := hide (Below.only (b := b) hb1)
  have HO1 : Hid (Only b w w1) := (Only.refl b w).trans HP1.out
  have lw1 := HO1.out.size
  have H1 := hide h1
  clear h1 hb1
  go_wp2_with fail
  refine (take_any H1.out).mono ?_
  rintro e w2 ⟨ln2, nn2, S2, rfl, htk2, h2, ho2⟩
  have HP2 := hide ho2
  have HO2 : Hid (Only b w w2) := HO1.out.trans HP2.out
  have lw2 := HO2.out.size
  have HTk2 := hide htk2
  have H2 := hide h2
  clear h2 ho2 htk2
  go_wp2_with fail
  refine (HX.out _ H2.out).mono ?_
  rintro e w3 ⟨ty3, x3, rfl, h3, ho3, hr3⟩
  have HP3 := hide ho3
  have HO3 : Hid (Only b w w3) := HO2.out.trans HP3.out
  have lw3 := HO3.out.size
  have HR3 := hide hr3
  have H3 := hide h3
  clear h3 ho3 hr3
  go_wp2
  go_ret
  rw [HR.out]
  refine ⟨(nd (lab0 27 (hdT s).line) x.1, x.2), ex_close (l := lab0 27 (hdT s).line) (ch := x.1) (ks := [.iface ty3 x3]) H3.out HO3.out rfl (by simp [lab0]) rfl rfl (fun hb => ⟨⟨_, ?_, rfl⟩, RepC.weak (by omega) (HR3.out hb)⟩), rfl, rfl⟩
  rw [(HTk2.out HB0.out).1]; rfl

set_option maxRecDepth 100000 in
set_option maxHeartbeats 4000000 in
theorem ssimple_any {b tb cap te : Nat} {ts : List Tk} {n : Nat} (ih : CodePars b tb cap te ts n) (w : World) (s : PS) (r : BT Lab × PS) (hk : ¬ (5 ≤ kT s ∧ kT s ≤ 12 ∧ kT s ≠ 7)) (hs : PR b tb cap te ts w s) (hp : pars (n + 1) 9 0 .nil s = some r) :
    Calls Tryz.prog 79 #[.pointer (some ⟨b, 0, none⟩)] w (SiPost b tb cap te ts w r) := by
  have HS := hide hs
  have lb := hs.lt
  have hf1 := cf1
  obtain ⟨x, hx, hc⟩ := pars_simple hk hp
  have HC := hide hc
  have HX := hide (fun (W : World) (h : PR b tb cap te ts W s) => pexpr_any ih W s x h hx)
  have t9 : ((kT s : Int) == 9) = false := kn (c := 9) rfl (by omega)
  have t10 : ((kT s : Int) == 10) = false := kn (c := 10) rfl (by omega)
  have t11 : ((kT s : Int) == 11) = false := kn (c := 11) rfl (by omega)
  have t12 : ((kT s : Int) == 12) = false := kn (c := 12) rfl (by omega)
  clear hp hs hk hx hc hf1
  go_enter Tryz.func79, Tryz.ntmps79
  go_wp2_with fail
  refine (kind_any HS.out).mono ?_
  rintro e w1 ⟨rfl, h1, hb1⟩
  have HP1 := hide (Below.only (b := b) hb1)
  have HO1 : Hid (Only b w w1) := (Only.refl b w).trans HP1.out
  have lw1 := HO1.out.size
  have H1 := hide h1
  clear h1 hb1
  go_wp2_with fail
  refine (HX.out _ H1.out).mono ?_
  rintro e w2 ⟨ty2, x2, rfl, h2, ho2, hr2⟩
  have HP2 := hide ho2
  have HO2 : Hid (Only b w w2) := HO1.out.trans HP2.out
  have lw2 := HO2.out.size
  have HR2 := hide hr2
  have H2 := hide h2
  clear h2 ho2 hr2
  rcases HC.out with ⟨c1, c2, v, hv, hr⟩ | ⟨c1, c2, v, hv, hr⟩ | ⟨c2, hr⟩
  · have hb0 : x.2.bad = 0 := H2.out.notEnd (by omega)
    have tc : cbs ty2 = true := by rw [(set_rep (HR2.out hb0) (HR2.out hb0)).1]; exact c1
    have HCs := hide c1
    have HB := hide hb0
    have HR := hide hr
    have tk : (kT x.2 == 26) = true := by simpa using c2
    have HM : Hid (mayS 26 x.2 = takeS x.2) := by show _ = _; unfold mayS; rw [if_pos c2]
    have HV := hide (fun (W : World) (h : PR b tb cap te ts W (takeS x.2)) => pexpr_any ih W (takeS x.2) v h hv)
    clear c1 c2 hv hr HC hb0
    go_wp2_with fail
    refine (canset_any _ _ _).mono ?_
    rintro e w' ⟨rfl, rfl⟩
    rw [tc]
    go_wp2_with fail
    refine (accept_any H2.out 26).mono ?_
    rintro e w3 ⟨rfl, h3, ho3⟩
    have HP3 := hide ho3
    have HO3 : Hid (Only b w w3) := HO2.out.trans HP3.out
    have lw3 := HO3.out.size
    rw [tk]
    rw [HM.out] at h3
    have H3 := hide h3
    clear h3 ho3
    go_wp2_with fail
    refine (HV.out _ H3.out).mono ?_
    rintro e w4 ⟨ty4, x4, rfl, h4, ho4, hr4⟩
    have HP4 := hide ho4
    have HO4 : Hid (Only b w w4) := HO3.out.trans HP4.out
    have lw4 := HO4.out.size
    have HR4 := hide hr4
    have H4 := hide h4
    clear h4 ho4 hr4
    go_wp2
    go_ret
    rw [HR.out]
    refine ⟨(setNode x.1 v.1, v.2), ⟨_, _, rfl, PR.alloc H4.out _, HO4.out.alloc _, fun hb => ?_⟩, rfl, rfl⟩
    have r2 : RepC (fun g => w.heap.size ≤ g) w4 x.1 [.iface ty2 x2] := RepC.later (by omega) (by omega) (HP3.out.trans HP4.out) (HR2.out HB.out)
    have r4 : RepC (fun g => w.heap.size ≤ g) w4 v.1 [.iface ty4 x4] := RepC.weak (by omega) (HR4.out hb)
    obtain ⟨l, ch, ks, e1, e2, e3, e4, e5, e6⟩ := (set_rep r2 r4).2 HCs.out
    have hcl := ex_close (w := w) (W := w4) (r := (setNode x.1 v.1, v.2)) (l := l) (ch := ch) (ks := ks) (cs := #[.iface ty2 x2, .iface ty4 x4]) (t := 171) (tt := 173) H4.out HO4.out e1 e2 e3.symm e4.symm (fun _ => ⟨e5, e6⟩)
    obtain ⟨t', x', e', _, _, hrr⟩ := hcl
    injection e' with e'
    rw [← e'] at hrr
    exact hrr hb
  · have hb0 : x.2.bad = 0 := H2.out.notEnd (by omega)
    have tc : cbs ty2 = false := by rw [(set_rep (HR2.out hb0) (HR2.out hb0)).1]; exact c1
    have hf : (failS x.2).bad ≠ 0 := fail_ne (fun e => (H2.out.lines e).1)
    have hv2 : v.2 = failS x.2 := pars_sticky (fail_ts _ hb0) hf _ _ _ _ _ hv
    have hw : wantS 25 v.2 = wantS 25 x.2 := by
      rw [hv2, want_same (by decide) hf (fail_ts _ hb0)]
      unfold wantS; rw [if_neg (by omega)]
    have HR : Hid (r = (nd (lab0 30 (rootLab x.1).line) x.1, wantS 25 x.2)) := by show _ = _; rw [hr, hw]
    clear c1 c2 hv hr HC hb0 hf hv2 hw
    go_wp2_with fail
    refine (canset_any _ _ _).mono ?_
    rintro e w' ⟨rfl, rfl⟩
    rw [tc]
    go_wp2
    go_ret
    rw [HR.out]
    refine ⟨(nd (lab0 30 (rootLab x.1).line) x.1, x.2), ?_, rfl, rfl⟩
    exact ex_close (l := lab0 30 (rootLab x.1).line) (ch := x.1) (ks := [.iface ty2 x2]) H2.out HO2.out rfl (by simp [lab0]) rfl rfl (fun hb => ⟨⟨_, rfl, rfl⟩, RepC.weak (by omega) (HR2.out hb)⟩)
  · have HR := hide hr
    have tk : (kT x.2 == 26) = false := by simpa using c2
    have HM : Hid (mayS 26 x.2 = x.2) := by show _ = _; unfold mayS; rw [if_neg c2]
    clear c2 hr HC
    cases tc : cbs ty2
    · go_wp2_with fail
      refine (canset_any _ _ _).mono ?_
      rintro e w' ⟨rfl, rfl⟩
      rw [tc]
      go_wp2
      go_ret
      rw [HR.out]
      refine ⟨(nd (lab0 30 (rootLab x.1).line) x.1, x.2), ?_, rfl, rfl⟩
      exact ex_close (l := lab0 30 (rootLab x.1).line) (ch := x.1) (ks := [.iface ty2 x2]) H2.out HO2.out rfl (by simp [lab0]) rfl rfl (fun hb => ⟨⟨_, rfl, rfl⟩, RepC.weak (by omega) (HR2.out hb)⟩)
    · go_wp2_with fail
      refine (canset_any _ _ _).mono ?_
      rintro e w' ⟨rfl, rfl⟩
      rw [tc]
      go_wp2_with fail
      refine (accept_any H2.out 26).mono ?_
      rintro e w3 ⟨rfl, h3, ho3⟩
      have HP3 := hide ho3
      have HO3 : Hid (Only b w w3) := HO2.out.trans HP3.out
      have lw3 := HO3.out.size
      rw [tk]
      rw [HM.out] at h3
      have H3 := hide h3
      clear h3 ho3
      go_wp2
      go_ret
      rw [HR.out]
      refine ⟨(nd (lab0 30 (rootLab x.1).line) x.1, x.2), ?_, rfl, rfl⟩
      exact ex_close (l := lab0 30 (rootLab x.1).line) (ch := x.1) (ks := [.iface ty2 x2]) H3.out HO3.out rfl (by simp [lab0]) rfl rfl (fun hb => ⟨⟨_, rfl, rfl⟩, RepC.later (by omega) (by omega) HP3.out (HR2.out hb)⟩)

theorem psimple_any {b tb cap te : Nat} {ts : List Tk} {n : Nat} (ih : CodePars b tb cap te ts n) (w : World) (s : PS) (r : BT Lab × PS) (h5 : kT s ≠ 5) (h6 : kT s ≠ 6) (h8 : kT s ≠ 8) (hs : PR b tb cap te ts w s) (hp : pars (n + 1) 9 0 .nil s = some r) :
    Calls Tryz.prog 79 #[.pointer (some ⟨b, 0, none⟩)] w (SiPost b tb cap te ts w r) := by
  by_cases c9 : kT s = 9
  · by_cases c25 : kT (takeS s) = 25
    · exact sret0_any w s r c9 c25 hs hp
    · exact sret_any ih w s r c9 c25 hs hp
  by_cases c10 : kT s = 10
  · exact sbreak_any w s r c10 hs hp
  by_cases c11 : kT s = 11
  · exact scont_any w s r c11 hs hp
  by_cases c12 : kT s = 12
  · exact sprint_any ih w s r c12 hs hp
  exact ssimple_any ih w s r (by omega) hs hp

set_option maxRecDepth 100000 in
set_option maxHeartbeats 4000000 in
theorem pstmt_any {b tb cap te : Nat} {ts : List Tk} {n : Nat} (ih : CodePars b tb cap te ts n) (w : World) (s : PS) (r : BT Lab × PS) (hs : PR b tb cap te ts w s) (hp : pars (n + 1) 9 0 .nil s = some r) :
    Calls Tryz.prog 56 #[.pointer (some ⟨b, 0, none⟩)] w (ExPost b tb cap te ts w r) := by
  by_cases c8 : kT s = 8
  · exact pwhile_any ih w s r c8 hs hp
  have HS := hide hs
  have lb := hs.lt
  by_cases c5 : kT s = 5
  · have HX := hide (fun (W : World) (h : PR b tb cap te ts W s) => plet_any ih W s r c5 h hp)
    have t5 : ((kT s : Int) == 5) = true := ke (c := 5) rfl c5
    clear hp hs c5 c8
    go_enter Tryz.func56, Tryz.ntmps56
    go_wp2_with fail
    refine (kind_any HS.out).mono ?_
    rintro e w1 ⟨rfl, h1, hb1⟩
    have HP1 := hide (Below.only (b := b) hb1)
    have HO1 : Hid (Only b w w1) := (Only.refl b w).trans HP1.out
    have lw1 := HO1.out.size
    have H1 := hide h1
    clear h1 hb1
    go_wp2_with fail
    refine (HX.out _ H1.out).mono ?_
    rintro e w2 ⟨ty2, x2, rfl, h2, ho2, hr2⟩
    have HP2 := hide ho2
    have HO2 : Hid (Only b w w2) := HO1.out.trans HP2.out
    have lw2 := HO2.out.size
    have HR2 := hide hr2
    have H2 := hide h2
    clear h2 ho2 hr2
    go_wp2
    go_ret
    exact ⟨_, _, rfl, H2.out, HO2.out, fun hb => RepC.weak (by omega) (HR2.out hb)⟩
  have t5 : ((kT s : Int) == 5) = false := kn (c := 5) rfl c5
  by_cases c6 : kT s = 6
  · have HX : Hid (∀ W, PR b tb cap te ts W s → Calls Tryz.prog 76 #[.pointer (some ⟨b, 0, none⟩)] W (ExPost b tb cap te ts W r)) := by
      intro W h
      obtain ⟨x, bl, h1, h2, ⟨h3, c, h4, e⟩ | ⟨h3, e⟩⟩ := pars_sif c6 hp
      · exact pif1_any ih W s r c6 x bl h1 h2 h3 c h4 e h
      · exact pif0_any ih W s r c6 x bl h1 h2 h3 e h
    have t6 : ((kT s : Int) == 6) = true := ke (c := 6) rfl c6
    clear hp hs c5 c8 c6
    go_enter Tryz.func56, Tryz.ntmps56
    go_wp2_with fail
    refine (kind_any HS.out).mono ?_
    rintro e w1 ⟨rfl, h1, hb1⟩
    have HP1 := hide (Below.only (b := b) hb1)
    have HO1 : Hid (Only b w w1) := (Only.refl b w).trans HP1.out
    have lw1 := HO1.out.size
    have H1 := hide h1
    clear h1 hb1
    go_wp2_with fail
    refine (HX.out _ H1.out).mono ?_
    rintro e w2 ⟨ty2, x2, rfl, h2, ho2, hr2⟩
    have HP2 := hide ho2
    have HO2 : Hid (Only b w w2) := HO1.out.trans HP2.out
    have lw2 := HO2.out.size
    have HR2 := hide hr2
    have H2 := hide h2
    clear h2 ho2 hr2
    go_wp2
    go_ret
    exact ⟨_, _, rfl, H2.out, HO2.out, fun hb => RepC.weak (by omega) (HR2.out hb)⟩
  have t6 : ((kT s : Int) == 6) = false := kn (c := 6) rfl c6
  have t8 : ((kT s : Int) == 8) = false := kn (c := 8) rfl c8
  have HX := hide (fun (W : World) (h : PR b tb cap te ts W s) => psimple_any ih W s r c5 c6 c8 h hp)
  clear hp hs c5 c8 c6
  go_enter Tryz.func56, Tryz.ntmps56
  go_wp2_with fail
  refine (kind_any HS.out).mono ?_
  rintro e w1 ⟨rfl, h1, hb1⟩
  have HP1 := hide (Below.only (b := b) hb1)
  have HO1 : Hid (Only b w w1) := (Only.refl b w).trans HP1.out
  have lw1 := HO1.out.size
  have H1 := hide h1
  clear h1 hb1
  go_wp2_with fail
  refine (HX.out _ H1.out).mono ?_
  rintro e w2 ⟨r2, ⟨ty2, x2, rfl, h2, ho2, hr2⟩, e21, e22⟩
  have HP2 := hide ho2
  have HO2 : Hid (Only b w w2) := HO1.out.trans HP2.out
  have lw2 := HO2.out.size
  have HR2 := hide hr2
  have HE1 := hide e21
  have HE2 := hide e22
  have H2 := hide h2
  clear h2 ho2 hr2 e21 e22
  go_wp2_with fail
  refine (want_any H2.out 25).mono ?_
  rintro e w3 ⟨kk3, ln3, nn3, S3, rfl, htk3, h3, ho3⟩
  have HP3 := hide ho3
  have HO3 : Hid (Only b w w3) := HO2.out.trans HP3.out
  have lw3 := HO3.out.size
  have HTk3 := hide htk3
  have H3 := hide h3
  clear h3 ho3 htk3
  go_wp2
  go_ret
  refine ⟨_, _, rfl, by rw [HE2.out]; exact H3.out, HO3.out, fun hb => ?_⟩
  rw [HE2.out] at hb
  rw [HE1.out]
  exact RepC.later (by omega) (by omega) HP3.out (HR2.out (want_goodC hb))

/- all of them, by their fuel -/
theorem codePars {b tb cap te : Nat} {ts : List Tk} : ∀ N n, n ≤ N → n ≤ 500000 → CodePars b tb cap te ts n := by
  intro N
  induction N with
  | zero =>
    intro n hn _
    obtain rfl : n = 0 := by omega
    exact ⟨fun _ _ _ _ _ _ h => absurd h (pars_zero _ _ _ _ _), fun _ _ _ _ h => absurd h (pars_zero _ _ _ _ _), fun _ _ _ _ h => absurd h (pars_zero _ _ _ _ _), fun _ _ _ _ _ h => absurd h (pars_zero _ _ _ _ _), fun _ _ _ _ h => absurd h (pars_zero _ _ _ _ _), fun _ _ _ _ h => absurd h (pars_zero _ _ _ _ _)⟩
  | succ N ih =>
    intro n hn h5
    cases n with
    | zero => exact ih 0 (by omega) (by omega)
    | succ n =>
      have ihn : ∀ m, m ≤ n → CodePars b tb cap te ts m := fun m hm => ih m (by omega) (by omega)
      exact ⟨fun w s a r ha hs hp => pbinary_any ihn w s a r ha hs hp, fun w s r hs hp => punary_any ihn w s r hs hp, fun w s r hs hp => patom_any (ihn n (Nat.le_refl _)) w s r hs hp,
        fun w s a r hs hp => items_any ihn (by omega) w s a r hs hp, fun w s r hs hp => pblock_any ihn (by omega) w s r hs hp, fun w s r hs hp => pstmt_any (ihn n (Nat.le_refl _)) w s r hs hp⟩
end Go.Proofs.YtgccmgjbbcndbaaGreatDoor
