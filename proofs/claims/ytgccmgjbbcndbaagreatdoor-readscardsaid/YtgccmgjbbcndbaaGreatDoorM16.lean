import Derived.Test.YtgccmgjbbcndbaaGreatDoorM15
/- Walk of list. -/
namespace Go.Proofs.YtgccmgjbbcndbaaGreatDoor
open Go.RowKit
open Go.Deep (BT)

theorem infoNode : (Tryz.prog.info? 41).map (fun i => (i.zero, i.size, i.bytes)) = some (some (.agg #[.string ⟨#[]⟩, .int .i64 0, .string ⟨#[]⟩, .int .i64 0, .slice none 0 0, .slice none 0 0]), 6, 96) := by kernel_rfl

theorem nd_one {I S : List UInt8} {ln nn : Int} {va : Option Addr} {vn vc : Nat} {pa : Option Addr} {pn pc : Nat} : ∀ u ∈ (ndC I S ln nn va vn vc pa pn pc).toList, u.oneCell' = true := by
  intro u hu; simp only [ndC, List.mem_cons, List.not_mem_nil, or_false] at hu
  rcases hu with rfl | rfl | rfl | rfl | rfl | rfl <;> rfl

theorem RS.sticky {b tb cap te : Nat} {xs : List (Tk × List UInt8)} {w : World} {s : PS} (h : RS b tb cap te xs w s) (hb : s.bad ≠ 0) : s.ts = [endT] := by
  obtain ⟨pl, h⟩ := h; exact (h.bad hb).1
theorem RS.badCell {b tb cap te : Nat} {xs : List (Tk × List UInt8)} {w : World} {s : PS} (h : RS b tb cap te xs w s) : w.cell? ⟨b, 2, none⟩ = some (.int .i64 (s.bad : Nat)) ∧ s.bad ≤ 100000 := by
  obtain ⟨pl, h⟩ := h; exact ⟨h.cells.2.2, bad_le h⟩

theorem own_only {b : Nat} {w w' : World} {base : Nat} {e : TypeId} {size : Nat} {v : Value} {n : Nat} {cs : List Value} (h : w.ownsRow base e size v n cs) (hO : Only b w w') (hb : v.ownBlock ≠ some b) : w'.ownsRow base e size v n cs :=
  own_same h fun g hg hl => hO.block g hl (fun e => hb (by rw [hg, e]))
theorem RS.grown {b tb cap te : Nat} {xs : List (Tk × List UInt8)} {w w' : World} {s : PS} {row : Option Nat} (h : RS b tb cap te xs w s) (hg : w.grownBy w' row) (h1 : row ≠ some b) (h2 : row ≠ some tb) : RS b tb cap te xs w' s := by
  obtain ⟨pl, h⟩ := h
  exact ⟨pl, h.of_heap (hg.block b (heap_lt h.rd) (fun e => h1 e.symm)) (hg.block tb h.tbl (fun e => h2 e.symm))⟩

/- a list of nodes, one appended: what was there, and the new one, are as they were read -/
theorem app_rep {lo : Nat} {wr w4 W w1 : World} {acc y : BT Lab} {v : Value} {cn g cap b : Nat} {cs c2 : List Value}
    (hlob : b < lo) (hlor : lo ≤ wr.heap.size) (hO4 : Only b wr w4) (hW : ∀ k, k < w4.heap.size → W.heap[k]? = w4.heap[k]?) (hWs : w4.heap.size ≤ W.heap.size) (hown : wr.ownsRow 0 41 6 v cn cs) (hgrow : W.grownBy w1 v.ownBlock) (hat : v.ownBlock = some g ∨ g = W.heap.size + 1)
    (hA : RepF (fun k => lo ≤ k ∧ v.ownBlock ≠ some k) wr acc cs) (hB : RepF (fun k => wr.heap.size ≤ k) w4 y c2) :
    RepF (fun k => lo ≤ k ∧ (Value.slice (some ⟨g, 0, none⟩) (cn + 1) cap).ownBlock ≠ some k) w1 (bapp acc y) (cs ++ c2) := by
  have hs4 := hO4.size
  have hne : ∀ k, k < w4.heap.size → (v.ownBlock ≠ some k) → k ≠ g := by
    intro k hk hv e
    rcases hat with h | h
    · exact hv (by rw [h, e])
    · omega
  refine RepF.app _ _ _ _ (RepF.keep (fun k hk hl => ?_) _ _ hA) (RepF.keep (fun k hk hl => ?_) _ _ hB)
  · have hk' : lo ≤ k ∧ v.ownBlock ≠ some k := hk
    have h1 := hO4.block k hl (by have := hk'.1; omega)
    have h2 := hW k (by omega)
    have h3 := hgrow.block k (by omega) (fun e => hk'.2 e.symm)
    refine ⟨h3.trans (h2.trans h1), hk'.1, ?_⟩
    have := hne k (by omega) hk'.2
    simp only [Value.ownBlock, ne_eq, Option.some.injEq]; omega
  · have hwk : wr.heap.size ≤ k := hk
    have h2 := hW k hl
    have h3 := hgrow.block k (by omega) (fun e => by have := own_lt hown k e.symm; omega)
    refine ⟨h3.trans h2, by omega, ?_⟩
    have := hne k hl (fun e => by have := own_lt hown k e; omega)
    simp only [Value.ownBlock, ne_eq, Option.some.injEq]; omega

/- what holds at the head of the loop over a list -/
def LRel (b tb cap te : Nat) (xs : List (Tk × List UInt8)) (a n : Nat) (r : BT Lab × PS) (w : World) (k : Nat) (v d : Value) (wr : World) : Prop :=
  ∃ (acc : BT Lab) (st : PS) (va : Option Addr) (vn vc cn : Nat) (cs : List Value) (dn : Bool), v = .slice va vn vc ∧ d = .bool dn ∧ k ≤ n ∧
    (dn = true → r = (acc, st)) ∧ (dn = false → (pars k 0 0 .nil st).bind (fun y => pars k 6 a (bapp acc y.1) y.2) = some r) ∧
    RS b tb cap te xs wr st ∧ Only b w wr ∧ cn + k ≤ n + 1 ∧ wr.ownsRow 0 41 6 (.slice va vn vc) cn cs ∧ (∀ g, (Value.slice va vn vc).ownBlock = some g → w.heap.size ≤ g) ∧
    (st.bad = 0 → cn = blen acc ∧ RepF (fun g => w.heap.size ≤ g ∧ (Value.slice va vn vc).ownBlock ≠ some g) wr acc cs)

set_option maxRecDepth 100000 in
set_option maxHeartbeats 2000000 in
theorem list_any {b tb cap te : Nat} {xs : List (Tk × List UInt8)} {n : Nat} (ih : ∀ m, m ≤ n → RefPars b tb cap te xs m) (hn : n ≤ 500000) (w : World) (s : PS) (a : Nat) (q : List UInt8) (r : BT Lab × PS) (ha : a = 19 ∨ a = 23) (hq : q = spell a) (hs : RS b tb cap te xs w s) (hp : pars (n + 1) 5 a .nil s = some r) :
    Calls Tryz.prog 105 #[.pointer (some ⟨b, 0, none⟩), .string ⟨q.toArray⟩] w (ListPost b tb cap te xs w r) := by
  obtain ⟨lb, lt, lne⟩ := hs.lt
  have hmay := hide (may_rs hs a (by omega) (by omega) q hq)
  have hmust := hide (fun (w' : World) (s' : PS) (h : RS b tb cap te xs w' s') => must_rs h a (by omega) (by omega) q hq)
  have HIH := hide ih
  have HM1 := hide (fun h => mayS_eq (k := a) (s := s) h)
  have HM0 := hide (fun h => mayS_ne (k := a) (s := s) h)
  have HP1 := hide (fun h => pars_list1 (a := a) h hp)
  have HP0 := hide (fun h => pars_list0 (a := a) h hp)
  clear hq hp hs ih
  go_enter Tryz.func105, Tryz.ntmps105
  go_wp2_with fail
  refine hmay.out.mono ?_
  rintro e w1 ⟨rfl, hrs1, ho1⟩
  have HRS1 := hide hrs1
  have HO1 := hide ho1
  clear hrs1 ho1
  go_wp2
  go_loopg [5, 6] n (fun k v d wr => LRel b tb cap te xs a n r w k v d wr)
  case atStart =>
    by_cases hk : kT s = a
    · refine ⟨.nil, takeS s, none, 0, 0, 0, [], true, rfl, by rw [hk]; simp, Nat.le_refl _, (fun _ => HP0.out hk), (fun h => by cases h), by rw [← HM1.out hk]; exact HRS1.out, HO1.out, by omega, World.ownsRow_nil _ _ _ _, (fun g hg => by simp [Value.ownBlock] at hg), (fun _ => ⟨rfl, rfl⟩)⟩
    · refine ⟨.nil, s, none, 0, 0, 0, [], false, rfl, by simpa using hk, Nat.le_refl _, (fun h => by cases h), (fun _ => HP1.out hk), by rw [← HM0.out hk]; exact HRS1.out, HO1.out, by omega, World.ownsRow_nil _ _ _ _, (fun g hg => by simp [Value.ownBlock] at hg), (fun _ => ⟨rfl, rfl⟩)⟩
  case round =>
    clear HP1 HP0 HM1 HM0 HRS1 HO1 hmay
    obtain ⟨acc, st, va, vn, vc, cn, cs, dn, rfl, rfl, hkn, hd1, hd0, hrs, hO, hcn, hown, hlo, hrep⟩ := hrel
    cases dn
    · by_cases hbad : st.bad = 0
      · obtain ⟨y, hy1, hy2⟩ := bind_some (hd0 rfl)
        obtain ⟨cb, lbad⟩ := hrs.badCell
        rw [hbad] at cb
        have hu := hide ((HIH.out gk hkn).expr wr st 0 0 y (by omega) (by omega) hrs hy1)
        have HY := hide hy2
        have HRS := hide hrs
        have HO := hide hO
        have HB := hide hbad
        have HOwn := hide hown
        have HLo := hide hlo
        have HRep := hide hrep
        have hsz := hO.size
        clear hy1 hy2 hd0 hd1 hrs hO hbad hrep hown hlo
        cases gk with
        | zero => exact absurd HY.out (pars_zero _ _ _ _ _)
        | succ m =>
        go_wp2_with fail
        refine hu.out.mono ?_
        rintro e w4 ⟨I, S, ln, nn, va4, vn4, vc4, pa, pn, pc, rfl, hr4, ho4, hrep4⟩
        have hne : (Value.slice va vn vc).ownBlock ≠ some b := fun e => by have := HLo.out b e; omega
        have hown4 := (own_only HOwn.out ho4 hne).alloc (.cells (ndC I S ln nn va4 vn4 vc4 pa pn pc) 41)
        have HR4 := hide hr4
        have HO4 := hide ho4
        have HRep4 := hide hrep4
        clear hr4 ho4 hrep4 hne
        go_wp2_with (at_builtin; refine wpl_app (w4.alloc (.cells (ndC I S ln nn va4 vn4 vc4 pa pn pc) 41)) (ndC I S ln nn va4 vn4 vc4 pa pn pc) 41 rfl (.tmp 23) (.tmp 25) 36 rfl 0 6 96 (.agg #[.string ⟨#[]⟩, .int .i64 0, .string ⟨#[]⟩, .int .i64 0, .slice none 0 0, .slice none 0 0]) Tryz.underlying36 infoNode rfl (by omega) _ _ _ rfl (by simp; rfl) hown4 rfl nd_one (by omega) (by omega) (Nat.zero_le _) ?_; intro g cap1 w5 hown5 hgrow hat hg)
        replace hgrow : (w4.alloc (.cells (ndC I S ln nn va4 vn4 vc4 pa pn pc) 41)).grownBy w5 (Value.slice va vn vc).ownBlock := hgrow
        replace hat : (Value.slice va vn vc).ownBlock = some g ∨ g = (w4.alloc (.cells (ndC I S ln nn va4 vn4 vc4 pa pn pc) 41)).heap.size + 1 := hat
        have hrow : ∀ k, (Value.slice va vn vc).ownBlock = some k → k ≠ b ∧ k ≠ tb ∧ w.heap.size ≤ k := fun k e => by have := HLo.out k e; omega
        have hrs5 := (HR4.out.alloc (.cells (ndC I S ln nn va4 vn4 vc4 pa pn pc) 41)).grown hgrow (fun e => (hrow b e).1 rfl) (fun e => (hrow tb e).2.1 rfl)
        have HO5 : Hid (Only b w w5) := ((HO.out.trans HO4.out).alloc _).grown hgrow (fun k e => .inr (hrow k e).2.2)
        have HG : Hid (w.heap.size ≤ g) := by
          rcases hat with h | h
          · exact (hrow g h).2.2
          · show _ ≤ _
            have := HO4.out.size
            rw [h]; simp; omega
        have HRep5 : Hid (y.2.bad = 0 → RepF (fun k => w.heap.size ≤ k ∧ (Value.slice (some ⟨g, 0, none⟩) (cn + 1) cap1).ownBlock ≠ some k) w5 (bapp acc y.1) (cs ++ (ndC I S ln nn va4 vn4 vc4 pa pn pc).toList) ∧ cn + 1 = blen (bapp acc y.1)) := by
          intro hb
          have hr := HRep.out HB.out
          have hr4 := HRep4.out hb
          refine ⟨app_rep lb hsz HO4.out (fun k hk => Below.heap_alloc _ _ _ hk) (by simp) HOwn.out hgrow hat hr.2 hr4.2, ?_⟩
          rw [bapp_len, hr4.1, hr.1]
        have HOwn5 := hide hown5
        have HRS5 := hide hrs5
        have HH := hide (And.intro hgrow hat)
        clear hown5 hgrow hat hrs5 hrow hown4 hg cb
        by_cases h24 : kT y.2 = 24
        · have HM := hide (mayS_eq h24)
          have hk : (kT y.2 == 24) = true := by rw [h24]; rfl
          have HY2 := hide (pars_more h24 HY.out)
          clear h24
          go_wp2_with fail
          refine (may_rs HRS5.out 24 (by omega) (by omega) [44] rfl).mono ?_
          rintro e w6 ⟨rfl, hrs6, ho6⟩
          rw [hk]
          rw [HM.out] at hrs6
          have HRS6 := hide hrs6
          have HO6 := hide ho6
          clear hrs6 ho6
          go_wp2
          go_roundg m
          case measure => omega
          case rel =>
            refine ⟨bapp acc y.1, takeS y.2, some ⟨g, 0, none⟩, cn + 1, cap1, cn + 1, cs ++ (ndC I S ln nn va4 vn4 vc4 pa pn pc).toList, false, rfl, rfl, by omega, (fun h => by cases h), (fun _ => HY2.out), HRS6.out, HO5.out.trans HO6.out, by omega, own_only HOwn5.out HO6.out (by have := HG.out; simp only [Value.ownBlock, ne_eq, Option.some.injEq]; omega), (fun k hk => by simp only [Value.ownBlock, Option.some.injEq] at hk; rw [← hk]; exact HG.out), fun hb => ?_⟩
            rw [take_bad] at hb
            refine ⟨(HRep5.out hb).2, RepF.keep (fun k hk hl => ⟨HO6.out.block k hl (by have hk' : w.heap.size ≤ k ∧ _ := hk; omega), hk⟩) _ _ (HRep5.out hb).1⟩
        · have HM := hide (mayS_ne h24)
          have hk : (kT y.2 == 24) = false := by simpa using h24
          have HY2 := hide (pars_last h24 HY.out)
          clear h24
          go_wp2_with fail
          refine (may_rs HRS5.out 24 (by omega) (by omega) [44] rfl).mono ?_
          rintro e w6 ⟨rfl, hrs6, ho6⟩
          rw [hk]
          rw [HM.out] at hrs6
          have HRS6 := hide hrs6
          have HO6 := hide ho6
          clear hrs6 ho6
          go_wp2_with fail
          refine (hmust.out _ _ HRS6.out).mono ?_
          rintro e w7 ⟨rfl, hrs7, ho7⟩
          have HRS7 := hide hrs7
          have HO7 : Hid (Only b w5 w7) := HO6.out.trans ho7
          clear hrs7 ho7
          go_wp2
          go_roundg m
          case measure => omega
          case rel =>
            refine ⟨bapp acc y.1, wantS a y.2, some ⟨g, 0, none⟩, cn + 1, cap1, cn + 1, cs ++ (ndC I S ln nn va4 vn4 vc4 pa pn pc).toList, true, rfl, rfl, by omega, (fun _ => HY2.out), (fun h => by cases h), HRS7.out, HO5.out.trans HO7.out, by omega, own_only HOwn5.out HO7.out (by have := HG.out; simp only [Value.ownBlock, ne_eq, Option.some.injEq]; omega), (fun k hk => by simp only [Value.ownBlock, Option.some.injEq] at hk; rw [← hk]; exact HG.out), fun hb => ?_⟩
            have hb := want_good hb
            refine ⟨(HRep5.out hb).2, RepF.keep (fun k hk hl => ⟨HO7.out.block k hl (by have hk' : w.heap.size ≤ k ∧ _ := hk; omega), hk⟩) _ _ (HRep5.out hb).1⟩
      · have hst := pars_sticky (hrs.sticky hbad) hbad
        obtain ⟨y, hy1, hy2⟩ := bind_some (hd0 rfl)
        have e1 := hst _ _ _ _ _ hy1
        rw [e1] at hy2
        have e2 := hst _ _ _ _ _ hy2
        obtain ⟨cb, lbad⟩ := hrs.badCell
        have hb0 : ((st.bad : Int) == 0) = false := by rw [beq_eq_false_iff_ne]; omega
        have HE := hide e2
        have HRS := hide hrs
        have HO := hide hO
        have HB := hide hbad
        have HOwn := hide hown
        have HLo := hide hlo
        clear hst hy1 hy2 e1 e2 hd0 hd1 hrs hO hbad hrep hown hlo
        go_wp2
        go_ret
        refine ⟨va, vn, vc, cn, cs, rfl, ⟨HOwn.out, HLo.out⟩, by omega, by rw [HE.out]; exact HRS.out, HO.out, fun h => absurd (by rw [← HE.out]; exact h) HB.out⟩
    · have HE := hide (hd1 rfl)
      have HRS := hide hrs
      have HO := hide hO
      have HOwn := hide hown
      have HLo := hide hlo
      have HRep := hide hrep
      clear hd0 hd1 hrs hO hrep hown hlo
      go_wp2
      go_ret
      rw [HE.out]
      refine ⟨va, vn, vc, cn, cs, rfl, ⟨HOwn.out, HLo.out⟩, by omega, HRS.out, HO.out, fun h => ⟨(HRep.out h).1, ?_⟩⟩
      exact RepF.keep (fun g hg _ => ⟨rfl, hg.1⟩) _ _ (HRep.out h).2
end Go.Proofs.YtgccmgjbbcndbaaGreatDoor
