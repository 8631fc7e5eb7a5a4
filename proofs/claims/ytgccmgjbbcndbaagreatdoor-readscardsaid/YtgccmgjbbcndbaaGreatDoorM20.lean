import Derived.Test.YtgccmgjbbcndbaaGreatDoorM19
/- Walk of atom: what cannot stand; all of it. -/
namespace Go.Proofs.YtgccmgjbbcndbaaGreatDoor
open Go.RowKit
open Go.Deep (BT)

theorem spell_tests : ∀ k, k ≤ 40 → 4 ≤ k → (spell k == [116, 114, 117, 101]) = (k == 13) ∧ (spell k == [102, 97, 108, 115, 101]) = (k == 14) ∧ (spell k == [110, 117, 108, 108]) = (k == 15) ∧ (spell k == [40]) = (k == 18) ∧ (spell k == [91]) = (k == 22) ∧ (spell k == [108, 101, 110]) = (k == 16) ∧ (spell k == [112, 117, 115, 104]) = (k == 17) := by decide +kernel
theorem kind_tests : ∀ k, k ≤ 40 → 4 ≤ k → (refKind k == 101) = false ∧ (refKind k == 105) = false ∧ (refKind k == 116) = false ∧ (refKind k == 110) = false := by decide +kernel

set_option maxRecDepth 100000 in
set_option maxHeartbeats 2000000 in
theorem atom_none {b tb cap te : Nat} {xs : List (Tk × List UInt8)} {n : Nat} (w : World) (s : PS) (r : BT Lab × PS) (h0 : kT s ≠ 0) (h1 : kT s ≠ 2) (h2 : kT s ≠ 3) (h3 : kT s ≠ 13) (h4 : kT s ≠ 14) (h5 : kT s ≠ 15) (h6 : kT s ≠ 1) (h7 : kT s ≠ 18) (h8 : kT s ≠ 22) (h9 : kT s ≠ 16) (h10 : kT s ≠ 17)
    (hs : RS b tb cap te xs w s) (hp : pars (n + 1) 4 0 .nil s = some r) :
    Calls Tryz.prog 85 #[.pointer (some ⟨b, 0, none⟩)] w (NodePost b tb cap te xs w r) := by
  have hrr := pars_none h1 h2 h3 h4 h5 h6 h7 h8 h9 h10 hp
  obtain ⟨lb, lt, lne⟩ := hs.lt
  have hk40 : kT s ≤ 40 := by obtain ⟨pl, h⟩ := hs; exact h.k40
  have hk4 : 4 ≤ kT s := by omega
  obtain ⟨a1, a2, a3, a4, a5, a6, a7⟩ := spell_tests (kT s) hk40 hk4
  obtain ⟨b0, b1, b2, b3⟩ := kind_tests (kT s) hk40 hk4
  have u1 : (spell (kT s) == [116, 114, 117, 101]) = false := a1.trans (by simpa using h3)
  have u2 : (spell (kT s) == [102, 97, 108, 115, 101]) = false := a2.trans (by simpa using h4)
  have u3 : (spell (kT s) == [110, 117, 108, 108]) = false := a3.trans (by simpa using h5)
  have u4 : (spell (kT s) == [40]) = false := a4.trans (by simpa using h7)
  have u5 : (spell (kT s) == [91]) = false := a5.trans (by simpa using h8)
  have u6 : (spell (kT s) == [108, 101, 110]) = false := a6.trans (by simpa using h9)
  have u7 : (spell (kT s) == [112, 117, 115, 104]) = false := a7.trans (by simpa using h10)
  have HF := hide hs.failBad
  have HS := hide hs
  have HRR := hide hrr
  have HK0 := hide h0
  have HSp : Hid (refS (hdT s) = spell (kT s)) := by
    show _ = _
    unfold refS; rw [if_neg (by show ¬ (kT s = 1 ∨ kT s = 3); omega)]; rfl
  have HK2 : Hid ((hdT s).k ≠ 2) := h1
  clear hp hs hrr h0 h1 h2 h3 h4 h5 h6 h7 h8 h9 h10 a1 a2 a3 a4 a5 a6 a7 hk40 hk4
  go_enter Tryz.func85, Tryz.ntmps85
  go_wp2_with fail
  refine (peek_rs (HS.out.alloc _)).mono ?_
  rintro e w1 ⟨S1, rfl, hS1, hrs1, hb1⟩
  have hS2 := (hS1 HK2.out).trans HSp.out
  subst hS2
  have HZ1 := hide (bblk hb1 (heap_alloc_new w _))
  have HO1 : Hid (Only b w w1) := ((Only.refl b w).alloc _).trans (Below.only hb1)
  obtain ⟨pl, hpl⟩ := hrs1
  obtain ⟨e0, e1, e2⟩ := hpl.cells
  have hb0 := (hpl.notEnd HK0.out).1
  rw [hb0] at e2
  have fb := frozen_row hpl.rd
  have lb1 := heap_lt hpl.rd
  have hfew := hpl.toks.few
  have hpll := hpl.lt
  have HPL := hide hpl
  have l1 := heap_lt HZ1.out
  clear hpl hb1 e0 hb0 hS1
  go_wp2_with fail
  refine (no_rs (RS.alloc (RS.alloc (show RS b tb cap te xs ((w1.setCell ⟨b, 1, none⟩ (.int .i64 ((pl : Int) + 1))).setCell ⟨b, 1, none⟩ (.int .i64 (pl : Int))) s from ⟨pl, HPL.out.back (.int .i64 ((pl : Int) + 1)) (pl : Int) rfl⟩) _) _)).mono ?_
  rintro e w3 ⟨rfl, hrs3, ho3⟩
  have hs2 : ((w1.setCell ⟨b, 1, none⟩ (.int .i64 ((pl : Int) + 1))).setCell ⟨b, 1, none⟩ (.int .i64 (pl : Int))).heap.size = w1.heap.size := by simp [World.setCell]
  have hZ3 := ho3.blk (alloc_old (alloc_old (set_old (p := ⟨b, 1, none⟩) (set_old (p := ⟨b, 1, none⟩) HZ1.out (by show w.heap.size ≠ b; omega)) (by show w.heap.size ≠ b; omega)))) (by omega)
  have hX3 := ho3.blk (g := w1.heap.size + 1) (by have := heap_alloc_new (((w1.setCell ⟨b, 1, none⟩ (.int .i64 ((pl : Int) + 1))).setCell ⟨b, 1, none⟩ (.int .i64 (pl : Int))).alloc (.cells #[.int .u8 (refKind (kT s)), .string ⟨(spell (kT s)).toArray⟩, .int .i64 (hdT s).n, .int .i64 ((hdT s).line : Nat)] 79)) (.cells #[.string ⟨(spell (kT s)).toArray⟩, .int .i64 ((hdT s).line : Nat), .string ⟨(spell (kT s)).toArray⟩, .int .i64 (hdT s).n, .slice none 0 0, .slice none 0 0] 41); rw [World.size_alloc, hs2] at this; exact this) (by omega)
  obtain ⟨k0, k1, k2, k3, k4, k5, f1, l3⟩ := blk6 hZ3
  obtain ⟨q0, q1, q2, q3, q4, q5, f3, l4⟩ := blk6 hX3
  have HRS3 := hide hrs3
  have HO3 : Hid (Only b w w3) := ((Only.set (p := ⟨b, 1, none⟩) (Only.set (p := ⟨b, 1, none⟩) HO1.out (.inl rfl) _) (.inl rfl) _).alloc _ |>.alloc _).trans ho3
  clear hrs3 ho3 e1 e2 fb hZ3 hX3 hs2
  go_wp2
  refine bodyPost_ret (v := .agg #[.string ⟨(spell (kT s)).toArray⟩, .int .i64 ((hdT s).line : Nat), .string ⟨(spell (kT s)).toArray⟩, .int .i64 (hdT s).n, .slice none 0 0, .slice none 0 0]) ?_ rfl ?_
  · simp [results, Tryz.results85, go_sem, k0, k1, k2, k3, k4, k5]
  rw [HRR.out]
  exact node_close lb lt HRS3.out HO3.out (fun hb => absurd hb HF.out)

theorem atom_any {b tb cap te : Nat} {xs : List (Tk × List UInt8)} {n : Nat} (ih : RefPars b tb cap te xs n) (w : World) (s : PS) (r : BT Lab × PS) (hs : RS b tb cap te xs w s) (hp : pars (n + 1) 4 0 .nil s = some r) :
    Calls Tryz.prog 85 #[.pointer (some ⟨b, 0, none⟩)] w (NodePost b tb cap te xs w r) := by
  by_cases h0 : kT s = 0
  · exact atom_end w s r h0 hs hp
  by_cases h1 : kT s = 2
  · exact atom_int w s r h1 hs hp
  by_cases h2 : kT s = 3
  · exact atom_text w s r h2 hs hp
  by_cases h3 : kT s = 13
  · exact atom_true w s r h3 hs hp
  by_cases h4 : kT s = 14
  · exact atom_false w s r h4 hs hp
  by_cases h5 : kT s = 15
  · exact atom_null w s r h5 hs hp
  by_cases h6 : kT s = 1
  · by_cases h6' : kT (takeS s) = 18
    · exact atom_call ih w s r h6 h6' hs hp
    · exact atom_name w s r h6 h6' hs hp
  by_cases h7 : kT s = 18
  · exact atom_group ih w s r h7 hs hp
  by_cases h8 : kT s = 22
  · exact atom_array ih w s r h8 hs hp
  by_cases h9 : kT s = 16
  · exact atom_len ih w s r h9 hs hp
  by_cases h10 : kT s = 17
  · exact atom_push ih w s r h10 hs hp
  exact atom_none w s r h0 h1 h2 h3 h4 h5 h6 h7 h8 h9 h10 hs hp

theorem unary_any {b tb cap te : Nat} {xs : List (Tk × List UInt8)} {n : Nat} (ih : ∀ m, m ≤ n → RefPars b tb cap te xs m) (w : World) (s : PS) (r : BT Lab × PS) (hs : RS b tb cap te xs w s) (hp : pars (n + 1) 2 0 .nil s = some r) :
    Calls Tryz.prog 62 #[.pointer (some ⟨b, 0, none⟩)] w (NodePost b tb cap te xs w r) := by
  by_cases h28 : kT s = 28
  · exact unary_not (ih n (Nat.le_refl _)) w s r h28 hs hp
  by_cases h35 : kT s = 35
  · exact unary_neg (ih n (Nat.le_refl _)) w s r h35 hs hp
  exact unary_part ih w s r h28 h35 hs hp

theorem expr_any {b tb cap te : Nat} {xs : List (Tk × List UInt8)} {n : Nat} (ih : ∀ m, m ≤ n → RefPars b tb cap te xs m) (w : World) (s : PS) (a : Nat) (q : Int) (r : BT Lab × PS) (ha : a ≤ 6) (hq : q = a) (hs : RS b tb cap te xs w s) (hp : pars (n + 1) 0 a .nil s = some r) :
    Calls Tryz.prog 42 #[.pointer (some ⟨b, 0, none⟩), .int .i64 q] w (NodePost b tb cap te xs w r) := by
  by_cases h6 : a = 6
  · subst h6; exact expr_six (ih n (Nat.le_refl _)) w s q r hq hs hp
  · exact expr_low ih w s a q r (by omega) hq hs hp
end Go.Proofs.YtgccmgjbbcndbaaGreatDoor
/- Walk of block and inner. -/
namespace Go.Proofs.YtgccmgjbbcndbaaGreatDoor
open Go.RowKit
open Go.Deep (BT)

def BRel (b tb cap te : Nat) (xs : List (Tk × List UInt8)) (n : Nat) (r : BT Lab × PS) (w : World) (k : Nat) (v : Value) (wr : World) : Prop :=
  ∃ (acc : BT Lab) (st : PS) (va : Option Addr) (vn vc cn : Nat) (cs : List Value), v = .slice va vn vc ∧ k ≤ n ∧ pars k 8 0 acc st = some r ∧
    RS b tb cap te xs wr st ∧ Only b w wr ∧ cn + k ≤ n + 1 ∧ wr.ownsRow 0 41 6 (.slice va vn vc) cn cs ∧ (∀ g, (Value.slice va vn vc).ownBlock = some g → w.heap.size ≤ g) ∧
    (st.bad = 0 → cn = blen acc ∧ RepF (fun g => w.heap.size ≤ g ∧ (Value.slice va vn vc).ownBlock ≠ some g) wr acc cs)

set_option maxRecDepth 100000 in
set_option maxHeartbeats 2000000 in
theorem block_any {b tb cap te : Nat} {xs : List (Tk × List UInt8)} {n : Nat} (ih : ∀ m, m ≤ n → RefPars b tb cap te xs m) (hn : n ≤ 500000) (w : World) (s : PS) (r : BT Lab × PS) (hs : RS b tb cap te xs w s) (hp : pars (n + 1) 7 0 .nil s = some r) :
    Calls Tryz.prog 40 #[.pointer (some ⟨b, 0, none⟩)] w (ListPost b tb cap te xs w r) := by
  obtain ⟨lb, lt, lne⟩ := hs.lt
  have HS := hide hs
  have HIH := hide ih
  have HP := hide (pars_block hp)
  clear hp hs ih
  go_enter Tryz.func40, Tryz.ntmps40
  go_wp2_with fail
  refine (must_rs HS.out 20 (by omega) (by omega) [123] rfl).mono ?_
  rintro e w1 ⟨rfl, hrs1, ho1⟩
  have HRS1 := hide hrs1
  have HO1 := hide ho1
  clear hrs1 ho1
  go_wp2
  go_loopg [3] n (fun k v wr => BRel b tb cap te xs n r w k v wr)
  case atStart =>
    exact ⟨.nil, wantS 20 s, none, 0, 0, 0, [], rfl, Nat.le_refl _, HP.out, HRS1.out, HO1.out, by omega, World.ownsRow_nil _ _ _ _, (fun g hg => by simp [Value.ownBlock] at hg), (fun _ => ⟨rfl, rfl⟩)⟩
  case round =>
    clear HP HRS1 HO1
    obtain ⟨acc, st, va, vn, vc, cn, cs, rfl, hkn, hp, hrs, hO, hcn, hown, hlo, hrep⟩ := hrel
    cases gk with
    | zero => exact absurd hp (pars_zero _ _ _ _ _)
    | succ m =>
    obtain ⟨cb, lbad⟩ := hrs.badCell
    have lbr : b < wr.heap.size := hrs.lt.1
    have hsz := hO.size
    have HRS := hide hrs
    have HO := hide hO
    have HOwn := hide hown
    have HLo := hide hlo
    have HRep := hide hrep
    by_cases hbad : st.bad = 0
    · by_cases h21 : kT st = 21
      · have HE := hide (pars_bend h21 hp)
        have HM := hide (mayS_eq h21)
        have hk : (kT st == 21) = true := by rw [h21]; rfl
        rw [hbad] at cb
        have HB := hide hbad
        clear hp hrs hO hown hlo hrep h21 hbad
        go_wp2_with fail
        refine (may_rs HRS.out 21 (by omega) (by omega) [125] rfl).mono ?_
        rintro e w2 ⟨rfl, hrs2, ho2⟩
        rw [hk]
        rw [HM.out] at hrs2
        have HRS2 := hide hrs2
        have HO2 := hide ho2
        clear hrs2 ho2 cb
        go_wp2
        go_ret
        rw [HE.out]
        have hne : (Value.slice va vn vc).ownBlock ≠ some b := fun e => by have := HLo.out b e; omega
        refine ⟨va, vn, vc, cn, cs, rfl, ⟨own_only HOwn.out HO2.out hne, HLo.out⟩, by omega, HRS2.out, HO.out.trans HO2.out, fun h => ⟨(HRep.out HB.out).1, ?_⟩⟩
        refine RepF.keep (fun g hg hl => ⟨HO2.out.block g hl ?_, hg.1⟩) _ _ (HRep.out HB.out).2
        have := hg.1; omega
      · obtain ⟨y, hy1, hy2⟩ := pars_bstmt h21 hbad hp
        have hu := hide (fun (w' : World) h => (HIH.out m (by omega)).stmt w' st y h hy1)
        have HY := hide hy2
        have HM := hide (mayS_ne h21)
        have hk : (kT st == 21) = false := by simpa using h21
        rw [hbad] at cb
        have HB := hide hbad
        clear hp hrs hO hown hlo hrep h21 hbad hy1 hy2
        go_wp2_with fail
        refine (may_rs HRS.out 21 (by omega) (by omega) [125] rfl).mono ?_
        rintro e w2 ⟨rfl, hrs2, ho2⟩
        rw [hk]
        rw [HM.out] at hrs2
        have HRS2 := hide hrs2
        have HO2 := hide ho2
        have hsz2 := ho2.size
        clear hrs2 ho2 cb
        go_wp2_with fail
        refine (hu.out _ HRS2.out).mono ?_
        rintro e w4 ⟨I, S, ln, nn, va4, vn4, vc4, pa, pn, pc, rfl, hr4, ho4, hrep4⟩
        have hne : (Value.slice va vn vc).ownBlock ≠ some b := fun e => by have := HLo.out b e; omega
        have HO24 : Hid (Only b wr w4) := HO2.out.trans ho4
        have hown4 := (own_only HOwn.out HO24.out hne).alloc (.cells (ndC I S ln nn va4 vn4 vc4 pa pn pc) 41)
        have HR4 := hide hr4
        have HRep4 := hide hrep4
        clear hr4 ho4 hrep4 hne
        go_wp2_with (at_builtin; refine wpl_app (w4.alloc (.cells (ndC I S ln nn va4 vn4 vc4 pa pn pc) 41)) (ndC I S ln nn va4 vn4 vc4 pa pn pc) 41 rfl (.tmp 18) (.tmp 20) 36 rfl 0 6 96 (.agg #[.string ⟨#[]⟩, .int .i64 0, .string ⟨#[]⟩, .int .i64 0, .slice none 0 0, .slice none 0 0]) Tryz.underlying36 infoNode rfl (by omega) _ _ _ rfl (by simp; rfl) hown4 rfl nd_one (by omega) (by omega) (Nat.zero_le _) ?_; intro g cap1 w5 hown5 hgrow hat hg)
        replace hgrow : (w4.alloc (.cells (ndC I S ln nn va4 vn4 vc4 pa pn pc) 41)).grownBy w5 (Value.slice va vn vc).ownBlock := hgrow
        replace hat : (Value.slice va vn vc).ownBlock = some g ∨ g = (w4.alloc (.cells (ndC I S ln nn va4 vn4 vc4 pa pn pc) 41)).heap.size + 1 := hat
        have hrow : ∀ k, (Value.slice va vn vc).ownBlock = some k → k ≠ b ∧ k ≠ tb ∧ w.heap.size ≤ k := fun k e => by have := HLo.out k e; omega
        go_roundg m
        case measure => omega
        case rel =>
          have hs4 := HO24.out.size
          refine ⟨bapp acc y.1, y.2, some ⟨g, 0, none⟩, cn + 1, cap1, cn + 1, cs ++ (ndC I S ln nn va4 vn4 vc4 pa pn pc).toList, rfl, by omega, HY.out, (HR4.out.alloc _).grown hgrow (fun e => (hrow b e).1 rfl) (fun e => (hrow tb e).2.1 rfl), ((HO.out.trans HO24.out).alloc _).grown hgrow (fun k e => .inr (hrow k e).2.2), by omega, hown5, ?_, fun hb => ⟨?_, ?_⟩⟩
          · intro k hk
            simp only [Value.ownBlock, Option.some.injEq] at hk
            rw [← hk]
            rcases hat with h | h
            · exact (hrow g h).2.2
            · rw [h]; simp; omega
          · have hr := HRep.out HB.out
            rw [bapp_len, (HRep4.out hb).1, hr.1]
          · refine app_rep lb hsz HO24.out (fun k hk => Below.heap_alloc _ _ _ hk) (by simp) HOwn.out hgrow hat (HRep.out HB.out).2 ?_
            exact RepF.keep (fun k hk hl => ⟨rfl, by have h : w2.heap.size ≤ k := hk; omega⟩) _ _ (HRep4.out hb).2
    · have e2 := pars_sticky (hrs.sticky hbad) hbad _ _ _ _ _ hp
      have hb0 : ((st.bad : Int) == 0) = false := by rw [beq_eq_false_iff_ne]; omega
      have HE := hide e2
      have HB := hide hbad
      clear e2 hp hrs hO hbad hrep hown hlo
      go_wp2
      go_ret
      refine ⟨va, vn, vc, cn, cs, rfl, ⟨HOwn.out, HLo.out⟩, by omega, by rw [HE.out]; exact HRS.out, HO.out, fun h => absurd (by rw [← HE.out]; exact h) HB.out⟩
end Go.Proofs.YtgccmgjbbcndbaaGreatDoor
/- Walk of inner. -/
namespace Go.Proofs.YtgccmgjbbcndbaaGreatDoor
open Go.RowKit
open Go.Deep (BT)

set_option maxRecDepth 100000 in
set_option maxHeartbeats 2000000 in
theorem inner_any {b tb cap te : Nat} {xs : List (Tk × List UInt8)} {n : Nat} (ih : RefPars b tb cap te xs n) (w : World) (s : PS) (kd : Nat) (hkd : kd = 31 ∨ kd = 32) (r : BT Lab × PS) (hs : RS b tb cap te xs w s) (hp : pars n 7 0 .nil s = some r) :
    Calls Tryz.prog 43 #[.pointer (some ⟨b, 0, none⟩)] w (NodePost b tb cap te xs w (nd (lab0 kd 0) r.1, r.2)) := by
  obtain ⟨lb, lt, lne⟩ := hs.lt
  have hu := hide (fun (w' : World) h => ih.block w' s r h hp)
  have HS := hide hs
  have hk8 : kd ≠ 8 ∧ kd ≠ 20 ∧ kd ≠ 1 ∧ nameSure kd = false ∧ lineSure kd = false ∧ isS kd = [98, 108, 111, 99, 107] := by rcases hkd with e | e <;> subst e <;> decide
  have HK := hide hk8
  clear hp hs ih hkd hk8
  go_enter Tryz.func43, Tryz.ntmps43
  go_wp2_with fail
  refine (hu.out _ (HS.out.alloc _)).mono ?_
  rintro e w3 ⟨va, vn, vc, cn, cs, rfl, hown3, hcn, hrs3, ho3, hrep3⟩
  have HO3 : Hid (Only b w w3) := ((Only.refl b w).alloc _).trans ho3
  obtain ⟨k0, k1, k2, k3, k4, k5, f1, l1⟩ := blk6 (ho3.blk (heap_alloc_new w _) (by omega))
  have HRS3 := hide hrs3
  have HOwn3 := hide hown3
  have HRep3 := hide hrep3
  clear hrs3 hown3 hrep3 ho3
  go_wp2
  refine bodyPost_ret (v := .agg #[.string ⟨#[98, 108, 111, 99, 107]⟩, .int .i64 0, .string ⟨#[]⟩, .int .i64 0, .slice va vn vc, .slice none 0 0]) ?_ rfl ?_
  · simp [results, Tryz.results43, go_sem, k0, k1, k2, k3, k4, k5]
  refine node_close (I := [98, 108, 111, 99, 107]) (S := []) lb lt HRS3.out HO3.out (fun hb => ⟨rfl, ?_⟩)
  obtain ⟨hcb, hr⟩ := HRep3.out hb
  have hkeep : ∀ g, (w.alloc (.cells #[.string ⟨#[]⟩, .int .i64 0, .string ⟨#[]⟩, .int .i64 0, .slice none 0 0, .slice none 0 0] 41)).heap.size ≤ g → g < w3.heap.size → w3.heap[g]? = w3.heap[g]? ∧ w.heap.size < g := fun g hg hl => by
    rw [World.size_alloc] at hg
    exact ⟨rfl, by omega⟩
  obtain ⟨q1, q2, q3, q4, q5, q6⟩ := HK.out
  refine RepF.one (lab0 kd 0) r.1 _ _ _ _ va vn vc none 0 0 cs q1 q2 q6.symm (fun h => absurd h (by show ¬ (lineSure kd = true); rw [q5]; decide)) (fun h => absurd h (by show ¬ (nameSure kd = true); rw [q4]; decide)) (fun h => absurd h q3) ?_ (RepF.keep hkeep _ _ hr) (fun h => absurd q5 (by rw [show kd = 12 from h]; decide))
  rw [← hcb]
  exact HOwn3.out.keep hkeep
end Go.Proofs.YtgccmgjbbcndbaaGreatDoor
/- Walk of statement: break, continue, return; -/
namespace Go.Proofs.YtgccmgjbbcndbaaGreatDoor
open Go.RowKit
open Go.Deep (BT)

def stmtWords : List UInt8 := [32, 108, 101, 116, 32, 105, 102, 32, 119, 104, 105, 108, 101, 32, 114, 101, 116, 117, 114, 110, 32, 98, 114, 101, 97, 107, 32, 99, 111, 110, 116, 105, 110, 117, 101, 32, 112, 114, 105, 110, 116, 32]

set_option maxRecDepth 100000 in
set_option maxHeartbeats 2000000 in
theorem stmt_break {b tb cap te : Nat} {xs : List (Tk × List UInt8)} {n : Nat} (w : World) (s : PS) (r : BT Lab × PS) (hk : kT s = 10) (hs : RS b tb cap te xs w s) (hp : pars (n + 1) 9 0 .nil s = some r) :
    Calls Tryz.prog 22 #[.pointer (some ⟨b, 0, none⟩)] w (NodePost b tb cap te xs w r) := by
  have HRR := hide (pars_sbreak hk hp)
  obtain ⟨lb, lt, lne⟩ := hs.lt
  have HS := hide hs
  have HK0 : Hid (kT s ≠ 0) := by show _ ≠ _; omega
  clear hp hs
  go_enter Tryz.func22, Tryz.ntmps22
  go_wp2_with fail
  refine (peek_rs (HS.out.alloc _)).mono ?_
  rintro e w1 ⟨S1, rfl, hS1, hrs1, hb1⟩
  have hS2 : S1 = [98, 114, 101, 97, 107] := (hS1 (by show kT s ≠ 2; omega)).trans (by unfold refS; rw [if_neg (by show ¬ (kT s = 1 ∨ kT s = 3); omega)]; show spell (kT s) = _; rw [hk]; rfl)
  subst hS2
  clear hS1
  have HZ1 := hide (bblk hb1 (heap_alloc_new w _))
  have HO1 : Hid (Only b w w1) := ((Only.refl b w).alloc _).trans (Below.only hb1)
  obtain ⟨pl, hpl⟩ := hrs1
  obtain ⟨e0, e1, e2⟩ := hpl.cells
  have fb := frozen_row hpl.rd
  have lb1 := heap_lt hpl.rd
  have hfew := hpl.toks.few
  have hpll := hpl.lt
  obtain ⟨c0, c1, c2, c3, c4, c5, f0, l0⟩ := blk6 HZ1.out
  have HM : Hid (RS b tb cap te xs (w1.setCell ⟨b, 1, none⟩ (.int .i64 ((pl : Int) + 1))) (takeS s)) := ⟨pl + 1, hpl.move HK0.out _ rfl⟩
  have HO2 : Hid (Only b w (w1.setCell ⟨b, 1, none⟩ (.int .i64 ((pl : Int) + 1)))) := Only.set (p := ⟨b, 1, none⟩) HO1.out (.inl rfl) _
  have HZ2 := hide (set_old (p := ⟨b, 1, none⟩) (u := .int .i64 ((pl : Int) + 1)) HZ1.out (by show w.heap.size ≠ b; omega))
  have HL2 : Hid ((w1.setCell ⟨b, 1, none⟩ (.int .i64 ((pl : Int) + 1))).heap.size = w1.heap.size) := by
    show _ = _
    simp [World.setCell]
  clear hpl hb1 e0 e2
  have hkr : refKind (kT s) = 119 := by rw [hk]; rfl
  rw [hkr]
  have HK := hide hk
  clear hk hkr
  go_wp2_with fail
  refine (among_any [98, 114, 101, 97, 107] stmtWords _ (by decide) (by decide)).mono ?_
  rintro e w' ⟨rfl, rfl⟩
  rw [show amongL [98, 114, 101, 97, 107] stmtWords = true from by decide +kernel]
  go_wp2_with fail
  refine (must_rs ((HM.out.alloc _).alloc _) 25 (by omega) (by omega) [59] rfl).mono ?_
  rintro e w3 ⟨rfl, hrs3, ho3⟩
  have hZ3 := ho3.blk (alloc_old (alloc_old HZ2.out)) (by omega)
  have hX3 := ho3.blk (g := w1.heap.size + 1) (by have := heap_alloc_new ((w1.setCell ⟨b, 1, none⟩ (.int .i64 ((pl : Int) + 1))).alloc (.cells #[.int .u8 119, .string ⟨#[98, 114, 101, 97, 107]⟩, .int .i64 (hdT s).n, .int .i64 ((hdT s).line : Nat)] 79)) (.cells #[.string ⟨#[98, 114, 101, 97, 107]⟩, .int .i64 ((hdT s).line : Nat), .string ⟨#[]⟩, .int .i64 0, .slice none 0 0, .slice none 0 0] 41); rw [World.size_alloc, HL2.out] at this; exact this) (by omega)
  have HZ3 := hide hZ3
  have HX3 := hide hX3
  have hsz3 : w1.heap.size + 2 ≤ w3.heap.size := by have := ho3.size; rw [World.size_alloc, World.size_alloc, HL2.out] at this; exact this
  have HO3 : Hid (Only b w w3) := ((HO2.out.alloc _).alloc _).trans ho3
  have HRS3 := hide hrs3
  obtain ⟨k0, k1, k2, k3, k4, k5, f1, l1⟩ := blk6 hZ3
  obtain ⟨d0, d1, d2, d3, d4, d5, f2, l2⟩ := blk6 hX3
  clear hrs3 ho3 hZ3 hX3 c0 c1 c2 c3 c4 c5 f0 e1 fb
  go_wp2
  refine bodyPost_ret (v := .agg #[.string ⟨#[98, 114, 101, 97, 107]⟩, .int .i64 ((hdT s).line : Nat), .string ⟨#[]⟩, .int .i64 0, .slice none 0 0, .slice none 0 0]) ?_ rfl ?_
  · simp [results, Tryz.results22, go_sem, k0, k1, k2, k3, k4, k5]
  rw [HRR.out]
  refine node_close (I := [98, 114, 101, 97, 107]) (S := []) lb lt HRS3.out HO3.out (fun hb => ⟨rfl, ?_⟩)
  exact RepF.one _ .nil _ _ _ _ none 0 0 none 0 0 [] (by show (25 : Nat) ≠ 8; decide) (by show (25 : Nat) ≠ 20; decide) rfl (fun _ => rfl) (fun h => absurd h (by show ¬ (nameSure 25 = true); decide)) (fun h => absurd h (by show ¬ ((25 : Nat) = 1); decide)) (own_nil _ _ _ _) rfl

set_option maxRecDepth 100000 in
set_option maxHeartbeats 2000000 in
theorem stmt_cont {b tb cap te : Nat} {xs : List (Tk × List UInt8)} {n : Nat} (w : World) (s : PS) (r : BT Lab × PS) (hk : kT s = 11) (hs : RS b tb cap te xs w s) (hp : pars (n + 1) 9 0 .nil s = some r) :
    Calls Tryz.prog 22 #[.pointer (some ⟨b, 0, none⟩)] w (NodePost b tb cap te xs w r) := by
  have HRR := hide (pars_scont hk hp)
  obtain ⟨lb, lt, lne⟩ := hs.lt
  have HS := hide hs
  have HK0 : Hid (kT s ≠ 0) := by show _ ≠ _; omega
  clear hp hs
  go_enter Tryz.func22, Tryz.ntmps22
  go_wp2_with fail
  refine (peek_rs (HS.out.alloc _)).mono ?_
  rintro e w1 ⟨S1, rfl, hS1, hrs1, hb1⟩
  have hS2 : S1 = [99, 111, 110, 116, 105, 110, 117, 101] := (hS1 (by show kT s ≠ 2; omega)).trans (by unfold refS; rw [if_neg (by show ¬ (kT s = 1 ∨ kT s = 3); omega)]; show spell (kT s) = _; rw [hk]; rfl)
  subst hS2
  clear hS1
  have HZ1 := hide (bblk hb1 (heap_alloc_new w _))
  have HO1 : Hid (Only b w w1) := ((Only.refl b w).alloc _).trans (Below.only hb1)
  obtain ⟨pl, hpl⟩ := hrs1
  obtain ⟨e0, e1, e2⟩ := hpl.cells
  have fb := frozen_row hpl.rd
  have lb1 := heap_lt hpl.rd
  have hfew := hpl.toks.few
  have hpll := hpl.lt
  obtain ⟨c0, c1, c2, c3, c4, c5, f0, l0⟩ := blk6 HZ1.out
  have HM : Hid (RS b tb cap te xs (w1.setCell ⟨b, 1, none⟩ (.int .i64 ((pl : Int) + 1))) (takeS s)) := ⟨pl + 1, hpl.move HK0.out _ rfl⟩
  have HO2 : Hid (Only b w (w1.setCell ⟨b, 1, none⟩ (.int .i64 ((pl : Int) + 1)))) := Only.set (p := ⟨b, 1, none⟩) HO1.out (.inl rfl) _
  have HZ2 := hide (set_old (p := ⟨b, 1, none⟩) (u := .int .i64 ((pl : Int) + 1)) HZ1.out (by show w.heap.size ≠ b; omega))
  have HL2 : Hid ((w1.setCell ⟨b, 1, none⟩ (.int .i64 ((pl : Int) + 1))).heap.size = w1.heap.size) := by
    show _ = _
    simp [World.setCell]
  clear hpl hb1 e0 e2
  have hkr : refKind (kT s) = 119 := by rw [hk]; rfl
  rw [hkr]
  have HK := hide hk
  clear hk hkr
  go_wp2_with fail
  refine (among_any [99, 111, 110, 116, 105, 110, 117, 101] stmtWords _ (by decide) (by decide)).mono ?_
  rintro e w' ⟨rfl, rfl⟩
  rw [show amongL [99, 111, 110, 116, 105, 110, 117, 101] stmtWords = true from by decide +kernel]
  go_wp2_with fail
  refine (must_rs ((HM.out.alloc _).alloc _) 25 (by omega) (by omega) [59] rfl).mono ?_
  rintro e w3 ⟨rfl, hrs3, ho3⟩
  have hZ3 := ho3.blk (alloc_old (alloc_old HZ2.out)) (by omega)
  have hX3 := ho3.blk (g := w1.heap.size + 1) (by have := heap_alloc_new ((w1.setCell ⟨b, 1, none⟩ (.int .i64 ((pl : Int) + 1))).alloc (.cells #[.int .u8 119, .string ⟨#[99, 111, 110, 116, 105, 110, 117, 101]⟩, .int .i64 (hdT s).n, .int .i64 ((hdT s).line : Nat)] 79)) (.cells #[.string ⟨#[99, 111, 110, 116, 105, 110, 117, 101]⟩, .int .i64 ((hdT s).line : Nat), .string ⟨#[]⟩, .int .i64 0, .slice none 0 0, .slice none 0 0] 41); rw [World.size_alloc, HL2.out] at this; exact this) (by omega)
  have HZ3 := hide hZ3
  have HX3 := hide hX3
  have hsz3 : w1.heap.size + 2 ≤ w3.heap.size := by have := ho3.size; rw [World.size_alloc, World.size_alloc, HL2.out] at this; exact this
  have HO3 : Hid (Only b w w3) := ((HO2.out.alloc _).alloc _).trans ho3
  have HRS3 := hide hrs3
  obtain ⟨k0, k1, k2, k3, k4, k5, f1, l1⟩ := blk6 hZ3
  obtain ⟨d0, d1, d2, d3, d4, d5, f2, l2⟩ := blk6 hX3
  clear hrs3 ho3 hZ3 hX3 c0 c1 c2 c3 c4 c5 f0 e1 fb
  go_wp2
  refine bodyPost_ret (v := .agg #[.string ⟨#[99, 111, 110, 116, 105, 110, 117, 101]⟩, .int .i64 ((hdT s).line : Nat), .string ⟨#[]⟩, .int .i64 0, .slice none 0 0, .slice none 0 0]) ?_ rfl ?_
  · simp [results, Tryz.results22, go_sem, k0, k1, k2, k3, k4, k5]
  rw [HRR.out]
  refine node_close (I := [99, 111, 110, 116, 105, 110, 117, 101]) (S := []) lb lt HRS3.out HO3.out (fun hb => ⟨rfl, ?_⟩)
  exact RepF.one _ .nil _ _ _ _ none 0 0 none 0 0 [] (by show (26 : Nat) ≠ 8; decide) (by show (26 : Nat) ≠ 20; decide) rfl (fun _ => rfl) (fun h => absurd h (by show ¬ (nameSure 26 = true); decide)) (fun h => absurd h (by show ¬ ((26 : Nat) = 1); decide)) (own_nil _ _ _ _) rfl

set_option maxRecDepth 100000 in
set_option maxHeartbeats 2000000 in
theorem stmt_ret0 {b tb cap te : Nat} {xs : List (Tk × List UInt8)} {n : Nat} (w : World) (s : PS) (r : BT Lab × PS) (hk : kT s = 9) (hk2 : kT (takeS s) = 25) (hs : RS b tb cap te xs w s) (hp : pars (n + 1) 9 0 .nil s = some r) :
    Calls Tryz.prog 22 #[.pointer (some ⟨b, 0, none⟩)] w (NodePost b tb cap te xs w r) := by
  have HRR := hide (pars_sret0 hk hk2 hp)
  have hq : (kT (takeS s) == 25) = true := by rw [hk2]; rfl
  clear hk2
  obtain ⟨lb, lt, lne⟩ := hs.lt
  have HS := hide hs
  have HK0 : Hid (kT s ≠ 0) := by show _ ≠ _; omega
  clear hp hs
  go_enter Tryz.func22, Tryz.ntmps22
  go_wp2_with fail
  refine (peek_rs (HS.out.alloc _)).mono ?_
  rintro e w1 ⟨S1, rfl, hS1, hrs1, hb1⟩
  have hS2 : S1 = [114, 101, 116, 117, 114, 110] := (hS1 (by show kT s ≠ 2; omega)).trans (by unfold refS; rw [if_neg (by show ¬ (kT s = 1 ∨ kT s = 3); omega)]; show spell (kT s) = _; rw [hk]; rfl)
  subst hS2
  clear hS1
  have HZ1 := hide (bblk hb1 (heap_alloc_new w _))
  have HO1 : Hid (Only b w w1) := ((Only.refl b w).alloc _).trans (Below.only hb1)
  obtain ⟨pl, hpl⟩ := hrs1
  obtain ⟨e0, e1, e2⟩ := hpl.cells
  have fb := frozen_row hpl.rd
  have lb1 := heap_lt hpl.rd
  have hfew := hpl.toks.few
  have hpll := hpl.lt
  obtain ⟨c0, c1, c2, c3, c4, c5, f0, l0⟩ := blk6 HZ1.out
  have HM : Hid (RS b tb cap te xs (w1.setCell ⟨b, 1, none⟩ (.int .i64 ((pl : Int) + 1))) (takeS s)) := ⟨pl + 1, hpl.move HK0.out _ rfl⟩
  have HO2 : Hid (Only b w (w1.setCell ⟨b, 1, none⟩ (.int .i64 ((pl : Int) + 1)))) := Only.set (p := ⟨b, 1, none⟩) HO1.out (.inl rfl) _
  have HZ2 := hide (set_old (p := ⟨b, 1, none⟩) (u := .int .i64 ((pl : Int) + 1)) HZ1.out (by show w.heap.size ≠ b; omega))
  have HL2 : Hid ((w1.setCell ⟨b, 1, none⟩ (.int .i64 ((pl : Int) + 1))).heap.size = w1.heap.size) := by
    show _ = _
    simp [World.setCell]
  clear hpl hb1 e0 e2
  have hkr : refKind (kT s) = 119 := by rw [hk]; rfl
  rw [hkr]
  have HK := hide hk
  clear hk hkr
  go_wp2_with fail
  refine (among_any [114, 101, 116, 117, 114, 110] stmtWords _ (by decide) (by decide)).mono ?_
  rintro e w' ⟨rfl, rfl⟩
  rw [show amongL [114, 101, 116, 117, 114, 110] stmtWords = true from by decide +kernel]
  go_wp2_with fail
  refine (is_rs ((HM.out.alloc _).alloc _) 25 (by omega) (by omega) [59] rfl).mono ?_
  rintro e w4 ⟨rfl, hrs4, hb4⟩
  rw [hq]
  have HRS4 := hide hrs4
  have HB4 := hide hb4
  clear hrs4 hb4
  go_wp2_with fail
  refine (must_rs HRS4.out 25 (by omega) (by omega) [59] rfl).mono ?_
  rintro e w3 ⟨rfl, hrs3, ho3'⟩
  have ho3 := (Below.only (b := b) HB4.out).trans ho3'
  clear ho3'
  have hZ3 := ho3.blk (alloc_old (alloc_old HZ2.out)) (by omega)
  have hX3 := ho3.blk (g := w1.heap.size + 1) (by have := heap_alloc_new ((w1.setCell ⟨b, 1, none⟩ (.int .i64 ((pl : Int) + 1))).alloc (.cells #[.int .u8 119, .string ⟨#[114, 101, 116, 117, 114, 110]⟩, .int .i64 (hdT s).n, .int .i64 ((hdT s).line : Nat)] 79)) (.cells #[.string ⟨#[114, 101, 116, 117, 114, 110]⟩, .int .i64 ((hdT s).line : Nat), .string ⟨#[]⟩, .int .i64 0, .slice none 0 0, .slice none 0 0] 41); rw [World.size_alloc, HL2.out] at this; exact this) (by omega)
  have HZ3 := hide hZ3
  have HX3 := hide hX3
  have hsz3 : w1.heap.size + 2 ≤ w3.heap.size := by have := ho3.size; rw [World.size_alloc, World.size_alloc, HL2.out] at this; exact this
  have HO3 : Hid (Only b w w3) := ((HO2.out.alloc _).alloc _).trans ho3
  have HRS3 := hide hrs3
  obtain ⟨k0, k1, k2, k3, k4, k5, f1, l1⟩ := blk6 hZ3
  obtain ⟨d0, d1, d2, d3, d4, d5, f2, l2⟩ := blk6 hX3
  clear hrs3 ho3 hZ3 hX3 c0 c1 c2 c3 c4 c5 f0 e1 fb
  go_wp2
  refine bodyPost_ret (v := .agg #[.string ⟨#[114, 101, 116, 117, 114, 110]⟩, .int .i64 ((hdT s).line : Nat), .string ⟨#[]⟩, .int .i64 0, .slice none 0 0, .slice none 0 0]) ?_ rfl ?_
  · simp [results, Tryz.results22, go_sem, k0, k1, k2, k3, k4, k5]
  rw [HRR.out]
  refine node_close (I := [114, 101, 116, 117, 114, 110]) (S := []) lb lt HRS3.out HO3.out (fun hb => ⟨rfl, ?_⟩)
  exact RepF.one _ .nil _ _ _ _ none 0 0 none 0 0 [] (by show (24 : Nat) ≠ 8; decide) (by show (24 : Nat) ≠ 20; decide) rfl (fun _ => rfl) (fun h => absurd h (by show ¬ (nameSure 24 = true); decide)) (fun h => absurd h (by show ¬ ((24 : Nat) = 1); decide)) (own_nil _ _ _ _) rfl

end Go.Proofs.YtgccmgjbbcndbaaGreatDoor
