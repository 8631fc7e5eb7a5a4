import Derived.Test.YtgccmgjbbcndbaaGreatDoorM01
import Derived.Test.YtgccmgjbbcndbaaGreatDoorM18
/- Several elements appended to a slice that the call owns. -/
namespace Go.Proofs.YtgccmgjbbcndbaaGreatDoor
open Go.RowKit

theorem wpl_appm {P : Program} {ops : Array Oper} {rest : List Oper} {o : Oper} {a : Act} {Q : Exit → Act → World → Prop} (W : World) (cs : Array Value) (e : TypeId) (hgd : o.guard = none) (s x : Operand) (t : TypeId) (m : Nat)
    (ho : o.op = .call { callee := .builtin .append, args := #[s, x], argTypes := #[t, t] })
    (base size bytes : Nat) (z : Value) (ht : P.underlying t = some (.slice e)) (hinfo : (P.info? e).map (fun i => (i.zero, i.size, i.bytes)) = some (some z, size, bytes))
    (hzs : z.cells.size = size) (hsz : 0 < size) (hm : 0 < m) (hm9 : m ≤ 9)
    (v : Value) (n : Nat) (xs : List Value) (hs : a.eval s = v) (hx : a.eval x = .slice (some ⟨W.heap.size, 0, none⟩) m m)
    (hown : W.ownsRow base e size v n xs) (hl : cs.size = m * size) (h1 : ∀ u ∈ cs.toList, u.oneCell' = true)
    (hn : n ≤ 1000000) (hby : bytes ≤ 1000) (hbase : base ≤ W.heap.size)
    (h : ∀ g cap w', w'.ownsRow base e size (.slice (some ⟨g, 0, none⟩) (n + m) cap) (n + m) (xs ++ cs.toList) → W.grownBy w' v.ownBlock → (v.ownBlock = some g ∨ g = W.heap.size + 1) → g < w'.heap.size →
      wpList P ops Q rest (a.put o.dst (.slice (some ⟨g, 0, none⟩) (n + m) cap)) w') : wpList P ops Q (o :: rest) a (W.alloc (.cells cs e)) := by
  obtain ⟨i, hi, hz0, hz1, hz2⟩ := info_parts hinfo
  have hb := Nat.mul_le_mul (show n + m ≤ 1000009 by omega) hby
  refine wpList_append_lies (P := P) (W.alloc (.cells cs e)) hgd s x t ho base e i z size bytes ht hi hz0 hz1 hz2 hzs hsz v n xs hs (hown.alloc _) ⟨W.heap.size, 0, none⟩ m m cs.toList hx (by simpa using hl)
    (World.news_of_block (heap_alloc_new W _)) h1 hm (by simp only [maxLen]; omega) (by omega) (by simp; omega) (W.heap.size + 1) (by simp) ?_
  intro g cap w' k1 k2 k3 k4
  exact h g cap w' k1 (grown_trans (World.grownBy_alloc W _ none) k2) k3 k4
end Go.Proofs.YtgccmgjbbcndbaaGreatDoor
/- Walk of atom: what cannot stand; the end. -/
namespace Go.Proofs.YtgccmgjbbcndbaaGreatDoor
open Go.RowKit
open Go.Deep (BT)

theorem refKind_101 (k : Nat) (h : k ≤ 40) : (refKind k == 101) = (k == 0) := by
  revert h; revert k; decide +kernel

set_option maxRecDepth 100000 in
set_option maxHeartbeats 2000000 in
theorem atom_end {b tb cap te : Nat} {xs : List (Tk × List UInt8)} {n : Nat} (w : World) (s : PS) (r : BT Lab × PS) (hk : kT s = 0) (hs : RS b tb cap te xs w s) (hp : pars (n + 1) 4 0 .nil s = some r) :
    Calls Tryz.prog 85 #[.pointer (some ⟨b, 0, none⟩)] w (NodePost b tb cap te xs w r) := by
  have hrr := pars_none (by omega) (by omega) (by omega) (by omega) (by omega) (by omega) (by omega) (by omega) (by omega) (by omega) hp
  obtain ⟨lb, lt, lne⟩ := hs.lt
  have HF := hide hs.failBad
  have HS := hide hs
  have HRR := hide hrr
  have hkr : refKind (kT s) = 101 := by rw [hk]; rfl
  clear hp hs hrr hk
  go_enter Tryz.func85, Tryz.ntmps85
  go_wp2_with fail
  refine (peek_rs (HS.out.alloc _)).mono ?_
  rintro e w1 ⟨S1, rfl, hS1, hrs1, hb1⟩
  rw [hkr]
  have HZ1 := hide (bblk hb1 (heap_alloc_new w _))
  have HO1 : Hid (Only b w w1) := ((Only.refl b w).alloc _).trans (Below.only hb1)
  obtain ⟨e2, lbad⟩ := hrs1.badCell
  have hbl : b < w1.heap.size := hrs1.lt.1
  have HRS1 := hide hrs1
  have l1 := heap_lt HZ1.out
  by_cases h0 : s.bad = 0
  · rw [h0] at e2
    clear hS1 hrs1 hb1 hkr h0
    go_wp2_with fail
    refine (no_rs (HRS1.out.alloc _)).mono ?_
    rintro e w3 ⟨rfl, hrs3, ho3⟩
    obtain ⟨k0, k1, k2, k3, k4, k5, f1, l3⟩ := blk6 (ho3.blk (alloc_old HZ1.out) (by omega))
    have HRS3 := hide hrs3
    have HO3 := hide ho3
    clear hrs3 ho3 e2
    go_wp2
    refine bodyPost_ret (v := .agg #[.string ⟨#[]⟩, .int .i64 0, .string ⟨#[]⟩, .int .i64 0, .slice none 0 0, .slice none 0 0]) ?_ rfl ?_
    · simp [results, Tryz.results85, go_sem, k0, k1, k2, k3, k4, k5]
    rw [HRR.out]
    exact node_close (I := []) (S := []) lb lt HRS3.out ((HO1.out.alloc _).trans HO3.out) (fun hb => absurd hb HF.out)
  · have hb1' : 0 < (s.bad : Int) := by omega
    clear hS1 hrs1 hb1 hkr h0
    go_wp2_with fail
    refine (no_rs (HRS1.out.alloc _)).mono ?_
    rintro e w3 ⟨rfl, hrs3, ho3⟩
    obtain ⟨k0, k1, k2, k3, k4, k5, f1, l3⟩ := blk6 (ho3.blk (alloc_old HZ1.out) (by omega))
    have HRS3 := hide hrs3
    have HO3 := hide ho3
    clear hrs3 ho3 e2
    go_wp2
    refine bodyPost_ret (v := .agg #[.string ⟨#[]⟩, .int .i64 0, .string ⟨#[]⟩, .int .i64 0, .slice none 0 0, .slice none 0 0]) ?_ rfl ?_
    · simp [results, Tryz.results85, go_sem, k0, k1, k2, k3, k4, k5]
    rw [HRR.out]
    exact node_close (I := []) (S := []) lb lt HRS3.out ((HO1.out.alloc _).trans HO3.out) (fun hb => absurd hb HF.out)
end Go.Proofs.YtgccmgjbbcndbaaGreatDoor
/- Walk of atom: len, what cannot stand. -/
namespace Go.Proofs.YtgccmgjbbcndbaaGreatDoor
open Go.RowKit
open Go.Deep (BT)

theorem RSt.back {b tb cap te : Nat} {xs : List (Tk × List UInt8)} {w : World} {s : PS} {pl : Nat} (h : RSt b tb cap te xs w s pl) (u : Value) (q : Int) (hq : q = pl) : RSt b tb cap te xs ((w.setCell ⟨b, 1, none⟩ u).setCell ⟨b, 1, none⟩ (.int .i64 q)) s pl := by
  obtain ⟨cur, k1, k2⟩ := h.tok
  subst hq
  refine ⟨h.toks, ?_, ⟨cur, (Below.heap_setCell _ _ _ _ h.ne).trans ((Below.heap_setCell _ _ _ _ h.ne).trans k1), k2⟩, h.ne, h.lt, h.cap, h.good, h.bad⟩
  rw [heap_set (heap_set h.rd _)]; simp

theorem app_one {D : Nat → Prop} {w4 W w5 : World} {y : BT Lab} {g cap : Nat} {c2 : List Value} (hgrow : W.grownBy w5 none) (hown : w5.ownsRow 0 41 6 (.slice (some ⟨g, 0, none⟩) (0 + 1) cap) (0 + 1) ([] ++ c2)) (hW : ∀ k, k < w4.heap.size → W.heap[k]? = w4.heap[k]?) (hWs : w4.heap.size ≤ W.heap.size)
    (hB : blen y = 1 ∧ RepF D w4 y c2) (hg : D g) : OwnsD D w5 41 6 (.slice (some ⟨g, 0, none⟩) (0 + 1) cap) (blen y) c2 ∧ RepF D w5 y c2 := by
  refine ⟨⟨by rw [hB.1]; simpa using hown, fun k hk => by simp only [Value.ownBlock, Option.some.injEq] at hk; rw [← hk]; exact hg⟩, RepF.keep (fun k hk hl => ⟨?_, hk⟩) _ _ hB.2⟩
  exact (hgrow.block k (by omega) (by simp)).trans (hW k hl)

set_option maxRecDepth 100000 in
set_option maxHeartbeats 2000000 in
theorem atom_len {b tb cap te : Nat} {xs : List (Tk × List UInt8)} {n : Nat} (ih : RefPars b tb cap te xs n) (w : World) (s : PS) (r : BT Lab × PS) (hk : kT s = 16) (hs : RS b tb cap te xs w s) (hp : pars (n + 1) 4 0 .nil s = some r) :
    Calls Tryz.prog 85 #[.pointer (some ⟨b, 0, none⟩)] w (NodePost b tb cap te xs w r) := by
  obtain ⟨x, hp1, hrr⟩ := pars_len hk hp
  have HRR := hide hrr
  have hu := hide (fun (w' : World) h => ih.expr w' (wantS 18 (takeS s)) 0 0 x (by omega) (by omega) h hp1)
  clear hrr hp1 ih
  obtain ⟨lb, lt, lne⟩ := hs.lt
  have HS := hide hs
  have HK0 : Hid (kT s ≠ 0) := by show _ ≠ _; omega
  clear hp hs
  go_enter Tryz.func85, Tryz.ntmps85
  go_wp2_with fail
  refine (peek_rs (HS.out.alloc _)).mono ?_
  rintro e w1 ⟨S1, rfl, hS1, hrs1, hb1⟩
  have hS2 : S1 = [108, 101, 110] := (hS1 (by show kT s ≠ 2; omega)).trans (by unfold refS; rw [if_neg (by show ¬ (kT s = 1 ∨ kT s = 3); omega)]; show spell (kT s) = _; rw [hk]; rfl)
  subst hS2
  clear hS1
  have HZ1 := hide (bblk hb1 (heap_alloc_new w _))
  have HO1 : Hid (Only b w w1) := ((Only.refl b w).alloc _).trans (Below.only hb1)
  obtain ⟨pl, hpl⟩ := hrs1
  obtain ⟨e0, e1, e2⟩ := hpl.cells
  have hb0 := (hpl.notEnd HK0.out).1
  rw [hb0] at e2
  have fb := frozen_row hpl.rd
  have lb1 := heap_lt hpl.rd
  have hfew := hpl.toks.few
  have hpll := hpl.lt
  obtain ⟨c0, c1, c2, c3, c4, c5, f0, l0⟩ := blk6 HZ1.out
  have HM : Hid (RS b tb cap te xs (w1.setCell ⟨b, 1, none⟩ (.int .i64 ((pl : Int) + 1))) (takeS s)) := ⟨pl + 1, hpl.move HK0.out _ rfl⟩
  have HO2 : Hid (Only b w (w1.setCell ⟨b, 1, none⟩ (.int .i64 ((pl : Int) + 1)))) := Only.set (p := ⟨b, 1, none⟩) HO1.out (.inl rfl) _
  have HZ2 := hide (set_old (p := ⟨b, 1, none⟩) (u := .int .i64 ((pl : Int) + 1)) HZ1.out (by show w.heap.size ≠ b; omega))
  have HL2 : Hid ((w1.setCell ⟨b, 1, none⟩ (.int .i64 ((pl : Int) + 1))).heap.size = w1.heap.size) := by
    show _ = _
    simp [World.setCell]
  clear hpl hb1 e0 hb0
  have hkr : refKind (kT s) = 119 := by rw [hk]; rfl
  rw [hkr]
  have HK := hide hk
  clear hk hkr
  go_wp2_with fail
  refine (must_rs ((HM.out.alloc _).alloc _) 18 (by omega) (by omega) [40] rfl).mono ?_
  rintro e w3 ⟨rfl, hrs3, ho3⟩
  have hZ3 := ho3.blk (alloc_old (alloc_old HZ2.out)) (by omega)
  have hX3 := ho3.blk (g := w1.heap.size + 1) (by have := heap_alloc_new ((w1.setCell ⟨b, 1, none⟩ (.int .i64 ((pl : Int) + 1))).alloc (.cells #[.int .u8 119, .string ⟨#[108, 101, 110]⟩, .int .i64 (hdT s).n, .int .i64 ((hdT s).line : Nat)] 79)) (.cells #[.string ⟨#[108, 101, 110]⟩, .int .i64 ((hdT s).line : Nat), .string ⟨#[108, 101, 110]⟩, .int .i64 (hdT s).n, .slice none 0 0, .slice none 0 0] 41); rw [World.size_alloc, HL2.out] at this; exact this) (by omega)
  have HZ3 := hide hZ3
  have HX3 := hide hX3
  have hsz3 : w1.heap.size + 2 ≤ w3.heap.size := by have := ho3.size; rw [World.size_alloc, World.size_alloc, HL2.out] at this; exact this
  have HO3 : Hid (Only b w w3) := ((HO2.out.alloc _).alloc _).trans ho3
  have HRS3 := hide hrs3
  clear hrs3 ho3 hZ3 hX3 c0 c1 c2 c3 c4 c5 f0 e1 e2 fb
  go_wp2_with fail
  refine (hu.out _ HRS3.out).mono ?_
  rintro e w4 ⟨I, S, ln, nn, va, vn, vc, pa, pn, pc, rfl, hrs4, ho4, hrep4⟩
  have HZ4 := hide (ho4.blk HZ3.out (by omega))
  have HX4 := hide (ho4.blk HX3.out (by omega))
  have HO4 : Hid (Only b w w4) := HO3.out.trans ho4
  have hsz4 := ho4.size
  obtain ⟨d0, d1, d2, d3, d4, d5, f2, l2⟩ := blk6 HX4.out
  have HRS4 := hide hrs4
  have HRep4 := hide hrep4
  have hnil := World.ownsRow_nil (w4.alloc (.cells (ndC I S ln nn va vn vc pa pn pc) 41)) 0 41 6
  clear hrs4 ho4 hrep4
  go_wp2_with (at_builtin; refine wpl_app (w4.alloc (.cells (ndC I S ln nn va vn vc pa pn pc) 41)) (ndC I S ln nn va vn vc pa pn pc) 41 rfl (.tmp 112) (.tmp 114) 36 rfl 0 6 96 (.agg #[.string ⟨#[]⟩, .int .i64 0, .string ⟨#[]⟩, .int .i64 0, .slice none 0 0, .slice none 0 0]) Tryz.underlying36 infoNode rfl (by omega) (.slice none 0 0) 0 [] rfl (by simp; rfl) hnil rfl nd_one (by omega) (by omega) (Nat.zero_le _) ?_; intro g cap1 w5 hown5 hgrow hat hg; have HG : Hid (g = w4.heap.size + 1 + 1) := (by show g = _; rcases hat with h | h; exact absurd h (by simp [Value.ownBlock]); simpa using h); replace hgrow : (w4.alloc (.cells (ndC I S ln nn va vn vc pa pn pc) 41)).grownBy w5 none := hgrow; have hX5 := (hgrow.block _ (heap_lt (alloc_old HX4.out)) (by simp)).trans (alloc_old HX4.out); obtain ⟨p0, p1, p2, p3, p4, p5, f5, l5⟩ := blk6 hX5; have HX5 := hide hX5; clear hat hX5)
  have HGrow := hide hgrow
  have HOwn5 := hide hown5
  have HZ5 := hide ((HGrow.out.block _ (heap_lt (alloc_old HZ4.out)) (by simp)).trans (alloc_old HZ4.out))
  have HRS5 : Hid (RS b tb cap te xs w5 x.2) := (HRS4.out.alloc _).grown HGrow.out (by simp) (by simp)
  have HO5 : Hid (Only b w w5) := (HO4.out.alloc _).grown HGrow.out (fun k e => by cases e)
  clear hgrow hown5 p0 p1 p2 p3 p4 p5 f5 d0 d1 d2 d3 d4 d5 f2 hnil
  refine (must_rs (HRS5.out.other (p := ⟨w1.heap.size + 1, 4, none⟩) (by show b ≠ w1.heap.size + 1; omega) (by show tb ≠ w1.heap.size + 1; omega) _) 19 (by omega) (by omega) [41] rfl).mono ?_
  rintro e w6 ⟨rfl, hrs6, ho6⟩
  have hZ6 := ho6.blk (set_old (p := ⟨w1.heap.size + 1, 4, none⟩) HZ5.out (by show w.heap.size ≠ w1.heap.size + 1; omega)) (by omega)
  have hX6 := ho6.blk (heap_set (j := 4) HX5.out _) (by omega)
  simp only [List.setIfInBounds_toArray, List.set_cons_zero, List.set_cons_succ] at hX6
  obtain ⟨k0, k1, k2, k3, k4, k5, f1, l1⟩ := blk6 hZ6
  obtain ⟨q0, q1, q2, q3, q4, q5, f3, l3⟩ := blk6 hX6
  have HRS6 := hide hrs6
  have HO6 := hide ho6
  clear hrs6 ho6 hZ6 hX6
  go_wp2
  refine bodyPost_ret (v := .agg #[.string ⟨#[108, 101, 110]⟩, .int .i64 ((hdT s).line : Nat), .string ⟨#[108, 101, 110]⟩, .int .i64 (hdT s).n, .slice (some ⟨g, 0, none⟩) (0 + 1) cap1, .slice none 0 0]) ?_ rfl ?_
  · simp [results, Tryz.results85, go_sem, k0, k1, k2, k3, k4, k5]
  rw [HRR.out]
  refine node_close (I := [108, 101, 110]) (S := [108, 101, 110]) lb lt HRS6.out ((Only.set (p := ⟨w1.heap.size + 1, 4, none⟩) HO5.out (.inr (by show w.heap.size ≤ w1.heap.size + 1; omega)) _).trans HO6.out) (fun hb => ⟨rfl, ?_⟩)
  have hr4 := HRep4.out (want_good hb)
  have hap := app_one (D := fun k => w1.heap.size + 1 < k) HGrow.out HOwn5.out (fun k hk => Below.heap_alloc w4 _ k hk) (by simp) ⟨hr4.1, RepF.keep (fun k hk hl => ⟨rfl, by have h : w3.heap.size ≤ k := hk; omega⟩) _ _ hr4.2⟩ (by show w1.heap.size + 1 < g; have := HG.out; omega)
  have hkeep : ∀ k, w1.heap.size + 1 < k → k < w5.heap.size → w6.heap[k]? = w5.heap[k]? ∧ w.heap.size < k := fun k hk hl =>
    ⟨(HO6.out.block k (by simp [World.setCell]; exact hl) (by omega)).trans (Below.heap_setCell _ _ _ _ (by show k ≠ w1.heap.size + 1; omega)), by omega⟩
  exact RepF.one _ x.1 _ _ _ _ _ _ _ none 0 0 _ (by show (10 : Nat) ≠ 8; decide) (by show (10 : Nat) ≠ 20; decide) rfl (fun _ => rfl) (fun h => absurd h (by show ¬ (nameSure 10 = true); decide)) (fun h => absurd h (by show ¬ ((10 : Nat) = 1); decide)) (hap.1.keep hkeep) (RepF.keep hkeep _ _ hap.2)

end Go.Proofs.YtgccmgjbbcndbaaGreatDoor
/- Walk of atom: push. -/
namespace Go.Proofs.YtgccmgjbbcndbaaGreatDoor
open Go.RowKit
open Go.Deep (BT)

theorem app_two {D : Nat → Prop} {w6 W w7 : World} {x y : BT Lab} {g cap : Nat} {c1 c2 : List Value} (hgrow : W.grownBy w7 none) (hown : w7.ownsRow 0 41 6 (.slice (some ⟨g, 0, none⟩) (0 + 2) cap) (0 + 2) ([] ++ (c1 ++ c2))) (hW : ∀ k, k < w6.heap.size → W.heap[k]? = w6.heap[k]?) (hWs : w6.heap.size ≤ W.heap.size)
    (hA : blen x = 1 ∧ RepF D w6 x c1) (hB : blen y = 1 ∧ RepF D w6 y c2) (hg : D g) : OwnsD D w7 41 6 (.slice (some ⟨g, 0, none⟩) (0 + 2) cap) (blen (bapp x y)) (c1 ++ c2) ∧ RepF D w7 (bapp x y) (c1 ++ c2) := by
  have hk : ∀ k, D k → k < w6.heap.size → w7.heap[k]? = w6.heap[k]? ∧ D k := fun k hk hl => ⟨(hgrow.block k (by omega) (by simp)).trans (hW k hl), hk⟩
  exact ⟨⟨by rw [bapp_len, hA.1, hB.1]; simpa using hown, fun k hk => by simp only [Value.ownBlock, Option.some.injEq] at hk; rw [← hk]; exact hg⟩, RepF.app _ _ _ _ (RepF.keep hk _ _ hA.2) (RepF.keep hk _ _ hB.2)⟩

theorem nd_two {I S I' S' : List UInt8} {ln nn ln' nn' : Int} {va va' : Option Addr} {vn vc vn' vc' : Nat} {pa pa' : Option Addr} {pn pc pn' pc' : Nat} : ∀ u ∈ (ndC I S ln nn va vn vc pa pn pc ++ ndC I' S' ln' nn' va' vn' vc' pa' pn' pc').toList, u.oneCell' = true := by
  intro u hu
  rw [Array.toList_append, List.mem_append] at hu
  rcases hu with h | h
  · exact nd_one u h
  · exact nd_one u h

set_option maxRecDepth 100000 in
set_option maxHeartbeats 2000000 in
theorem atom_push {b tb cap te : Nat} {xs : List (Tk × List UInt8)} {n : Nat} (ih : RefPars b tb cap te xs n) (w : World) (s : PS) (r : BT Lab × PS) (hk : kT s = 17) (hs : RS b tb cap te xs w s) (hp : pars (n + 1) 4 0 .nil s = some r) :
    Calls Tryz.prog 85 #[.pointer (some ⟨b, 0, none⟩)] w (NodePost b tb cap te xs w r) := by
  obtain ⟨x, y, hp1, hp2, hrr⟩ := pars_push hk hp
  have HRR := hide hrr
  have hu := hide (fun (w' : World) h => ih.expr w' (wantS 18 (takeS s)) 0 0 x (by omega) (by omega) h hp1)
  have hu2 := hide (fun (w' : World) h => ih.expr w' (wantS 24 x.2) 0 0 y (by omega) (by omega) h hp2)
  have HST := hide (fun h1 h2 => pars_sticky (s := wantS 24 x.2) h1 h2 _ _ _ _ _ hp2)
  clear hrr hp1 hp2 ih
  obtain ⟨lb, lt, lne⟩ := hs.lt
  have HS := hide hs
  have HK0 : Hid (kT s ≠ 0) := by show _ ≠ _; omega
  clear hp hs
  go_enter Tryz.func85, Tryz.ntmps85
  go_wp2_with fail
  refine (peek_rs (HS.out.alloc _)).mono ?_
  rintro e w1 ⟨S1, rfl, hS1, hrs1, hb1⟩
  have hS2 : S1 = [112, 117, 115, 104] := (hS1 (by show kT s ≠ 2; omega)).trans (by unfold refS; rw [if_neg (by show ¬ (kT s = 1 ∨ kT s = 3); omega)]; show spell (kT s) = _; rw [hk]; rfl)
  subst hS2
  clear hS1
  have HZ1 := hide (bblk hb1 (heap_alloc_new w _))
  have HO1 : Hid (Only b w w1) := ((Only.refl b w).alloc _).trans (Below.only hb1)
  obtain ⟨pl, hpl⟩ := hrs1
  obtain ⟨e0, e1, e2⟩ := hpl.cells
  have hb0 := (hpl.notEnd HK0.out).1
  rw [hb0] at e2
  have fb := frozen_row hpl.rd
  have lb1 := heap_lt hpl.rd
  have hfew := hpl.toks.few
  have hpll := hpl.lt
  obtain ⟨c0, c1, c2, c3, c4, c5, f0, l0⟩ := blk6 HZ1.out
  have HM : Hid (RS b tb cap te xs (w1.setCell ⟨b, 1, none⟩ (.int .i64 ((pl : Int) + 1))) (takeS s)) := ⟨pl + 1, hpl.move HK0.out _ rfl⟩
  have HO2 : Hid (Only b w (w1.setCell ⟨b, 1, none⟩ (.int .i64 ((pl : Int) + 1)))) := Only.set (p := ⟨b, 1, none⟩) HO1.out (.inl rfl) _
  have HZ2 := hide (set_old (p := ⟨b, 1, none⟩) (u := .int .i64 ((pl : Int) + 1)) HZ1.out (by show w.heap.size ≠ b; omega))
  have HL2 : Hid ((w1.setCell ⟨b, 1, none⟩ (.int .i64 ((pl : Int) + 1))).heap.size = w1.heap.size) := by
    show _ = _
    simp [World.setCell]
  clear hpl hb1 e0 hb0
  have hkr : refKind (kT s) = 119 := by rw [hk]; rfl
  rw [hkr]
  have HK := hide hk
  clear hk hkr
  go_wp2_with fail
  refine (must_rs ((HM.out.alloc _).alloc _) 18 (by omega) (by omega) [40] rfl).mono ?_
  rintro e w3 ⟨rfl, hrs3, ho3⟩
  have hZ3 := ho3.blk (alloc_old (alloc_old HZ2.out)) (by omega)
  have hX3 := ho3.blk (g := w1.heap.size + 1) (by have := heap_alloc_new ((w1.setCell ⟨b, 1, none⟩ (.int .i64 ((pl : Int) + 1))).alloc (.cells #[.int .u8 119, .string ⟨#[112, 117, 115, 104]⟩, .int .i64 (hdT s).n, .int .i64 ((hdT s).line : Nat)] 79)) (.cells #[.string ⟨#[112, 117, 115, 104]⟩, .int .i64 ((hdT s).line : Nat), .string ⟨#[112, 117, 115, 104]⟩, .int .i64 (hdT s).n, .slice none 0 0, .slice none 0 0] 41); rw [World.size_alloc, HL2.out] at this; exact this) (by omega)
  have HZ3 := hide hZ3
  have HX3 := hide hX3
  have hsz3 : w1.heap.size + 2 ≤ w3.heap.size := by have := ho3.size; rw [World.size_alloc, World.size_alloc, HL2.out] at this; exact this
  have HO3 : Hid (Only b w w3) := ((HO2.out.alloc _).alloc _).trans ho3
  have HRS3 := hide hrs3
  clear hrs3 ho3 hZ3 hX3 c0 c1 c2 c3 c4 c5 f0 e1 e2 fb
  go_wp2_with fail
  refine (hu.out _ HRS3.out).mono ?_
  rintro e w4 ⟨I, S, ln, nn, va, vn, vc, pa, pn, pc, rfl, hrs4, ho4, hrep4⟩
  have HZ4 := hide (ho4.blk HZ3.out (by omega))
  have HX4 := hide (ho4.blk HX3.out (by omega))
  have HO4 : Hid (Only b w w4) := HO3.out.trans ho4
  have hsz4 := ho4.size
  have HRS4 := hide hrs4
  have HRep4 := hide hrep4
  clear hrs4 ho4 hrep4 hu
  go_wp2_with fail
  refine (must_rs (HRS4.out.alloc _) 24 (by omega) (by omega) [44] rfl).mono ?_
  rintro e w5 ⟨rfl, hrs5, ho5⟩
  have HZ5 := hide (ho5.blk (alloc_old HZ4.out) (by omega))
  have HX5 := hide (ho5.blk (alloc_old HX4.out) (by omega))
  have HE5 := hide (ho5.blk (heap_alloc_new w4 _) (by omega))
  have HO5 := hide ho5
  have hsz5 : w4.heap.size + 1 ≤ w5.heap.size := by have := ho5.size; rw [World.size_alloc] at this; exact this
  have HRS5 := hide hrs5
  clear hrs5 ho5
  go_wp2_with fail
  refine (hu2.out _ HRS5.out).mono ?_
  rintro e w6 ⟨I6, S6, ln6, nn6, va6, vn6, vc6, pa6, pn6, pc6, rfl, hrs6, ho6, hrep6⟩
  have HZ6 := hide (ho6.blk HZ5.out (by omega))
  have HX6 := hide (ho6.blk HX5.out (by omega))
  have HE6 := hide (ho6.blk HE5.out (by omega))
  have hsz6 := ho6.size
  have HO6 := hide ho6
  obtain ⟨d0, d1, d2, d3, d4, d5, f2, l2⟩ := blk6 HX6.out
  obtain ⟨j0, j1, j2, j3, j4, j5, f4, l4⟩ := blk6 HE6.out
  have HRS6 := hide hrs6
  have HRep6 := hide hrep6
  have hnil := World.ownsRow_nil (w6.alloc (.cells (ndC I6 S6 ln6 nn6 va6 vn6 vc6 pa6 pn6 pc6) 41)) 0 41 6
  clear hrs6 ho6 hrep6 hu2
  go_wp2_with (at_builtin; refine wpl_appm (w6.alloc (.cells (ndC I6 S6 ln6 nn6 va6 vn6 vc6 pa6 pn6 pc6) 41)) ((ndC I S ln nn va vn vc pa pn pc) ++ (ndC I6 S6 ln6 nn6 va6 vn6 vc6 pa6 pn6 pc6)) 41 rfl (.tmp 132) (.tmp 135) 36 2 rfl 0 6 96 (.agg #[.string ⟨#[]⟩, .int .i64 0, .string ⟨#[]⟩, .int .i64 0, .slice none 0 0, .slice none 0 0]) Tryz.underlying36 infoNode rfl (by omega) (by omega) (by omega) (.slice none 0 0) 0 [] rfl (by simp; rfl) hnil rfl nd_two (by omega) (by omega) (Nat.zero_le _) ?_; intro g cap1 w7 hown7 hgrow hat hg; have HG : Hid (g = w6.heap.size + 1 + 1) := (by show g = _; rcases hat with h | h; exact absurd h (by simp [Value.ownBlock]); simpa using h); replace hgrow : (w6.alloc (.cells (ndC I6 S6 ln6 nn6 va6 vn6 vc6 pa6 pn6 pc6) 41)).grownBy w7 none := hgrow; have hX7 := (hgrow.block _ (heap_lt (alloc_old HX6.out)) (by simp)).trans (alloc_old HX6.out); obtain ⟨p0, p1, p2, p3, p4, p5, f5, l5⟩ := blk6 hX7; have HX7 := hide hX7; clear hat hX7)
  have HGrow := hide hgrow
  have HOwn7 := hide hown7
  have HZ7 := hide ((HGrow.out.block _ (heap_lt (alloc_old HZ6.out)) (by simp)).trans (alloc_old HZ6.out))
  have HRS7 : Hid (RS b tb cap te xs w7 y.2) := (HRS6.out.alloc _).grown HGrow.out (by simp) (by simp)
  have HO7 : Hid (Only b w w7) := (((((HO4.out.alloc _).trans HO5.out).trans HO6.out).alloc _).grown HGrow.out (fun k e => by cases e))
  clear hgrow hown7 p0 p1 p2 p3 p4 p5 f5 d0 d1 d2 d3 d4 d5 f2 hnil j0 j1 j2 j3 j4 j5 f4
  refine (must_rs (HRS7.out.other (p := ⟨w1.heap.size + 1, 4, none⟩) (by show b ≠ w1.heap.size + 1; omega) (by show tb ≠ w1.heap.size + 1; omega) _) 19 (by omega) (by omega) [41] rfl).mono ?_
  rintro e w8 ⟨rfl, hrs8, ho8⟩
  have hZ8 := ho8.blk (set_old (p := ⟨w1.heap.size + 1, 4, none⟩) HZ7.out (by show w.heap.size ≠ w1.heap.size + 1; omega)) (by omega)
  have hX8 := ho8.blk (heap_set (j := 4) HX7.out _) (by omega)
  simp only [List.setIfInBounds_toArray, List.set_cons_zero, List.set_cons_succ] at hX8
  obtain ⟨k0, k1, k2, k3, k4, k5, f1, l1⟩ := blk6 hZ8
  obtain ⟨q0, q1, q2, q3, q4, q5, f3, l3⟩ := blk6 hX8
  have HRS8 := hide hrs8
  have HO8 := hide ho8
  clear hrs8 ho8 hZ8 hX8
  go_wp2
  refine bodyPost_ret (v := .agg #[.string ⟨#[112, 117, 115, 104]⟩, .int .i64 ((hdT s).line : Nat), .string ⟨#[112, 117, 115, 104]⟩, .int .i64 (hdT s).n, .slice (some ⟨g, 0, none⟩) (0 + 2) cap1, .slice none 0 0]) ?_ rfl ?_
  · simp [results, Tryz.results85, go_sem, k0, k1, k2, k3, k4, k5]
  rw [HRR.out]
  refine node_close (I := [112, 117, 115, 104]) (S := [112, 117, 115, 104]) lb lt HRS8.out ((Only.set (p := ⟨w1.heap.size + 1, 4, none⟩) HO7.out (.inr (by show w.heap.size ≤ w1.heap.size + 1; omega)) _).trans HO8.out) (fun hb => ⟨rfl, ?_⟩)
  have hb6 := want_good hb
  have hb4 : x.2.bad = 0 := by
    rcases Nat.eq_zero_or_pos (wantS 24 x.2).bad with h | h
    · exact want_good h
    · exfalso
      have hne : (wantS 24 x.2).bad ≠ 0 := by omega
      have := HST.out (HRS5.out.sticky hne) hne
      rw [this] at hb6; omega
  have hr4 := HRep4.out hb4
  have hr6 := HRep6.out hb6
  have hap := app_two (D := fun k => w1.heap.size + 1 < k) HGrow.out (by simpa using HOwn7.out) (fun k hk => Below.heap_alloc w6 _ k hk) (by simp)
    ⟨hr4.1, RepF.keep (fun k hk hl => ⟨(HO6.out.block k (by omega) (by have h : w3.heap.size ≤ k := hk; omega)).trans ((HO5.out.block k (by rw [World.size_alloc]; omega) (by have h : w3.heap.size ≤ k := hk; omega)).trans (Below.heap_alloc w4 _ k hl)), by have h : w3.heap.size ≤ k := hk; omega⟩) _ _ hr4.2⟩
    ⟨hr6.1, RepF.keep (fun k hk hl => ⟨rfl, by have h : w5.heap.size ≤ k := hk; omega⟩) _ _ hr6.2⟩ (by show w1.heap.size + 1 < g; have := HG.out; omega)
  have hkeep : ∀ k, w1.heap.size + 1 < k → k < w7.heap.size → w8.heap[k]? = w7.heap[k]? ∧ w.heap.size < k := fun k hk hl =>
    ⟨(HO8.out.block k (by simp [World.setCell]; exact hl) (by omega)).trans (Below.heap_setCell _ _ _ _ (by show k ≠ w1.heap.size + 1; omega)), by omega⟩
  exact RepF.one _ (bapp x.1 y.1) _ _ _ _ _ _ _ none 0 0 _ (by show (11 : Nat) ≠ 8; decide) (by show (11 : Nat) ≠ 20; decide) rfl (fun _ => rfl) (fun h => absurd h (by show ¬ (nameSure 11 = true); decide)) (fun h => absurd h (by show ¬ ((11 : Nat) = 1); decide)) (hap.1.keep hkeep) (RepF.keep hkeep _ _ hap.2)

end Go.Proofs.YtgccmgjbbcndbaaGreatDoor
