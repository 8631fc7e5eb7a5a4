import Derived.Test.YtgccmgjbbcndbaaGreatDoorM19
import Derived.ArgAppend
import Derived.Test.YtgccmgjbbcndbaaGreatDoorM20
import Derived.Test.YtgccmgjbbcndbaaGreatDoorM11
/- One element appended to a slice that has no room: a new row. -/
namespace Go.Proofs.YtgccmgjbbcndbaaGreatDoor
open Go.RowKit

theorem own_cells {w : World} {base : Nat} {e : TypeId} {size n : Nat} {va : Option Addr} {vn vc : Nat} {xs : List Value} (h : w.ownsRow base e size (.slice va vn vc) n xs) :
    vn = n ∧ (va = none → vn = 0 ∧ vc = 0) ∧ xs.length = n * size ∧ ∀ b, va = some b → ∀ j u, xs[j]? = some u → w.cell? (b.add j) = some u := by
  obtain ⟨hl, h1 | ⟨g, cap, cur, hv, _, hg, _, _, _, ht⟩⟩ := h
  · obtain ⟨h2, h3⟩ := h1
    injection h2 with e1 e2 e3
    subst e1 e2 e3 h3
    exact ⟨rfl, (fun _ => ⟨rfl, rfl⟩), hl, fun b hb => by cases hb⟩
  · injection hv with e1 e2 e3
    subst e1 e2 e3
    refine ⟨rfl, (fun h => by cases h), hl, fun b hb j u hu => ?_⟩
    injection hb with hb
    subst hb
    refine World.news_of_block hg j u ?_
    rw [← ht, List.getElem?_take] at hu
    split at hu
    · exact hu
    · cases hu

theorem own_base {w : World} {base : Nat} {e : TypeId} {size n : Nat} {v : Value} {xs : List Value} (h : w.ownsRow base e size v n xs) : w.ownsRow 0 e size v n xs := by
  obtain ⟨hl, h1 | ⟨g, cap, cur, hv, _, hg, h3⟩⟩ := h
  · exact ⟨hl, .inl h1⟩
  · exact ⟨hl, .inr ⟨g, cap, cur, hv, Nat.zero_le _, hg, h3⟩⟩

theorem wpl_appf {P : Program} {ops : Array Oper} {rest : List Oper} {o : Oper} {a : Act} {Q : Exit → Act → World → Prop} (W : World) (cs : Array Value) (e : TypeId) (hgd : o.guard = none) (s x : Operand) (t : TypeId)
    (ho : o.op = .call { callee := .builtin .append, args := #[s, x], argTypes := #[t, t] })
    (base size bytes : Nat) (z : Value) (ht : P.underlying t = some (.slice e)) (hinfo : (P.info? e).map (fun i => (i.zero, i.size, i.bytes)) = some (some z, size, bytes))
    (hzs : z.cells.size = size) (hsz : 0 < size)
    (va : Option Addr) (n : Nat) (xs : List Value) (hs : a.eval s = .slice va n n) (hx : a.eval x = .slice (some ⟨W.heap.size, 0, none⟩) 1 1)
    (hown : W.ownsRow base e size (.slice va n n) n xs) (hl : cs.size = size) (h1 : ∀ u ∈ cs.toList, u.oneCell' = true)
    (hn : n ≤ 1000000) (hby : bytes ≤ 1000)
    (h : ∀ g cap w', w'.ownsRow 0 e size (.slice (some ⟨g, 0, none⟩) (n + 1) cap) (n + 1) (xs ++ cs.toList) → W.grownBy w' none → W.heap.size < g → g < w'.heap.size →
      wpList P ops Q rest (a.put o.dst (.slice (some ⟨g, 0, none⟩) (n + 1) cap)) w') : wpList P ops Q (o :: rest) a (W.alloc (.cells cs e)) := by
  obtain ⟨i, hi, hz0, hz1, hz2⟩ := info_parts hinfo
  have hb := Nat.mul_le_mul (show n + 1 ≤ 1000001 by omega) hby
  obtain ⟨_, k2, k3, k4⟩ := own_cells (hown.alloc (.cells cs e))
  refine wpList_append_grows (P := P) (W.alloc (.cells cs e)) hgd s x t ho e i z size bytes ht hi hz0 hz1 hz2 hzs hsz va n n xs hs k2 k3 k4 ⟨W.heap.size, 0, none⟩ 1 1 cs.toList hx (by simp [hl])
    (World.news_of_block (heap_alloc_new W _)) h1 (by omega) (by simp only [maxLen]; omega) (by omega) ?_
  intro v' w' r1 r2
  obtain ⟨g, cap, rfl, hg, hlt⟩ := r1.form (by omega)
  exact h g cap w' (own_base r1) (grown_trans (World.grownBy_alloc W _ none) r2) (by simp at hg; omega) hlt
end Go.Proofs.YtgccmgjbbcndbaaGreatDoor
/- The reader's state and what was taken; a node's cells, read off the forest. -/
namespace Go.Proofs.YtgccmgjbbcndbaaGreatDoor
open Go.RowKit
open Go.Deep (BT)

theorem toks_end {xs : List (Tk × List UInt8)} (h : Toks xs) : ∀ m pl, pl + m = xs.length → 0 < m → EndOk ((xs.drop pl).map (·.1)) := by
  intro m
  induction m with
  | zero => intro pl _ h0; omega
  | succ m ih =>
    intro pl he _
    have hlt : pl < xs.length := by omega
    rw [List.drop_eq_getElem_cons hlt, List.map_cons]
    refine ⟨(h.line _ (List.getElem_mem hlt)).1, ?_⟩
    by_cases hk : xs[pl].1.k = 0
    · exact .inl hk
    · right
      refine ih (pl + 1) (by omega) ?_
      rcases Nat.eq_zero_or_pos m with e | e
      · exact absurd ((h.last pl hlt).2 (by omega)) hk
      · exact e
theorem RS.wf {b tb cap te : Nat} {xs : List (Tk × List UInt8)} {w : World} {s : PS} (h : RS b tb cap te xs w s) : WF s := by
  obtain ⟨pl, h⟩ := h
  refine ⟨fun hb => ?_, fun hb => (h.bad hb).1⟩
  rw [h.good hb]
  exact toks_end h.toks (xs.length - pl) pl (by have := h.lt; omega) (by have := h.lt; omega)

theorem less_at {b tb cap te : Nat} {xs : List (Tk × List UInt8)} {w w2 : World} {s s2 : PS} {pl2 : Nat} (h1 : RS b tb cap te xs w s) (h2 : RSt b tb cap te xs w2 s2 pl2) (hb : s2.bad = 0) (hl : Less s s2) : 1 ≤ pl2 := by
  obtain ⟨pl, h1⟩ := h1
  obtain ⟨h0, l⟩ := hl hb
  rw [h1.good h0, h2.good hb] at l
  simp only [List.length_map, List.length_drop] at l
  omega
theorem took_at {b tb cap te k : Nat} {xs : List (Tk × List UInt8)} {w w2 : World} {s s2 : PS} {pl2 : Nat} (h1 : RS b tb cap te xs w s) (h2 : RSt b tb cap te xs w2 s2 pl2) (hb : s2.bad = 0) (ht : Took k s s2) (hj : pl2 - 1 < xs.length) : (xs[pl2 - 1]).1.k = k := by
  obtain ⟨pl, h1⟩ := h1
  obtain ⟨h0, pre, x, e, hx⟩ := ht hb
  rw [h1.good h0, h2.good hb] at e
  have hlen := congrArg List.length e
  simp only [List.length_map, List.length_drop, List.length_append, List.length_cons] at hlen
  have l1 := h1.lt
  have l2 := h2.lt
  have e2 := congrArg (fun l => l[pre.length]?) e
  simp only [List.getElem?_append_right (Nat.le_refl _), Nat.sub_self, List.getElem?_cons_zero, List.getElem?_map, List.getElem?_drop] at e2
  rw [show pl + pre.length = pl2 - 1 by omega, List.getElem?_eq_getElem hj] at e2
  simp only [Option.map_some, Option.some.injEq] at e2
  rw [e2]; exact hx

theorem blen_zero : ∀ f : BT Lab, blen f = 0 → f = .nil := by
  intro f h
  cases f with
  | nil => rfl
  | node x y l c r => simp [blen] at h

theorem rep_root {D : Nat → Prop} {w : World} {x : BT Lab} {I S : List UInt8} {ln nn : Int} {va : Option Addr} {vn vc : Nat} {pa : Option Addr} {pn pc : Nat} (h1 : blen x = 1) (h : RepF D w x (ndC I S ln nn va vn vc pa pn pc).toList) (h8 : (rootLab x).kd ≠ 8) :
    I = isS (rootLab x).kd ∧ (lineSure (rootLab x).kd = true → ln = (rootLab x).line) ∧ (nameSure (rootLab x).kd = true → S = (rootLab x).s) ∧ ((rootLab x).kd = 12 → vc = vn) ∧
    ∃ c1, OwnsD D w 41 6 (.slice va vn vc) (blen (kidsOf x)) c1 ∧ RepF D w (kidsOf x) c1 := by
  cases x with
  | nil => simp [blen] at h1
  | node i j l c r =>
    have hr : r = .nil := blen_zero r (by simp only [blen] at h1; omega)
    subst hr
    rw [RepF, if_neg (by exact h8)] at h
    obtain ⟨ln', nn', S', v, pv, c1, c2, _, e, k1, k2, k3, k12, k4, k5, _, _⟩ := h
    simp only [ndC] at e
    injection e with e1 e
    injection e with e2 e
    injection e with e3 e
    injection e with e4 e
    injection e with e5 e
    injection e1 with e1
    injection e2 with _ e2
    injection e3 with e3
    have hI : I = isS l.kd := by
      have := congrArg (fun b => b.data.toList) e1
      simpa using this
    have hS : S = S' := by
      have := congrArg (fun b => b.data.toList) e3
      simpa using this
    subst e2 hS e5
    refine ⟨hI, k1, k2, fun e => ?_, c1, k4, k5⟩
    obtain ⟨a, n, hh⟩ := k12 e
    injection hh with h1 h2 h3
    rw [h2, h3]

theorem isS_name : ∀ kd, kd ≤ 140 → (kd ≤ 14 ∨ 127 ≤ kd) → kd ≠ 8 → (isS kd == [110, 97, 109, 101]) = (kd == 6) ∧ (isS kd == [105, 110, 100, 101, 120]) = (kd == 12) := by decide +kernel
end Go.Proofs.YtgccmgjbbcndbaaGreatDoor
/- Walk of simple: an expression that stands alone. -/
namespace Go.Proofs.YtgccmgjbbcndbaaGreatDoor
open Go.RowKit
open Go.Deep (BT)

set_option maxRecDepth 100000 in
set_option maxHeartbeats 2000000 in
theorem simple_do {b tb cap te : Nat} {xs : List (Tk × List UInt8)} {n : Nat} (ih : RefPars b tb cap te xs n) (w : World) (s : PS) (r x : BT Lab × PS) (hs : RS b tb cap te xs w s) (hp1 : pars n 0 0 .nil s = some x) (hk : kT x.2 ≠ 26) (hrr : r = (nd (lab0 30 (rootLab x.1).line) x.1, wantS 25 x.2)) :
    Calls Tryz.prog 41 #[.pointer (some ⟨b, 0, none⟩)] w (NodePost b tb cap te xs w r) := by
  have HRR := hide hrr
  have hu := hide (fun (w' : World) h => ih.expr w' s 0 0 x (by omega) (by omega) h hp1)
  have hq : (kT x.2 == 26) = false := by simpa using hk
  obtain ⟨lb, lt, lne⟩ := hs.lt
  have HS := hide hs
  clear hp1 hrr ih hs hk
  go_enter Tryz.func41, Tryz.ntmps41
  go_wp2_with fail
  refine (hu.out _ (HS.out.alloc _)).mono ?_
  rintro e w1 ⟨I, S, ln, nn, va, vn, vc, pa, pn, pc, rfl, hrs1, ho1, hrep1⟩
  have HZ1 := hide (ho1.blk (heap_alloc_new w _) (by omega))
  have HO1 : Hid (Only b w w1) := ((Only.refl b w).alloc _).trans ho1
  have HRS1 := hide hrs1
  have HRep1 := hide hrep1
  clear hrs1 ho1 hrep1
  go_wp2_with fail
  refine (is_rs (((HRS1.out.alloc _).alloc _).alloc _) 26 (by omega) (by omega) [61] rfl).mono ?_
  rintro e w2 ⟨rfl, hrs2, hb2⟩
  rw [hq]
  have lw1 : b < w1.heap.size := HRS1.out.lt.1
  have lz1 := heap_lt HZ1.out
  have hsz2 : w1.heap.size + 3 ≤ w2.heap.size := by have := hb2.size; simpa using this
  have HX2 := hide (bblk hb2 (heap_alloc_new ((w1.alloc (.cells (ndC I S ln nn va vn vc pa pn pc) 41)).alloc (.cells (ndC I S ln nn va vn vc pa pn pc) 41)) (.cells #[.string ⟨#[100, 111]⟩, .int .i64 ln, .string ⟨#[]⟩, .int .i64 0, .slice (some ⟨w1.heap.size + 1, 0, none⟩) 1 1, .slice none 0 0] 41)))
  have HL2 := hide (bblk hb2 (alloc_old (heap_alloc_new (w1.alloc (.cells (ndC I S ln nn va vn vc pa pn pc) 41)) (.cells (ndC I S ln nn va vn vc pa pn pc) 41))))
  have HZ2 := hide (bblk hb2 (alloc_old (alloc_old (alloc_old HZ1.out))))
  have HK2 : Hid (∀ k, k < w1.heap.size → w2.heap[k]? = w1.heap[k]?) := fun k hk => (hb2.block k (by simp; omega)).trans ((Below.heap_alloc _ _ _ (by simp; omega)).trans ((Below.heap_alloc _ _ _ (by simp; omega)).trans (Below.heap_alloc _ _ _ hk)))
  have HO2 : Hid (Only b w w2) := (((HO1.out.alloc _).alloc _).alloc _).trans (Below.only hb2)
  have HRS2 := hide hrs2
  clear hrs2 hb2
  go_wp2_with fail
  refine (must_rs HRS2.out 25 (by omega) (by omega) [59] rfl).mono ?_
  rintro e w4 ⟨rfl, hrs4, ho4⟩
  have hX4 := ho4.blk HX2.out (by simp; omega)
  simp only [World.size_alloc] at hX4
  have hZ4 := ho4.blk HZ2.out (by omega)
  obtain ⟨k0, k1, k2, k3, k4, k5, f1, l1⟩ := blk6 hZ4
  obtain ⟨d0, d1, d2, d3, d4, d5, f2, l2⟩ := blk6 hX4
  have HRS4 := hide hrs4
  have HO4 := hide ho4
  clear hrs4 ho4 hX4 hZ4
  go_wp2
  refine bodyPost_ret (v := .agg #[.string ⟨#[100, 111]⟩, .int .i64 ln, .string ⟨#[]⟩, .int .i64 0, .slice (some ⟨w1.heap.size + 1, 0, none⟩) 1 1, .slice none 0 0]) ?_ rfl ?_
  · simp [results, Tryz.results41, go_sem, k0, k1, k2, k3, k4, k5]
  rw [HRR.out]
  refine node_close (I := [100, 111]) (S := []) lb lt HRS4.out (HO2.out.trans HO4.out) (fun hb => ⟨rfl, ?_⟩)
  have hr1 := HRep1.out (want_good hb)
  have hL := HO4.out.blk HL2.out (by simp; omega)
  simp only [World.size_alloc] at hL
  refine RepF.one (lab0 30 (rootLab x.1).line) x.1 _ _ _ _ _ _ _ _ _ _ (ndC I S ln nn va vn vc pa pn pc).toList (by show (30 : Nat) ≠ 8; decide) (by show (30 : Nat) ≠ 20; decide) rfl (fun h => absurd h (by show ¬ (lineSure 30 = true); decide)) (fun h => absurd h (by show ¬ (nameSure 30 = true); decide)) (fun h => absurd h (by show ¬ ((30 : Nat) = 1); decide)) ?_ (RepF.keep (fun k hk hl => ⟨?_, ?_⟩) _ _ hr1.2)
  · rw [hr1.1]
    exact own_lit hL rfl (by omega) (by omega)
  · exact (HO4.out.block k (by omega) (by simp at hk; omega)).trans (HK2.out k hl)
  · simp at hk; omega
end Go.Proofs.YtgccmgjbbcndbaaGreatDoor
/- Walk of simple: what is set. -/
namespace Go.Proofs.YtgccmgjbbcndbaaGreatDoor
open Go.RowKit
open Go.Deep (BT)

theorem set6_blk {w : World} {g : Nat} {a0 a1 a2 a3 a4 a5 : Value} {t : TypeId} {fr : Nat × Nat} (h : w.heap[g]? = some (.cells #[a0, a1, a2, a3, a4, a5] t fr)) (u0 u1 u2 u3 u4 u5 : Value) :
    ((((((w.setCell ⟨g, 0, none⟩ u0).setCell ⟨g, 1, none⟩ u1).setCell ⟨g, 2, none⟩ u2).setCell ⟨g, 3, none⟩ u3).setCell ⟨g, 4, none⟩ u4).setCell ⟨g, 5, none⟩ u5).heap[g]? = some (.cells #[u0, u1, u2, u3, u4, u5] t fr) := by
  have := heap_set (j := 5) (heap_set (j := 4) (heap_set (j := 3) (heap_set (j := 2) (heap_set (j := 1) (heap_set (j := 0) h u0) u1) u2) u3) u4) u5
  simpa using this

set_option maxRecDepth 100000 in
set_option maxHeartbeats 2000000 in
theorem simple_name {b tb cap te : Nat} {xs : List (Tk × List UInt8)} {n : Nat} (ih : RefPars b tb cap te xs n) (w : World) (s : PS) (r x v : BT Lab × PS) (hs : RS b tb cap te xs w s) (hp1 : pars n 0 0 .nil s = some x) (hk : kT x.2 = 26) (hp2 : pars n 0 0 .nil (takeS x.2) = some v) (h6 : (rootLab x.1).kd = 6) (hrr : r = (setNode x.1 v.1, wantS 25 v.2)) :
    Calls Tryz.prog 41 #[.pointer (some ⟨b, 0, none⟩)] w (NodePost b tb cap te xs w r) := by
  have HRR := hide hrr
  have hu := hide (fun (w' : World) h => ih.expr w' s 0 0 x (by omega) (by omega) h hp1)
  have hu2 := hide (fun (w' : World) h => ih.expr w' (takeS x.2) 0 0 v (by omega) (by omega) h hp2)
  have hq : (kT x.2 == 26) = true := by rw [hk]; rfl
  have hgood : x.2.bad = 0 := kT_good (hs.wf |> fun h => (pars_reach _ _ _ _ _ _ h hp1).1) (by omega)
  have hless := expr_less _ _ _ _ hs.wf hp1
  have hlast := pars_expr_last _ _ _ _ hs.wf (by omega) hp1
  have hkd := expr_kd _ _ _ _ hp1
  have HW26 : Hid (wantS 26 x.2 = takeS x.2) := by
    show _ = _
    unfold wantS; rw [if_pos hk]
  obtain ⟨lb, lt, lne⟩ := hs.lt
  have HS := hide hs
  clear hp1 hp2 hrr ih
  go_enter Tryz.func41, Tryz.ntmps41
  go_wp2_with fail
  refine (hu.out _ (HS.out.alloc _)).mono ?_
  rintro e w1 ⟨I, S, ln, nn, va, vn, vc, pa, pn, pc, rfl, hrs1, ho1, hrep1⟩
  have HZ1 := hide (ho1.blk (heap_alloc_new w _) (by omega))
  have HO1 : Hid (Only b w w1) := ((Only.refl b w).alloc _).trans ho1
  have HRS1 := hide hrs1
  have HRep1 := hide (hrep1 hgood)
  have lz1 := heap_lt HZ1.out
  clear ho1 hrep1
  go_wp2_with fail
  refine (is_rs (((HRS1.out.alloc _).alloc _).alloc _) 26 (by omega) (by omega) [61] rfl).mono ?_
  rintro e w2 ⟨rfl, hrs2, hb2⟩
  rw [hq]
  have lw1 : b < w1.heap.size := HRS1.out.lt.1
  have hsz2 : w1.heap.size + 3 ≤ w2.heap.size := by have := hb2.size; simpa using this
  have HX2 := hide (bblk hb2 (heap_alloc_new ((w1.alloc (.cells (ndC I S ln nn va vn vc pa pn pc) 41)).alloc (.cells (ndC I S ln nn va vn vc pa pn pc) 41)) (.cells #[.string ⟨#[100, 111]⟩, .int .i64 ln, .string ⟨#[]⟩, .int .i64 0, .slice (some ⟨w1.heap.size + 1, 0, none⟩) 1 1, .slice none 0 0] 41)))
  have hX2' := HX2.out
  simp only [World.size_alloc] at hX2'
  obtain ⟨x0, x1, x2, x3, x4, x5, fX, lX⟩ := blk6 hX2'
  replace HX2 := hide hX2'
  clear hX2'
  have HE2 := hide (bblk hb2 (alloc_old (alloc_old (heap_alloc_new w1 (.cells (ndC I S ln nn va vn vc pa pn pc) 41)))))
  have HZ2 := hide (bblk hb2 (alloc_old (alloc_old (alloc_old HZ1.out))))
  have HK2 : Hid (∀ k, k < w1.heap.size → w2.heap[k]? = w1.heap[k]?) := fun k hk => (hb2.block k (by simp; omega)).trans ((Below.heap_alloc _ _ _ (by simp; omega)).trans ((Below.heap_alloc _ _ _ (by simp; omega)).trans (Below.heap_alloc _ _ _ hk)))
  have HO2 : Hid (Only b w w2) := (((HO1.out.alloc _).alloc _).alloc _).trans (Below.only hb2)
  have HRS2 := hide hrs2
  obtain ⟨pl, hpl⟩ := hrs2
  have hpos := less_at HS.out hpl hgood hless
  have hlt := hpl.lt
  have hfew := hpl.toks.few
  obtain ⟨j, rfl⟩ : ∃ j, pl = j + 1 := ⟨pl - 1, by omega⟩
  obtain ⟨e0, e1, e2⟩ := hpl.cells
  replace e1 : w2.cell? ⟨b, 1, none⟩ = some (.int .i64 ((j : Int) + 1)) := e1
  have hj : j < xs.length := by omega
  have d0 := hpl.tkCell j 0 hj (by omega)
  have d1 := hpl.tkCell j 1 hj (by omega)
  have lb2 := heap_lt hpl.rd
  have ltb2 := hpl.tbl
  rw [tkC] at d0 d1
  simp only [Nat.add_zero, List.getElem?_cons_zero, List.getElem?_cons_succ] at d0 d1
  have hkk := took_at HS.out hpl hgood (hlast.1 h6) hj
  have hkind : (refKind (xs[j]).1.k == 115) = false := by
    have hkk' : (xs[j]).1.k = 1 := hkk
    rw [hkk']; rfl
  obtain ⟨hI, hln, hS, _, _⟩ := rep_root HRep1.out.1 HRep1.out.2 (by rw [h6]; decide)
  have hI' : I = [110, 97, 109, 101] := hI.trans (by rw [h6]; rfl)
  have HLn := hide (hln (by rw [h6]; rfl))
  have HSS := hide (hS (by rw [h6]; rfl))
  subst hI'
  clear hI hln hS hkk
  obtain ⟨p0, p1, p2, p3, p4, p5, fE, lE⟩ := blk6 HE2.out
  clear hb2 hpl hs hless hlast
  generalize xs[j] = tk at *
  go_wp2_with fail
  cases hc : (tk.2 == [41])
  all_goals go_quiet (fail)
  all_goals go_wp2_with fail
  all_goals
    have HRS3 := hide (RS.other6 (HRS2.out.drewN nq) (g := w1.heap.size + 1 + 1) (by omega) (by omega) (.string ⟨#[115, 101, 116]⟩) (.int .i64 ln) (.string ⟨S.toArray⟩) (.int .i64 0) (.slice none 0 0) (.slice none 0 0))
    have HO3 := hide (Only.set6 (HO2.out.drewN nq) (g := w1.heap.size + 1 + 1) (by omega) (.string ⟨#[115, 101, 116]⟩) (.int .i64 ln) (.string ⟨S.toArray⟩) (.int .i64 0) (.slice none 0 0) (.slice none 0 0))
    have HX3 := hide (set6_blk (w := w2.drewN nq) HX2.out (.string ⟨#[115, 101, 116]⟩) (.int .i64 ln) (.string ⟨S.toArray⟩) (.int .i64 0) (.slice none 0 0) (.slice none 0 0))
    have HZ3 := hide ((set6_same (w := w2.drewN nq) (k := w.heap.size) (g := w1.heap.size + 1 + 1) (by omega) (.string ⟨#[115, 101, 116]⟩) (.int .i64 ln) (.string ⟨S.toArray⟩) (.int .i64 0) (.slice none 0 0) (.slice none 0 0)).trans HZ2.out)
    have hsz3 := set6_size (w2.drewN nq) (w1.heap.size + 1 + 1) (.string ⟨#[115, 101, 116]⟩) (.int .i64 ln) (.string ⟨S.toArray⟩) (.int .i64 0) (.slice none 0 0) (.slice none 0 0)
    replace hsz3 := hsz3.trans (show (w2.drewN nq).heap.size = w2.heap.size from rfl)
    clear e0 e1 e2 d0 d1 p0 p1 p2 p3 p4 p5 fE lE x0 x1 x2 x3 x4 x5 fX lX hkind hc HX2 HZ2 HE2 HO2 HRS2
    generalize ((((((w2.drewN nq).setCell ⟨w1.heap.size + 1 + 1, 0, none⟩ (.string ⟨#[115, 101, 116]⟩)).setCell ⟨w1.heap.size + 1 + 1, 1, none⟩ (.int .i64 ln)).setCell ⟨w1.heap.size + 1 + 1, 2, none⟩ (.string ⟨S.toArray⟩)).setCell ⟨w1.heap.size + 1 + 1, 3, none⟩ (.int .i64 0)).setCell ⟨w1.heap.size + 1 + 1, 4, none⟩ (.slice none 0 0)).setCell ⟨w1.heap.size + 1 + 1, 5, none⟩ (.slice none 0 0) = W3 at *
    refine (must_rs HRS3.out 26 (by omega) (by omega) [61] rfl).mono ?_
    rintro e w4 ⟨rfl, hrs4, ho4⟩
    rw [HW26.out] at hrs4
    have HZ4 := hide (ho4.blk HZ3.out (by omega))
    have HX4 := hide (ho4.blk HX3.out (by omega))
    have HO4 : Hid (Only b w w4) := HO3.out.trans ho4
    have hsz4 := ho4.size
    have HRS4 := hide hrs4
    clear hrs4 ho4
    go_wp2_with fail
    refine (hu2.out _ HRS4.out).mono ?_
    rintro e w5 ⟨I, S5, ln5, nn5, va5, vn5, vc5, pa5, pn5, pc5, rfl, hrs5, ho5, hrep5⟩
    have HZ5 := hide (ho5.blk HZ4.out (by omega))
    have HX5 := hide (ho5.blk HX4.out (by omega))
    have HO5 : Hid (Only b w w5) := HO4.out.trans ho5
    have hsz5 := ho5.size
    obtain ⟨d0, d1, d2, d3, d4, d5, f2, l2⟩ := blk6 HX5.out
    have HRS5 := hide hrs5
    have HRep5 := hide hrep5
    have hnil := World.ownsRow_nil (w5.alloc (.cells (ndC I S5 ln5 nn5 va5 vn5 vc5 pa5 pn5 pc5) 41)) 0 41 6
    clear hrs5 ho5 hrep5
    go_wp2_with (at_builtin; refine wpl_app (w5.alloc (.cells (ndC I S5 ln5 nn5 va5 vn5 vc5 pa5 pn5 pc5) 41)) (ndC I S5 ln5 nn5 va5 vn5 vc5 pa5 pn5 pc5) 41 rfl (.tmp 75) (.tmp 77) 36 rfl 0 6 96 (.agg #[.string ⟨#[]⟩, .int .i64 0, .string ⟨#[]⟩, .int .i64 0, .slice none 0 0, .slice none 0 0]) Tryz.underlying36 infoNode rfl (by omega) (.slice none 0 0) 0 [] rfl (by simp; rfl) hnil rfl nd_one (by omega) (by omega) (Nat.zero_le _) ?_; intro g cap1 w7 hown7 hgrow hat hg; have HG : Hid (g = w5.heap.size + 1 + 1) := (by show g = _; rcases hat with h | h; exact absurd h (by simp [Value.ownBlock]); simpa using h); replace hgrow : (w5.alloc (.cells (ndC I S5 ln5 nn5 va5 vn5 vc5 pa5 pn5 pc5) 41)).grownBy w7 none := hgrow; have hX7 := (hgrow.block _ (heap_lt (alloc_old HX5.out)) (by simp)).trans (alloc_old HX5.out); obtain ⟨p0, p1, p2, p3, p4, p5, f5, l5⟩ := blk6 hX7; have HX7 := hide hX7; clear hat hX7)
    have HGrow := hide hgrow
    have HOwn7 := hide hown7
    have HZ7 := hide ((HGrow.out.block _ (heap_lt (alloc_old HZ5.out)) (by simp)).trans (alloc_old HZ5.out))
    have HRS7 : Hid (RS b tb cap te xs w7 v.2) := (HRS5.out.alloc _).grown HGrow.out (by simp) (by simp)
    have HO7 : Hid (Only b w w7) := (HO5.out.alloc _).grown HGrow.out (fun k e => by cases e)
    clear hgrow hown7 p0 p1 p2 p3 p4 p5 f5 d0 d1 d2 d3 d4 d5 f2 hnil
    refine (must_rs (HRS7.out.other (p := ⟨w1.heap.size + 1 + 1, 4, none⟩) (by show b ≠ w1.heap.size + 1 + 1; omega) (by show tb ≠ w1.heap.size + 1 + 1; omega) _) 25 (by omega) (by omega) [59] rfl).mono ?_
    rintro e w8 ⟨rfl, hrs8, ho8⟩
    have hZ8 := ho8.blk (set_old (p := ⟨w1.heap.size + 1 + 1, 4, none⟩) HZ7.out (by show w.heap.size ≠ w1.heap.size + 1 + 1; omega)) (by omega)
    have hX8 := ho8.blk (heap_set (j := 4) HX7.out _) (by omega)
    simp only [List.setIfInBounds_toArray, List.set_cons_zero, List.set_cons_succ] at hX8
    obtain ⟨k0, k1, k2, k3, k4, k5, f1, l1⟩ := blk6 hZ8
    obtain ⟨q0, q1, q2, q3, q4, q5, f3, l3⟩ := blk6 hX8
    have HRS8 := hide hrs8
    have HO8 := hide ho8
    clear hrs8 ho8 hZ8 hX8
    go_wp2
    refine bodyPost_ret (v := .agg #[.string ⟨#[115, 101, 116]⟩, .int .i64 ln, .string ⟨S.toArray⟩, .int .i64 0, .slice (some ⟨g, 0, none⟩) (0 + 1) cap1, .slice none 0 0]) ?_ rfl ?_
    · simp [results, Tryz.results41, go_sem, k0, k1, k2, k3, k4, k5]
    rw [HRR.out]
    have hset : setNode x.1 v.1 = nd ⟨28, (rootLab x.1).line, (rootLab x.1).s, 0, []⟩ v.1 := by unfold setNode; rw [if_pos h6]
    rw [hset]
    refine node_close (I := [115, 101, 116]) lb lt HRS8.out ((Only.set (p := ⟨w1.heap.size + 1 + 1, 4, none⟩) HO7.out (.inr (by show w.heap.size ≤ w1.heap.size + 1 + 1; omega)) _).trans HO8.out) (fun hb => ⟨rfl, ?_⟩)
    have hb5 : v.2.bad = 0 := want_good hb
    have hr4 := HRep5.out hb5
    have hap := app_one (D := fun k => w1.heap.size + 1 + 1 < k) HGrow.out HOwn7.out (fun k hk => Below.heap_alloc w5 _ k hk) (by simp) ⟨hr4.1, RepF.keep (fun k hk hl => ⟨rfl, by have h : w4.heap.size ≤ k := hk; omega⟩) _ _ hr4.2⟩ (by show w1.heap.size + 1 + 1 < g; have := HG.out; omega)
    have hkeep : ∀ k, w1.heap.size + 1 + 1 < k → k < w7.heap.size → w8.heap[k]? = w7.heap[k]? ∧ w.heap.size < k := fun k hk hl =>
      ⟨(HO8.out.block k (by simp [World.setCell]; exact hl) (by omega)).trans (Below.heap_setCell _ _ _ _ (by show k ≠ w1.heap.size + 1 + 1; omega)), by omega⟩
    exact RepF.one _ v.1 _ _ _ _ _ _ _ none 0 0 _ (by show (28 : Nat) ≠ 8; decide) (by show (28 : Nat) ≠ 20; decide) rfl (fun _ => HLn.out) (fun _ => HSS.out) (fun h => absurd h (by show ¬ ((28 : Nat) = 1); decide)) (hap.1.keep hkeep) (RepF.keep hkeep _ _ hap.2)
end Go.Proofs.YtgccmgjbbcndbaaGreatDoor
