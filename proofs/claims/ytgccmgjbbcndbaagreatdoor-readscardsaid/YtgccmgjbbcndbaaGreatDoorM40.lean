import Derived.Test.YtgccmgjbbcndbaaGreatDoorM39
import Derived.Test.YtgccmgjbbcndbaaGreatDoorM27
import Derived.Test.YtgccmgjbbcndbaaGreatDoorM28
import Derived.Test.YtgccmgjbbcndbaaGreatDoorM34
import Derived.Test.YtgccmgjbbcndbaaGreatDoorM11
import Derived.Test.YtgccmgjbbcndbaaGreatDoorM29
/- The stack's functions: fewer. -/
namespace Go.Proofs.YtgccmgjbbcndbaaGreatDoor
open Go.RowKit

set_option maxRecDepth 100000 in
set_option maxHeartbeats 1000000 in
theorem scutStr {b o : Nat} {w : World} {cs : Array Value} {t : TypeId} {va : Option Addr} {vn vc : Nat} {xs : List Value} (h : Stk 9 b o w cs t va vn vc xs) (m : Nat) (hm : m ≤ xs.length) (ho : o < cs.size) : Calls Tryz.prog 83 #[.pointer (some ⟨b, o, none⟩), .int .i64 (m : Nat)] w fun e w' => e = .returned (.tuple #[]) ∧ CutTo 9 b o w cs t va vn vc xs m w' := by
  have c := cell_idx h.blk h.cell
  have lb := heap_lt h.blk
  have fz := frozen_row h.blk
  have hv : vn = xs.length := (own_cells h.own).1
  subst hv
  have HH := hide h
  have HNe := hide h.ne
  by_cases he : m = xs.length
  · subst he
    clear h
    go_enter Tryz.func83, Tryz.ntmps83
    go_wp2
    refine bodyPost_ret (v := .tuple #[]) (by simp [results, Tryz.results83, go_sem]) rfl ⟨rfl, ?_, StF.refl _ _ _⟩
    rw [set_same_arr HH.out.cell, List.take_length]
    exact HH.out
  · obtain ⟨g, rfl, hn0, hcap, lg, fg, hx, cg⟩ := own_at h.own m (by omega)
    obtain ⟨hl, ⟨h2, h3⟩ | ⟨g', cap, cur, hv, _, hg, hcap', hmx, hsz, ht⟩⟩ := h.own
    · cases h2
    · injection hv with e1 e2 e3
      injection e1 with e1
      injection e1 with e1
      subst e1 e3
      have hgb : g ≠ b := fun e => h.ne (by rw [← e]; rfl)
      have hcs : ∀ j, j < xs.length - m → (w.cell? ⟨g, m + j, none⟩).isSome = true := by
        intro j hj
        rw [cell_of_row w g (m + j) cur _ _ hg, Array.getElem?_eq_getElem (by omega)]; rfl
      have hcl : ∀ ty, (Builtin.clear_ #[34] ty #[.slice (some ⟨g, m, none⟩) (xs.length - m) (vc - m)]).run Tryz.prog w = .ok (.tuple #[]) (w.setCells g m (List.replicate (xs.length - m) (.string ⟨#[]⟩))) :=
        fun ty => Lib.run_clear_slice w 34 9 ty (.string ⟨#[]⟩) Tryz.underlying34 Tryz.zeroValue9 rfl rfl g m (xs.length - m) (vc - m) (by omega) hcs (fun j hj => fg _)
      obtain ⟨cur', k1, k2, k3⟩ := heap_setCells g 9 (0, 0) (List.replicate (xs.length - m) (.string ⟨#[]⟩)) m cur w hg
      obtain ⟨f1, f2, f3, f4, f5⟩ := setCells_frame g (List.replicate (xs.length - m) (.string ⟨#[]⟩)) m w
      have hb1 := (f5 b (fun e => hgb e.symm)).trans h.blk
      have HK1 := hide k1
      have HK3 := hide (k3 m (Nat.le_refl _))
      have HF := hide (And.intro f1 (And.intro f2 (And.intro f3 (And.intro f4 f5))))
      have HT := hide ht
      have HSz := hide (k2.trans hsz)
      clear h hcs hg ht k1 k2 k3 f1 f2 f3 f5 hl hsz
      have c1 := cell_idx hb1 HH.out.cell
      have g1 := frozen_row hb1
      have lb1 := heap_lt hb1
      have HB1 := hide hb1
      clear hb1 f4
      generalize w.setCells g m (List.replicate (xs.length - m) (.string ⟨#[]⟩)) = w1 at *
      go_enter Tryz.func83, Tryz.ntmps83
      go_wp2
      go_end0
      obtain ⟨p1, p2, p3, p4, p5⟩ := HF.out
      have hset : ∀ k, k ≠ b → (w1.setCell ⟨b, o, none⟩ (.slice (some ⟨g, 0, none⟩) m vc)).heap[k]? = w1.heap[k]? := fun k hk => Below.heap_setCell _ _ _ _ (by exact hk)
      refine ⟨rfl, ⟨heap_set HB1.out _, ?_, ⟨by simp, .inr ⟨g, vc, cur', ?_, Nat.zero_le _, (hset g hgb).trans HK1.out, ?_, hmx, HSz.out, ?_⟩⟩, ?_⟩, ⟨p1, p2, p3, by simp [World.setCell]; omega, fun k hk hkb hkr => ?_⟩⟩
      · rw [Array.getElem?_setIfInBounds, if_pos rfl, if_pos ho]
      · rw [List.length_take, Nat.min_eq_left hm]
      · rw [List.length_take, Nat.min_eq_left hm]; omega
      · rw [List.length_take, Nat.min_eq_left hm, Nat.mul_one, HK3.out, ← HT.out, List.take_take, Nat.mul_one, Nat.min_eq_left hm]
      · simp only [Value.ownBlock, ne_eq, Option.some.injEq]; exact hgb
      · exact (hset k hkb).trans (p5 k (fun e => hkr (by rw [e]; rfl)))
set_option maxRecDepth 100000 in
set_option maxHeartbeats 1000000 in
theorem scutInt {b o : Nat} {w : World} {cs : Array Value} {t : TypeId} {va : Option Addr} {vn vc : Nat} {xs : List Value} (h : Stk 3 b o w cs t va vn vc xs) (m : Nat) (hm : m ≤ xs.length) (ho : o < cs.size) : Calls Tryz.prog 103 #[.pointer (some ⟨b, o, none⟩), .int .i64 (m : Nat)] w fun e w' => e = .returned (.tuple #[]) ∧ CutTo 3 b o w cs t va vn vc xs m w' := by
  have c := cell_idx h.blk h.cell
  have lb := heap_lt h.blk
  have fz := frozen_row h.blk
  have hv : vn = xs.length := (own_cells h.own).1
  subst hv
  have HH := hide h
  have HNe := hide h.ne
  by_cases he : m = xs.length
  · subst he
    clear h
    go_enter Tryz.func103, Tryz.ntmps103
    go_wp2
    refine bodyPost_ret (v := .tuple #[]) (by simp [results, Tryz.results103, go_sem]) rfl ⟨rfl, ?_, StF.refl _ _ _⟩
    rw [set_same_arr HH.out.cell, List.take_length]
    exact HH.out
  · obtain ⟨g, rfl, hn0, hcap, lg, fg, hx, cg⟩ := own_at h.own m (by omega)
    obtain ⟨hl, ⟨h2, h3⟩ | ⟨g', cap, cur, hv, _, hg, hcap', hmx, hsz, ht⟩⟩ := h.own
    · cases h2
    · injection hv with e1 e2 e3
      injection e1 with e1
      injection e1 with e1
      subst e1 e3
      have hgb : g ≠ b := fun e => h.ne (by rw [← e]; rfl)
      have hcs : ∀ j, j < xs.length - m → (w.cell? ⟨g, m + j, none⟩).isSome = true := by
        intro j hj
        rw [cell_of_row w g (m + j) cur _ _ hg, Array.getElem?_eq_getElem (by omega)]; rfl
      have hcl : ∀ ty, (Builtin.clear_ #[65] ty #[.slice (some ⟨g, m, none⟩) (xs.length - m) (vc - m)]).run Tryz.prog w = .ok (.tuple #[]) (w.setCells g m (List.replicate (xs.length - m) (.int .i64 0))) :=
        fun ty => Lib.run_clear_slice w 65 3 ty (.int .i64 0) Tryz.underlying65 Tryz.zeroValue3 rfl rfl g m (xs.length - m) (vc - m) (by omega) hcs (fun j hj => fg _)
      obtain ⟨cur', k1, k2, k3⟩ := heap_setCells g 3 (0, 0) (List.replicate (xs.length - m) (.int .i64 0)) m cur w hg
      obtain ⟨f1, f2, f3, f4, f5⟩ := setCells_frame g (List.replicate (xs.length - m) (.int .i64 0)) m w
      have hb1 := (f5 b (fun e => hgb e.symm)).trans h.blk
      have HK1 := hide k1
      have HK3 := hide (k3 m (Nat.le_refl _))
      have HF := hide (And.intro f1 (And.intro f2 (And.intro f3 (And.intro f4 f5))))
      have HT := hide ht
      have HSz := hide (k2.trans hsz)
      clear h hcs hg ht k1 k2 k3 f1 f2 f3 f5 hl hsz
      have c1 := cell_idx hb1 HH.out.cell
      have g1 := frozen_row hb1
      have lb1 := heap_lt hb1
      have HB1 := hide hb1
      clear hb1 f4
      generalize w.setCells g m (List.replicate (xs.length - m) (.int .i64 0)) = w1 at *
      go_enter Tryz.func103, Tryz.ntmps103
      go_wp2
      go_end0
      obtain ⟨p1, p2, p3, p4, p5⟩ := HF.out
      have hset : ∀ k, k ≠ b → (w1.setCell ⟨b, o, none⟩ (.slice (some ⟨g, 0, none⟩) m vc)).heap[k]? = w1.heap[k]? := fun k hk => Below.heap_setCell _ _ _ _ (by exact hk)
      refine ⟨rfl, ⟨heap_set HB1.out _, ?_, ⟨by simp, .inr ⟨g, vc, cur', ?_, Nat.zero_le _, (hset g hgb).trans HK1.out, ?_, hmx, HSz.out, ?_⟩⟩, ?_⟩, ⟨p1, p2, p3, by simp [World.setCell]; omega, fun k hk hkb hkr => ?_⟩⟩
      · rw [Array.getElem?_setIfInBounds, if_pos rfl, if_pos ho]
      · rw [List.length_take, Nat.min_eq_left hm]
      · rw [List.length_take, Nat.min_eq_left hm]; omega
      · rw [List.length_take, Nat.min_eq_left hm, Nat.mul_one, HK3.out, ← HT.out, List.take_take, Nat.mul_one, Nat.min_eq_left hm]
      · simp only [Value.ownBlock, ne_eq, Option.some.injEq]; exact hgb
      · exact (hset k hkb).trans (p5 k (fun e => hkr (by rw [e]; rfl)))
set_option maxRecDepth 100000 in
set_option maxHeartbeats 1000000 in
theorem spopInt {b o : Nat} {w : World} {cs : Array Value} {t : TypeId} {va : Option Addr} {vn vc : Nat} {xs : List Value} (h : Stk 3 b o w cs t va vn vc xs) (hn : xs.length ≤ 1000000) (n : Nat) (hi : n < xs.length) (h0 : xs.length = n + 1) (ho : o < cs.size) : Calls Tryz.prog 84 #[.pointer (some ⟨b, o, none⟩)] w fun e w' => e = .returned (xs[n]'hi) ∧ CutTo 3 b o w cs t va vn vc xs n w' := by
  have HT := hide (stopInt h hn n hi h0)
  have HL := hide (slenInt h)
  have HC := hide (scutInt h n (by omega) ho)
  rw [h0] at HL
  have hn2 : n ≤ 1000000 := by omega
  generalize hx : xs[n]'hi = x at HT ⊢
  clear h h0 hx
  go_enter Tryz.func84, Tryz.ntmps84
  go_wp2_with fail
  refine HT.out.mono ?_
  rintro e w' ⟨rfl, rfl⟩
  go_wp2_with fail
  refine HL.out.mono ?_
  rintro e w' ⟨rfl, rfl⟩
  go_wp2_with fail
  refine HC.out.mono ?_
  rintro e w1 ⟨rfl, hc⟩
  have HC1 := hide hc
  clear hc
  go_wp2
  go_ret
  exact ⟨rfl, HC1.out⟩
set_option maxRecDepth 100000 in
set_option maxHeartbeats 1000000 in
theorem scutWhl {b o : Nat} {w : World} {cs : Array Value} {t : TypeId} {va : Option Addr} {vn vc : Nat} {xs : List Value} (h : Stk 141 b o w cs t va vn vc xs) (m : Nat) (hm : m ≤ xs.length) (ho : o < cs.size) : Calls Tryz.prog 119 #[.pointer (some ⟨b, o, none⟩), .int .i64 (m : Nat)] w fun e w' => e = .returned (.tuple #[]) ∧ CutTo 141 b o w cs t va vn vc xs m w' := by
  have c := cell_idx h.blk h.cell
  have lb := heap_lt h.blk
  have fz := frozen_row h.blk
  have hv : vn = xs.length := (own_cells h.own).1
  subst hv
  have HH := hide h
  have HNe := hide h.ne
  by_cases he : m = xs.length
  · subst he
    clear h
    go_enter Tryz.func119, Tryz.ntmps119
    go_wp2
    refine bodyPost_ret (v := .tuple #[]) (by simp [results, Tryz.results119, go_sem]) rfl ⟨rfl, ?_, StF.refl _ _ _⟩
    rw [set_same_arr HH.out.cell, List.take_length]
    exact HH.out
  · obtain ⟨g, rfl, hn0, hcap, lg, fg, hx, cg⟩ := own_at h.own m (by omega)
    obtain ⟨hl, ⟨h2, h3⟩ | ⟨g', cap, cur, hv, _, hg, hcap', hmx, hsz, ht⟩⟩ := h.own
    · cases h2
    · injection hv with e1 e2 e3
      injection e1 with e1
      injection e1 with e1
      subst e1 e3
      have hgb : g ≠ b := fun e => h.ne (by rw [← e]; rfl)
      have hcs : ∀ j, j < xs.length - m → (w.cell? ⟨g, m + j, none⟩).isSome = true := by
        intro j hj
        rw [cell_of_row w g (m + j) cur _ _ hg, Array.getElem?_eq_getElem (by omega)]; rfl
      have hcl : ∀ ty, (Builtin.clear_ #[106] ty #[.slice (some ⟨g, m, none⟩) (xs.length - m) (vc - m)]).run Tryz.prog w = .ok (.tuple #[]) (w.setCells g m (List.replicate (xs.length - m) (.pointer none))) :=
        fun ty => Lib.run_clear_slice w 106 141 ty (.pointer none) Tryz.underlying106 Tryz.zeroValue141 rfl rfl g m (xs.length - m) (vc - m) (by omega) hcs (fun j hj => fg _)
      obtain ⟨cur', k1, k2, k3⟩ := heap_setCells g 141 (0, 0) (List.replicate (xs.length - m) (.pointer none)) m cur w hg
      obtain ⟨f1, f2, f3, f4, f5⟩ := setCells_frame g (List.replicate (xs.length - m) (.pointer none)) m w
      have hb1 := (f5 b (fun e => hgb e.symm)).trans h.blk
      have HK1 := hide k1
      have HK3 := hide (k3 m (Nat.le_refl _))
      have HF := hide (And.intro f1 (And.intro f2 (And.intro f3 (And.intro f4 f5))))
      have HT := hide ht
      have HSz := hide (k2.trans hsz)
      clear h hcs hg ht k1 k2 k3 f1 f2 f3 f5 hl hsz
      have c1 := cell_idx hb1 HH.out.cell
      have g1 := frozen_row hb1
      have lb1 := heap_lt hb1
      have HB1 := hide hb1
      clear hb1 f4
      generalize w.setCells g m (List.replicate (xs.length - m) (.pointer none)) = w1 at *
      go_enter Tryz.func119, Tryz.ntmps119
      go_wp2
      go_end0
      obtain ⟨p1, p2, p3, p4, p5⟩ := HF.out
      have hset : ∀ k, k ≠ b → (w1.setCell ⟨b, o, none⟩ (.slice (some ⟨g, 0, none⟩) m vc)).heap[k]? = w1.heap[k]? := fun k hk => Below.heap_setCell _ _ _ _ (by exact hk)
      refine ⟨rfl, ⟨heap_set HB1.out _, ?_, ⟨by simp, .inr ⟨g, vc, cur', ?_, Nat.zero_le _, (hset g hgb).trans HK1.out, ?_, hmx, HSz.out, ?_⟩⟩, ?_⟩, ⟨p1, p2, p3, by simp [World.setCell]; omega, fun k hk hkb hkr => ?_⟩⟩
      · rw [Array.getElem?_setIfInBounds, if_pos rfl, if_pos ho]
      · rw [List.length_take, Nat.min_eq_left hm]
      · rw [List.length_take, Nat.min_eq_left hm]; omega
      · rw [List.length_take, Nat.min_eq_left hm, Nat.mul_one, HK3.out, ← HT.out, List.take_take, Nat.mul_one, Nat.min_eq_left hm]
      · simp only [Value.ownBlock, ne_eq, Option.some.injEq]; exact hgb
      · exact (hset k hkb).trans (p5 k (fun e => hkr (by rw [e]; rfl)))
set_option maxRecDepth 100000 in
set_option maxHeartbeats 1000000 in
theorem spopWhl {b o : Nat} {w : World} {cs : Array Value} {t : TypeId} {va : Option Addr} {vn vc : Nat} {xs : List Value} (h : Stk 141 b o w cs t va vn vc xs) (hn : xs.length ≤ 1000000) (n : Nat) (hi : n < xs.length) (h0 : xs.length = n + 1) (ho : o < cs.size) : Calls Tryz.prog 99 #[.pointer (some ⟨b, o, none⟩)] w fun e w' => e = .returned (xs[n]'hi) ∧ CutTo 141 b o w cs t va vn vc xs n w' := by
  have HT := hide (stopWhl h hn n hi h0)
  have HL := hide (slenWhl h)
  have HC := hide (scutWhl h n (by omega) ho)
  rw [h0] at HL
  have hn2 : n ≤ 1000000 := by omega
  generalize hx : xs[n]'hi = x at HT ⊢
  clear h h0 hx
  go_enter Tryz.func99, Tryz.ntmps99
  go_wp2_with fail
  refine HT.out.mono ?_
  rintro e w' ⟨rfl, rfl⟩
  go_wp2_with fail
  refine HL.out.mono ?_
  rintro e w' ⟨rfl, rfl⟩
  go_wp2_with fail
  refine HC.out.mono ?_
  rintro e w1 ⟨rfl, hc⟩
  have HC1 := hide hc
  clear hc
  go_wp2
  go_ret
  exact ⟨rfl, HC1.out⟩
end Go.Proofs.YtgccmgjbbcndbaaGreatDoor
/- The checker in memory; fail, open, close. -/
namespace Go.Proofs.YtgccmgjbbcndbaaGreatDoor
open Go.RowKit
open Go.Deep (BT)

def nmC (ns : List Nm) : List Value := ns.map nmV
def bkC (bk : List Nat) : List Value := bk.map blV

structure CkV (D : Nat → Prop) (cb te : Nat) (w : World) (ns : List Nm) (bk : List Nat) (wh : Nat) (inn : Bool) (f : Flt) (rc : Nat) (fa : Option Addr) (fn fc : Nat) (na : Option Addr) (nn nc : Nat) (ba : Option Addr) (bn bc : Nat) (la : Option Addr) (ln lc : Nat) (ls : List Value) : Prop where
  cell : w.heap[cb]? = some (.cells #[.slice fa fn fc, .int .i64 (rc : Nat), .slice na nn nc, .slice ba bn bc, .slice la ln lc, .bool inn, .int .i64 (f.1 : Nat), .int .i64 (f.2 : Nat)] te (0, 0))
  names : w.ownsRow 0 9 1 (.slice na nn nc) (nmC ns).length (nmC ns)
  blocks : w.ownsRow 0 3 1 (.slice ba bn bc) (bkC bk).length (bkC bk)
  loops : w.ownsRow 0 141 1 (.slice la ln lc) ls.length ls
  lsl : ls.length = wh
  lo1 : ¬ D cb
  lo2 : ∀ g, (Value.slice na nn nc).ownBlock = some g → ¬ D g ∧ g ≠ cb ∧ (Value.slice ba bn bc).ownBlock ≠ some g ∧ (Value.slice la ln lc).ownBlock ≠ some g
  lo3 : ∀ g, (Value.slice ba bn bc).ownBlock = some g → ¬ D g ∧ g ≠ cb ∧ (Value.slice la ln lc).ownBlock ≠ some g
  lo4 : ∀ g, (Value.slice la ln lc).ownBlock = some g → ¬ D g ∧ g ≠ cb
  few : ns.length ≤ 800000 ∧ bk.length ≤ 800000 ∧ wh ≤ 800000 ∧ rc ≤ 800000
  lo : ∀ g, D g → g < w.heap.size

def CkS (D : Nat → Prop) (cb te : Nat) (w : World) (ns : List Nm) (bk : List Nat) (wh : Nat) (inn : Bool) (f : Flt) (rc : Nat) (fa : Option Addr) (fn fc : Nat) : Prop :=
  ∃ na nn nc ba bn bc la ln lc ls, CkV D cb te w ns bk wh inn f rc fa fn fc na nn nc ba bn bc la ln lc ls

variable {D : Nat → Prop} {cb te : Nat} {w w' : World} {ns : List Nm} {bk : List Nat} {wh : Nat} {inn : Bool} {f : Flt} {rc : Nat} {fa : Option Addr} {fn fc : Nat} {na : Option Addr} {nn nc : Nat} {ba : Option Addr} {bn bc : Nat} {la : Option Addr} {ln lc : Nat} {ls : List Value}

theorem CkV.keep (h : CkV D cb te w ns bk wh inn f rc fa fn fc na nn nc ba bn bc la ln lc ls) (hk : ∀ g, g < w.heap.size → w'.heap[g]? = w.heap[g]?) (hs : w.heap.size ≤ w'.heap.size) : CkV D cb te w' ns bk wh inn f rc fa fn fc na nn nc ba bn bc la ln lc ls :=
  ⟨(hk cb (heap_lt h.cell)).trans h.cell, own_same h.names (fun g _ hl => hk g hl), own_same h.blocks (fun g _ hl => hk g hl), own_same h.loops (fun g _ hl => hk g hl), h.lsl, h.lo1, h.lo2, h.lo3, h.lo4, h.few, fun g hg => Nat.lt_of_lt_of_le (h.lo g hg) hs⟩
theorem CkS.keep (h : CkS D cb te w ns bk wh inn f rc fa fn fc) (hk : ∀ g, g < w.heap.size → w'.heap[g]? = w.heap[g]?) (hs : w.heap.size ≤ w'.heap.size) : CkS D cb te w' ns bk wh inn f rc fa fn fc := by
  obtain ⟨na, nn, nc, ba, bn, bc, la, ln, lc, ls, h⟩ := h
  exact ⟨na, nn, nc, ba, bn, bc, la, ln, lc, ls, h.keep hk hs⟩
/- the checker's plain cells are written -/
theorem CkV.put (h : CkV D cb te w ns bk wh inn f rc fa fn fc na nn nc ba bn bc la ln lc ls) (inn' : Bool) (f' : Flt) (rc' : Nat) (hrc : rc' ≤ 800000)
    (hc : w'.heap[cb]? = some (.cells #[.slice fa fn fc, .int .i64 (rc' : Nat), .slice na nn nc, .slice ba bn bc, .slice la ln lc, .bool inn', .int .i64 (f'.1 : Nat), .int .i64 (f'.2 : Nat)] te (0, 0))) (hk : ∀ g, g < w.heap.size → g ≠ cb → w'.heap[g]? = w.heap[g]?) (hs : w.heap.size ≤ w'.heap.size) : CkV D cb te w' ns bk wh inn' f' rc' fa fn fc na nn nc ba bn bc la ln lc ls :=
  ⟨hc, own_same h.names (fun g hg hl => hk g hl (h.lo2 g hg).2.1), own_same h.blocks (fun g hg hl => hk g hl (h.lo3 g hg).2.1), own_same h.loops (fun g hg hl => hk g hl (h.lo4 g hg).2), h.lsl, h.lo1, h.lo2, h.lo3, h.lo4, ⟨h.few.1, h.few.2.1, h.few.2.2.1, hrc⟩, fun g hg => Nat.lt_of_lt_of_le (h.lo g hg) hs⟩

theorem CkV.stk2 (h : CkV D cb te w ns bk wh inn f rc fa fn fc na nn nc ba bn bc la ln lc ls) : Stk 9 cb 2 w #[.slice fa fn fc, .int .i64 (rc : Nat), .slice na nn nc, .slice ba bn bc, .slice la ln lc, .bool inn, .int .i64 (f.1 : Nat), .int .i64 (f.2 : Nat)] te na nn nc (nmC ns) :=
  ⟨h.cell, rfl, h.names, fun e => (h.lo2 _ e).2.1 rfl⟩
theorem CkV.stk3 (h : CkV D cb te w ns bk wh inn f rc fa fn fc na nn nc ba bn bc la ln lc ls) : Stk 3 cb 3 w #[.slice fa fn fc, .int .i64 (rc : Nat), .slice na nn nc, .slice ba bn bc, .slice la ln lc, .bool inn, .int .i64 (f.1 : Nat), .int .i64 (f.2 : Nat)] te ba bn bc (bkC bk) :=
  ⟨h.cell, rfl, h.blocks, fun e => (h.lo3 _ e).2.1 rfl⟩
theorem CkV.stk4 (h : CkV D cb te w ns bk wh inn f rc fa fn fc na nn nc ba bn bc la ln lc ls) : Stk 141 cb 4 w #[.slice fa fn fc, .int .i64 (rc : Nat), .slice na nn nc, .slice ba bn bc, .slice la ln lc, .bool inn, .int .i64 (f.1 : Nat), .int .i64 (f.2 : Nat)] te la ln lc ls :=
  ⟨h.cell, rfl, h.loops, fun e => (h.lo4 _ e).2 rfl⟩

theorem StF.beld {row : Option Nat} (h : StF cb row w w') (h1 : ¬ D cb) (h2 : ∀ g, row = some g → ¬ D g) (hlo : ∀ g, D g → g < w.heap.size) : BelD D w w' :=
  ⟨h.os, h.tape, h.output, h.size, fun k hk => h.block k (hlo k hk) (fun e => h1 (by rw [← e]; exact hk)) (fun e => h2 k e hk)⟩

/- a name more -/
theorem CkV.pushName (h : CkV D cb te w ns bk wh inn f rc fa fn fc na nn nc ba bn bc la ln lc ls) (s : Nm) (hn : ns.length + 1 ≤ 800000)
    (hp : Pushed 9 cb 2 w #[.slice fa fn fc, .int .i64 (rc : Nat), .slice na nn nc, .slice ba bn bc, .slice la ln lc, .bool inn, .int .i64 (f.1 : Nat), .int .i64 (f.2 : Nat)] te na nn nc (nmC ns) (nmV s) w') : CkS D cb te w' (ns ++ [s]) bk wh inn f rc fa fn fc ∧ BelD D w w' := by
  obtain ⟨g, cap, hs, hat, hf⟩ := hp
  have hD : ¬ D g ∧ g ≠ cb ∧ (Value.slice ba bn bc).ownBlock ≠ some g ∧ (Value.slice la ln lc).ownBlock ≠ some g := by
    rcases hat with e | e
    · exact h.lo2 g e
    · refine ⟨fun hd => by have := h.lo g hd; omega, fun e2 => by have := heap_lt h.cell; omega, fun e2 => ?_, fun e2 => ?_⟩
      · have := own_lt h.blocks g e2; omega
      · have := own_lt h.loops g e2; omega
  refine ⟨⟨some ⟨g, 0, none⟩, (nmC ns).length + 1, cap, ba, bn, bc, la, ln, lc, ls, ?_⟩, hf.beld h.lo1 (fun g hg => (h.lo2 g hg).1) h.lo⟩
  have hnm : nmC (ns ++ [s]) = nmC ns ++ [nmV s] := by simp [nmC]
  refine ⟨by simpa using hs.blk, by rw [hnm]; exact hs.own, own_same h.blocks (fun k hk hl => hf.block k hl (h.lo3 k hk).2.1 (fun e => (h.lo2 k e).2.2.1 hk)), own_same h.loops (fun k hk hl => hf.block k hl (h.lo4 k hk).2 (fun e => (h.lo2 k e).2.2.2 hk)), h.lsl, h.lo1, ?_, h.lo3, h.lo4, ⟨by simpa using hn, h.few.2⟩, fun g hg => Nat.lt_of_lt_of_le (h.lo g hg) hf.size⟩
  intro k hk
  simp only [Value.ownBlock, Option.some.injEq] at hk
  subst hk
  exact hD
/- a block is opened -/
theorem CkV.pushBlk (h : CkV D cb te w ns bk wh inn f rc fa fn fc na nn nc ba bn bc la ln lc ls) (p : Nat) (hn : bk.length + 1 ≤ 800000)
    (hp : Pushed 3 cb 3 w #[.slice fa fn fc, .int .i64 (rc : Nat), .slice na nn nc, .slice ba bn bc, .slice la ln lc, .bool inn, .int .i64 (f.1 : Nat), .int .i64 (f.2 : Nat)] te ba bn bc (bkC bk) (blV p) w') : CkS D cb te w' ns (bk ++ [p]) wh inn f rc fa fn fc ∧ BelD D w w' := by
  obtain ⟨g, cap, hs, hat, hf⟩ := hp
  have hD : ¬ D g ∧ g ≠ cb ∧ (Value.slice na nn nc).ownBlock ≠ some g ∧ (Value.slice la ln lc).ownBlock ≠ some g := by
    rcases hat with e | e
    · exact ⟨(h.lo3 g e).1, (h.lo3 g e).2.1, fun e2 => (h.lo2 g e2).2.2.1 e, (h.lo3 g e).2.2⟩
    · refine ⟨fun hd => by have := h.lo g hd; omega, fun e2 => by have := heap_lt h.cell; omega, fun e2 => ?_, fun e2 => ?_⟩
      · have := own_lt h.names g e2; omega
      · have := own_lt h.loops g e2; omega
  refine ⟨⟨na, nn, nc, some ⟨g, 0, none⟩, (bkC bk).length + 1, cap, la, ln, lc, ls, ?_⟩, hf.beld h.lo1 (fun g hg => (h.lo3 g hg).1) h.lo⟩
  have hnm : bkC (bk ++ [p]) = bkC bk ++ [blV p] := by simp [bkC]
  refine ⟨by simpa using hs.blk, own_same h.names (fun k hk hl => hf.block k hl (h.lo2 k hk).2.1 (fun e => (h.lo2 k hk).2.2.1 e)), by rw [hnm]; exact hs.own, own_same h.loops (fun k hk hl => hf.block k hl (h.lo4 k hk).2 (fun e => (h.lo3 k e).2.2 hk)), h.lsl, h.lo1, ?_, ?_, h.lo4, ⟨h.few.1, by simpa using hn, h.few.2.2⟩, fun g hg => Nat.lt_of_lt_of_le (h.lo g hg) hf.size⟩
  · intro k hk
    refine ⟨(h.lo2 k hk).1, (h.lo2 k hk).2.1, fun e => ?_, (h.lo2 k hk).2.2.2⟩
    simp only [Value.ownBlock, Option.some.injEq] at e
    subst e
    exact hD.2.2.1 hk
  · intro k hk
    simp only [Value.ownBlock, Option.some.injEq] at hk
    subst hk
    exact ⟨hD.1, hD.2.1, hD.2.2.2⟩
/- a loop is opened -/
theorem CkV.pushLoop (h : CkV D cb te w ns bk wh inn f rc fa fn fc na nn nc ba bn bc la ln lc ls) (u : Value) (hn : wh + 1 ≤ 800000)
    (hp : Pushed 141 cb 4 w #[.slice fa fn fc, .int .i64 (rc : Nat), .slice na nn nc, .slice ba bn bc, .slice la ln lc, .bool inn, .int .i64 (f.1 : Nat), .int .i64 (f.2 : Nat)] te la ln lc ls u w') : CkS D cb te w' ns bk (wh + 1) inn f rc fa fn fc ∧ BelD D w w' := by
  obtain ⟨g, cap, hs, hat, hf⟩ := hp
  have hD : ¬ D g ∧ g ≠ cb ∧ (Value.slice na nn nc).ownBlock ≠ some g ∧ (Value.slice ba bn bc).ownBlock ≠ some g := by
    rcases hat with e | e
    · exact ⟨(h.lo4 g e).1, (h.lo4 g e).2, fun e2 => (h.lo2 g e2).2.2.2 e, fun e2 => (h.lo3 g e2).2.2 e⟩
    · refine ⟨fun hd => by have := h.lo g hd; omega, fun e2 => by have := heap_lt h.cell; omega, fun e2 => ?_, fun e2 => ?_⟩
      · have := own_lt h.names g e2; omega
      · have := own_lt h.blocks g e2; omega
  refine ⟨⟨na, nn, nc, ba, bn, bc, some ⟨g, 0, none⟩, ls.length + 1, cap, ls ++ [u], ?_⟩, hf.beld h.lo1 (fun g hg => (h.lo4 g hg).1) h.lo⟩
  refine ⟨by simpa using hs.blk, own_same h.names (fun k hk hl => hf.block k hl (h.lo2 k hk).2.1 (fun e => (h.lo2 k hk).2.2.2 e)), own_same h.blocks (fun k hk hl => hf.block k hl (h.lo3 k hk).2.1 (fun e => (h.lo3 k hk).2.2 e)), hs.own, by simp [h.lsl], h.lo1, ?_, ?_, ?_, ⟨h.few.1, h.few.2.1, hn, h.few.2.2.2⟩, fun g hg => Nat.lt_of_lt_of_le (h.lo g hg) hf.size⟩
  · intro k hk
    refine ⟨(h.lo2 k hk).1, (h.lo2 k hk).2.1, (h.lo2 k hk).2.2.1, fun e => ?_⟩
    simp only [Value.ownBlock, Option.some.injEq] at e
    subst e
    exact hD.2.2.1 hk
  · intro k hk
    refine ⟨(h.lo3 k hk).1, (h.lo3 k hk).2.1, fun e => ?_⟩
    simp only [Value.ownBlock, Option.some.injEq] at e
    subst e
    exact hD.2.2.2 hk
  · intro k hk
    simp only [Value.ownBlock, Option.some.injEq] at hk
    subst hk
    exact ⟨hD.1, hD.2.1⟩
/- names, blocks, loops are taken away -/
theorem CkV.cutName (h : CkV D cb te w ns bk wh inn f rc fa fn fc na nn nc ba bn bc la ln lc ls) (m : Nat)
    (hp : CutTo 9 cb 2 w #[.slice fa fn fc, .int .i64 (rc : Nat), .slice na nn nc, .slice ba bn bc, .slice la ln lc, .bool inn, .int .i64 (f.1 : Nat), .int .i64 (f.2 : Nat)] te na nn nc (nmC ns) m w') : CkS D cb te w' (ns.take m) bk wh inn f rc fa fn fc ∧ BelD D w w' := by
  obtain ⟨hs, hf⟩ := hp
  refine ⟨⟨na, m, nc, ba, bn, bc, la, ln, lc, ls, ?_⟩, hf.beld h.lo1 (fun g hg => (h.lo2 g hg).1) h.lo⟩
  have hnm : nmC (ns.take m) = (nmC ns).take m := by simp [nmC, List.map_take]
  have ho : ∀ g, (Value.slice na m nc).ownBlock = some g → (Value.slice na nn nc).ownBlock = some g := fun g e => (own_len _ _ _ _).trans e
  refine ⟨by simpa using hs.blk, by rw [hnm]; exact hs.own, own_same h.blocks (fun k hk hl => hf.block k hl (h.lo3 k hk).2.1 (fun e => (h.lo2 k e).2.2.1 hk)), own_same h.loops (fun k hk hl => hf.block k hl (h.lo4 k hk).2 (fun e => (h.lo2 k e).2.2.2 hk)), h.lsl, h.lo1, fun k hk => h.lo2 k (ho k hk), h.lo3, h.lo4, ⟨by have := h.few.1; simp; omega, h.few.2⟩, fun g hg => Nat.lt_of_lt_of_le (h.lo g hg) hf.size⟩
theorem CkV.cutBlk (h : CkV D cb te w ns bk wh inn f rc fa fn fc na nn nc ba bn bc la ln lc ls) (m : Nat)
    (hp : CutTo 3 cb 3 w #[.slice fa fn fc, .int .i64 (rc : Nat), .slice na nn nc, .slice ba bn bc, .slice la ln lc, .bool inn, .int .i64 (f.1 : Nat), .int .i64 (f.2 : Nat)] te ba bn bc (bkC bk) m w') : CkS D cb te w' ns (bk.take m) wh inn f rc fa fn fc ∧ BelD D w w' := by
  obtain ⟨hs, hf⟩ := hp
  refine ⟨⟨na, nn, nc, ba, m, bc, la, ln, lc, ls, ?_⟩, hf.beld h.lo1 (fun g hg => (h.lo3 g hg).1) h.lo⟩
  have hnm : bkC (bk.take m) = (bkC bk).take m := by simp [bkC, List.map_take]
  have ho : ∀ g, (Value.slice ba m bc).ownBlock = some g → (Value.slice ba bn bc).ownBlock = some g := fun g e => (own_len _ _ _ _).trans e
  refine ⟨by simpa using hs.blk, own_same h.names (fun k hk hl => hf.block k hl (h.lo2 k hk).2.1 (fun e => (h.lo2 k hk).2.2.1 e)), by rw [hnm]; exact hs.own, own_same h.loops (fun k hk hl => hf.block k hl (h.lo4 k hk).2 (fun e => (h.lo3 k e).2.2 hk)), h.lsl, h.lo1, fun k hk => ⟨(h.lo2 k hk).1, (h.lo2 k hk).2.1, fun e => (h.lo2 k hk).2.2.1 (ho k e), (h.lo2 k hk).2.2.2⟩, fun k hk => h.lo3 k (ho k hk), h.lo4, ⟨h.few.1, by have := h.few.2.1; simp; omega, h.few.2.2⟩, fun g hg => Nat.lt_of_lt_of_le (h.lo g hg) hf.size⟩
theorem CkV.cutLoop (h : CkV D cb te w ns bk wh inn f rc fa fn fc na nn nc ba bn bc la ln lc ls) (m : Nat) (hm : m ≤ wh)
    (hp : CutTo 141 cb 4 w #[.slice fa fn fc, .int .i64 (rc : Nat), .slice na nn nc, .slice ba bn bc, .slice la ln lc, .bool inn, .int .i64 (f.1 : Nat), .int .i64 (f.2 : Nat)] te la ln lc ls m w') : CkS D cb te w' ns bk m inn f rc fa fn fc ∧ BelD D w w' := by
  obtain ⟨hs, hf⟩ := hp
  refine ⟨⟨na, nn, nc, ba, bn, bc, la, m, lc, ls.take m, ?_⟩, hf.beld h.lo1 (fun g hg => (h.lo4 g hg).1) h.lo⟩
  have ho : ∀ g, (Value.slice la m lc).ownBlock = some g → (Value.slice la ln lc).ownBlock = some g := fun g e => (own_len _ _ _ _).trans e
  refine ⟨by simpa using hs.blk, own_same h.names (fun k hk hl => hf.block k hl (h.lo2 k hk).2.1 (fun e => (h.lo2 k hk).2.2.2 e)), own_same h.blocks (fun k hk hl => hf.block k hl (h.lo3 k hk).2.1 (fun e => (h.lo3 k hk).2.2 e)), hs.own, by rw [List.length_take, h.lsl, Nat.min_eq_left hm], h.lo1, fun k hk => ⟨(h.lo2 k hk).1, (h.lo2 k hk).2.1, (h.lo2 k hk).2.2.1, fun e => (h.lo2 k hk).2.2.2 (ho k e)⟩, fun k hk => ⟨(h.lo3 k hk).1, (h.lo3 k hk).2.1, fun e => (h.lo3 k hk).2.2 (ho k e)⟩, fun k hk => h.lo4 k (ho k hk), ⟨h.few.1, h.few.2.1, by have := h.few.2.2.1; omega, h.few.2.2.2⟩, fun g hg => Nat.lt_of_lt_of_le (h.lo g hg) hf.size⟩
end Go.Proofs.YtgccmgjbbcndbaaGreatDoor
/- Walks of the checker: fail, open, close, seen. -/
namespace Go.Proofs.YtgccmgjbbcndbaaGreatDoor
open Go.RowKit
open Go.Deep (BT)

theorem wrongF_true {code line : Nat} {f : Flt} (h : f.1 = 0) : wrongF true code line f = (code, line) := by unfold wrongF; rw [if_pos (by simp [h])]

set_option maxRecDepth 100000 in
set_option maxHeartbeats 1000000 in
theorem cfail_any {D : Nat → Prop} {cb te : Nat} {w : World} {ns : List Nm} {bk : List Nat} {wh : Nat} {inn : Bool} {f : Flt} {rc : Nat} {fa : Option Addr} {fn fc : Nat} (h : CkS D cb te w ns bk wh inn f rc fa fn fc) (code line : Nat) :
    Calls Tryz.prog 114 #[.pointer (some ⟨cb, 0, none⟩), .int .i64 (code : Nat), .int .i64 (line : Nat)] w fun e w' => e = .returned (.tuple #[]) ∧ CkS D cb te w' ns bk wh inn (wrongF true code line f) rc fa fn fc ∧ BelD D w w' := by
  obtain ⟨na, nn, nc, ba, bn, bc, la, ln, lc, ls, h⟩ := h
  obtain ⟨c0, c1, c2, c3, c4, c5, c6, c7, fz, lb⟩ := blk8 h.cell
  have HH := hide h
  clear h
  by_cases h0 : f.1 = 0
  · have HW := hide (wrongF_true (code := code) (line := line) h0)
    rw [h0] at c6
    go_enter Tryz.func114, Tryz.ntmps114
    go_wp2
    go_end0
    rw [HW.out]
    refine ⟨rfl, ⟨na, nn, nc, ba, bn, bc, la, ln, lc, ls, HH.out.put inn (code, line) rc HH.out.few.2.2.2 ?_ (fun g _ hne => by rw [Below.heap_setCell _ _ _ _ (by exact hne), Below.heap_setCell _ _ _ _ (by exact hne)]) (by simp [World.setCell])⟩, BelD.set (p := ⟨cb, 7, none⟩) (BelD.set (p := ⟨cb, 6, none⟩) (BelD.refl _ _) HH.out.lo1 _) HH.out.lo1 _⟩
    have := heap_set (j := 7) (heap_set (j := 6) HH.out.cell (.int .i64 (code : Nat))) (.int .i64 (line : Nat))
    simpa using this
  · have HW := hide (wrongF_keep true code line f h0)
    have t0 : ((f.1 : Int) == 0) = false := by rw [beq_eq_false_iff_ne]; omega
    clear h0
    go_enter Tryz.func114, Tryz.ntmps114
    go_wp2
    go_end0
    rw [HW.out]
    exact ⟨rfl, ⟨na, nn, nc, ba, bn, bc, la, ln, lc, ls, HH.out⟩, BelD.refl _ _⟩

theorem nmC_len (ns : List Nm) : (nmC ns).length = ns.length := by simp [nmC]
theorem bkC_len (bk : List Nat) : (bkC bk).length = bk.length := by simp [bkC]

set_option maxRecDepth 100000 in
set_option maxHeartbeats 1000000 in
theorem copen_any {D : Nat → Prop} {cb te : Nat} {w : World} {ns : List Nm} {bk : List Nat} {wh : Nat} {inn : Bool} {f : Flt} {rc : Nat} {fa : Option Addr} {fn fc : Nat} (h : CkS D cb te w ns bk wh inn f rc fa fn fc) (hb : bk.length + 1 ≤ 800000) :
    Calls Tryz.prog 57 #[.pointer (some ⟨cb, 0, none⟩)] w fun e w' => e = .returned (.tuple #[]) ∧ CkS D cb te w' ns (bk ++ [ns.length]) wh inn f rc fa fn fc ∧ BelD D w w' := by
  obtain ⟨na, nn, nc, ba, bn, bc, la, ln, lc, ls, h⟩ := h
  have lb := heap_lt h.cell
  have HH := hide (h.keep (w' := w.drew) (fun _ _ => rfl) (Nat.le_refl _))
  have HL := hide (slenStr HH.out.stk2)
  rw [nmC_len] at HL
  have HP := hide (spushInt HH.out.stk3 (by rw [bkC_len]; omega) (ns.length : Nat) (by simp))
  clear h
  go_enter Tryz.func57, Tryz.ntmps57
  go_wp2
  go_region_law (first
    | (refine step_call rfl 81 _ _ rfl #[.pointer (some ⟨cb, 2, none⟩)] (by kernel_rfl) HL.out ?_; rintro e w1 ⟨rfl, rfl⟩; refine ⟨_, rfl, ?_⟩)
    | (refine step_call rfl 80 _ _ rfl #[.pointer (some ⟨cb, 3, none⟩), .int .i64 (ns.length : Nat)] (by kernel_rfl) HP.out ?_; rintro e w1 ⟨rfl, hp1⟩; refine ⟨_, rfl, ?_⟩))
  all_goals go_wp2
  all_goals go_end0
  all_goals obtain ⟨k1, k2⟩ := HH.out.pushBlk ns.length hb hp1
  all_goals exact ⟨rfl, k1, ⟨k2.os, k2.tape, k2.output, k2.size, k2.block⟩⟩

set_option maxRecDepth 100000 in
set_option maxHeartbeats 1000000 in
theorem cclose_any {D : Nat → Prop} {cb te : Nat} {w : World} {ns : List Nm} {bk : List Nat} {p : Nat} {wh : Nat} {inn : Bool} {f : Flt} {rc : Nat} {fa : Option Addr} {fn fc : Nat} (h : CkS D cb te w ns (bk ++ [p]) wh inn f rc fa fn fc) (hp : p ≤ ns.length) :
    Calls Tryz.prog 59 #[.pointer (some ⟨cb, 0, none⟩)] w fun e w' => e = .returned (.tuple #[]) ∧ CkS D cb te w' (ns.take p) bk wh inn f rc fa fn fc ∧ BelD D w w' := by
  obtain ⟨na, nn, nc, ba, bn, bc, la, ln, lc, ls, h⟩ := h
  have lb := heap_lt h.cell
  have HH := hide (h.keep (w' := w.drew) (fun _ _ => rfl) (Nat.le_refl _))
  have hl : (bkC (bk ++ [p])).length = bk.length + 1 := by rw [bkC_len]; simp
  have hf := HH.out.few
  simp only [List.length_append, List.length_singleton] at hf
  have HP := hide (spopInt HH.out.stk3 (by omega) bk.length (by omega) hl (by simp))
  have hx : (bkC (bk ++ [p]))[bk.length]'(by omega) = .int .i64 (p : Nat) := by simp [bkC, blV]
  rw [hx] at HP
  clear h hl hx
  go_enter Tryz.func59, Tryz.ntmps59
  go_wp2
  go_region_law (first
    | (refine step_call rfl 84 _ _ rfl #[.pointer (some ⟨cb, 3, none⟩)] (by kernel_rfl) HP.out ?_; rintro e w1 ⟨rfl, hc1⟩; refine ⟨_, rfl, ?_⟩; obtain ⟨k1, k2⟩ := HH.out.cutBlk bk.length hc1; rw [List.take_left] at k1; obtain ⟨na1, nn1, nc1, ba1, bn1, bc1, la1, ln1, lc1, ls1, hv1⟩ := k1; have HV1 := hide hv1; have HK2 := hide k2; have lb1 := heap_lt hv1.cell; have HC1 := hide (scutStr hv1.stk2 p (by rw [nmC_len]; exact hp) (by simp)); clear hv1 k2 hc1)
    | (refine step_call rfl 83 _ _ rfl #[.pointer (some ⟨cb, 2, none⟩), .int .i64 (p : Nat)] (by kernel_rfl) HC1.out ?_; rintro e w2 ⟨rfl, hc2⟩; refine ⟨_, rfl, ?_⟩))
  all_goals go_wp2
  all_goals go_end0
  all_goals obtain ⟨k3, k4⟩ := HV1.out.cutName p hc2
  all_goals exact ⟨rfl, k3, BelD.trans ⟨HK2.out.os, HK2.out.tape, HK2.out.output, HK2.out.size, HK2.out.block⟩ k4⟩

theorem drop_mem_step {ns : List Nm} {i : Nat} (h : i < ns.length) (s : Nm) : decide (s ∈ ns.drop i) = (decide (ns[i] = s) || decide (s ∈ ns.drop (i + 1))) := by
  rw [List.drop_eq_getElem_cons h, Bool.eq_iff_iff]
  simp only [List.mem_cons, decide_eq_true_eq, Bool.or_eq_true]
  exact ⟨fun h => h.imp Eq.symm id, fun h => h.imp Eq.symm id⟩

set_option maxRecDepth 100000 in
set_option maxHeartbeats 1000000 in
theorem cseen_any {D : Nat → Prop} {cb te : Nat} {w : World} {ns : List Nm} {bk : List Nat} {wh : Nat} {inn : Bool} {f : Flt} {rc : Nat} {fa : Option Addr} {fn fc : Nat} (h : CkS D cb te w ns bk wh inn f rc fa fn fc) (s : Nm) (p : Nat) (hp : p ≤ ns.length) :
    Calls Tryz.prog 115 #[.pointer (some ⟨cb, 0, none⟩), .string ⟨s.toArray⟩, .int .i64 (p : Nat)] w fun e w' => e = .returned (.bool (decide (s ∈ ns.drop p))) ∧ w' = w := by
  obtain ⟨na, nn, nc, ba, bn, bc, la, ln, lc, ls, h⟩ := h
  have lb := heap_lt h.cell
  have HL := hide (slenStr h.stk2)
  rw [nmC_len] at HL
  have HA := hide (fun i hi => satStr h.stk2 i hi)
  have hfew := h.few.1
  clear h
  go_enter Tryz.func115, Tryz.ntmps115
  go_wp2
  go_loopg [7] (ns.length - p) (fun k v wr => ∃ i : Nat, v = .int .i64 i ∧ i + k = ns.length ∧ decide (s ∈ ns.drop p) = decide (s ∈ ns.drop i) ∧ wr = w)
  case atStart => exact ⟨p, rfl, by omega, rfl, rfl⟩
  case round =>
    obtain ⟨i, rfl, hik, hm, rfl⟩ := hrel
    have HM := hide hm
    clear hm
    by_cases hlt : i < ns.length
    · have HS := hide (drop_mem_step hlt s)
      have HA1 := hide (HA.out i (by rw [nmC_len]; exact hlt))
      have hx : (nmC ns)[i]'(by rw [nmC_len]; exact hlt) = .string ⟨ns[i].toArray⟩ := by simp [nmC, nmV]
      rw [hx] at HA1
      clear hx
      generalize ns[i] = x at *
      have hlt' : (i : Int) < (ns.length : Int) := by omega
      cases hq : (x == s)
      · have HE : Hid (decide (s ∈ ns.drop p) = decide (s ∈ ns.drop (i + 1))) := by
          show _ = _
          have : decide (x = s) = false := by simpa using hq
          rw [HM.out, HS.out, this]; rfl
        go_wp2_with fail
        refine HL.out.mono ?_
        rintro e w' ⟨rfl, rfl⟩
        go_wp2_with fail
        refine HA1.out.mono ?_
        rintro e w' ⟨rfl, rfl⟩
        go_wp2
        go_roundg (gk - 1)
        case measure => omega
        case rel => exact ⟨i + 1, rfl, by omega, HE.out, rfl⟩
      · have HE : Hid (decide (s ∈ ns.drop p) = true) := by
          show _ = _
          have : decide (x = s) = true := by simpa using hq
          rw [HM.out, HS.out, this]; rfl
        go_wp2_with fail
        refine HL.out.mono ?_
        rintro e w' ⟨rfl, rfl⟩
        go_wp2_with fail
        refine HA1.out.mono ?_
        rintro e w' ⟨rfl, rfl⟩
        go_wp2
        go_ret
        exact ⟨ret_bool HE.out.symm, rfl⟩
    · have HE : Hid (decide (s ∈ ns.drop p) = false) := by
        show _ = _
        rw [HM.out, List.drop_eq_nil_of_le (by omega)]; rfl
      go_wp2_with fail
      refine HL.out.mono ?_
      rintro e w' ⟨rfl, rfl⟩
      go_wp2
      go_ret
      exact ⟨ret_bool HE.out.symm, rfl⟩
end Go.Proofs.YtgccmgjbbcndbaaGreatDoor
/- Walks of the checker: fresh, inLoop, named. -/
namespace Go.Proofs.YtgccmgjbbcndbaaGreatDoor
open Go.RowKit
open Go.Deep (BT)

theorem wrongF_false (code line : Nat) (f : Flt) : wrongF false code line f = f := by unfold wrongF; rw [if_neg (by simp)]

set_option maxRecDepth 100000 in
set_option maxHeartbeats 1000000 in
theorem cfresh_any {D : Nat → Prop} {cb te : Nat} {w : World} {outer cur : List Nm} {bl : List Nat} {wh : Nat} {inn : Bool} {f : Flt} {rc : Nat} {fa : Option Addr} {fn fc : Nat} (h : CkS D cb te w (outer ++ cur) (bl ++ [outer.length]) wh inn f rc fa fn fc) (line : Nat) (s : Nm) :
    Calls Tryz.prog 95 #[.pointer (some ⟨cb, 0, none⟩), .agg #[.int .i64 (line : Nat), .string ⟨s.toArray⟩]] w fun e w' => e = .returned (.tuple #[]) ∧ CkS D cb te w' (outer ++ cur) (bl ++ [outer.length]) wh inn (wrongF (decide (s ∈ cur)) 3 line f) rc fa fn fc ∧ BelD D w w' := by
  have hlo : ∀ g, D g → g < w.heap.size := by obtain ⟨_, _, _, _, _, _, _, _, _, _, h⟩ := h; exact h.lo
  have lb : cb < w.heap.size := by obtain ⟨_, _, _, _, _, _, _, _, _, _, h⟩ := h; exact heap_lt h.cell
  have h1 : CkS D cb te (w.alloc (.cells #[.int .i64 (line : Nat), .string ⟨s.toArray⟩] 52)) (outer ++ cur) (bl ++ [outer.length]) wh inn f rc fa fn fc := h.keep (fun g hg => Below.heap_alloc _ _ _ hg) (by simp)
  have hb1 : BelD D w (w.alloc (.cells #[.int .i64 (line : Nat), .string ⟨s.toArray⟩] 52)) := (BelD.refl D w).alloc hlo _
  have hx1 := heap_alloc_new w (.cells #[.int .i64 (line : Nat), .string ⟨s.toArray⟩] 52)
  clear h
  generalize hW : w.alloc (.cells #[.int .i64 (line : Nat), .string ⟨s.toArray⟩] 52) = w1 at *
  have HW := hide hW
  generalize hxb : w.heap.size = xb at *
  have HXb := hide hxb
  clear hW hxb
  have HS1 := hide h1
  have HB1 := hide hb1
  have HX1 := hide hx1
  have hdr : ∀ W : World, CkS D cb te W (outer ++ cur) (bl ++ [outer.length]) wh inn f rc fa fn fc → Calls Tryz.prog 102 #[.pointer (some ⟨cb, 3, none⟩)] W fun e w' => e = .returned (.int .i64 (outer.length : Nat)) ∧ w' = W := by
    intro W h
    obtain ⟨na, nn, nc, ba, bn, bc, la, ln, lc, ls, h⟩ := h
    have hl : (bkC (bl ++ [outer.length])).length = bl.length + 1 := by rw [bkC_len]; simp
    have hf := h.few
    simp only [List.length_append, List.length_singleton] at hf
    have hp := stopInt h.stk3 (by omega) bl.length (by omega) hl
    have hx : (bkC (bl ++ [outer.length]))[bl.length]'(by omega) = .int .i64 (outer.length : Nat) := by simp [bkC, blV]
    rw [hx] at hp
    exact hp
  have HTop := hide hdr
  have HSeen := hide (fun (W : World) (h : CkS D cb te W (outer ++ cur) (bl ++ [outer.length]) wh inn f rc fa fn fc) => cseen_any h s outer.length (by simp))
  rw [List.drop_left] at HSeen
  obtain ⟨y0, y1, fy, ly⟩ := blk2p hx1
  have lb1 : cb < w1.heap.size := by obtain ⟨_, _, _, _, _, _, _, _, _, _, h⟩ := h1; exact heap_lt h.cell
  clear hdr h1 hb1 hx1
  cases hq : decide (s ∈ cur)
  · rw [hq] at HSeen
    have HF := hide (wrongF_false 3 line f)
    go_enter Tryz.func95, Tryz.ntmps95
    go_wp2
    rw [HW.out, HXb.out]
    go_quiet ((first | (go_at_call 102; exact Calls.quiet_of_same (HTop.out _ (HS1.out.keep (fun _ _ => rfl) (Nat.le_refl _)))) | (go_at_call 115; exact Calls.quiet_of_same (HSeen.out _ (HS1.out.keep (fun _ _ => rfl) (Nat.le_refl _))))))
    have HS2 : Hid (CkS D cb te (w1.drewN nq) (outer ++ cur) (bl ++ [outer.length]) wh inn f rc fa fn fc) := HS1.out.keep (fun _ _ => rfl) (Nat.le_refl _)
    have HB2 : Hid (BelD D w (w1.drewN nq)) := ⟨HB1.out.os, HB1.out.tape, HB1.out.output, HB1.out.size, HB1.out.block⟩
    have HX2 : Hid ((w1.drewN nq).heap[xb]? = _) := HX1.out
    go_wp2
    go_end0
    rw [HF.out]
    exact ⟨rfl, HS2.out, HB2.out⟩
  · rw [hq] at HSeen
    go_enter Tryz.func95, Tryz.ntmps95
    go_wp2
    rw [HW.out, HXb.out]
    go_quiet ((first | (go_at_call 102; exact Calls.quiet_of_same (HTop.out _ (HS1.out.keep (fun _ _ => rfl) (Nat.le_refl _)))) | (go_at_call 115; exact Calls.quiet_of_same (HSeen.out _ (HS1.out.keep (fun _ _ => rfl) (Nat.le_refl _))))))
    have HS2 : Hid (CkS D cb te (w1.drewN nq) (outer ++ cur) (bl ++ [outer.length]) wh inn f rc fa fn fc) := HS1.out.keep (fun _ _ => rfl) (Nat.le_refl _)
    have HB2 : Hid (BelD D w (w1.drewN nq)) := ⟨HB1.out.os, HB1.out.tape, HB1.out.output, HB1.out.size, HB1.out.block⟩
    have HX2 : Hid ((w1.drewN nq).heap[xb]? = _) := HX1.out
    clear y0 y1 fy ly
    generalize w1.drewN nq = w2 at *
    obtain ⟨y0, y1, fy, ly⟩ := blk2p HX2.out
    go_wp2_with fail
    refine (cfail_any HS2.out 3 line).mono ?_
    rintro e w3 ⟨rfl, hs3, hb3⟩
    have HS3 := hide hs3
    have HB3 : Hid (BelD D w w3) := HB2.out.trans hb3
    clear hs3 hb3
    go_wp2
    go_end0
    exact ⟨rfl, HS3.out, HB3.out⟩

set_option maxRecDepth 100000 in
set_option maxHeartbeats 1000000 in
theorem cinloop_any {D : Nat → Prop} {cb te : Nat} {w : World} {ns : List Nm} {bk : List Nat} {wh : Nat} {inn : Bool} {f : Flt} {rc : Nat} {fa : Option Addr} {fn fc : Nat} (h : CkS D cb te w ns bk wh inn f rc fa fn fc) (line : Nat) :
    Calls Tryz.prog 101 #[.pointer (some ⟨cb, 0, none⟩), .int .i64 (line : Nat)] w fun e w' => e = .returned (.tuple #[]) ∧ CkS D cb te w' ns bk wh inn (wrongF (wh == 0) 4 line f) rc fa fn fc ∧ BelD D w w' := by
  have HS := hide h
  obtain ⟨na, nn, nc, ba, bn, bc, la, ln, lc, ls, h⟩ := h
  have lb := heap_lt h.cell
  have HL := hide (slenWhl h.stk4)
  rw [h.lsl] at HL
  clear h
  by_cases h0 : wh = 0
  · subst h0
    go_enter Tryz.func101, Tryz.ntmps101
    go_wp2_with fail
    refine HL.out.mono ?_
    rintro e w' ⟨rfl, rfl⟩
    go_wp2_with fail
    refine (cfail_any HS.out 4 line).mono ?_
    rintro e w3 ⟨rfl, hs3, hb3⟩
    have HS3 := hide hs3
    have HB3 := hide hb3
    clear hs3 hb3
    go_wp2
    go_end0
    exact ⟨rfl, HS3.out, HB3.out⟩
  · have t0 : ((wh : Int) == 0) = false := by rw [beq_eq_false_iff_ne]; omega
    have HF : Hid (wrongF (wh == 0) 4 line f = f) := by
      show _ = _
      rw [show (wh == 0) = false by simpa using h0]; exact wrongF_false 4 line f
    clear h0
    go_enter Tryz.func101, Tryz.ntmps101
    go_wp2_with fail
    refine HL.out.mono ?_
    rintro e w' ⟨rfl, rfl⟩
    go_wp2
    go_end0
    rw [HF.out]
    exact ⟨rfl, HS.out, BelD.refl _ _⟩

/- the program's functions, as the checker has them -/
structure FnC (D : Nat → Prop) (w : World) (fns : List (Nm × Nat)) (fa : Option Addr) (fn fc : Nat) : Prop where
  len : fn = fns.length
  few : fns.length ≤ 100000
  cap : fn ≤ fc
  at' : ∀ i (h : i < fns.length), ∃ g pb pa pc, fa = some ⟨g, 0, none⟩ ∧ D g ∧ g < w.heap.size ∧ w.cell? ⟨g, i, none⟩ = some (.pointer (some ⟨pb, 0, none⟩)) ∧ D pb ∧ pb < w.heap.size ∧ w.cell? ⟨pb, 1, none⟩ = some (.string ⟨fns[i].1.toArray⟩) ∧ w.cell? ⟨pb, 2, none⟩ = some (.slice pa fns[i].2 pc)
theorem FnC.keep {D : Nat → Prop} {w w' : World} {fns : List (Nm × Nat)} {fa : Option Addr} {fn fc : Nat} (h : FnC D w fns fa fn fc) (hb : BelD D w w') : FnC D w' fns fa fn fc := by
  refine ⟨h.len, h.few, h.cap, fun i hi => ?_⟩
  obtain ⟨g, pb, pa, pc, e1, e2, e3, e4, e5, e6, e7, e8⟩ := h.at' i hi
  exact ⟨g, pb, pa, pc, e1, e2, Nat.lt_of_lt_of_le e3 hb.size, (World.cell?_of_block (hb.block g e2)).trans e4, e5, Nat.lt_of_lt_of_le e6 hb.size, (World.cell?_of_block (hb.block pb e5)).trans e7, (World.cell?_of_block (hb.block pb e5)).trans e8⟩

def NmIs (w : World) (fns : List (Nm × Nat)) (fa : Option Addr) (k : Nat) (s : Nm) (p : Option Addr) : Prop :=
  (p = none ∧ ∀ j, j < k → ∀ h : j < fns.length, fns[j].1 ≠ s) ∨ (∃ i, ∃ h : i < fns.length, ∃ pb pa pc, i < k ∧ p = some ⟨pb, 0, none⟩ ∧ (∃ g, fa = some ⟨g, 0, none⟩ ∧ w.cell? ⟨g, i, none⟩ = some (.pointer (some ⟨pb, 0, none⟩))) ∧ fns[i].1 = s ∧ (∀ j, j < i → ∀ h' : j < fns.length, fns[j].1 ≠ s) ∧ pb < w.heap.size ∧ w.cell? ⟨pb, 2, none⟩ = some (.slice pa fns[i].2 pc))

set_option maxRecDepth 100000 in
set_option maxHeartbeats 1000000 in
theorem cnamed_any {D : Nat → Prop} {w : World} {fns : List (Nm × Nat)} {fa : Option Addr} {fn fc : Nat} (h : FnC D w fns fa fn fc) (k : Nat) (hk : k ≤ fns.length) (s : Nm) :
    Calls Tryz.prog 113 #[.slice fa k fc, .string ⟨s.toArray⟩] w fun e w' => ∃ p, e = .returned (.pointer p) ∧ NmIs w fns fa k s p ∧ w' = w := by
  have hfew := h.few
  have hcap := h.cap
  have hlen := h.len
  have HH := hide h
  clear h
  go_enter Tryz.func113, Tryz.ntmps113
  go_wp2
  go_loopg [9] k (fun q v wr => ∃ i : Nat, v = .int .i64 i ∧ i + q = k ∧ (∀ j, j < i → ∀ h' : j < fns.length, fns[j].1 ≠ s) ∧ wr = w)
  case atStart => exact ⟨0, rfl, by omega, fun i hi => by omega, rfl⟩
  case round =>
    obtain ⟨i, rfl, hik, hno, rfl⟩ := hrel
    have HNo := hide hno
    clear hno
    by_cases hlt : i < k
    · have hlt2 : i < fns.length := by omega
      obtain ⟨g, pb, pa, pc, rfl, _, lg, cg, _, lp, c1, c2⟩ := HH.out.at' i hlt2
      have HI : Hid (fns[i].1 = s → NmIs wr fns (some ⟨g, 0, none⟩) k s (some ⟨pb, 0, none⟩)) := fun e => .inr ⟨i, hlt2, pb, pa, pc, hlt, rfl, ⟨g, rfl, cg⟩, e, HNo.out, lp, c2⟩
      have HS : Hid (fns[i].1 ≠ s → ∀ j, j < i + 1 → ∀ h' : j < fns.length, fns[j].1 ≠ s) := by
        intro hn j hj h' e
        by_cases hjn : j = i
        · subst hjn; exact hn e
        · exact HNo.out j (by omega) h' e
      have hcap2 : k ≤ fc := by omega
      clear hlen hcap
      generalize fns[i] = x at *
      cases hq : (x.1 == s)
      · have HQ : Hid (x.1 ≠ s) := by rw [beq_eq_false_iff_ne] at hq; exact hq
        go_wp2
        go_roundg (gk - 1)
        case measure => omega
        case rel => exact ⟨i + 1, rfl, by omega, HS.out HQ.out, rfl⟩
      · have HQ : Hid (x.1 = s) := hide (by simpa using hq)
        go_wp2
        go_ret
        exact ⟨_, rfl, HI.out HQ.out, rfl⟩
    · have HT : Hid (NmIs wr fns fa k s none) := .inl ⟨rfl, fun j hj h => HNo.out j (by omega) h⟩
      go_wp2
      go_ret
      exact ⟨_, rfl, HT.out, rfl⟩

theorem NmIs.unique {w : World} {fns : List (Nm × Nat)} {fa : Option Addr} {k : Nat} {s : Nm} {p q : Option Addr} (h1 : NmIs w fns fa k s p) (h2 : NmIs w fns fa k s q) : p = q := by
  rcases h1 with ⟨e1, n1⟩ | ⟨i, hi, pb, pa, pc, hik, e1, ⟨g, eg, c1⟩, es, n1, _, _⟩
  · rcases h2 with ⟨e2, _⟩ | ⟨j, hj, pb2, pa2, pc2, hjk, e2, _, es2, _⟩
    · rw [e1, e2]
    · exact absurd es2 (n1 j hjk hj)
  · rcases h2 with ⟨e2, n2⟩ | ⟨j, hj, pb2, pa2, pc2, hjk, e2, ⟨g2, eg2, c2⟩, es2, n2, _, _⟩
    · exact absurd es (n2 i hik hi)
    · have hij : i = j := by
        rcases Nat.lt_trichotomy i j with h | h | h
        · exact absurd es (n2 i h hi)
        · exact h
        · exact absurd es2 (n1 j h hj)
      subst hij
      rw [eg] at eg2
      injection eg2 with eg2
      injection eg2 with eg2
      subst eg2
      rw [c1] at c2
      injection c2 with c2
      injection c2 with c2
      rw [e1, e2, c2]
theorem FnC.find {D : Nat → Prop} {w : World} {fns : List (Nm × Nat)} {fa : Option Addr} {fn fc : Nat} (h : FnC D w fns fa fn fc) (s : Nm) : ∀ k, k ≤ fns.length → ∃ p, NmIs w fns fa k s p := by
  intro k
  induction k with
  | zero => intro _; exact ⟨none, .inl ⟨rfl, fun j hj => by omega⟩⟩
  | succ k ih =>
    intro hk
    obtain ⟨p, hp⟩ := ih (by omega)
    rcases hp with ⟨rfl, hn⟩ | ⟨i, hi, pb, pa, pc, hik, r⟩
    · by_cases e : (fns[k]'(by omega)).1 = s
      · obtain ⟨g, pb, pa, pc, e1, _, _, e4, _, e6, _, e8⟩ := h.at' k (by omega)
        exact ⟨some ⟨pb, 0, none⟩, .inr ⟨k, by omega, pb, pa, pc, by omega, rfl, ⟨g, e1, e4⟩, e, fun j hj h' => hn j hj h', e6, e8⟩⟩
      · refine ⟨none, .inl ⟨rfl, fun j hj h' e2 => ?_⟩⟩
        by_cases hjk : j = k
        · subst hjk; exact e e2
        · exact hn j (by omega) h' e2
    · exact ⟨p, .inr ⟨i, hi, pb, pa, pc, by omega, r⟩⟩
theorem cnamed_at {D : Nat → Prop} {w : World} {fns : List (Nm × Nat)} {fa : Option Addr} {fn fc : Nat} (h : FnC D w fns fa fn fc) (k : Nat) (hk : k ≤ fns.length) (s : Nm) (p : Option Addr) (hp : NmIs w fns fa k s p) :
    Calls Tryz.prog 113 #[.slice fa k fc, .string ⟨s.toArray⟩] w fun e w' => e = .returned (.pointer p) ∧ w' = w :=
  (cnamed_any h k hk s).mono fun e w' ⟨q, e1, e2, e3⟩ => ⟨by rw [e1, hp.unique e2], e3⟩
end Go.Proofs.YtgccmgjbbcndbaaGreatDoor
/- The checker's contracts, tree by tree; walks of exprs, call, leave. -/
namespace Go.Proofs.YtgccmgjbbcndbaaGreatDoor
open Go.RowKit
open Go.Deep (BT)

structure CC where
  cb : Nat
  te : Nat
  fns : List (Nm × Nat)
  fa : Option Addr
  fn : Nat
  fc : Nat

structure CC.St (K : CC) (D : Nat → Prop) (w : World) (ns : List Nm) (bk : List Nat) (wh : Nat) (inn : Bool) (f : Flt) (rc : Nat) : Prop where
  st : CkS D K.cb K.te w ns bk wh inn f rc K.fa K.fn K.fc
  fr : FnC D w K.fns K.fa K.fn K.fc

theorem CC.St.lo {K : CC} {D : Nat → Prop} {w : World} {ns : List Nm} {bk : List Nat} {wh : Nat} {inn : Bool} {f : Flt} {rc : Nat} (h : K.St D w ns bk wh inn f rc) : (∀ g, D g → g < w.heap.size) ∧ K.cb < w.heap.size ∧ ¬ D K.cb := by
  obtain ⟨_, _, _, _, _, _, _, _, _, _, h⟩ := h.st
  exact ⟨h.lo, heap_lt h.cell, h.lo1⟩
theorem CC.St.next {K : CC} {D : Nat → Prop} {w w' : World} {ns ns' : List Nm} {bk bk' : List Nat} {wh wh' : Nat} {inn inn' : Bool} {f f' : Flt} {rc rc' : Nat} (h : K.St D w ns bk wh inn f rc) (hs : CkS D K.cb K.te w' ns' bk' wh' inn' f' rc' K.fa K.fn K.fc) (hb : BelD D w w') : K.St D w' ns' bk' wh' inn' f' rc' := ⟨hs, h.fr.keep hb⟩
theorem CC.St.drewN {K : CC} {D : Nat → Prop} {w : World} {ns : List Nm} {bk : List Nat} {wh : Nat} {inn : Bool} {f : Flt} {rc : Nat} (h : K.St D w ns bk wh inn f rc) (n : Nat) : K.St D (w.drewN n) ns bk wh inn f rc :=
  h.next (h.st.keep (fun _ _ => rfl) (Nat.le_refl _)) ⟨rfl, rfl, rfl, Nat.le_refl _, fun _ _ => rfl⟩
theorem beld_drewN (D : Nat → Prop) (w : World) (n : Nat) : BelD D w (w.drewN n) := ⟨rfl, rfl, rfl, Nat.le_refl _, fun _ _ => rfl⟩

theorem RepC.beld {D : Nat → Prop} {w w' : World} (hb : BelD D w w') {f : BT Lab} {vs : List Value} (h : RepC D w f vs) : RepC D w' f vs := RepC.keep (fun g hg _ => ⟨hb.block g hg, hg⟩) _ _ h
theorem NodeC.beld {D : Nat → Prop} {w w' : World} (hb : BelD D w w') {l : Lab} {v : Value} {ks : List Value} (h : NodeC D w l v ks) : NodeC D w' l v ks := NodeC.keep (fun g hg _ => ⟨hb.block g hg, hg⟩) h
theorem OwnsD.beld {D : Nat → Prop} {w w' : World} (hb : BelD D w w') {e : TypeId} {size : Nat} {v : Value} {n : Nat} {cs : List Value} (h : OwnsD D w e size v n cs) : OwnsD D w' e size v n cs := h.keep (fun g hg _ => ⟨hb.block g hg, hg⟩)

theorem RepC.at' {D : Nat → Prop} {w : World} : ∀ (i : Nat) (f : BT Lab) (vs : List Value), RepC D w f vs → i < blen f →
    ∃ x y l c r, dropT i f = .node x y l c r ∧ ∃ v ks, vs[i]? = some v ∧ NodeC D w l v ks ∧ RepC D w c ks := by
  intro i
  induction i with
  | zero =>
    intro f vs h hi
    cases f with
    | nil => simp [blen] at hi
    | node x y l c r =>
      obtain ⟨v, ks, rest, rfl, h1, h2, h3⟩ := h
      exact ⟨x, y, l, c, r, rfl, v, ks, rfl, h1, h2⟩
  | succ i ih =>
    intro f vs h hi
    cases f with
    | nil => simp [blen] at hi
    | node x y l c r =>
      obtain ⟨v, ks, rest, rfl, h1, h2, h3⟩ := h
      obtain ⟨x', y', l', c', r', e, v', ks', k1, k2, k3⟩ := ih r rest h3 (by simp only [blen] at hi; omega)
      exact ⟨x', y', l', c', r', e, v', ks', k1, k2, k3⟩

def ExOK (K : CC) (l : Lab) (c : BT Lab) : Prop := ∀ (D : Nat → Prop) (w : World) (outer cur : List Nm) (bk : List Nat) (wh : Nat) (inn : Bool) (f : Flt) (rc : Nat) (v : Value) (ks : List Value),
  K.St D w (outer ++ cur) bk wh inn f rc → NodeC D w l v ks → RepC D w c ks →
  Calls Tryz.prog 96 #[.pointer (some ⟨K.cb, 0, none⟩), v] w fun e w' => e = .returned (.tuple #[]) ∧ K.St D w' (outer ++ cur) bk wh inn (sens K.fns (nd l c) outer cur wh inn f).2 rc ∧ BelD D w w'

def AllN (P : Lab → BT Lab → Prop) : BT Lab → Prop
  | .nil => True
  | .node _ _ l c r => P l c ∧ AllN P r
theorem AllN.at' {P : Lab → BT Lab → Prop} : ∀ (i : Nat) (f : BT Lab), AllN P f → ∀ x y l c r, dropT i f = .node x y l c r → P l c := by
  intro i
  induction i with
  | zero => intro f h x y l c r e; rw [show dropT 0 f = f from by cases f <;> rfl] at e; subst e; exact h.1
  | succ i ih =>
    intro f h x y l c r e
    cases f with
    | nil => rw [dropT] at e; cases e
    | node x' y' l' c' r' => rw [dropT] at e; exact ih r' h.2 x y l c r e

theorem Wf.drop : ∀ (m i : Nat) (f : BT Lab), Wf m f → Wf m (dropT i f) := by
  intro m i
  induction i with
  | zero => intro f h; exact h
  | succ i ih =>
    intro f h
    cases f with
    | nil => exact h
    | node x y l c r => exact ih r h.1

theorem sens_xy' (fns : List (Nm × Nat)) (x y : Nat) (l : Lab) (c r : BT Lab) (outer cur : List Nm) (wh : Nat) (inn : Bool) (f : Flt) : sens fns (.node x y l c r) outer cur wh inn f = sens fns r outer (sens fns (nd l c) outer cur wh inn f).1 wh inn (sens fns (nd l c) outer cur wh inn f).2 := by
  rw [sens_sib]
  rfl
theorem Wf.one0 {x y : Nat} {l : Lab} {c r : BT Lab} (h : Wf 0 (.node x y l c r)) : Wf 0 (nd l c) := ⟨trivial, h.2⟩

set_option maxRecDepth 100000 in
set_option maxHeartbeats 1000000 in
theorem cexprs_any (K : CC) (c : BT Lab) (hok : AllN (ExOK K) c) (hwf : Wf 0 c) (D : Nat → Prop) (w : World) (outer cur : List Nm) (bk : List Nat) (wh : Nat) (inn : Bool) (f : Flt) (rc : Nat) (va : Option Addr) (vn vc : Nat) (ks : List Value)
    (hst : K.St D w (outer ++ cur) bk wh inn f rc) (hown : OwnsD D w 144 1 (.slice va vn vc) ks.length ks) (hrep : RepC D w c ks) (hb : ks.length ≤ 500000) :
    Calls Tryz.prog 117 #[.pointer (some ⟨K.cb, 0, none⟩), .slice va vn vc] w fun e w' => e = .returned (.tuple #[]) ∧ K.St D w' (outer ++ cur) bk wh inn (sens K.fns c outer cur wh inn f).2 rc ∧ BelD D w w' := by
  have hvn : vn = ks.length := (own_cells hown.1).1
  subst hvn
  have HSt0 := hide hst
  have HOwn := hide hown
  have HRep := hide hrep
  have hlen := hrep.len
  have HLen := hide hlen
  clear hst hown hrep hlen
  go_enter Tryz.func117, Tryz.ntmps117
  go_wp2
  go_loopg [8] ks.length (fun k v wr => ∃ (i : Nat) (fl : Flt), v = .int .i64 i ∧ i + k = ks.length ∧ K.St D wr (outer ++ cur) bk wh inn fl rc ∧ (sens K.fns (dropT i c) outer cur wh inn fl).2 = (sens K.fns c outer cur wh inn f).2 ∧ BelD D w wr)
  case atStart => exact ⟨0, f, rfl, by omega, HSt0.out, rfl, BelD.refl _ _⟩
  case round =>
    clear HSt0
    obtain ⟨i, fl, rfl, hik, hst, hse, hbel⟩ := hrel
    have HSt := hide hst
    have HSe := hide hse
    have HBel := hide hbel
    clear hst hse hbel
    by_cases hlt : i < ks.length
    · have hr := HRep.out.beld HBel.out
      obtain ⟨x, y, l, cc, r, hd, v, ks', hv, hn, hrk⟩ := RepC.at' i c ks hr (by rw [← HLen.out]; exact hlt)
      obtain ⟨g, rfl, _, hcap, lg, hcell⟩ := own_row (HOwn.out.beld HBel.out).1 (by omega)
      have d0 := hcell i v hv
      have hE := hide (hok.at' i c x y l cc r hd)
      have hw0 : Wf 0 (nd l cc) := by have := Wf.drop 0 i c hwf; rw [hd] at this; exact this.one0
      have hs1 := sens_xy' K.fns x y l cc r outer cur wh inn fl
      rw [sens_cur0 K.fns _ hw0] at hs1
      have HNx : Hid ((sens K.fns (dropT (i + 1) c) outer cur wh inn (sens K.fns (nd l cc) outer cur wh inn fl).2).2 = (sens K.fns c outer cur wh inn f).2) := by
        show _ = _
        rw [dropT_succ i c x y l cc r hd, ← HSe.out, hd, hs1]
      have HC := hide (hE.out D wr outer cur bk wh inn fl rc v ks' HSt.out hn hrk)
      clear hr hd hv hn hrk hcell hw0 hs1
      go_wp2_with fail
      refine HC.out.mono ?_
      rintro e w1 ⟨rfl, hs1, hb1⟩
      have HS1 := hide hs1
      have HB1 : Hid (BelD D w w1) := HBel.out.trans hb1
      clear hs1 hb1
      go_wp2
      go_roundg (gk - 1)
      case measure => omega
      case rel => exact ⟨i + 1, _, rfl, by omega, HS1.out, HNx.out, HB1.out⟩
    · have HE : Hid (fl = (sens K.fns c outer cur wh inn f).2) := by
        have h0 : dropT i c = .nil := by
          have : blen (dropT i c) = 0 := by rw [dropT_len, ← HLen.out]; omega
          cases hd : dropT i c with
          | nil => rfl
          | node x y l c r => rw [hd] at this; simp [blen] at this
        have := HSe.out
        rw [h0] at this
        exact this
      go_wp2
      go_end0
      rw [← HE.out]
      exact ⟨rfl, HSt.out, HBel.out⟩
end Go.Proofs.YtgccmgjbbcndbaaGreatDoor
/- Walks of the checker: call, leave. -/
namespace Go.Proofs.YtgccmgjbbcndbaaGreatDoor
open Go.RowKit
open Go.Deep (BT)

theorem fnIx_of {w : World} {fns : List (Nm × Nat)} {fa : Option Addr} {s : Nm} {p : Option Addr} (h : NmIs w fns fa fns.length s p) (n : Nat) :
    (p = none ∧ callBad fns s n = true) ∨ (∃ pb pa m pc, p = some ⟨pb, 0, none⟩ ∧ callBad fns s n = (m != n) ∧ pb < w.heap.size ∧ w.cell? ⟨pb, 2, none⟩ = some (.slice pa m pc)) := by
  rcases h with ⟨e, hn⟩ | ⟨i, hi, pb, pa, pc, _, e, _, es, hn, lp, c2⟩
  · left
    refine ⟨e, ?_⟩
    unfold callBad
    rw [fnIx_none fns s (fun j hj => hn j hj hj)]
  · right
    refine ⟨pb, pa, fns[i].2, pc, e, ?_, lp, c2⟩
    unfold callBad
    rw [fnIx_at fns s i hi es hn]

set_option maxRecDepth 100000 in
set_option maxHeartbeats 1000000 in
theorem ccall_any (K : CC) (c : BT Lab) (hok : AllN (ExOK K) c) (hwf : Wf 0 c) (line : Nat) (s : Nm) (D : Nat → Prop) (w : World) (outer cur : List Nm) (bk : List Nat) (wh : Nat) (inn : Bool) (f : Flt) (rc : Nat) (b : Nat) (va : Option Addr) (vn vc : Nat) (ks : List Value)
    (hst : K.St D w (outer ++ cur) bk wh inn f rc) (hD : D b) (hblk : w.heap[b]? = some (.cells #[.int .i64 (line : Nat), .string ⟨s.toArray⟩, .slice va vn vc] 234 (0, 0))) (hown : OwnsD D w 144 1 (.slice va vn vc) ks.length ks) (hrep : RepC D w c ks) (hb : ks.length ≤ 500000) :
    Calls Tryz.prog 116 #[.pointer (some ⟨K.cb, 0, none⟩), .pointer (some ⟨b, 0, none⟩)] w fun e w' => e = .returned (.tuple #[]) ∧ K.St D w' (outer ++ cur) bk wh inn (sens K.fns c outer cur wh inn (wrongF (callBad K.fns s (blen c)) 3 line f)).2 rc ∧ BelD D w w' := by
  obtain ⟨hlo, lcb, hncb⟩ := hst.lo
  have hvn : vn = ks.length := (own_cells hown.1).1
  have hlen := hrep.len
  rw [← hlen]
  subst hvn
  obtain ⟨p, hp⟩ := hst.fr.find s K.fns.length (Nat.le_refl _)
  have hfl := hst.fr.len
  have HNm := hide (fun (n : Nat) => cnamed_at (hst.drewN n).fr K.fns.length (Nat.le_refl _) s p hp)
  have hfn := fnIx_of hp ks.length
  have HSt := hide hst
  have HOwn := hide hown
  have HRep := hide hrep
  have HBlk := hide hblk
  obtain ⟨na, nn, nc, ba, bn, bc, la, ln, lc, ls, hv⟩ := hst.st
  obtain ⟨c0, c1, c2, c3, c4, c5, c6, c7, fz, lb⟩ := blk8 hv.cell
  rw [hfl] at c0
  have d0 := cell_row hblk 0 _ rfl
  have d1 := cell_row hblk 1 _ rfl
  have d2 := cell_row hblk 2 _ rfl
  have ld := heap_lt hblk
  clear hst hown hrep hblk hp hv hlen
  have HRun := hide (fun (W : World) (g : Flt) (hs : K.St D W (outer ++ cur) bk wh inn g rc) (hbd : BelD D w W) => cexprs_any K c hok hwf D W outer cur bk wh inn g rc va ks.length vc ks hs (HOwn.out.beld hbd) (HRep.out.beld hbd) hb)
  rcases hfn with ⟨rfl, hcb⟩ | ⟨pb, pa, m, pc, rfl, hcb, lpb, cp⟩
  · rw [hcb]
    clear hcb hfl
    go_enter Tryz.func116, Tryz.ntmps116
    go_wp2
    go_quiet ((go_at_call 113; exact Calls.quiet_of_same (HNm.out _)))
    have HS1 := hide (HSt.out.drewN nq)
    have HB1 := hide (beld_drewN D w nq)
    have HBlk1 : Hid ((w.drewN nq).heap[b]? = _) := HBlk.out
    clear c0 c1 c2 c3 c4 c5 c6 c7 fz lb d0 d1 d2 ld
    generalize w.drewN nq = w1 at *
    have d0 := cell_row HBlk1.out 0 _ rfl
    have d1 := cell_row HBlk1.out 1 _ rfl
    have d2 := cell_row HBlk1.out 2 _ rfl
    have ld := heap_lt HBlk1.out
    go_wp2
    go_quiet (fail)
    have HS2 := hide (HS1.out.drewN nq)
    have HB2 : Hid (BelD D w (w1.drewN nq)) := HB1.out.trans (beld_drewN D w1 nq)
    have HBlk2 : Hid ((w1.drewN nq).heap[b]? = _) := HBlk1.out
    clear d0 d1 d2 ld
    generalize w1.drewN nq = w2 at *
    have d0 := cell_row HBlk2.out 0 _ rfl
    have d2 := cell_row HBlk2.out 2 _ rfl
    have ld := heap_lt HBlk2.out
    go_wp2_with fail
    refine (cfail_any HS2.out.st 3 line).mono ?_
    rintro e w3 ⟨rfl, hs3, hb3⟩
    have HS3 := hide (HS2.out.next hs3 hb3)
    have HB3 : Hid (BelD D w w3) := HB2.out.trans hb3
    have HBlk3 := hide ((hb3.block b hD).trans HBlk2.out)
    clear hs3 hb3 d0 d2 ld
    have d2 := cell_row HBlk3.out 2 _ rfl
    have ld := heap_lt HBlk3.out
    go_wp2_with fail
    refine (HRun.out _ _ HS3.out HB3.out).mono ?_
    rintro e w4 ⟨rfl, hs4, hb4⟩
    have HS4 := hide hs4
    have HB4 : Hid (BelD D w w4) := HB3.out.trans hb4
    clear hs4 hb4
    go_wp2
    go_end0
    exact ⟨rfl, HS4.out, HB4.out⟩
  · rw [hcb]
    clear hfl
    cases hm : (m != ks.length)
    · have tm : ((m : Int) != (ks.length : Int)) = false := by simp at hm ⊢; omega
      rw [wrongF_false]
      clear hcb hm
      go_enter Tryz.func116, Tryz.ntmps116
      go_wp2
      go_quiet ((go_at_call 113; exact Calls.quiet_of_same (HNm.out _)))
      have HS1 := hide (HSt.out.drewN nq)
      have HB1 := hide (beld_drewN D w nq)
      have HBlk1 : Hid ((w.drewN nq).heap[b]? = _) := HBlk.out
      have HCp : Hid ((w.drewN nq).cell? ⟨pb, 2, none⟩ = _) := cp
      have lpb1 : pb < (w.drewN nq).heap.size := lpb
      clear cp lpb
      clear c0 c1 c2 c3 c4 c5 c6 c7 fz lb d0 d1 d2 ld
      generalize w.drewN nq = w1 at *
      have d0 := cell_row HBlk1.out 0 _ rfl
      have d1 := cell_row HBlk1.out 1 _ rfl
      have d2 := cell_row HBlk1.out 2 _ rfl
      have ld := heap_lt HBlk1.out
      have cp := HCp.out
      go_wp2
      go_quiet (fail)
      have HS2 := hide (HS1.out.drewN nq)
      have HB2 : Hid (BelD D w (w1.drewN nq)) := HB1.out.trans (beld_drewN D w1 nq)
      have HBlk2 : Hid ((w1.drewN nq).heap[b]? = _) := HBlk1.out
      clear d0 d1 d2 ld cp lpb1 HCp
      generalize w1.drewN nq = w2 at *
      have d0 := cell_row HBlk2.out 0 _ rfl
      have d2 := cell_row HBlk2.out 2 _ rfl
      have ld := heap_lt HBlk2.out
      go_wp2_with fail
      refine (HRun.out _ _ HS2.out HB2.out).mono ?_
      rintro e w4 ⟨rfl, hs4, hb4⟩
      have HS4 := hide hs4
      have HB4 : Hid (BelD D w w4) := HB2.out.trans hb4
      clear hs4 hb4
      go_wp2
      go_end0
      exact ⟨rfl, HS4.out, HB4.out⟩
    · have tm : ((m : Int) != (ks.length : Int)) = true := by simp at hm ⊢; omega
      clear hcb hm
      go_enter Tryz.func116, Tryz.ntmps116
      go_wp2
      go_quiet ((go_at_call 113; exact Calls.quiet_of_same (HNm.out _)))
      have HS1 := hide (HSt.out.drewN nq)
      have HB1 := hide (beld_drewN D w nq)
      have HBlk1 : Hid ((w.drewN nq).heap[b]? = _) := HBlk.out
      have HCp : Hid ((w.drewN nq).cell? ⟨pb, 2, none⟩ = _) := cp
      have lpb1 : pb < (w.drewN nq).heap.size := lpb
      clear cp lpb
      clear c0 c1 c2 c3 c4 c5 c6 c7 fz lb d0 d1 d2 ld
      generalize w.drewN nq = w1 at *
      have d0 := cell_row HBlk1.out 0 _ rfl
      have d1 := cell_row HBlk1.out 1 _ rfl
      have d2 := cell_row HBlk1.out 2 _ rfl
      have ld := heap_lt HBlk1.out
      have cp := HCp.out
      go_wp2
      go_quiet (fail)
      have HS2 := hide (HS1.out.drewN nq)
      have HB2 : Hid (BelD D w (w1.drewN nq)) := HB1.out.trans (beld_drewN D w1 nq)
      have HBlk2 : Hid ((w1.drewN nq).heap[b]? = _) := HBlk1.out
      clear d0 d1 d2 ld cp lpb1 HCp
      generalize w1.drewN nq = w2 at *
      have d0 := cell_row HBlk2.out 0 _ rfl
      have d2 := cell_row HBlk2.out 2 _ rfl
      have ld := heap_lt HBlk2.out
      go_wp2_with fail
      refine (cfail_any HS2.out.st 3 line).mono ?_
      rintro e w3 ⟨rfl, hs3, hb3⟩
      have HS3 := hide (HS2.out.next hs3 hb3)
      have HB3 : Hid (BelD D w w3) := HB2.out.trans hb3
      have HBlk3 := hide ((hb3.block b hD).trans HBlk2.out)
      clear hs3 hb3 d0 d2 ld
      have d2 := cell_row HBlk3.out 2 _ rfl
      have ld := heap_lt HBlk3.out
      go_wp2_with fail
      refine (HRun.out _ _ HS3.out HB3.out).mono ?_
      rintro e w4 ⟨rfl, hs4, hb4⟩
      have HS4 := hide hs4
      have HB4 : Hid (BelD D w w4) := HB3.out.trans hb4
      clear hs4 hb4
      go_wp2
      go_end0
      exact ⟨rfl, HS4.out, HB4.out⟩
end Go.Proofs.YtgccmgjbbcndbaaGreatDoor
