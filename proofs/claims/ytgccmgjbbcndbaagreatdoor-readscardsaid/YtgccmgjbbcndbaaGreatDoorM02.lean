import Derived.Test.YtgccmgjbbcndbaaGreatDoorM01
import Derived.Deep.QuietTactic
import Derived.BigQuiet
/- The reader moves on, or meets a fault. -/
namespace Go.Proofs.YtgccmgjbbcndbaaGreatDoor
open Go.RowKit

theorem heap_set {w : World} {b j : Nat} {cs : Array Value} {t : TypeId} {fr : Nat × Nat} (h : w.heap[b]? = some (.cells cs t fr)) (u : Value) : (w.setCell ⟨b, j, none⟩ u).heap[b]? = some (.cells (cs.setIfInBounds j u) t fr) := by
  simp [World.setCell, Array.getElem?_modify, h]

theorem RSt.of_heap {b tb cap te : Nat} {xs : List (Tk × List UInt8)} {w w' : World} {s : PS} {pl : Nat} (h : RSt b tb cap te xs w s pl) (h1 : w'.heap[b]? = w.heap[b]?) (h2 : w'.heap[tb]? = w.heap[tb]?) : RSt b tb cap te xs w' s pl := by
  obtain ⟨cur, k1, k2⟩ := h.tok
  exact ⟨h.toks, h1.trans h.rd, ⟨cur, h2.trans k1, k2⟩, h.ne, h.lt, h.cap, h.good, h.bad⟩

theorem RSt.drew {b tb cap te : Nat} {xs : List (Tk × List UInt8)} {w : World} {s : PS} {pl : Nat} (h : RSt b tb cap te xs w s pl) : RSt b tb cap te xs w.drew s pl := h.of_heap rfl rfl

theorem RSt.setBad {b tb cap te : Nat} {xs : List (Tk × List UInt8)} {w : World} {s : PS} {pl : Nat} (h : RSt b tb cap te xs w s pl) (h0 : s.bad = 0) (ln : Nat) (hl : ln = (hdT s).line) :
    RSt b tb cap te xs (w.setCell ⟨b, 2, none⟩ (.int .i64 (ln : Nat))) (failS s) pl := by
  obtain ⟨cur, k1, k2⟩ := h.tok
  subst hl
  have hline := h.toks.line _ (List.getElem_mem h.lt)
  rw [← h.hd h0] at hline
  have hf : failS s = ⟨[endT], (hdT s).line⟩ := by unfold failS; rw [if_pos h0]
  rw [hf]
  exact ⟨h.toks, heap_set h.rd _, ⟨cur, (Below.heap_setCell _ _ _ _ h.ne).trans k1, k2⟩, h.ne, h.lt, h.cap, (fun e => by simp only at e; omega), (fun _ => ⟨rfl, hline.2.1⟩)⟩

theorem RSt.notEnd {b tb cap te : Nat} {xs : List (Tk × List UInt8)} {w : World} {s : PS} {pl : Nat} (h : RSt b tb cap te xs w s pl) (hk : kT s ≠ 0) : s.bad = 0 ∧ pl + 1 < xs.length := by
  by_cases h0 : s.bad = 0
  · refine ⟨h0, ?_⟩
    have := h.toks.last pl h.lt
    unfold kT at hk
    rw [h.hd h0] at hk
    have hlt := h.lt
    have hne : pl + 1 ≠ xs.length := fun e => hk (this.2 e)
    omega
  · exfalso; apply hk; unfold kT hdT; rw [(h.bad h0).1]; rfl

theorem RSt.move {b tb cap te : Nat} {xs : List (Tk × List UInt8)} {w : World} {s : PS} {pl : Nat} (h : RSt b tb cap te xs w s pl) (hk : kT s ≠ 0) (q : Int) (hq : q = (pl : Int) + 1) :
    RSt b tb cap te xs (w.setCell ⟨b, 1, none⟩ (.int .i64 q)) (takeS s) (pl + 1) := by
  obtain ⟨cur, k1, k2⟩ := h.tok
  obtain ⟨h0, hlt⟩ := h.notEnd hk
  subst hq
  have ht : takeS s = ⟨s.ts.tail, s.bad⟩ := by unfold takeS; rw [if_neg hk]
  rw [ht]
  refine ⟨h.toks, ?_, ⟨cur, (Below.heap_setCell _ _ _ _ h.ne).trans k1, k2⟩, h.ne, hlt, h.cap, (fun _ => ?_), (fun e => absurd h0 e)⟩
  · rw [heap_set h.rd]; simp
  · show s.ts.tail = _
    rw [h.good h0, List.drop_eq_getElem_cons h.lt]; rfl

theorem bad_le {b tb cap te : Nat} {xs : List (Tk × List UInt8)} {w : World} {s : PS} {pl : Nat} (h : RSt b tb cap te xs w s pl) : s.bad ≤ 100000 := by
  by_cases h0 : s.bad = 0
  · omega
  · exact (h.bad h0).2
theorem blk4 {w : World} {g : Nat} {a0 a1 a2 a3 : Value} {t : TypeId} (h : w.heap[g]? = some (.cells #[a0, a1, a2, a3] t (0, 0))) :
    w.cell? ⟨g, 0, none⟩ = some a0 ∧ w.cell? ⟨g, 1, none⟩ = some a1 ∧ w.cell? ⟨g, 2, none⟩ = some a2 ∧ w.cell? ⟨g, 3, none⟩ = some a3 ∧ (∀ o, w.frozen? ⟨g, o, none⟩ = false) ∧ g < w.heap.size :=
  ⟨cell_row h 0 _ rfl, cell_row h 1 _ rfl, cell_row h 2 _ rfl, cell_row h 3 _ rfl, frozen_row h, heap_lt h⟩
theorem blk6 {w : World} {g : Nat} {a0 a1 a2 a3 a4 a5 : Value} {t : TypeId} (h : w.heap[g]? = some (.cells #[a0, a1, a2, a3, a4, a5] t (0, 0))) :
    w.cell? ⟨g, 0, none⟩ = some a0 ∧ w.cell? ⟨g, 1, none⟩ = some a1 ∧ w.cell? ⟨g, 2, none⟩ = some a2 ∧ w.cell? ⟨g, 3, none⟩ = some a3 ∧ w.cell? ⟨g, 4, none⟩ = some a4 ∧ w.cell? ⟨g, 5, none⟩ = some a5 ∧ (∀ o, w.frozen? ⟨g, o, none⟩ = false) ∧ g < w.heap.size :=
  ⟨cell_row h 0 _ rfl, cell_row h 1 _ rfl, cell_row h 2 _ rfl, cell_row h 3 _ rfl, cell_row h 4 _ rfl, cell_row h 5 _ rfl, frozen_row h, heap_lt h⟩
theorem Only.blk {b : Nat} {w w' : World} (h : Only b w w') {g : Nat} {o : Obj} (hg : w.heap[g]? = some o) (hb : g ≠ b) : w'.heap[g]? = some o := (h.block g (heap_lt hg) hb).trans hg
theorem bblk {w w' : World} (h : Below w.heap.size w w') {g : Nat} {o : Obj} (hg : w.heap[g]? = some o) : w'.heap[g]? = some o := (h.block g (heap_lt hg)).trans hg
theorem alloc_old {w : World} {g : Nat} {o o' : Obj} (hg : w.heap[g]? = some o) : (w.alloc o').heap[g]? = some o := (Below.heap_alloc w o' g (heap_lt hg)).trans hg
theorem set_old {w : World} {g : Nat} {o : Obj} {p : Addr} {u : Value} (hg : w.heap[g]? = some o) (hp : g ≠ p.block) : (w.setCell p u).heap[g]? = some o := (Below.heap_setCell w p u g hp).trans hg
theorem RSt.alloc {b tb cap te : Nat} {xs : List (Tk × List UInt8)} {w : World} {s : PS} {pl : Nat} (h : RSt b tb cap te xs w s pl) (o : Obj) : RSt b tb cap te xs (w.alloc o) s pl := h.below ((Below.refl _ _).alloc (Nat.le_refl _) _)
theorem RSt.tbl {b tb cap te : Nat} {xs : List (Tk × List UInt8)} {w : World} {s : PS} {pl : Nat} (h : RSt b tb cap te xs w s pl) : tb < w.heap.size := by
  obtain ⟨cur, k1, _⟩ := h.tok; exact heap_lt k1
theorem RSt.other {b tb cap te : Nat} {xs : List (Tk × List UInt8)} {w : World} {s : PS} {pl : Nat} (h : RSt b tb cap te xs w s pl) {p : Addr} (h1 : b ≠ p.block) (h2 : tb ≠ p.block) (u : Value) : RSt b tb cap te xs (w.setCell p u) s pl :=
  h.of_heap (Below.heap_setCell _ _ _ _ h1) (Below.heap_setCell _ _ _ _ h2)
/- a state of the reader, wherever it stands -/
def RS (b tb cap te : Nat) (xs : List (Tk × List UInt8)) (w : World) (s : PS) : Prop := ∃ pl, RSt b tb cap te xs w s pl
theorem RS.alloc {b tb cap te : Nat} {xs : List (Tk × List UInt8)} {w : World} {s : PS} (h : RS b tb cap te xs w s) (o : Obj) : RS b tb cap te xs (w.alloc o) s := by
  obtain ⟨pl, h⟩ := h; exact ⟨pl, h.alloc o⟩
theorem RS.drew {b tb cap te : Nat} {xs : List (Tk × List UInt8)} {w : World} {s : PS} (h : RS b tb cap te xs w s) : RS b tb cap te xs w.drew s := by
  obtain ⟨pl, h⟩ := h; exact ⟨pl, h.drew⟩
theorem RS.other {b tb cap te : Nat} {xs : List (Tk × List UInt8)} {w : World} {s : PS} (h : RS b tb cap te xs w s) {p : Addr} (h1 : b ≠ p.block) (h2 : tb ≠ p.block) (u : Value) : RS b tb cap te xs (w.setCell p u) s := by
  obtain ⟨pl, h⟩ := h; exact ⟨pl, h.other h1 h2 u⟩
theorem RS.below {b tb cap te : Nat} {xs : List (Tk × List UInt8)} {w w' : World} {s : PS} (h : RS b tb cap te xs w s) (hb : Below w.heap.size w w') : RS b tb cap te xs w' s := by
  obtain ⟨pl, h⟩ := h; exact ⟨pl, h.below hb⟩
theorem RS.lt {b tb cap te : Nat} {xs : List (Tk × List UInt8)} {w : World} {s : PS} (h : RS b tb cap te xs w s) : b < w.heap.size ∧ tb < w.heap.size ∧ tb ≠ b := by
  obtain ⟨pl, h⟩ := h; exact ⟨heap_lt h.rd, h.tbl, h.ne⟩
theorem Only.set4 {b : Nat} {x w : World} (h : Only b x w) {g : Nat} (hg : x.heap.size ≤ g) (u0 u1 u2 u3 : Value) : Only b x ((((w.setCell ⟨g, 0, none⟩ u0).setCell ⟨g, 1, none⟩ u1).setCell ⟨g, 2, none⟩ u2).setCell ⟨g, 3, none⟩ u3) := (Only.set (p := ⟨g, 3, none⟩) (Only.set (p := ⟨g, 2, none⟩) (Only.set (p := ⟨g, 1, none⟩) (Only.set (p := ⟨g, 0, none⟩) h (.inr hg) u0) (.inr hg) u1) (.inr hg) u2) (.inr hg) u3)
theorem RS.other4 {b tb cap te : Nat} {xs : List (Tk × List UInt8)} {w : World} {s : PS} (h : RS b tb cap te xs w s) {g : Nat} (h1 : b ≠ g) (h2 : tb ≠ g) (u0 u1 u2 u3 : Value) : RS b tb cap te xs ((((w.setCell ⟨g, 0, none⟩ u0).setCell ⟨g, 1, none⟩ u1).setCell ⟨g, 2, none⟩ u2).setCell ⟨g, 3, none⟩ u3) s := (RS.other (p := ⟨g, 3, none⟩) (RS.other (p := ⟨g, 2, none⟩) (RS.other (p := ⟨g, 1, none⟩) (RS.other (p := ⟨g, 0, none⟩) h h1 h2 u0) h1 h2 u1) h1 h2 u2) h1 h2 u3)
theorem set4_old {w : World} {k g : Nat} {o : Obj} (hg : w.heap[k]? = some o) (hp : k ≠ g) (u0 u1 u2 u3 : Value) : ((((w.setCell ⟨g, 0, none⟩ u0).setCell ⟨g, 1, none⟩ u1).setCell ⟨g, 2, none⟩ u2).setCell ⟨g, 3, none⟩ u3).heap[k]? = some o := (set_old (p := ⟨g, 3, none⟩) (set_old (p := ⟨g, 2, none⟩) (set_old (p := ⟨g, 1, none⟩) (set_old (p := ⟨g, 0, none⟩) hg hp) hp) hp) hp)
theorem set4_new {w : World} {g : Nat} {z0 z1 z2 z3 : Value} {t : TypeId} {fr : Nat × Nat} (hg : w.heap[g]? = some (.cells #[z0, z1, z2, z3] t fr)) (u0 u1 u2 u3 : Value) : ((((w.setCell ⟨g, 0, none⟩ u0).setCell ⟨g, 1, none⟩ u1).setCell ⟨g, 2, none⟩ u2).setCell ⟨g, 3, none⟩ u3).heap[g]? = some (.cells #[u0, u1, u2, u3] t fr) := by
  have := (heap_set (j := 3) (heap_set (j := 2) (heap_set (j := 1) (heap_set (j := 0) hg u0) u1) u2) u3)
  simpa using this
theorem Only.set6 {b : Nat} {x w : World} (h : Only b x w) {g : Nat} (hg : x.heap.size ≤ g) (u0 u1 u2 u3 u4 u5 : Value) : Only b x ((((((w.setCell ⟨g, 0, none⟩ u0).setCell ⟨g, 1, none⟩ u1).setCell ⟨g, 2, none⟩ u2).setCell ⟨g, 3, none⟩ u3).setCell ⟨g, 4, none⟩ u4).setCell ⟨g, 5, none⟩ u5) := (Only.set (p := ⟨g, 5, none⟩) (Only.set (p := ⟨g, 4, none⟩) (Only.set (p := ⟨g, 3, none⟩) (Only.set (p := ⟨g, 2, none⟩) (Only.set (p := ⟨g, 1, none⟩) (Only.set (p := ⟨g, 0, none⟩) h (.inr hg) u0) (.inr hg) u1) (.inr hg) u2) (.inr hg) u3) (.inr hg) u4) (.inr hg) u5)
theorem RS.other6 {b tb cap te : Nat} {xs : List (Tk × List UInt8)} {w : World} {s : PS} (h : RS b tb cap te xs w s) {g : Nat} (h1 : b ≠ g) (h2 : tb ≠ g) (u0 u1 u2 u3 u4 u5 : Value) : RS b tb cap te xs ((((((w.setCell ⟨g, 0, none⟩ u0).setCell ⟨g, 1, none⟩ u1).setCell ⟨g, 2, none⟩ u2).setCell ⟨g, 3, none⟩ u3).setCell ⟨g, 4, none⟩ u4).setCell ⟨g, 5, none⟩ u5) s := (RS.other (p := ⟨g, 5, none⟩) (RS.other (p := ⟨g, 4, none⟩) (RS.other (p := ⟨g, 3, none⟩) (RS.other (p := ⟨g, 2, none⟩) (RS.other (p := ⟨g, 1, none⟩) (RS.other (p := ⟨g, 0, none⟩) h h1 h2 u0) h1 h2 u1) h1 h2 u2) h1 h2 u3) h1 h2 u4) h1 h2 u5)
theorem set6_old {w : World} {k g : Nat} {o : Obj} (hg : w.heap[k]? = some o) (hp : k ≠ g) (u0 u1 u2 u3 u4 u5 : Value) : ((((((w.setCell ⟨g, 0, none⟩ u0).setCell ⟨g, 1, none⟩ u1).setCell ⟨g, 2, none⟩ u2).setCell ⟨g, 3, none⟩ u3).setCell ⟨g, 4, none⟩ u4).setCell ⟨g, 5, none⟩ u5).heap[k]? = some o := (set_old (p := ⟨g, 5, none⟩) (set_old (p := ⟨g, 4, none⟩) (set_old (p := ⟨g, 3, none⟩) (set_old (p := ⟨g, 2, none⟩) (set_old (p := ⟨g, 1, none⟩) (set_old (p := ⟨g, 0, none⟩) hg hp) hp) hp) hp) hp) hp)
theorem set6_new {w : World} {g : Nat} {z0 z1 z2 z3 z4 z5 : Value} {t : TypeId} {fr : Nat × Nat} (hg : w.heap[g]? = some (.cells #[z0, z1, z2, z3, z4, z5] t fr)) (u0 u1 u2 u3 u4 u5 : Value) : ((((((w.setCell ⟨g, 0, none⟩ u0).setCell ⟨g, 1, none⟩ u1).setCell ⟨g, 2, none⟩ u2).setCell ⟨g, 3, none⟩ u3).setCell ⟨g, 4, none⟩ u4).setCell ⟨g, 5, none⟩ u5).heap[g]? = some (.cells #[u0, u1, u2, u3, u4, u5] t fr) := by
  have := (heap_set (j := 5) (heap_set (j := 4) (heap_set (j := 3) (heap_set (j := 2) (heap_set (j := 1) (heap_set (j := 0) hg u0) u1) u2) u3) u4) u5)
  simpa using this
theorem set4_same {w : World} {k g : Nat} (hp : k ≠ g) (u0 u1 u2 u3 : Value) : ((((w.setCell ⟨g, 0, none⟩ u0).setCell ⟨g, 1, none⟩ u1).setCell ⟨g, 2, none⟩ u2).setCell ⟨g, 3, none⟩ u3).heap[k]? = w.heap[k]? := by
  rw [Below.heap_setCell _ _ _ _ (by exact hp)]
  rw [Below.heap_setCell _ _ _ _ (by exact hp)]
  rw [Below.heap_setCell _ _ _ _ (by exact hp)]
  rw [Below.heap_setCell _ _ _ _ (by exact hp)]
theorem set6_same {w : World} {k g : Nat} (hp : k ≠ g) (u0 u1 u2 u3 u4 u5 : Value) : ((((((w.setCell ⟨g, 0, none⟩ u0).setCell ⟨g, 1, none⟩ u1).setCell ⟨g, 2, none⟩ u2).setCell ⟨g, 3, none⟩ u3).setCell ⟨g, 4, none⟩ u4).setCell ⟨g, 5, none⟩ u5).heap[k]? = w.heap[k]? := by
  rw [Below.heap_setCell _ _ _ _ (by exact hp)]
  rw [Below.heap_setCell _ _ _ _ (by exact hp)]
  rw [Below.heap_setCell _ _ _ _ (by exact hp)]
  rw [Below.heap_setCell _ _ _ _ (by exact hp)]
  rw [Below.heap_setCell _ _ _ _ (by exact hp)]
  rw [Below.heap_setCell _ _ _ _ (by exact hp)]
end Go.Proofs.YtgccmgjbbcndbaaGreatDoor
/- Walks of the reader's small functions: peek. -/
namespace Go.Proofs.YtgccmgjbbcndbaaGreatDoor
open Go.RowKit

set_option maxRecDepth 100000 in
set_option maxHeartbeats 1000000 in
theorem peek_any {b tb cap te : Nat} {xs : List (Tk × List UInt8)} {w : World} {s : PS} {pl : Nat} (h : RSt b tb cap te xs w s pl) :
    Calls Tryz.prog 19 #[.pointer (some ⟨b, 0, none⟩)] w fun e w' => ∃ S, e = .returned (.agg (tkC (hdT s, S)).toArray) ∧ ((hdT s).k ≠ 2 → S = refS (hdT s)) ∧ Below w.heap.size w w' := by
  obtain ⟨c0, c1, c2⟩ := h.cells
  have hbl := heap_lt h.rd
  by_cases h0 : s.bad = 0
  · have hlt := h.lt
    have hd : hdT s = xs[pl].1 := h.hd h0
    have HO := hide (h.toks.ok xs[pl] (by simp))
    have d0 := h.tkCell pl 0 hlt (by omega)
    have d1 := h.tkCell pl 1 hlt (by omega)
    have d2 := h.tkCell pl 2 hlt (by omega)
    have d3 := h.tkCell pl 3 hlt (by omega)
    have hfew := h.toks.few
    rw [tkC] at d0 d1 d2 d3
    simp only [Nat.add_zero, List.getElem?_cons_zero, List.getElem?_cons_succ] at d0 d1 d2 d3
    have HD := hide hd
    replace c2 : w.cell? ⟨b, 2, none⟩ = some (.int .i64 0) := by rw [c2, h0]; rfl
    obtain ⟨cur, ht, _⟩ := h.tok
    have htl := heap_lt ht
    clear h hd h0 ht
    generalize xs[pl] = x at *
    go_enter Tryz.func19, Tryz.ntmps19
    go_wp2
    go_region
    all_goals go_wp2
    refine bodyPost_ret (v := .agg (tkC x).toArray) (by simp [results, Tryz.results19, go_sem, tkC]) rfl ⟨x.2, ?_, ?_, ?_⟩
    · rw [HD.out]
    · rw [HD.out]; exact HO.out
    · repeat (first | exact Below.refl _ _ | refine Below.alloc ?_ (by simp) _ | refine Below.setCell ?_ (by simp) _ | refine Below.drew ?_)
  · have hb : s.bad ≤ 100000 := (h.bad h0).2
    have hts := hide (h.bad h0).1
    have h0' : 0 < (s.bad : Int) := by omega
    clear h h0
    go_enter Tryz.func19, Tryz.ntmps19
    go_wp2
    refine bodyPost_ret (v := .agg #[.int .u8 101, .string ⟨[].toArray⟩, .int .i64 0, .int .i64 0]) (by simp [results, Tryz.results19, go_sem]) rfl ⟨[], ?_, ?_, ?_⟩
    · simp only [hdT, hts.out]; rfl
    · intro _; simp only [hdT, hts.out]; rfl
    · repeat (first | exact Below.refl _ _ | refine Below.alloc ?_ (by simp) _ | refine Below.setCell ?_ (by simp) _ | refine Below.drew ?_)
end Go.Proofs.YtgccmgjbbcndbaaGreatDoor
/- Walks of the reader's small functions: no, is. -/
namespace Go.Proofs.YtgccmgjbbcndbaaGreatDoor
open Go.RowKit

set_option maxRecDepth 100000 in
set_option maxHeartbeats 1000000 in
theorem no_any {b tb cap te : Nat} {xs : List (Tk × List UInt8)} {w : World} {s : PS} {pl : Nat} (h : RSt b tb cap te xs w s pl) :
    Calls Tryz.prog 60 #[.pointer (some ⟨b, 0, none⟩)] w fun e w' => e = .returned (.tuple #[]) ∧ RSt b tb cap te xs w' (failS s) pl ∧ Only b w w' := by
  obtain ⟨c0, c1, c2⟩ := h.cells
  have hbl := heap_lt h.rd
  have hfz := frozen_row h.rd 2
  by_cases h0 : s.bad = 0
  · have hlt := h.lt
    have d3 := h.tkCell pl 3 hlt (by omega)
    have hfew := h.toks.few
    have HD : Hid (xs[pl].1.line = (hdT s).line) := by
      show _ = _
      rw [h.hd h0]
    rw [tkC] at d3
    simp only [List.getElem?_cons_zero, List.getElem?_cons_succ] at d3
    replace c2 : w.cell? ⟨b, 2, none⟩ = some (.int .i64 0) := by rw [c2, h0]; rfl
    obtain ⟨cur, ht, _⟩ := h.tok
    have htl := heap_lt ht
    have HB := hide (fun (w1 : World) (e : w1.heap = w.heap) => (h.of_heap (w' := w1) (by rw [e]) (by rw [e])).setBad h0 _ HD.out)
    have hne := h.ne
    clear h h0 ht
    generalize xs[pl].1.line = ln at *
    go_enter Tryz.func60, Tryz.ntmps60
    go_wp2
    go_region
    all_goals go_wp2
    all_goals go_end0
    all_goals exact ⟨rfl, (HB.out w rfl).drew, (Only.set (p := ⟨b, 2, none⟩) (Only.refl b w) (.inl rfl) _).drew⟩
  · have hb : s.bad ≤ 100000 := bad_le h
    have h0' : ((s.bad : Int) == 0) = false := by rw [beq_eq_false_iff_ne]; omega
    have HF : Hid (failS s = s) := by
      show _ = _
      unfold failS; rw [if_neg h0]
    have HB := hide h
    clear h h0
    go_enter Tryz.func60, Tryz.ntmps60
    go_wp2
    go_end0
    exact ⟨rfl, by rw [HF.out]; exact HB.out, Only.refl _ _⟩

theorem spell_inj : ∀ i, i ≤ 40 → ∀ j, j ≤ 40 → 4 ≤ i → 4 ≤ j → spell i = spell j → i = j := by decide +kernel

def wordy (k : Nat) : Bool := decide (4 ≤ k)

theorem refKind_cases (k : Nat) (h : k ≤ 40) : (4 ≤ k ∧ (k ≤ 17 → refKind k = 119) ∧ (18 ≤ k → refKind k = 115)) ∨ (k < 4 ∧ refKind k ≠ 119 ∧ refKind k ≠ 115) := by
  revert h; revert k; decide +kernel

set_option maxRecDepth 100000 in
set_option maxHeartbeats 1000000 in
theorem is_any {b tb cap te : Nat} {xs : List (Tk × List UInt8)} {w : World} {s : PS} {pl : Nat} (h : RSt b tb cap te xs w s pl) (k0 : Nat) (hk4 : 4 ≤ k0) (hk40 : k0 ≤ 40) (q : List UInt8) (hq : q = spell k0) :
    Calls Tryz.prog 20 #[.pointer (some ⟨b, 0, none⟩), .string ⟨q.toArray⟩] w fun e w' => e = .returned (.bool (kT s == k0)) ∧ Below w.heap.size w w' := by
  have hkk : kT s ≤ 40 := by
    unfold kT
    by_cases h0 : s.bad = 0
    · rw [h.hd h0]; exact (h.toks.line _ (List.getElem_mem h.lt)).2.2
    · unfold hdT; rw [(h.bad h0).1]; simp [endT]
  have hin := spell_inj (kT s) hkk k0 hk40
  rcases refKind_cases (kT s) hkk with ⟨h4, h17, h18⟩ | ⟨h4, hn1, hn2⟩
  · have hp := hide (peek_any h)
    have HS0 : Hid (refS (hdT s) = spell (kT s)) := by
      show _ = _
      unfold kT at h4 ⊢
      unfold refS; rw [if_neg (by omega)]
    have HQ : Hid ((spell (kT s) == q) = (kT s == k0)) := by
      show _ = _
      rw [hq, Bool.eq_iff_iff, beq_iff_eq, beq_iff_eq]
      exact ⟨fun e => hin h4 hk4 e, fun e => by rw [e]⟩
    have hk2 : (hdT s).k ≠ 2 := by unfold kT at h4; omega
    have HK : Hid (refKind (hdT s).k = 119 ∨ refKind (hdT s).k = 115) := by
      unfold kT at h4 h17 h18
      by_cases h' : (hdT s).k ≤ 17
      · exact .inl (h17 h')
      · exact .inr (h18 (by omega))
    have HK2 := hide hk2
    clear h hin h4 h17 h18 hkk hk2 hq
    go_enter Tryz.func20, Tryz.ntmps20
    go_wp2_with fail
    refine (hp.out).mono ?_
    rintro e w' ⟨S, rfl, hS, hb⟩
    rw [tkC_toArray]
    have hS' := (hS HK2.out).trans HS0.out
    clear hS
    have HT : Hid ((S == q) = (kT s == k0)) := by
      show _ = _
      rw [hS']; exact HQ.out
    clear hS'
    rcases HK.out with hk | hk
    · have t1 : (refKind (hdT s).k == 119) = true := by rw [hk]; rfl
      clear hk
      cases hc : kT s == k0
      all_goals
        have hT := HT.out.trans hc
        clear HT
        go_wp2
        go_ret
        exact ⟨ret_bool hc.symm, hb.alloc hb.size _⟩
    · have t1 : (refKind (hdT s).k == 119) = false := by rw [hk]; rfl
      have t2 : (refKind (hdT s).k == 115) = true := by rw [hk]; rfl
      clear hk
      cases hc : kT s == k0
      all_goals
        have hT := HT.out.trans hc
        clear HT
        go_wp2
        go_ret
        exact ⟨ret_bool hc.symm, hb.alloc hb.size _⟩
  · have t1 : (refKind (kT s) == 119) = false := by rw [beq_eq_false_iff_ne]; exact hn1
    have t2 : (refKind (kT s) == 115) = false := by rw [beq_eq_false_iff_ne]; exact hn2
    have HR : Hid ((kT s == k0) = false) := by
      show _ = _
      rw [beq_eq_false_iff_ne]; omega
    have hp := hide (peek_any h)
    have hkT : kT s = (hdT s).k := rfl
    rw [hkT] at t1 t2
    clear h hin hn1 hn2 h4 hkT hkk
    go_enter Tryz.func20, Tryz.ntmps20
    go_wp2_with fail
    refine (hp.out).mono ?_
    rintro e w' ⟨S, rfl, hS, hb⟩
    rw [tkC_toArray]
    have HS := hide hS
    clear hS
    go_wp2
    go_ret
    exact ⟨ret_bool HR.out.symm, hb.alloc hb.size _⟩
end Go.Proofs.YtgccmgjbbcndbaaGreatDoor
/- Walks of the reader's small functions: may, must, name. -/
namespace Go.Proofs.YtgccmgjbbcndbaaGreatDoor
open Go.RowKit

def mayS (k : Nat) (s : PS) : PS := if kT s = k then takeS s else s

set_option maxRecDepth 100000 in
set_option maxHeartbeats 1000000 in
theorem may_any {b tb cap te : Nat} {xs : List (Tk × List UInt8)} {w : World} {s : PS} {pl : Nat} (h : RSt b tb cap te xs w s pl) (k0 : Nat) (hk4 : 4 ≤ k0) (hk40 : k0 ≤ 40) (q : List UInt8) (hq : q = spell k0) :
    Calls Tryz.prog 39 #[.pointer (some ⟨b, 0, none⟩), .string ⟨q.toArray⟩] w fun e w' => e = .returned (.bool (kT s == k0)) ∧ (∃ pl', RSt b tb cap te xs w' (mayS k0 s) pl') ∧ Only b w w' := by
  have hp := hide (is_any h k0 hk4 hk40 q hq)
  clear hq
  have hfew := h.toks.few
  have hlt := h.lt
  cases hc : kT s == k0
  · have HM : Hid (mayS k0 s = s) := by
      show _ = _
      unfold mayS; rw [if_neg (by simpa using hc)]
    have HH := hide h
    clear h
    go_enter Tryz.func39, Tryz.ntmps39
    go_wp2_with fail
    refine (hp.out).mono ?_
    rintro e w' ⟨rfl, hb⟩
    rw [hc]
    go_wp2
    go_ret
    exact ⟨rfl, ⟨pl, by rw [HM.out]; exact HH.out.below hb⟩, Below.only hb⟩
  · have hkk : kT s = k0 := by simpa using hc
    have HM : Hid (mayS k0 s = takeS s) := by
      show _ = _
      unfold mayS; rw [if_pos hkk]
    have HH := hide h
    have HK : Hid (kT s ≠ 0) := by show _ ≠ _; omega
    clear h hkk
    go_enter Tryz.func39, Tryz.ntmps39
    go_wp2_with fail
    refine (hp.out).mono ?_
    rintro e w' ⟨rfl, hb⟩
    rw [hc]
    have h' := HH.out.below hb
    obtain ⟨c0, c1, c2⟩ := h'.cells
    have hbl := heap_lt h'.rd
    have hfz := frozen_row h'.rd 1
    have HH' := hide h'
    clear h' c0 c2
    go_wp2
    go_ret
    exact ⟨rfl, ⟨pl + 1, by rw [HM.out]; exact HH'.out.move HK.out _ rfl⟩, Only.set (p := ⟨b, 1, none⟩) (Below.only hb) (.inl rfl) _⟩

set_option maxRecDepth 100000 in
set_option maxHeartbeats 1000000 in
theorem must_any {b tb cap te : Nat} {xs : List (Tk × List UInt8)} {w : World} {s : PS} {pl : Nat} (h : RSt b tb cap te xs w s pl) (k0 : Nat) (hk4 : 4 ≤ k0) (hk40 : k0 ≤ 40) (q : List UInt8) (hq : q = spell k0) :
    Calls Tryz.prog 37 #[.pointer (some ⟨b, 0, none⟩), .string ⟨q.toArray⟩] w fun e w' => e = .returned (.tuple #[]) ∧ (∃ pl', RSt b tb cap te xs w' (wantS k0 s) pl') ∧ Only b w w' := by
  have hp := hide (may_any h k0 hk4 hk40 q hq)
  clear hq
  cases hc : kT s == k0
  · have HM : Hid (mayS k0 s = s ∧ wantS k0 s = failS s) := by
      unfold mayS wantS; rw [if_neg (by simpa using hc), if_neg (by simpa using hc)]; exact ⟨rfl, rfl⟩
    clear h
    go_enter Tryz.func37, Tryz.ntmps37
    go_wp2_with fail
    refine (hp.out).mono ?_
    rintro e w' ⟨rfl, ⟨pl', hr⟩, hb⟩
    rw [hc]
    rw [HM.out.1] at hr
    have hn := hide (no_any hr)
    clear hr
    go_wp2_with fail
    refine (hn.out).mono ?_
    rintro e w2 ⟨rfl, hr, hb2⟩
    go_wp2
    go_end0
    exact ⟨rfl, ⟨pl', by rw [HM.out.2]; exact hr⟩, hb.trans hb2⟩
  · have HM : Hid (mayS k0 s = wantS k0 s) := by
      unfold mayS wantS; rw [if_pos (by simpa using hc), if_pos (by simpa using hc)]; exact rfl
    clear h
    go_enter Tryz.func37, Tryz.ntmps37
    go_wp2_with fail
    refine (hp.out).mono ?_
    rintro e w' ⟨rfl, ⟨pl', hr⟩, hb⟩
    rw [hc]
    rw [HM.out] at hr
    have HR := hide hr
    clear hr
    go_wp2
    go_end0
    exact ⟨rfl, ⟨pl', HR.out⟩, hb⟩
end Go.Proofs.YtgccmgjbbcndbaaGreatDoor
/- Walks of the reader's small functions: name. -/
namespace Go.Proofs.YtgccmgjbbcndbaaGreatDoor
open Go.RowKit

theorem refKind_110 (k : Nat) (h : k ≤ 40) : (refKind k != 110) = (k != 1) := by
  revert h; revert k; decide +kernel

theorem RSt.k40 {b tb cap te : Nat} {xs : List (Tk × List UInt8)} {w : World} {s : PS} {pl : Nat} (h : RSt b tb cap te xs w s pl) : kT s ≤ 40 := by
  unfold kT
  by_cases h0 : s.bad = 0
  · rw [h.hd h0]; exact (h.toks.line _ (List.getElem_mem h.lt)).2.2
  · unfold hdT; rw [(h.bad h0).1]; simp [endT]

set_option maxRecDepth 100000 in
set_option maxHeartbeats 1000000 in
theorem name_any {b tb cap te : Nat} {xs : List (Tk × List UInt8)} {w : World} {s : PS} {pl : Nat} (h : RSt b tb cap te xs w s pl) :
    Calls Tryz.prog 38 #[.pointer (some ⟨b, 0, none⟩)] w fun e w' => (∃ S, e = .returned (.agg (tkC (hdT s, S)).toArray) ∧ ((hdT s).k ≠ 2 → S = refS (hdT s))) ∧ RS b tb cap te xs w' (wantS 1 s) ∧ Only b w w' := by
  have hbl := heap_lt h.rd
  have htl := h.tbl
  have h1 : RSt b tb cap te xs (w.alloc (.cells #[.int .u8 0, .string ⟨#[]⟩, .int .i64 0, .int .i64 0] 79)) s pl := h.below ((Below.refl _ _).alloc (Nat.le_refl _) _)
  have hp := hide (peek_any h1)
  have hkind := refKind_110 (kT s) h.k40
  have hfew := h.toks.few
  have hlt := h.lt
  cases hc : kT s == 1
  · have t1 : (refKind (hdT s).k != 110) = true := by
      show (refKind (kT s) != 110) = true
      rw [hkind, bne, hc]; rfl
    have HM : Hid (wantS 1 s = failS s) := by
      unfold wantS; rw [if_neg (by simpa using hc)]; exact rfl
    have HH := hide h1
    clear h h1 hkind
    go_enter Tryz.func38, Tryz.ntmps38
    go_wp2_with fail
    refine (hp.out).mono ?_
    rintro e w' ⟨S, rfl, hS, hb⟩
    rw [tkC_toArray]
    have HS := hide hS
    have hz := bblk hb (heap_alloc_new w _)
    have hn := hide (no_any ((HH.out.below hb).alloc (.cells #[.int .u8 (refKind (hdT s).k), .string ⟨S.toArray⟩, .int .i64 (hdT s).n, .int .i64 ((hdT s).line : Nat)] 79)))
    have HZ := hide hz
    clear hS hz
    go_wp2_with fail
    refine (hn.out).mono ?_
    rintro e w2 ⟨rfl, hr, hb2⟩
    have hz2 := hb2.blk (alloc_old HZ.out) (by omega)
    have hy2 := hb2.blk (heap_alloc_new w' _) (by have := heap_lt HZ.out; omega)
    obtain ⟨c0, c1, c2, c3, f0, l0⟩ := blk4 hz2
    obtain ⟨d0, d1, d2, d3, f1, l1⟩ := blk4 hy2
    have hne : w.heap.size ≠ w'.heap.size := by have := heap_lt HZ.out; omega
    clear hz2 hy2
    have HR := hide hr
    clear hr
    go_wp2
    refine bodyPost_ret (v := .agg #[.int .u8 (refKind (hdT s).k), .string ⟨S.toArray⟩, .int .i64 (hdT s).n, .int .i64 ((hdT s).line : Nat)]) (by simp [results, Tryz.results38, go_sem, c0, c1, c2, c3]) rfl ⟨⟨S, rfl, HS.out⟩, ?_, ?_⟩
    · rw [HM.out]
      exact RS.other4 ⟨pl, HR.out⟩ (by omega) (by omega) _ _ _ _
    · have hO : Only b w w2 := (Only.alloc (Only.trans (Only.alloc (Only.refl b w) _) (Below.only hb)) _).trans hb2
      exact Only.set4 hO (Nat.le_refl _) _ _ _ _
  · have hkk : kT s = 1 := by simpa using hc
    have t1 : (refKind (hdT s).k != 110) = false := by
      show (refKind (kT s) != 110) = false
      rw [hkind, hkk]; rfl
    have HM : Hid (wantS 1 s = takeS s) := by
      unfold wantS; rw [if_pos hkk]; exact rfl
    have HK : Hid (kT s ≠ 0) := by show _ ≠ _; omega
    have HH := hide h1
    clear h h1 hkind hkk
    go_enter Tryz.func38, Tryz.ntmps38
    go_wp2_with fail
    refine (hp.out).mono ?_
    rintro e w' ⟨S, rfl, hS, hb⟩
    rw [tkC_toArray]
    have HS := hide hS
    have hz := bblk hb (heap_alloc_new w _)
    obtain ⟨c0, c1, c2, c3, f0, l0⟩ := blk4 hz
    have h3 := HH.out.below hb
    obtain ⟨e0, e1, e2⟩ := h3.cells
    have f1 := frozen_row h3.rd
    have lb := heap_lt h3.rd
    have HR := hide (h3.move HK.out _ rfl)
    have hne : b ≠ w.heap.size := by omega
    clear hS hz h3 e0 e2
    go_wp2
    refine bodyPost_ret (v := .agg #[.int .u8 (refKind (hdT s).k), .string ⟨S.toArray⟩, .int .i64 (hdT s).n, .int .i64 ((hdT s).line : Nat)]) (by simp [results, Tryz.results38, go_sem, c0, c1, c2, c3, l0]) rfl ⟨⟨S, rfl, HS.out⟩, ?_, ?_⟩
    · rw [HM.out]
      exact (RS.other4 ⟨pl + 1, HR.out⟩ (by omega) (by omega) _ _ _ _).alloc _
    · have hO : Only b w w' := Only.trans (Only.alloc (Only.refl b w) _) (Below.only hb)
      exact (Only.set4 (Only.set (p := ⟨b, 1, none⟩) hO (.inl rfl) _) (Nat.le_refl _) _ _ _ _).alloc _
end Go.Proofs.YtgccmgjbbcndbaaGreatDoor
/- The reader's small functions at a state, wherever it stands; what the greater ones answer. -/
namespace Go.Proofs.YtgccmgjbbcndbaaGreatDoor
open Go.RowKit
open Go.Deep (BT)

theorem peek_rs {b tb cap te : Nat} {xs : List (Tk × List UInt8)} {w : World} {s : PS} (h : RS b tb cap te xs w s) :
    Calls Tryz.prog 19 #[.pointer (some ⟨b, 0, none⟩)] w fun e w' => ∃ S, e = .returned (.agg #[.int .u8 (refKind (kT s)), .string ⟨S.toArray⟩, .int .i64 (hdT s).n, .int .i64 ((hdT s).line : Nat)]) ∧ ((hdT s).k ≠ 2 → S = refS (hdT s)) ∧ RS b tb cap te xs w' s ∧ Below w.heap.size w w' := by
  obtain ⟨pl, h⟩ := h
  refine (peek_any h).mono ?_
  rintro e w' ⟨S, rfl, hS, hb⟩
  exact ⟨S, rfl, hS, ⟨pl, h.below hb⟩, hb⟩
theorem is_rs {b tb cap te : Nat} {xs : List (Tk × List UInt8)} {w : World} {s : PS} (h : RS b tb cap te xs w s) (k0 : Nat) (hk4 : 4 ≤ k0) (hk40 : k0 ≤ 40) (q : List UInt8) (hq : q = spell k0) :
    Calls Tryz.prog 20 #[.pointer (some ⟨b, 0, none⟩), .string ⟨q.toArray⟩] w fun e w' => e = .returned (.bool (kT s == k0)) ∧ RS b tb cap te xs w' s ∧ Below w.heap.size w w' := by
  obtain ⟨pl, h⟩ := h
  refine (is_any h k0 hk4 hk40 q hq).mono ?_
  rintro e w' ⟨rfl, hb⟩
  exact ⟨rfl, ⟨pl, h.below hb⟩, hb⟩
theorem may_rs {b tb cap te : Nat} {xs : List (Tk × List UInt8)} {w : World} {s : PS} (h : RS b tb cap te xs w s) (k0 : Nat) (hk4 : 4 ≤ k0) (hk40 : k0 ≤ 40) (q : List UInt8) (hq : q = spell k0) :
    Calls Tryz.prog 39 #[.pointer (some ⟨b, 0, none⟩), .string ⟨q.toArray⟩] w fun e w' => e = .returned (.bool (kT s == k0)) ∧ RS b tb cap te xs w' (mayS k0 s) ∧ Only b w w' := by
  obtain ⟨pl, h⟩ := h
  exact may_any h k0 hk4 hk40 q hq
theorem must_rs {b tb cap te : Nat} {xs : List (Tk × List UInt8)} {w : World} {s : PS} (h : RS b tb cap te xs w s) (k0 : Nat) (hk4 : 4 ≤ k0) (hk40 : k0 ≤ 40) (q : List UInt8) (hq : q = spell k0) :
    Calls Tryz.prog 37 #[.pointer (some ⟨b, 0, none⟩), .string ⟨q.toArray⟩] w fun e w' => e = .returned (.tuple #[]) ∧ RS b tb cap te xs w' (wantS k0 s) ∧ Only b w w' := by
  obtain ⟨pl, h⟩ := h
  exact must_any h k0 hk4 hk40 q hq
theorem name_rs {b tb cap te : Nat} {xs : List (Tk × List UInt8)} {w : World} {s : PS} (h : RS b tb cap te xs w s) :
    Calls Tryz.prog 38 #[.pointer (some ⟨b, 0, none⟩)] w fun e w' => (∃ S, e = .returned (.agg #[.int .u8 (refKind (kT s)), .string ⟨S.toArray⟩, .int .i64 (hdT s).n, .int .i64 ((hdT s).line : Nat)]) ∧ ((hdT s).k ≠ 2 → S = refS (hdT s))) ∧ RS b tb cap te xs w' (wantS 1 s) ∧ Only b w w' := by
  obtain ⟨pl, h⟩ := h
  exact name_any h
theorem no_rs {b tb cap te : Nat} {xs : List (Tk × List UInt8)} {w : World} {s : PS} (h : RS b tb cap te xs w s) :
    Calls Tryz.prog 60 #[.pointer (some ⟨b, 0, none⟩)] w fun e w' => e = .returned (.tuple #[]) ∧ RS b tb cap te xs w' (failS s) ∧ Only b w w' := by
  obtain ⟨pl, h⟩ := h
  refine (no_any h).mono ?_
  rintro e w' ⟨rfl, h1, h2⟩
  exact ⟨rfl, ⟨pl, h1⟩, h2⟩

/- a node's six cells -/
def ndC (I S : List UInt8) (ln nn : Int) (va : Option Addr) (vn vc : Nat) (pa : Option Addr) (pn pc : Nat) : Array Value := #[.string ⟨I.toArray⟩, .int .i64 ln, .string ⟨S.toArray⟩, .int .i64 nn, .slice va vn vc, .slice pa pn pc]
def NodePost (b tb cap te : Nat) (xs : List (Tk × List UInt8)) (w : World) (r : BT Lab × PS) (e : Ending) (w' : World) : Prop :=
  ∃ (I S : List UInt8) (ln nn : Int) (va : Option Addr) (vn vc : Nat) (pa : Option Addr) (pn pc : Nat), e = .returned (.agg #[.string ⟨I.toArray⟩, .int .i64 ln, .string ⟨S.toArray⟩, .int .i64 nn, .slice va vn vc, .slice pa pn pc]) ∧
    RS b tb cap te xs w' r.2 ∧ Only b w w' ∧ (r.2.bad = 0 → blen r.1 = 1 ∧ RepF (fun g => w.heap.size ≤ g) w' r.1 (ndC I S ln nn va vn vc pa pn pc).toList)
def ListPost (b tb cap te : Nat) (xs : List (Tk × List UInt8)) (w : World) (r : BT Lab × PS) (e : Ending) (w' : World) : Prop :=
  ∃ (va : Option Addr) (vn vc : Nat) (n : Nat) (cs : List Value), e = .returned (.slice va vn vc) ∧ OwnsD (fun g => w.heap.size ≤ g) w' 41 6 (.slice va vn vc) n cs ∧ n ≤ 600000 ∧
    RS b tb cap te xs w' r.2 ∧ Only b w w' ∧ (r.2.bad = 0 → n = blen r.1 ∧ RepF (fun g => w.heap.size ≤ g) w' r.1 cs)

structure RefPars (b tb cap te : Nat) (xs : List (Tk × List UInt8)) (n : Nat) : Prop where
  expr : ∀ (w : World) (s : PS) (a : Nat) (q : Int) (r : BT Lab × PS), a ≤ 6 → q = a → RS b tb cap te xs w s → pars n 0 a .nil s = some r → Calls Tryz.prog 42 #[.pointer (some ⟨b, 0, none⟩), .int .i64 q] w (NodePost b tb cap te xs w r)
  unary : ∀ (w : World) (s : PS) (r : BT Lab × PS), RS b tb cap te xs w s → pars n 2 0 .nil s = some r → Calls Tryz.prog 62 #[.pointer (some ⟨b, 0, none⟩)] w (NodePost b tb cap te xs w r)
  atom : ∀ (w : World) (s : PS) (r : BT Lab × PS), RS b tb cap te xs w s → pars n 4 0 .nil s = some r → Calls Tryz.prog 85 #[.pointer (some ⟨b, 0, none⟩)] w (NodePost b tb cap te xs w r)
  list : ∀ (w : World) (s : PS) (k : Nat) (q : List UInt8) (r : BT Lab × PS), (k = 19 ∨ k = 23) → q = spell k → RS b tb cap te xs w s → pars n 5 k .nil s = some r → Calls Tryz.prog 105 #[.pointer (some ⟨b, 0, none⟩), .string ⟨q.toArray⟩] w (ListPost b tb cap te xs w r)
  block : ∀ (w : World) (s : PS) (r : BT Lab × PS), RS b tb cap te xs w s → pars n 7 0 .nil s = some r → Calls Tryz.prog 40 #[.pointer (some ⟨b, 0, none⟩)] w (ListPost b tb cap te xs w r)
  stmt : ∀ (w : World) (s : PS) (r : BT Lab × PS), RS b tb cap te xs w s → pars n 9 0 .nil s = some r → Calls Tryz.prog 22 #[.pointer (some ⟨b, 0, none⟩)] w (NodePost b tb cap te xs w r)

def rowTexts : Array Value := #[.string ⟨#[32, 124, 124, 32]⟩, .string ⟨#[32, 38, 38, 32]⟩, .string ⟨#[32, 61, 61, 32, 33, 61, 32]⟩, .string ⟨#[32, 60, 32, 60, 61, 32, 62, 32, 62, 61, 32]⟩, .string ⟨#[32, 43, 32, 45, 32]⟩, .string ⟨#[32, 42, 32, 47, 32, 37, 32]⟩]

set_option maxRecDepth 100000 in
set_option maxHeartbeats 1000000 in
theorem rows_any (w : World) : Calls Tryz.prog 61 #[] w fun e w' => e = .returned (.slice (some ⟨w.heap.size, 0, none⟩) 6 6) ∧ w' = w.alloc (.cells rowTexts 9) := by
  go_enter Tryz.func61, Tryz.ntmps61
  go_wp2
  go_ret
  exact ⟨rfl, rfl⟩
end Go.Proofs.YtgccmgjbbcndbaaGreatDoor
/- Plain mathematics: one step of the parser. -/
namespace Go.Proofs.YtgccmgjbbcndbaaGreatDoor
open Go.Deep (BT)

theorem bind_some {α β : Type} {o : Option α} {f : α → Option β} {r : β} (h : o.bind f = some r) : ∃ x, o = some x ∧ f x = some r := by
  cases o with
  | none => cases h
  | some x => exact ⟨x, rfl, h⟩

theorem pars_zero (t a : Nat) (acc : BT Lab) (s : PS) (r : BT Lab × PS) : pars 0 t a acc s ≠ some r := by intro h; rw [pars] at h; cases h

theorem pars_expr6 {n : Nat} {s : PS} {r : BT Lab × PS} (h : pars (n + 1) 0 6 .nil s = some r) : pars n 2 0 .nil s = some r := by
  rw [pars, if_pos rfl, if_pos rfl] at h; exact h
theorem pars_expr {n a : Nat} {s : PS} {r : BT Lab × PS} (ha : a ≠ 6) (h : pars (n + 1) 0 a .nil s = some r) : ∃ x, pars n 0 (a + 1) .nil s = some x ∧ pars n 1 a x.1 x.2 = some r := by
  rw [pars, if_pos rfl, if_neg ha] at h; exact bind_some h
theorem pars_loop1 {n a : Nat} {acc : BT Lab} {s : PS} {r : BT Lab × PS} (hk : rowOf (kT s) = a + 1) (h : pars (n + 1) 1 a acc s = some r) :
    ∃ y, pars n 0 (a + 1) .nil (takeS s) = some y ∧ pars n 1 a (nd (lab0 (100 + kT s) (hdT s).line) (bapp acc y.1)) y.2 = some r := by
  rw [pars, if_neg (by decide), if_pos rfl, if_pos hk] at h; exact bind_some h
theorem pars_loop0 {n a : Nat} {acc : BT Lab} {s : PS} {r : BT Lab × PS} (hk : rowOf (kT s) ≠ a + 1) (h : pars (n + 1) 1 a acc s = some r) : r = (acc, s) := by
  rw [pars, if_neg (by decide), if_pos rfl, if_neg hk] at h; cases h; rfl
theorem pars_not {n : Nat} {s : PS} {r : BT Lab × PS} (hk : kT s = 28) (h : pars (n + 1) 2 0 .nil s = some r) : ∃ x, pars n 2 0 .nil (takeS s) = some x ∧ r = (nd (lab0 13 (hdT s).line) x.1, x.2) := by
  rw [pars, if_neg (by decide), if_neg (by decide), if_pos rfl, if_pos hk] at h
  obtain ⟨x, h1, h2⟩ := bind_some h; exact ⟨x, h1, (Option.some.inj h2).symm⟩
theorem pars_neg {n : Nat} {s : PS} {r : BT Lab × PS} (hk : kT s = 35) (h : pars (n + 1) 2 0 .nil s = some r) : ∃ x, pars n 2 0 .nil (takeS s) = some x ∧ r = (nd (lab0 14 (hdT s).line) x.1, x.2) := by
  rw [pars, if_neg (by decide), if_neg (by decide), if_pos rfl, if_neg (by omega), if_pos hk] at h
  obtain ⟨x, h1, h2⟩ := bind_some h; exact ⟨x, h1, (Option.some.inj h2).symm⟩
theorem pars_part {n : Nat} {s : PS} {r : BT Lab × PS} (h1 : kT s ≠ 28) (h2 : kT s ≠ 35) (h : pars (n + 1) 2 0 .nil s = some r) : ∃ x, pars n 4 0 .nil s = some x ∧ pars n 3 0 x.1 x.2 = some r := by
  rw [pars, if_neg (by decide), if_neg (by decide), if_pos rfl, if_neg h1, if_neg h2] at h
  exact bind_some h
theorem pars_index {n : Nat} {acc : BT Lab} {s : PS} {r : BT Lab × PS} (hk : kT s = 22) (h : pars (n + 1) 3 0 acc s = some r) :
    ∃ y, pars n 0 0 .nil (takeS s) = some y ∧ pars n 3 0 (nd (lab0 12 (hdT s).line) (bapp acc y.1)) (wantS 23 y.2) = some r := by
  rw [pars, if_neg (by decide), if_neg (by decide), if_neg (by decide), if_pos rfl, if_pos hk] at h
  exact bind_some h
theorem pars_index0 {n : Nat} {acc : BT Lab} {s : PS} {r : BT Lab × PS} (hk : kT s ≠ 22) (h : pars (n + 1) 3 0 acc s = some r) : r = (acc, s) := by
  rw [pars, if_neg (by decide), if_neg (by decide), if_neg (by decide), if_pos rfl, if_neg hk] at h
  exact (Option.some.inj h).symm
theorem pars_list0 {n a : Nat} {s : PS} {r : BT Lab × PS} (hk : kT s = a) (h : pars (n + 1) 5 a .nil s = some r) : r = (.nil, takeS s) := by
  rw [pars, if_neg (by decide), if_neg (by decide), if_neg (by decide), if_neg (by decide), if_neg (by decide), if_pos rfl, if_pos hk] at h
  exact (Option.some.inj h).symm
theorem pars_list1 {n a : Nat} {s : PS} {r : BT Lab × PS} (hk : kT s ≠ a) (h : pars (n + 1) 5 a .nil s = some r) : (pars n 0 0 .nil s).bind (fun y => pars n 6 a (bapp .nil y.1) y.2) = some r := by
  rw [pars, if_neg (by decide), if_neg (by decide), if_neg (by decide), if_neg (by decide), if_neg (by decide), if_pos rfl, if_neg hk] at h
  exact h
theorem pars_more {n a : Nat} {acc : BT Lab} {s : PS} {r : BT Lab × PS} (hk : kT s = 24) (h : pars (n + 1) 6 a acc s = some r) : (pars n 0 0 .nil (takeS s)).bind (fun y => pars n 6 a (bapp acc y.1) y.2) = some r := by
  rw [pars, if_neg (by decide), if_neg (by decide), if_neg (by decide), if_neg (by decide), if_neg (by decide), if_neg (by decide), if_pos rfl, if_pos hk] at h
  exact h
theorem pars_last {n a : Nat} {acc : BT Lab} {s : PS} {r : BT Lab × PS} (hk : kT s ≠ 24) (h : pars (n + 1) 6 a acc s = some r) : r = (acc, wantS a s) := by
  rw [pars, if_neg (by decide), if_neg (by decide), if_neg (by decide), if_neg (by decide), if_neg (by decide), if_neg (by decide), if_pos rfl, if_neg hk] at h
  exact (Option.some.inj h).symm

theorem bad_k {s : PS} (h : s.ts = [endT]) : kT s = 0 := by unfold kT hdT; rw [h]; rfl
theorem bad_fail {s : PS} (h : s.bad ≠ 0) : failS s = s := by unfold failS; rw [if_neg h]
theorem bad_take {s : PS} (h : s.ts = [endT]) : takeS s = s := by unfold takeS; rw [if_pos (bad_k h)]
theorem bad_want {s : PS} (k : Nat) (h : s.ts = [endT]) (hb : s.bad ≠ 0) : wantS k s = s := by
  unfold wantS; split
  · exact bad_take h
  · exact bad_fail hb
theorem prms_sticky {s : PS} (h : s.ts = [endT]) (hb : s.bad ≠ 0) : ∀ n acc r, prms n acc s = some r → r.2 = s := by
  intro n
  induction n with
  | zero => intro acc r hr; rw [prms] at hr; cases hr
  | succ n ih =>
    intro acc r hr
    rw [prms, bad_want 1 h hb, if_neg (by rw [bad_k h]; decide)] at hr
    have := (Option.some.inj hr).symm
    rw [this, bad_want 19 h hb]
theorem params_sticky {s : PS} (h : s.ts = [endT]) (hb : s.bad ≠ 0) (n : Nat) (r : List (Nat × List UInt8) × PS) (hr : params n s = some r) : r.2 = s := by
  unfold params at hr
  rw [if_neg (by rw [bad_k h]; decide)] at hr
  exact prms_sticky h hb n [] r hr

theorem bind_sticky {α β : Type} {o : Option (α × PS)} {f : α × PS → Option (β × PS)} {s : PS} {r : β × PS} (h : o.bind f = some r) (h1 : ∀ x, o = some x → x.2 = s) (h2 : ∀ x, o = some x → x.2 = s → f x = some r → r.2 = s) : r.2 = s := by
  obtain ⟨x, k1, k2⟩ := bind_some h
  exact h2 x k1 (h1 x k1) k2

set_option maxHeartbeats 1000000 in
theorem pars_sticky {s : PS} (h : s.ts = [endT]) (hb : s.bad ≠ 0) : ∀ n t a acc r, pars n t a acc s = some r → r.2 = s := by
  intro n
  have k0 : kT s = 0 := bad_k h
  have e1 := bad_take h
  have e2 := bad_fail hb
  have e3 := fun k => bad_want k h hb
  induction n with
  | zero => intro t a acc r hr; rw [pars] at hr; cases hr
  | succ n ih =>
    intro t a acc r hr
    rw [pars] at hr
    simp only [k0, e1, e2, e3] at hr
    have two : ∀ {t1 a1 : Nat} {acc1 : BT Lab} {f : BT Lab × PS → Option (BT Lab × PS)}, (pars n t1 a1 acc1 s).bind f = some r → (∀ x, x.2 = s → f x = some r → r.2 = s) → r.2 = s :=
      fun hh hf => bind_sticky hh (fun x hx => ih _ _ _ _ hx) (fun x _ hxs hfx => hf x hxs hfx)
    have fin : ∀ {y : BT Lab} {s' : PS}, some (y, s') = some r → s' = s → r.2 = s := fun hh he => by cases hh; exact he
    by_cases t0 : t = 0
    · rw [if_pos t0] at hr
      by_cases a6 : a = 6
      · rw [if_pos a6] at hr; exact ih _ _ _ _ hr
      · rw [if_neg a6] at hr; exact two hr (fun x hx hf => by rw [hx] at hf; exact ih _ _ _ _ hf)
    rw [if_neg t0] at hr
    by_cases t1 : t = 1
    · rw [if_pos t1, if_neg (by simp [rowOf])] at hr; exact fin hr rfl
    rw [if_neg t1] at hr
    by_cases t2 : t = 2
    · rw [if_pos t2, if_neg (by decide), if_neg (by decide)] at hr
      exact two hr (fun x hx hf => by rw [hx] at hf; exact ih _ _ _ _ hf)
    rw [if_neg t2] at hr
    by_cases t3 : t = 3
    · rw [if_pos t3, if_neg (by decide)] at hr; exact fin hr rfl
    rw [if_neg t3] at hr
    by_cases t4 : t = 4
    · rw [if_pos t4] at hr
      iterate 10 (rw [if_neg (by decide)] at hr)
      exact fin hr rfl
    rw [if_neg t4] at hr
    by_cases t5 : t = 5
    · rw [if_pos t5] at hr
      by_cases ka : 0 = a
      · rw [if_pos ka] at hr; exact fin hr rfl
      · rw [if_neg ka] at hr; exact two hr (fun x hx hf => by rw [hx] at hf; exact ih _ _ _ _ hf)
    rw [if_neg t5] at hr
    by_cases t6 : t = 6
    · rw [if_pos t6, if_neg (by decide)] at hr; exact fin hr rfl
    rw [if_neg t6] at hr
    by_cases t7 : t = 7
    · rw [if_pos t7] at hr; exact ih _ _ _ _ hr
    rw [if_neg t7] at hr
    by_cases t8 : t = 8
    · rw [if_pos t8, if_neg (by decide), if_pos hb] at hr; exact fin hr rfl
    rw [if_neg t8] at hr
    by_cases t9 : t = 9
    · rw [if_pos t9] at hr
      iterate 7 (rw [if_neg (by decide)] at hr)
      refine two hr (fun x hx hf => ?_)
      rw [hx, k0, if_neg (by simp), if_neg (by decide)] at hf
      exact fin hf (e3 25)
    rw [if_neg t9] at hr
    by_cases t10 : t = 10
    · rw [if_pos t10, if_pos trivial] at hr; exact fin hr rfl
    rw [if_neg t10] at hr
    obtain ⟨p, h1, h2⟩ := bind_some hr
    have hp := params_sticky h hb n p h1
    rw [hp] at h2
    exact two h2 (fun x hx hf => fin hf hx)
theorem pars_int {n : Nat} {s : PS} {r : BT Lab × PS} (hk : kT s = 2) (h : pars (n + 1) 4 0 .nil s = some r) : r = (nd ⟨1, (hdT s).line, [], (hdT s).n, []⟩ .nil, takeS s) := by
  rw [pars, if_neg (by decide), if_neg (by decide), if_neg (by decide), if_neg (by decide), if_pos rfl, if_pos hk] at h
  exact (Option.some.inj h).symm
theorem pars_text {n : Nat} {s : PS} {r : BT Lab × PS} (hk : kT s = 3) (h : pars (n + 1) 4 0 .nil s = some r) : r = (nd ⟨2, (hdT s).line, (hdT s).s, 0, []⟩ .nil, takeS s) := by
  rw [pars, if_neg (by decide), if_neg (by decide), if_neg (by decide), if_neg (by decide), if_pos rfl, if_neg (by omega), if_pos hk] at h
  exact (Option.some.inj h).symm
theorem pars_true {n : Nat} {s : PS} {r : BT Lab × PS} (hk : kT s = 13) (h : pars (n + 1) 4 0 .nil s = some r) : r = (nd (lab0 3 (hdT s).line) .nil, takeS s) := by
  rw [pars, if_neg (by decide), if_neg (by decide), if_neg (by decide), if_neg (by decide), if_pos rfl, if_neg (by omega), if_neg (by omega), if_pos hk] at h
  exact (Option.some.inj h).symm
theorem pars_false {n : Nat} {s : PS} {r : BT Lab × PS} (hk : kT s = 14) (h : pars (n + 1) 4 0 .nil s = some r) : r = (nd (lab0 4 (hdT s).line) .nil, takeS s) := by
  rw [pars, if_neg (by decide), if_neg (by decide), if_neg (by decide), if_neg (by decide), if_pos rfl, if_neg (by omega), if_neg (by omega), if_neg (by omega), if_pos hk] at h
  exact (Option.some.inj h).symm
theorem pars_null {n : Nat} {s : PS} {r : BT Lab × PS} (hk : kT s = 15) (h : pars (n + 1) 4 0 .nil s = some r) : r = (nd (lab0 5 (hdT s).line) .nil, takeS s) := by
  rw [pars, if_neg (by decide), if_neg (by decide), if_neg (by decide), if_neg (by decide), if_pos rfl, if_neg (by omega), if_neg (by omega), if_neg (by omega), if_neg (by omega), if_pos hk] at h
  exact (Option.some.inj h).symm
theorem pars_call {n : Nat} {s : PS} {r : BT Lab × PS} (hk : kT s = 1) (hk2 : kT (takeS s) = 18) (h : pars (n + 1) 4 0 .nil s = some r) : ∃ l, pars n 5 19 .nil (takeS (takeS s)) = some l ∧ r = (nd ⟨7, (hdT s).line, (hdT s).s, 0, []⟩ l.1, l.2) := by
  rw [pars, if_neg (by decide), if_neg (by decide), if_neg (by decide), if_neg (by decide), if_pos rfl, if_neg (by omega), if_neg (by omega), if_neg (by omega), if_neg (by omega), if_neg (by omega), if_pos hk, if_pos hk2] at h
  obtain ⟨x, h1, h2⟩ := bind_some h; exact ⟨x, h1, (Option.some.inj h2).symm⟩
theorem pars_name {n : Nat} {s : PS} {r : BT Lab × PS} (hk : kT s = 1) (hk2 : kT (takeS s) ≠ 18) (h : pars (n + 1) 4 0 .nil s = some r) : r = (nd ⟨6, (hdT s).line, (hdT s).s, 0, []⟩ .nil, takeS s) := by
  rw [pars, if_neg (by decide), if_neg (by decide), if_neg (by decide), if_neg (by decide), if_pos rfl, if_neg (by omega), if_neg (by omega), if_neg (by omega), if_neg (by omega), if_neg (by omega), if_pos hk, if_neg hk2] at h
  exact (Option.some.inj h).symm
theorem pars_group {n : Nat} {s : PS} {r : BT Lab × PS} (hk : kT s = 18) (h : pars (n + 1) 4 0 .nil s = some r) : ∃ x, pars n 0 0 .nil (takeS s) = some x ∧ r = (nd (lab0 8 (hdT s).line) x.1, wantS 19 x.2) := by
  rw [pars, if_neg (by decide), if_neg (by decide), if_neg (by decide), if_neg (by decide), if_pos rfl, if_neg (by omega), if_neg (by omega), if_neg (by omega), if_neg (by omega), if_neg (by omega), if_neg (by omega), if_pos hk] at h
  obtain ⟨x, h1, h2⟩ := bind_some h; exact ⟨x, h1, (Option.some.inj h2).symm⟩
theorem pars_array {n : Nat} {s : PS} {r : BT Lab × PS} (hk : kT s = 22) (h : pars (n + 1) 4 0 .nil s = some r) : ∃ l, pars n 5 23 .nil (takeS s) = some l ∧ r = (nd (lab0 9 (hdT s).line) l.1, l.2) := by
  rw [pars, if_neg (by decide), if_neg (by decide), if_neg (by decide), if_neg (by decide), if_pos rfl, if_neg (by omega), if_neg (by omega), if_neg (by omega), if_neg (by omega), if_neg (by omega), if_neg (by omega), if_neg (by omega), if_pos hk] at h
  obtain ⟨x, h1, h2⟩ := bind_some h; exact ⟨x, h1, (Option.some.inj h2).symm⟩
theorem pars_len {n : Nat} {s : PS} {r : BT Lab × PS} (hk : kT s = 16) (h : pars (n + 1) 4 0 .nil s = some r) : ∃ x, pars n 0 0 .nil (wantS 18 (takeS s)) = some x ∧ r = (nd (lab0 10 (hdT s).line) x.1, wantS 19 x.2) := by
  rw [pars, if_neg (by decide), if_neg (by decide), if_neg (by decide), if_neg (by decide), if_pos rfl, if_neg (by omega), if_neg (by omega), if_neg (by omega), if_neg (by omega), if_neg (by omega), if_neg (by omega), if_neg (by omega), if_neg (by omega), if_pos hk] at h
  obtain ⟨x, h1, h2⟩ := bind_some h; exact ⟨x, h1, (Option.some.inj h2).symm⟩
theorem pars_push {n : Nat} {s : PS} {r : BT Lab × PS} (hk : kT s = 17) (h : pars (n + 1) 4 0 .nil s = some r) : ∃ x y, pars n 0 0 .nil (wantS 18 (takeS s)) = some x ∧ pars n 0 0 .nil (wantS 24 x.2) = some y ∧ r = (nd (lab0 11 (hdT s).line) (bapp x.1 y.1), wantS 19 y.2) := by
  rw [pars, if_neg (by decide), if_neg (by decide), if_neg (by decide), if_neg (by decide), if_pos rfl, if_neg (by omega), if_neg (by omega), if_neg (by omega), if_neg (by omega), if_neg (by omega), if_neg (by omega), if_neg (by omega), if_neg (by omega), if_neg (by omega), if_pos hk] at h
  obtain ⟨x, h1, h2⟩ := bind_some h
  obtain ⟨y, h3, h4⟩ := bind_some h2
  exact ⟨x, y, h1, h3, (Option.some.inj h4).symm⟩
theorem pars_none {n : Nat} {s : PS} {r : BT Lab × PS} (h1 : kT s ≠ 2) (h2 : kT s ≠ 3) (h3 : kT s ≠ 13) (h4 : kT s ≠ 14) (h5 : kT s ≠ 15) (h6 : kT s ≠ 1) (h7 : kT s ≠ 18) (h8 : kT s ≠ 22) (h9 : kT s ≠ 16) (h10 : kT s ≠ 17) (h : pars (n + 1) 4 0 .nil s = some r) : r = (.nil, failS s) := by
  rw [pars, if_neg (by decide), if_neg (by decide), if_neg (by decide), if_neg (by decide), if_pos rfl, if_neg h1, if_neg h2, if_neg h3, if_neg h4, if_neg h5, if_neg h6, if_neg h7, if_neg h8, if_neg h9, if_neg h10] at h
  exact (Option.some.inj h).symm
theorem pars_block {n : Nat} {s : PS} {r : BT Lab × PS} (h : pars (n + 1) 7 0 .nil s = some r) : pars n 8 0 .nil (wantS 20 s) = some r := by
  rw [pars, if_neg (by decide), if_neg (by decide), if_neg (by decide), if_neg (by decide), if_neg (by decide), if_neg (by decide), if_neg (by decide), if_pos rfl] at h; exact h
theorem pars_bend {n : Nat} {acc : BT Lab} {s : PS} {r : BT Lab × PS} (hk : kT s = 21) (h : pars (n + 1) 8 0 acc s = some r) : r = (acc, takeS s) := by
  rw [pars, if_neg (by decide), if_neg (by decide), if_neg (by decide), if_neg (by decide), if_neg (by decide), if_neg (by decide), if_neg (by decide), if_neg (by decide), if_pos rfl, if_pos hk] at h; exact (Option.some.inj h).symm
theorem pars_bstmt {n : Nat} {acc : BT Lab} {s : PS} {r : BT Lab × PS} (hk : kT s ≠ 21) (hb : s.bad = 0) (h : pars (n + 1) 8 0 acc s = some r) : ∃ x, pars n 9 0 .nil s = some x ∧ pars n 8 0 (bapp acc x.1) x.2 = some r := by
  rw [pars, if_neg (by decide), if_neg (by decide), if_neg (by decide), if_neg (by decide), if_neg (by decide), if_neg (by decide), if_neg (by decide), if_neg (by decide), if_pos rfl, if_neg hk, if_neg (by simpa using hb)] at h; exact bind_some h
theorem pars_slet {n : Nat} {s : PS} {r : BT Lab × PS} (hk : kT s = 5) (h : pars (n + 1) 9 0 .nil s = some r) : ∃ x, pars n 0 0 .nil (wantS 26 (wantS 1 (takeS s))) = some x ∧ r = (nd ⟨21, (hdT (takeS s)).line, (hdT (takeS s)).s, 0, []⟩ x.1, wantS 25 x.2) := by
  rw [pars, if_neg (by decide), if_neg (by decide), if_neg (by decide), if_neg (by decide), if_neg (by decide), if_neg (by decide), if_neg (by decide), if_neg (by decide), if_neg (by decide), if_pos rfl, if_pos hk] at h
  obtain ⟨x, h1, h2⟩ := bind_some h; exact ⟨x, h1, (Option.some.inj h2).symm⟩
theorem pars_sif {n : Nat} {s : PS} {r : BT Lab × PS} (hk : kT s = 6) (h : pars (n + 1) 9 0 .nil s = some r) : ∃ x bl, pars n 0 0 .nil (takeS s) = some x ∧ pars n 7 0 .nil x.2 = some bl ∧
    ((kT bl.2 = 7 ∧ ∃ c, pars n 7 0 .nil (takeS bl.2) = some c ∧ r = (nd (lab0 22 (hdT s).line) (bapp x.1 (bapp (nd (lab0 31 0) bl.1) (nd (lab0 31 0) c.1))), c.2)) ∨ (kT bl.2 ≠ 7 ∧ r = (nd (lab0 22 (hdT s).line) (bapp x.1 (nd (lab0 31 0) bl.1)), bl.2))) := by
  rw [pars, if_neg (by decide), if_neg (by decide), if_neg (by decide), if_neg (by decide), if_neg (by decide), if_neg (by decide), if_neg (by decide), if_neg (by decide), if_neg (by decide), if_pos rfl, if_neg (by omega), if_pos hk] at h
  obtain ⟨x, h1, h2⟩ := bind_some h
  obtain ⟨bl, h3, h4⟩ := bind_some h2
  refine ⟨x, bl, h1, h3, ?_⟩
  by_cases h7 : kT bl.2 = 7
  · rw [if_pos h7] at h4
    obtain ⟨c, h5, h6⟩ := bind_some h4
    exact .inl ⟨h7, c, h5, (Option.some.inj h6).symm⟩
  · rw [if_neg h7] at h4
    exact .inr ⟨h7, (Option.some.inj h4).symm⟩
theorem pars_swhile {n : Nat} {s : PS} {r : BT Lab × PS} (hk : kT s = 8) (h : pars (n + 1) 9 0 .nil s = some r) : ∃ x bl, pars n 0 0 .nil (takeS s) = some x ∧ pars n 7 0 .nil x.2 = some bl ∧ r = (nd (lab0 23 (hdT s).line) (bapp x.1 (nd (lab0 32 0) bl.1)), bl.2) := by
  rw [pars, if_neg (by decide), if_neg (by decide), if_neg (by decide), if_neg (by decide), if_neg (by decide), if_neg (by decide), if_neg (by decide), if_neg (by decide), if_neg (by decide), if_pos rfl, if_neg (by omega), if_neg (by omega), if_pos hk] at h
  obtain ⟨x, h1, h2⟩ := bind_some h
  obtain ⟨bl, h3, h4⟩ := bind_some h2
  exact ⟨x, bl, h1, h3, (Option.some.inj h4).symm⟩
theorem pars_sret0 {n : Nat} {s : PS} {r : BT Lab × PS} (hk : kT s = 9) (hk2 : kT (takeS s) = 25) (h : pars (n + 1) 9 0 .nil s = some r) : r = (nd (lab0 24 (hdT s).line) .nil, wantS 25 (takeS s)) := by
  rw [pars, if_neg (by decide), if_neg (by decide), if_neg (by decide), if_neg (by decide), if_neg (by decide), if_neg (by decide), if_neg (by decide), if_neg (by decide), if_neg (by decide), if_pos rfl, if_neg (by omega), if_neg (by omega), if_neg (by omega), if_pos hk, if_pos hk2] at h
  exact (Option.some.inj h).symm
theorem pars_sret {n : Nat} {s : PS} {r : BT Lab × PS} (hk : kT s = 9) (hk2 : kT (takeS s) ≠ 25) (h : pars (n + 1) 9 0 .nil s = some r) : ∃ x, pars n 0 0 .nil (takeS s) = some x ∧ r = (nd (lab0 24 (hdT s).line) x.1, wantS 25 x.2) := by
  rw [pars, if_neg (by decide), if_neg (by decide), if_neg (by decide), if_neg (by decide), if_neg (by decide), if_neg (by decide), if_neg (by decide), if_neg (by decide), if_neg (by decide), if_pos rfl, if_neg (by omega), if_neg (by omega), if_neg (by omega), if_pos hk, if_neg hk2] at h
  obtain ⟨x, h1, h2⟩ := bind_some h; exact ⟨x, h1, (Option.some.inj h2).symm⟩
theorem pars_sbreak {n : Nat} {s : PS} {r : BT Lab × PS} (hk : kT s = 10) (h : pars (n + 1) 9 0 .nil s = some r) : r = (nd (lab0 25 (hdT s).line) .nil, wantS 25 (takeS s)) := by
  rw [pars, if_neg (by decide), if_neg (by decide), if_neg (by decide), if_neg (by decide), if_neg (by decide), if_neg (by decide), if_neg (by decide), if_neg (by decide), if_neg (by decide), if_pos rfl, if_neg (by omega), if_neg (by omega), if_neg (by omega), if_neg (by omega), if_pos hk] at h
  exact (Option.some.inj h).symm
theorem pars_scont {n : Nat} {s : PS} {r : BT Lab × PS} (hk : kT s = 11) (h : pars (n + 1) 9 0 .nil s = some r) : r = (nd (lab0 26 (hdT s).line) .nil, wantS 25 (takeS s)) := by
  rw [pars, if_neg (by decide), if_neg (by decide), if_neg (by decide), if_neg (by decide), if_neg (by decide), if_neg (by decide), if_neg (by decide), if_neg (by decide), if_neg (by decide), if_pos rfl, if_neg (by omega), if_neg (by omega), if_neg (by omega), if_neg (by omega), if_neg (by omega), if_pos hk] at h
  exact (Option.some.inj h).symm
theorem pars_sprint {n : Nat} {s : PS} {r : BT Lab × PS} (hk : kT s = 12) (h : pars (n + 1) 9 0 .nil s = some r) : ∃ x, pars n 0 0 .nil (takeS s) = some x ∧ r = (nd (lab0 27 (hdT s).line) x.1, wantS 25 x.2) := by
  rw [pars, if_neg (by decide), if_neg (by decide), if_neg (by decide), if_neg (by decide), if_neg (by decide), if_neg (by decide), if_neg (by decide), if_neg (by decide), if_neg (by decide), if_pos rfl, if_neg (by omega), if_neg (by omega), if_neg (by omega), if_neg (by omega), if_neg (by omega), if_neg (by omega), if_pos hk] at h
  obtain ⟨x, h1, h2⟩ := bind_some h; exact ⟨x, h1, (Option.some.inj h2).symm⟩
theorem pars_simple {n : Nat} {s : PS} {r : BT Lab × PS} (hk : ¬ (5 ≤ kT s ∧ kT s ≤ 12 ∧ kT s ≠ 7)) (h : pars (n + 1) 9 0 .nil s = some r) : ∃ x, pars n 0 0 .nil s = some x ∧
    ((canSet x.1 = true ∧ kT x.2 = 26 ∧ ∃ v, pars n 0 0 .nil (takeS x.2) = some v ∧ r = (setNode x.1 v.1, wantS 25 v.2)) ∨ (canSet x.1 = false ∧ kT x.2 = 26 ∧ ∃ v, pars n 0 0 .nil (failS x.2) = some v ∧ r = (nd (lab0 30 (rootLab x.1).line) x.1, wantS 25 v.2)) ∨
     (kT x.2 ≠ 26 ∧ r = (nd (lab0 30 (rootLab x.1).line) x.1, wantS 25 x.2))) := by
  rw [pars, if_neg (by decide), if_neg (by decide), if_neg (by decide), if_neg (by decide), if_neg (by decide), if_neg (by decide), if_neg (by decide), if_neg (by decide), if_neg (by decide), if_pos rfl, if_neg (by omega), if_neg (by omega), if_neg (by omega), if_neg (by omega), if_neg (by omega), if_neg (by omega), if_neg (by omega)] at h
  obtain ⟨x, h1, h2⟩ := bind_some h
  refine ⟨x, h1, ?_⟩
  by_cases h26 : kT x.2 = 26
  · cases hc : canSet x.1
    · rw [if_neg (by rw [hc]; simp), if_pos h26] at h2
      obtain ⟨v, h3, h4⟩ := bind_some h2
      exact .inr (.inl ⟨rfl, h26, v, h3, (Option.some.inj h4).symm⟩)
    · rw [if_pos ⟨hc, h26⟩] at h2
      obtain ⟨v, h3, h4⟩ := bind_some h2
      exact .inl ⟨rfl, h26, v, h3, (Option.some.inj h4).symm⟩
  · rw [if_neg (fun e => h26 e.2), if_neg h26] at h2
    exact .inr (.inr ⟨h26, (Option.some.inj h2).symm⟩)
theorem bapp_len : ∀ (f g : BT Lab), blen (bapp f g) = blen f + blen g := by
  intro f
  induction f with
  | nil => intro g; simp [bapp, blen]
  | node x y l c r _ ih => intro g; simp only [bapp, blen, ih]; omega
end Go.Proofs.YtgccmgjbbcndbaaGreatDoor
/- Closing a walk that answers a node. -/
namespace Go.Proofs.YtgccmgjbbcndbaaGreatDoor
open Go.RowKit
open Go.Deep (BT)

theorem RS.heap {b tb cap te : Nat} {xs : List (Tk × List UInt8)} {w w' : World} {s : PS} (h : RS b tb cap te xs w s) (e : w'.heap = w.heap) : RS b tb cap te xs w' s := by
  obtain ⟨pl, h⟩ := h; exact ⟨pl, h.of_heap (by rw [e]) (by rw [e])⟩
theorem RSt.drewN {b tb cap te : Nat} {xs : List (Tk × List UInt8)} {w : World} {s : PS} {pl : Nat} (h : RSt b tb cap te xs w s pl) (n : Nat) : RSt b tb cap te xs (w.drewN n) s pl := h.of_heap rfl rfl
theorem Only.drewN {b : Nat} {x w : World} (h : Only b x w) (n : Nat) : Only b x (w.drewN n) := ⟨h.os, h.tape, h.output, h.size, h.block⟩
theorem RS.drewN {b tb cap te : Nat} {xs : List (Tk × List UInt8)} {w : World} {s : PS} (h : RS b tb cap te xs w s) (n : Nat) : RS b tb cap te xs (w.drewN n) s := h.heap rfl

theorem set6_size (w : World) (g : Nat) (u0 u1 u2 u3 u4 u5 : Value) : ((((((w.setCell ⟨g, 0, none⟩ u0).setCell ⟨g, 1, none⟩ u1).setCell ⟨g, 2, none⟩ u2).setCell ⟨g, 3, none⟩ u3).setCell ⟨g, 4, none⟩ u4).setCell ⟨g, 5, none⟩ u5).heap.size = w.heap.size := by
  simp [World.setCell]

/- the result's cell is the call's first block -/
theorem node_close {b tb cap te : Nat} {xs : List (Tk × List UInt8)} {w W : World} {r : BT Lab × PS} {I S : List UInt8} {ln nn : Int} {va : Option Addr} {vn vc : Nat} {pa : Option Addr} {pn pc : Nat}
    (lb : b < w.heap.size) (lt : tb < w.heap.size) (hrs : RS b tb cap te xs W r.2) (hO : Only b w W)
    (hrep : r.2.bad = 0 → blen r.1 = 1 ∧ RepF (fun g => w.heap.size < g) W r.1 (ndC I S ln nn va vn vc pa pn pc).toList) :
    NodePost b tb cap te xs w r (.returned (.agg #[.string ⟨I.toArray⟩, .int .i64 ln, .string ⟨S.toArray⟩, .int .i64 nn, .slice va vn vc, .slice pa pn pc]))
      ((((((W.setCell ⟨w.heap.size, 0, none⟩ (.string ⟨I.toArray⟩)).setCell ⟨w.heap.size, 1, none⟩ (.int .i64 ln)).setCell ⟨w.heap.size, 2, none⟩ (.string ⟨S.toArray⟩)).setCell ⟨w.heap.size, 3, none⟩ (.int .i64 nn)).setCell ⟨w.heap.size, 4, none⟩ (.slice va vn vc)).setCell ⟨w.heap.size, 5, none⟩ (.slice pa pn pc)) := by
  unfold NodePost
  refine ⟨I, S, ln, nn, va, vn, vc, pa, pn, pc, rfl, hrs.other6 (by omega) (by omega) _ _ _ _ _ _, Only.set6 hO (Nat.le_refl _) _ _ _ _ _ _, fun hb => ⟨(hrep hb).1, ?_⟩⟩
  exact RepF.keep (fun g hg _ => ⟨set6_same (by omega) _ _ _ _ _ _, by omega⟩) _ _ (hrep hb).2

/- the same where the cell is written by no store of its own: it is the block just made -/
theorem node_close0 {b tb cap te : Nat} {xs : List (Tk × List UInt8)} {w W : World} {r : BT Lab × PS} {I S : List UInt8} {ln nn : Int} {va : Option Addr} {vn vc : Nat} {pa : Option Addr} {pn pc : Nat}
    (hrs : RS b tb cap te xs W r.2) (hO : Only b w W)
    (hrep : r.2.bad = 0 → blen r.1 = 1 ∧ RepF (fun g => w.heap.size < g) W r.1 (ndC I S ln nn va vn vc pa pn pc).toList) :
    NodePost b tb cap te xs w r (.returned (.agg #[.string ⟨I.toArray⟩, .int .i64 ln, .string ⟨S.toArray⟩, .int .i64 nn, .slice va vn vc, .slice pa pn pc])) W := by
  unfold NodePost
  refine ⟨I, S, ln, nn, va, vn, vc, pa, pn, pc, rfl, hrs, hO, fun hb => ⟨(hrep hb).1, ?_⟩⟩
  exact RepF.keep (fun g hg _ => ⟨rfl, by omega⟩) _ _ (hrep hb).2

/- a forest of one node, put together -/
theorem RepF.one {D : Nat → Prop} {w : World} (lab : Lab) (ch : BT Lab) (I S : List UInt8) (ln nn : Int) (va : Option Addr) (vn vc : Nat) (pa : Option Addr) (pn pc : Nat) (c1 : List Value) (h8 : lab.kd ≠ 8) (h20 : lab.kd ≠ 20)
    (hI : I = isS lab.kd) (h1 : lineSure lab.kd = true → ln = lab.line) (h2 : nameSure lab.kd = true → S = lab.s) (h3 : lab.kd = 1 → nn = lab.n) (h4 : OwnsD D w 41 6 (.slice va vn vc) (blen ch) c1) (h5 : RepF D w ch c1) (h12 : lab.kd = 12 → vc = vn := by first | exact fun _ => rfl | (intro h; cases h)) :
    RepF D w (nd lab ch) (ndC I S ln nn va vn vc pa pn pc).toList := by
  unfold nd
  rw [RepF, if_neg h8]
  subst hI
  exact ⟨ln, nn, S, _, _, c1, [], ⟨_, _, _, _, _, _, rfl, rfl⟩, rfl, h1, h2, h3, fun e => ⟨va, vn, by rw [h12 e]⟩, h4, h5, fun e => absurd e h20, rfl⟩

theorem own_nil (D : Nat → Prop) (w : World) (e : TypeId) (size : Nat) : OwnsD D w e size (.slice none 0 0) 0 [] := ⟨World.ownsRow_nil _ _ _ _, fun g hg => by simp [Value.ownBlock] at hg⟩

/- a slice literal, laid into a new block -/
theorem own_lit {D : Nat → Prop} {w : World} {g : Nat} {cs : Array Value} {e : TypeId} {n size : Nat} (h : w.heap[g]? = some (.cells cs e (0, 0))) (hs : cs.size = n * size) (hn : n ≤ 100000) (hD : D g) : OwnsD D w e size (.slice (some ⟨g, 0, none⟩) n n) n cs.toList := by
  refine ⟨⟨by simpa using hs, .inr ⟨g, n, cs, rfl, Nat.zero_le _, h, Nat.le_refl _, by simp only [maxLen]; omega, hs, ?_⟩⟩, fun k hk => ?_⟩
  · rw [← hs]; exact List.take_of_length_le (by simp)
  · simp only [Value.ownBlock, Option.some.injEq] at hk; rw [← hk]; exact hD
/- a node over one other, answered: its list is the block just made -/
theorem un_close {b tb cap te : Nat} {xs : List (Tk × List UInt8)} {w w4 : World} {x : BT Lab × PS} {kd line : Nat} {I I4 S4 : List UInt8} {ln4 nn4 : Int} {va4 : Option Addr} {vn4 vc4 : Nat} {pa4 : Option Addr} {pn4 pc4 : Nat}
    (lb : b < w.heap.size) (lt : tb < w.heap.size) (lz : w.heap.size < w4.heap.size) (hkd : kd = 13 ∨ kd = 14) (hI : I = isS kd) (hr4 : RS b tb cap te xs w4 x.2) (hO4 : Only b w w4)
    (hB : x.2.bad = 0 → blen x.1 = 1 ∧ RepF (fun g => w.heap.size < g) w4 x.1 (ndC I4 S4 ln4 nn4 va4 vn4 vc4 pa4 pn4 pc4).toList) :
    NodePost b tb cap te xs w (nd (lab0 kd line) x.1, x.2) (.returned (.agg #[.string ⟨I.toArray⟩, .int .i64 line, .string ⟨#[]⟩, .int .i64 0, .slice (some ⟨w4.heap.size, 0, none⟩) 1 1, .slice none 0 0]))
      (((((((w4.setCell ⟨w.heap.size, 0, none⟩ (.string ⟨I.toArray⟩)).setCell ⟨w.heap.size, 1, none⟩ (.int .i64 line)).setCell ⟨w.heap.size, 2, none⟩ (.string ⟨#[]⟩)).setCell ⟨w.heap.size, 3, none⟩ (.int .i64 0)).setCell ⟨w.heap.size, 4, none⟩ (.slice (some ⟨w4.heap.size, 0, none⟩) 1 1)).setCell ⟨w.heap.size, 5, none⟩ (.slice none 0 0)).alloc
        (.cells #[.string ⟨I4.toArray⟩, .int .i64 ln4, .string ⟨S4.toArray⟩, .int .i64 nn4, .slice va4 vn4 vc4, .slice pa4 pn4 pc4] 41)) := by
  unfold NodePost
  refine ⟨I, [], line, 0, some ⟨w4.heap.size, 0, none⟩, 1, 1, none, 0, 0, rfl, (hr4.other6 (by omega) (by omega) _ _ _ _ _ _).alloc _, (Only.set6 hO4 (Nat.le_refl _) _ _ _ _ _ _).alloc _, fun hb => ⟨rfl, ?_⟩⟩
  have hk8 : kd ≠ 8 ∧ kd ≠ 20 ∧ kd ≠ 1 ∧ nameSure kd = false := by rcases hkd with e | e <;> subst e <;> decide
  refine RepF.one (lab0 kd line) x.1 I [] line 0 (some ⟨w4.heap.size, 0, none⟩) 1 1 none 0 0 (ndC I4 S4 ln4 nn4 va4 vn4 vc4 pa4 pn4 pc4).toList hk8.1 hk8.2.1 hI (fun _ => rfl) (fun h => absurd h (by simp only [lab0]; rw [hk8.2.2.2]; decide)) (fun h => absurd h hk8.2.2.1) ?_ ?_
  · rw [(hB hb).1]
    refine own_lit ?_ rfl (by omega) (by omega)
    have := heap_alloc_new ((((((w4.setCell ⟨w.heap.size, 0, none⟩ (.string ⟨I.toArray⟩)).setCell ⟨w.heap.size, 1, none⟩ (.int .i64 line)).setCell ⟨w.heap.size, 2, none⟩ (.string ⟨#[]⟩)).setCell ⟨w.heap.size, 3, none⟩ (.int .i64 0)).setCell ⟨w.heap.size, 4, none⟩ (.slice (some ⟨w4.heap.size, 0, none⟩) 1 1)).setCell ⟨w.heap.size, 5, none⟩ (.slice none 0 0))
      (.cells #[.string ⟨I4.toArray⟩, .int .i64 ln4, .string ⟨S4.toArray⟩, .int .i64 nn4, .slice va4 vn4 vc4, .slice pa4 pn4 pc4] 41)
    rw [set6_size] at this
    exact this
  · refine RepF.keep (fun g hg hl => ⟨?_, by omega⟩) _ _ (hB hb).2
    rw [Below.heap_alloc _ _ _ (by rw [set6_size]; exact hl)]
    exact set6_same (by omega) _ _ _ _ _ _
/- a node over two others: its list is the block just made, behind a store of it into block X -/
theorem two_rep {D : Nat → Prop} {w6 : World} {X kd line : Nat} {acc y : BT Lab} {I I1 S1 I4 S4 : List UInt8} {ln nn ln4 nn4 : Int} {va va4 : Option Addr} {vn vc vn4 vc4 : Nat} {pa pa4 : Option Addr} {pn pc pn4 pc4 : Nat} {u0 u1 u2 u3 u4 u5 : Value}
    (h8 : kd ≠ 8 ∧ kd ≠ 20 ∧ kd ≠ 1 ∧ nameSure kd = false) (hI : I = isS kd) (hD : ∀ g, D g → g ≠ X) (hN : D w6.heap.size)
    (hA : blen acc = 1 ∧ RepF D w6 acc (ndC I1 S1 ln nn va vn vc pa pn pc).toList) (hB : blen y = 1 ∧ RepF D w6 y (ndC I4 S4 ln4 nn4 va4 vn4 vc4 pa4 pn4 pc4).toList) :
    RepF D (((((((w6.setCell ⟨X, 0, none⟩ u0).setCell ⟨X, 1, none⟩ u1).setCell ⟨X, 2, none⟩ u2).setCell ⟨X, 3, none⟩ u3).setCell ⟨X, 4, none⟩ u4).setCell ⟨X, 5, none⟩ u5).alloc
        (.cells #[.string ⟨I1.toArray⟩, .int .i64 ln, .string ⟨S1.toArray⟩, .int .i64 nn, .slice va vn vc, .slice pa pn pc, .string ⟨I4.toArray⟩, .int .i64 ln4, .string ⟨S4.toArray⟩, .int .i64 nn4, .slice va4 vn4 vc4, .slice pa4 pn4 pc4] 41))
      (nd (lab0 kd line) (bapp acc y)) (ndC I [] line 0 (some ⟨w6.heap.size, 0, none⟩) 2 2 none 0 0).toList := by
  refine RepF.one (lab0 kd line) (bapp acc y) I [] line 0 (some ⟨w6.heap.size, 0, none⟩) 2 2 none 0 0 ((ndC I1 S1 ln nn va vn vc pa pn pc).toList ++ (ndC I4 S4 ln4 nn4 va4 vn4 vc4 pa4 pn4 pc4).toList) h8.1 h8.2.1 hI (fun _ => rfl) (fun h => absurd h (by simp only [lab0]; rw [h8.2.2.2]; decide)) (fun h => absurd h h8.2.2.1) ?_ ?_
  · rw [bapp_len, hA.1, hB.1]
    refine own_lit ?_ rfl (by omega) hN
    have := heap_alloc_new ((((((w6.setCell ⟨X, 0, none⟩ u0).setCell ⟨X, 1, none⟩ u1).setCell ⟨X, 2, none⟩ u2).setCell ⟨X, 3, none⟩ u3).setCell ⟨X, 4, none⟩ u4).setCell ⟨X, 5, none⟩ u5)
      (.cells #[.string ⟨I1.toArray⟩, .int .i64 ln, .string ⟨S1.toArray⟩, .int .i64 nn, .slice va vn vc, .slice pa pn pc, .string ⟨I4.toArray⟩, .int .i64 ln4, .string ⟨S4.toArray⟩, .int .i64 nn4, .slice va4 vn4 vc4, .slice pa4 pn4 pc4] 41)
    rw [set6_size] at this
    exact this
  · have hk : ∀ g, D g → g < w6.heap.size → (((((((w6.setCell ⟨X, 0, none⟩ u0).setCell ⟨X, 1, none⟩ u1).setCell ⟨X, 2, none⟩ u2).setCell ⟨X, 3, none⟩ u3).setCell ⟨X, 4, none⟩ u4).setCell ⟨X, 5, none⟩ u5).alloc
        (.cells #[.string ⟨I1.toArray⟩, .int .i64 ln, .string ⟨S1.toArray⟩, .int .i64 nn, .slice va vn vc, .slice pa pn pc, .string ⟨I4.toArray⟩, .int .i64 ln4, .string ⟨S4.toArray⟩, .int .i64 nn4, .slice va4 vn4 vc4, .slice pa4 pn4 pc4] 41)).heap[g]? = w6.heap[g]? ∧ D g := fun g hg hl =>
      ⟨by rw [Below.heap_alloc _ _ _ (by rw [set6_size]; exact hl)]; exact set6_same (hD g hg) _ _ _ _ _ _, hg⟩
    exact RepF.app _ _ _ _ (RepF.keep hk _ _ hA.2) (RepF.keep hk _ _ hB.2)
/- a node over none, answered -/
theorem leaf_close {b tb cap te : Nat} {xs : List (Tk × List UInt8)} {w W : World} {st : PS} {lab : Lab} {I S : List UInt8} {ln nn : Int} {o1 o2 : Obj}
    (lb : b < w.heap.size) (lt : tb < w.heap.size) (h8 : lab.kd ≠ 8) (h20 : lab.kd ≠ 20) (hI : I = isS lab.kd) (hl : ln = lab.line) (hS : nameSure lab.kd = true → S = lab.s) (hn : lab.kd = 1 → nn = lab.n) (hrs : RS b tb cap te xs W st) (hO : Only b w W) :
    NodePost b tb cap te xs w (nd lab .nil, st) (.returned (.agg #[.string ⟨I.toArray⟩, .int .i64 ln, .string ⟨S.toArray⟩, .int .i64 nn, .slice none 0 0, .slice none 0 0]))
      ((((((((W.setCell ⟨w.heap.size, 0, none⟩ (.string ⟨I.toArray⟩)).setCell ⟨w.heap.size, 1, none⟩ (.int .i64 ln)).setCell ⟨w.heap.size, 2, none⟩ (.string ⟨S.toArray⟩)).setCell ⟨w.heap.size, 3, none⟩ (.int .i64 nn)).setCell ⟨w.heap.size, 4, none⟩ (.slice none 0 0)).setCell ⟨w.heap.size, 5, none⟩ (.slice none 0 0)).alloc o1).alloc o2) := by
  unfold NodePost
  refine ⟨I, S, ln, nn, none, 0, 0, none, 0, 0, rfl, ((hrs.other6 (by omega) (by omega) _ _ _ _ _ _).alloc _).alloc _, ((Only.set6 hO (Nat.le_refl _) _ _ _ _ _ _).alloc _).alloc _, fun _ => ⟨rfl, ?_⟩⟩
  exact RepF.one lab .nil I S ln nn none 0 0 none 0 0 [] h8 h20 hI (fun _ => hl) hS hn (own_nil _ _ _ _) rfl
end Go.Proofs.YtgccmgjbbcndbaaGreatDoor
