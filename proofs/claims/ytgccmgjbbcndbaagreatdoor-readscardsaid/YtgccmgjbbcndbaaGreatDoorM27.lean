import Derived.Test.YtgccmgjbbcndbaaGreatDoorM26
import Derived.Test.YtgccmgjbbcndbaaGreatDoorM11
/- Walk of nested. -/
namespace Go.Proofs.YtgccmgjbbcndbaaGreatDoor
open Go.RowKit
open Go.Deep (BT)

structure TokRow (tb cap : Nat) (xs : List (Tk × List UInt8)) (w : World) : Prop where
  toks : Toks xs
  tok : ∃ cur, w.heap[tb]? = some (.cells cur 79 (0, 0)) ∧ cur.toList.take (xs.length * 4) = tkCs xs
  cap : xs.length ≤ cap
theorem TokRow.cell {tb cap : Nat} {xs : List (Tk × List UInt8)} {w : World} (h : TokRow tb cap xs w) (i j : Nat) (hi : i < xs.length) (hj : j < 4) : w.cell? ⟨tb, i * 4 + j, none⟩ = (tkC xs[i])[j]? := by
  obtain ⟨cur, h1, h2⟩ := h.tok
  rw [cell_of_row w tb (i * 4 + j) cur _ _ h1, ← tkCs_at xs i j hi hj, ← h2, List.getElem?_take, if_pos (by omega), Array.getElem?_toList]
theorem TokRow.lt {tb cap : Nat} {xs : List (Tk × List UInt8)} {w : World} (h : TokRow tb cap xs w) : tb < w.heap.size := by
  obtain ⟨cur, h1, _⟩ := h.tok; exact heap_lt h1

def opens (k : Nat) : Bool := k == 18 || k == 20 || k == 22
def closes (k : Nat) : Bool := k == 19 || k == 21 || k == 23
theorem nest_step (ts : List Tk) (i : Nat) (h : i < ts.length) (o : Int) : nest (ts.drop i) o = if opens ts[i].k then (if 30 ≤ o then ts[i].line else nest (ts.drop (i + 1)) (o + 1)) else if closes ts[i].k then nest (ts.drop (i + 1)) (o - 1) else nest (ts.drop (i + 1)) o := by
  rw [List.drop_eq_getElem_cons h, nest]
  have e1 : (ts[i].k = 18 ∨ ts[i].k = 20 ∨ ts[i].k = 22) ↔ opens ts[i].k = true := by simp [opens, or_assoc]
  have e2 : (ts[i].k = 19 ∨ ts[i].k = 21 ∨ ts[i].k = 23) ↔ closes ts[i].k = true := by simp [closes, or_assoc]
  simp only [e1, e2]
theorem nest_end (ts : List Tk) (i : Nat) (h : ts.length ≤ i) (o : Int) : nest (ts.drop i) o = 0 := by
  rw [List.drop_eq_nil_of_le h, nest]

theorem spell_nest : ∀ k, k ≤ 40 → 18 ≤ k → ((spell k == [40]) = (k == 18) ∧ (spell k == [91]) = (k == 22) ∧ (spell k == [123]) = (k == 20) ∧ (spell k == [41]) = (k == 19) ∧ (spell k == [93]) = (k == 23) ∧ (spell k == [125]) = (k == 21)) := by decide +kernel

set_option maxRecDepth 100000 in
set_option maxHeartbeats 2000000 in
theorem nested_any {tb cap : Nat} {xs : List (Tk × List UInt8)} (w : World) (h : TokRow tb cap xs w) :
    Calls Tryz.prog 13 #[.slice (some ⟨tb, 0, none⟩) xs.length cap] w fun e w' => e = .returned (.int .i64 (nest (xs.map (·.1)) 0 : Nat)) ∧ Below w.heap.size w w' := by
  have hfew := h.toks.few
  have HH := hide h
  clear h
  go_enter Tryz.func13, Tryz.ntmps13
  go_wp2
  go_loopg [3, 4] xs.length (fun k o v wr => ∃ (oi : Int) (n : Nat), o = .int .i64 oi ∧ v = .int .i64 n ∧ n + k = xs.length ∧ nest (xs.map (·.1)) 0 = nest ((xs.map (·.1)).drop n) oi ∧ -(n : Int) ≤ oi ∧ oi ≤ n ∧ TokRow tb cap xs wr ∧ Below w.heap.size w wr)
  case atStart =>
    exact ⟨0, 0, rfl, rfl, by omega, rfl, by omega, by omega, HH.out, Below.refl _ _⟩
  case round =>
    clear HH
    obtain ⟨oi, n, rfl, rfl, hnk, hnest, ho1, ho2, ht, hb⟩ := hrel
    have HT := hide ht
    have HB := hide hb
    have HN := hide hnest
    clear ht hb hnest
    by_cases hlt : n < xs.length
    · have hlt' : n < (xs.map (·.1)).length := by simpa using hlt
      have HS := hide (nest_step _ n hlt' oi)
      have d0 := HT.out.cell n 0 hlt (by omega)
      have d1 := HT.out.cell n 1 hlt (by omega)
      have d3 := HT.out.cell n 3 hlt (by omega)
      have hlo := HT.out.lt
      have hline := HT.out.toks.line xs[n] (List.getElem_mem hlt)
      have hok := HT.out.toks.ok xs[n] (List.getElem_mem hlt)
      have hx : (xs.map (·.1))[n] = xs[n].1 := by simp
      rw [tkC] at d0 d1 d3
      simp only [Nat.add_zero, List.getElem?_cons_zero, List.getElem?_cons_succ] at d0 d1 d3
      have HS2 : Hid (nest ((xs.map (·.1)).drop n) oi = if opens xs[n].1.k then (if 30 ≤ oi then xs[n].1.line else nest ((xs.map (·.1)).drop (n + 1)) (oi + 1)) else if closes xs[n].1.k then nest ((xs.map (·.1)).drop (n + 1)) (oi - 1) else nest ((xs.map (·.1)).drop (n + 1)) oi) := by
        show _ = _
        have := HS.out
        rw [hx] at this
        exact this
      clear HS hx
      generalize xs[n] = x at *
      have h115 := refKind_115 x.1.k hline.2.2
      by_cases h18 : x.1.k < 18
      · have t1 : (refKind x.1.k != 115) = true := by rw [h115]; simpa using h18
        have hopc : opens x.1.k = false ∧ closes x.1.k = false := by
          unfold opens closes
          have : ∀ k, k < 18 → (k == 18 || k == 20 || k == 22) = false ∧ (k == 19 || k == 21 || k == 23) = false := by decide
          exact this _ h18
        have HO := hide hopc
        clear hopc hok h115
        go_wp2
        go_roundg (gk - 1)
        case measure => omega
        case rel =>
          refine ⟨oi, n + 1, rfl, rfl, by omega, ?_, by omega, by omega, HT.out, HB.out⟩
          rw [HN.out, HS2.out, HO.out.1, HO.out.2]; rfl
      · have t1 : (refKind x.1.k != 115) = false := by rw [h115]; simpa using h18
        have hS : x.2 = spell x.1.k := (hok (by omega)).trans (by unfold refS; rw [if_neg (by omega)])
        obtain ⟨s1, s2, s3, s4, s5, s6⟩ := spell_nest x.1.k hline.2.2 (by omega)
        rw [← hS] at s1 s2 s3 s4 s5 s6
        by_cases hop : opens x.1.k = true
        · have hcl : (x.1.k == 19) = false ∧ (x.1.k == 23) = false ∧ (x.1.k == 21) = false := by
            unfold opens at hop
            simp only [Bool.or_eq_true, beq_iff_eq] at hop
            simp only [beq_eq_false_iff_ne]
            omega
          rw [hcl.1] at s4
          rw [hcl.2.1] at s5
          rw [hcl.2.2] at s6
          have h3 : x.1.k = 18 ∨ x.1.k = 22 ∨ x.1.k = 20 := by
            unfold opens at hop
            simp only [Bool.or_eq_true, beq_iff_eq] at hop
            omega
          have HOP := hide hop
          have HX := hide hline
          clear hop hcl hok h115 hS hline
          by_cases h30 : 30 ≤ oi
          · rcases h3 with e | e | e
            all_goals
              rw [e] at s1 s2 s3
              simp only [Nat.reduceBEq] at s1 s2 s3
              clear e h18
              go_wp2
              go_ret
              refine ⟨?_, HB.out⟩
              rw [HN.out, HS2.out, HOP.out, if_pos rfl, if_pos h30]
              rfl
          · rcases h3 with e | e | e
            all_goals
              rw [e] at s1 s2 s3
              simp only [Nat.reduceBEq] at s1 s2 s3
              clear e h18
              go_wp2
              go_roundg (gk - 1)
              case measure => omega
              case rel =>
                refine ⟨oi + 1, n + 1, rfl, rfl, by omega, ?_, by omega, by omega, HT.out, HB.out⟩
                rw [HN.out, HS2.out, HOP.out, if_pos rfl, if_neg (by omega)]
        · have hop' : (x.1.k == 18) = false ∧ (x.1.k == 22) = false ∧ (x.1.k == 20) = false := by
            unfold opens at hop
            simp only [Bool.or_eq_true, beq_iff_eq] at hop
            simp only [beq_eq_false_iff_ne]
            omega
          rw [hop'.1] at s1
          rw [hop'.2.1] at s2
          rw [hop'.2.2] at s3
          have HOP : Hid (opens x.1.k = false) := by
            show _ = _
            simpa using hop
          clear hop hop' hok h115 hS hline
          by_cases hcl : closes x.1.k = true
          · have h3 : x.1.k = 19 ∨ x.1.k = 23 ∨ x.1.k = 21 := by
              unfold closes at hcl
              simp only [Bool.or_eq_true, beq_iff_eq] at hcl
              omega
            have HCL := hide hcl
            clear hcl
            rcases h3 with e | e | e
            all_goals
              rw [e] at s4 s5 s6
              simp only [Nat.reduceBEq] at s4 s5 s6
              clear e h18
              go_wp2
              go_roundg (gk - 1)
              case measure => omega
              case rel =>
                refine ⟨oi - 1, n + 1, rfl, rfl, by omega, ?_, by omega, by omega, HT.out, HB.out⟩
                rw [HN.out, HS2.out, HOP.out, HCL.out]; rfl
          · have hc' : (x.1.k == 19) = false ∧ (x.1.k == 23) = false ∧ (x.1.k == 21) = false := by
              unfold closes at hcl
              simp only [Bool.or_eq_true, beq_iff_eq] at hcl
              simp only [beq_eq_false_iff_ne]
              omega
            rw [hc'.1] at s4
            rw [hc'.2.1] at s5
            rw [hc'.2.2] at s6
            have HCL : Hid (closes x.1.k = false) := by
              show _ = _
              simpa using hcl
            clear hcl hc' h18
            go_wp2
            go_roundg (gk - 1)
            case measure => omega
            case rel =>
              refine ⟨oi, n + 1, rfl, rfl, by omega, ?_, by omega, by omega, HT.out, HB.out⟩
              rw [HN.out, HS2.out, HOP.out, HCL.out]; rfl
    · have HE := hide (nest_end (xs.map (·.1)) n (by simpa using hlt) oi)
      go_wp2
      go_ret
      refine ⟨?_, HB.out⟩
      rw [HN.out, HE.out]; rfl
end Go.Proofs.YtgccmgjbbcndbaaGreatDoor
/- The state of the document's look at names, in memory. -/
namespace Go.Proofs.YtgccmgjbbcndbaaGreatDoor
open Go.RowKit
open Go.Deep (BT)

def nmV (s : Nm) : Value := .string ⟨s.toArray⟩
def blV (n : Nat) : Value := .int .i64 (n : Nat)

/- the blocks of a sort are as they were -/
structure BelD (D : Nat → Prop) (w w' : World) : Prop where
  os : w'.os = w.os
  tape : w'.tape = w.tape
  output : w'.output = w.output
  size : w.heap.size ≤ w'.heap.size
  block : ∀ k, D k → w'.heap[k]? = w.heap[k]?
theorem BelD.refl (D : Nat → Prop) (w : World) : BelD D w w := ⟨rfl, rfl, rfl, Nat.le_refl _, fun _ _ => rfl⟩
theorem BelD.trans {D : Nat → Prop} {w w1 w2 : World} (h : BelD D w w1) (h2 : BelD D w1 w2) : BelD D w w2 := ⟨h2.os.trans h.os, h2.tape.trans h.tape, h2.output.trans h.output, Nat.le_trans h.size h2.size, fun k hk => (h2.block k hk).trans (h.block k hk)⟩
theorem BelD.set {D : Nat → Prop} {x w : World} (h : BelD D x w) {p : Addr} (hp : ¬ D p.block) (u : Value) : BelD D x (w.setCell p u) := ⟨h.os, h.tape, h.output, by simp [World.setCell]; exact h.size, fun k hk => (Below.heap_setCell _ _ _ _ (fun e => hp (by rw [← e]; exact hk))).trans (h.block k hk)⟩
theorem BelD.alloc {D : Nat → Prop} {x w : World} (h : BelD D x w) (hn : ∀ g, D g → g < x.heap.size) (o : Obj) : BelD D x (w.alloc o) := ⟨h.os, h.tape, h.output, by simp; have := h.size; omega, fun k hk => (Below.heap_alloc _ _ _ (Nat.lt_of_lt_of_le (hn k hk) h.size)).trans (h.block k hk)⟩
theorem BelD.grown {D : Nat → Prop} {x w w' : World} {row : Option Nat} (h : BelD D x w) (hg : w.grownBy w' row) (hn : ∀ g, D g → g < x.heap.size) (hr : ∀ k, row = some k → ¬ D k) : BelD D x w' :=
  ⟨hg.os.trans h.os, hg.tape.trans h.tape, hg.output.trans h.output, Nat.le_trans h.size hg.size, fun k hk => (hg.block k (Nat.lt_of_lt_of_le (hn k hk) h.size) (fun e => hr k e.symm hk)).trans (h.block k hk)⟩
theorem beld_of {D : Nat → Prop} {w w' : World} (h : Below w.heap.size w w') (hn : ∀ g, D g → g < w.heap.size) : BelD D w w' := ⟨h.os, h.tape, h.output, h.size, fun k hk => h.block k (hn k hk)⟩
theorem BelD.weak {D E : Nat → Prop} {w w' : World} (h : BelD D w w') (he : ∀ g, E g → D g) : BelD E w w' := ⟨h.os, h.tape, h.output, h.size, fun k hk => h.block k (he k hk)⟩

structure SSv (D : Nat → Prop) (sb pb te : Nat) (w : World) (outer : List Nm) (ob : List Nat) (cur : List Nm) (blk wh : Nat) (inn : Bool) (f : Flt) (na : Option Addr) (nn nc : Nat) (ba : Option Addr) (bn bc : Nat) (bs : List Nat) : Prop where
  cell : w.heap[sb]? = some (.cells #[.pointer (some ⟨pb, 0, none⟩), .slice na nn nc, .slice ba bn bc, .int .i64 (blk : Nat), .int .i64 (wh : Nat), .bool inn, .int .i64 (f.1 : Nat), .int .i64 (f.2 : Nat)] te (0, 0))
  names : w.ownsRow 0 9 1 (.slice na nn nc) (outer ++ cur).length ((outer ++ cur).map nmV)
  blocks : w.ownsRow 0 3 1 (.slice ba bn bc) bs.length (bs.map blV)
  len : bs.length = (outer ++ cur).length
  out : ∀ i (h : i < bs.length), i < outer.length → bs[i] < blk
  inn' : ∀ i (h : i < bs.length), outer.length ≤ i → bs[i] = blk
  lo1 : ¬ D sb
  lo2 : ∀ g, (Value.slice na nn nc).ownBlock = some g → ¬ D g ∧ g ≠ sb ∧ (Value.slice ba bn bc).ownBlock ≠ some g
  lo3 : ∀ g, (Value.slice ba bn bc).ownBlock = some g → ¬ D g ∧ g ≠ sb
  few : blk ≤ 100000 ∧ wh ≤ 100000
  bsE : bs = ob ++ List.replicate cur.length blk ∧ ob.length = outer.length

def SSt (D : Nat → Prop) (sb pb te : Nat) (w : World) (outer : List Nm) (ob : List Nat) (cur : List Nm) (blk wh : Nat) (inn : Bool) (f : Flt) : Prop :=
  ∃ na nn nc ba bn bc bs, SSv D sb pb te w outer ob cur blk wh inn f na nn nc ba bn bc bs

theorem blk8 {w : World} {g : Nat} {a0 a1 a2 a3 a4 a5 a6 a7 : Value} {t : TypeId} (h : w.heap[g]? = some (.cells #[a0, a1, a2, a3, a4, a5, a6, a7] t (0, 0))) :
    w.cell? ⟨g, 0, none⟩ = some a0 ∧ w.cell? ⟨g, 1, none⟩ = some a1 ∧ w.cell? ⟨g, 2, none⟩ = some a2 ∧ w.cell? ⟨g, 3, none⟩ = some a3 ∧ w.cell? ⟨g, 4, none⟩ = some a4 ∧ w.cell? ⟨g, 5, none⟩ = some a5 ∧ w.cell? ⟨g, 6, none⟩ = some a6 ∧ w.cell? ⟨g, 7, none⟩ = some a7 ∧ (∀ o, w.frozen? ⟨g, o, none⟩ = false) ∧ g < w.heap.size :=
  ⟨cell_row h 0 _ rfl, cell_row h 1 _ rfl, cell_row h 2 _ rfl, cell_row h 3 _ rfl, cell_row h 4 _ rfl, cell_row h 5 _ rfl, cell_row h 6 _ rfl, cell_row h 7 _ rfl, frozen_row h, heap_lt h⟩

/- a world in which the state's blocks are as they were -/
theorem SSv.keep {D : Nat → Prop} {sb pb te : Nat} {w w' : World} {outer cur : List Nm} {ob : List Nat} {blk wh : Nat} {inn : Bool} {f : Flt} {na : Option Addr} {nn nc : Nat} {ba : Option Addr} {bn bc : Nat} {bs : List Nat} (h : SSv D sb pb te w outer ob cur blk wh inn f na nn nc ba bn bc bs)
    (hk : ∀ g, g < w.heap.size → w'.heap[g]? = w.heap[g]?) : SSv D sb pb te w' outer ob cur blk wh inn f na nn nc ba bn bc bs :=
  ⟨(hk sb (heap_lt h.cell)).trans h.cell, own_same h.names (fun g _ hl => hk g hl), own_same h.blocks (fun g _ hl => hk g hl), h.len, h.out, h.inn', h.lo1, h.lo2, h.lo3, h.few, h.bsE⟩

/- the state's own cell is written -/
theorem SSv.put {D : Nat → Prop} {sb pb te : Nat} {w w' : World} {outer cur : List Nm} {ob : List Nat} {blk wh : Nat} {inn : Bool} {f : Flt} {na : Option Addr} {nn nc : Nat} {ba : Option Addr} {bn bc : Nat} {bs : List Nat} (h : SSv D sb pb te w outer ob cur blk wh inn f na nn nc ba bn bc bs) (wh' : Nat) (inn' : Bool) (f' : Flt) (hwh : wh' ≤ 100000)
    (hc : w'.heap[sb]? = some (.cells #[.pointer (some ⟨pb, 0, none⟩), .slice na nn nc, .slice ba bn bc, .int .i64 (blk : Nat), .int .i64 (wh' : Nat), .bool inn', .int .i64 (f'.1 : Nat), .int .i64 (f'.2 : Nat)] te (0, 0)))
    (hk : ∀ g, g < w.heap.size → g ≠ sb → w'.heap[g]? = w.heap[g]?) : SSv D sb pb te w' outer ob cur blk wh' inn' f' na nn nc ba bn bc bs :=
  ⟨hc, own_same h.names (fun g hg hl => hk g hl (h.lo2 g hg).2.1), own_same h.blocks (fun g hg hl => hk g hl (h.lo3 g hg).2), h.len, h.out, h.inn', h.lo1, h.lo2, h.lo3, ⟨h.few.1, hwh⟩, h.bsE⟩

theorem own_at {w : World} {base : Nat} {e : TypeId} {va : Option Addr} {vn vc n : Nat} {xs : List Value} (h : w.ownsRow base e 1 (.slice va vn vc) n xs) (i : Nat) (hi : i < n) :
    ∃ g, va = some ⟨g, 0, none⟩ ∧ vn = n ∧ n ≤ vc ∧ g < w.heap.size ∧ (∀ o, w.frozen? ⟨g, o, none⟩ = false) ∧ ∃ hh : i < xs.length, w.cell? ⟨g, i, none⟩ = some (xs[i]'hh) := by
  obtain ⟨hl, ⟨h2, h3⟩ | ⟨g, cap, cur, hv, _, hg, hcap, _, _, ht⟩⟩ := h
  · omega
  · injection hv with e1 e2 e3
    subst e1 e2 e3
    refine ⟨g, rfl, rfl, hcap, heap_lt hg, frozen_row hg, by omega, ?_⟩
    have hi' : i < xs.length := by omega
    have hx : xs[i]? = some xs[i] := List.getElem?_eq_getElem hi'
    have h2 : xs[i]? = cur[i]? := by
      rw [show xs[i]? = (List.take (vn * 1) cur.toList)[i]? by rw [ht], List.getElem?_take, if_pos (by omega), Array.getElem?_toList]
    rw [cell_of_row w g i cur _ _ hg, ← h2]
    exact hx

theorem had_iff {outer cur : List Nm} {bs : List Nat} {blk : Nat} (hl : bs.length = (outer ++ cur).length) (ho : ∀ i (h : i < bs.length), i < outer.length → bs[i] < blk) (hc : ∀ i (h : i < bs.length), outer.length ≤ i → bs[i] = blk) (s : Nm) :
    s ∈ cur ↔ ∃ i, ∃ h : i < bs.length, ∃ h' : i < (outer ++ cur).length, (outer ++ cur)[i] = s ∧ bs[i] = blk := by
  constructor
  · intro h
    obtain ⟨j, hj, e⟩ := List.getElem_of_mem h
    have h1 : outer.length + j < (outer ++ cur).length := by simp; omega
    refine ⟨outer.length + j, by omega, h1, ?_, hc _ _ (by omega)⟩
    rw [List.getElem_append_right (by omega)]
    simpa using e
  · rintro ⟨i, h, h', e1, e2⟩
    by_cases hi : i < outer.length
    · have := ho i h hi; omega
    · rw [List.getElem_append_right (by omega)] at e1
      rw [← e1]; exact List.getElem_mem _
end Go.Proofs.YtgccmgjbbcndbaaGreatDoor
/- Walks of Sense: wrong, had, seen. -/
namespace Go.Proofs.YtgccmgjbbcndbaaGreatDoor
open Go.RowKit
open Go.Deep (BT)

set_option maxRecDepth 100000 in
set_option maxHeartbeats 1000000 in
theorem wrong_any {D : Nat → Prop} {sb pb te : Nat} {w : World} {outer cur : List Nm} {ob : List Nat} {blk wh : Nat} {inn : Bool} {f : Flt} (h : SSt D sb pb te w outer ob cur blk wh inn f) (is : Bool) (code line : Nat) (q1 q2 : Int) (h1 : q1 = code) (h2 : q2 = line) :
    Calls Tryz.prog 25 #[.pointer (some ⟨sb, 0, none⟩), .bool is, .int .i64 q1, .int .i64 q2] w fun e w' => e = .returned (.tuple #[]) ∧ SSt D sb pb te w' outer ob cur blk wh inn (wrongF is code line f) ∧ BelD D w w' := by
  subst h1 h2
  obtain ⟨na, nn, nc, ba, bn, bc, bs, h⟩ := h
  obtain ⟨c0, c1, c2, c3, c4, c5, c6, c7, fz, ls⟩ := blk8 h.cell
  have HH := hide h
  cases is
  · have HE : Hid (wrongF false code line f = f) := rfl
    clear h
    go_enter Tryz.func25, Tryz.ntmps25
    go_wp2
    go_end0
    exact ⟨rfl, by rw [HE.out]; exact ⟨na, nn, nc, ba, bn, bc, bs, HH.out⟩, BelD.refl _ _⟩
  · by_cases h0 : f.1 = 0
    · have HE : Hid (wrongF true code line f = (code, line)) := by
        show _ = _
        unfold wrongF; rw [h0]; rfl
      rw [h0] at c6
      clear h h0
      go_enter Tryz.func25, Tryz.ntmps25
      go_wp2
      go_end0
      rw [HE.out]
      refine ⟨rfl, ⟨na, nn, nc, ba, bn, bc, bs, HH.out.put wh inn (code, line) HH.out.few.2 ?_ ?_⟩, ?_⟩
      · have := heap_set (j := 7) (heap_set (j := 6) HH.out.cell (.int .i64 (code : Nat))) (.int .i64 (line : Nat))
        simpa using this
      · intro g hg hne
        rw [Below.heap_setCell _ _ _ _ (by exact hne), Below.heap_setCell _ _ _ _ (by exact hne)]
      · exact BelD.set (p := ⟨sb, 7, none⟩) (BelD.set (p := ⟨sb, 6, none⟩) (BelD.refl _ _) HH.out.lo1 _) HH.out.lo1 _
    · have HE : Hid (wrongF true code line f = f) := by
        show _ = _
        exact wrongF_keep _ _ _ _ h0
      have t1 : (((f.1 : Nat) : Int) == 0) = false := by rw [beq_eq_false_iff_ne]; omega
      clear h h0
      go_enter Tryz.func25, Tryz.ntmps25
      go_wp2
      go_end0
      exact ⟨rfl, by rw [HE.out]; exact ⟨na, nn, nc, ba, bn, bc, bs, HH.out⟩, BelD.refl _ _⟩
end Go.Proofs.YtgccmgjbbcndbaaGreatDoor
