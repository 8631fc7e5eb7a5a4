import Derived.Test.YtgccmgjbbcndbaaGreatDoorM38
import Derived.Test.YtgccmgjbbcndbaaGreatDoorM27
import Derived.Test.YtgccmgjbbcndbaaGreatDoorM28
import Derived.Lib.SliceRun
/- Walks of the code's parser: nesting, Program. -/
namespace Go.Proofs.YtgccmgjbbcndbaaGreatDoor
open Go.RowKit
open Go.Deep (BT)

structure CRow (tb cap : Nat) (ts : List Tk) (w : World) : Prop where
  toks : CToks ts
  tok : ∃ cur, w.heap[tb]? = some (.cells cur 93 (0, 0)) ∧ cur.toList.take (ts.length * 4) = ctks ts
  cap : ts.length ≤ cap
theorem CRow.cell {tb cap : Nat} {ts : List Tk} {w : World} (h : CRow tb cap ts w) (i j : Nat) (hi : i < ts.length) (hj : j < 4) : w.cell? ⟨tb, i * 4 + j, none⟩ = (ctk ts[i])[j]? := by
  obtain ⟨cur, h1, h2⟩ := h.tok
  rw [cell_of_row w tb (i * 4 + j) cur _ _ h1, ← ctks_at ts i j hi hj, ← h2, List.getElem?_take, if_pos (by omega), Array.getElem?_toList]
theorem CRow.lt {tb cap : Nat} {ts : List Tk} {w : World} (h : CRow tb cap ts w) : tb < w.heap.size := by
  obtain ⟨cur, h1, _⟩ := h.tok; exact heap_lt h1
theorem CRow.keep {tb cap : Nat} {ts : List Tk} {w w' : World} (h : CRow tb cap ts w) (hk : w'.heap[tb]? = w.heap[tb]?) : CRow tb cap ts w' := by
  obtain ⟨cur, h1, h2⟩ := h.tok
  exact ⟨h.toks, ⟨cur, hk.trans h1, h2⟩, h.cap⟩

def nestC (n : Nat) : Nat := if n = 0 then 0 else 1

def NsRel (tb cap : Nat) (ts : List Tk) (w : World) (k : Nat) (o v : Value) (wr : World) : Prop :=
  ∃ (oi : Int) (n : Nat), o = .int .i64 oi ∧ v = .int .i64 n ∧ n + k = ts.length ∧ nest ts 0 = nest (ts.drop n) oi ∧ -(n : Int) ≤ oi ∧ oi ≤ 30 ∧ CRow tb cap ts wr ∧ Below w.heap.size w wr ∧ wr.heap[w.heap.size]? = some (.cells #[.int .i64 0, .int .i64 0] 29 (0, 0))

set_option maxRecDepth 100000 in
set_option maxHeartbeats 4000000 in
theorem nesting_any {tb cap : Nat} {ts : List Tk} (w : World) (h : CRow tb cap ts w) :
    Calls Tryz.prog 29 #[.slice (some ⟨tb, 0, none⟩) ts.length cap] w fun e w' => e = .returned (.agg #[.int .i64 (nestC (nest ts 0) : Nat), .int .i64 (nest ts 0 : Nat)]) ∧ Below w.heap.size w w' := by
  have hfew := h.toks.few
  have HH := hide h
  have ltb := h.lt
  clear h
  go_enter Tryz.func29, Tryz.ntmps29
  go_wp2
  go_loopg [3, 8] ts.length (fun k o v wr => NsRel tb cap ts w k o v wr)
  case atStart =>
    exact ⟨0, 0, rfl, rfl, by omega, rfl, by omega, by omega, HH.out.keep (Below.heap_alloc _ _ _ ltb), (Below.refl _ _).alloc (Nat.le_refl _) _, heap_alloc_new _ _⟩
  case round =>
    clear HH
    obtain ⟨oi, n, rfl, rfl, hnk, hnest, ho1, ho2, ht, hb, hz⟩ := hrel
    have HT := hide ht
    have HB := hide hb
    have HN := hide hnest
    have HZ := hide hz
    have hcap := ht.cap
    obtain ⟨z0, z1, fz, lz⟩ := blk2p hz
    have HSz := hide hb.size
    clear ht hb hnest hz
    by_cases hlt : n < ts.length
    · have HS := hide (nest_step ts n hlt oi)
      have d0 := HT.out.cell n 0 hlt (by omega)
      have d1 := HT.out.cell n 1 hlt (by omega)
      have d2 := HT.out.cell n 2 hlt (by omega)
      have d3 := HT.out.cell n 3 hlt (by omega)
      have hlo := HT.out.lt
      have hline := HT.out.toks.line ts[n] (List.getElem_mem hlt)
      rw [ctk] at d0 d1 d2 d3
      simp only [Nat.add_zero, List.getElem?_cons_zero, List.getElem?_cons_succ] at d0 d1 d2 d3
      have HRel : Hid (∀ (o : Int) (q : Nat), q = n + 1 → nest ts 0 = nest (ts.drop q) o → -(q : Int) ≤ o → o ≤ 30 → ∀ O : Obj, NsRel tb cap ts w (gk - 1) (.int .i64 o) (.int .i64 q) (wr.alloc O)) := by
        intro o q hq h1 h2 h3 O
        exact ⟨o, q, rfl, rfl, by omega, h1, h2, h3, HT.out.keep (Below.heap_alloc _ _ _ hlo), HB.out.alloc HSz.out _, alloc_old HZ.out⟩
      generalize ts[n] = x at *
      by_cases hop : x.k = 18 ∨ x.k = 22 ∨ x.k = 20
      · have HOp : Hid (opens x.k = true) := by
          show _ = _
          unfold opens
          rcases hop with e | e | e <;> rw [e] <;> rfl
        by_cases h30 : oi = 30
        · subst h30
          have HE : Hid (nest ts 0 = x.line) := by
            show _ = _
            rw [HN.out, HS.out, HOp.out, if_pos rfl, if_pos (by omega)]
          rcases hop with e | e | e
          all_goals
            rw [e] at d0
            clear e
            go_wp2
            refine bodyPost_ret (v := .agg #[.int .i64 1, .int .i64 (x.line : Nat)]) (by simp [results, Tryz.results29, go_sem, z0, z1, lz]) rfl ?_
            refine ⟨?_, ?_⟩
            · rw [HE.out, nestC, if_neg (by omega)]; rfl
            · have hsz := HSz.out
              repeat (first | exact HB.out | refine Below.alloc ?_ (by simp [World.setCell]; omega) _ | refine Below.setCell ?_ (by simp) _ | refine Below.drew ?_)
        · have h30' : (oi == 30) = false := by rw [beq_eq_false_iff_ne]; exact h30
          have HE : Hid (nest ts 0 = nest (ts.drop (n + 1)) (oi + 1)) := by
            show _ = _
            rw [HN.out, HS.out, HOp.out, if_pos rfl, if_neg (by omega)]
          rcases hop with e | e | e
          all_goals
            rw [e] at d0
            clear e
            go_wp2
            go_roundg (gk - 1)
            case measure => omega
            case rel => exact HRel.out _ _ rfl HE.out (by omega) (by omega) _
      · have HOp : Hid (opens x.k = false) := by
          show _ = _
          unfold opens
          simp only [Bool.or_eq_false_iff, beq_eq_false_iff_ne]
          omega
        have t18 : ((x.k : Int) == 18) = false := kn (c := 18) rfl (by omega)
        have t22 : ((x.k : Int) == 22) = false := kn (c := 22) rfl (by omega)
        have t20 : ((x.k : Int) == 20) = false := kn (c := 20) rfl (by omega)
        by_cases hcl : x.k = 19 ∨ x.k = 23 ∨ x.k = 21
        · have HE : Hid (nest ts 0 = nest (ts.drop (n + 1)) (oi - 1)) := by
            show _ = _
            have hc : closes x.k = true := by
              unfold closes
              rcases hcl with e | e | e <;> rw [e] <;> rfl
            rw [HN.out, HS.out, HOp.out, hc]; rfl
          clear hop
          rcases hcl with e | e | e
          all_goals
            rw [e] at d0 t18 t20 t22
            clear e
            go_wp2
            go_roundg (gk - 1)
            case measure => omega
            case rel => exact HRel.out _ _ rfl HE.out (by omega) (by omega) _
        · have HE : Hid (nest ts 0 = nest (ts.drop (n + 1)) oi) := by
            show _ = _
            have hc : closes x.k = false := by
              unfold closes
              simp only [Bool.or_eq_false_iff, beq_eq_false_iff_ne]
              omega
            rw [HN.out, HS.out, HOp.out, hc]; rfl
          have t19 : ((x.k : Int) == 19) = false := kn (c := 19) rfl (by omega)
          have t23 : ((x.k : Int) == 23) = false := kn (c := 23) rfl (by omega)
          have t21 : ((x.k : Int) == 21) = false := kn (c := 21) rfl (by omega)
          clear hop hcl
          go_wp2
          go_roundg (gk - 1)
          case measure => omega
          case rel => exact HRel.out _ _ rfl HE.out (by omega) (by omega) _
    · have HE : Hid (nest ts 0 = 0) := by
        show _ = _
        rw [HN.out, nest_end ts n (by omega) oi]
      go_wp2
      refine bodyPost_ret (v := .agg #[.int .i64 0, .int .i64 0]) (by simp [results, Tryz.results29, go_sem, z0, z1]) rfl ?_
      refine ⟨?_, ?_⟩
      · rw [HE.out]; rfl
      · have hsz := HSz.out
        repeat (first | exact HB.out | refine Below.alloc ?_ (by simp [World.setCell]; omega) _ | refine Below.setCell ?_ (by simp) _ | refine Below.drew ?_)
end Go.Proofs.YtgccmgjbbcndbaaGreatDoor
/- Walk of the code's parse.Program. -/
namespace Go.Proofs.YtgccmgjbbcndbaaGreatDoor
open Go.RowKit
open Go.Deep (BT)

theorem pr_start {tb cap : Nat} {ts : List Tk} {w : World} (h : CRow tb cap ts w) (h1 : 0 < ts.length) (te : Nat) :
    PR w.heap.size tb cap te ts (w.alloc (.cells #[.slice (some ⟨tb, 0, none⟩) ts.length cap, .int .i64 0, .int .i64 0, .int .i64 0] te)) ⟨ts, 0⟩ := by
  obtain ⟨cur, k1, k2⟩ := h.tok
  have := heap_lt k1
  exact ⟨0, h.toks, heap_alloc_new w _, ⟨cur, alloc_old k1, k2⟩, by omega, h1, h.cap, fun _ => rfl, fun e => absurd rfl e⟩

def PaPost (w : World) (ts : List Tk) (r : BT Lab × PS) (e : Ending) (w' : World) : Prop :=
  Below w.heap.size w w' ∧ ((r.2.bad ≠ 0 ∧ e = .returned (.tuple #[.pointer none, .agg #[.int .i64 2, .int .i64 (r.2.bad : Nat)]])) ∨ (r.2.bad = 0 ∧ nest ts 0 ≠ 0 ∧ e = .returned (.tuple #[.pointer none, .agg #[.int .i64 1, .int .i64 (nest ts 0 : Nat)]])) ∨
    (r.2.bad = 0 ∧ nest ts 0 = 0 ∧ ∃ pb va vn vc cs, e = .returned (.tuple #[.pointer (some ⟨pb, 0, none⟩), .agg #[.int .i64 0, .int .i64 0]]) ∧ w.heap.size ≤ pb ∧ w'.heap[pb]? = some (.cells #[.slice va vn vc] 74 (0, 0)) ∧
      OwnsD (fun g => w.heap.size ≤ g) w' 76 1 (.slice va vn vc) cs.length cs ∧ RepC (fun g => w.heap.size ≤ g) w' r.1 cs))

set_option maxRecDepth 100000 in
set_option maxHeartbeats 4000000 in
theorem pProgram_any {tb cap : Nat} {ts : List Tk} {n : Nat} (hn : n ≤ 500000) (w : World) (r : BT Lab × PS) (h : CRow tb cap ts w) (h1 : 0 < ts.length) (hp : pars n 10 0 .nil ⟨ts, 0⟩ = some r) :
    Calls Tryz.prog 16 #[.slice (some ⟨tb, 0, none⟩) ts.length cap] w (PaPost w ts r) := by
  have HH := hide h
  have ltb := h.lt
  have HC : Hid (CRow tb cap ts (w.alloc (.cells #[.int .i64 0, .int .i64 0] 29))) := h.keep (Below.heap_alloc _ _ _ ltb)
  have HS := hide (pr_start HC.out h1 98)
  have HX := hide (fun (W : World) (hs : PR (w.alloc (.cells #[.int .i64 0, .int .i64 0] 29)).heap.size tb cap 98 ts W ⟨ts, 0⟩) => pprog_any hn W ⟨ts, 0⟩ r hs hp)
  have hsz : (w.alloc (.cells #[.int .i64 0, .int .i64 0] 29)).heap.size = w.heap.size + 1 := by simp
  have HSz := hide hsz
  clear h hp hsz
  go_enter Tryz.func16, Tryz.ntmps16
  go_wp2_with fail
  rw [show (w.heap.size + 1 : Nat) = (w.alloc (.cells #[.int .i64 0, .int .i64 0] 29)).heap.size from HSz.out.symm]
  refine (HX.out _ HS.out).mono ?_
  rintro e w1 ⟨va, vn, vc, cs, rfl, hpb, hown, hrs, hO, hrep⟩
  have hR := hO.blk (alloc_old (heap_alloc_new w (.cells #[.int .i64 0, .int .i64 0] 29))) (by simp)
  have HTk := hide (HC.out.keep (w' := w1) ((hO.block tb (by simp; omega) (by simp; omega)).trans (Below.heap_alloc _ _ _ (by simp; omega))))
  have HBel : Hid (Below w.heap.size w w1) := ⟨hO.os, hO.tape, hO.output, by have := hO.size; simp at this; omega, fun k hk => (hO.block k (by simp; omega) (by simp; omega)).trans ((Below.heap_alloc _ _ _ (by simp; omega)).trans (Below.heap_alloc _ _ _ hk))⟩
  obtain ⟨x0, x1, fx, lx⟩ := blk2p hR
  have HR := hide hR
  obtain ⟨pl, hrt⟩ := hrs
  have y2 := cell_row hrt.rd 2 _ rfl
  have y3 := cell_row hrt.rd 3 _ rfl
  have ly := heap_lt hrt.rd
  rw [HSz.out] at y2 y3 ly
  have HPb := hide hpb
  have HOwn := hide hown
  have HRep := hide hrep
  have lpb := heap_lt hpb
  have lbad := PR.bads ⟨pl, hrt⟩
  clear hpb hown hrep hR hO hrt HS HX
  by_cases hb : r.2.bad = 0
  · rw [hb] at y2 y3
    have HB := hide hb
    have t0 : ((badC 0 : Nat) : Int) = 0 := rfl
    by_cases hd : nest ts 0 = 0
    · clear hb
      go_wp2_with fail
      refine (nesting_any _ HTk.out).mono ?_
      rintro e w2 ⟨rfl, hb2⟩
      have hR2 := bblk hb2 HR.out
      have HB2 : Hid (Below w.heap.size w w2) := HBel.out.trans (hb2.mono HBel.out.size)
      have lw2 := hb2.size
      have HBn := hide hb2
      clear x0 x1 fx lx y2 y3 ly hb2
      obtain ⟨x0, x1, fx, lx⟩ := blk2p hR2
      clear hR2
      rw [hd]
      have HD := hide hd
      clear hd
      have tn : ((nestC 0 : Nat) : Int) = 0 := rfl
      go_wp2
      refine bodyPost_ret (v := .tuple #[.pointer (some ⟨w.heap.size + 1 + 1, 0, none⟩), .agg #[.int .i64 0, .int .i64 0]]) (by simp [results, Tryz.results16, go_sem, x0, x1, lx]) rfl ?_
      have hold : ∀ k, w.heap.size < k → k < w1.heap.size → (((w2.setCell ⟨w.heap.size, 0, none⟩ (.int .i64 0)).setCell ⟨w.heap.size, 1, none⟩ (.int .i64 0)).alloc (.cells #[.int .i64 0, .int .i64 0] 29)).heap[k]? = w1.heap[k]? := by
        intro k h1 h2
        rw [Below.heap_alloc _ _ _ (by simp [World.setCell]; omega), Below.heap_setCell _ _ _ _ (by show k ≠ w.heap.size; omega), Below.heap_setCell _ _ _ _ (by show k ≠ w.heap.size; omega)]
        exact HBn.out.block k h2
      have hs2 : ((w.alloc (.cells #[.int .i64 0, .int .i64 0] 29)).alloc (.cells #[.slice (some ⟨tb, 0, none⟩) ts.length cap, .int .i64 0, .int .i64 0, .int .i64 0] 98)).heap.size = w.heap.size + 1 + 1 := by simp
      have hpb := HPb.out
      have hown := HOwn.out
      have hrep := HRep.out HB.out
      rw [hs2] at hpb hown hrep lpb
      have hk : ∀ g, w.heap.size + 1 + 1 < g → g < w1.heap.size → (((w2.setCell ⟨w.heap.size, 0, none⟩ (.int .i64 0)).setCell ⟨w.heap.size, 1, none⟩ (.int .i64 0)).alloc (.cells #[.int .i64 0, .int .i64 0] 29)).heap[g]? = w1.heap[g]? ∧ w.heap.size ≤ g := fun g hg hl => ⟨hold g (by omega) hl, by omega⟩
      refine ⟨?_, .inr (.inr ⟨HB.out, HD.out, w.heap.size + 1 + 1, va, vn, vc, cs, rfl, by omega, (hold _ (by omega) lpb).trans hpb, hown.keep hk, RepC.keep hk _ _ hrep⟩)⟩
      repeat (first | exact HB2.out | refine Below.alloc ?_ (by simp [World.setCell]; omega) _ | refine Below.setCell ?_ (by simp) _ | refine Below.drew ?_)
    · clear hb
      go_wp2_with fail
      refine (nesting_any _ HTk.out).mono ?_
      rintro e w2 ⟨rfl, hb2⟩
      have hR2 := bblk hb2 HR.out
      have HB2 : Hid (Below w.heap.size w w2) := HBel.out.trans (hb2.mono HBel.out.size)
      have lw2 := hb2.size
      have HBn := hide hb2
      clear x0 x1 fx lx y2 y3 ly hb2
      obtain ⟨x0, x1, fx, lx⟩ := blk2p hR2
      clear hR2
      have hn1 : nestC (nest ts 0) = 1 := by unfold nestC; rw [if_neg hd]
      rw [hn1]
      have HD := hide hd
      clear hd hn1
      go_wp2
      go_region
      all_goals go_wp2
      all_goals refine bodyPost_ret (v := .tuple #[.pointer none, .agg #[.int .i64 1, .int .i64 (nest ts 0 : Nat)]]) (by simp [results, Tryz.results16, go_sem, x0, x1, lx]) rfl ?_
      all_goals refine ⟨?_, .inr (.inl ⟨HB.out, HD.out, rfl⟩)⟩
      all_goals repeat (first | exact HB2.out | refine Below.alloc ?_ (by simp [World.setCell]; omega) _ | refine Below.setCell ?_ (by simp) _ | refine Below.drew ?_)
  · have hbc : badC r.2.bad = 2 := by unfold badC; rw [if_neg hb]
    rw [hbc] at y2
    have HB := hide hb
    clear hb hbc
    go_wp2
    go_region
    all_goals go_wp2
    all_goals refine bodyPost_ret (v := .tuple #[.pointer none, .agg #[.int .i64 2, .int .i64 (r.2.bad : Nat)]]) (by simp [results, Tryz.results16, go_sem, x0, x1]) rfl ?_
    all_goals refine ⟨?_, .inl ⟨HB.out, rfl⟩⟩
    all_goals repeat (first | exact HBel.out | refine Below.alloc ?_ (by simp [World.setCell]; omega) _ | refine Below.setCell ?_ (by simp) _ | refine Below.drew ?_)
end Go.Proofs.YtgccmgjbbcndbaaGreatDoor
/- Stacks in memory: a field that holds a slice of its own. -/
namespace Go.Proofs.YtgccmgjbbcndbaaGreatDoor
open Go.RowKit

structure StF (b : Nat) (row : Option Nat) (w w' : World) : Prop where
  os : w'.os = w.os
  tape : w'.tape = w.tape
  output : w'.output = w.output
  size : w.heap.size ≤ w'.heap.size
  block : ∀ k, k < w.heap.size → k ≠ b → row ≠ some k → w'.heap[k]? = w.heap[k]?
theorem StF.refl (b : Nat) (row : Option Nat) (w : World) : StF b row w w := ⟨rfl, rfl, rfl, Nat.le_refl _, fun _ _ _ _ => rfl⟩

structure Stk (T : TypeId) (b o : Nat) (w : World) (cs : Array Value) (t : TypeId) (va : Option Addr) (vn vc : Nat) (xs : List Value) : Prop where
  blk : w.heap[b]? = some (.cells cs t (0, 0))
  cell : cs[o]? = some (.slice va vn vc)
  own : w.ownsRow 0 T 1 (.slice va vn vc) xs.length xs
  ne : (Value.slice va vn vc).ownBlock ≠ some b

def Pushed (T : TypeId) (b o : Nat) (w : World) (cs : Array Value) (t : TypeId) (va : Option Addr) (vn vc : Nat) (xs : List Value) (u : Value) (w' : World) : Prop :=
  ∃ g cap, Stk T b o w' (cs.setIfInBounds o (.slice (some ⟨g, 0, none⟩) (xs.length + 1) cap)) t (some ⟨g, 0, none⟩) (xs.length + 1) cap (xs ++ [u]) ∧ ((Value.slice va vn vc).ownBlock = some g ∨ w.heap.size ≤ g) ∧ StF b (Value.slice va vn vc).ownBlock w w'
def CutTo (T : TypeId) (b o : Nat) (w : World) (cs : Array Value) (t : TypeId) (va : Option Addr) (vn vc : Nat) (xs : List Value) (m : Nat) (w' : World) : Prop :=
  Stk T b o w' (cs.setIfInBounds o (.slice va m vc)) t va m vc (xs.take m) ∧ StF b (Value.slice va vn vc).ownBlock w w'

theorem set_same_arr {cs : Array Value} {o : Nat} {v : Value} (h : cs[o]? = some v) : cs.setIfInBounds o v = cs := by
  apply Array.ext_getElem?
  intro i
  rw [Array.getElem?_setIfInBounds]
  split
  · rename_i e
    subst e
    rw [h]
    split
    · rfl
    · rename_i hn
      rw [Array.getElem?_eq_none (by omega)] at h
      cases h
  · rfl

theorem heap_setCells (g : Nat) (t : TypeId) (fr : Nat × Nat) : ∀ (vs : List Value) (o : Nat) (cur : Array Value) (w : World), w.heap[g]? = some (.cells cur t fr) →
    ∃ cur', (w.setCells g o vs).heap[g]? = some (.cells cur' t fr) ∧ cur'.size = cur.size ∧ ∀ m, m ≤ o → cur'.toList.take m = cur.toList.take m := by
  intro vs
  induction vs with
  | nil => intro o cur w h; exact ⟨cur, h, rfl, fun _ _ => rfl⟩
  | cons v r ih =>
    intro o cur w h
    obtain ⟨cur', h1, h2, h3⟩ := ih (o + 1) _ _ (heap_set (j := o) h v)
    refine ⟨cur', h1, by rw [h2]; simp, fun m hm => ?_⟩
    rw [h3 m (by omega)]
    simp only [Array.toList_setIfInBounds]
    rw [List.take_set_of_le (by omega)]

theorem setCells_frame (g : Nat) : ∀ (vs : List Value) (o : Nat) (w : World), (w.setCells g o vs).os = w.os ∧ (w.setCells g o vs).tape = w.tape ∧ (w.setCells g o vs).output = w.output ∧ (w.setCells g o vs).heap.size = w.heap.size ∧ ∀ k, k ≠ g → (w.setCells g o vs).heap[k]? = w.heap[k]? := by
  intro vs
  induction vs with
  | nil => intro o w; exact ⟨rfl, rfl, rfl, rfl, fun _ _ => rfl⟩
  | cons v r ih =>
    intro o w
    obtain ⟨h1, h2, h3, h4, h5⟩ := ih (o + 1) (w.setCell ⟨g, o, none⟩ v)
    exact ⟨h1, h2, h3, h4.trans (by simp [World.setCell]), fun k hk => (h5 k hk).trans (Below.heap_setCell _ _ _ _ (by exact hk))⟩
theorem cell_idx {w : World} {b o : Nat} {cs : Array Value} {t : TypeId} {v : Value} (h : w.heap[b]? = some (.cells cs t (0, 0))) (hc : cs[o]? = some v) : w.cell? ⟨b, o, none⟩ = some v := cell_row h o v hc
end Go.Proofs.YtgccmgjbbcndbaaGreatDoor
/- The stack's functions: how many, which one, one more. -/
namespace Go.Proofs.YtgccmgjbbcndbaaGreatDoor
open Go.RowKit

theorem infoWhl : (Tryz.prog.info? 141).map (fun i => (i.zero, i.size, i.bytes)) = some (some (.pointer none), 1, 8) := by kernel_rfl
set_option maxRecDepth 100000 in
set_option maxHeartbeats 1000000 in
theorem slenStr {b o : Nat} {w : World} {cs : Array Value} {t : TypeId} {va : Option Addr} {vn vc : Nat} {xs : List Value} (h : Stk 9 b o w cs t va vn vc xs) : Calls Tryz.prog 81 #[.pointer (some ⟨b, o, none⟩)] w fun e w' => e = .returned (.int .i64 (xs.length : Nat)) ∧ w' = w := by
  have c := cell_idx h.blk h.cell
  have lb := heap_lt h.blk
  have hv : vn = xs.length := (own_cells h.own).1
  subst hv
  clear h
  go_enter Tryz.func81, Tryz.ntmps81
  go_wp2
  go_ret
  exact ⟨rfl, rfl⟩
set_option maxRecDepth 100000 in
set_option maxHeartbeats 1000000 in
theorem satStr {b o : Nat} {w : World} {cs : Array Value} {t : TypeId} {va : Option Addr} {vn vc : Nat} {xs : List Value} (h : Stk 9 b o w cs t va vn vc xs) (i : Nat) (hi : i < xs.length) : Calls Tryz.prog 127 #[.pointer (some ⟨b, o, none⟩), .int .i64 (i : Nat)] w fun e w' => e = .returned xs[i] ∧ w' = w := by
  have c := cell_idx h.blk h.cell
  have lb := heap_lt h.blk
  have hv : vn = xs.length := (own_cells h.own).1
  subst hv
  obtain ⟨g, rfl, _, hcap, lg, fz, hx, cg⟩ := own_at h.own i hi
  clear h
  generalize xs[i] = x at *
  go_enter Tryz.func127, Tryz.ntmps127
  go_wp2
  go_ret
  exact ⟨rfl, rfl⟩
set_option maxRecDepth 100000 in
set_option maxHeartbeats 1000000 in
theorem spushStr {b o : Nat} {w : World} {cs : Array Value} {t : TypeId} {va : Option Addr} {vn vc : Nat} {xs : List Value} (h : Stk 9 b o w cs t va vn vc xs) (hn : xs.length ≤ 900000) (u : ByteArray) (ho : o < cs.size) : Calls Tryz.prog 97 #[.pointer (some ⟨b, o, none⟩), .string u] w fun e w' => e = .returned (.tuple #[]) ∧ Pushed 9 b o w cs t va vn vc xs (.string u) w' := by
  have c := cell_idx h.blk h.cell
  have lb := heap_lt h.blk
  have fz := frozen_row h.blk
  have hv : vn = xs.length := (own_cells h.own).1
  subst hv
  have hown := h.own
  have HH := hide h
  have HNe := hide h.ne
  clear h
  go_enter Tryz.func97, Tryz.ntmps97
  go_wp2_with (at_builtin; refine wpl_app w #[.string u] 9 rfl (.tmp 8) (.tmp 10) 34 rfl 0 1 16 (.string ⟨#[]⟩) Tryz.underlying34 infoStr rfl (by omega) (.slice va xs.length vc) xs.length xs rfl rfl hown rfl (fun v hv => by simp at hv; rw [hv]; rfl) (by omega) (by omega) (Nat.zero_le _) ?_; intro g cap w1 hown1 hgrow hat hg; have hb1 := (hgrow.block b lb (fun e => HNe.out e.symm)).trans HH.out.blk; have c1 := cell_idx hb1 HH.out.cell; have f1 := frozen_row hb1; have lb1 := heap_lt hb1; have HB1 := hide hb1; have HOwn1 := hide hown1; have HGrow := hide hgrow; have HAt := hide hat; clear hb1 hown1 hgrow hat)
  go_end0
  have hgb : g ≠ b := by
    rcases HAt.out with e | e
    · intro e2; rw [e2] at e; exact HNe.out e
    · omega
  refine ⟨rfl, g, cap, ⟨heap_set HB1.out _, ?_, ?_, by simp only [Value.ownBlock, ne_eq, Option.some.injEq]; exact hgb⟩, HAt.out.imp id (fun e => by omega), ⟨HGrow.out.os, HGrow.out.tape, HGrow.out.output, by simp [World.setCell]; exact HGrow.out.size, fun k hk hkb hkr => ?_⟩⟩
  · rw [Array.getElem?_setIfInBounds, if_pos rfl, if_pos ho]
  · rw [List.length_append]
    exact own_same HOwn1.out (fun k hk _ => Below.heap_setCell _ _ _ _ (by simp only [Value.ownBlock, Option.some.injEq] at hk; show k ≠ b; omega))
  · exact (Below.heap_setCell _ _ _ _ (by exact hkb)).trans (HGrow.out.block k hk (fun e => hkr e.symm))
set_option maxRecDepth 100000 in
set_option maxHeartbeats 1000000 in
theorem slenInt {b o : Nat} {w : World} {cs : Array Value} {t : TypeId} {va : Option Addr} {vn vc : Nat} {xs : List Value} (h : Stk 3 b o w cs t va vn vc xs) : Calls Tryz.prog 104 #[.pointer (some ⟨b, o, none⟩)] w fun e w' => e = .returned (.int .i64 (xs.length : Nat)) ∧ w' = w := by
  have c := cell_idx h.blk h.cell
  have lb := heap_lt h.blk
  have hv : vn = xs.length := (own_cells h.own).1
  subst hv
  clear h
  go_enter Tryz.func104, Tryz.ntmps104
  go_wp2
  go_ret
  exact ⟨rfl, rfl⟩
set_option maxRecDepth 100000 in
set_option maxHeartbeats 1000000 in
theorem satInt {b o : Nat} {w : World} {cs : Array Value} {t : TypeId} {va : Option Addr} {vn vc : Nat} {xs : List Value} (h : Stk 3 b o w cs t va vn vc xs) (i : Nat) (hi : i < xs.length) : Calls Tryz.prog 121 #[.pointer (some ⟨b, o, none⟩), .int .i64 (i : Nat)] w fun e w' => e = .returned xs[i] ∧ w' = w := by
  have c := cell_idx h.blk h.cell
  have lb := heap_lt h.blk
  have hv : vn = xs.length := (own_cells h.own).1
  subst hv
  obtain ⟨g, rfl, _, hcap, lg, fz, hx, cg⟩ := own_at h.own i hi
  clear h
  generalize xs[i] = x at *
  go_enter Tryz.func121, Tryz.ntmps121
  go_wp2
  go_ret
  exact ⟨rfl, rfl⟩
set_option maxRecDepth 100000 in
set_option maxHeartbeats 1000000 in
theorem stopInt {b o : Nat} {w : World} {cs : Array Value} {t : TypeId} {va : Option Addr} {vn vc : Nat} {xs : List Value} (h : Stk 3 b o w cs t va vn vc xs) (hn : xs.length ≤ 1000000) (n : Nat) (hi : n < xs.length) (h0 : xs.length = n + 1) : Calls Tryz.prog 102 #[.pointer (some ⟨b, o, none⟩)] w fun e w' => e = .returned (xs[n]'hi) ∧ w' = w := by
  have HL := hide (slenInt h)
  have HA := hide (satInt h n hi)
  rw [h0] at HL
  have hn2 : n ≤ 1000000 := by omega
  generalize hx : xs[n]'hi = x at HA ⊢
  clear h h0 hx
  go_enter Tryz.func102, Tryz.ntmps102
  go_wp2_with fail
  refine HL.out.mono ?_
  rintro e w' ⟨rfl, rfl⟩
  go_wp2_with fail
  refine HA.out.mono ?_
  rintro e w' ⟨rfl, rfl⟩
  go_wp2
  go_ret
  exact ⟨rfl, rfl⟩
set_option maxRecDepth 100000 in
set_option maxHeartbeats 1000000 in
theorem spushInt {b o : Nat} {w : World} {cs : Array Value} {t : TypeId} {va : Option Addr} {vn vc : Nat} {xs : List Value} (h : Stk 3 b o w cs t va vn vc xs) (hn : xs.length ≤ 900000) (u : Int) (ho : o < cs.size) : Calls Tryz.prog 80 #[.pointer (some ⟨b, o, none⟩), .int .i64 u] w fun e w' => e = .returned (.tuple #[]) ∧ Pushed 3 b o w cs t va vn vc xs (.int .i64 u) w' := by
  have c := cell_idx h.blk h.cell
  have lb := heap_lt h.blk
  have fz := frozen_row h.blk
  have hv : vn = xs.length := (own_cells h.own).1
  subst hv
  have hown := h.own
  have HH := hide h
  have HNe := hide h.ne
  clear h
  go_enter Tryz.func80, Tryz.ntmps80
  go_wp2_with (at_builtin; refine wpl_app w #[.int .i64 u] 3 rfl (.tmp 8) (.tmp 10) 65 rfl 0 1 8 (.int .i64 0) Tryz.underlying65 infoInt rfl (by omega) (.slice va xs.length vc) xs.length xs rfl rfl hown rfl (fun v hv => by simp at hv; rw [hv]; rfl) (by omega) (by omega) (Nat.zero_le _) ?_; intro g cap w1 hown1 hgrow hat hg; have hb1 := (hgrow.block b lb (fun e => HNe.out e.symm)).trans HH.out.blk; have c1 := cell_idx hb1 HH.out.cell; have f1 := frozen_row hb1; have lb1 := heap_lt hb1; have HB1 := hide hb1; have HOwn1 := hide hown1; have HGrow := hide hgrow; have HAt := hide hat; clear hb1 hown1 hgrow hat)
  go_end0
  have hgb : g ≠ b := by
    rcases HAt.out with e | e
    · intro e2; rw [e2] at e; exact HNe.out e
    · omega
  refine ⟨rfl, g, cap, ⟨heap_set HB1.out _, ?_, ?_, by simp only [Value.ownBlock, ne_eq, Option.some.injEq]; exact hgb⟩, HAt.out.imp id (fun e => by omega), ⟨HGrow.out.os, HGrow.out.tape, HGrow.out.output, by simp [World.setCell]; exact HGrow.out.size, fun k hk hkb hkr => ?_⟩⟩
  · rw [Array.getElem?_setIfInBounds, if_pos rfl, if_pos ho]
  · rw [List.length_append]
    exact own_same HOwn1.out (fun k hk _ => Below.heap_setCell _ _ _ _ (by simp only [Value.ownBlock, Option.some.injEq] at hk; show k ≠ b; omega))
  · exact (Below.heap_setCell _ _ _ _ (by exact hkb)).trans (HGrow.out.block k hk (fun e => hkr e.symm))
set_option maxRecDepth 100000 in
set_option maxHeartbeats 1000000 in
theorem slenWhl {b o : Nat} {w : World} {cs : Array Value} {t : TypeId} {va : Option Addr} {vn vc : Nat} {xs : List Value} (h : Stk 141 b o w cs t va vn vc xs) : Calls Tryz.prog 120 #[.pointer (some ⟨b, o, none⟩)] w fun e w' => e = .returned (.int .i64 (xs.length : Nat)) ∧ w' = w := by
  have c := cell_idx h.blk h.cell
  have lb := heap_lt h.blk
  have hv : vn = xs.length := (own_cells h.own).1
  subst hv
  clear h
  go_enter Tryz.func120, Tryz.ntmps120
  go_wp2
  go_ret
  exact ⟨rfl, rfl⟩
set_option maxRecDepth 100000 in
set_option maxHeartbeats 1000000 in
theorem satWhl {b o : Nat} {w : World} {cs : Array Value} {t : TypeId} {va : Option Addr} {vn vc : Nat} {xs : List Value} (h : Stk 141 b o w cs t va vn vc xs) (i : Nat) (hi : i < xs.length) : Calls Tryz.prog 128 #[.pointer (some ⟨b, o, none⟩), .int .i64 (i : Nat)] w fun e w' => e = .returned xs[i] ∧ w' = w := by
  have c := cell_idx h.blk h.cell
  have lb := heap_lt h.blk
  have hv : vn = xs.length := (own_cells h.own).1
  subst hv
  obtain ⟨g, rfl, _, hcap, lg, fz, hx, cg⟩ := own_at h.own i hi
  clear h
  generalize xs[i] = x at *
  go_enter Tryz.func128, Tryz.ntmps128
  go_wp2
  go_ret
  exact ⟨rfl, rfl⟩
set_option maxRecDepth 100000 in
set_option maxHeartbeats 1000000 in
theorem stopWhl {b o : Nat} {w : World} {cs : Array Value} {t : TypeId} {va : Option Addr} {vn vc : Nat} {xs : List Value} (h : Stk 141 b o w cs t va vn vc xs) (hn : xs.length ≤ 1000000) (n : Nat) (hi : n < xs.length) (h0 : xs.length = n + 1) : Calls Tryz.prog 118 #[.pointer (some ⟨b, o, none⟩)] w fun e w' => e = .returned (xs[n]'hi) ∧ w' = w := by
  have HL := hide (slenWhl h)
  have HA := hide (satWhl h n hi)
  rw [h0] at HL
  have hn2 : n ≤ 1000000 := by omega
  generalize hx : xs[n]'hi = x at HA ⊢
  clear h h0 hx
  go_enter Tryz.func118, Tryz.ntmps118
  go_wp2_with fail
  refine HL.out.mono ?_
  rintro e w' ⟨rfl, rfl⟩
  go_wp2_with fail
  refine HA.out.mono ?_
  rintro e w' ⟨rfl, rfl⟩
  go_wp2
  go_ret
  exact ⟨rfl, rfl⟩
set_option maxRecDepth 100000 in
set_option maxHeartbeats 1000000 in
theorem spushWhl {b o : Nat} {w : World} {cs : Array Value} {t : TypeId} {va : Option Addr} {vn vc : Nat} {xs : List Value} (h : Stk 141 b o w cs t va vn vc xs) (hn : xs.length ≤ 900000) (u : Option Addr) (ho : o < cs.size) : Calls Tryz.prog 98 #[.pointer (some ⟨b, o, none⟩), .pointer u] w fun e w' => e = .returned (.tuple #[]) ∧ Pushed 141 b o w cs t va vn vc xs (.pointer u) w' := by
  have c := cell_idx h.blk h.cell
  have lb := heap_lt h.blk
  have fz := frozen_row h.blk
  have hv : vn = xs.length := (own_cells h.own).1
  subst hv
  have hown := h.own
  have HH := hide h
  have HNe := hide h.ne
  clear h
  go_enter Tryz.func98, Tryz.ntmps98
  go_wp2_with (at_builtin; refine wpl_app w #[.pointer u] 141 rfl (.tmp 8) (.tmp 10) 106 rfl 0 1 8 (.pointer none) Tryz.underlying106 infoWhl rfl (by omega) (.slice va xs.length vc) xs.length xs rfl rfl hown rfl (fun v hv => by simp at hv; rw [hv]; rfl) (by omega) (by omega) (Nat.zero_le _) ?_; intro g cap w1 hown1 hgrow hat hg; have hb1 := (hgrow.block b lb (fun e => HNe.out e.symm)).trans HH.out.blk; have c1 := cell_idx hb1 HH.out.cell; have f1 := frozen_row hb1; have lb1 := heap_lt hb1; have HB1 := hide hb1; have HOwn1 := hide hown1; have HGrow := hide hgrow; have HAt := hide hat; clear hb1 hown1 hgrow hat)
  go_end0
  have hgb : g ≠ b := by
    rcases HAt.out with e | e
    · intro e2; rw [e2] at e; exact HNe.out e
    · omega
  refine ⟨rfl, g, cap, ⟨heap_set HB1.out _, ?_, ?_, by simp only [Value.ownBlock, ne_eq, Option.some.injEq]; exact hgb⟩, HAt.out.imp id (fun e => by omega), ⟨HGrow.out.os, HGrow.out.tape, HGrow.out.output, by simp [World.setCell]; exact HGrow.out.size, fun k hk hkb hkr => ?_⟩⟩
  · rw [Array.getElem?_setIfInBounds, if_pos rfl, if_pos ho]
  · rw [List.length_append]
    exact own_same HOwn1.out (fun k hk _ => Below.heap_setCell _ _ _ _ (by simp only [Value.ownBlock, Option.some.injEq] at hk; show k ≠ b; omega))
  · exact (Below.heap_setCell _ _ _ _ (by exact hkb)).trans (HGrow.out.block k hk (fun e => hkr e.symm))
end Go.Proofs.YtgccmgjbbcndbaaGreatDoor
