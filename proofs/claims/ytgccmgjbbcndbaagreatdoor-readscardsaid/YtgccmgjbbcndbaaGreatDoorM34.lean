import Derived.Test.YtgccmgjbbcndbaaGreatDoorM11
import Derived.Test.YtgccmgjbbcndbaaGreatDoorM02
import Derived.Test.YtgccmgjbbcndbaaGreatDoorM23
import Derived.Deep.QuietTactic
import Derived.BigQuiet
/- Plain mathematics: which trees stand where. -/
namespace Go.Proofs.YtgccmgjbbcndbaaGreatDoor
open Go.Deep (BT)

def exK (kd : Nat) : Bool := (decide (1 ≤ kd) && decide (kd ≤ 14)) || (decide (127 ≤ kd) && decide (kd ≤ 140))
def stK (kd : Nat) : Bool := kd == 21 || (decide (24 ≤ kd) && decide (kd ≤ 30))

/- of expressions (0), of statements (1), of the parts of an if (2), of a while (3), of a program (4) -/
def Wf : Nat → BT Lab → Prop
  | _, .nil => True
  | m, .node _ _ l c r => Wf m r ∧ (((m = 0 ∨ m = 2 ∨ m = 3) ∧ exK l.kd = true ∧ Wf 0 c) ∨ (m = 2 ∧ l.kd = 31 ∧ Wf 1 c) ∨ (m = 3 ∧ l.kd = 32 ∧ Wf 1 c) ∨
      ((m = 1 ∨ m = 4) ∧ l.kd = 22 ∧ Wf 2 c) ∨ ((m = 1 ∨ m = 4) ∧ l.kd = 23 ∧ Wf 3 c) ∨ ((m = 1 ∨ m = 4) ∧ stK l.kd = true ∧ Wf 0 c) ∨ (m = 4 ∧ l.kd = 20 ∧ Wf 1 c))

theorem Wf.app : ∀ (m : Nat) (f g : BT Lab), Wf m f → Wf m g → Wf m (bapp f g) := by
  intro m f
  induction f with
  | nil => intro g _ h; exact h
  | node x y l c r ih1 ih2 => intro g h1 h2; exact ⟨ih2 g h1.1 h2, h1.2⟩
theorem Wf.ex {l : Lab} {c : BT Lab} (h : exK l.kd = true) (hc : Wf 0 c) : Wf 0 (nd l c) := ⟨trivial, .inl ⟨.inl rfl, h, hc⟩⟩
theorem Wf.st {l : Lab} {c : BT Lab} (h : stK l.kd = true) (hc : Wf 0 c) : Wf 1 (nd l c) := ⟨trivial, .inr (.inr (.inr (.inr (.inr (.inl ⟨.inl rfl, h, hc⟩)))))⟩
theorem Wf.up2 : ∀ (f : BT Lab), Wf 0 f → Wf 2 f := by
  intro f
  induction f with
  | nil => intro _; trivial
  | node x y l c r ih1 ih2 =>
    intro h
    refine ⟨ih2 h.1, ?_⟩
    rcases h.2 with ⟨_, h1, h2⟩ | ⟨h1, _⟩ | ⟨h1, _⟩ | ⟨h1, _⟩ | ⟨h1, _⟩ | ⟨h1, _⟩ | ⟨h1, _⟩
    · exact .inl ⟨.inr (.inl rfl), h1, h2⟩
    all_goals omega
theorem Wf.up3 : ∀ (f : BT Lab), Wf 0 f → Wf 3 f := by
  intro f
  induction f with
  | nil => intro _; trivial
  | node x y l c r ih1 ih2 =>
    intro h
    refine ⟨ih2 h.1, ?_⟩
    rcases h.2 with ⟨_, h1, h2⟩ | ⟨h1, _⟩ | ⟨h1, _⟩ | ⟨h1, _⟩ | ⟨h1, _⟩ | ⟨h1, _⟩ | ⟨h1, _⟩
    · exact .inl ⟨.inr (.inr rfl), h1, h2⟩
    all_goals omega
theorem Wf.up4 : ∀ (f : BT Lab), Wf 1 f → Wf 4 f := by
  intro f
  induction f with
  | nil => intro _; trivial
  | node x y l c r ih1 ih2 =>
    intro h
    refine ⟨ih2 h.1, ?_⟩
    rcases h.2 with ⟨h0, _⟩ | ⟨h0, _⟩ | ⟨h0, _⟩ | ⟨_, h1, h2⟩ | ⟨_, h1, h2⟩ | ⟨_, h1, h2⟩ | ⟨h0, _⟩
    · omega
    · omega
    · omega
    · exact .inr (.inr (.inr (.inl ⟨.inr rfl, h1, h2⟩)))
    · exact .inr (.inr (.inr (.inr (.inl ⟨.inr rfl, h1, h2⟩))))
    · exact .inr (.inr (.inr (.inr (.inr (.inl ⟨.inr rfl, h1, h2⟩)))))
    · omega
theorem Wf.kids0 {f : BT Lab} (h : Wf 0 f) : Wf 0 (kidsOf f) := by
  cases f with
  | nil => trivial
  | node x y l c r =>
    rcases h.2 with ⟨_, h1, h2⟩ | ⟨h1, _⟩ | ⟨h1, _⟩ | ⟨h1, _⟩ | ⟨h1, _⟩ | ⟨h1, _⟩ | ⟨h1, _⟩
    · exact h2
    all_goals omega

structure WfP (n : Nat) : Prop where
  expr : ∀ a s r, pars n 0 a .nil s = some r → Wf 0 r.1
  loop : ∀ a acc s r, Wf 0 acc → pars n 1 a acc s = some r → Wf 0 r.1
  unary : ∀ s r, pars n 2 0 .nil s = some r → Wf 0 r.1
  index : ∀ acc s r, Wf 0 acc → pars n 3 0 acc s = some r → Wf 0 r.1
  atom : ∀ s r, pars n 4 0 .nil s = some r → Wf 0 r.1
  list : ∀ a s r, pars n 5 a .nil s = some r → Wf 0 r.1
  more : ∀ a acc s r, Wf 0 acc → pars n 6 a acc s = some r → Wf 0 r.1
  block : ∀ s r, pars n 7 0 .nil s = some r → Wf 1 r.1
  stmts : ∀ acc s r, Wf 1 acc → pars n 8 0 acc s = some r → Wf 1 r.1
  stmt : ∀ s r, pars n 9 0 .nil s = some r → Wf 1 r.1

theorem row_ex {k a : Nat} (h : rowOf k = a + 1) : exK (100 + k) = true := by
  have : 27 ≤ k ∧ k ≤ 40 := by
    unfold rowOf at h
    repeat' split at h
    all_goals omega
  unfold exK
  simp only [Bool.or_eq_true, Bool.and_eq_true, decide_eq_true_eq]
  omega

theorem wf_atom {n : Nat} (ih : WfP n) {s : PS} {r : BT Lab × PS} (h : pars (n + 1) 4 0 .nil s = some r) : Wf 0 r.1 := by
  by_cases c2 : kT s = 2
  · rw [pars_int c2 h]; exact Wf.ex rfl trivial
  by_cases c3 : kT s = 3
  · rw [pars_text c3 h]; exact Wf.ex rfl trivial
  by_cases c13 : kT s = 13
  · rw [pars_true c13 h]; exact Wf.ex rfl trivial
  by_cases c14 : kT s = 14
  · rw [pars_false c14 h]; exact Wf.ex rfl trivial
  by_cases c15 : kT s = 15
  · rw [pars_null c15 h]; exact Wf.ex rfl trivial
  by_cases c1 : kT s = 1
  · by_cases c18 : kT (takeS s) = 18
    · obtain ⟨x, hx, hr⟩ := pars_call c1 c18 h
      rw [hr]; exact Wf.ex rfl (ih.list _ _ _ hx)
    · rw [pars_name c1 c18 h]; exact Wf.ex rfl trivial
  by_cases c18 : kT s = 18
  · obtain ⟨x, hx, hr⟩ := pars_group c18 h
    rw [hr]; exact Wf.ex rfl (ih.expr _ _ _ hx)
  by_cases c22 : kT s = 22
  · obtain ⟨x, hx, hr⟩ := pars_array c22 h
    rw [hr]; exact Wf.ex rfl (ih.list _ _ _ hx)
  by_cases c16 : kT s = 16
  · obtain ⟨x, hx, hr⟩ := pars_len c16 h
    rw [hr]; exact Wf.ex rfl (ih.expr _ _ _ hx)
  by_cases c17 : kT s = 17
  · obtain ⟨x, y, hx, hy, hr⟩ := pars_push c17 h
    rw [hr]; exact Wf.ex rfl (Wf.app _ _ _ (ih.expr _ _ _ hx) (ih.expr _ _ _ hy))
  rw [pars_none c2 c3 c13 c14 c15 c1 c18 c22 c16 c17 h]; trivial

theorem wf_stmt {n : Nat} (ih : WfP n) {s : PS} {r : BT Lab × PS} (h : pars (n + 1) 9 0 .nil s = some r) : Wf 1 r.1 := by
  by_cases c5 : kT s = 5
  · obtain ⟨x, hx, hr⟩ := pars_slet c5 h
    rw [hr]; exact Wf.st rfl (ih.expr _ _ _ hx)
  by_cases c6 : kT s = 6
  · obtain ⟨x, bl, h1, h2, ⟨h3, c, h4, e⟩ | ⟨h3, e⟩⟩ := pars_sif c6 h
    · rw [e]
      refine ⟨trivial, .inr (.inr (.inr (.inl ⟨.inl rfl, rfl, Wf.app _ _ _ (Wf.up2 _ (ih.expr _ _ _ h1)) (Wf.app _ _ _ ?_ ?_)⟩)))⟩
      · exact ⟨trivial, .inr (.inl ⟨rfl, rfl, ih.block _ _ h2⟩)⟩
      · exact ⟨trivial, .inr (.inl ⟨rfl, rfl, ih.block _ _ h4⟩)⟩
    · rw [e]
      refine ⟨trivial, .inr (.inr (.inr (.inl ⟨.inl rfl, rfl, Wf.app _ _ _ (Wf.up2 _ (ih.expr _ _ _ h1)) ?_⟩)))⟩
      exact ⟨trivial, .inr (.inl ⟨rfl, rfl, ih.block _ _ h2⟩)⟩
  by_cases c8 : kT s = 8
  · obtain ⟨x, bl, h1, h2, e⟩ := pars_swhile c8 h
    rw [e]
    refine ⟨trivial, .inr (.inr (.inr (.inr (.inl ⟨.inl rfl, rfl, Wf.app _ _ _ (Wf.up3 _ (ih.expr _ _ _ h1)) ?_⟩))))⟩
    exact ⟨trivial, .inr (.inr (.inl ⟨rfl, rfl, ih.block _ _ h2⟩))⟩
  by_cases c9 : kT s = 9
  · by_cases c25 : kT (takeS s) = 25
    · rw [pars_sret0 c9 c25 h]; exact Wf.st rfl trivial
    · obtain ⟨x, hx, hr⟩ := pars_sret c9 c25 h
      rw [hr]; exact Wf.st rfl (ih.expr _ _ _ hx)
  by_cases c10 : kT s = 10
  · rw [pars_sbreak c10 h]; exact Wf.st rfl trivial
  by_cases c11 : kT s = 11
  · rw [pars_scont c11 h]; exact Wf.st rfl trivial
  by_cases c12 : kT s = 12
  · obtain ⟨x, hx, hr⟩ := pars_sprint c12 h
    rw [hr]; exact Wf.st rfl (ih.expr _ _ _ hx)
  obtain ⟨x, hx, ⟨_, _, v, hv, e⟩ | ⟨_, _, v, hv, e⟩ | ⟨_, e⟩⟩ := pars_simple (by omega) h
  · rw [e]
    show Wf 1 (setNode x.1 v.1)
    unfold setNode
    split
    · exact Wf.st rfl (ih.expr _ _ _ hv)
    · exact Wf.st rfl (Wf.app _ _ _ (ih.expr _ _ _ hx).kids0 (ih.expr _ _ _ hv))
  · rw [e]; exact Wf.st rfl (ih.expr _ _ _ hx)
  · rw [e]; exact Wf.st rfl (ih.expr _ _ _ hx)

theorem wf_all : ∀ n, WfP n := by
  intro n
  induction n with
  | zero => exact ⟨fun _ _ _ h => absurd h (pars_zero _ _ _ _ _), fun _ _ _ _ _ h => absurd h (pars_zero _ _ _ _ _), fun _ _ h => absurd h (pars_zero _ _ _ _ _), fun _ _ _ _ h => absurd h (pars_zero _ _ _ _ _), fun _ _ h => absurd h (pars_zero _ _ _ _ _), fun _ _ _ h => absurd h (pars_zero _ _ _ _ _), fun _ _ _ _ _ h => absurd h (pars_zero _ _ _ _ _), fun _ _ h => absurd h (pars_zero _ _ _ _ _), fun _ _ _ _ h => absurd h (pars_zero _ _ _ _ _), fun _ _ h => absurd h (pars_zero _ _ _ _ _)⟩
  | succ n ih =>
    refine ⟨?_, ?_, ?_, ?_, fun s r h => wf_atom ih h, ?_, ?_, fun s r h => ih.stmts .nil _ _ trivial (pars_block h), ?_, fun s r h => wf_stmt ih h⟩
    · intro a s r h
      by_cases h6 : a = 6
      · subst h6; exact ih.unary _ _ (pars_expr6 h)
      · obtain ⟨x, h1, h2⟩ := pars_expr h6 h
        exact ih.loop _ _ _ _ (ih.expr _ _ _ h1) h2
    · intro a acc s r hacc h
      by_cases hk : rowOf (kT s) = a + 1
      · obtain ⟨z, h1, h2⟩ := pars_loop1 hk h
        exact ih.loop _ _ _ _ (Wf.ex (row_ex hk) (Wf.app _ _ _ hacc (ih.expr _ _ _ h1))) h2
      · rw [pars_loop0 hk h]; exact hacc
    · intro s r h
      by_cases c28 : kT s = 28
      · obtain ⟨x, h1, e⟩ := pars_not c28 h
        rw [e]; exact Wf.ex rfl (ih.unary _ _ h1)
      by_cases c35 : kT s = 35
      · obtain ⟨x, h1, e⟩ := pars_neg c35 h
        rw [e]; exact Wf.ex rfl (ih.unary _ _ h1)
      obtain ⟨x, h1, h2⟩ := pars_part c28 c35 h
      exact ih.index _ _ _ (ih.atom _ _ h1) h2
    · intro acc s r hacc h
      by_cases c22 : kT s = 22
      · obtain ⟨z, h1, h2⟩ := pars_index c22 h
        exact ih.index _ _ _ (Wf.ex rfl (Wf.app _ _ _ hacc (ih.expr _ _ _ h1))) h2
      · rw [pars_index0 c22 h]; exact hacc
    · intro a s r h
      by_cases hk : kT s = a
      · rw [pars_list0 hk h]; trivial
      · obtain ⟨y, h1, h2⟩ := bind_some (pars_list1 hk h)
        exact ih.more _ _ _ _ (ih.expr _ _ _ h1) h2
    · intro a acc s r hacc h
      by_cases hk : kT s = 24
      · obtain ⟨y, h1, h2⟩ := bind_some (pars_more hk h)
        exact ih.more _ _ _ _ (Wf.app _ _ _ hacc (ih.expr _ _ _ h1)) h2
      · rw [pars_last hk h]; exact hacc
    · intro acc s r hacc h
      by_cases c21 : kT s = 21
      · rw [pars_bend c21 h]; exact hacc
      by_cases hb : s.bad = 0
      · obtain ⟨x, h1, h2⟩ := pars_bstmt c21 hb h
        exact ih.stmts _ _ _ (Wf.app _ _ _ hacc (ih.stmt _ _ h1)) h2
      · rw [pars] at h
        rw [if_neg (by decide), if_neg (by decide), if_neg (by decide), if_neg (by decide), if_neg (by decide), if_neg (by decide), if_neg (by decide), if_neg (by decide), if_pos rfl, if_neg c21, if_pos hb] at h
        rw [← Option.some.inj h]; exact hacc

theorem wf_prog : ∀ n acc s r, Wf 4 acc → pars n 10 0 acc s = some r → Wf 4 r.1 := by
  intro n
  induction n with
  | zero => intro acc s r _ h; exact absurd h (pars_zero _ _ _ _ _)
  | succ n ih =>
    intro acc s r hacc h
    rw [pars] at h
    rw [if_neg (by decide), if_neg (by decide), if_neg (by decide), if_neg (by decide), if_neg (by decide), if_neg (by decide), if_neg (by decide), if_neg (by decide), if_neg (by decide), if_neg (by decide), if_pos rfl] at h
    by_cases c0 : kT s = 0
    · rw [if_pos c0] at h
      rw [← Option.some.inj h]; exact hacc
    rw [if_neg c0] at h
    by_cases c4 : kT s = 4
    · rw [if_pos c4] at h
      obtain ⟨x, h1, h2⟩ := bind_some h
      cases n with
      | zero => exact absurd h1 (pars_zero _ _ _ _ _)
      | succ n =>
        obtain ⟨p, b, _, h3, e⟩ := pars_fn h1
        refine ih _ _ _ (Wf.app _ _ _ hacc ?_) h2
        rw [e]
        exact ⟨trivial, .inr (.inr (.inr (.inr (.inr (.inr ⟨rfl, rfl, (wf_all _).block _ _ h3⟩)))))⟩
    · rw [if_neg c4] at h
      obtain ⟨x, h1, h2⟩ := bind_some h
      exact ih _ _ _ (Wf.app _ _ _ hacc (Wf.up4 _ ((wf_all _).stmt _ _ h1))) h2

/- expressions let no name -/
theorem sens_cur0 (fns : List (Nm × Nat)) : ∀ (f : BT Lab), Wf 0 f → ∀ (outer cur : List Nm) (wh : Nat) (inn : Bool) (v : Flt), (sens fns f outer cur wh inn v).1 = cur := by
  intro f
  induction f with
  | nil => intro _ outer cur wh inn v; rfl
  | node x y l c r ih1 ih2 =>
    intro h outer cur wh inn v
    have h1 : exK l.kd = true ∧ Wf 0 c := by
      rcases h.2 with ⟨_, h1, h2⟩ | ⟨h1, _⟩ | ⟨h1, _⟩ | ⟨h1, _⟩ | ⟨h1, _⟩ | ⟨h1, _⟩ | ⟨h1, _⟩
      · exact ⟨h1, h2⟩
      all_goals omega
    have hk : l.kd ≠ 31 ∧ l.kd ≠ 32 ∧ l.kd ≠ 21 := by
      have := h1.1
      unfold exK at this
      simp only [Bool.or_eq_true, Bool.and_eq_true, decide_eq_true_eq] at this
      omega
    rw [sens, if_neg hk.1, if_neg hk.2.1, if_neg hk.2.2, ih2 h.1, ih1 h1.2]
end Go.Proofs.YtgccmgjbbcndbaaGreatDoor
/- The code's parser in memory: its tokens, where it stands, its fault. -/
namespace Go.Proofs.YtgccmgjbbcndbaaGreatDoor
open Go.RowKit
open Go.Deep (BT)

def ctk (t : Tk) : List Value := [.int .i64 (t.k : Nat), .int .i64 (t.line : Nat), .string ⟨t.s.toArray⟩, .int .i64 t.n]
def ctks (ts : List Tk) : List Value := ts.flatMap ctk
theorem ctks_at (xs : List Tk) : ∀ (i j : Nat) (h : i < xs.length), j < 4 → (ctks xs)[i * 4 + j]? = (ctk xs[i])[j]? := by
  induction xs with
  | nil => intro i j h; simp at h
  | cons x r ih =>
    intro i j h hj
    have e : ctks (x :: r) = ctk x ++ ctks r := by simp [ctks]
    rw [e]
    have hl : (ctk x).length = 4 := rfl
    cases i with
    | zero => rw [List.getElem?_append_left (by omega)]; simp
    | succ i =>
      rw [List.getElem?_append_right (by omega), hl, show (i + 1) * 4 + j - 4 = i * 4 + j by omega]
      exact ih i j (by simpa using h) hj
theorem ctks_len (xs : List Tk) : (ctks xs).length = xs.length * 4 := by
  induction xs with
  | nil => rfl
  | cons x r ih =>
    have e : ctks (x :: r) = ctk x ++ ctks r := by simp [ctks]
    rw [e, List.length_append, ih]
    have hl : (ctk x).length = 4 := rfl
    rw [hl, List.length_cons]; omega

structure CToks (ts : List Tk) : Prop where
  few : ts.length ≤ 100000
  last : ∀ i (h : i < ts.length), ts[i].k = 0 ↔ i + 1 = ts.length
  line : ∀ x ∈ ts, 1 ≤ x.line ∧ x.line ≤ 100000 ∧ x.k ≤ 40

def badC (n : Nat) : Nat := if n = 0 then 0 else 2

structure PRt (b tb cap te : Nat) (ts : List Tk) (w : World) (s : PS) (pl : Nat) : Prop where
  toks : CToks ts
  rd : w.heap[b]? = some (.cells #[.slice (some ⟨tb, 0, none⟩) ts.length cap, .int .i64 (pl : Nat), .int .i64 (badC s.bad : Nat), .int .i64 (s.bad : Nat)] te (0, 0))
  tok : ∃ cur, w.heap[tb]? = some (.cells cur 93 (0, 0)) ∧ cur.toList.take (ts.length * 4) = ctks ts
  ne : tb ≠ b
  lt : pl < ts.length
  cap : ts.length ≤ cap
  good : s.bad = 0 → s.ts = ts.drop pl
  bad : s.bad ≠ 0 → s.ts = [endT] ∧ s.bad ≤ 100000 ∧ pl + 1 = ts.length

variable {b tb cap te : Nat} {ts : List Tk} {w w' : World} {s : PS} {pl : Nat}

theorem PRt.tkCell (h : PRt b tb cap te ts w s pl) (i j : Nat) (hi : i < ts.length) (hj : j < 4) : w.cell? ⟨tb, i * 4 + j, none⟩ = (ctk ts[i])[j]? := by
  obtain ⟨cur, h1, h2⟩ := h.tok
  rw [cell_of_row w tb (i * 4 + j) cur _ _ h1, ← ctks_at ts i j hi hj, ← h2, List.getElem?_take, if_pos (by omega), Array.getElem?_toList]
theorem PRt.of_heap (h : PRt b tb cap te ts w s pl) (h1 : w'.heap[b]? = w.heap[b]?) (h2 : w'.heap[tb]? = w.heap[tb]?) : PRt b tb cap te ts w' s pl := by
  obtain ⟨cur, k1, k2⟩ := h.tok
  exact ⟨h.toks, h1.trans h.rd, ⟨cur, h2.trans k1, k2⟩, h.ne, h.lt, h.cap, h.good, h.bad⟩
theorem PRt.tbl (h : PRt b tb cap te ts w s pl) : tb < w.heap.size := by
  obtain ⟨cur, k1, _⟩ := h.tok; exact heap_lt k1
theorem PRt.below (h : PRt b tb cap te ts w s pl) (hb : Below w.heap.size w w') : PRt b tb cap te ts w' s pl :=
  h.of_heap (hb.block b (heap_lt h.rd)) (hb.block tb h.tbl)
theorem PRt.hd (h : PRt b tb cap te ts w s pl) (h0 : s.bad = 0) : hdT s = (ts[pl]'h.lt) := by
  unfold hdT
  rw [h.good h0, List.drop_eq_getElem_cons h.lt]; rfl
theorem PRt.kd (h : PRt b tb cap te ts w s pl) : kT s = (ts[pl]'h.lt).k := by
  by_cases h0 : s.bad = 0
  · unfold kT; rw [h.hd h0]
  · have h1 := h.bad h0
    rw [((h.toks.last pl h.lt).2 h1.2.2)]
    unfold kT hdT; rw [h1.1]; rfl
theorem PRt.k40 (h : PRt b tb cap te ts w s pl) : kT s ≤ 40 := by
  rw [h.kd]; exact (h.toks.line _ (List.getElem_mem h.lt)).2.2
theorem PRt.notEnd (h : PRt b tb cap te ts w s pl) (hk : kT s ≠ 0) : s.bad = 0 ∧ pl + 1 < ts.length := by
  by_cases h0 : s.bad = 0
  · refine ⟨h0, ?_⟩
    have := h.toks.last pl h.lt
    unfold kT at hk
    rw [h.hd h0] at hk
    have hlt := h.lt
    have hne : pl + 1 ≠ ts.length := fun e => hk (this.2 e)
    omega
  · exfalso; apply hk; unfold kT hdT; rw [(h.bad h0).1]; rfl
theorem PRt.move (h : PRt b tb cap te ts w s pl) (hk : kT s ≠ 0) (q : Int) (hq : q = (pl : Int) + 1) :
    PRt b tb cap te ts (w.setCell ⟨b, 1, none⟩ (.int .i64 q)) (takeS s) (pl + 1) := by
  obtain ⟨cur, k1, k2⟩ := h.tok
  obtain ⟨h0, hlt⟩ := h.notEnd hk
  subst hq
  have ht : takeS s = ⟨s.ts.tail, s.bad⟩ := by unfold takeS; rw [if_neg hk]
  rw [ht]
  refine ⟨h.toks, ?_, ⟨cur, (Below.heap_setCell _ _ _ _ h.ne).trans k1, k2⟩, h.ne, hlt, h.cap, (fun _ => ?_), (fun e => absurd h0 e)⟩
  · rw [heap_set h.rd]; simp
  · show s.ts.tail = _
    rw [h.good h0, List.drop_eq_getElem_cons h.lt]; rfl
theorem PRt.failed (h : PRt b tb cap te ts w s pl) (h0 : s.bad = 0) (q : Int) (hq : q = (ts.length : Int) - 1) (ln : Nat) (hl : ln = (hdT s).line) :
    PRt b tb cap te ts (((w.setCell ⟨b, 2, none⟩ (.int .i64 2)).setCell ⟨b, 3, none⟩ (.int .i64 (ln : Nat))).setCell ⟨b, 1, none⟩ (.int .i64 q)) (failS s) (ts.length - 1) := by
  obtain ⟨cur, k1, k2⟩ := h.tok
  subst hl hq
  have hlt := h.lt
  have hline := h.toks.line _ (List.getElem_mem h.lt)
  rw [← h.hd h0] at hline
  have hf : failS s = ⟨[endT], (hdT s).line⟩ := by unfold failS; rw [if_pos h0]
  rw [hf]
  refine ⟨h.toks, ?_, ⟨cur, ?_, k2⟩, h.ne, by omega, h.cap, (fun e => by simp only at e; omega), (fun _ => ⟨rfl, hline.2.1, by omega⟩)⟩
  · have := heap_set (j := 1) (heap_set (j := 3) (heap_set (j := 2) h.rd (.int .i64 2)) (.int .i64 ((hdT s).line : Nat))) (.int .i64 ((ts.length : Int) - 1))
    rw [this]
    have e : ((ts.length - 1 : Nat) : Int) = (ts.length : Int) - 1 := by omega
    simp only [e, badC, if_neg (show (hdT s).line ≠ 0 by omega)]
    simp
  · rw [Below.heap_setCell _ _ _ _ (by exact h.ne), Below.heap_setCell _ _ _ _ (by exact h.ne), Below.heap_setCell _ _ _ _ (by exact h.ne)]
    exact k1
theorem PRt.stay (h : PRt b tb cap te ts w s pl) (h0 : s.bad ≠ 0) (q : Int) (hq : q = (ts.length : Int) - 1) :
    PRt b tb cap te ts (w.setCell ⟨b, 1, none⟩ (.int .i64 q)) s pl := by
  obtain ⟨cur, k1, k2⟩ := h.tok
  obtain ⟨e1, e2, e3⟩ := h.bad h0
  subst hq
  refine ⟨h.toks, ?_, ⟨cur, (Below.heap_setCell _ _ _ _ h.ne).trans k1, k2⟩, h.ne, h.lt, h.cap, h.good, h.bad⟩
  rw [heap_set h.rd, show (ts.length : Int) - 1 = (pl : Int) by omega]; simp

def PR (b tb cap te : Nat) (ts : List Tk) (w : World) (s : PS) : Prop := ∃ pl, PRt b tb cap te ts w s pl
theorem PR.below (h : PR b tb cap te ts w s) (hb : Below w.heap.size w w') : PR b tb cap te ts w' s := by
  obtain ⟨pl, h⟩ := h; exact ⟨pl, h.below hb⟩
theorem PR.keep (h : PR b tb cap te ts w s) (h1 : w'.heap[b]? = w.heap[b]?) (h2 : w'.heap[tb]? = w.heap[tb]?) : PR b tb cap te ts w' s := by
  obtain ⟨pl, h⟩ := h; exact ⟨pl, h.of_heap h1 h2⟩
theorem PR.alloc (h : PR b tb cap te ts w s) (o : Obj) : PR b tb cap te ts (w.alloc o) s := h.below ((Below.refl _ _).alloc (Nat.le_refl _) _)
theorem PR.drew (h : PR b tb cap te ts w s) : PR b tb cap te ts w.drew s := h.keep rfl rfl
theorem PR.drewN (h : PR b tb cap te ts w s) (n : Nat) : PR b tb cap te ts (w.drewN n) s := h.keep rfl rfl
theorem PR.lt (h : PR b tb cap te ts w s) : b < w.heap.size ∧ tb < w.heap.size ∧ tb ≠ b := by
  obtain ⟨pl, h⟩ := h; exact ⟨heap_lt h.rd, h.tbl, h.ne⟩
theorem PR.k40 (h : PR b tb cap te ts w s) : kT s ≤ 40 := by
  obtain ⟨pl, h⟩ := h; exact h.k40
theorem PR.other (h : PR b tb cap te ts w s) {p : Addr} (h1 : b ≠ p.block) (h2 : tb ≠ p.block) (u : Value) : PR b tb cap te ts (w.setCell p u) s :=
  h.keep (Below.heap_setCell _ _ _ _ h1) (Below.heap_setCell _ _ _ _ h2)
theorem PR.sticky (h : PR b tb cap te ts w s) (h0 : s.bad ≠ 0) : s.ts = [endT] := by
  obtain ⟨pl, h⟩ := h; exact (h.bad h0).1
theorem PR.bads (h : PR b tb cap te ts w s) : s.bad ≤ 100000 := by
  obtain ⟨pl, h⟩ := h
  by_cases h0 : s.bad = 0
  · omega
  · exact (h.bad h0).2.1
theorem PR.notEnd (h : PR b tb cap te ts w s) (hk : kT s ≠ 0) : s.bad = 0 := by
  obtain ⟨pl, h⟩ := h; exact (h.notEnd hk).1
theorem PR.lines (h : PR b tb cap te ts w s) (h0 : s.bad = 0) : 1 ≤ (hdT s).line ∧ (hdT s).line ≤ 100000 := by
  obtain ⟨pl, h⟩ := h
  rw [h.hd h0]
  have := h.toks.line _ (List.getElem_mem h.lt)
  exact ⟨this.1, this.2.1⟩
end Go.Proofs.YtgccmgjbbcndbaaGreatDoor
/- Walks of the code's parser: kind, take, fail. -/
namespace Go.Proofs.YtgccmgjbbcndbaaGreatDoor
open Go.RowKit

set_option maxRecDepth 100000 in
set_option maxHeartbeats 1000000 in
theorem kind_any {b tb cap te : Nat} {ts : List Tk} {w : World} {s : PS} (h : PR b tb cap te ts w s) :
    Calls Tryz.prog 54 #[.pointer (some ⟨b, 0, none⟩)] w fun e w' => e = .returned (.int .i64 (kT s : Nat)) ∧ PR b tb cap te ts w' s ∧ Below w.heap.size w w' := by
  obtain ⟨pl, h⟩ := h
  have c0 := cell_row h.rd 0 _ rfl
  have c1 := cell_row h.rd 1 _ rfl
  have lb := heap_lt h.rd
  have lt := h.tbl
  have hlt := h.lt
  have d0 := h.tkCell pl 0 hlt (by omega)
  rw [ctk] at d0
  simp only [List.getElem?_cons_zero, Nat.add_zero] at d0
  rw [← h.kd] at d0
  have hfew := h.toks.few
  have hcap := h.cap
  have HH := hide h
  clear h
  go_enter Tryz.func54, Tryz.ntmps54
  go_wp2
  go_quiet (fail)
  go_wp2
  go_ret
  exact ⟨rfl, ⟨pl, HH.out.of_heap rfl rfl⟩, ⟨rfl, rfl, rfl, Nat.le_refl _, fun _ _ => rfl⟩⟩

def TkIs (s : PS) (ln nn : Int) (S : List UInt8) : Prop := s.bad = 0 → ln = (hdT s).line ∧ S = (hdT s).s ∧ nn = (hdT s).n

set_option maxRecDepth 100000 in
set_option maxHeartbeats 1000000 in
theorem take_any {b tb cap te : Nat} {ts : List Tk} {w : World} {s : PS} (h : PR b tb cap te ts w s) :
    Calls Tryz.prog 77 #[.pointer (some ⟨b, 0, none⟩)] w fun e w' => ∃ ln nn S, e = .returned (.agg #[.int .i64 (kT s : Nat), .int .i64 ln, .string ⟨S.toArray⟩, .int .i64 nn]) ∧ TkIs s ln nn S ∧ PR b tb cap te ts w' (takeS s) ∧ Only b w w' := by
  obtain ⟨pl, h⟩ := h
  have c0 := cell_row h.rd 0 _ rfl
  have c1 := cell_row h.rd 1 _ rfl
  have fz := frozen_row h.rd
  have lb := heap_lt h.rd
  have lt := h.tbl
  have hlt := h.lt
  have d0 := h.tkCell pl 0 hlt (by omega)
  have d1 := h.tkCell pl 1 hlt (by omega)
  have d2 := h.tkCell pl 2 hlt (by omega)
  have d3 := h.tkCell pl 3 hlt (by omega)
  rw [ctk] at d0 d1 d2 d3
  simp only [List.getElem?_cons_zero, List.getElem?_cons_succ, Nat.add_zero] at d0 d1 d2 d3
  rw [← h.kd] at d0
  have hfew := h.toks.few
  have hcap := h.cap
  have HTk : Hid (TkIs s (ts[pl].line : Nat) ts[pl].n ts[pl].s) := fun h0 => by rw [h.hd h0]; exact ⟨rfl, rfl, rfl⟩
  have HH := hide h
  have hne := h.ne
  clear h
  generalize ts[pl].line = ln at *
  generalize ts[pl].s = S at *
  generalize ts[pl].n = nn at *
  by_cases hk : kT s = 0
  · have t : ((kT s : Int) != 0) = false := by rw [hk]; rfl
    have HE : Hid (takeS s = s) := by show _ = _; unfold takeS; rw [if_pos hk]
    clear hk
    go_enter Tryz.func77, Tryz.ntmps77
    go_wp2
    go_region
    all_goals go_wp2
    all_goals refine bodyPost_ret (v := .agg #[.int .i64 (kT s : Nat), .int .i64 (ln : Nat), .string ⟨S.toArray⟩, .int .i64 nn]) (by simp [results, Tryz.results77, go_sem]) rfl ⟨_, _, _, rfl, HTk.out, ?_, ?_⟩
    all_goals first
      | exact ((((PR.alloc (PR.alloc ⟨pl, HE.out.symm ▸ HH.out⟩ _) _)).drew))
      | exact (((Only.refl b w).alloc _).alloc _).drew
  · have t : ((kT s : Int) != 0) = true := by simpa using hk
    have HK := hide hk
    clear hk
    go_enter Tryz.func77, Tryz.ntmps77
    go_wp2
    go_region
    all_goals go_wp2
    all_goals refine bodyPost_ret (v := .agg #[.int .i64 (kT s : Nat), .int .i64 (ln : Nat), .string ⟨S.toArray⟩, .int .i64 nn]) (by simp [results, Tryz.results77, go_sem]) rfl ⟨_, _, _, rfl, HTk.out, ?_, ?_⟩
    all_goals first
      | exact ((((PR.alloc (PR.alloc ⟨pl + 1, HH.out.move HK.out _ rfl⟩ _) _)).drew))
      | exact (((Only.set (p := ⟨b, 1, none⟩) (Only.refl b w) (.inl rfl) _).alloc _).alloc _).drew

set_option maxRecDepth 100000 in
set_option maxHeartbeats 1000000 in
theorem fail_any {b tb cap te : Nat} {ts : List Tk} {w : World} {s : PS} (h : PR b tb cap te ts w s) :
    Calls Tryz.prog 90 #[.pointer (some ⟨b, 0, none⟩)] w fun e w' => e = .returned (.tuple #[]) ∧ PR b tb cap te ts w' (failS s) ∧ Only b w w' := by
  obtain ⟨pl, h⟩ := h
  have c0 := cell_row h.rd 0 _ rfl
  have c1 := cell_row h.rd 1 _ rfl
  have c2 := cell_row h.rd 2 _ rfl
  have c3 := cell_row h.rd 3 _ rfl
  have fz := frozen_row h.rd
  have lb := heap_lt h.rd
  have lt := h.tbl
  have hlt := h.lt
  have d1 := h.tkCell pl 1 hlt (by omega)
  rw [ctk] at d1
  simp only [List.getElem?_cons_zero, List.getElem?_cons_succ] at d1
  have hfew := h.toks.few
  have hcap := h.cap
  have HH := hide h
  have hne := h.ne
  by_cases h0 : s.bad = 0
  · have HD : Hid (ts[pl].line = (hdT s).line) := by show _ = _; rw [h.hd h0]
    have HB := hide (fun (w1 : World) (e : w1.heap = w.heap) => (h.of_heap (w' := w1) (by rw [e]) (by rw [e])).failed h0 _ rfl _ HD.out)
    replace c2 : w.cell? ⟨b, 2, none⟩ = some (.int .i64 0) := by rw [c2, h0]; rfl
    clear h h0
    generalize ts[pl].line = ln at *
    go_enter Tryz.func90, Tryz.ntmps90
    go_wp2
    go_region
    all_goals go_wp2
    all_goals go_end0
    all_goals exact ⟨rfl, PR.drew ⟨_, HB.out w rfl⟩, (Only.set (p := ⟨b, 1, none⟩) (Only.set (p := ⟨b, 3, none⟩) (Only.set (p := ⟨b, 2, none⟩) (Only.refl b w) (.inl rfl) _) (.inl rfl) _) (.inl rfl) _).drew⟩
  · have h2 : badC s.bad = 2 := by unfold badC; rw [if_neg h0]
    replace c2 : w.cell? ⟨b, 2, none⟩ = some (.int .i64 2) := by rw [c2]; show some (Value.int .i64 ((badC s.bad : Nat) : Int)) = _; rw [h2]; rfl
    have HF : Hid (failS s = s) := by show _ = _; unfold failS; rw [if_neg h0]
    have HB := hide (h.stay h0 _ rfl)
    clear h h0 h2
    go_enter Tryz.func90, Tryz.ntmps90
    go_wp2
    go_end0
    exact ⟨rfl, ⟨pl, by rw [HF.out]; exact HB.out⟩, Only.set (p := ⟨b, 1, none⟩) (Only.refl b w) (.inl rfl) _⟩
end Go.Proofs.YtgccmgjbbcndbaaGreatDoor
/- Walks of the code's parser: want, accept, ident. -/
namespace Go.Proofs.YtgccmgjbbcndbaaGreatDoor
open Go.RowKit

theorem take_end {s : PS} (h : kT s = 0) : takeS s = s := by unfold takeS; rw [if_pos h]
theorem fail_k (s : PS) (h : s.bad ≠ 0 → s.ts = [endT]) : kT (failS s) = 0 := by
  unfold failS
  split
  · rfl
  · rename_i h0
    unfold kT hdT; rw [h h0]; rfl

set_option maxRecDepth 100000 in
set_option maxHeartbeats 1000000 in
theorem want_any {b tb cap te : Nat} {ts : List Tk} {w : World} {s : PS} (h : PR b tb cap te ts w s) (k : Nat) :
    Calls Tryz.prog 71 #[.pointer (some ⟨b, 0, none⟩), .int .i64 (k : Nat)] w fun e w' => ∃ kk ln nn S, e = .returned (.agg #[.int .i64 kk, .int .i64 ln, .string ⟨S.toArray⟩, .int .i64 nn]) ∧ ((wantS k s).bad = 0 → TkIs s ln nn S ∧ kT s = k) ∧ PR b tb cap te ts w' (wantS k s) ∧ Only b w w' := by
  have HH := hide h
  have hk40 := h.k40
  have HSt : Hid (s.bad ≠ 0 → s.ts = [endT]) := h.sticky
  have HFb : Hid (s.bad = 0 → 1 ≤ (hdT s).line) := fun e => (h.lines e).1
  clear h
  by_cases hc : kT s = k
  · have t : ((kT s : Int) != (k : Int)) = false := by rw [hc]; simp
    have HW : Hid (wantS k s = takeS s) := by show _ = _; unfold wantS; rw [if_pos hc]
    have HC := hide hc
    clear hc
    go_enter Tryz.func71, Tryz.ntmps71
    go_wp2_with fail
    refine (kind_any (HH.out.alloc _)).mono ?_
    rintro e w1 ⟨rfl, h1, hb1⟩
    have H1 := hide h1
    have hR := bblk hb1 (heap_alloc_new w (.cells #[.int .i64 0, .int .i64 0, .string ⟨#[]⟩, .int .i64 0] 93))
    have HR := hide hR
    have lw1 := heap_lt hR
    have HO1 : Hid (Only b w w1) := ((Only.refl b w).alloc _).trans (Below.only hb1)
    have lb := HH.out.lt
    clear h1 hb1 hR
    go_wp2_with fail
    refine (take_any H1.out).mono ?_
    rintro e w2 ⟨ln, nn, S, rfl, htk, h2, ho2⟩
    have hR2 := ho2.blk HR.out (by omega)
    obtain ⟨x0, x1, x2, x3, fx, lx⟩ := blk4 hR2
    have HO2 : Hid (Only b w w2) := HO1.out.trans ho2
    have H2 := hide h2
    have HTk := hide htk
    clear h2 htk hR2 ho2
    go_wp2
    refine bodyPost_ret (v := .agg #[.int .i64 (kT s : Nat), .int .i64 ln, .string ⟨S.toArray⟩, .int .i64 nn]) (by simp [results, Tryz.results71, go_sem, x0, x1, x2, x3]) rfl ?_
    rw [HW.out]
    refine ⟨_, _, _, _, rfl, fun _ => ⟨HTk.out, HC.out⟩, ?_, Only.set4 HO2.out (Nat.le_refl _) _ _ _ _⟩
    exact PR.keep H2.out (set4_same (by omega) _ _ _ _) (set4_same (by omega) _ _ _ _)
  · have t : ((kT s : Int) != (k : Int)) = true := by simp; omega
    have HW : Hid (wantS k s = failS s) := by show _ = _; unfold wantS; rw [if_neg hc]
    have HZ : Hid (takeS (failS s) = failS s) := take_end (fail_k s HSt.out)
    have HN : Hid ((failS s).bad ≠ 0) := by
      show _ ≠ _
      unfold failS
      split
      · have := HFb.out (by assumption)
        simp only; omega
      · assumption
    clear hc
    go_enter Tryz.func71, Tryz.ntmps71
    go_wp2_with fail
    refine (kind_any (HH.out.alloc _)).mono ?_
    rintro e w1 ⟨rfl, h1, hb1⟩
    have H1 := hide h1
    have hR := bblk hb1 (heap_alloc_new w (.cells #[.int .i64 0, .int .i64 0, .string ⟨#[]⟩, .int .i64 0] 93))
    have HR := hide hR
    have lw1 := heap_lt hR
    have HO1 : Hid (Only b w w1) := ((Only.refl b w).alloc _).trans (Below.only hb1)
    have lb := HH.out.lt
    clear h1 hb1 hR
    go_wp2_with fail
    refine (fail_any H1.out).mono ?_
    rintro e w3 ⟨rfl, h3, ho3⟩
    have HR3 := hide (ho3.blk HR.out (by omega))
    have HO3 : Hid (Only b w w3) := HO1.out.trans ho3
    have H3 := hide h3
    clear h3 ho3
    go_wp2_with fail
    refine (take_any H3.out).mono ?_
    rintro e w2 ⟨ln, nn, S, rfl, htk, h2, ho2⟩
    rw [HZ.out] at h2
    have hR2 := ho2.blk HR3.out (by omega)
    obtain ⟨x0, x1, x2, x3, fx, lx⟩ := blk4 hR2
    have HO2 : Hid (Only b w w2) := HO3.out.trans ho2
    have H2 := hide h2
    clear h2 htk hR2 ho2
    go_wp2
    refine bodyPost_ret (v := .agg #[.int .i64 (kT (failS s) : Nat), .int .i64 ln, .string ⟨S.toArray⟩, .int .i64 nn]) (by simp [results, Tryz.results71, go_sem, x0, x1, x2, x3]) rfl ?_
    rw [HW.out]
    refine ⟨_, _, _, _, rfl, fun e => absurd e HN.out, ?_, Only.set4 HO2.out (Nat.le_refl _) _ _ _ _⟩
    exact PR.keep H2.out (set4_same (by omega) _ _ _ _) (set4_same (by omega) _ _ _ _)

set_option maxRecDepth 100000 in
set_option maxHeartbeats 1000000 in
theorem accept_any {b tb cap te : Nat} {ts : List Tk} {w : World} {s : PS} (h : PR b tb cap te ts w s) (k : Nat) :
    Calls Tryz.prog 91 #[.pointer (some ⟨b, 0, none⟩), .int .i64 (k : Nat)] w fun e w' => e = .returned (.bool (kT s == k)) ∧ PR b tb cap te ts w' (mayS k s) ∧ Only b w w' := by
  have HH := hide h
  have hk40 := h.k40
  clear h
  by_cases hc : kT s = k
  · have t : ((kT s : Int) != (k : Int)) = false := by rw [hc]; simp
    have HW : Hid (mayS k s = takeS s) := by show _ = _; unfold mayS; rw [if_pos hc]
    have HC : Hid ((kT s == k) = true) := by show _ = _; simpa using hc
    clear hc
    go_enter Tryz.func91, Tryz.ntmps91
    go_wp2_with fail
    refine (kind_any HH.out).mono ?_
    rintro e w1 ⟨rfl, h1, hb1⟩
    have H1 := hide h1
    have HO1 : Hid (Only b w w1) := Below.only hb1
    clear h1 hb1
    go_wp2_with fail
    refine (take_any H1.out).mono ?_
    rintro e w2 ⟨ln, nn, S, rfl, htk, h2, ho2⟩
    have HO2 : Hid (Only b w w2) := HO1.out.trans ho2
    have H2 := hide h2
    clear h2 htk ho2
    go_wp2
    go_ret
    exact ⟨ret_bool HC.out.symm, by rw [HW.out]; exact H2.out, HO2.out⟩
  · have t : ((kT s : Int) != (k : Int)) = true := by simp; omega
    have HW : Hid (mayS k s = s) := by show _ = _; unfold mayS; rw [if_neg hc]
    have HC : Hid ((kT s == k) = false) := by show _ = _; simpa using hc
    clear hc
    go_enter Tryz.func91, Tryz.ntmps91
    go_wp2_with fail
    refine (kind_any HH.out).mono ?_
    rintro e w1 ⟨rfl, h1, hb1⟩
    have H1 := hide h1
    have HO1 : Hid (Only b w w1) := Below.only hb1
    clear h1 hb1
    go_wp2
    go_ret
    exact ⟨ret_bool HC.out.symm, by rw [HW.out]; exact H1.out, HO1.out⟩

set_option maxRecDepth 100000 in
set_option maxHeartbeats 1000000 in
theorem ident_any {b tb cap te : Nat} {ts : List Tk} {w : World} {s : PS} (h : PR b tb cap te ts w s) :
    Calls Tryz.prog 72 #[.pointer (some ⟨b, 0, none⟩)] w fun e w' => ∃ ln S, e = .returned (.agg #[.int .i64 ln, .string ⟨S.toArray⟩]) ∧ ((wantS 1 s).bad = 0 → ln = (hdT s).line ∧ S = (hdT s).s) ∧ PR b tb cap te ts w' (wantS 1 s) ∧ Only b w w' := by
  have HH := hide h
  have lb := h.lt
  have HG : Hid ((wantS 1 s).bad = 0 → s.bad = 0) := by
    intro e
    by_cases h0 : s.bad = 0
    · exact h0
    · exfalso
      apply h0
      have hk : kT s ≠ 1 := by unfold kT hdT; rw [h.sticky h0]; decide
      unfold wantS at e
      rw [if_neg hk] at e
      unfold failS at e
      rw [if_neg h0] at e
      exact e
  clear h
  go_enter Tryz.func72, Tryz.ntmps72
  go_wp2_with fail
  refine (want_any (HH.out.alloc _) 1).mono ?_
  rintro e w1 ⟨kk, ln, nn, S, rfl, htk, h1, ho1⟩
  have hR := ho1.blk (heap_alloc_new w (.cells #[.int .i64 0, .string ⟨#[]⟩] 52)) (by omega)
  have x0 := cell_row hR 0 _ rfl
  have x1 := cell_row hR 1 _ rfl
  have fx := frozen_row hR
  have lx := heap_lt hR
  have HO1 : Hid (Only b w w1) := ((Only.refl b w).alloc _).trans ho1
  have H1 := hide h1
  have HTk := hide htk
  clear h1 htk hR ho1
  go_wp2
  refine bodyPost_ret (v := .agg #[.int .i64 ln, .string ⟨S.toArray⟩]) (by simp [results, Tryz.results72, go_sem, x0, x1, lx]) rfl ?_
  refine ⟨_, _, rfl, fun e => ?_, PR.alloc (PR.keep H1.out ?_ ?_) _, Only.alloc (Only.set (p := ⟨w.heap.size, 1, none⟩) (Only.set (p := ⟨w.heap.size, 0, none⟩) HO1.out (.inr (Nat.le_refl _)) _) (.inr (Nat.le_refl _)) _) _⟩
  · have := (HTk.out e).1 (HG.out e)
    exact ⟨this.1, this.2.1⟩
  · rw [Below.heap_setCell _ _ _ _ (by show b ≠ w.heap.size; omega), Below.heap_setCell _ _ _ _ (by show b ≠ w.heap.size; omega)]
  · rw [Below.heap_setCell _ _ _ _ (by show tb ≠ w.heap.size; omega), Below.heap_setCell _ _ _ _ (by show tb ≠ w.heap.size; omega)]
end Go.Proofs.YtgccmgjbbcndbaaGreatDoor
/- Trees in memory, as the code's parser builds them. -/
namespace Go.Proofs.YtgccmgjbbcndbaaGreatDoor
open Go.RowKit
open Go.Deep (BT)

def ptrTy (kd : Nat) : TypeId :=
  match kd with
  | 1 => 246 | 2 => 249 | 3 => 252 | 4 => 252 | 5 => 255 | 6 => 199 | 7 => 205 | 8 => 207
  | 9 => 210 | 10 => 215 | 11 => 218 | 12 => 200 | 13 => 223 | 14 => 223
  | 20 => 50 | 21 => 153 | 22 => 156 | 23 => 141 | 24 => 160 | 25 => 163 | 26 => 166
  | 27 => 168 | 28 => 171 | 29 => 171 | 30 => 174 | _ => 196
def strTy (kd : Nat) : TypeId :=
  match kd with
  | 1 => 248 | 2 => 251 | 3 => 254 | 4 => 254 | 5 => 257 | 6 => 204 | 7 => 234 | 8 => 209
  | 9 => 214 | 10 => 217 | 11 => 220 | 12 => 222 | 13 => 225 | 14 => 225
  | 20 => 56 | 21 => 155 | 22 => 158 | 23 => 147 | 24 => 162 | 25 => 165 | 26 => 167
  | 27 => 169 | 28 => 173 | 29 => 173 | 30 => 176 | _ => 198

def lnV (n : Nat) : Value := .int .i64 (n : Nat)
def stV (s : List UInt8) : Value := .string ⟨s.toArray⟩
def ptV (b : Nat) : Value := .pointer (some ⟨b, 0, none⟩)
def prmC (ps : List (Nat × List UInt8)) : List Value := ps.flatMap fun p => [lnV p.1, stV p.2]

def LayC (D : Nat → Prop) (w : World) (l : Lab) (cs : Array Value) (ks : List Value) : Prop :=
  match l.kd with
  | 1 => cs = #[.int .i64 l.n] ∧ ks = []
  | 2 => cs = #[stV l.s] ∧ ks = []
  | 3 => cs = #[.bool true] ∧ ks = []
  | 4 => cs = #[.bool false] ∧ ks = []
  | 5 => cs = #[] ∧ ks = []
  | 6 => cs = #[lnV l.line, stV l.s] ∧ ks = []
  | 7 => ∃ sl, cs = #[lnV l.line, stV l.s, sl] ∧ OwnsD D w 144 1 sl ks.length ks
  | 8 => ∃ a, cs = #[a] ∧ ks = [a]
  | 9 => ∃ sl, cs = #[lnV l.line, sl] ∧ OwnsD D w 144 1 sl ks.length ks
  | 10 => ∃ a, cs = #[lnV l.line, a] ∧ ks = [a]
  | 11 => ∃ a b, cs = #[lnV l.line, a, b] ∧ ks = [a, b]
  | 12 => ∃ a b, cs = #[lnV l.line, a, b] ∧ ks = [a, b]
  | 13 => ∃ a, cs = #[lnV l.line, .int .i64 28, a] ∧ ks = [a]
  | 14 => ∃ a, cs = #[lnV l.line, .int .i64 35, a] ∧ ks = [a]
  | 20 => ∃ ps sl, cs = #[lnV l.line, stV l.s, ps, sl] ∧ OwnsD D w 76 1 sl ks.length ks ∧ OwnsD D w 52 2 ps l.ps.length (prmC l.ps)
  | 21 => ∃ a, cs = #[lnV l.line, stV l.s, a] ∧ ks = [a]
  | 22 => ∃ t x a1 n1 c1 a2 n2 c2, cs = #[lnV l.line, .iface t x, .slice a1 n1 c1, .slice a2 n2 c2] ∧ ((ks = [.iface t x, .slice a1 n1 c1] ∧ Value.slice a2 n2 c2 = .slice none 0 0) ∨ ks = [.iface t x, .slice a1 n1 c1, .slice a2 n2 c2])
  | 23 => ∃ t x a1 n1 c1, cs = #[lnV l.line, .iface t x, .slice a1 n1 c1] ∧ ks = [.iface t x, .slice a1 n1 c1]
  | 24 => ∃ a, cs = #[lnV l.line, a] ∧ ((ks = [] ∧ a = .nilIface) ∨ ks = [a])
  | 25 => cs = #[lnV l.line] ∧ ks = []
  | 26 => cs = #[lnV l.line] ∧ ks = []
  | 27 => ∃ a, cs = #[lnV l.line, a] ∧ ks = [a]
  | 28 => ∃ b2 a, cs = #[.iface 199 (ptV b2), a] ∧ D b2 ∧ w.heap[b2]? = some (.cells #[lnV l.line, stV l.s] 204 (0, 0)) ∧ ks = [a]
  | 29 => ∃ b2 o p a, cs = #[.iface 200 (ptV b2), a] ∧ D b2 ∧ w.heap[b2]? = some (.cells #[lnV l.line, o, p] 222 (0, 0)) ∧ ks = [o, p, a]
  | 30 => ∃ a, cs = #[a] ∧ ks = [a]
  | kd => ∃ a b, cs = #[lnV l.line, .int .i64 ((kd - 100 : Nat) : Nat), a, b] ∧ ks = [a, b]

def NodeC (D : Nat → Prop) (w : World) (l : Lab) (v : Value) (ks : List Value) : Prop :=
  if l.kd = 31 ∨ l.kd = 32 then (∃ a n c, v = .slice a n c) ∧ OwnsD D w 76 1 v ks.length ks
  else ∃ b cs, v = .iface (ptrTy l.kd) (ptV b) ∧ D b ∧ w.heap[b]? = some (.cells cs (strTy l.kd) (0, 0)) ∧ LayC D w l cs ks

def RepC (D : Nat → Prop) (w : World) : BT Lab → List Value → Prop
  | .nil, vs => vs = []
  | .node _ _ l ch sib, vs => ∃ v ks rest, vs = v :: rest ∧ NodeC D w l v ks ∧ RepC D w ch ks ∧ RepC D w sib rest

variable {D D' : Nat → Prop} {w w' : World}

theorem LayC.keep (hk : ∀ g, D g → g < w.heap.size → w'.heap[g]? = w.heap[g]? ∧ D' g) {l : Lab} {cs : Array Value} {ks : List Value} (h : LayC D w l cs ks) : LayC D' w' l cs ks := by
  unfold LayC at h ⊢
  split at h <;> try exact h
  · obtain ⟨sl, e, o⟩ := h; exact ⟨sl, e, o.keep hk⟩
  · obtain ⟨sl, e, o⟩ := h; exact ⟨sl, e, o.keep hk⟩
  · obtain ⟨ps, sl, e, o, p⟩ := h; exact ⟨ps, sl, e, o.keep hk, p.keep hk⟩
  · obtain ⟨b2, a, e, d, hb, k⟩ := h; exact ⟨b2, a, e, (hk _ d (heap_lt hb)).2, (hk _ d (heap_lt hb)).1.trans hb, k⟩
  · obtain ⟨b2, o, p, a, e, d, hb, k⟩ := h; exact ⟨b2, o, p, a, e, (hk _ d (heap_lt hb)).2, (hk _ d (heap_lt hb)).1.trans hb, k⟩

theorem NodeC.keep (hk : ∀ g, D g → g < w.heap.size → w'.heap[g]? = w.heap[g]? ∧ D' g) {l : Lab} {v : Value} {ks : List Value} (h : NodeC D w l v ks) : NodeC D' w' l v ks := by
  unfold NodeC at h ⊢
  split at h
  · rename_i h1
    rw [if_pos h1]; exact ⟨h.1, h.2.keep hk⟩
  · rename_i h1
    rw [if_neg h1]
    obtain ⟨b, cs, e, d, hb, k⟩ := h
    exact ⟨b, cs, e, (hk _ d (heap_lt hb)).2, (hk _ d (heap_lt hb)).1.trans hb, k.keep hk⟩

theorem RepC.keep (hk : ∀ g, D g → g < w.heap.size → w'.heap[g]? = w.heap[g]? ∧ D' g) : ∀ (f : BT Lab) (vs : List Value), RepC D w f vs → RepC D' w' f vs := by
  intro f
  induction f with
  | nil => intro vs h; exact h
  | node x y l ch sib ih1 ih2 =>
    intro vs h
    obtain ⟨v, ks, rest, rfl, h1, h2, h3⟩ := h
    exact ⟨v, ks, rest, rfl, h1.keep hk, ih1 _ h2, ih2 _ h3⟩

theorem RepC.app : ∀ (f g : BT Lab) (c1 c2 : List Value), RepC D w f c1 → RepC D w g c2 → RepC D w (bapp f g) (c1 ++ c2) := by
  intro f
  induction f with
  | nil => intro g c1 c2 h1 h2; rw [RepC] at h1; subst h1; exact h2
  | node x y l ch sib ih1 ih2 =>
    intro g c1 c2 h1 h2
    obtain ⟨v, ks, rest, rfl, k1, k2, k3⟩ := h1
    rw [bapp]
    exact ⟨v, ks, rest ++ c2, rfl, k1, k2, ih2 g rest c2 k3 h2⟩

theorem RepC.len : ∀ (f : BT Lab) (vs : List Value), RepC D w f vs → vs.length = blen f := by
  intro f
  induction f with
  | nil => intro vs h; rw [RepC] at h; subst h; rfl
  | node x y l ch sib ih1 ih2 =>
    intro vs h
    obtain ⟨v, ks, rest, rfl, k1, k2, k3⟩ := h
    rw [blen, List.length_cons, ih2 rest k3]

/- one tree -/
theorem RepC.one {l : Lab} {ch : BT Lab} {v : Value} {ks : List Value} (h1 : NodeC D w l v ks) (h2 : RepC D w ch ks) : RepC D w (nd l ch) [v] := ⟨v, ks, [], rfl, h1, h2, rfl⟩
theorem NodeC.new {l : Lab} {b : Nat} {cs : Array Value} {ks : List Value} (h : ¬ (l.kd = 31 ∨ l.kd = 32)) (hD : D b) (hb : w.heap[b]? = some (.cells cs (strTy l.kd) (0, 0))) (hl : LayC D w l cs ks) : NodeC D w l (.iface (ptrTy l.kd) (ptV b)) ks := by
  unfold NodeC
  rw [if_neg h]
  exact ⟨b, cs, rfl, hD, hb, hl⟩

theorem RepC.only {b n : Nat} (hb : b < n) (ho : Only b w w') {f : BT Lab} {vs : List Value} (h : RepC (fun g => n ≤ g) w f vs) : RepC (fun g => n ≤ g) w' f vs :=
  RepC.keep (fun g hg hl => ⟨ho.block g hl (by omega), hg⟩) _ _ h
theorem RepC.weak {n m : Nat} (hm : m ≤ n) {f : BT Lab} {vs : List Value} (h : RepC (fun g => n ≤ g) w f vs) : RepC (fun g => m ≤ g) w f vs :=
  RepC.keep (fun g hg _ => ⟨rfl, by omega⟩) _ _ h
/- from one call's world into a later one's -/
theorem RepC.later {b n m : Nat} (hm : m ≤ n) (hb : b < n) (ho : Only b w w') {f : BT Lab} {vs : List Value} (h : RepC (fun g => n ≤ g) w f vs) : RepC (fun g => m ≤ g) w' f vs := (h.only hb ho).weak hm

def ExPost (b tb cap te : Nat) (ts : List Tk) (w : World) (r : BT Lab × PS) (e : Ending) (w' : World) : Prop :=
  ∃ t x, e = .returned (.iface t x) ∧ PR b tb cap te ts w' r.2 ∧ Only b w w' ∧ (r.2.bad = 0 → RepC (fun g => w.heap.size ≤ g) w' r.1 [.iface t x])

def LsPost (T : TypeId) (b tb cap te : Nat) (ts : List Tk) (w : World) (r : BT Lab × PS) (e : Ending) (w' : World) : Prop :=
  ∃ va vn vc cs, e = .returned (.slice va vn vc) ∧ OwnsD (fun g => w.heap.size ≤ g) w' T 1 (.slice va vn vc) cs.length cs ∧ PR b tb cap te ts w' r.2 ∧ Only b w w' ∧ (r.2.bad = 0 → RepC (fun g => w.heap.size ≤ g) w' r.1 cs)

structure CodePars (b tb cap te : Nat) (ts : List Tk) (n : Nat) : Prop where
  expr : ∀ w s a r, a ≤ 6 → PR b tb cap te ts w s → pars n 0 a .nil s = some r → Calls Tryz.prog 92 #[.pointer (some ⟨b, 0, none⟩), .int .i64 ((a + 1 : Nat) : Nat)] w (ExPost b tb cap te ts w r)
  unary : ∀ w s r, PR b tb cap te ts w s → pars n 2 0 .nil s = some r → Calls Tryz.prog 111 #[.pointer (some ⟨b, 0, none⟩)] w (ExPost b tb cap te ts w r)
  atom : ∀ w s r, PR b tb cap te ts w s → pars n 4 0 .nil s = some r → Calls Tryz.prog 130 #[.pointer (some ⟨b, 0, none⟩)] w (ExPost b tb cap te ts w r)
  list : ∀ w s a r, PR b tb cap te ts w s → pars n 5 a .nil s = some r → Calls Tryz.prog 132 #[.pointer (some ⟨b, 0, none⟩), .int .i64 (a : Nat)] w (LsPost 144 b tb cap te ts w r)
  block : ∀ w s r, PR b tb cap te ts w s → pars n 7 0 .nil s = some r → Calls Tryz.prog 74 #[.pointer (some ⟨b, 0, none⟩)] w (LsPost 76 b tb cap te ts w r)
  stmt : ∀ w s r, PR b tb cap te ts w s → pars n 9 0 .nil s = some r → Calls Tryz.prog 56 #[.pointer (some ⟨b, 0, none⟩)] w (ExPost b tb cap te ts w r)

/- the closing of a call that has laid a new tree in a last block -/
theorem ex_close {b tb cap te : Nat} {ts : List Tk} {w W : World} {r : BT Lab × PS} {l : Lab} {ch : BT Lab} {cs : Array Value} {t tt : TypeId} {ks : List Value} (hr : PR b tb cap te ts W r.2) (ho : Only b w W) (e1 : r.1 = nd l ch) (h31 : ¬ (l.kd = 31 ∨ l.kd = 32)) (ht : t = ptrTy l.kd) (htt : tt = strTy l.kd)
    (hl : r.2.bad = 0 → LayC (fun g => w.heap.size ≤ g) W l cs ks ∧ RepC (fun g => w.heap.size ≤ g) W ch ks) :
    ExPost b tb cap te ts w r (.returned (.iface t (.pointer (some ⟨W.heap.size, 0, none⟩)))) (W.alloc (.cells cs tt)) := by
  subst htt
  refine ⟨t, _, rfl, hr.alloc _, ho.alloc _, fun h => ?_⟩
  rw [e1, ht]
  obtain ⟨h1, h2⟩ := hl h
  have hk : ∀ g, w.heap.size ≤ g → g < W.heap.size → (W.alloc (.cells cs (strTy l.kd))).heap[g]? = W.heap[g]? ∧ w.heap.size ≤ g := fun g hg hl => ⟨Below.heap_alloc _ _ _ hl, hg⟩
  exact RepC.one (NodeC.new h31 ho.size (heap_alloc_new W _) (h1.keep hk)) (RepC.keep hk _ _ h2)
end Go.Proofs.YtgccmgjbbcndbaaGreatDoor
/- Walks of the code's parser: row, canBeSet, literal. -/
namespace Go.Proofs.YtgccmgjbbcndbaaGreatDoor
open Go.RowKit
open Go.Deep (BT)

set_option maxRecDepth 100000 in
set_option maxHeartbeats 4000000 in
theorem row_any (k : Nat) (hk : k ≤ 40) (w : World) : Calls Tryz.prog 112 #[.int .i64 (k : Nat)] w fun e w' => e = .returned (.int .i64 (rowOf k : Nat)) ∧ w' = w := by
  by_cases hc : k = 40 ∨ k = 39 ∨ k = 27 ∨ k = 29 ∨ k = 30 ∨ k = 31 ∨ k = 32 ∨ k = 33 ∨ k = 34 ∨ k = 35 ∨ k = 36 ∨ k = 37 ∨ k = 38
  · rcases hc with rfl | rfl | rfl | rfl | rfl | rfl | rfl | rfl | rfl | rfl | rfl | rfl | rfl
    all_goals
      go_enter Tryz.func112, Tryz.ntmps112
      go_wp2
      go_ret
      exact ⟨rfl, rfl⟩
  · have h0 : rowOf k = 0 := by
      unfold rowOf
      rw [if_neg (by omega), if_neg (by omega), if_neg (by omega), if_neg (by omega), if_neg (by omega), if_neg (by omega)]
    have hn : ∀ c : Int, c = 40 ∨ c = 39 ∨ c = 27 ∨ c = 29 ∨ c = 30 ∨ c = 31 ∨ c = 32 ∨ c = 33 ∨ c = 34 ∨ c = 35 ∨ c = 36 ∨ c = 37 ∨ c = 38 → ((k : Int) == c) = false := by
      intro c h; rw [beq_eq_false_iff_ne]; omega
    have t1 := hn 40 (by omega)
    have t2 := hn 39 (by omega)
    have t3 := hn 27 (by omega)
    have t4 := hn 29 (by omega)
    have t5 := hn 30 (by omega)
    have t6 := hn 31 (by omega)
    have t7 := hn 32 (by omega)
    have t8 := hn 33 (by omega)
    have t9 := hn 34 (by omega)
    have t10 := hn 35 (by omega)
    have t11 := hn 36 (by omega)
    have t12 := hn 37 (by omega)
    have t13 := hn 38 (by omega)
    clear hn hc
    have H0 := hide h0
    clear h0
    go_enter Tryz.func112, Tryz.ntmps112
    go_wp2
    go_ret
    exact ⟨by rw [H0.out]; rfl, rfl⟩

theorem cf0 (k n l : Int) (S : ByteArray) (w : World) : (Instr.field 93 (.agg #[.int .i64 k, .int .i64 l, .string S, .int .i64 n]) 0).run Tryz.prog w = .ok (.int .i64 k) w := by kernel_rfl
theorem cf1 (k n l : Int) (S : ByteArray) (w : World) : (Instr.field 93 (.agg #[.int .i64 k, .int .i64 l, .string S, .int .i64 n]) 1).run Tryz.prog w = .ok (.int .i64 l) w := by kernel_rfl
theorem cf2 (k n l : Int) (S : ByteArray) (w : World) : (Instr.field 93 (.agg #[.int .i64 k, .int .i64 l, .string S, .int .i64 n]) 2).run Tryz.prog w = .ok (.string S) w := by kernel_rfl
theorem cf3 (k n l : Int) (S : ByteArray) (w : World) : (Instr.field 93 (.agg #[.int .i64 k, .int .i64 l, .string S, .int .i64 n]) 3).run Tryz.prog w = .ok (.int .i64 n) w := by kernel_rfl

theorem take_badC (s : PS) : (takeS s).bad = s.bad := by unfold takeS; split <;> rfl

theorem ke {k c : Nat} {d : Int} (hd : (c : Int) = d) (h : k = c) : ((k : Int) == d) = true := by subst hd h; simp
theorem kn {k c : Nat} {d : Int} (hd : (c : Int) = d) (h : k ≠ c) : ((k : Int) == d) = false := by subst hd; rw [beq_eq_false_iff_ne]; omega

theorem fail_ne {s : PS} (h : s.bad = 0 → 1 ≤ (hdT s).line) : (failS s).bad ≠ 0 := by
  unfold failS
  split
  · have := h (by assumption)
    simp only; omega
  · assumption

set_option maxRecDepth 100000 in
set_option maxHeartbeats 4000000 in
theorem literal_any {b tb cap te : Nat} {ts : List Tk} {n : Nat} (w : World) (s : PS) (r : BT Lab × PS) (h6 : kT s ≠ 1) (h7 : kT s ≠ 18) (h8 : kT s ≠ 22) (h9 : kT s ≠ 16) (h10 : kT s ≠ 17) (hs : PR b tb cap te ts w s) (hp : pars (n + 1) 4 0 .nil s = some r) :
    Calls Tryz.prog 136 #[.pointer (some ⟨b, 0, none⟩)] w (ExPost b tb cap te ts w r) := by
  have HS := hide hs
  have hf0 := cf0
  have hf2 := cf2
  have hf3 := cf3
  by_cases h2 : kT s = 2
  · have HR := hide (pars_int h2 hp)
    have t2 : ((kT s : Int) == 2) = true := ke (c := 2) rfl h2
    clear hp hs h6 h7 h8 h9 h10 h2
    go_enter Tryz.func136, Tryz.ntmps136
    go_wp2_with fail
    refine (kind_any HS.out).mono ?_
    rintro e w1 ⟨rfl, h1, hb1⟩
    have H1 := hide h1
    have HO1 : Hid (Only b w w1) := Below.only hb1
    clear h1 hb1
    go_wp2_with fail
    refine (take_any H1.out).mono ?_
    rintro e w2 ⟨ln, nn, S, rfl, htk, h2, ho2⟩
    have HO2 : Hid (Only b w w2) := HO1.out.trans ho2
    have H2 := hide h2
    have HTk := hide htk
    clear h2 htk ho2
    go_wp2
    go_ret
    rw [HR.out]
    refine ex_close (l := ⟨1, (hdT s).line, [], (hdT s).n, []⟩) (ch := .nil) (ks := []) H2.out HO2.out rfl (by simp) rfl rfl (fun hb => ⟨⟨?_, rfl⟩, rfl⟩)
    rw [take_badC] at hb
    rw [(HTk.out hb).2.2]
  by_cases h3 : kT s = 3
  · have HR := hide (pars_text h3 hp)
    have t2 : ((kT s : Int) == 2) = false := kn (c := 2) rfl h2
    have t3 : ((kT s : Int) == 3) = true := ke (c := 3) rfl h3
    clear hp hs h6 h7 h8 h9 h10 h3
    go_enter Tryz.func136, Tryz.ntmps136
    go_wp2_with fail
    refine (kind_any HS.out).mono ?_
    rintro e w1 ⟨rfl, h1, hb1⟩
    have H1 := hide h1
    have HO1 : Hid (Only b w w1) := Below.only hb1
    clear h1 hb1
    go_wp2_with fail
    refine (take_any H1.out).mono ?_
    rintro e w2 ⟨ln, nn, S, rfl, htk, h2, ho2⟩
    have HO2 : Hid (Only b w w2) := HO1.out.trans ho2
    have H2 := hide h2
    have HTk := hide htk
    clear h2 htk ho2
    go_wp2
    go_ret
    rw [HR.out]
    refine ex_close (l := ⟨2, (hdT s).line, (hdT s).s, 0, []⟩) (ch := .nil) (ks := []) H2.out HO2.out rfl (by simp) rfl rfl (fun hb => ⟨⟨?_, rfl⟩, rfl⟩)
    rw [take_badC] at hb
    rw [(HTk.out hb).2.1]; rfl
  by_cases h13 : kT s = 13
  · have HR := hide (pars_true h13 hp)
    have t2 : ((kT s : Int) == 2) = false := kn (c := 2) rfl h2
    have t3 : ((kT s : Int) == 3) = false := kn (c := 3) rfl h3
    have t13 : ((kT s : Int) == 13) = true := ke (c := 13) rfl h13
    clear hp hs h6 h7 h8 h9 h10 h13
    go_enter Tryz.func136, Tryz.ntmps136
    go_wp2_with fail
    refine (kind_any HS.out).mono ?_
    rintro e w1 ⟨rfl, h1, hb1⟩
    have H1 := hide h1
    have HO1 : Hid (Only b w w1) := Below.only hb1
    clear h1 hb1
    go_wp2_with fail
    refine (take_any H1.out).mono ?_
    rintro e w2 ⟨ln, nn, S, rfl, htk, h2, ho2⟩
    have HO2 : Hid (Only b w w2) := HO1.out.trans ho2
    have H2 := hide h2
    have HTk := hide htk
    clear h2 htk ho2
    go_wp2
    go_ret
    rw [HR.out]
    refine ex_close (l := lab0 3 (hdT s).line) (ch := .nil) (ks := []) H2.out HO2.out rfl (by simp [lab0]) rfl rfl (fun hb => ⟨⟨?_, rfl⟩, rfl⟩)
    rfl
  by_cases h14 : kT s = 14
  · have HR := hide (pars_false h14 hp)
    have t2 : ((kT s : Int) == 2) = false := kn (c := 2) rfl h2
    have t3 : ((kT s : Int) == 3) = false := kn (c := 3) rfl h3
    have t13 : ((kT s : Int) == 13) = false := kn (c := 13) rfl h13
    have t14 : ((kT s : Int) == 14) = true := ke (c := 14) rfl h14
    clear h13
    clear hp hs h6 h7 h8 h9 h10 h14
    go_enter Tryz.func136, Tryz.ntmps136
    go_wp2_with fail
    refine (kind_any HS.out).mono ?_
    rintro e w1 ⟨rfl, h1, hb1⟩
    have H1 := hide h1
    have HO1 : Hid (Only b w w1) := Below.only hb1
    clear h1 hb1
    go_wp2_with fail
    refine (take_any H1.out).mono ?_
    rintro e w2 ⟨ln, nn, S, rfl, htk, h2, ho2⟩
    have HO2 : Hid (Only b w w2) := HO1.out.trans ho2
    have H2 := hide h2
    have HTk := hide htk
    clear h2 htk ho2
    go_wp2
    go_ret
    rw [HR.out]
    refine ex_close (l := lab0 4 (hdT s).line) (ch := .nil) (ks := []) H2.out HO2.out rfl (by simp [lab0]) rfl rfl (fun hb => ⟨⟨?_, rfl⟩, rfl⟩)
    rfl
  by_cases h15 : kT s = 15
  · have HR := hide (pars_null h15 hp)
    have t2 : ((kT s : Int) == 2) = false := kn (c := 2) rfl h2
    have t3 : ((kT s : Int) == 3) = false := kn (c := 3) rfl h3
    have t13 : ((kT s : Int) == 13) = false := kn (c := 13) rfl h13
    have t14 : ((kT s : Int) == 14) = false := kn (c := 14) rfl h14
    have t15 : ((kT s : Int) == 15) = true := ke (c := 15) rfl h15
    clear hp hs h6 h7 h8 h9 h10 h15
    go_enter Tryz.func136, Tryz.ntmps136
    go_wp2_with fail
    refine (kind_any HS.out).mono ?_
    rintro e w1 ⟨rfl, h1, hb1⟩
    have H1 := hide h1
    have HO1 : Hid (Only b w w1) := Below.only hb1
    clear h1 hb1
    go_wp2_with fail
    refine (take_any H1.out).mono ?_
    rintro e w2 ⟨ln, nn, S, rfl, htk, h2, ho2⟩
    have HO2 : Hid (Only b w w2) := HO1.out.trans ho2
    have H2 := hide h2
    have HTk := hide htk
    clear h2 htk ho2
    go_wp2
    go_ret
    rw [HR.out]
    refine ex_close (l := lab0 5 (hdT s).line) (ch := .nil) (ks := []) H2.out HO2.out rfl (by simp [lab0]) rfl rfl (fun hb => ⟨⟨?_, rfl⟩, rfl⟩)
    rfl
  have HR := hide (pars_none h2 h3 h13 h14 h15 h6 h7 h8 h9 h10 hp)
  have t2 : ((kT s : Int) == 2) = false := kn (c := 2) rfl h2
  have t3 : ((kT s : Int) == 3) = false := kn (c := 3) rfl h3
  have t13 : ((kT s : Int) == 13) = false := kn (c := 13) rfl h13
  have t14 : ((kT s : Int) == 14) = false := kn (c := 14) rfl h14
  have t15 : ((kT s : Int) == 15) = false := kn (c := 15) rfl h15
  have HFb : Hid (s.bad = 0 → 1 ≤ (hdT s).line) := fun e => (hs.lines e).1
  clear hp hs h6 h7 h8 h9 h10 h2 h3 h13 h14 h15
  go_enter Tryz.func136, Tryz.ntmps136
  go_wp2_with fail
  refine (kind_any HS.out).mono ?_
  rintro e w1 ⟨rfl, h1, hb1⟩
  have H1 := hide h1
  have HO1 : Hid (Only b w w1) := Below.only hb1
  clear h1 hb1
  go_wp2_with fail
  refine (fail_any H1.out).mono ?_
  rintro e w2 ⟨rfl, h2, ho2⟩
  have HO2 : Hid (Only b w w2) := HO1.out.trans ho2
  have H2 := hide h2
  clear h2 ho2
  go_wp2
  go_ret
  rw [HR.out]
  refine ⟨_, _, rfl, PR.alloc H2.out _, HO2.out.alloc _, fun hb => absurd hb ?_⟩
  show (failS s).bad ≠ 0
  exact fail_ne HFb.out
end Go.Proofs.YtgccmgjbbcndbaaGreatDoor
