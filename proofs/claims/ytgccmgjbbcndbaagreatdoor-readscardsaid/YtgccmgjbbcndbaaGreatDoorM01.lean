import Derived.Test.YtgccmgjbbcndbaaGreatDoorRows
import Derived.WalkKit
import Derived.WalkSpells
import Derived.WalkLawsBesides
import Derived.Deep.AppendLies
import Derived.Laws.IdiomStrings
import Derived.Shelf.LaysM
import Derived.Shelf.LaysC
import Derived.Shelf.Strconv.Clone
import Derived.Shelf.Strconv.ParseIntPublic10
import Derived.Test.YtgccmgjbbcndbaaGreatDoorProg
import Derived.Deep.Trees
/- Plain mathematics: the tokens of a text, as the document says them: no program is named here. -/
namespace Go.Proofs.YtgccmgjbbcndbaaGreatDoor

structure Tk where
  k : Nat
  line : Nat
  s : List UInt8
  n : Int

def isDig (c : UInt8) : Bool := decide (48 ≤ c.toNat) && decide (c.toNat ≤ 57)
def isLet (c : UInt8) : Bool := (decide (97 ≤ c.toNat) && decide (c.toNat ≤ 122)) || (decide (65 ≤ c.toNat) && decide (c.toNat ≤ 90))
def isNam (c : UInt8) : Bool := isLet c || isDig c || (c == 95)
def isPrt (c : UInt8) : Bool := decide (32 ≤ c.toNat) && decide (c.toNat ≤ 126)

def maxI : Int := 9223372036854775807

/- the value of some digits, ahead of which another value stands -/
def decFrom : Int → List UInt8 → Int
  | a, [] => a
  | a, c :: r => decFrom (10 * a + ((c.toNat : Int) - 48)) r
def numOf (l : List UInt8) : Option Int := if decFrom 0 l ≤ maxI then some (decFrom 0 l) else none

/- a string behind its opening sign: what it says, and how many bytes it has with the closing one -/
def quot : Bool → List UInt8 → Option (List UInt8 × Nat)
  | _, [] => none
  | true, c :: r =>
    if c == 34 || c == 92 || c == 110 then
      match quot false r with
      | some x => some ((if c == 110 then 10 else c) :: x.1, x.2 + 1)
      | none => none
    else none
  | false, c :: r =>
    if isPrt c then
      if c == 34 then some ([], 1)
      else if c == 92 then
        match quot true r with
        | some x => some (x.1, x.2 + 1)
        | none => none
      else
        match quot false r with
        | some x => some (c :: x.1, x.2 + 1)
        | none => none
    else none

def wordList : List (List UInt8) := [[102, 110], [108, 101, 116], [105, 102], [101, 108, 115, 101], [119, 104, 105, 108, 101], [114, 101, 116, 117, 114, 110], [98, 114, 101, 97, 107], [99, 111, 110, 116, 105, 110, 117, 101], [112, 114, 105, 110, 116], [116, 114, 117, 101], [102, 97, 108, 115, 101], [110, 117, 108, 108], [108, 101, 110], [112, 117, 115, 104]]

/- the number of a word (4 to 17), 0: it is none -/
def wordNo (l : List UInt8) : Nat :=
  if l == [102, 110] then 4 else if l == [108, 101, 116] then 5 else if l == [105, 102] then 6 else if l == [101, 108, 115, 101] then 7
  else if l == [119, 104, 105, 108, 101] then 8 else if l == [114, 101, 116, 117, 114, 110] then 9 else if l == [98, 114, 101, 97, 107] then 10
  else if l == [99, 111, 110, 116, 105, 110, 117, 101] then 11 else if l == [112, 114, 105, 110, 116] then 12 else if l == [116, 114, 117, 101] then 13
  else if l == [102, 97, 108, 115, 101] then 14 else if l == [110, 117, 108, 108] then 15 else if l == [108, 101, 110] then 16 else if l == [112, 117, 115, 104] then 17 else 0

/- the number of a sign of two bytes, of one byte; 0: it is none -/
def sign2 (c d : UInt8) : Nat :=
  if c == 61 && d == 61 then 27 else if c == 33 && d == 61 then 29 else if c == 60 && d == 61 then 31 else if c == 62 && d == 61 then 33
  else if c == 38 && d == 38 then 39 else if c == 124 && d == 124 then 40 else 0
def sign1 (c : UInt8) : Nat :=
  if c == 40 then 18 else if c == 41 then 19 else if c == 123 then 20 else if c == 125 then 21 else if c == 91 then 22 else if c == 93 then 23
  else if c == 44 then 24 else if c == 59 then 25 else if c == 61 then 26 else if c == 33 then 28 else if c == 60 then 30 else if c == 62 then 32
  else if c == 43 then 34 else if c == 45 then 35 else if c == 42 then 36 else if c == 47 then 37 else if c == 37 then 38 else 0

/- how many bytes at the beginning are a sign, and its number -/
def signAt : List UInt8 → Nat × Nat
  | [] => (0, 0)
  | [c] => if sign1 c == 0 then (0, 0) else (sign1 c, 1)
  | c :: d :: _ => if sign2 c d != 0 then (sign2 c d, 2) else if sign1 c == 0 then (0, 0) else (sign1 c, 1)

/- the token at the beginning (its line is not told), and how many bytes it has -/
def tokAt : List UInt8 → Option (Tk × Nat)
  | [] => none
  | c :: r =>
    if isDig c then
      match numOf ((c :: r).takeWhile isDig) with
      | some n => some (⟨2, 0, [], n⟩, ((c :: r).takeWhile isDig).length)
      | none => none
    else if isLet c then
      if wordNo ((c :: r).takeWhile isNam) != 0 then some (⟨wordNo ((c :: r).takeWhile isNam), 0, [], 0⟩, ((c :: r).takeWhile isNam).length)
      else if ((c :: r).takeWhile isNam).length ≤ 16 then some (⟨1, 0, (c :: r).takeWhile isNam, 0⟩, ((c :: r).takeWhile isNam).length)
      else none
    else if c == 34 then
      match quot false r with
      | some x => some (⟨3, 0, x.1, 0⟩, x.2 + 1)
      | none => none
    else if (signAt (c :: r)).2 == 0 then none
    else some (⟨(signAt (c :: r)).1, 0, [], 0⟩, (signAt (c :: r)).2)

/- all tokens: the line of what is none, or the tokens, the last one the end; said: within a remark -/
def lex : Nat → List UInt8 → Nat → Bool → Nat ⊕ List Tk
  | 0, _, line, _ => .inl line
  | _ + 1, [], line, _ => .inr [⟨0, line, [], 0⟩]
  | f + 1, c :: r, line, said =>
    if c == 10 then lex f r (line + 1) false
    else if c != 9 && !(isPrt c) then .inl line
    else if said || (c == 47 && r.head? == some 47) || c == 9 || c == 32 then lex f r line (said || (c == 47 && r.head? == some 47))
    else match tokAt (c :: r) with
      | none => .inl line
      | some (t, n) =>
        match lex f ((c :: r).drop n) line false with
        | .inl l => .inl l
        | .inr ts => .inr ({ t with line := line } :: ts)

end Go.Proofs.YtgccmgjbbcndbaaGreatDoor
/- Small laws of our own for walks: one element appended to a slice that the call owns; bytes as values. -/
namespace Go.Proofs.YtgccmgjbbcndbaaGreatDoor
open Go.RowKit

theorem hide {p : Prop} (h : p) : Hid p := h
theorem ret_bool {a b : Bool} (h : a = b) : Ending.returned (.bool a) = .returned (.bool b) := by rw [h]
theorem ret_int {k : IntKind} {a b : Int} (h : a = b) : Ending.returned (.int k a) = .returned (.int k b) := by rw [h]

theorem grown_trans {a b c : World} {r : Option Nat} (h : a.grownBy b none) (k : b.grownBy c r) : a.grownBy c r :=
  ⟨k.os.trans h.os, k.tape.trans h.tape, k.output.trans h.output, Nat.le_trans h.size k.size, fun i hi hne => (k.block i (Nat.lt_of_lt_of_le hi h.size) hne).trans (h.block i hi (by simp))⟩

/- 'append(v, x)' of one element, which the walk has laid into a new block just ahead. -/
theorem wpl_app {P : Program} {ops : Array Oper} {rest : List Oper} {o : Oper} {a : Act} {Q : Exit → Act → World → Prop} (W : World) (cs : Array Value) (e : TypeId) (hgd : o.guard = none) (s x : Operand) (t : TypeId)
    (ho : o.op = .call { callee := .builtin .append, args := #[s, x], argTypes := #[t, t] })
    (base size bytes : Nat) (z : Value) (ht : P.underlying t = some (.slice e)) (hinfo : (P.info? e).map (fun i => (i.zero, i.size, i.bytes)) = some (some z, size, bytes))
    (hzs : z.cells.size = size) (hsz : 0 < size)
    (v : Value) (n : Nat) (xs : List Value) (hs : a.eval s = v) (hx : a.eval x = .slice (some ⟨W.heap.size, 0, none⟩) 1 1)
    (hown : W.ownsRow base e size v n xs) (hl : cs.size = size) (h1 : ∀ u ∈ cs.toList, u.oneCell' = true)
    (hn : n ≤ 1000000) (hby : bytes ≤ 1000) (hbase : base ≤ W.heap.size)
    (h : ∀ g cap w', w'.ownsRow base e size (.slice (some ⟨g, 0, none⟩) (n + 1) cap) (n + 1) (xs ++ cs.toList) → W.grownBy w' v.ownBlock → (v.ownBlock = some g ∨ g = W.heap.size + 1) → g < w'.heap.size →
      wpList P ops Q rest (a.put o.dst (.slice (some ⟨g, 0, none⟩) (n + 1) cap)) w') : wpList P ops Q (o :: rest) a (W.alloc (.cells cs e)) := by
  obtain ⟨i, hi, hz0, hz1, hz2⟩ := info_parts hinfo
  have hb := Nat.mul_le_mul (show n + 1 ≤ 1000001 by omega) hby
  refine wpList_append_lies (P := P) (W.alloc (.cells cs e)) hgd s x t ho base e i z size bytes ht hi hz0 hz1 hz2 hzs hsz v n xs hs (hown.alloc _) ⟨W.heap.size, 0, none⟩ 1 1 cs.toList hx (by simp [hl])
    (World.news_of_block (heap_alloc_new W _)) h1 (by omega) (by simp only [maxLen]; omega) (by omega) (by simp; omega) (W.heap.size + 1) (by simp) ?_
  intro g cap w' k1 k2 k3 k4
  exact h g cap w' k1 (grown_trans (World.grownBy_alloc W _ none) k2) k3 k4

def byteV (b : UInt8) : Value := .int .u8 b.toNat

theorem bt_ne {c d : UInt8} {n : Int} (hd : (d.toNat : Int) = n) (h : c ≠ d) : ((c.toNat : Int) == n) = false := by
  rw [beq_eq_false_iff_ne]; intro e; apply h; apply UInt8.toNat_inj.1; omega
theorem bt_eq {c d : UInt8} {n : Int} (hd : (d.toNat : Int) = n) (h : c = d) : ((c.toNat : Int) == n) = true := by
  subst h; rw [beq_iff_eq]; exact hd
theorem bt_nn {c d : UInt8} {n : Int} (hd : (d.toNat : Int) = n) (h : c ≠ d) : ((c.toNat : Int) != n) = true := by
  rw [bne, bt_ne hd h]; rfl
theorem bt_nq {c d : UInt8} {n : Int} (hd : (d.toNat : Int) = n) (h : c = d) : ((c.toNat : Int) != n) = false := by
  rw [bne, bt_eq hd h]; rfl

theorem byte_at (l : List UInt8) (k : Nat) (h : k < (⟨l.toArray⟩ : ByteArray).size) : ((⟨l.toArray⟩ : ByteArray)[k]'h) = l[k]'(by simpa [ByteArray.size] using h) := by
  rfl

theorem toList_data (s : ByteArray) : s.toList = s.data.toList := by
  show ByteArray.toList.loop s 0 [] = _
  rw [ByteArray.toList_loop_eq s _ 0 [] rfl (Nat.zero_le _)]; simp
theorem bytes_app (a b : List UInt8) : ((⟨a.toArray⟩ : ByteArray) ++ (⟨b.toArray⟩ : ByteArray)) = ⟨(a ++ b).toArray⟩ := by
  apply ByteArray.ext; simp
theorem extract_list (a : List UInt8) (i j : Nat) : ((⟨a.toArray⟩ : ByteArray).extract i j).toList = (a.drop i).take (j - i) := by
  rw [toList_data, ByteArray.data_extract]; simp
theorem extract_arr (l : List UInt8) (i j : Nat) : (⟨l.toArray⟩ : ByteArray).extract i j = ⟨((l.drop i).take (j - i)).toArray⟩ := by
  apply ByteArray.ext; simp [ByteArray.data_extract]
theorem own_ge {w : World} {base : Nat} {e : TypeId} {size : Nat} {v : Value} {n : Nat} {xs : List Value} (h : w.ownsRow base e size v n xs) : ∀ k, v.ownBlock = some k → base ≤ k := by
  intro k hk
  rcases h.2 with ⟨rfl, _⟩ | ⟨g, cap, cur, rfl, hb, _⟩
  · simp [Value.ownBlock] at hk
  · simp [Value.ownBlock] at hk; omega

theorem heap_lt {w : World} {g : Nat} {o : Obj} (h : w.heap[g]? = some o) : g < w.heap.size := by
  rcases Nat.lt_or_ge g w.heap.size with h' | h'
  · exact h'
  · rw [Array.getElem?_eq_none h'] at h; cases h

/- a row stays owned where its block is as it was -/
theorem own_same {w w' : World} {base : Nat} {e : TypeId} {size : Nat} {v : Value} {n : Nat} {xs : List Value} (h : w.ownsRow base e size v n xs) (hb : ∀ g, v.ownBlock = some g → g < w.heap.size → w'.heap[g]? = w.heap[g]?) : w'.ownsRow base e size v n xs := by
  obtain ⟨h1, h2⟩ := h
  refine ⟨h1, ?_⟩
  rcases h2 with h2 | ⟨g, cap, cur, rfl, hg, hh, r⟩
  · exact .inl h2
  · exact .inr ⟨g, cap, cur, rfl, hg, (hb g rfl (heap_lt hh)).trans hh, r⟩
theorem own_below {w w' : World} {base : Nat} {e : TypeId} {size : Nat} {v : Value} {n : Nat} {xs : List Value} (h : w.ownsRow base e size v n xs) (hb : Below w.heap.size w w') : w'.ownsRow base e size v n xs :=
  own_same h fun g _ hg => hb.block g hg
theorem own_lt {w : World} {base : Nat} {e : TypeId} {size : Nat} {v : Value} {n : Nat} {xs : List Value} (h : w.ownsRow base e size v n xs) : ∀ g, v.ownBlock = some g → g < w.heap.size := by
  intro k hk
  rcases h.2 with ⟨rfl, _⟩ | ⟨g, cap, cur, rfl, _, hh, _⟩
  · simp [Value.ownBlock] at hk
  · simp [Value.ownBlock] at hk; rw [← hk]; exact heap_lt hh
theorem own_setCell {w : World} {base : Nat} {e : TypeId} {size : Nat} {v : Value} {n : Nat} {xs : List Value} (h : w.ownsRow base e size v n xs) (a : Addr) (u : Value) (hne : v.ownBlock ≠ some a.block) : (w.setCell a u).ownsRow base e size v n xs :=
  own_same h fun g hg _ => Below.heap_setCell w a u g (fun e => hne (by rw [hg, e]))

theorem bcell {W w1 : World} (hb : Below W.heap.size W w1) : (∀ b o, b < W.heap.size → w1.cell? ⟨b, o, none⟩ = W.cell? ⟨b, o, none⟩) ∧ (∀ b o, b < W.heap.size → w1.frozen? ⟨b, o, none⟩ = W.frozen? ⟨b, o, none⟩) :=
  ⟨fun b o h => hb.cell (p := ⟨b, o, none⟩) h, fun b o h => hb.frozen (p := ⟨b, o, none⟩) h⟩
end Go.Proofs.YtgccmgjbbcndbaaGreatDoor
/- Walks of the small functions on bytes. -/
namespace Go.Proofs.YtgccmgjbbcndbaaGreatDoor
open Go.RowKit

set_option maxHeartbeats 400000 in
theorem digit_any (n : Int) (w : World) :
    Calls Tryz.prog 31 #[.int .u8 n] w fun e w' => e = .returned (.bool (decide (48 ≤ n) && decide (n ≤ 57))) ∧ w' = w := by
  by_cases h1 : 48 ≤ n <;> by_cases h2 : n ≤ 57
  all_goals
    go_enter Tryz.func31, Tryz.ntmps31
    go_wp2
    go_ret
    exact ⟨by simp [h1, h2], rfl⟩

set_option maxHeartbeats 400000 in
theorem letter_any (n : Int) (w : World) :
    Calls Tryz.prog 32 #[.int .u8 n] w fun e w' => e = .returned (.bool ((decide (97 ≤ n) && decide (n ≤ 122)) || (decide (65 ≤ n) && decide (n ≤ 90)))) ∧ w' = w := by
  by_cases h1 : 97 ≤ n <;> by_cases h2 : n ≤ 122 <;> by_cases h3 : 65 ≤ n <;> by_cases h4 : n ≤ 90
  all_goals
    try (exfalso; omega)
  all_goals
    go_enter Tryz.func32, Tryz.ntmps32
    go_wp2
    go_ret
    exact ⟨by simp [h1, h2, h3, h4], rfl⟩
end Go.Proofs.YtgccmgjbbcndbaaGreatDoor
/- Walk of among. -/
namespace Go.Proofs.YtgccmgjbbcndbaaGreatDoor
open Go.RowKit

def hasSub (t : List UInt8) : List UInt8 → Bool
  | [] => t == []
  | c :: r => ((c :: r).take t.length == t) || hasSub t r

theorem hasSub_short (t l : List UInt8) (h : l.length < t.length) : hasSub t l = false := by
  induction l with
  | nil => cases t with
    | nil => simp at h
    | cons c r => simp [hasSub]
  | cons c r ih =>
    have hr : hasSub t r = false := ih (by simp at h; omega)
    rw [hasSub, hr, Bool.or_false]
    rw [beq_eq_false_iff_ne]
    intro e
    have := congrArg List.length e
    simp at this h
    omega

theorem hasSub_step (t a : List UInt8) (k : Nat) (h : k + t.length ≤ a.length) (ht : 0 < t.length) (hne : ((a.drop k).take t.length == t) = false) : hasSub t (a.drop k) = hasSub t (a.drop (k + 1)) := by
  rw [List.drop_eq_getElem_cons (by omega)] at hne ⊢
  rw [hasSub, hne, Bool.false_or]

theorem hasSub_hit (t a : List UInt8) (k : Nat) (h : k + t.length ≤ a.length) (ht : 0 < t.length) (he : ((a.drop k).take t.length == t) = true) : hasSub t (a.drop k) = true := by
  rw [List.drop_eq_getElem_cons (by omega)] at he ⊢
  rw [hasSub, he, Bool.true_or]

def amongL (s a : List UInt8) : Bool := hasSub (32 :: (s ++ [32])) a

set_option maxHeartbeats 400000 in
theorem among_any (s a : List UInt8) (w : World) (hs : s.length ≤ 100000) (ha : a.length ≤ 100000) :
    Calls Tryz.prog 34 #[.string ⟨s.toArray⟩, .string ⟨a.toArray⟩] w fun e w' => e = .returned (.bool (amongL s a)) ∧ w' = w := by
  have e1 : ((⟨#[32]⟩ : ByteArray) ++ (⟨s.toArray⟩ : ByteArray)) = ⟨(32 :: s).toArray⟩ := bytes_app [32] s
  have e2 : ((⟨(32 :: s).toArray⟩ : ByteArray) ++ (⟨#[32]⟩ : ByteArray)) = ⟨(32 :: s ++ [32]).toArray⟩ := bytes_app (32 :: s) [32]
  go_enter Tryz.func34, Tryz.ntmps34
  go_wp2
  go_loop [6] (fun i => ∃ k : Nat, k ≤ a.length ∧ i = .int .i64 k ∧ amongL s a = hasSub (32 :: (s ++ [32])) (a.drop k)) (fun i => a.length - (intOf i).toNat)
  case atStart => exact ⟨0, Nat.zero_le _, rfl, rfl⟩
  case round =>
    obtain ⟨k, hk, rfl, hsub⟩ := hrel
    have HS := hide hsub
    clear hsub
    by_cases hlt : k + (s.length + 2) ≤ a.length
    · cases he : ((a.drop k).take (32 :: (s ++ [32])).length == (32 :: (s ++ [32])))
      · have he' : (((⟨a.toArray⟩ : ByteArray).extract k (k + (s.length + 1 + 1))).toList == 32 :: (s ++ [32])) = false := by
          rw [extract_list, Nat.add_sub_cancel_left]; simpa using he
        have HE := hide he
        clear he
        go_wp2
        go_round
        case rel => exact ⟨k + 1, by omega, by go_num, by rw [HS.out]; exact hasSub_step _ a k (by simp; omega) (by simp) HE.out⟩
        case measure => simp [intOf]; omega
      · have he' : (((⟨a.toArray⟩ : ByteArray).extract k (k + (s.length + 1 + 1))).toList == 32 :: (s ++ [32])) = true := by
          rw [extract_list, Nat.add_sub_cancel_left]; simpa using he
        have HE := hide he
        clear he
        go_wp2
        go_ret
        exact ⟨ret_bool (by rw [HS.out]; exact (hasSub_hit _ a k (by simp; omega) (by simp) HE.out).symm), rfl⟩
    · go_wp2
      go_ret
      exact ⟨ret_bool (by rw [HS.out]; exact (hasSub_short _ _ (by simp; omega)).symm), rfl⟩
end Go.Proofs.YtgccmgjbbcndbaaGreatDoor
/- Walk of number. -/
namespace Go.Proofs.YtgccmgjbbcndbaaGreatDoor
open Go.RowKit

theorem wrap64_id {x : Int} (h0 : -9223372036854775808 ≤ x) (h1 : x ≤ 9223372036854775807) : wrap64 x = x := by
  unfold wrap64; omega

theorem decFrom_ge (l : List UInt8) (hd : ∀ c ∈ l, isDig c = true) : ∀ a : Int, 0 ≤ a → a ≤ decFrom a l := by
  induction l with
  | nil => intro a _; exact Int.le_refl _
  | cons c r ih =>
    intro a ha
    have hc := hd c (by simp)
    simp only [isDig, Bool.and_eq_true, decide_eq_true_eq] at hc
    have := ih (fun x hx => hd x (by simp [hx])) (10 * a + ((c.toNat : Int) - 48)) (by omega)
    rw [decFrom]; omega

theorem decFrom_take (l : List UInt8) (k : Nat) (h : k < l.length) : ∀ a, decFrom a (l.take (k + 1)) = 10 * decFrom a (l.take k) + ((l[k].toNat : Int) - 48) := by
  induction l generalizing k with
  | nil => simp at h
  | cons c r ih =>
    intro a
    cases k with
    | zero => simp [decFrom]
    | succ k => simp only [List.take_succ_cons, decFrom, List.getElem_cons_succ]; exact ih k (by simpa using h) _

theorem decFrom_app (a b : List UInt8) : ∀ x, decFrom x (a ++ b) = decFrom (decFrom x a) b := by
  induction a with
  | nil => intro x; rfl
  | cons c r ih => intro x; simp only [List.cons_append, decFrom]; exact ih _

theorem decFrom_prefix (l : List UInt8) (hd : ∀ c ∈ l, isDig c = true) (k : Nat) : decFrom 0 (l.take k) ≤ decFrom 0 l := by
  have h1 : decFrom 0 l = decFrom (decFrom 0 (l.take k)) (l.drop k) := by rw [← decFrom_app, List.take_append_drop]
  have h2 := decFrom_ge (l.take k) (fun c hc => hd c (List.mem_of_mem_take hc)) 0 (by omega)
  have h3 := decFrom_ge (l.drop k) (fun c hc => hd c (List.mem_of_mem_drop hc)) (decFrom 0 (l.take k)) h2
  omega

theorem numOf_big (l : List UInt8) (hd : ∀ c ∈ l, isDig c = true) (k : Nat) (h : k < l.length)
    (hlt : (9223372036854775807 - ((l[k].toNat : Int) - 48)) / 10 < decFrom 0 (l.take k)) : numOf l = none := by
  have h1 := decFrom_prefix l hd (k + 1)
  rw [decFrom_take l k h] at h1
  unfold numOf maxI
  rw [if_neg (by omega)]

theorem numOf_small (l : List UInt8) (h : decFrom 0 l ≤ maxI) : numOf l = some (decFrom 0 l) := by
  unfold numOf; rw [if_pos h]

set_option maxHeartbeats 400000 in
theorem number_any (l : List UInt8) (w : World) (hl : l.length ≤ 100000) (hd : ∀ c ∈ l, isDig c = true) :
    Calls Tryz.prog 33 #[.string ⟨l.toArray⟩] w fun e w' => e = .returned (.tuple #[.int .i64 ((numOf l).getD 0), .bool (numOf l).isSome]) ∧ w' = w := by
  have HD := hide hd
  clear hd
  go_enter Tryz.func33, Tryz.ntmps33
  go_wp2
  go_loop [4, 5] (fun n i => ∃ k : Nat, k ≤ l.length ∧ i = .int .i64 k ∧ ∃ m : Int, n = .int .i64 m ∧ 0 ≤ m ∧ m ≤ maxI ∧ m = decFrom 0 (l.take k)) (fun _ i => l.length - (intOf i).toNat)
  case atStart => exact ⟨0, Nat.zero_le _, rfl, 0, rfl, by omega, by unfold maxI; omega, rfl⟩
  case round =>
    obtain ⟨k, hk, rfl, m, rfl, hm0, hm1, hm⟩ := hrel
    have HM := hide hm
    clear hm
    by_cases hlt : k < l.length
    · have hb := HD.out l[k] (by simp)
      simp only [isDig, Bool.and_eq_true, decide_eq_true_eq] at hb
      have hb0 : 48 ≤ (l[k].toNat : Int) := by omega
      have hb1 : (l[k].toNat : Int) ≤ 57 := by omega
      have hE : ∀ h, ((⟨l.toArray⟩ : ByteArray)[k]'h) = l[k] := fun h => byte_at l k h
      by_cases hc : (9223372036854775807 - ((l[k].toNat : Int) - 48)) / 10 < m
      · have HN := hide (numOf_big l HD.out k hlt (by rw [← HM.out]; exact hc))
        clear hb
        go_wp2
        go_ret2
        exact ⟨by rw [HN.out]; rfl, rfl⟩
      · have hc' : m ≤ (9223372036854775807 - ((l[k].toNat : Int) - 48)) / 10 := by omega
        clear hc hb
        go_wp2
        go_round
        case rel =>
          exact ⟨k + 1, by omega, by go_num, 10 * m + ((l[k].toNat : Int) - 48), rfl, by omega, by unfold maxI; omega, by rw [decFrom_take l k hlt, HM.out]⟩
        case measure => simp [intOf]; omega
    · go_wp2
      go_ret2
      have hk' : l.take k = l := List.take_of_length_le (by omega)
      have hm := HM.out
      rw [hk'] at hm
      have hs := numOf_small l (by omega)
      exact ⟨by rw [hs, hm]; rfl, rfl⟩
end Go.Proofs.YtgccmgjbbcndbaaGreatDoor
/-
  DERIVED: THE SHELF's CONTRACTS AT THIS DUMP, IN PLAIN WORDS (tools/lay-plain.mjs out of 'TryzShelf.lean', which tools/lay-shelf.mjs wrote): THE SAME DECLARATIONS UNDER THE SAME NAMES: 'import', 'namespace', 'open', 'def', 'theorem' AND NOTHING ELSE: no command of the shelf's: FOR A HAND-IN. Each laying: the table of numbers ('.._ren') and one theorem, a field a fact of the dump's own or the kernel's comparison; each contract: ONE APPLICATION.
-/
namespace Go.Proofs
open Go.Shelf
def Tryz.laysM316_ren : Go.Shelf.Ren := ⟨fun | 316 => 87 | n => n, fun | 9 => 9 | 3 => 3 | 4 => 4 | 37 => 124 | 0 => 0 | 127 => 186 | 5 => 5 | n => n, fun | n => n⟩
theorem Tryz.laysM316 : Go.Proofs.LaysM.n316 Tryz.prog Tryz.laysM316_ren := {
  mixed := by kernel_rfl
  f316 := Tryz.func87.trans (congrArg some (by kernel_rfl))
  t0 := Tryz.underlying0
  a0 := Tryz.isAgg0
  z0 := Tryz.sizeOf0
  v0 := Tryz.zeroValue0
  t3 := Tryz.underlying3
  a3 := Tryz.isAgg3
  z3 := Tryz.sizeOf3
  v3 := Tryz.zeroValue3
  t4 := Tryz.underlying4
  a4 := Tryz.isAgg4
  z4 := Tryz.sizeOf4
  v4 := Tryz.zeroValue4
  t9 := Tryz.underlying9
  a9 := Tryz.isAgg9
  z9 := Tryz.sizeOf9
  v9 := Tryz.zeroValue9
  t37 := Tryz.underlying124
  a37 := Tryz.isAgg124
  z37 := Tryz.sizeOf124
  v37 := Tryz.zeroValue124
  t127 := Tryz.underlying186
  a127 := Tryz.isAgg186
  z127 := Tryz.sizeOf186
  v127 := Tryz.zeroValue186
  t5 := Tryz.underlying5
  a5 := Tryz.isAgg5
  z5 := Tryz.sizeOf5
  v5 := Tryz.zeroValue5
  i0 := by kernel_rfl
  i3 := by kernel_rfl
  i4 := by kernel_rfl
  i5 := by kernel_rfl
  i9 := by kernel_rfl
  i37 := by kernel_rfl
  i127 := by kernel_rfl }
def Tryz.laysC174_ren : Go.Shelf.Ren := ⟨fun | 174 => 68 | 247 => 88 | 245 => 89 | 287 => 106 | 279 => 107 | 280 => 108 | 281 => 109 | 282 => 110 | 321 => 122 | 322 => 123 | 316 => 87 | 171 => 125 | 205 => 124 | 243 => 129 | 246 => 131 | 283 => 137 | 284 => 138 | 285 => 139 | 286 => 140 | 129 => 142 | 317 => 141 | 318 => 143 | 319 => 144 | 320 => 145 | 337 => 146 | 338 => 147 | n => n, fun | 9 => 9 | 3 => 3 | 2 => 2 | 75 => 131 | 85 => 132 | 4 => 4 | 167 => 187 | 5 => 5 | 53 => 188 | 175 => 189 | 46 => 191 | 168 => 192 | 37 => 124 | 0 => 0 | 210 => 230 | 21 => 21 | 127 => 186 | 145 => 238 | 143 => 236 | 171 => 241 | 173 => 244 | 212 => 259 | 51 => 260 | 20 => 20 | 213 => 261 | 232 => 265 | 233 => 266 | 80 => 267 | n => n, fun | 15 => 2 | 16 => 3 | 17 => 4 | 18 => 5 | 19 => 6 | n => n⟩
theorem Tryz.laysC174 : Go.Proofs.LaysC.n174 Tryz.prog Tryz.laysC174_ren := {
  mixed := by kernel_rfl
  f129 := Tryz.func142.trans (congrArg some (by kernel_rfl))
  f171 := Tryz.func125.trans (congrArg some (by kernel_rfl))
  f174 := Tryz.func68.trans (congrArg some (by kernel_rfl))
  f205 := Tryz.func124.trans (congrArg some (by kernel_rfl))
  f243 := Tryz.func129.trans (congrArg some (by kernel_rfl))
  f245 := Tryz.func89.trans (congrArg some (by kernel_rfl))
  f246 := Tryz.func131.trans (congrArg some (by kernel_rfl))
  f247 := Tryz.func88.trans (congrArg some (by kernel_rfl))
  f279 := Tryz.func107.trans (congrArg some (by kernel_rfl))
  f280 := Tryz.func108.trans (congrArg some (by kernel_rfl))
  f281 := Tryz.func109.trans (congrArg some (by kernel_rfl))
  f282 := Tryz.func110.trans (congrArg some (by kernel_rfl))
  f283 := Tryz.func137.trans (congrArg some (by kernel_rfl))
  f284 := Tryz.func138.trans (congrArg some (by kernel_rfl))
  f285 := Tryz.func139.trans (congrArg some (by kernel_rfl))
  f286 := Tryz.func140.trans (congrArg some (by kernel_rfl))
  f287 := Tryz.func106.trans (congrArg some (by kernel_rfl))
  f316 := Tryz.func87.trans (congrArg some (by kernel_rfl))
  f317 := Tryz.func141.trans (congrArg some (by kernel_rfl))
  f318 := Tryz.func143.trans (congrArg some (by kernel_rfl))
  f319 := Tryz.func144.trans (congrArg some (by kernel_rfl))
  f320 := Tryz.func145.trans (congrArg some (by kernel_rfl))
  f321 := Tryz.func122.trans (congrArg some (by kernel_rfl))
  f322 := Tryz.func123.trans (congrArg some (by kernel_rfl))
  f337 := Tryz.func146.trans (congrArg some (by kernel_rfl))
  f338 := Tryz.func147.trans (congrArg some (by kernel_rfl))
  t0 := Tryz.underlying0
  a0 := Tryz.isAgg0
  z0 := Tryz.sizeOf0
  v0 := Tryz.zeroValue0
  t2 := Tryz.underlying2
  a2 := Tryz.isAgg2
  z2 := Tryz.sizeOf2
  v2 := Tryz.zeroValue2
  t3 := Tryz.underlying3
  a3 := Tryz.isAgg3
  z3 := Tryz.sizeOf3
  v3 := Tryz.zeroValue3
  t4 := Tryz.underlying4
  a4 := Tryz.isAgg4
  z4 := Tryz.sizeOf4
  v4 := Tryz.zeroValue4
  t5 := Tryz.underlying5
  a5 := Tryz.isAgg5
  z5 := Tryz.sizeOf5
  v5 := Tryz.zeroValue5
  t9 := Tryz.underlying9
  a9 := Tryz.isAgg9
  z9 := Tryz.sizeOf9
  v9 := Tryz.zeroValue9
  t20 := Tryz.underlying20
  a20 := Tryz.isAgg20
  z20 := Tryz.sizeOf20
  v20 := Tryz.zeroValue20
  t21 := Tryz.underlying21
  a21 := Tryz.isAgg21
  z21 := Tryz.sizeOf21
  v21 := Tryz.zeroValue21
  t37 := Tryz.underlying124
  a37 := Tryz.isAgg124
  z37 := Tryz.sizeOf124
  v37 := Tryz.zeroValue124
  t46 := Tryz.underlying191
  a46 := Tryz.isAgg191
  z46 := Tryz.sizeOf191
  v46 := Tryz.zeroValue191
  t51 := Tryz.underlying260
  a51 := Tryz.isAgg260
  z51 := Tryz.sizeOf260
  v51 := Tryz.zeroValue260
  t53 := Tryz.underlying188
  a53 := Tryz.isAgg188
  z53 := Tryz.sizeOf188
  v53 := Tryz.zeroValue188
  t75 := Tryz.underlying131
  a75 := Tryz.isAgg131
  z75 := Tryz.sizeOf131
  v75 := Tryz.zeroValue131
  t85 := Tryz.underlying132
  a85 := Tryz.isAgg132
  z85 := Tryz.sizeOf132
  v85 := Tryz.zeroValue132
  t127 := Tryz.underlying186
  a127 := Tryz.isAgg186
  z127 := Tryz.sizeOf186
  v127 := Tryz.zeroValue186
  t143 := Tryz.underlying236
  a143 := Tryz.isAgg236
  z143 := Tryz.sizeOf236
  v143 := Tryz.zeroValue236
  t145 := Tryz.underlying238
  a145 := Tryz.isAgg238
  z145 := Tryz.sizeOf238
  v145 := Tryz.zeroValue238
  t167 := Tryz.underlying187
  a167 := Tryz.isAgg187
  z167 := Tryz.sizeOf187
  v167 := Tryz.zeroValue187
  t168 := Tryz.underlying192
  a168 := Tryz.isAgg192
  z168 := Tryz.sizeOf192
  v168 := Tryz.zeroValue192
  t171 := Tryz.underlying241
  a171 := Tryz.isAgg241
  z171 := Tryz.sizeOf241
  v171 := Tryz.zeroValue241
  t173 := Tryz.underlying244
  a173 := Tryz.isAgg244
  z173 := Tryz.sizeOf244
  v173 := Tryz.zeroValue244
  t175 := Tryz.underlying189
  a175 := Tryz.isAgg189
  z175 := Tryz.sizeOf189
  v175 := Tryz.zeroValue189
  t210 := Tryz.underlying230
  a210 := Tryz.isAgg230
  z210 := Tryz.sizeOf230
  v210 := Tryz.zeroValue230
  t212 := Tryz.underlying259
  a212 := Tryz.isAgg259
  z212 := Tryz.sizeOf259
  v212 := Tryz.zeroValue259
  t213 := Tryz.underlying261
  a213 := Tryz.isAgg261
  z213 := Tryz.sizeOf261
  t232 := Tryz.underlying265
  a232 := Tryz.isAgg265
  z232 := Tryz.sizeOf265
  v232 := Tryz.zeroValue265
  t233 := Tryz.underlying266
  a233 := Tryz.isAgg266
  z233 := Tryz.sizeOf266
  v233 := Tryz.zeroValue266
  g15 := by kernel_rfl
  g16 := by kernel_rfl
  g17 := by kernel_rfl
  g18 := by kernel_rfl
  g19 := by kernel_rfl
  t80 := Tryz.underlying267
  a80 := Tryz.isAgg267
  z80 := Tryz.sizeOf267
  v80 := Tryz.zeroValue267
  i0 := by kernel_rfl
  i2 := by kernel_rfl
  i3 := by kernel_rfl
  i4 := by kernel_rfl
  i5 := by kernel_rfl
  i9 := by kernel_rfl
  i20 := by kernel_rfl
  i21 := by kernel_rfl
  i37 := by kernel_rfl
  i46 := by kernel_rfl
  i51 := by kernel_rfl
  i53 := by kernel_rfl
  i75 := by kernel_rfl
  i80 := by kernel_rfl
  i85 := by kernel_rfl
  i127 := by kernel_rfl
  i143 := by kernel_rfl
  i145 := by kernel_rfl
  i167 := by kernel_rfl
  i168 := by kernel_rfl
  i171 := by kernel_rfl
  i173 := by kernel_rfl
  i175 := by kernel_rfl
  i210 := by kernel_rfl
  i212 := by kernel_rfl
  i232 := by kernel_rfl
  i233 := by kernel_rfl
  m15 := by kernel_rfl
  m16 := by kernel_rfl
  m17 := by kernel_rfl
  m18 := by kernel_rfl
  m19 := by kernel_rfl
  c0 := by kernel_rfl
  c2 := by kernel_rfl
  c3 := by kernel_rfl
  c4 := by kernel_rfl
  c5 := by kernel_rfl
  c9 := by kernel_rfl
  c20 := by kernel_rfl
  c21 := by kernel_rfl
  c37 := by kernel_rfl
  c46 := by kernel_rfl
  c51 := by kernel_rfl
  c53 := by kernel_rfl
  c75 := by kernel_rfl
  c80 := by kernel_rfl
  c85 := by kernel_rfl
  c127 := by kernel_rfl
  c143 := by kernel_rfl
  c145 := by kernel_rfl
  c167 := by kernel_rfl
  c168 := by kernel_rfl
  c171 := by kernel_rfl
  c173 := by kernel_rfl
  c175 := by kernel_rfl
  c210 := by kernel_rfl
  c212 := by kernel_rfl
  c213 := by kernel_rfl
  c232 := by kernel_rfl
  c233 := by kernel_rfl }
open Go.RowKit in
/-- internal/stringslite.Clone (what strings.Clone calls): "Clone returns a fresh copy of s.": THE SAME BYTES. Of what was there nothing has turned (a new row is laid, and frozen, where s is not empty). (LAID: no walk: one application.) -/
theorem Tryz.stringslite_Clone (s : ByteArray) (w : World) (hlim : s.size ≤ 281474976710656) :
    Calls Tryz.prog 87 #[.string s] w fun e w' => e = .returned (.string s) ∧ Below w.heap.size w w' := Any.stringslite_Clone Tryz.laysM316 s w hlim
open Go.RowKit in
/-- strconv.ParseInt(s, 10, 64), AT EVERY STRING THAT SPELLS AN int64 ('Lib.parseIntB 64 s.data.toList = .ok v'): v, AND NO ERROR. (LAID: no walk: one application.) -/
theorem Tryz.strconv_ParseInt_10_at64_ok (s : ByteArray) (hmax : s.size ≤ 9223372036854775806) (v : Int) (h : Lib.parseIntB 64 s.data.toList = .ok v) (w : World) :
    Calls Tryz.prog 68 #[.string s, .int .i64 10, .int .i64 64] w fun e w' => e = .returned (.tuple #[.int .i64 v, .nilIface]) ∧ (w' = w ∨ ∃ t, w' = Lib.bytesWorld w 5 t) := Any.strconv_ParseInt_10_at64_ok Tryz.laysC174 s hmax v h w
open Go.RowKit in
/-- strconv.ParseInt(s, 10, 64), AT EVERY NUMERAL THAT NO int64 HOLDS: THE GREATEST OR THE LEAST int64, BY THE SIGN ('Lib.intSat 64'), AND AN ERROR THAT IS NOT nil: a *NumError in a new block N: {Func: "ParseInt", Num: s's bytes, Err: what the variable ErrRange holds}. Of what was there nothing has turned. (LAID: no walk: one application.) -/
theorem Tryz.strconv_ParseInt_10_at64_range (s : ByteArray) (hlim : s.size ≤ 281474976710656) (h : Lib.parseIntB 64 s.data.toList = .range) (ev : Value) (w : World) (hv : w.cell? ⟨3, 0, none⟩ = some ev) (hev : ev = .nilIface ∨ ∃ te pe, ev = .iface te pe) :
    Calls Tryz.prog 68 #[.string s, .int .i64 10, .int .i64 64] w fun e w' => ∃ N, e = .returned (.tuple #[.int .i64 (Lib.intSat 64 s.data.toList), .iface 192 (.pointer (some ⟨N, 0, none⟩))]) ∧ w.heap.size ≤ N ∧ w'.heap[N]? = some (.cells #[.string ⟨#[80, 97, 114, 115, 101, 73, 110, 116]⟩, .string s, ev] 230 (0, 0)) ∧ Below w.heap.size w w' := Any.strconv_ParseInt_10_at64_range Tryz.laysC174 s hlim h ev w hv hev
end Go.Proofs
/- Plain mathematics of quoted strings. -/
namespace Go.Proofs.YtgccmgjbbcndbaaGreatDoor

def qapp (acc : List UInt8) (d : Nat) (q : Option (List UInt8 × Nat)) : Option (List UInt8 × Nat) := q.map fun x => (acc ++ x.1, d + x.2)
def qstr (q : Option (List UInt8 × Nat)) : List UInt8 := match q with
  | some x => x.1
  | none => []
def qlen (q : Option (List UInt8 × Nat)) : Nat := match q with
  | some x => x.2 + 1
  | none => 0

theorem quot_out (l : List UInt8) (k : Nat) (h : l.length ≤ k) : quot false (l.drop k) = none := by
  rw [List.drop_of_length_le h]; rfl
theorem quot_bad (l : List UInt8) (k : Nat) (h : k < l.length) (hp : isPrt l[k] = false) : quot false (l.drop k) = none := by
  rw [List.drop_eq_getElem_cons h, quot, hp]; rfl
theorem quot_end (l : List UInt8) (k : Nat) (h : k < l.length) (hc : l[k] = 34) : quot false (l.drop k) = some ([], 1) := by
  rw [List.drop_eq_getElem_cons h, hc]; rfl
theorem quot_plain (l : List UInt8) (k : Nat) (h : k < l.length) (hp : isPrt l[k] = true) (h1 : l[k] ≠ 34) (h2 : l[k] ≠ 92) : quot false (l.drop k) = qapp [l[k]] 1 (quot false (l.drop (k + 1))) := by
  rw [List.drop_eq_getElem_cons h, quot, hp]
  rw [if_pos rfl, if_neg (by simpa using h1), if_neg (by simpa using h2)]
  cases quot false (l.drop (k + 1)) with
  | none => rfl
  | some x => simp [qapp, Nat.add_comm]
theorem quot_esc_out (l : List UInt8) (k : Nat) (h : k < l.length) (hc : l[k] = 92) (h' : l.length ≤ k + 1) : quot false (l.drop k) = none := by
  rw [List.drop_eq_getElem_cons h, hc, List.drop_of_length_le h']; rfl
theorem quot_esc_bad (l : List UInt8) (k : Nat) (h : k + 1 < l.length) (hc : l[k] = 92) (h1 : l[k + 1] ≠ 34) (h2 : l[k + 1] ≠ 92) (h3 : l[k + 1] ≠ 110) : quot false (l.drop k) = none := by
  rw [List.drop_eq_getElem_cons (by omega), hc, List.drop_eq_getElem_cons h]
  simp [quot, isPrt, h1, h2, h3]
theorem quot_esc (l : List UInt8) (k : Nat) (h : k + 1 < l.length) (hc : l[k] = 92) (h1 : l[k + 1] = 34 ∨ l[k + 1] = 92 ∨ l[k + 1] = 110) :
    quot false (l.drop k) = qapp [if l[k + 1] == 110 then 10 else l[k + 1]] 2 (quot false (l.drop (k + 2))) := by
  rw [List.drop_eq_getElem_cons (by omega), hc, List.drop_eq_getElem_cons h]
  have hb : (l[k + 1] == 34 || l[k + 1] == 92 || l[k + 1] == 110) = true := by
    rcases h1 with e | e | e <;> rw [e] <;> rfl
  rw [show quot false (92 :: l[k + 1] :: l.drop (k + 1 + 1)) = (match quot true (l[k + 1] :: l.drop (k + 1 + 1)) with | some x => some (x.1, x.2 + 1) | none => none) from rfl]
  rw [quot, if_pos hb]
  cases quot false (l.drop (k + 1 + 1)) with
  | none => rfl
  | some x => simp [qapp]; omega
theorem qapp_qapp (a b : List UInt8) (m n : Nat) (q : Option (List UInt8 × Nat)) : qapp a m (qapp b n q) = qapp (a ++ b) (m + n) q := by
  cases q with
  | none => rfl
  | some x => simp [qapp, Nat.add_assoc]

end Go.Proofs.YtgccmgjbbcndbaaGreatDoor
/- Walk of sign. -/
namespace Go.Proofs.YtgccmgjbbcndbaaGreatDoor
open Go.RowKit

def signs2 : List UInt8 := [32, 61, 61, 32, 33, 61, 32, 60, 61, 32, 62, 61, 32, 38, 38, 32, 124, 124, 32]
def signs1 : List UInt8 := [32, 40, 32, 41, 32, 123, 32, 125, 32, 91, 32, 93, 32, 44, 32, 59, 32, 61, 32, 33, 32, 60, 32, 62, 32, 43, 32, 45, 32, 42, 32, 47, 32, 37, 32]

theorem byte_all (p : UInt8 → Bool) (h : (List.range 256).all (fun n => p (UInt8.ofNat n)) = true) (c : UInt8) : p c = true := by
  rw [List.all_eq_true] at h
  have := h c.toNat (by rw [List.mem_range]; exact c.toNat_lt)
  simpa using this

theorem among_sign1 (c : UInt8) (h : c ≠ 32) : amongL [c] signs1 = (sign1 c != 0) := by
  have := byte_all (fun c => c == 32 || (amongL [c] signs1 == (sign1 c != 0))) (by decide +kernel) c
  simpa [h] using this

theorem among_sign2 (c d : UInt8) : amongL [c, d] signs2 = (sign2 c d != 0) := by
  simp only [amongL, signs2, hasSub, List.length_cons, List.length_nil, List.cons_append, List.nil_append, List.take_succ_cons, List.take_zero, List.take_nil, sign2, List.cons_beq_cons, List.nil_beq_eq, List.isEmpty_nil]
  have k1 : ((32 : UInt8) == 32) = true := rfl
  have k2 : ((61 : UInt8) == 32) = false := rfl
  have k3 : ((33 : UInt8) == 32) = false := rfl
  have k4 : ((60 : UInt8) == 32) = false := rfl
  have k5 : ((62 : UInt8) == 32) = false := rfl
  have k6 : ((38 : UInt8) == 32) = false := rfl
  have k7 : ((124 : UInt8) == 32) = false := rfl
  have e0 : ∀ a b : UInt8, (a == b) = (b == a) := fun a b => BEq.comm
  rw [e0 61 c, e0 33 c, e0 60 c, e0 62 c, e0 38 c, e0 124 c, e0 61 d, e0 38 d, e0 124 d]
  simp only [k1, k2, k3, k4, k5, k6, k7, Bool.false_and, Bool.true_and, Bool.and_true, Bool.false_or, List.isEmpty_cons]
  have k8 : ([32, c, d, 32] == ([] : List UInt8)) = false := rfl
  rw [k8]
  generalize (c == 61) = x1
  generalize (c == 33) = x2
  generalize (c == 60) = x3
  generalize (c == 62) = x4
  generalize (c == 38) = x5
  generalize (c == 124) = x6
  generalize (d == 61) = y1
  generalize (d == 38) = y2
  generalize (d == 124) = y3
  revert x1 x2 x3 x4 x5 x6 y1 y2 y3
  decide

theorem drop_two (l : List UInt8) (i : Nat) (h : i + 2 ≤ l.length) : l.drop i = l[i] :: l[i + 1] :: l.drop (i + 2) := by
  rw [List.drop_eq_getElem_cons (by omega), List.drop_eq_getElem_cons (i := i + 1) (by omega)]

set_option maxHeartbeats 400000 in
theorem sign_any (l : List UInt8) (i : Nat) (w : World) (hl : l.length ≤ 100000) (hi : i < l.length) (hs : l[i] ≠ 32) :
    Calls Tryz.prog 36 #[.string ⟨l.toArray⟩, .int .i64 i] w fun e w' => e = .returned (.int .i64 (signAt (l.drop i)).2) ∧ w' = w := by
  have hx1 : (⟨l.toArray⟩ : ByteArray).extract i (i + 1) = ⟨[l[i]].toArray⟩ := by
    rw [extract_arr, List.drop_eq_getElem_cons hi, Nat.add_sub_cancel_left]; rfl
  have HS := hide hs
  clear hs
  by_cases h2 : i + 2 ≤ l.length
  · have hx2 : (⟨l.toArray⟩ : ByteArray).extract i (i + 2) = ⟨[l[i], l[i + 1]].toArray⟩ := by
      rw [extract_arr, drop_two l i h2, Nat.add_sub_cancel_left]; rfl
    have HV : Hid ((signAt (l.drop i)).2 = if amongL [l[i], l[i + 1]] signs2 = true then 2 else if amongL [l[i]] signs1 = true then 1 else 0) := by
      show _ = _
      rw [drop_two l i h2, signAt, among_sign2, among_sign1 _ HS.out]
      cases h : sign2 l[i] l[i + 1] != 0 <;> cases h' : sign1 l[i] == 0 <;> simp [bne, h']
    cases e2 : amongL [l[i], l[i + 1]] signs2
    · cases e1 : amongL [l[i]] signs1
      all_goals
        have HW : Hid ((signAt (l.drop i)).2 = _) := HV.out.trans (by rw [e1, e2])
        clear HV
        go_enter Tryz.func36, Tryz.ntmps36
        go_wp2_with fail
        refine (among_any [l[i], l[i + 1]] signs2 _ (by simp) (by decide)).mono ?_
        rintro e w' ⟨rfl, rfl⟩
        go_wp2_with fail
        refine (among_any [l[i]] signs1 _ (by simp) (by decide)).mono ?_
        rintro e w' ⟨rfl, rfl⟩
        go_wp2
        go_ret
        exact ⟨ret_int (by rw [HW.out]; rfl), rfl⟩
    · have HW : Hid ((signAt (l.drop i)).2 = _) := HV.out.trans (by rw [e2])
      clear HV
      go_enter Tryz.func36, Tryz.ntmps36
      go_wp2_with fail
      refine (among_any [l[i], l[i + 1]] signs2 _ (by simp) (by decide)).mono ?_
      rintro e w' ⟨rfl, rfl⟩
      go_wp2
      go_ret
      exact ⟨ret_int (by rw [HW.out]; rfl), rfl⟩
  · have hd : l.drop i = [l[i]] := by
      rw [List.drop_eq_getElem_cons hi, List.drop_of_length_le (by omega)]
    have HV : Hid ((signAt (l.drop i)).2 = if amongL [l[i]] signs1 = true then 1 else 0) := by
      show _ = _
      rw [hd, signAt, among_sign1 _ HS.out]
      cases h' : sign1 l[i] == 0 <;> simp [bne, h']
    clear hd
    cases e1 : amongL [l[i]] signs1
    all_goals
      have HW : Hid ((signAt (l.drop i)).2 = _) := HV.out.trans (by rw [e1])
      clear HV
      go_enter Tryz.func36, Tryz.ntmps36
      go_wp2_with fail
      refine (among_any [l[i]] signs1 _ (by simp) (by decide)).mono ?_
      rintro e w' ⟨rfl, rfl⟩
      go_wp2
      go_ret
      exact ⟨ret_int (by rw [HW.out]; rfl), rfl⟩
end Go.Proofs.YtgccmgjbbcndbaaGreatDoor
/- Plain mathematics: the words, sought with blanks around them. -/
namespace Go.Proofs.YtgccmgjbbcndbaaGreatDoor

theorem pre_word (s : List UInt8) : ∀ (w rest : List UInt8), (∀ c ∈ s, c ≠ 32) → (∀ c ∈ w, c ≠ 32) → ((w ++ 32 :: rest).take (s.length + 1) == s ++ [32]) = (s == w) := by
  induction s with
  | nil =>
    intro w rest _ hw
    cases w with
    | nil => rfl
    | cons c r =>
      have hc := hw c (by simp)
      simp [hc]
  | cons a s ih =>
    intro w rest hs hw
    cases w with
    | nil =>
      have ha := hs a (by simp)
      have : ((32 : UInt8) == a) = false := by rw [beq_eq_false_iff_ne]; exact fun e => ha e.symm
      simp [this]
    | cons c r =>
      have := ih r rest (fun x hx => hs x (by simp [hx])) (fun x hx => hw x (by simp [hx]))
      simp only [List.cons_append, List.length_cons, List.take_succ_cons, List.cons_beq_cons, this]
      rw [show (c == a) = (a == c) from BEq.comm]

theorem sub_skip (s w rest : List UInt8) (hw : ∀ c ∈ w, c ≠ 32) : hasSub (32 :: (s ++ [32])) (w ++ 32 :: rest) = hasSub (32 :: (s ++ [32])) (32 :: rest) := by
  induction w with
  | nil => rfl
  | cons c r ih =>
    have hc := hw c (by simp)
    have hb : (c == 32) = false := by rw [beq_eq_false_iff_ne]; exact hc
    rw [List.cons_append, hasSub, List.length_cons, List.take_succ_cons, List.cons_beq_cons, hb, Bool.false_and, Bool.false_or]
    exact ih (fun x hx => hw x (by simp [hx]))

theorem sub_word (s w rest : List UInt8) (hs : ∀ c ∈ s, c ≠ 32) (hw : ∀ c ∈ w, c ≠ 32) :
    hasSub (32 :: (s ++ [32])) (32 :: (w ++ 32 :: rest)) = ((s == w) || hasSub (32 :: (s ++ [32])) (32 :: rest)) := by
  rw [hasSub, sub_skip s w rest hw]
  rw [List.length_cons, List.take_succ_cons, List.cons_beq_cons, List.length_append, List.length_singleton, pre_word s w rest hs hw]
  rfl

def wordsAll : List UInt8 := [32, 102, 110, 32, 108, 101, 116, 32, 105, 102, 32, 101, 108, 115, 101, 32, 119, 104, 105, 108, 101, 32, 114, 101, 116, 117, 114, 110, 32, 98, 114, 101, 97, 107, 32, 99, 111, 110, 116, 105, 110, 117, 101, 32, 112, 114, 105, 110, 116, 32, 116, 114, 117, 101, 32, 102, 97, 108, 115, 101, 32, 110, 117, 108, 108, 32, 108, 101, 110, 32, 112, 117, 115, 104, 32]

theorem ifb {x : Bool} {n m : Nat} (hn : n ≠ 0) : ((if x = true then n else m) != 0) = (x || (m != 0)) := by
  cases x <;> simp [hn]
theorem ifo {x : Bool} {n m : Nat} (h : (if x = true then n else m) ≠ 0) : x = true ∨ m ≠ 0 := by
  cases x
  · right; simpa using h
  · left; rfl

theorem among_words (s : List UInt8) (hs : ∀ c ∈ s, c ≠ 32) : amongL s wordsAll = (wordNo s != 0) := by
  have e : amongL s wordsAll = ((s == [102, 110]) || ((s == [108, 101, 116]) || ((s == [105, 102]) || ((s == [101, 108, 115, 101]) || ((s == [119, 104, 105, 108, 101]) || ((s == [114, 101, 116, 117, 114, 110]) || ((s == [98, 114, 101, 97, 107]) || ((s == [99, 111, 110, 116, 105, 110, 117, 101]) || ((s == [112, 114, 105, 110, 116]) || ((s == [116, 114, 117, 101]) || ((s == [102, 97, 108, 115, 101]) || ((s == [110, 117, 108, 108]) || ((s == [108, 101, 110]) || ((s == [112, 117, 115, 104]) || false)))))))))))))) := by
    have hend : hasSub (32 :: (s ++ [32])) [32] = false := hasSub_short _ _ (by simp)
    unfold amongL wordsAll
    rw [show ([32, 102, 110, 32, 108, 101, 116, 32, 105, 102, 32, 101, 108, 115, 101, 32, 119, 104, 105, 108, 101, 32, 114, 101, 116, 117, 114, 110, 32, 98, 114, 101, 97, 107, 32, 99, 111, 110, 116, 105, 110, 117, 101, 32, 112, 114, 105, 110, 116, 32, 116, 114, 117, 101, 32, 102, 97, 108, 115, 101, 32, 110, 117, 108, 108, 32, 108, 101, 110, 32, 112, 117, 115, 104, 32] : List UInt8) =
      32 :: ([102, 110] ++ 32 :: ([108, 101, 116] ++ 32 :: ([105, 102] ++ 32 :: ([101, 108, 115, 101] ++ 32 :: ([119, 104, 105, 108, 101] ++ 32 :: ([114, 101, 116, 117, 114, 110] ++ 32 :: ([98, 114, 101, 97, 107] ++ 32 :: ([99, 111, 110, 116, 105, 110, 117, 101] ++ 32 :: ([112, 114, 105, 110, 116] ++ 32 :: ([116, 114, 117, 101] ++ 32 :: ([102, 97, 108, 115, 101] ++ 32 :: ([110, 117, 108, 108] ++ 32 :: ([108, 101, 110] ++ 32 :: ([112, 117, 115, 104] ++ 32 :: [])))))))))))))) from rfl]
    rw [sub_word s _ _ hs (by decide), sub_word s _ _ hs (by decide), sub_word s _ _ hs (by decide), sub_word s _ _ hs (by decide), sub_word s _ _ hs (by decide), sub_word s _ _ hs (by decide), sub_word s _ _ hs (by decide),
      sub_word s _ _ hs (by decide), sub_word s _ _ hs (by decide), sub_word s _ _ hs (by decide), sub_word s _ _ hs (by decide), sub_word s _ _ hs (by decide), sub_word s _ _ hs (by decide), sub_word s _ _ hs (by decide), hend]
  rw [e]
  unfold wordNo
  simp only [ifb (n := 4) (by decide), ifb (n := 5) (by decide), ifb (n := 6) (by decide), ifb (n := 7) (by decide), ifb (n := 8) (by decide), ifb (n := 9) (by decide), ifb (n := 10) (by decide), ifb (n := 11) (by decide), ifb (n := 12) (by decide), ifb (n := 13) (by decide), ifb (n := 14) (by decide), ifb (n := 15) (by decide), ifb (n := 16) (by decide), ifb (n := 17) (by decide)]
  rfl

theorem isNam_ne (c : UInt8) (h : isNam c = true) : c ≠ 32 := by
  intro e; subst e; exact absurd h (by decide)

theorem wordNo_len (s : List UInt8) (h : wordNo s ≠ 0) : s.length ≤ 8 := by
  unfold wordNo at h
  iterate 14 (rcases ifo h with e | h; · rw [eq_of_beq e]; decide)
  exact absurd rfl h
end Go.Proofs.YtgccmgjbbcndbaaGreatDoor
/- Plain mathematics: the longest front of a list. -/
namespace Go.Proofs.YtgccmgjbbcndbaaGreatDoor

theorem tw_start (p : UInt8 → Bool) (l : List UInt8) (i : Nat) : (l.drop i).takeWhile p = (l.drop i).take (i - i) ++ (l.drop i).takeWhile p := by simp

theorem tw_step (p : UInt8 → Bool) (l : List UInt8) (i k : Nat) (hk : i ≤ k) (hlt : k < l.length) (hp : p l[k] = true) (h : (l.drop i).takeWhile p = (l.drop i).take (k - i) ++ (l.drop k).takeWhile p) :
    (l.drop i).takeWhile p = (l.drop i).take (k + 1 - i) ++ (l.drop (k + 1)).takeWhile p := by
  rw [h, List.drop_eq_getElem_cons hlt, List.takeWhile_cons, hp]
  rw [show k + 1 - i = (k - i) + 1 by omega, List.take_succ_eq_append_getElem (by simp; omega)]
  simp [show i + (k - i) = k by omega]

theorem tw_stop (p : UInt8 → Bool) (l : List UInt8) (i k : Nat) (hp : ∀ h : k < l.length, p l[k] = false) (h : (l.drop i).takeWhile p = (l.drop i).take (k - i) ++ (l.drop k).takeWhile p) :
    (l.drop i).takeWhile p = (l.drop i).take (k - i) := by
  rw [h]
  by_cases hlt : k < l.length
  · rw [List.drop_eq_getElem_cons hlt, List.takeWhile_cons, hp hlt]; simp
  · have : l.drop k = [] := List.drop_of_length_le (by omega)
    rw [this]; simp

theorem tw_all (p : UInt8 → Bool) (l : List UInt8) : ∀ c ∈ l.takeWhile p, p c = true := by
  intro c hc
  exact (List.all_eq_true.1 List.all_takeWhile) c hc

/- what the document's answer holds of a token -/
def refKind (k : Nat) : Int := if k = 0 then 101 else if k = 1 then 110 else if k = 2 then 105 else if k = 3 then 116 else if k ≤ 17 then 119 else 115
def spell (k : Nat) : List UInt8 :=
  if k = 4 then [102, 110] else if k = 5 then [108, 101, 116] else if k = 6 then [105, 102] else if k = 7 then [101, 108, 115, 101]
  else if k = 8 then [119, 104, 105, 108, 101] else if k = 9 then [114, 101, 116, 117, 114, 110] else if k = 10 then [98, 114, 101, 97, 107]
  else if k = 11 then [99, 111, 110, 116, 105, 110, 117, 101] else if k = 12 then [112, 114, 105, 110, 116] else if k = 13 then [116, 114, 117, 101]
  else if k = 14 then [102, 97, 108, 115, 101] else if k = 15 then [110, 117, 108, 108] else if k = 16 then [108, 101, 110] else if k = 17 then [112, 117, 115, 104]
  else if k = 18 then [40] else if k = 19 then [41] else if k = 20 then [123] else if k = 21 then [125] else if k = 22 then [91] else if k = 23 then [93]
  else if k = 24 then [44] else if k = 25 then [59] else if k = 26 then [61] else if k = 27 then [61, 61] else if k = 28 then [33] else if k = 29 then [33, 61]
  else if k = 30 then [60] else if k = 31 then [60, 61] else if k = 32 then [62] else if k = 33 then [62, 61] else if k = 34 then [43] else if k = 35 then [45]
  else if k = 36 then [42] else if k = 37 then [47] else if k = 38 then [37] else if k = 39 then [38, 38] else if k = 40 then [124, 124] else []
def refS (t : Tk) : List UInt8 := if t.k = 1 ∨ t.k = 3 then t.s else spell t.k

theorem ifs {x : Bool} {n m : Nat} {P : Nat → Prop} (h1 : x = true → P n) (h2 : x = false → P m) : P (if x = true then n else m) := by
  cases x
  · simpa using h2 rfl
  · simpa using h1 rfl

theorem wordNo_spell (s : List UInt8) (h : wordNo s ≠ 0) : spell (wordNo s) = s ∧ 4 ≤ wordNo s ∧ wordNo s ≤ 17 := by
  revert h
  unfold wordNo
  iterate 14 (refine ifs (P := fun k => k ≠ 0 → spell k = s ∧ 4 ≤ k ∧ k ≤ 17) (fun e _ => ?_) (fun _ => ?_); · rw [eq_of_beq e]; decide)
  intro h; exact absurd rfl h

theorem sign2_spell (c d : UInt8) (h : sign2 c d ≠ 0) : spell (sign2 c d) = [c, d] ∧ 18 ≤ sign2 c d ∧ sign2 c d ≤ 40 := by
  revert h
  unfold sign2
  iterate 6 (refine ifs (P := fun k => k ≠ 0 → spell k = [c, d] ∧ 18 ≤ k ∧ k ≤ 40) (fun e _ => ?_) (fun _ => ?_); · rw [Bool.and_eq_true] at e; rw [eq_of_beq e.1, eq_of_beq e.2]; decide)
  intro h; exact absurd rfl h

theorem sign1_spell (c : UInt8) (h : sign1 c ≠ 0) : spell (sign1 c) = [c] ∧ 18 ≤ sign1 c ∧ sign1 c ≤ 40 := by
  revert h
  unfold sign1
  iterate 17 (refine ifs (P := fun k => k ≠ 0 → spell k = [c] ∧ 18 ≤ k ∧ k ≤ 40) (fun e _ => ?_) (fun _ => ?_); · rw [eq_of_beq e]; decide)
  intro h; exact absurd rfl h

theorem signAt_spell (l : List UInt8) (h : (signAt l).2 ≠ 0) : spell (signAt l).1 = l.take (signAt l).2 ∧ 18 ≤ (signAt l).1 ∧ (signAt l).1 ≤ 40 ∧ (signAt l).2 ≤ l.length := by
  match l, h with
  | [], h => exact absurd rfl h
  | [c], h =>
    rw [signAt] at h ⊢
    cases e : sign1 c == 0
    · have := sign1_spell c (by simpa using e)
      simp [this]
    · simp [e] at h
  | c :: d :: r, h =>
    rw [signAt] at h ⊢
    cases e2 : sign2 c d != 0
    · cases e : sign1 c == 0
      · have := sign1_spell c (by simpa using e)
        simp [this]
      · simp [e, e2] at h
    · have := sign2_spell c d (by simpa using e2)
      simp [this]
end Go.Proofs.YtgccmgjbbcndbaaGreatDoor
/- Plain mathematics: all tokens, step by step. -/
namespace Go.Proofs.YtgccmgjbbcndbaaGreatDoor

def tkC (x : Tk × List UInt8) : List Value := [.int .u8 (refKind x.1.k), .string ⟨x.2.toArray⟩, .int .i64 x.1.n, .int .i64 (x.1.line : Nat)]
def tkCs (xs : List (Tk × List UInt8)) : List Value := xs.flatMap tkC
def tkOk (xs : List (Tk × List UInt8)) : Prop := ∀ x ∈ xs, x.1.k ≠ 2 → x.2 = refS x.1
def lexPre (xs : List (Tk × List UInt8)) (r : Nat ⊕ List Tk) : Nat ⊕ List Tk := match r with
  | .inl n => .inl n
  | .inr ts => .inr (xs.map (·.1) ++ ts)
def rem47 (l : List UInt8) (k : Nat) : Bool := (l[k]? == some 47) && (l[k + 1]? == some 47)

theorem lexPre_nil (r : Nat ⊕ List Tk) : lexPre [] r = r := by cases r <;> rfl

theorem lex_end (l : List UInt8) (k f ln : Nat) (sd : Bool) (h : l.length ≤ k) : lex (f + 1) (l.drop k) ln sd = .inr [⟨0, ln, [], 0⟩] := by
  rw [List.drop_of_length_le h]; rfl
theorem lex_nl (l : List UInt8) (k f ln : Nat) (sd : Bool) (h : k < l.length) (hc : l[k] = 10) : lex (f + 1) (l.drop k) ln sd = lex f (l.drop (k + 1)) (ln + 1) false := by
  rw [List.drop_eq_getElem_cons h, lex, if_pos (by rw [hc]; rfl)]
theorem lex_bad (l : List UInt8) (k f ln : Nat) (sd : Bool) (h : k < l.length) (hc : l[k] ≠ 10) (h9 : l[k] ≠ 9) (hp : isPrt l[k] = false) : lex (f + 1) (l.drop k) ln sd = .inl ln := by
  rw [List.drop_eq_getElem_cons h, lex, if_neg (by simpa using hc), if_pos (by simp [h9, hp])]
theorem rem_eq (l : List UInt8) (k : Nat) (h : k < l.length) : (l[k] == 47 && (l.drop (k + 1)).head? == some 47) = rem47 l k := by
  unfold rem47
  rw [List.getElem?_eq_getElem h]
  simp [List.head?_drop]
theorem lex_skip (l : List UInt8) (k f ln : Nat) (sd : Bool) (h : k < l.length) (hc : l[k] ≠ 10) (hp : l[k] = 9 ∨ isPrt l[k] = true) (hs : (sd || rem47 l k || l[k] == 9 || l[k] == 32) = true) :
    lex (f + 1) (l.drop k) ln sd = lex f (l.drop (k + 1)) ln (sd || rem47 l k) := by
  rw [← rem_eq l k h] at hs ⊢
  rw [List.drop_eq_getElem_cons h, lex, if_neg (by simpa using hc), if_neg (by rcases hp with e | e <;> simp [e]), if_pos hs]
theorem lex_none (l : List UInt8) (k f ln : Nat) (sd : Bool) (h : k < l.length) (hc : l[k] ≠ 10) (hp : isPrt l[k] = true) (hs : (sd || rem47 l k || l[k] == 9 || l[k] == 32) = false) (ht : tokAt (l.drop k) = none) :
    lex (f + 1) (l.drop k) ln sd = .inl ln := by
  rw [← rem_eq l k h] at hs
  rw [List.drop_eq_getElem_cons h] at ht ⊢
  rw [lex, if_neg (by simpa using hc), if_neg (by simp [hp]), if_neg (by simp only [hs]; simp), ht]
theorem lex_some (l : List UInt8) (k f ln : Nat) (sd : Bool) (h : k < l.length) (hc : l[k] ≠ 10) (hp : isPrt l[k] = true) (hs : (sd || rem47 l k || l[k] == 9 || l[k] == 32) = false) (t : Tk) (n : Nat) (ht : tokAt (l.drop k) = some (t, n))
    (xs : List (Tk × List UInt8)) (S : List UInt8) :
    lexPre xs (lex (f + 1) (l.drop k) ln sd) = lexPre (xs ++ [({ t with line := ln }, S)]) (lex f (l.drop (k + n)) ln false) := by
  rw [← rem_eq l k h] at hs
  have e : (l.drop k).drop n = l.drop (k + n) := by rw [List.drop_drop]
  rw [← e]
  rw [List.drop_eq_getElem_cons h] at ht ⊢
  rw [lex, if_neg (by simpa using hc), if_neg (by simp [hp]), if_neg (by simp only [hs]; simp), ht]
  simp only
  cases lex f ((l[k] :: l.drop (k + 1)).drop n) ln false <;> simp [lexPre]

theorem rem_yes (l : List UInt8) (k : Nat) (h : k + 1 < l.length) (h1 : l[k] = 47) (h2 : l[k + 1] = 47) : rem47 l k = true := by
  unfold rem47; rw [List.getElem?_eq_getElem (by omega), List.getElem?_eq_getElem h, h1, h2]; rfl
theorem rem_no1 (l : List UInt8) (k : Nat) (h : k < l.length) (h1 : l[k] ≠ 47) : rem47 l k = false := by
  unfold rem47; rw [List.getElem?_eq_getElem h]; simp [h1]
theorem rem_no2 (l : List UInt8) (k : Nat) (h : k + 1 < l.length) (h1 : l[k + 1] ≠ 47) : rem47 l k = false := by
  unfold rem47; rw [List.getElem?_eq_getElem h]; simp [h1]
theorem rem_no3 (l : List UInt8) (k : Nat) (h : l.length ≤ k + 1) : rem47 l k = false := by
  unfold rem47; rw [List.getElem?_eq_none h]; simp

theorem tw_pos (p : UInt8 → Bool) (c : UInt8) (r : List UInt8) (h : p c = true) : 0 < ((c :: r).takeWhile p).length ∧ ((c :: r).takeWhile p).length ≤ (c :: r).length := by
  constructor
  · rw [List.takeWhile_cons, h]; simp
  · exact (List.takeWhile_sublist p).length_le

theorem quot_len : ∀ (r : List UInt8) (b : Bool) (x : List UInt8 × Nat), quot b r = some x → x.2 ≤ r.length := by
  intro r
  induction r with
  | nil => intro b x h; cases b <;> cases h
  | cons c r ih =>
    intro b x h
    cases b
    · rw [quot] at h
      split at h
      · split at h
        · cases h; simp
        · split at h
          · split at h
            · rename_i y hy; cases h; have := ih true y hy; simp; exact this
            · cases h
          · split at h
            · rename_i y hy; cases h; have := ih false y hy; simp; exact this
            · cases h
      · cases h
    · rw [quot] at h
      split at h
      · split at h
        · rename_i y hy; cases h; have := ih false y hy; simp; exact this
        · cases h
      · cases h

theorem tok_len (l : List UInt8) (t : Tk) (n : Nat) (h : tokAt l = some (t, n)) : 0 < n ∧ n ≤ l.length := by
  cases l with
  | nil => cases h
  | cons c r =>
    rw [tokAt] at h
    split at h
    · rename_i hd
      split at h
      · simp only [Option.some.injEq, Prod.mk.injEq] at h; rw [← h.2]; exact tw_pos isDig c r hd
      · cases h
    · split at h
      · rename_i ha
        have ha' : isNam c = true := by simp [isNam, ha]
        split at h
        · simp only [Option.some.injEq, Prod.mk.injEq] at h; rw [← h.2]; exact tw_pos isNam c r ha'
        · split at h
          · simp only [Option.some.injEq, Prod.mk.injEq] at h; rw [← h.2]; exact tw_pos isNam c r ha'
          · cases h
      · split at h
        · split at h
          · rename_i x hx; simp only [Option.some.injEq, Prod.mk.injEq] at h; rw [← h.2]; have := quot_len r false x hx; simp; exact this
          · cases h
        · split at h
          · cases h
          · rename_i hz
            have hz' : (signAt (c :: r)).2 ≠ 0 := by simpa using hz
            simp only [Option.some.injEq, Prod.mk.injEq] at h; rw [← h.2]; exact ⟨by omega, (signAt_spell _ hz').2.2.2⟩
end Go.Proofs.YtgccmgjbbcndbaaGreatDoor
/- Plain mathematics: spaces and remarks ahead of a token: how many bytes, how many lines; false: a byte that may not stand. -/
namespace Go.Proofs.YtgccmgjbbcndbaaGreatDoor

def skpF : Bool → List UInt8 → Nat × Nat × Bool
  | _, [] => (0, 0, true)
  | true, c :: r =>
    if c == 10 then ((skpF false r).1 + 1, (skpF false r).2.1 + 1, (skpF false r).2.2)
    else if c != 9 && !(isPrt c) then (0, 0, false)
    else ((skpF true r).1 + 1, (skpF true r).2.1, (skpF true r).2.2)
  | false, c :: r =>
    if c == 10 then ((skpF false r).1 + 1, (skpF false r).2.1 + 1, (skpF false r).2.2)
    else if c == 32 || c == 9 then ((skpF false r).1 + 1, (skpF false r).2.1, (skpF false r).2.2)
    else if c == 47 && r.head? == some 47 then ((skpF true r).1 + 1, (skpF true r).2.1, (skpF true r).2.2)
    else (0, 0, true)

/- how far a remark goes; false: a byte that may not stand -/
def remark : List UInt8 → Nat × Bool
  | [] => (0, true)
  | c :: r => if c == 10 then (0, true) else if c != 9 && !(isPrt c) then (0, false) else ((remark r).1 + 1, (remark r).2)

theorem remark_le : ∀ l : List UInt8, (remark l).1 ≤ l.length := by
  intro l
  induction l with
  | nil => simp [remark]
  | cons c r ih =>
    rw [remark]
    split
    · simp
    split
    · simp
    · simp; exact ih
theorem skp_le : ∀ (l : List UInt8) (b : Bool), (skpF b l).1 ≤ l.length ∧ (skpF b l).2.1 ≤ (skpF b l).1 := by
  intro l
  induction l with
  | nil => intro b; cases b <;> simp [skpF]
  | cons c r ih =>
    intro b
    have h1 := ih true
    have h0 := ih false
    cases b
    · rw [skpF]
      split
      · simp; omega
      split
      · simp; omega
      split
      · simp; omega
      · simp
    · rw [skpF]
      split
      · simp; omega
      split
      · simp
      · simp; omega

/- a remark, and what comes behind it -/
theorem skp_remark : ∀ l : List UInt8, skpF true l = if (remark l).2 then ((remark l).1 + (skpF false (l.drop (remark l).1)).1, (skpF false (l.drop (remark l).1)).2.1, (skpF false (l.drop (remark l).1)).2.2) else ((remark l).1, 0, false) := by
  intro l
  induction l with
  | nil => simp [skpF, remark]
  | cons c r ih =>
    rw [skpF, remark]
    by_cases h1 : (c == 10) = true
    · simp only [h1, if_true, List.drop_zero]
      rw [skpF, if_pos h1]; simp
    · simp only [h1, Bool.false_eq_true, if_false]
      by_cases h2 : (c != 9 && !(isPrt c)) = true
      · simp [h2]
      · simp only [h2, Bool.false_eq_true, if_false]
        rw [ih]
        by_cases h3 : (remark r).2 = true
        · simp only [h3, if_true, List.drop_succ_cons]
          refine Prod.ext ?_ rfl
          simp only; omega
        · simp only [h3, Bool.false_eq_true, if_false]

/- one step of the reading of spaces, as the program goes -/
theorem skp_nl {c : UInt8} {r : List UInt8} (h : c = 10) : skpF false (c :: r) = ((skpF false r).1 + 1, (skpF false r).2.1 + 1, (skpF false r).2.2) := by
  subst h; rw [skpF, if_pos (by decide)]
theorem skp_sp {c : UInt8} {r : List UInt8} (h : c = 32 ∨ c = 9) : skpF false (c :: r) = ((skpF false r).1 + 1, (skpF false r).2.1, (skpF false r).2.2) := by
  rcases h with h | h <;> subst h <;> rw [skpF, if_neg (by decide), if_pos (by decide)]
theorem skp_rem {c : UInt8} {r : List UInt8} (h : c = 47) (hr : r.head? = some 47) : skpF false (c :: r) = skpF true (c :: r) := by
  subst h
  have h1 : skpF false (47 :: r) = ((skpF true r).1 + 1, (skpF true r).2.1, (skpF true r).2.2) := by
    rw [skpF, if_neg (by decide), if_neg (by decide), if_pos (by rw [hr]; decide)]
  have h2 : skpF true (47 :: r) = ((skpF true r).1 + 1, (skpF true r).2.1, (skpF true r).2.2) := by
    rw [skpF, if_neg (by decide), if_neg (by decide)]
  rw [h1, h2]
theorem skp_stop {c : UInt8} {r : List UInt8} (h1 : c ≠ 10) (h2 : c ≠ 32) (h3 : c ≠ 9) (h4 : ¬ (c = 47 ∧ r.head? = some 47)) : skpF false (c :: r) = (0, 0, true) := by
  rw [skpF, if_neg (by simpa using h1), if_neg (by simp [h2, h3]), if_neg]
  intro e
  simp only [Bool.and_eq_true, beq_iff_eq] at e
  exact h4 e
end Go.Proofs.YtgccmgjbbcndbaaGreatDoor
/- Plain mathematics: the grammar: a parser of tokens into a forest, with fuel (none: it is out). -/
namespace Go.Proofs.YtgccmgjbbcndbaaGreatDoor
open Go.Deep (BT)

structure Lab where
  kd : Nat
  line : Nat
  s : List UInt8
  n : Int
  ps : List (Nat × List UInt8)

def nd (l : Lab) (ch : BT Lab) : BT Lab := .node 0 0 l ch .nil
def bapp : BT Lab → BT Lab → BT Lab
  | .nil, b => b
  | .node x y l c r, b => .node x y l c (bapp r b)
def blen : BT Lab → Nat
  | .nil => 0
  | .node _ _ _ _ r => blen r + 1
def rootLab : BT Lab → Lab
  | .nil => ⟨0, 0, [], 0, []⟩
  | .node _ _ l _ _ => l
def kidsOf : BT Lab → BT Lab
  | .nil => .nil
  | .node _ _ _ c _ => c

structure PS where
  ts : List Tk
  bad : Nat

def endT : Tk := ⟨0, 0, [], 0⟩
def hdT (s : PS) : Tk := s.ts.headD endT
def kT (s : PS) : Nat := (hdT s).k
def failS (s : PS) : PS := if s.bad = 0 then ⟨[endT], (hdT s).line⟩ else s
def takeS (s : PS) : PS := if kT s = 0 then s else ⟨s.ts.tail, s.bad⟩
def wantS (k : Nat) (s : PS) : PS := if kT s = k then takeS s else failS s

def rowOf (k : Nat) : Nat :=
  if k = 40 then 1 else if k = 39 then 2 else if k = 27 ∨ k = 29 then 3 else if k = 30 ∨ k = 31 ∨ k = 32 ∨ k = 33 then 4
  else if k = 34 ∨ k = 35 then 5 else if k = 36 ∨ k = 37 ∨ k = 38 then 6 else 0

def lab0 (kd line : Nat) : Lab := ⟨kd, line, [], 0, []⟩

/- parameters, behind the opening parenthesis and where the next token is none that closes -/
def prms : Nat → List (Nat × List UInt8) → PS → Option (List (Nat × List UInt8) × PS)
  | 0, _, _ => none
  | n + 1, acc, s =>
    if kT (wantS 1 s) = 24 then prms n (acc ++ [((hdT s).line, (hdT s).s)]) (takeS (wantS 1 s))
    else some (acc ++ [((hdT s).line, (hdT s).s)], wantS 19 (wantS 1 s))

def params (n : Nat) (s : PS) : Option (List (Nat × List UInt8) × PS) := if kT s = 19 then some ([], takeS s) else prms n [] s

def canSet (x : BT Lab) : Bool := (rootLab x).kd == 6 || (rootLab x).kd == 12
def setNode (x v : BT Lab) : BT Lab :=
  if (rootLab x).kd = 6 then nd ⟨28, (rootLab x).line, (rootLab x).s, 0, []⟩ v else nd (lab0 29 (rootLab x).line) (bapp (kidsOf x) v)

def pars : Nat → Nat → Nat → BT Lab → PS → Option (BT Lab × PS)
  | 0, _, _, _, _ => none
  | n + 1, t, a, acc, s =>
    if t = 0 then
      if a = 6 then pars n 2 0 .nil s
      else (pars n 0 (a + 1) .nil s).bind fun x => pars n 1 a x.1 x.2
    else if t = 1 then
      if rowOf (kT s) = a + 1 then (pars n 0 (a + 1) .nil (takeS s)).bind fun y => pars n 1 a (nd (lab0 (100 + kT s) (hdT s).line) (bapp acc y.1)) y.2
      else some (acc, s)
    else if t = 2 then
      if kT s = 28 then (pars n 2 0 .nil (takeS s)).bind fun x => some (nd (lab0 13 (hdT s).line) x.1, x.2)
      else if kT s = 35 then (pars n 2 0 .nil (takeS s)).bind fun x => some (nd (lab0 14 (hdT s).line) x.1, x.2)
      else (pars n 4 0 .nil s).bind fun x => pars n 3 0 x.1 x.2
    else if t = 3 then
      if kT s = 22 then (pars n 0 0 .nil (takeS s)).bind fun y => pars n 3 0 (nd (lab0 12 (hdT s).line) (bapp acc y.1)) (wantS 23 y.2)
      else some (acc, s)
    else if t = 4 then
      if kT s = 2 then some (nd ⟨1, (hdT s).line, [], (hdT s).n, []⟩ .nil, takeS s)
      else if kT s = 3 then some (nd ⟨2, (hdT s).line, (hdT s).s, 0, []⟩ .nil, takeS s)
      else if kT s = 13 then some (nd (lab0 3 (hdT s).line) .nil, takeS s)
      else if kT s = 14 then some (nd (lab0 4 (hdT s).line) .nil, takeS s)
      else if kT s = 15 then some (nd (lab0 5 (hdT s).line) .nil, takeS s)
      else if kT s = 1 then
        if kT (takeS s) = 18 then (pars n 5 19 .nil (takeS (takeS s))).bind fun l => some (nd ⟨7, (hdT s).line, (hdT s).s, 0, []⟩ l.1, l.2)
        else some (nd ⟨6, (hdT s).line, (hdT s).s, 0, []⟩ .nil, takeS s)
      else if kT s = 18 then (pars n 0 0 .nil (takeS s)).bind fun x => some (nd (lab0 8 (hdT s).line) x.1, wantS 19 x.2)
      else if kT s = 22 then (pars n 5 23 .nil (takeS s)).bind fun l => some (nd (lab0 9 (hdT s).line) l.1, l.2)
      else if kT s = 16 then (pars n 0 0 .nil (wantS 18 (takeS s))).bind fun x => some (nd (lab0 10 (hdT s).line) x.1, wantS 19 x.2)
      else if kT s = 17 then (pars n 0 0 .nil (wantS 18 (takeS s))).bind fun x => (pars n 0 0 .nil (wantS 24 x.2)).bind fun y => some (nd (lab0 11 (hdT s).line) (bapp x.1 y.1), wantS 19 y.2)
      else some (.nil, failS s)
    else if t = 5 then
      if kT s = a then some (.nil, takeS s)
      else (pars n 0 0 .nil s).bind fun x => pars n 6 a x.1 x.2
    else if t = 6 then
      if kT s = 24 then (pars n 0 0 .nil (takeS s)).bind fun y => pars n 6 a (bapp acc y.1) y.2
      else some (acc, wantS a s)
    else if t = 7 then pars n 8 0 .nil (wantS 20 s)
    else if t = 8 then
      if kT s = 21 then some (acc, takeS s)
      else if s.bad ≠ 0 then some (acc, s)
      else (pars n 9 0 .nil s).bind fun x => pars n 8 0 (bapp acc x.1) x.2
    else if t = 9 then
      if kT s = 5 then (pars n 0 0 .nil (wantS 26 (wantS 1 (takeS s)))).bind fun x => some (nd ⟨21, (hdT (takeS s)).line, (hdT (takeS s)).s, 0, []⟩ x.1, wantS 25 x.2)
      else if kT s = 6 then (pars n 0 0 .nil (takeS s)).bind fun x => (pars n 7 0 .nil x.2).bind fun b =>
        if kT b.2 = 7 then (pars n 7 0 .nil (takeS b.2)).bind fun c => some (nd (lab0 22 (hdT s).line) (bapp x.1 (bapp (nd (lab0 31 0) b.1) (nd (lab0 31 0) c.1))), c.2)
        else some (nd (lab0 22 (hdT s).line) (bapp x.1 (nd (lab0 31 0) b.1)), b.2)
      else if kT s = 8 then (pars n 0 0 .nil (takeS s)).bind fun x => (pars n 7 0 .nil x.2).bind fun b => some (nd (lab0 23 (hdT s).line) (bapp x.1 (nd (lab0 32 0) b.1)), b.2)
      else if kT s = 9 then
        if kT (takeS s) = 25 then some (nd (lab0 24 (hdT s).line) .nil, wantS 25 (takeS s))
        else (pars n 0 0 .nil (takeS s)).bind fun x => some (nd (lab0 24 (hdT s).line) x.1, wantS 25 x.2)
      else if kT s = 10 then some (nd (lab0 25 (hdT s).line) .nil, wantS 25 (takeS s))
      else if kT s = 11 then some (nd (lab0 26 (hdT s).line) .nil, wantS 25 (takeS s))
      else if kT s = 12 then (pars n 0 0 .nil (takeS s)).bind fun x => some (nd (lab0 27 (hdT s).line) x.1, wantS 25 x.2)
      else (pars n 0 0 .nil s).bind fun x =>
        if canSet x.1 = true ∧ kT x.2 = 26 then (pars n 0 0 .nil (takeS x.2)).bind fun v => some (setNode x.1 v.1, wantS 25 v.2)
        else if kT x.2 = 26 then (pars n 0 0 .nil (failS x.2)).bind fun v => some (nd (lab0 30 (rootLab x.1).line) x.1, wantS 25 v.2)
        else some (nd (lab0 30 (rootLab x.1).line) x.1, wantS 25 x.2)
    else if t = 10 then
      if kT s = 0 then some (acc, s)
      else if kT s = 4 then (pars n 11 0 .nil s).bind fun x => pars n 10 0 (bapp acc x.1) x.2
      else (pars n 9 0 .nil s).bind fun x => pars n 10 0 (bapp acc x.1) x.2
    else
      (params n (wantS 18 (wantS 1 (takeS s)))).bind fun p => (pars n 7 0 .nil p.2).bind fun b =>
        some (nd ⟨20, (hdT (takeS s)).line, (hdT (takeS s)).s, 0, p.1⟩ b.1, b.2)

end Go.Proofs.YtgccmgjbbcndbaaGreatDoor
/- The frame of a call that writes one old block alone; forests in memory, as the document's answer holds them; its reader. -/
namespace Go.Proofs.YtgccmgjbbcndbaaGreatDoor
open Go.RowKit
open Go.Deep (BT)

/- all old blocks but one are as they were -/
structure Only (b : Nat) (w w' : World) : Prop where
  os : w'.os = w.os
  tape : w'.tape = w.tape
  output : w'.output = w.output
  size : w.heap.size ≤ w'.heap.size
  block : ∀ k, k < w.heap.size → k ≠ b → w'.heap[k]? = w.heap[k]?

theorem Only.refl (b : Nat) (w : World) : Only b w w := ⟨rfl, rfl, rfl, Nat.le_refl _, fun _ _ _ => rfl⟩
theorem Only.trans {b : Nat} {x y z : World} (h : Only b x y) (k : Only b y z) : Only b x z :=
  ⟨k.os.trans h.os, k.tape.trans h.tape, k.output.trans h.output, Nat.le_trans h.size k.size, fun i hi hb => (k.block i (Nat.lt_of_lt_of_le hi h.size) hb).trans (h.block i hi hb)⟩
theorem Below.only {b : Nat} {w w' : World} (h : Below w.heap.size w w') : Only b w w' := ⟨h.os, h.tape, h.output, h.size, fun k hk _ => h.block k hk⟩
theorem Only.drew {b : Nat} {x w : World} (h : Only b x w) : Only b x w.drew := ⟨h.os, h.tape, h.output, h.size, h.block⟩
theorem Only.alloc {b : Nat} {x w : World} (h : Only b x w) (o : Obj) : Only b x (w.alloc o) :=
  h.trans ⟨rfl, rfl, rfl, by simp, fun k hk _ => Below.heap_alloc _ _ _ hk⟩
theorem Only.set {b : Nat} {x w : World} (h : Only b x w) {p : Addr} (hp : p.block = b ∨ x.heap.size ≤ p.block) (u : Value) : Only b x (w.setCell p u) :=
  ⟨h.os, h.tape, h.output, by simp [World.setCell]; exact h.size, fun k hk hb => (Below.heap_setCell _ _ _ _ (by rcases hp with e | e <;> omega)).trans (h.block k hk hb)⟩
theorem Only.grown {b : Nat} {x w w' : World} {row : Option Nat} (h : Only b x w) (hg : w.grownBy w' row) (hr : ∀ k, row = some k → k = b ∨ x.heap.size ≤ k) : Only b x w' :=
  ⟨hg.os.trans h.os, hg.tape.trans h.tape, hg.output.trans h.output, Nat.le_trans h.size hg.size, fun k hk hb => (hg.block k (Nat.lt_of_lt_of_le hk h.size) (fun e => by rcases hr k e.symm with e | e <;> omega)).trans (h.block k hk hb)⟩

/- what stands in 'Is' -/
def isS (kd : Nat) : List UInt8 :=
  if kd = 1 then [105, 110, 116] else if kd = 2 then [116, 101, 120, 116] else if kd = 3 then [116, 114, 117, 101] else if kd = 4 then [102, 97, 108, 115, 101]
  else if kd = 5 then [110, 117, 108, 108] else if kd = 6 then [110, 97, 109, 101] else if kd = 7 then [99, 97, 108, 108] else if kd = 9 then [97, 114, 114, 97, 121]
  else if kd = 10 then [108, 101, 110] else if kd = 11 then [112, 117, 115, 104] else if kd = 12 then [105, 110, 100, 101, 120] else if kd = 13 then [33]
  else if kd = 14 then [110, 101, 103] else if kd = 20 then [102, 110] else if kd = 21 then [108, 101, 116] else if kd = 22 then [105, 102]
  else if kd = 23 then [119, 104, 105, 108, 101] else if kd = 24 then [114, 101, 116, 117, 114, 110] else if kd = 25 then [98, 114, 101, 97, 107]
  else if kd = 26 then [99, 111, 110, 116, 105, 110, 117, 101] else if kd = 27 then [112, 114, 105, 110, 116] else if kd = 28 then [115, 101, 116]
  else if kd = 29 then [112, 117, 116] else if kd = 30 then [100, 111] else if kd = 31 ∨ kd = 32 then [98, 108, 111, 99, 107] else spell (kd - 100)
def lineSure (kd : Nat) : Bool := kd != 30 && kd != 31 && kd != 32
def nameSure (kd : Nat) : Bool := kd == 2 || kd == 6 || kd == 7 || kd == 20 || kd == 21 || kd == 28

def OwnsD (D : Nat → Prop) (w : World) (e : TypeId) (size : Nat) (v : Value) (n : Nat) (cs : List Value) : Prop := w.ownsRow 0 e size v n cs ∧ ∀ g, v.ownBlock = some g → D g

def RepF (D : Nat → Prop) (w : World) : BT Lab → List Value → Prop
  | .nil, cs => cs = []
  | .node _ _ lab ch sib, cs =>
    if lab.kd = 8 then ∃ c1 c2, cs = c1 ++ c2 ∧ RepF D w ch c1 ∧ RepF D w sib c2
    else ∃ (ln nn : Int) (S : List UInt8) (v pv : Value) (c1 c2 : List Value), (∃ va vn vc pa pn pc, v = .slice va vn vc ∧ pv = .slice pa pn pc) ∧
      cs = .string ⟨(isS lab.kd).toArray⟩ :: .int .i64 ln :: .string ⟨S.toArray⟩ :: .int .i64 nn :: v :: pv :: c2 ∧
      (lineSure lab.kd = true → ln = lab.line) ∧ (nameSure lab.kd = true → S = lab.s) ∧ (lab.kd = 1 → nn = lab.n) ∧ (lab.kd = 12 → ∃ a n, v = .slice a n n) ∧
      OwnsD D w 41 6 v (blen ch) c1 ∧ RepF D w ch c1 ∧
      (lab.kd = 20 → ∃ xs : List (Tk × List UInt8), OwnsD D w 79 4 pv xs.length (tkCs xs) ∧ xs.map (fun x => (x.1.line, x.2)) = lab.ps) ∧
      RepF D w sib c2

theorem OwnsD.keep {D D' : Nat → Prop} {w w' : World} {e : TypeId} {size : Nat} {v : Value} {n : Nat} {cs : List Value} (h : OwnsD D w e size v n cs)
    (hk : ∀ g, D g → g < w.heap.size → w'.heap[g]? = w.heap[g]? ∧ D' g) : OwnsD D' w' e size v n cs :=
  ⟨own_same h.1 fun g hg hl => (hk g (h.2 g hg) hl).1, fun g hg => (hk g (h.2 g hg) (own_lt h.1 g hg)).2⟩

theorem RepF.keep {D D' : Nat → Prop} {w w' : World} (hk : ∀ g, D g → g < w.heap.size → w'.heap[g]? = w.heap[g]? ∧ D' g) : ∀ (f : BT Lab) (cs : List Value), RepF D w f cs → RepF D' w' f cs := by
  intro f
  induction f with
  | nil => intro cs h; exact h
  | node x y lab ch sib ih1 ih2 =>
    intro cs h
    rw [RepF] at h ⊢
    split at h
    · rename_i h8
      rw [if_pos h8]
      obtain ⟨c1, c2, rfl, h1, h2⟩ := h
      exact ⟨c1, c2, rfl, ih1 c1 h1, ih2 c2 h2⟩
    · rename_i h8
      rw [if_neg h8]
      obtain ⟨ln, nn, S, v, pv, c1, c2, hv, rfl, h1, h2, h3, h12, h4, h5, h6, h7⟩ := h
      refine ⟨ln, nn, S, v, pv, c1, c2, hv, rfl, h1, h2, h3, h12, h4.keep hk, ih1 c1 h5, fun e => ?_, ih2 c2 h7⟩
      obtain ⟨xs, k1, k2⟩ := h6 e
      exact ⟨xs, k1.keep hk, k2⟩

theorem RepF.app {D : Nat → Prop} {w : World} : ∀ (f g : BT Lab) (c1 c2 : List Value), RepF D w f c1 → RepF D w g c2 → RepF D w (bapp f g) (c1 ++ c2) := by
  intro f
  induction f with
  | nil => intro g c1 c2 h1 h2; rw [RepF] at h1; subst h1; exact h2
  | node x y lab ch sib ih1 ih2 =>
    intro g c1 c2 h1 h2
    rw [RepF] at h1
    rw [bapp, RepF]
    split at h1
    · rename_i h8
      rw [if_pos h8]
      obtain ⟨d1, d2, rfl, k1, k2⟩ := h1
      exact ⟨d1, d2 ++ c2, by simp, k1, ih2 g d2 c2 k2 h2⟩
    · rename_i h8
      rw [if_neg h8]
      obtain ⟨ln, nn, S, v, pv, d1, d2, hv, rfl, k1, k2, k3, k12, k4, k5, k6, k7⟩ := h1
      exact ⟨ln, nn, S, v, pv, d1, d2 ++ c2, hv, by simp, k1, k2, k3, k12, k4, k5, k6, ih2 g d2 c2 k7 h2⟩

/- the reader's tokens are in order: the last one, and no other one, is the end -/
structure Toks (xs : List (Tk × List UInt8)) : Prop where
  ok : tkOk xs
  few : xs.length ≤ 100000
  last : ∀ i (h : i < xs.length), xs[i].1.k = 0 ↔ i + 1 = xs.length
  line : ∀ x ∈ xs, 1 ≤ x.1.line ∧ x.1.line ≤ 100000 ∧ x.1.k ≤ 40

structure RSt (b tb cap te : Nat) (xs : List (Tk × List UInt8)) (w : World) (s : PS) (pl : Nat) : Prop where
  toks : Toks xs
  rd : w.heap[b]? = some (.cells #[.slice (some ⟨tb, 0, none⟩) xs.length cap, .int .i64 pl, .int .i64 s.bad] te (0, 0))
  tok : ∃ cur, w.heap[tb]? = some (.cells cur 79 (0, 0)) ∧ cur.toList.take (xs.length * 4) = tkCs xs
  ne : tb ≠ b
  lt : pl < xs.length
  cap : xs.length ≤ cap
  good : s.bad = 0 → s.ts = (xs.drop pl).map (·.1)
  bad : s.bad ≠ 0 → s.ts = [endT] ∧ s.bad ≤ 100000

end Go.Proofs.YtgccmgjbbcndbaaGreatDoor
/- Cells of the reader and of its tokens. -/
namespace Go.Proofs.YtgccmgjbbcndbaaGreatDoor
open Go.RowKit

theorem tkCs_at (xs : List (Tk × List UInt8)) : ∀ (i j : Nat) (h : i < xs.length), j < 4 → (tkCs xs)[i * 4 + j]? = (tkC xs[i])[j]? := by
  induction xs with
  | nil => intro i j h; simp at h
  | cons x r ih =>
    intro i j h hj
    have e : tkCs (x :: r) = tkC x ++ tkCs r := by simp [tkCs]
    rw [e]
    have hl : (tkC x).length = 4 := rfl
    cases i with
    | zero => rw [List.getElem?_append_left (by omega)]; simp
    | succ i =>
      rw [List.getElem?_append_right (by omega), hl, show (i + 1) * 4 + j - 4 = i * 4 + j by omega]
      exact ih i j (by simpa using h) hj

theorem tkCs_len (xs : List (Tk × List UInt8)) : (tkCs xs).length = xs.length * 4 := by
  induction xs with
  | nil => rfl
  | cons x r ih =>
    have e : tkCs (x :: r) = tkC x ++ tkCs r := by simp [tkCs]
    rw [e, List.length_append, ih]
    have hl : (tkC x).length = 4 := rfl
    rw [hl, List.length_cons]; omega

theorem frozen_row {w : World} {g : Nat} {cs : Array Value} {t : TypeId} (h : w.heap[g]? = some (.cells cs t (0, 0))) (o : Nat) : w.frozen? ⟨g, o, none⟩ = false := by
  simp [World.frozen?, h]

theorem cell_row {w : World} {g : Nat} {cs : Array Value} {t : TypeId} {fr : Nat × Nat} (h : w.heap[g]? = some (.cells cs t fr)) (o : Nat) (u : Value) (hu : cs[o]? = some u) : w.cell? ⟨g, o, none⟩ = some u := by
  rw [cell_of_row w g o cs t fr h]; exact hu

theorem RSt.cells {b tb cap te : Nat} {xs : List (Tk × List UInt8)} {w : World} {s : PS} {pl : Nat} (h : RSt b tb cap te xs w s pl) :
    w.cell? ⟨b, 0, none⟩ = some (.slice (some ⟨tb, 0, none⟩) xs.length cap) ∧ w.cell? ⟨b, 1, none⟩ = some (.int .i64 pl) ∧ w.cell? ⟨b, 2, none⟩ = some (.int .i64 s.bad) :=
  ⟨cell_row h.rd 0 _ rfl, cell_row h.rd 1 _ rfl, cell_row h.rd 2 _ rfl⟩

theorem RSt.tkCell {b tb cap te : Nat} {xs : List (Tk × List UInt8)} {w : World} {s : PS} {pl : Nat} (h : RSt b tb cap te xs w s pl) (i j : Nat) (hi : i < xs.length) (hj : j < 4) :
    w.cell? ⟨tb, i * 4 + j, none⟩ = (tkC xs[i])[j]? := by
  obtain ⟨cur, h1, h2⟩ := h.tok
  rw [cell_of_row w tb (i * 4 + j) cur _ _ h1, ← tkCs_at xs i j hi hj, ← h2, List.getElem?_take, if_pos (by omega), Array.getElem?_toList]

theorem RSt.below {b tb cap te : Nat} {xs : List (Tk × List UInt8)} {w w' : World} {s : PS} {pl : Nat} (h : RSt b tb cap te xs w s pl) (hb : Below w.heap.size w w') : RSt b tb cap te xs w' s pl := by
  obtain ⟨cur, h1, h2⟩ := h.tok
  exact ⟨h.toks, (hb.block b (heap_lt h.rd)).trans h.rd, ⟨cur, (hb.block tb (heap_lt h1)).trans h1, h2⟩, h.ne, h.lt, h.cap, h.good, h.bad⟩

theorem RSt.hd {b tb cap te : Nat} {xs : List (Tk × List UInt8)} {w : World} {s : PS} {pl : Nat} (h : RSt b tb cap te xs w s pl) (h0 : s.bad = 0) : hdT s = (xs[pl]'h.lt).1 := by
  unfold hdT
  rw [h.good h0, List.drop_eq_getElem_cons h.lt]; rfl

/- the token that comes, with its text as the document's answer has it -/
theorem tkC_toArray (x : Tk × List UInt8) : (tkC x).toArray = #[.int .u8 (refKind x.1.k), .string ⟨x.2.toArray⟩, .int .i64 x.1.n, .int .i64 (x.1.line : Nat)] := rfl
end Go.Proofs.YtgccmgjbbcndbaaGreatDoor
