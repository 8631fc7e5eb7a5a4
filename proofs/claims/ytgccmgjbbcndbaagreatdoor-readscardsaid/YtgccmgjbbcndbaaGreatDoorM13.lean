import Derived.Test.YtgccmgjbbcndbaaGreatDoorM10
import Derived.Test.YtgccmgjbbcndbaaGreatDoorM01
/- Walk of Tokens. -/
namespace Go.Proofs.YtgccmgjbbcndbaaGreatDoor
open Go.RowKit

theorem infoTok : (Tryz.prog.info? 79).map (fun i => (i.zero, i.size, i.bytes)) = some (some (.agg #[.int .u8 0, .string ⟨#[]⟩, .int .i64 0, .int .i64 0]), 4, 40) := by kernel_rfl

theorem token_any (l : List UInt8) (i : Nat) (w : World) (hl : l.length ≤ 100000) (hi : i < l.length) (hs : l[i] ≠ 32) :
    Calls Tryz.prog 18 #[.string ⟨l.toArray⟩, .int .i64 i] w fun e w' => ∃ K S N n, e = .returned (.tuple #[.agg #[.int .u8 K, .string ⟨S.toArray⟩, .int .i64 N, .int .i64 0], .int .i64 (n : Nat)]) ∧ TokOut (tokAt (l.drop i)) K S N n ∧ Below w.heap.size w w' := by
  cases hd : isDig l[i]
  · cases ha : isLet l[i]
    · by_cases hc : l[i] = 34
      · exact token_quote l i w hl hi hc
      · exact token_sign l i w hl hi hd ha hc hs
    · exact token_name l i w hl hi hd ha
  · exact token_digit l i w hl hi hd

def TokensOut (r : Nat ⊕ List Tk) (v : Value) (n : Nat) (base : Nat) (w' : World) : Prop := match r with
  | .inl ln => n = ln
  | .inr ts => n = 0 ∧ ∃ xs : List (Tk × List UInt8), xs.map (·.1) = ts ∧ tkOk xs ∧ w'.ownsRow base 79 4 v xs.length (tkCs xs)

theorem tok_one {x : Tk × List UInt8} : ∀ u ∈ tkC x, u.oneCell' = true := by
  intro u hu; simp only [tkC, List.mem_cons, List.not_mem_nil, or_false] at hu
  rcases hu with rfl | rfl | rfl | rfl <;> rfl

set_option maxRecDepth 100000 in
set_option maxHeartbeats 4000000 in
theorem tokens_any (l : List UInt8) (w : World) (hl : l.length ≤ 100000) :
    Calls Tryz.prog 11 #[.string ⟨l.toArray⟩] w fun e w' => ∃ v n, e = .returned (.tuple #[v, .int .i64 (n : Nat)]) ∧ TokensOut (lex (l.length + 1) l 1 false) v n w.heap.size w' ∧ Below w.heap.size w w' := by
  go_enter Tryz.func11, Tryz.ntmps11
  go_wp2
  go_loopw [4, 5, 6, 7] (fun v t s i wr => ∃ (k ln f : Nat) (sd : Bool) (xs : List (Tk × List UInt8)), k ≤ l.length ∧ i = .int .i64 k ∧ t = .int .i64 ln ∧ s = .bool sd ∧ ln ≤ k + 1 ∧ l.length - k < f ∧ xs.length ≤ k ∧
      wr.ownsRow w.heap.size 79 4 v xs.length (tkCs xs) ∧ tkOk xs ∧ Below w.heap.size w wr ∧ lex (l.length + 1) l 1 false = lexPre xs (lex f (l.drop k) ln sd)) (fun _ _ _ i _ => l.length - (intOf i).toNat)
  case atStart =>
    exact ⟨0, 1, l.length + 1, false, [], Nat.zero_le _, rfl, rfl, rfl, by omega, by omega, by simp, World.ownsRow_nil _ _ _ _, (fun x hx => by cases hx), Below.refl _ _, by rw [lexPre_nil]; rfl⟩
  case round =>
    obtain ⟨k, ln, f, sd, xs, hk, rfl, rfl, rfl, hln, hf, hxs, hown, hok, hbel, hlex⟩ := hrel
    obtain ⟨f, rfl⟩ : ∃ f', f = f' + 1 := ⟨f - 1, by omega⟩
    have HX := hide hlex
    have HO := hide hok
    clear hlex hok
    by_cases hlt : k < l.length
    · have hE : ∀ h, ((⟨l.toArray⟩ : ByteArray)[k]'h) = l[k] := fun h => byte_at l k h
      by_cases h10 : l[k] = 10
      · have t10 := bt_eq (n := 10) rfl h10
        have HN := hide (lex_nl l k f ln sd hlt h10)
        clear h10
        go_wp2
        go_roundw
        case rel => exact ⟨k + 1, ln + 1, f, false, xs, by omega, by go_num, by go_num, rfl, by omega, by omega, by omega, hown, HO.out, hbel, by rw [HX.out, HN.out]⟩
        case measure => simp [intOf]; omega
      · have t10 := bt_ne (n := 10) rfl h10
        by_cases hpr : l[k] = 9 ∨ isPrt l[k] = true
        · by_cases h9 : l[k] = 9
          · have t9 := bt_nq (n := 9) rfl h9
            have s9 := bt_eq (n := 9) rfl h9
            have t47 := bt_ne (c := l[k]) (d := 47) (n := 47) rfl (by rw [h9]; decide)
            have hr := rem_no1 l k hlt (by rw [h9]; decide)
            cases sd
            · have HS : Hid ((false || rem47 l k || l[k] == 9 || l[k] == 32) = true) := by
                show _ = _
                simp [h9]
              have HN := hide (lex_skip l k f ln false hlt h10 hpr HS.out)
              have HR := hide hr
              clear h10 hpr h9 hr
              go_wp2
              go_roundw
              case rel => exact ⟨k + 1, ln, f, _, xs, by omega, by go_num, rfl, rfl, by omega, by omega, by omega, hown, HO.out, hbel, by rw [HX.out, HN.out, HR.out]; rfl⟩
              case measure => simp [intOf]; omega
            · have HS : Hid ((true || rem47 l k || l[k] == 9 || l[k] == 32) = true) := by
                show _ = _
                simp
              have HN := hide (lex_skip l k f ln true hlt h10 hpr HS.out)
              have HR := hide hr
              clear h10 hpr h9 hr
              go_wp2
              go_roundw
              case rel => exact ⟨k + 1, ln, f, _, xs, by omega, by go_num, rfl, rfl, by omega, by omega, by omega, hown, HO.out, hbel, by rw [HX.out, HN.out, HR.out]; rfl⟩
              case measure => simp [intOf]; omega
          · have t9 := bt_nn (n := 9) rfl h9
            have s9 := bt_ne (n := 9) rfl h9
            have hp : isPrt l[k] = true := by rcases hpr with e | e; exact absurd e h9; exact e
            have hp2 := hp
            simp only [isPrt, Bool.and_eq_true, decide_eq_true_eq] at hp2
            have p0 : 32 ≤ (l[k].toNat : Int) := by omega
            have p1 : (l[k].toNat : Int) ≤ 126 := by omega
            clear hp2 hpr
            by_cases h47 : l[k] = 47
            · have t47 := bt_eq (n := 47) rfl h47
              have h32 : l[k] ≠ 32 := by rw [h47]; decide
              have s32 := bt_ne (n := 32) rfl h32
              by_cases hlt2 : k + 1 < l.length
              · have hE2 : ∀ h, ((⟨l.toArray⟩ : ByteArray)[k + 1]'h) = l[k + 1] := fun h => byte_at l (k + 1) h
                by_cases n47 : l[k + 1] = 47
                · have u47 := bt_eq (n := 47) rfl n47
                  have HR := hide (rem_yes l k hlt2 h47 n47)
                  cases sd
                  · have HS : Hid ((false || rem47 l k || l[k] == 9 || l[k] == 32) = true) := by
                      show _ = _
                      rw [HR.out]; rfl
                    have HN := hide (lex_skip l k f ln false hlt h10 (.inr hp) HS.out)
                    clear h10 hp h9 h47 h32 n47
                    go_wp2
                    go_roundw
                    case rel => exact ⟨k + 1, ln, f, _, xs, by omega, by go_num, rfl, rfl, by omega, by omega, by omega, hown, HO.out, hbel, by rw [HX.out, HN.out, HR.out]; rfl⟩
                    case measure => simp [intOf]; omega
                  · have HS : Hid ((true || rem47 l k || l[k] == 9 || l[k] == 32) = true) := by
                      show _ = _
                      simp
                    have HN := hide (lex_skip l k f ln true hlt h10 (.inr hp) HS.out)
                    clear h10 hp h9 h47 h32 n47
                    go_wp2
                    go_roundw
                    case rel => exact ⟨k + 1, ln, f, _, xs, by omega, by go_num, rfl, rfl, by omega, by omega, by omega, hown, HO.out, hbel, by rw [HX.out, HN.out, HR.out]; rfl⟩
                    case measure => simp [intOf]; omega
                · have u47 := bt_ne (n := 47) rfl n47
                  have HR := hide (rem_no2 l k hlt2 n47)
                  cases sd
                  · have HS : Hid ((false || rem47 l k || l[k] == 9 || l[k] == 32) = false) := by
                      show _ = _
                      rw [HR.out]; simp [h9, h32]
                    have H10 := hide h10
                    have HP := hide hp
                    have H32 := hide h32
                    clear h10 hp h32 h9 h47 n47
                    go_wp2_with fail
                    refine (token_any l k _ hl hlt H32.out).mono ?_
                    rintro e w' ⟨K, S, N, n, rfl, hout, hb⟩
                    cases htk : tokAt (l.drop k) with
                    | none =>
                      rw [htk] at hout
                      have hn : n = 0 := hout
                      have HN := hide (lex_none l k f ln false hlt H10.out HP.out HS.out htk)
                      subst hn
                      clear htk hout
                      go_wp2
                      go_ret2
                      exact ⟨_, ln, rfl, by rw [HX.out, HN.out]; exact rfl, (hbel.trans (hb.mono hbel.size)).alloc (by have := hbel.size; have := hb.size; omega) _⟩
                    | some x =>
                      obtain ⟨t, m⟩ := x
                      rw [htk] at hout
                      obtain ⟨hn, hK, hS, hN⟩ := hout
                      simp only at hn hK hS hN
                      have HL := tok_len _ _ _ htk
                      rw [List.length_drop] at HL
                      have HN := hide (lex_some l k f ln false hlt H10.out HP.out HS.out t m htk xs S)
                      subst hn hK hN
                      have HSS := hide hS
                      have hm0 : ((n : Int) == 0) = false := by rw [beq_eq_false_iff_ne]; omega
                      clear htk hS
                      have hown2 := (own_below hown hb).alloc (.cells #[.int .u8 (refKind t.k), .string ⟨S.toArray⟩, .int .i64 t.n, .int .i64 ln] 79)
                      go_wp2_with (at_builtin; refine wpl_app (w'.alloc (.cells #[.int .u8 (refKind t.k), .string ⟨S.toArray⟩, .int .i64 t.n, .int .i64 ln] 79)) (tkC ({ t with line := ln }, S)).toArray 79 rfl (.tmp 73) (.tmp 75) 39 rfl w.heap.size 4 40 (.agg #[.int .u8 0, .string ⟨#[]⟩, .int .i64 0, .int .i64 0]) Tryz.underlying39 infoTok rfl (by omega) _ _ _ rfl (by simp; rfl) hown2 rfl tok_one (by omega) (by omega) (by have := hbel.size; have := hb.size; simp; omega) ?_; intro g cap w1 hown1 hgrow hat hg)
                      go_roundw
                      case rel =>
                        refine ⟨k + n, ln, f, false, xs ++ [({ t with line := ln }, S)], by omega, by go_num, rfl, rfl, by omega, by omega, by simp; omega, by simpa [tkCs] using hown1, ?_, ?_, by rw [HX.out, HN.out]⟩
                        · intro x hx
                          rcases List.mem_append.1 hx with h | h
                          · exact HO.out x h
                          · simp only [List.mem_singleton] at h; subst h; exact HSS.out
                        · exact (((hbel.trans (hb.mono hbel.size)).alloc (by have := hbel.size; have := hb.size; omega) _)).grown hgrow (by have := hbel.size; have := hb.size; simp; omega) (own_ge hown2)
                      case measure => simp [intOf]; omega
                  · have HS : Hid ((true || rem47 l k || l[k] == 9 || l[k] == 32) = true) := by
                      show _ = _
                      simp
                    have HN := hide (lex_skip l k f ln true hlt h10 (.inr hp) HS.out)
                    clear h10 hp h9 h47 h32 n47
                    go_wp2
                    go_roundw
                    case rel => exact ⟨k + 1, ln, f, _, xs, by omega, by go_num, rfl, rfl, by omega, by omega, by omega, hown, HO.out, hbel, by rw [HX.out, HN.out, HR.out]; rfl⟩
                    case measure => simp [intOf]; omega
              · have HR := hide (rem_no3 l k (by omega))
                cases sd
                · have HS : Hid ((false || rem47 l k || l[k] == 9 || l[k] == 32) = false) := by
                    show _ = _
                    rw [HR.out]; simp [h9, h32]
                  have H10 := hide h10
                  have HP := hide hp
                  have H32 := hide h32
                  clear h10 hp h32 h9 h47
                  go_wp2_with fail
                  refine (token_any l k _ hl hlt H32.out).mono ?_
                  rintro e w' ⟨K, S, N, n, rfl, hout, hb⟩
                  cases htk : tokAt (l.drop k) with
                  | none =>
                    rw [htk] at hout
                    have hn : n = 0 := hout
                    have HN := hide (lex_none l k f ln false hlt H10.out HP.out HS.out htk)
                    subst hn
                    clear htk hout
                    go_wp2
                    go_ret2
                    exact ⟨_, ln, rfl, by rw [HX.out, HN.out]; exact rfl, (hbel.trans (hb.mono hbel.size)).alloc (by have := hbel.size; have := hb.size; omega) _⟩
                  | some x =>
                    obtain ⟨t, m⟩ := x
                    rw [htk] at hout
                    obtain ⟨hn, hK, hS, hN⟩ := hout
                    simp only at hn hK hS hN
                    have HL := tok_len _ _ _ htk
                    rw [List.length_drop] at HL
                    have HN := hide (lex_some l k f ln false hlt H10.out HP.out HS.out t m htk xs S)
                    subst hn hK hN
                    have HSS := hide hS
                    have hm0 : ((n : Int) == 0) = false := by rw [beq_eq_false_iff_ne]; omega
                    clear htk hS
                    have hown2 := (own_below hown hb).alloc (.cells #[.int .u8 (refKind t.k), .string ⟨S.toArray⟩, .int .i64 t.n, .int .i64 ln] 79)
                    go_wp2_with (at_builtin; refine wpl_app (w'.alloc (.cells #[.int .u8 (refKind t.k), .string ⟨S.toArray⟩, .int .i64 t.n, .int .i64 ln] 79)) (tkC ({ t with line := ln }, S)).toArray 79 rfl (.tmp 73) (.tmp 75) 39 rfl w.heap.size 4 40 (.agg #[.int .u8 0, .string ⟨#[]⟩, .int .i64 0, .int .i64 0]) Tryz.underlying39 infoTok rfl (by omega) _ _ _ rfl (by simp; rfl) hown2 rfl tok_one (by omega) (by omega) (by have := hbel.size; have := hb.size; simp; omega) ?_; intro g cap w1 hown1 hgrow hat hg)
                    go_roundw
                    case rel =>
                      refine ⟨k + n, ln, f, false, xs ++ [({ t with line := ln }, S)], by omega, by go_num, rfl, rfl, by omega, by omega, by simp; omega, by simpa [tkCs] using hown1, ?_, ?_, by rw [HX.out, HN.out]⟩
                      · intro x hx
                        rcases List.mem_append.1 hx with h | h
                        · exact HO.out x h
                        · simp only [List.mem_singleton] at h; subst h; exact HSS.out
                      · exact (((hbel.trans (hb.mono hbel.size)).alloc (by have := hbel.size; have := hb.size; omega) _)).grown hgrow (by have := hbel.size; have := hb.size; simp; omega) (own_ge hown2)
                    case measure => simp [intOf]; omega
                · have HS : Hid ((true || rem47 l k || l[k] == 9 || l[k] == 32) = true) := by
                    show _ = _
                    simp
                  have HN := hide (lex_skip l k f ln true hlt h10 (.inr hp) HS.out)
                  clear h10 hp h9 h47 h32
                  go_wp2
                  go_roundw
                  case rel => exact ⟨k + 1, ln, f, _, xs, by omega, by go_num, rfl, rfl, by omega, by omega, by omega, hown, HO.out, hbel, by rw [HX.out, HN.out, HR.out]; rfl⟩
                  case measure => simp [intOf]; omega
            · have t47 := bt_ne (n := 47) rfl h47
              have HR := hide (rem_no1 l k hlt h47)
              cases sd
              · by_cases h32 : l[k] = 32
                · have s32 := bt_eq (n := 32) rfl h32
                  have HS : Hid ((false || rem47 l k || l[k] == 9 || l[k] == 32) = true) := by
                    show _ = _
                    simp [h32]
                  have HN := hide (lex_skip l k f ln false hlt h10 (.inr hp) HS.out)
                  clear h10 hp h9 h47 h32
                  go_wp2
                  go_roundw
                  case rel => exact ⟨k + 1, ln, f, _, xs, by omega, by go_num, rfl, rfl, by omega, by omega, by omega, hown, HO.out, hbel, by rw [HX.out, HN.out, HR.out]; rfl⟩
                  case measure => simp [intOf]; omega
                · have s32 := bt_ne (n := 32) rfl h32
                  have HS : Hid ((false || rem47 l k || l[k] == 9 || l[k] == 32) = false) := by
                    show _ = _
                    rw [HR.out]; simp [h9, h32]
                  have H10 := hide h10
                  have HP := hide hp
                  have H32 := hide h32
                  clear h10 hp h32 h9 h47
                  go_wp2_with fail
                  refine (token_any l k _ hl hlt H32.out).mono ?_
                  rintro e w' ⟨K, S, N, n, rfl, hout, hb⟩
                  cases htk : tokAt (l.drop k) with
                  | none =>
                    rw [htk] at hout
                    have hn : n = 0 := hout
                    have HN := hide (lex_none l k f ln false hlt H10.out HP.out HS.out htk)
                    subst hn
                    clear htk hout
                    go_wp2
                    go_ret2
                    exact ⟨_, ln, rfl, by rw [HX.out, HN.out]; exact rfl, (hbel.trans (hb.mono hbel.size)).alloc (by have := hbel.size; have := hb.size; omega) _⟩
                  | some x =>
                    obtain ⟨t, m⟩ := x
                    rw [htk] at hout
                    obtain ⟨hn, hK, hS, hN⟩ := hout
                    simp only at hn hK hS hN
                    have HL := tok_len _ _ _ htk
                    rw [List.length_drop] at HL
                    have HN := hide (lex_some l k f ln false hlt H10.out HP.out HS.out t m htk xs S)
                    subst hn hK hN
                    have HSS := hide hS
                    have hm0 : ((n : Int) == 0) = false := by rw [beq_eq_false_iff_ne]; omega
                    clear htk hS
                    have hown2 := (own_below hown hb).alloc (.cells #[.int .u8 (refKind t.k), .string ⟨S.toArray⟩, .int .i64 t.n, .int .i64 ln] 79)
                    go_wp2_with (at_builtin; refine wpl_app (w'.alloc (.cells #[.int .u8 (refKind t.k), .string ⟨S.toArray⟩, .int .i64 t.n, .int .i64 ln] 79)) (tkC ({ t with line := ln }, S)).toArray 79 rfl (.tmp 73) (.tmp 75) 39 rfl w.heap.size 4 40 (.agg #[.int .u8 0, .string ⟨#[]⟩, .int .i64 0, .int .i64 0]) Tryz.underlying39 infoTok rfl (by omega) _ _ _ rfl (by simp; rfl) hown2 rfl tok_one (by omega) (by omega) (by have := hbel.size; have := hb.size; simp; omega) ?_; intro g cap w1 hown1 hgrow hat hg)
                    go_roundw
                    case rel =>
                      refine ⟨k + n, ln, f, false, xs ++ [({ t with line := ln }, S)], by omega, by go_num, rfl, rfl, by omega, by omega, by simp; omega, by simpa [tkCs] using hown1, ?_, ?_, by rw [HX.out, HN.out]⟩
                      · intro x hx
                        rcases List.mem_append.1 hx with h | h
                        · exact HO.out x h
                        · simp only [List.mem_singleton] at h; subst h; exact HSS.out
                      · exact (((hbel.trans (hb.mono hbel.size)).alloc (by have := hbel.size; have := hb.size; omega) _)).grown hgrow (by have := hbel.size; have := hb.size; simp; omega) (own_ge hown2)
                    case measure => simp [intOf]; omega
              · have HS : Hid ((true || rem47 l k || l[k] == 9 || l[k] == 32) = true) := by
                  show _ = _
                  simp
                have HN := hide (lex_skip l k f ln true hlt h10 (.inr hp) HS.out)
                clear h10 hp h9 h47
                go_wp2
                go_roundw
                case rel => exact ⟨k + 1, ln, f, _, xs, by omega, by go_num, rfl, rfl, by omega, by omega, by omega, hown, HO.out, hbel, by rw [HX.out, HN.out, HR.out]; rfl⟩
                case measure => simp [intOf]; omega
        · have h9 : l[k] ≠ 9 := fun e => hpr (.inl e)
          have hp : isPrt l[k] = false := by cases h : isPrt l[k] <;> simp_all
          have HN := hide (lex_bad l k f ln sd hlt h10 h9 hp)
          have t9 := bt_nn (n := 9) rfl h9
          simp only [isPrt, Bool.and_eq_false_iff, decide_eq_false_iff_not] at hp
          by_cases h32 : (l[k].toNat : Int) < 32
          · clear hp hpr h9 h10
            go_wp2
            go_ret2
            exact ⟨_, ln, rfl, by rw [HX.out, HN.out]; exact rfl, hbel⟩
          · have h126 : 126 < (l[k].toNat : Int) := by omega
            clear hp hpr h9 h10
            go_wp2
            go_ret2
            exact ⟨_, ln, rfl, by rw [HX.out, HN.out]; exact rfl, hbel⟩
    · have HN := hide (lex_end l k f ln sd (by omega))
      go_wp2_with (at_builtin; refine wpl_app wr (tkC (⟨0, ln, [], 0⟩, [])).toArray 79 rfl (.tmp 80) (.tmp 83) 39 rfl w.heap.size 4 40 (.agg #[.int .u8 0, .string ⟨#[]⟩, .int .i64 0, .int .i64 0]) Tryz.underlying39 infoTok rfl (by omega) _ _ _ rfl rfl hown rfl tok_one (by omega) (by omega) hbel.size ?_; intro g cap w1 hown1 hgrow hat hg)
      go_ret2
      refine ⟨_, 0, rfl, ?_, hbel.grown hgrow hbel.size (own_ge hown)⟩
      rw [HX.out, HN.out]
      refine ⟨rfl, xs ++ [(⟨0, ln, [], 0⟩, [])], by simp, ?_, ?_⟩
      · intro x hx
        rcases List.mem_append.1 hx with h | h
        · exact HO.out x h
        · simp only [List.mem_singleton] at h; subst h; intro _; rfl
      · simpa [tkCs] using hown1
end Go.Proofs.YtgccmgjbbcndbaaGreatDoor
