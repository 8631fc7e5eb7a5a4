import Derived.Test.YtgccmgjbbcndbaaGreatDoorM12
import Derived.Test.YtgccmgjbbcndbaaGreatDoorM34
import Derived.Test.YtgccmgjbbcndbaaGreatDoorM33
import Derived.Test.YtgccmgjbbcndbaaGreatDoorM42
import Derived.Test.YtgccmgjbbcndbaaGreatDoorM28
/- Walk of the code's scan.Scan. -/
namespace Go.Proofs.YtgccmgjbbcndbaaGreatDoor
open Go.RowKit

theorem infoTokC : (Tryz.prog.info? 93).map (fun i => (i.zero, i.size, i.bytes)) = some (some (.agg #[.int .i64 0, .int .i64 0, .string ⟨#[]⟩, .int .i64 0]), 4, 40) := by kernel_rfl

def ScRel (l : List UInt8) (w : World) (k : Nat) (v : Value) (wr : World) : Prop :=
  ∃ (i ln : Nat) (acc : List Tk) (va : Option Addr) (vn vc : Nat), v = .slice va vn vc ∧ i + k = l.length ∧ ln ≤ i + 1 ∧ acc.length ≤ i ∧ Sc (w.heap.size + 1) 90 wr l i ln ∧ Glob wr ∧ Below w.heap.size w wr ∧
    wr.heap[w.heap.size]? = some (.cells #[.int .i64 0, .int .i64 0] 29 (0, 0)) ∧ wr.ownsRow 0 93 4 (.slice va vn vc) acc.length (ctks acc) ∧ (∀ g, (Value.slice va vn vc).ownBlock = some g → w.heap.size + 1 < g) ∧
    lex (l.length + 1) l 1 false = preT acc (lex ((l.drop i).length + 1) (l.drop i) ln false)

def ScPost (l : List UInt8) (w : World) (e : Ending) (w' : World) : Prop :=
  Below w.heap.size w w' ∧ ((∃ n, lex (l.length + 1) l 1 false = .inl n ∧ e = .returned (.tuple #[.slice none 0 0, .agg #[.int .i64 2, .int .i64 (n : Nat)]])) ∨
    (∃ ts va vn vc, lex (l.length + 1) l 1 false = .inr ts ∧ e = .returned (.tuple #[.slice va vn vc, .agg #[.int .i64 0, .int .i64 0]]) ∧ w'.ownsRow 0 93 4 (.slice va vn vc) ts.length (ctks ts) ∧ (∀ g, (Value.slice va vn vc).ownBlock = some g → w.heap.size ≤ g)))

theorem ke0 {k : Nat} (h : k = 0) : ((k : Int) == 0) = true := by subst h; rfl
theorem kn0 {k : Nat} (h : k ≠ 0) : ((k : Int) == 0) = false := by rw [beq_eq_false_iff_ne]; omega
theorem ctks_app (a b : List Tk) : ctks (a ++ b) = ctks a ++ ctks b := by simp [ctks]

theorem scan_app {l : List UInt8} {w wr w1 w2 : World} {i q m : Nat} {T : Obj} {va : Option Addr} {vn vc g2 : Nat} {cs : List Value} (hw : 4 ≤ w.heap.size) (lsc : w.heap.size + 1 < wr.heap.size) (lw1 : wr.heap.size ≤ w1.heap.size) (hR : w1.heap[w.heap.size]? = some (.cells #[.int .i64 0, .int .i64 0] 29 (0, 0)))
    (hsc : Sc (w.heap.size + 1) 90 w1 l i q) (hb : Below w.heap.size w w1) (hg : Glob w1) (hown : wr.ownsRow 0 93 4 (.slice va vn vc) m cs) (hlo : ∀ g, (Value.slice va vn vc).ownBlock = some g → w.heap.size + 1 < g)
    (hgrow : (w1.alloc T).grownBy w2 (Value.slice va vn vc).ownBlock) (hat : (Value.slice va vn vc).ownBlock = some g2 ∨ g2 = (w1.alloc T).heap.size + 1) :
    w2.heap[w.heap.size]? = some (.cells #[.int .i64 0, .int .i64 0] 29 (0, 0)) ∧ w2.heap[w1.heap.size]? = some T ∧ Sc (w.heap.size + 1) 90 w2 l i q ∧ Below w.heap.size w w2 ∧ w.heap.size + 1 < g2 ∧ Glob w2 ∧ w1.heap.size < w2.heap.size := by
  have hkeep : ∀ k, k ≤ w1.heap.size → k ≤ w.heap.size + 1 ∨ k = w1.heap.size → w2.heap[k]? = (w1.alloc T).heap[k]? := by
    intro k hk1 hk2
    refine hgrow.block k (by simp; omega) (fun e => ?_)
    have := hlo k e.symm
    rcases hk2 with h | h
    · omega
    · have := own_lt hown k e.symm
      omega
  have hs := hgrow.size
  rw [World.size_alloc] at hs
  refine ⟨(hkeep _ (by omega) (.inl (by omega))).trans (alloc_old hR), (hkeep _ (by omega) (.inr rfl)).trans (heap_alloc_new _ _), (hkeep _ (by omega) (.inl (by omega))).trans (alloc_old hsc), ?_, ?_, ?_, by omega⟩
  · exact ⟨hgrow.os.trans hb.os, hgrow.tape.trans hb.tape, hgrow.output.trans hb.output, by omega, fun k hk => (hkeep k (by omega) (.inl (by omega))).trans ((Below.heap_alloc _ _ _ (by omega)).trans (hb.block k hk))⟩
  · rcases hat with h | h
    · exact hlo g2 h
    · rw [h, World.size_alloc]; omega
  · exact hg.keep (fun k h1 h2 => (hkeep k (by omega) (by omega)).trans (Below.heap_alloc _ _ _ h2))

set_option maxRecDepth 100000 in
set_option maxHeartbeats 4000000 in
theorem scan_any (l : List UInt8) (w : World) (hl : l.length ≤ 99990) (hg : Glob w) (hw : 4 ≤ w.heap.size) :
    Calls Tryz.prog 15 #[.string ⟨l.toArray⟩] w (ScPost l w) := by
  have HG0 := hide hg
  clear hg
  go_enter Tryz.func15, Tryz.ntmps15
  go_wp2
  go_loopg [5] l.length (fun k v wr => ScRel l w k v wr)
  case atStart =>
    refine ⟨0, 1, [], none, 0, 0, rfl, by omega, by omega, by simp, ?_, HG0.out.below (Below.alloc (Below.alloc (Below.refl _ _) (Nat.le_refl _) _) (by simp) _), Below.alloc (Below.alloc (Below.refl _ _) (Nat.le_refl _) _) (by simp) _, alloc_old (heap_alloc_new _ _), World.ownsRow_nil _ _ _ _, by simp [Value.ownBlock], by simp [preT_nil]⟩
    have := heap_alloc_new (w.alloc (.cells #[.int .i64 0, .int .i64 0] 29)) (.cells #[.string ⟨l.toArray⟩, .int .i64 0, .int .i64 1] 90)
    simp only [World.size_alloc] at this
    exact this
  case round =>
    clear HG0
    obtain ⟨i, ln, acc, va, vn, vc, rfl, hik, hln, hacc, hsc, hgl, hbel, hR, hown, hlo, hlex⟩ := hrel
    have HSc := hide hsc
    have HG := hide hgl
    have HB := hide hbel
    have HR := hide hR
    have HOwn := hide hown
    have HLo := hide hlo
    have HLx := hide hlex
    have lsz := hbel.size
    have lsc := heap_lt hsc
    have HN := hide (next_any hsc hgl (by omega) (by omega) (by omega) hln)
    clear hsc hgl hbel hR hown hlo hlex
    go_wp2_with fail
    refine HN.out.mono ?_
    rintro e w1 ⟨ho1, ⟨x, hx, rfl, hsc1⟩ | ⟨hx, rfl, j, hsc1⟩⟩
    · obtain ⟨k1, k2, k3, k4, k5⟩ := nx_some (l.drop i) ln x hx
      rw [List.length_drop] at k2
      have hR1 := ho1.blk HR.out (by omega)
      have HB1 : Hid (Below w.heap.size w w1) := ⟨ho1.os.trans HB.out.os, ho1.tape.trans HB.out.tape, ho1.output.trans HB.out.output, Nat.le_trans HB.out.size ho1.size, fun k hk => (ho1.block k (by omega) (by omega)).trans (HB.out.block k hk)⟩
      have HG1 := hide (HG.out.only ho1 (by omega))
      have lw1 := ho1.size
      have hown1 : w1.ownsRow 0 93 4 (.slice va vn vc) acc.length (ctks acc) := own_same HOwn.out (fun k hk hl => ho1.block k hl (by have := HLo.out k hk; omega))
      have HR1 := hide hR1
      have HSc1 := hide hsc1
      have HLx1 : Hid (lex (l.length + 1) l 1 false = preT acc (if x.1.k = 0 then .inr [⟨0, ln + (nextP (l.drop i)).1, [], 0⟩] else preT [⟨x.1.k, ln + (nextP (l.drop i)).1, x.1.s, x.1.n⟩] (lex ((l.drop (i + x.2)).length + 1) (l.drop (i + x.2)) (ln + (nextP (l.drop i)).1) false))) := by
        show _ = _
        rw [HLx.out, k1, List.drop_drop]
      have HK3 := hide k3
      have HK4 := hide k4
      clear hx ho1 k1 hR1 hsc1 k3 k4 HLx HG HB HR HSc HN
      have hq2 : ln + (nextP (l.drop i)).1 ≤ i + x.2 + 1 := by omega
      generalize hq : ln + (nextP (l.drop i)).1 = q at *
      clear hq k5
      have HOwnA := hide (hown1.alloc (.cells #[.int .i64 (x.1.k : Nat), .int .i64 (q : Nat), .string ⟨x.1.s.toArray⟩, .int .i64 x.1.n] 93))
      clear hown1
      have HSA := hide (fun g2 w2 hgrow hat => scan_app (g2 := g2) (w2 := w2) (T := (.cells #[.int .i64 (x.1.k : Nat), .int .i64 (q : Nat), .string ⟨x.1.s.toArray⟩, .int .i64 x.1.n] 93)) hw lsc lw1 HR1.out HSc1.out HB1.out HG1.out HOwn.out HLo.out hgrow hat)
      by_cases hk0 : x.1.k = 0
      · have t0 : ((x.1.k : Int) == 0) = true := ke0 hk0
        have hx0 := HK3.out hk0
        have HE : Hid (lex (l.length + 1) l 1 false = .inr (acc ++ [⟨0, q, [], 0⟩])) := by
          show _ = _
          rw [HLx1.out, if_pos hk0]; rfl
        have HCs : Hid (#[Value.int .i64 (x.1.k : Nat), .int .i64 (q : Nat), .string ⟨x.1.s.toArray⟩, .int .i64 x.1.n].toList = ctks [⟨0, q, [], 0⟩]) := by
          show _ = _
          rw [hx0]; rfl
        clear hx0 hk0
        go_wp2_with (at_builtin; refine wpl_app (w1.alloc (.cells #[.int .i64 (x.1.k : Nat), .int .i64 (q : Nat), .string ⟨x.1.s.toArray⟩, .int .i64 x.1.n] 93)) #[.int .i64 (x.1.k : Nat), .int .i64 (q : Nat), .string ⟨x.1.s.toArray⟩, .int .i64 x.1.n] 93 rfl (.tmp 23) (.tmp 25) 68 rfl 0 4 40 (.agg #[.int .i64 0, .int .i64 0, .string ⟨#[]⟩, .int .i64 0]) Tryz.underlying68 infoTokC rfl (by omega) _ _ _ rfl (by simp; rfl) HOwnA.out rfl (fun u hu => by simp at hu; rcases hu with rfl | rfl | rfl | rfl <;> rfl) (by omega) (by omega) (Nat.zero_le _) ?_; intro g2 cap2 w2 hown2 hgrow2 hat2 hg2; obtain ⟨hR2, hT2, hsc2, hb2, hlo2, hgl2, hsz2⟩ := HSA.out g2 w2 hgrow2 hat2; obtain ⟨z0, z1, fz, lz⟩ := blk2 hR2; obtain ⟨y0, y1, y2, y3, fy, ly⟩ := blk4 hT2; have HR2 := hide hR2; have HSc2 := hide hsc2; have HB2 := hide hb2; have HLo2 := hide hlo2; have HG2 := hide hgl2; have HOwn2 := hide hown2; clear hR2 hT2 hsc2 hb2 hlo2 hgl2 hown2 hgrow2 hat2)
        refine bodyPost_ret (v := .tuple #[.slice (some ⟨g2, 0, none⟩) (acc.length + 1) cap2, .agg #[.int .i64 0, .int .i64 0]]) (by simp [results, Tryz.results15, go_sem, z0, z1]) rfl ?_
        refine ⟨?_, .inr ⟨_, some ⟨g2, 0, none⟩, acc.length + 1, cap2, HE.out, rfl, ?_, ?_⟩⟩
        · repeat (first | exact HB2.out | refine Below.alloc ?_ (by simp [World.setCell]; omega) _ | refine Below.setCell ?_ (by simp) _ | refine Below.drew ?_)
        · have h1 := HOwn2.out
          rw [HCs.out, ← ctks_app] at h1
          rw [List.length_append]
          have hg : w.heap.size + 1 < g2 := HLo2.out
          exact own_same h1 (fun k hk _ => by simp only [Value.ownBlock, Option.some.injEq] at hk; rw [Below.heap_setCell _ _ _ _ (by show k ≠ w.heap.size; omega), Below.heap_setCell _ _ _ _ (by show k ≠ w.heap.size; omega)])
        · intro g e
          simp only [Value.ownBlock, Option.some.injEq] at e
          have hg : w.heap.size + 1 < g2 := HLo2.out
          omega
      · have t0 : ((x.1.k : Int) == 0) = false := kn0 hk0
        have HE : Hid (lex (l.length + 1) l 1 false = preT (acc ++ [⟨x.1.k, q, x.1.s, x.1.n⟩]) (lex ((l.drop (i + x.2)).length + 1) (l.drop (i + x.2)) q false)) := by
          show _ = _
          rw [HLx1.out, if_neg hk0, preT_app]
        have hk4 := HK4.out hk0
        clear hk0
        go_wp2_with (at_builtin; refine wpl_app (w1.alloc (.cells #[.int .i64 (x.1.k : Nat), .int .i64 (q : Nat), .string ⟨x.1.s.toArray⟩, .int .i64 x.1.n] 93)) #[.int .i64 (x.1.k : Nat), .int .i64 (q : Nat), .string ⟨x.1.s.toArray⟩, .int .i64 x.1.n] 93 rfl (.tmp 23) (.tmp 25) 68 rfl 0 4 40 (.agg #[.int .i64 0, .int .i64 0, .string ⟨#[]⟩, .int .i64 0]) Tryz.underlying68 infoTokC rfl (by omega) _ _ _ rfl (by simp; rfl) HOwnA.out rfl (fun u hu => by simp at hu; rcases hu with rfl | rfl | rfl | rfl <;> rfl) (by omega) (by omega) (Nat.zero_le _) ?_; intro g2 cap2 w2 hown2 hgrow2 hat2 hg2; obtain ⟨hR2, hT2, hsc2, hb2, hlo2, hgl2, hsz2⟩ := HSA.out g2 w2 hgrow2 hat2; obtain ⟨z0, z1, fz, lz⟩ := blk2 hR2; obtain ⟨y0, y1, y2, y3, fy, ly⟩ := blk4 hT2; have HR2 := hide hR2; have HSc2 := hide hsc2; have HB2 := hide hb2; have HLo2 := hide hlo2; have HG2 := hide hgl2; have HOwn2 := hide hown2; clear hR2 hT2 hsc2 hb2 hlo2 hgl2 hown2 hgrow2 hat2)
        go_roundg (gk - x.2)
        case measure => omega
        case rel =>
          refine ⟨i + x.2, q, acc ++ [⟨x.1.k, q, x.1.s, x.1.n⟩], some ⟨g2, 0, none⟩, acc.length + 1, cap2, rfl, by omega, by omega, by simp; omega, HSc2.out, HG2.out, HB2.out, HR2.out, ?_, ?_, HE.out⟩
          · have := HOwn2.out
            rw [ctks_app, List.length_append]
            exact this
          · intro g e
            simp only [Value.ownBlock, Option.some.injEq] at e
            rw [← e]; exact HLo2.out
    · have HE : Hid (lex (l.length + 1) l 1 false = .inl (ln + (nextP (l.drop i)).1)) := by
        show _ = _
        rw [HLx.out, nx_none _ _ hx]; rfl
      have hR1 := ho1.blk HR.out (by omega)
      obtain ⟨z0, z1, fz, lz⟩ := blk2 hR1
      obtain ⟨c0, c1, c2, fc, lc⟩ := hsc1.cells
      have HB1 : Hid (Below w.heap.size w w1) := ⟨ho1.os.trans HB.out.os, ho1.tape.trans HB.out.tape, ho1.output.trans HB.out.output, Nat.le_trans HB.out.size ho1.size, fun k hk => (ho1.block k (by omega) (by omega)).trans (HB.out.block k hk)⟩
      have lw1 := ho1.size
      clear ho1 hx hR1 hsc1
      generalize hq : ln + (nextP (l.drop i)).1 = q at *
      clear hq
      go_wp2
      go_region
      all_goals go_wp2
      all_goals refine bodyPost_ret (v := .tuple #[.slice none 0 0, .agg #[.int .i64 2, .int .i64 (q : Nat)]]) (by simp [results, Tryz.results15, go_sem, z0, z1, lz]) rfl ?_
      all_goals refine ⟨?_, .inl ⟨q, HE.out, rfl⟩⟩
      all_goals repeat (first | exact HB1.out | refine Below.alloc ?_ (by simp [World.setCell]; omega) _ | refine Below.setCell ?_ (by simp) _ | refine Below.drew ?_)
end Go.Proofs.YtgccmgjbbcndbaaGreatDoor
/- Walk of gambit.readText. -/
namespace Go.Proofs.YtgccmgjbbcndbaaGreatDoor
open Go.RowKit
open Go.Deep (BT)

def RtPost (l : List UInt8) (w : World) (e : Ending) (w' : World) : Prop :=
  Below w.heap.size w w' ∧ (((compileP l).1.1 ≠ 0 ∧ e = .returned (.tuple #[.pointer none, .agg #[.int .i64 ((compileP l).1.1 : Nat), .int .i64 ((compileP l).1.2 : Nat)]])) ∨
    ∃ c pb va vn vc cs, compileP l = ((0, 0), fnsOf c) ∧ e = .returned (.tuple #[.pointer (some ⟨pb, 0, none⟩), .agg #[.int .i64 0, .int .i64 0]]) ∧ w.heap.size ≤ pb ∧ w'.heap[pb]? = some (.cells #[.slice va vn vc] 74 (0, 0)) ∧
      OwnsD (fun g => w.heap.size ≤ g) w' 76 1 (.slice va vn vc) cs.length cs ∧ RepC (fun g => w.heap.size ≤ g) w' c cs ∧ Wf 4 c ∧ bsize c ≤ 4002)

theorem ctoks_of {ts : List Tk} (h1 : ts.length ≤ 2001) (h2 : LexOk 1 2000 ts) : CToks ts :=
  ⟨by omega, LexOk.last _ h2, fun x hx => by have := LexOk.mem _ h2 x hx; exact ⟨this.1, by omega, this.2.2⟩⟩

theorem dec_gt {n : Nat} (h : 2000 < n) : decide (2000 < (n : Int)) = true := decide_eq_true (by omega)
theorem dec_ngt {n : Nat} (h : ¬ 2000 < n) : decide (2000 < (n : Int)) = false := decide_eq_false (by omega)

set_option maxRecDepth 100000 in
set_option maxHeartbeats 600000 in
theorem readText_any (l : List UInt8) (w : World) (hg : Glob w) (hw : 4 ≤ w.heap.size) :
    Calls Tryz.prog 9 #[.string ⟨l.toArray⟩] w (RtPost l w) := by
  by_cases hlong : 2000 < l.length
  · have t := dec_gt hlong
    have HE : Hid (compileP l = ((1, 0), [])) := if_pos hlong
    clear hlong
    go_enter Tryz.func9, Tryz.ntmps9
    go_wp2
    refine bodyPost_ret (v := .tuple #[.pointer none, .agg #[.int .i64 1, .int .i64 0]]) (by simp [results, Tryz.results9, go_sem]) rfl ?_
    refine ⟨Below.alloc (Below.refl _ _) (Nat.le_refl _) _, .inl ?_⟩
    rw [HE.out]
    exact ⟨by simp, rfl⟩
  · have t := dec_ngt hlong
    have HG := hide hg
    have HLong := hide hlong
    have hl : l.length ≤ 2000 := by omega
    have HSc := hide (scan_any l (w.alloc (.cells #[.int .i64 0, .int .i64 0] 29)) (by omega) (hg.below (Below.alloc (Below.refl _ _) (Nat.le_refl _) _)) (by simp; omega))
    have HTf := hide (text_fit l hl)
    clear hg hlong
    go_enter Tryz.func9, Tryz.ntmps9
    go_wp2_with fail
    refine HSc.out.mono ?_
    rintro e w1 ⟨hb1, ⟨n, hn, rfl⟩ | ⟨ts, va, vn, vc, hn, rfl, hown, hlo⟩⟩
    · have hR := bblk hb1 (heap_alloc_new w (.cells #[.int .i64 0, .int .i64 0] 29))
      obtain ⟨x0, x1, fx, lx⟩ := blk2p hR
      have HB1 : Hid (Below w.heap.size w w1) := Below.trans (Below.alloc (Below.refl _ _) (Nat.le_refl _) _) (hb1.mono (by simp))
      have HE : Hid (compileP l = ((2, n), [])) := by
        show compileP l = _
        unfold compileP
        rw [if_neg HLong.out, hn]
      clear hR hb1 hn HTf HSc
      go_wp2
      go_region
      all_goals go_wp2
      all_goals refine bodyPost_ret (v := .tuple #[.pointer none, .agg #[.int .i64 2, .int .i64 (n : Nat)]]) (by simp [results, Tryz.results9, go_sem, x0, x1, lx]) rfl ?_
      all_goals refine ⟨?_, .inl (by rw [HE.out]; exact ⟨by simp, rfl⟩)⟩
      all_goals repeat (first | exact HB1.out | refine Below.alloc ?_ (by simp [World.setCell]; omega) _ | refine Below.setCell ?_ (by simp) _ | refine Below.drew ?_)
    · have hR := bblk hb1 (heap_alloc_new w (.cells #[.int .i64 0, .int .i64 0] 29))
      have HB1 : Hid (Below w.heap.size w w1) := Below.trans (Below.alloc (Below.refl _ _) (Nat.le_refl _) _) (hb1.mono (by simp))
      have hfit : ts.length ≤ 2001 ∧ LexOk 1 2000 ts := by
        rcases HTf.out with ⟨n, h1, _⟩ | ⟨ts', h1, h2, h3⟩
        · rw [hn] at h1; cases h1
        · rw [hn] at h1; cases h1; exact ⟨h2, h3⟩
      obtain ⟨hf1, hf2⟩ := hfit
      have hpos := hf2.pos
      obtain ⟨r, hr, hkd, hsane⟩ := prog_fit hf2 hf1
      have HWf := hide (wf_prog _ _ _ _ (show Wf 4 .nil from trivial) hr)
      have hcp : compileP l = (if r.2.bad ≠ 0 then ((2, r.2.bad), []) else if nest ts 0 ≠ 0 then ((1, nest ts 0), []) else if (sensT (fnsOf r.1) r.1 [] [] (0, 0)).1 ≠ 0 then (sensT (fnsOf r.1) r.1 [] [] (0, 0), []) else ((0, 0), fnsOf r.1)) := by
        unfold compileP
        rw [if_neg HLong.out, hn]
        simp only []
        rw [hr]
      obtain ⟨g, cap, cur, hv, hg1, hg2, hg3, hg4⟩ := own_slice hown (by omega)
      injection hv with e1 e2 e3
      subst e1; subst e2; subst e3
      have HRow : Hid (CRow g vc ts (w1.alloc (.cells #[.int .i64 0, .int .i64 0] 29))) := ⟨ctoks_of hf1 hf2, ⟨cur, alloc_old hg2, hg4⟩, hg3⟩
      have HPa := hide (pProgram_any (by decide) _ r HRow.out hpos hr)
      have HCp := hide hcp
      have HSane := hide hsane
      have HR := hide hR
      have ls1 := hb1.size
      rw [World.size_alloc] at ls1
      have HNt := hide hn
      clear hR hb1 hn HTf HSc hr hcp hsane hown hlo hkd hg1 hg2 hg3 hg4 HRow hf1 hf2
      go_wp2_with fail
      refine HPa.out.mono ?_
      rintro e w2 ⟨hb2, ⟨hbad, rfl⟩ | ⟨hbad, hnest, rfl⟩ | ⟨hbad, hnest, pb, pa, pn, pc, cs, rfl, hpb1, hpb2, hpo, hrep⟩⟩
      · have hR2 := bblk hb2 (alloc_old HR.out)
        have hF2 := bblk hb2 (heap_alloc_new w1 (.cells #[.int .i64 0, .int .i64 0] 29))
        have HB2 : Hid (Below w.heap.size w w2) := HB1.out.trans (Below.trans (Below.alloc (Below.refl _ _) (by omega) _) (hb2.mono (by simp; omega)))
        have ls2 := hb2.size
        rw [World.size_alloc] at ls2
        obtain ⟨x0, x1, fx, lx⟩ := blk2p hR2
        obtain ⟨y0, y1, fy, ly⟩ := blk2p hF2
        have HE : Hid (compileP l = ((2, r.2.bad), [])) := HCp.out.trans (if_pos hbad)
        clear hR2 hF2 hb2 hbad HPa
        go_wp2
        go_region
        all_goals go_wp2
        all_goals refine bodyPost_ret (v := .tuple #[.pointer none, .agg #[.int .i64 2, .int .i64 (r.2.bad : Nat)]]) (by simp [results, Tryz.results9, go_sem, x0, x1]) rfl ?_
        all_goals refine ⟨?_, .inl (by rw [HE.out]; exact ⟨by simp, rfl⟩)⟩
        all_goals repeat (first | exact HB2.out | refine Below.alloc ?_ (by simp [World.setCell]; omega) _ | refine Below.setCell ?_ (by simp; omega) _ | refine Below.setCell ?_ (by simp) _ | refine Below.drew ?_)
      · have hR2 := bblk hb2 (alloc_old HR.out)
        have hF2 := bblk hb2 (heap_alloc_new w1 (.cells #[.int .i64 0, .int .i64 0] 29))
        have HB2 : Hid (Below w.heap.size w w2) := HB1.out.trans (Below.trans (Below.alloc (Below.refl _ _) (by omega) _) (hb2.mono (by simp; omega)))
        have ls2 := hb2.size
        rw [World.size_alloc] at ls2
        obtain ⟨x0, x1, fx, lx⟩ := blk2p hR2
        obtain ⟨y0, y1, fy, ly⟩ := blk2p hF2
        have HE : Hid (compileP l = ((1, nest ts 0), [])) := HCp.out.trans ((if_neg (by omega)).trans (if_pos hnest))
        clear hR2 hF2 hb2 hbad hnest HPa
        generalize hdd : nest ts 0 = dd at *
        clear hdd
        go_wp2
        go_region
        all_goals go_wp2
        all_goals refine bodyPost_ret (v := .tuple #[.pointer none, .agg #[.int .i64 1, .int .i64 (dd : Nat)]]) (by simp [results, Tryz.results9, go_sem, x0, x1]) rfl ?_
        all_goals refine ⟨?_, .inl (by rw [HE.out]; exact ⟨by simp, rfl⟩)⟩
        all_goals repeat (first | exact HB2.out | refine Below.alloc ?_ (by simp [World.setCell]; omega) _ | refine Below.setCell ?_ (by simp; omega) _ | refine Below.setCell ?_ (by simp) _ | refine Below.drew ?_)
      · have hR2 := bblk hb2 (alloc_old HR.out)
        have hF2 := bblk hb2 (heap_alloc_new w1 (.cells #[.int .i64 0, .int .i64 0] 29))
        have HB2 : Hid (Below w.heap.size w w2) := HB1.out.trans (Below.trans (Below.alloc (Below.refl _ _) (by omega) _) (hb2.mono (by simp; omega)))
        have ls2 := hb2.size
        rw [World.size_alloc] at ls2
        obtain ⟨x0, x1, fx, lx⟩ := blk2p hR2
        obtain ⟨y0, y1, fy, ly⟩ := blk2p hF2
        have hD2 : ∀ g, w1.heap.size < g → g < w2.heap.size → ((w2.setCell ⟨w1.heap.size, 0, none⟩ (.int .i64 0)).setCell ⟨w1.heap.size, 1, none⟩ (.int .i64 0)).heap[g]? = w2.heap[g]? := by
          intro g h1 h2
          rw [Below.heap_setCell _ _ _ _ (by show g ≠ w1.heap.size; omega), Below.heap_setCell _ _ _ _ (by show g ≠ w1.heap.size; omega)]
        have hk2 : ∀ g, (w1.alloc (.cells #[.int .i64 0, .int .i64 0] 29)).heap.size ≤ g → g < w2.heap.size → ((w2.setCell ⟨w1.heap.size, 0, none⟩ (.int .i64 0)).setCell ⟨w1.heap.size, 1, none⟩ (.int .i64 0)).heap[g]? = w2.heap[g]? ∧ w.heap.size < g := fun g h1 h2 => ⟨hD2 g (by simp at h1; omega) h2, by simp at h1; omega⟩
        have lpb := heap_lt hpb2
        have hpb3 := (hD2 pb (by simp at hpb1; omega) lpb).trans hpb2
        have hpo3 := hpo.keep hk2
        have hrep3 := RepC.keep hk2 _ _ hrep
        have hR3 : ((w2.setCell ⟨w1.heap.size, 0, none⟩ (.int .i64 0)).setCell ⟨w1.heap.size, 1, none⟩ (.int .i64 0)).heap[w.heap.size]? = _ := set_old (set_old hR2 (by show w.heap.size ≠ w1.heap.size; omega)) (by show w.heap.size ≠ w1.heap.size; omega)
        have hB3 : Below w.heap.size w ((w2.setCell ⟨w1.heap.size, 0, none⟩ (.int .i64 0)).setCell ⟨w1.heap.size, 1, none⟩ (.int .i64 0)) := Below.setCell (Below.setCell HB2.out (by show w.heap.size ≤ w1.heap.size; omega) _) (by show w.heap.size ≤ w1.heap.size; omega) _
        have hpb1' : w.heap.size < pb := by simp at hpb1; omega
        have HCp2 : Hid (compileP l = if (sensT (fnsOf r.1) r.1 [] [] (0, 0)).1 ≠ 0 then (sensT (fnsOf r.1) r.1 [] [] (0, 0), []) else ((0, 0), fnsOf r.1)) := HCp.out.trans ((if_neg (by omega)).trans (if_neg (by omega)))
        have hbs := (HSane.out hbad).2.2
        clear hb2 hR2 hD2 hk2 hpo hrep hpb2 hF2 hpb1 lpb hnest hbad HPa
        go_wp2_with fail
        generalize (w2.setCell ⟨w1.heap.size, 0, none⟩ (.int .i64 0)).setCell ⟨w1.heap.size, 1, none⟩ (.int .i64 0) = w3 at *
        clear x0 x1 fx lx y0 y1 fy ly HB2 ls2
        have ls3 := hB3.size
        refine (cProgram_any r.1 HWf.out _ w3 pb pa pn pc cs hpb3 hpo3 hrep3 (by omega)).mono ?_
        rintro e w4 ⟨rfl, hb4⟩
        have hR4 := bblk hb4 hR3
        have HB4 : Hid (Below w.heap.size w w4) := hB3.trans (hb4.mono ls3)
        have hk4 : ∀ g, w.heap.size < g → g < w3.heap.size → w4.heap[g]? = w3.heap[g]? ∧ w.heap.size < g := fun g h1 h2 => ⟨hb4.block g h2, h1⟩
        have HPo := hide (hpo3.keep hk4)
        have HRep := hide (RepC.keep hk4 _ _ hrep3)
        have HPb := hide (bblk hb4 hpb3)
        have ls4 := hb4.size
        obtain ⟨x0, x1, fx, lx⟩ := blk2p hR4
        have HR4 := hide hR4
        clear hR4 hk4 hb4 hpo3 hrep3 hpb3 hB3 hR3
        by_cases hs : (sensT (fnsOf r.1) r.1 [] [] (0, 0)).1 = 0
        · rw [hs]
          have HE : Hid (compileP l = ((0, 0), fnsOf r.1)) := HCp2.out.trans (if_neg (by omega))
          clear hs
          generalize hfl : (sensT (fnsOf r.1) r.1 [] [] (0, 0)).2 = fl at *
          clear hfl
          go_wp2
          refine bodyPost_ret (v := .tuple #[.pointer (some ⟨pb, 0, none⟩), .agg #[.int .i64 0, .int .i64 0]]) (by simp [results, Tryz.results9, go_sem, x0, x1, lx]) rfl ?_
          have hk5 : ∀ g, w.heap.size < g → g < w4.heap.size → (((w4.setCell ⟨w.heap.size, 0, none⟩ (.int .i64 0)).setCell ⟨w.heap.size, 1, none⟩ (.int .i64 0)).alloc (.cells #[.int .i64 0, .int .i64 (fl : Nat)] 29)).heap[g]? = w4.heap[g]? ∧ w.heap.size ≤ g := by
            intro g h1 h2
            rw [Below.heap_alloc _ _ _ (by simp [World.setCell]; omega), Below.heap_setCell _ _ _ _ (by show g ≠ w.heap.size; omega), Below.heap_setCell _ _ _ _ (by show g ≠ w.heap.size; omega)]
            exact ⟨rfl, by omega⟩
          refine ⟨?_, .inr ⟨r.1, pb, pa, pn, pc, cs, HE.out, rfl, by omega, (hk5 pb hpb1' (heap_lt HPb.out)).1.trans HPb.out, HPo.out.keep hk5, RepC.keep hk5 _ _ HRep.out, HWf.out, hbs⟩⟩
          repeat (first | exact HB4.out | refine Below.alloc ?_ (by simp [World.setCell]; omega) _ | refine Below.setCell ?_ (by simp; omega) _ | refine Below.setCell ?_ (by simp) _ | refine Below.drew ?_)
        · have HE : Hid (compileP l = (sensT (fnsOf r.1) r.1 [] [] (0, 0), [])) := HCp2.out.trans (if_pos hs)
          generalize hfl : sensT (fnsOf r.1) r.1 [] [] (0, 0) = fl at *
          have t4 : ((fl.1 : Int) == 0) = false := kn0 hs
          have HS := hide hs
          clear hs hfl
          go_wp2
          go_region
          all_goals go_wp2
          all_goals refine bodyPost_ret (v := .tuple #[.pointer none, .agg #[.int .i64 (fl.1 : Nat), .int .i64 (fl.2 : Nat)]]) (by simp [results, Tryz.results9, go_sem, x0, x1, lx]) rfl ?_
          all_goals refine ⟨?_, .inl (by rw [HE.out]; exact ⟨HS.out, rfl⟩)⟩
          all_goals repeat (first | exact HB4.out | refine Below.alloc ?_ (by simp [World.setCell]; omega) _ | refine Below.setCell ?_ (by simp; omega) _ | refine Below.setCell ?_ (by simp) _ | refine Below.drew ?_)
end Go.Proofs.YtgccmgjbbcndbaaGreatDoor
