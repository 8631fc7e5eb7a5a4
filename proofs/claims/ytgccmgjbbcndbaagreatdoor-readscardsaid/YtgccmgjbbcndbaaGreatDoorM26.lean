import Derived.Test.YtgccmgjbbcndbaaGreatDoorM25
import Derived.Test.YtgccmgjbbcndbaaGreatDoorM13
/- Walk of function. -/
namespace Go.Proofs.YtgccmgjbbcndbaaGreatDoor
open Go.RowKit
open Go.Deep (BT)

/- what holds at the head of the loop over the parameters: X is the block of the node -/
def PRel (b tb cap te : Nat) (xs : List (Tk × List UInt8)) (n X : Nat) (ln : Int) (S : List UInt8) (p : List (Nat × List UInt8) × PS) (w : World) (k : Nat) (d : Value) (wr : World) : Prop :=
  ∃ (acc : List (Nat × List UInt8)) (st : PS) (pa : Option Addr) (pn pc : Nat) (ys : List (Tk × List UInt8)) (dn : Bool), d = .bool dn ∧ k ≤ n ∧
    (dn = true → p = (acc, st)) ∧ (dn = false → prms k acc st = some p) ∧
    RS b tb cap te xs wr st ∧ Only b w wr ∧ ys.length + k ≤ n + 1 ∧
    wr.heap[w.heap.size]? = some (.cells #[.string ⟨#[]⟩, .int .i64 0, .string ⟨#[]⟩, .int .i64 0, .slice none 0 0, .slice none 0 0] 41) ∧
    wr.heap[X]? = some (.cells #[.string ⟨#[102, 110]⟩, .int .i64 ln, .string ⟨S.toArray⟩, .int .i64 0, .slice none 0 0, .slice pa pn pc] 41) ∧
    wr.ownsRow 0 79 4 (.slice pa pn pc) ys.length (tkCs ys) ∧ (∀ g, (Value.slice pa pn pc).ownBlock = some g → X < g) ∧
    (st.bad = 0 → ys.map (fun x => (x.1.line, x.2)) = acc)

theorem prms_more {n : Nat} {acc : List (Nat × List UInt8)} {s : PS} {r : List (Nat × List UInt8) × PS} (hk : kT (wantS 1 s) = 24) (h : prms (n + 1) acc s = some r) : prms n (acc ++ [((hdT s).line, (hdT s).s)]) (takeS (wantS 1 s)) = some r := by
  rw [prms, if_pos hk] at h; exact h
theorem prms_last {n : Nat} {acc : List (Nat × List UInt8)} {s : PS} {r : List (Nat × List UInt8) × PS} (hk : kT (wantS 1 s) ≠ 24) (h : prms (n + 1) acc s = some r) : r = (acc ++ [((hdT s).line, (hdT s).s)], wantS 19 (wantS 1 s)) := by
  rw [prms, if_neg hk] at h; exact (Option.some.inj h).symm
theorem tkCs_snoc (ys : List (Tk × List UInt8)) (y : Tk × List UInt8) : tkCs (ys ++ [y]) = tkCs ys ++ tkC y := by simp [tkCs]

set_option maxRecDepth 100000 in
set_option maxHeartbeats 2000000 in
theorem func_any {b tb cap te : Nat} {xs : List (Tk × List UInt8)} {n : Nat} (ih : RefPars b tb cap te xs n) (hn : n ≤ 500000) (w : World) (s : PS) (r : BT Lab × PS) (hk : kT s = 4) (hs : RS b tb cap te xs w s) (hp : pars (n + 1) 11 0 .nil s = some r) :
    Calls Tryz.prog 21 #[.pointer (some ⟨b, 0, none⟩)] w (NodePost b tb cap te xs w r) := by
  obtain ⟨p, bl, hp1, hp2, hrr⟩ := pars_fn hp
  have HRR := hide hrr
  have HP1 := hide hp1
  have hu := hide (fun (w' : World) h => ih.block w' p.2 bl h hp2)
  have HST := hide (fun h1 h2 => pars_sticky (s := p.2) h1 h2 _ _ _ _ _ hp2)
  have HST2 := hide (fun h1 h2 => params_sticky (s := wantS 18 (wantS 1 (takeS s))) h1 h2 _ _ hp1)
  have HW4 : Hid (wantS 4 s = takeS s) := by
    show _ = _
    unfold wantS; rw [if_pos hk]
  obtain ⟨lb, lt, lne⟩ := hs.lt
  have HS := hide hs
  clear hp hp1 hp2 hrr ih hs hk
  go_enter Tryz.func21, Tryz.ntmps21
  go_wp2_with fail
  refine (must_rs (HS.out.alloc _) 4 (by omega) (by omega) [102, 110] rfl).mono ?_
  rintro e w1 ⟨rfl, hrs1, ho1⟩
  rw [HW4.out] at hrs1
  have HZ1 := hide (ho1.blk (heap_alloc_new w _) (by omega))
  have HO1 : Hid (Only b w w1) := ((Only.refl b w).alloc _).trans ho1
  have HRS1 := hide hrs1
  have lz1 := heap_lt HZ1.out
  clear hrs1 ho1
  go_wp2_with fail
  refine (name_rs HRS1.out).mono ?_
  rintro e w2 ⟨⟨S2, rfl, hS2⟩, hrs2, ho2⟩
  have HZ2 := hide (ho2.blk HZ1.out (by omega))
  have HO2 : Hid (Only b w w2) := HO1.out.trans ho2
  have HRS2 := hide hrs2
  have HS2 := hide hS2
  have lz2 := heap_lt HZ2.out
  clear hrs2 ho2 hS2
  go_wp2_with fail
  refine (must_rs ((HRS2.out.alloc _).alloc _) 18 (by omega) (by omega) [40] rfl).mono ?_
  rintro e w3 ⟨rfl, hrs3, ho3⟩
  have HZ3 := hide (ho3.blk (alloc_old (alloc_old HZ2.out)) (by omega))
  have HX3 := hide (ho3.blk (heap_alloc_new (w2.alloc _) _) (by simp; have := HRS2.out.lt.1; omega))
  have HO3 : Hid (Only b w w3) := ((HO2.out.alloc _).alloc _).trans ho3
  have hsz3 : w2.heap.size + 2 ≤ w3.heap.size := by have := ho3.size; simpa using this
  have HRS3 := hide hrs3
  clear hrs3 ho3
  go_wp2_with fail
  refine (may_rs HRS3.out 19 (by omega) (by omega) [41] rfl).mono ?_
  rintro e w4 ⟨rfl, hrs4, ho4⟩
  have HZ4 := hide (ho4.blk HZ3.out (by omega))
  have HX4 := hide (ho4.blk HX3.out (by simp; have := HRS2.out.lt.1; omega))
  have HO4 : Hid (Only b w w4) := HO3.out.trans ho4
  have hsz4 := ho4.size
  have HRS4 := hide hrs4
  clear hrs4 ho4
  have hbt := HRS2.out.lt
  have hX4 := HX4.out
  simp only [World.size_alloc] at hX4
  replace HX4 := hide hX4
  clear hX4 HX3 HZ3
  go_wp2
  go_loopg [5] n (fun k d wr => PRel b tb cap te xs n (w2.heap.size + 1) ((hdT (takeS s)).line : Nat) S2 p w k d wr)
  case atStart =>
    have hp := HP1.out
    unfold params at hp
    by_cases hk : kT (wantS 18 (wantS 1 (takeS s))) = 19
    · rw [if_pos hk] at hp
      refine ⟨[], takeS (wantS 18 (wantS 1 (takeS s))), none, 0, 0, [], true, by rw [hk]; simp, Nat.le_refl _, (fun _ => (Option.some.inj hp).symm), (fun h => by cases h), by rw [← mayS_eq hk]; exact HRS4.out, HO4.out, by simp, HZ4.out, HX4.out, World.ownsRow_nil _ _ _ _, (fun g hg => by simp [Value.ownBlock] at hg), (fun _ => rfl)⟩
    · rw [if_neg hk] at hp
      refine ⟨[], wantS 18 (wantS 1 (takeS s)), none, 0, 0, [], false, by simpa using hk, Nat.le_refl _, (fun h => by cases h), (fun _ => hp), by rw [← mayS_ne hk]; exact HRS4.out, HO4.out, by simp, HZ4.out, HX4.out, World.ownsRow_nil _ _ _ _, (fun g hg => by simp [Value.ownBlock] at hg), (fun _ => rfl)⟩
  case round =>
    clear HRS4 HO4 HZ4 HX4
    obtain ⟨acc, st, pa, pn, pc, ys, dn, rfl, hkn, hd1, hd0, hrs, hO, hcn, hZ, hX, hown, hlo, hacc⟩ := hrel
    have lX := heap_lt hX
    have HRS := hide hrs
    have HO := hide hO
    have HZ := hide hZ
    have HX := hide hX
    have HOwn := hide hown
    have HLo := hide hlo
    have HAcc := hide hacc
    have hsz := hO.size
    clear hO hZ hown hlo hacc
    cases dn
    · by_cases hbad : st.bad = 0
      · cases gk with
        | zero => exact absurd (hd0 rfl) (by rw [prms]; simp)
        | succ m =>
        have HY := hide (hd0 rfl)
        obtain ⟨cb, lbad⟩ := hrs.badCell
        rw [hbad] at cb
        have HB := hide hbad
        clear hd0 hd1 hrs hbad hX
        go_wp2_with fail
        refine (name_rs HRS.out).mono ?_
        rintro e w5 ⟨⟨S5, rfl, hS5⟩, hrs5, ho5⟩
        have HZ5 := hide (ho5.blk HZ.out (by omega))
        have hX5 := ho5.blk HX.out (by omega)
        obtain ⟨x0, x1, x2, x3, x4, x5, fX, lX5⟩ := blk6 hX5
        have HX5 := hide hX5
        have hne : (Value.slice pa pn pc).ownBlock ≠ some b := fun e => by have := HLo.out b e; omega
        have hown5 := (own_only HOwn.out ho5 hne).alloc (.cells (tkC (hdT st, S5)).toArray 79)
        have HO5 := hide ho5
        have HRS5 := hide hrs5
        have HS5 := hide hS5
        have hsz5 := ho5.size
        clear hS5 hrs5 ho5 hX5 hne cb
        go_wp2_with (at_builtin; refine wpl_app (w5.alloc (.cells (tkC (hdT st, S5)).toArray 79)) (tkC (hdT st, S5)).toArray 79 rfl (.tmp 33) (.tmp 35) 39 rfl 0 4 40 (.agg #[.int .u8 0, .string ⟨#[]⟩, .int .i64 0, .int .i64 0]) Tryz.underlying39 infoTok rfl (by omega) _ _ _ rfl (by simp; rfl) hown5 rfl tok_one (by omega) (by omega) (Nat.zero_le _) ?_; intro g cap1 w6 hown6 hgrow hat hg; replace hgrow : (w5.alloc (.cells (tkC (hdT st, S5)).toArray 79)).grownBy w6 (Value.slice pa pn pc).ownBlock := hgrow; replace hat : (Value.slice pa pn pc).ownBlock = some g ∨ g = (w5.alloc (.cells (tkC (hdT st, S5)).toArray 79)).heap.size + 1 := hat; have hX6 := (hgrow.block _ (heap_lt (alloc_old HX5.out)) (fun e => by have := HLo.out _ e.symm; omega)).trans (alloc_old HX5.out); obtain ⟨p0, p1, p2, p3, p4, p5, f5, l5⟩ := blk6 hX6; have HX6 := hide hX6; clear hX6)
        have hrow : ∀ k, (Value.slice pa pn pc).ownBlock = some k → k ≠ b ∧ k ≠ tb ∧ w2.heap.size + 1 < k := fun k e => by have := HLo.out k e; omega
        have HG : Hid (w2.heap.size + 1 < g) := by
          rcases hat with h | h
          · exact (hrow g h).2.2
          · show _ < _
            rw [h]; simp; omega
        have HRS7 : Hid (RS b tb cap te xs (w6.setCell ⟨w2.heap.size + 1, 5, none⟩ (.slice (some ⟨g, 0, none⟩) (ys.length + 1) cap1)) (wantS 1 st)) := ((HRS5.out.alloc _).grown hgrow (fun e => (hrow b e).1 rfl) (fun e => (hrow tb e).2.1 rfl)).other (p := ⟨w2.heap.size + 1, 5, none⟩) (by show b ≠ w2.heap.size + 1; omega) (by show tb ≠ w2.heap.size + 1; omega) _
        have HO7 : Hid (Only b w (w6.setCell ⟨w2.heap.size + 1, 5, none⟩ (.slice (some ⟨g, 0, none⟩) (ys.length + 1) cap1))) := Only.set (p := ⟨w2.heap.size + 1, 5, none⟩) (((HO.out.trans HO5.out).alloc _).grown hgrow (fun k e => .inr (by have := (hrow k e).2.2; omega))) (.inr (by show w.heap.size ≤ w2.heap.size + 1; omega)) _
        have HZ7 := hide (set_old (p := ⟨w2.heap.size + 1, 5, none⟩) (u := .slice (some ⟨g, 0, none⟩) (ys.length + 1) cap1) ((hgrow.block _ (heap_lt (alloc_old HZ5.out)) (fun e => by have := (hrow _ e.symm).2.2; omega)).trans (alloc_old HZ5.out)) (by show w.heap.size ≠ w2.heap.size + 1; omega))
        have hX7 := heap_set (j := 5) HX6.out (.slice (some ⟨g, 0, none⟩) (ys.length + 1) cap1)
        simp only [List.setIfInBounds_toArray, List.set_cons_zero, List.set_cons_succ] at hX7
        have HX7 := hide hX7
        have HOwn7 : Hid ((w6.setCell ⟨w2.heap.size + 1, 5, none⟩ (.slice (some ⟨g, 0, none⟩) (ys.length + 1) cap1)).ownsRow 0 79 4 (.slice (some ⟨g, 0, none⟩) (ys.length + 1) cap1) (ys ++ [(hdT st, S5)]).length (tkCs (ys ++ [(hdT st, S5)]))) := by
          refine own_same ?_ (fun k hk _ => Below.heap_setCell _ _ _ _ (by simp only [Value.ownBlock, Option.some.injEq] at hk; have := HG.out; show k ≠ w2.heap.size + 1; omega))
          rw [tkCs_snoc]; simpa using hown6
        have HAcc7 : Hid ((wantS 1 st).bad = 0 → (ys ++ [(hdT st, S5)]).map (fun x => (x.1.line, x.2)) = acc ++ [((hdT st).line, (hdT st).s)]) := by
          intro hb
          have hn1 := HRS.out.wantName hb
          rw [List.map_append, HAcc.out HB.out]
          have : S5 = (hdT st).s := (HS5.out (by show kT st ≠ 2; omega)).trans (by unfold refS; rw [if_pos (.inl hn1)])
          rw [this]; rfl
        clear hown6 hgrow hat hg hX7 p0 p1 p2 p3 p4 p5 f5 x0 x1 x2 x3 x4 x5 fX hown5 hrow
        generalize w6.setCell ⟨w2.heap.size + 1, 5, none⟩ (.slice (some ⟨g, 0, none⟩) (ys.length + 1) cap1) = W7 at *
        by_cases h24 : kT (wantS 1 st) = 24
        · have HM := hide (mayS_eq h24)
          have hk : (kT (wantS 1 st) == 24) = true := by rw [h24]; rfl
          have HY2 := hide (prms_more h24 HY.out)
          clear h24
          refine (may_rs HRS7.out 24 (by omega) (by omega) [44] rfl).mono ?_
          rintro e w9 ⟨rfl, hrs9, ho9⟩
          rw [hk]
          rw [HM.out] at hrs9
          have HRS9 := hide hrs9
          have HO9 := hide ho9
          clear hrs9 ho9
          go_wp2
          go_roundg m
          case measure => omega
          case rel =>
            exact ⟨acc ++ [((hdT st).line, (hdT st).s)], takeS (wantS 1 st), some ⟨g, 0, none⟩, ys.length + 1, cap1, ys ++ [(hdT st, S5)], false, rfl, by omega, (fun h => by cases h), (fun _ => HY2.out), HRS9.out, HO7.out.trans HO9.out, by simp; omega, HO9.out.blk HZ7.out (by omega), HO9.out.blk HX7.out (by omega), own_only HOwn7.out HO9.out (by have := HG.out; simp only [Value.ownBlock, ne_eq, Option.some.injEq]; omega), (fun k hk => by simp only [Value.ownBlock, Option.some.injEq] at hk; rw [← hk]; exact HG.out), fun hb => HAcc7.out (by rw [take_bad] at hb; exact hb)⟩
        · have HM := hide (mayS_ne h24)
          have hk : (kT (wantS 1 st) == 24) = false := by simpa using h24
          have HY2 := hide (prms_last h24 HY.out)
          clear h24
          refine (may_rs HRS7.out 24 (by omega) (by omega) [44] rfl).mono ?_
          rintro e w9 ⟨rfl, hrs9, ho9⟩
          rw [hk]
          rw [HM.out] at hrs9
          have HRS9 := hide hrs9
          have HO9 := hide ho9
          clear hrs9 ho9
          go_wp2_with fail
          refine (must_rs HRS9.out 19 (by omega) (by omega) [41] rfl).mono ?_
          rintro e w10 ⟨rfl, hrs10, ho10⟩
          have HRS10 := hide hrs10
          have HO10 : Hid (Only b W7 w10) := HO9.out.trans ho10
          clear hrs10 ho10
          go_wp2
          go_roundg m
          case measure => omega
          case rel =>
            exact ⟨acc ++ [((hdT st).line, (hdT st).s)], wantS 19 (wantS 1 st), some ⟨g, 0, none⟩, ys.length + 1, cap1, ys ++ [(hdT st, S5)], true, rfl, by omega, (fun _ => HY2.out), (fun h => by cases h), HRS10.out, HO7.out.trans HO10.out, by simp; omega, HO10.out.blk HZ7.out (by omega), HO10.out.blk HX7.out (by omega), own_only HOwn7.out HO10.out (by have := HG.out; simp only [Value.ownBlock, ne_eq, Option.some.injEq]; omega), (fun k hk => by simp only [Value.ownBlock, Option.some.injEq] at hk; rw [← hk]; exact HG.out), fun hb => HAcc7.out (want_good hb)⟩
      · have e2 := prms_sticky (hrs.sticky hbad) hbad _ _ _ (hd0 rfl)
        obtain ⟨cb, lbad⟩ := hrs.badCell
        have hb0 : ((st.bad : Int) == 0) = false := by rw [beq_eq_false_iff_ne]; omega
        have HE := hide (And.intro e2 trivial)
        have HB := hide hbad
        clear e2 hd0 hd1 hrs hbad hX
        go_wp2_with fail
        refine (hu.out _ (by rw [HE.out.1]; exact HRS.out)).mono ?_
        rintro e w8 ⟨va, vn, vc, cn, cs, rfl, hown8, hcn8, hrs8, ho8, hrep8⟩
        have hZ8 := ho8.blk HZ.out (by omega)
        have hX8 := ho8.blk HX.out (by omega)
        obtain ⟨k0, k1, k2, k3, k4, k5, f1, l1⟩ := blk6 hZ8
        obtain ⟨x0, x1, x2, x3, x4, x5, fX, lX8⟩ := blk6 hX8
        have hne : (Value.slice pa pn pc).ownBlock ≠ some b := fun e => by have := HLo.out b e; omega
        have HOwnP : Hid (OwnsD (fun g => w.heap.size < g) (w8.setCell ⟨w2.heap.size + 1, 4, none⟩ (.slice va vn vc)) 79 4 (.slice pa pn pc) ys.length (tkCs ys)) :=
          ⟨own_same (own_only HOwn.out ho8 hne) (fun g hg _ => Below.heap_setCell _ _ _ _ (by have := HLo.out g hg; show g ≠ w2.heap.size + 1; omega)), fun g hg => by have := HLo.out g hg; omega⟩
        have HRS8 := hide hrs8
        have HO8 : Hid (Only b w w8) := HO.out.trans ho8
        have HOwn8 := hide hown8
        have HRep8 := hide hrep8
        clear hrs8 ho8 hown8 hrep8 hZ8 hX8 hne
        go_wp2
        refine bodyPost_ret (v := .agg #[.string ⟨#[102, 110]⟩, .int .i64 ((hdT (takeS s)).line : Nat), .string ⟨S2.toArray⟩, .int .i64 0, .slice va vn vc, .slice pa pn pc]) ?_ rfl ?_
        · simp [results, Tryz.results21, go_sem, k0, k1, k2, k3, k4, k5]
        rw [HRR.out]
        refine node_close (I := [102, 110]) (S := S2) lb lt (HRS8.out.other (p := ⟨w2.heap.size + 1, 4, none⟩) (by show b ≠ w2.heap.size + 1; omega) (by show tb ≠ w2.heap.size + 1; omega) _) (Only.set (p := ⟨w2.heap.size + 1, 4, none⟩) HO8.out (.inr (by show w.heap.size ≤ w2.heap.size + 1; omega)) _) (fun hb => ⟨rfl, ?_⟩)
        have hpb : p.2.bad = 0 := by
          rcases Nat.eq_zero_or_pos p.2.bad with h | h
          · exact h
          · exfalso
            have hne : p.2.bad ≠ 0 := by omega
            have hb' : bl.2.bad = 0 := hb
            rw [HST.out (by rw [HE.out.1] at hne ⊢; exact HRS.out.sticky hne) hne] at hb'
            omega
        rw [HE.out.1] at hpb
        exact absurd hpb HB.out
    · have HE := hide (And.intro (show p.2 = st by rw [hd1 rfl]) (show p.1 = acc by rw [hd1 rfl]))
      clear hd0 hd1 hrs hX
      go_wp2_with fail
      refine (hu.out _ (by rw [HE.out.1]; exact HRS.out)).mono ?_
      rintro e w8 ⟨va, vn, vc, cn, cs, rfl, hown8, hcn8, hrs8, ho8, hrep8⟩
      have hZ8 := ho8.blk HZ.out (by omega)
      have hX8 := ho8.blk HX.out (by omega)
      obtain ⟨k0, k1, k2, k3, k4, k5, f1, l1⟩ := blk6 hZ8
      obtain ⟨x0, x1, x2, x3, x4, x5, fX, lX8⟩ := blk6 hX8
      have hne : (Value.slice pa pn pc).ownBlock ≠ some b := fun e => by have := HLo.out b e; omega
      have HOwnP : Hid (OwnsD (fun g => w.heap.size < g) (w8.setCell ⟨w2.heap.size + 1, 4, none⟩ (.slice va vn vc)) 79 4 (.slice pa pn pc) ys.length (tkCs ys)) :=
        ⟨own_same (own_only HOwn.out ho8 hne) (fun g hg _ => Below.heap_setCell _ _ _ _ (by have := HLo.out g hg; show g ≠ w2.heap.size + 1; omega)), fun g hg => by have := HLo.out g hg; omega⟩
      have HRS8 := hide hrs8
      have HO8 : Hid (Only b w w8) := HO.out.trans ho8
      have HOwn8 := hide hown8
      have HRep8 := hide hrep8
      clear hrs8 ho8 hown8 hrep8 hZ8 hX8 hne
      go_wp2
      refine bodyPost_ret (v := .agg #[.string ⟨#[102, 110]⟩, .int .i64 ((hdT (takeS s)).line : Nat), .string ⟨S2.toArray⟩, .int .i64 0, .slice va vn vc, .slice pa pn pc]) ?_ rfl ?_
      · simp [results, Tryz.results21, go_sem, k0, k1, k2, k3, k4, k5]
      rw [HRR.out]
      refine node_close (I := [102, 110]) (S := S2) lb lt (HRS8.out.other (p := ⟨w2.heap.size + 1, 4, none⟩) (by show b ≠ w2.heap.size + 1; omega) (by show tb ≠ w2.heap.size + 1; omega) _) (Only.set (p := ⟨w2.heap.size + 1, 4, none⟩) HO8.out (.inr (by show w.heap.size ≤ w2.heap.size + 1; omega)) _) (fun hb => ⟨rfl, ?_⟩)
      have hpb : p.2.bad = 0 := by
        rcases Nat.eq_zero_or_pos p.2.bad with h | h
        · exact h
        · exfalso
          have hne : p.2.bad ≠ 0 := by omega
          have hb' : bl.2.bad = 0 := hb
          rw [HST.out (by rw [HE.out.1] at hne ⊢; exact HRS.out.sticky hne) hne] at hb'
          omega
      have hp0 : (wantS 18 (wantS 1 (takeS s))).bad = 0 := by
        rcases Nat.eq_zero_or_pos (wantS 18 (wantS 1 (takeS s))).bad with h | h
        · exact h
        · exfalso
          have hne : (wantS 18 (wantS 1 (takeS s))).bad ≠ 0 := by omega
          rw [HST2.out (HRS3.out.sticky hne) hne] at hpb
          omega
      have hname := HRS1.out.wantName (want_good hp0)
      have hS : S2 = (hdT (takeS s)).s := (HS2.out (by show kT (takeS s) ≠ 2; omega)).trans (by unfold refS; rw [if_pos (.inl hname)])
      have hr8 := HRep8.out hb
      have hkeep : ∀ k, wr.heap.size ≤ k → k < w8.heap.size → (w8.setCell ⟨w2.heap.size + 1, 4, none⟩ (.slice va vn vc)).heap[k]? = w8.heap[k]? ∧ w.heap.size < k := fun k hk hl =>
        ⟨Below.heap_setCell _ _ _ _ (by show k ≠ w2.heap.size + 1; omega), by omega⟩
      unfold nd
      rw [RepF, if_neg (by show (20 : Nat) ≠ 8; decide)]
      refine ⟨_, _, _, _, _, cs, [], ⟨_, _, _, _, _, _, rfl, rfl⟩, rfl, (fun _ => rfl), (fun _ => hS), (fun h => absurd h (by show ¬ ((20 : Nat) = 1); decide)), (fun h => absurd h (by show ¬ ((20 : Nat) = 12); decide)), ?_, RepF.keep hkeep _ _ hr8.2, (fun _ => ⟨ys, HOwnP.out, ?_⟩), rfl⟩
      · rw [← hr8.1]; exact HOwn8.out.keep hkeep
      · rw [HE.out.1] at hpb
        show _ = p.1
        rw [HE.out.2]; exact HAcc.out hpb
end Go.Proofs.YtgccmgjbbcndbaaGreatDoor
/- Walk of Program. -/
namespace Go.Proofs.YtgccmgjbbcndbaaGreatDoor
open Go.RowKit
open Go.Deep (BT)

theorem pars_pend {n : Nat} {acc : BT Lab} {s : PS} {r : BT Lab × PS} (hk : kT s = 0) (h : pars (n + 1) 10 0 acc s = some r) : r = (acc, s) := by
  rw [pars, if_neg (by decide), if_neg (by decide), if_neg (by decide), if_neg (by decide), if_neg (by decide), if_neg (by decide), if_neg (by decide), if_neg (by decide), if_neg (by decide), if_neg (by decide), if_pos rfl, if_pos hk] at h
  exact (Option.some.inj h).symm
theorem pars_pfn {n : Nat} {acc : BT Lab} {s : PS} {r : BT Lab × PS} (hk : kT s = 4) (h : pars (n + 1) 10 0 acc s = some r) : ∃ x, pars n 11 0 .nil s = some x ∧ pars n 10 0 (bapp acc x.1) x.2 = some r := by
  rw [pars, if_neg (by decide), if_neg (by decide), if_neg (by decide), if_neg (by decide), if_neg (by decide), if_neg (by decide), if_neg (by decide), if_neg (by decide), if_neg (by decide), if_neg (by decide), if_pos rfl, if_neg (by omega), if_pos hk] at h
  exact bind_some h
theorem pars_pst {n : Nat} {acc : BT Lab} {s : PS} {r : BT Lab × PS} (hk0 : kT s ≠ 0) (hk : kT s ≠ 4) (h : pars (n + 1) 10 0 acc s = some r) : ∃ x, pars n 9 0 .nil s = some x ∧ pars n 10 0 (bapp acc x.1) x.2 = some r := by
  rw [pars, if_neg (by decide), if_neg (by decide), if_neg (by decide), if_neg (by decide), if_neg (by decide), if_neg (by decide), if_neg (by decide), if_neg (by decide), if_neg (by decide), if_neg (by decide), if_pos rfl, if_neg hk0, if_neg hk] at h
  exact bind_some h

def GRel (b tb cap te : Nat) (xs : List (Tk × List UInt8)) (n : Nat) (r : BT Lab × PS) (w : World) (k : Nat) (v : Value) (wr : World) : Prop :=
  ∃ (acc : BT Lab) (st : PS) (va : Option Addr) (vn vc cn : Nat) (cs : List Value), v = .slice va vn vc ∧ k ≤ n ∧ pars k 10 0 acc st = some r ∧
    RS b tb cap te xs wr st ∧ Only b w wr ∧ cn + k ≤ n + 1 ∧ wr.ownsRow 0 41 6 (.slice va vn vc) cn cs ∧ (∀ g, (Value.slice va vn vc).ownBlock = some g → w.heap.size ≤ g) ∧
    (st.bad = 0 → cn = blen acc ∧ RepF (fun g => w.heap.size ≤ g ∧ (Value.slice va vn vc).ownBlock ≠ some g) wr acc cs)

theorem refKind_n101 (k : Nat) (h : k ≤ 40) : (refKind k != 101) = (k != 0) := by
  revert h; revert k; decide +kernel

theorem tokField0 (k n l : Int) (S : List UInt8) (w : World) : (Instr.field 79 (.agg #[.int .u8 k, .string ⟨S.toArray⟩, .int .i64 n, .int .i64 l]) 0).run Tryz.prog w = .ok (.int .u8 k) w := by kernel_rfl

set_option maxRecDepth 100000 in
set_option maxHeartbeats 2000000 in
theorem prog_any {b tb cap te : Nat} {xs : List (Tk × List UInt8)} {n : Nat} (hn : n ≤ 500000) (w : World) (s : PS) (r : BT Lab × PS) (hs : RS b tb cap te xs w s) (hp : pars n 10 0 .nil s = some r) :
    Calls Tryz.prog 12 #[.pointer (some ⟨b, 0, none⟩)] w (ListPost b tb cap te xs w r) := by
  obtain ⟨lb, lt, lne⟩ := hs.lt
  have HS := hide hs
  have HP := hide hp
  clear hp hs
  go_enter Tryz.func12, Tryz.ntmps12
  go_wp2
  go_loopg [3] n (fun k v wr => GRel b tb cap te xs n r w k v wr)
  case atStart =>
    exact ⟨.nil, s, none, 0, 0, 0, [], rfl, Nat.le_refl _, HP.out, HS.out, Only.refl _ _, by omega, World.ownsRow_nil _ _ _ _, (fun g hg => by simp [Value.ownBlock] at hg), (fun _ => ⟨rfl, rfl⟩)⟩
  case round =>
    clear HP HS
    obtain ⟨acc, st, va, vn, vc, cn, cs, rfl, hkn, hp, hrs, hO, hcn, hown, hlo, hrep⟩ := hrel
    cases gk with
    | zero => exact absurd hp (pars_zero _ _ _ _ _)
    | succ m =>
    obtain ⟨cb, lbad⟩ := hrs.badCell
    have lbr : b < wr.heap.size := hrs.lt.1
    have hk40 : kT st ≤ 40 := by obtain ⟨pl, h⟩ := hrs; exact h.k40
    have hend := refKind_n101 _ hk40
    have hsz := hO.size
    have hfd := tokField0
    have HRS := hide hrs
    have HO := hide hO
    have HOwn := hide hown
    have HLo := hide hlo
    have HRep := hide hrep
    by_cases hbad : st.bad = 0
    · rw [hbad] at cb
      have HB := hide hbad
      by_cases h0 : kT st = 0
      · have HE := hide (pars_pend h0 hp)
        have t1 : (refKind (kT st) != 101) = false := by rw [hend, h0]; rfl
        clear hp hrs hO hown hlo hrep h0 hbad hend hk40
        go_wp2_with fail
        refine (peek_rs HRS.out).mono ?_
        rintro e w2 ⟨S2, rfl, hS2, hrs2, hb2⟩
        have HRS2 := hide hrs2
        have HB2 := hide hb2
        clear hS2 hrs2 hb2 cb
        go_wp2
        go_ret
        rw [HE.out]
        refine ⟨va, vn, vc, cn, cs, rfl, ⟨own_same HOwn.out (fun g _ hl => HB2.out.block g hl), HLo.out⟩, by omega, HRS2.out, HO.out.trans (Below.only HB2.out), fun h => ⟨(HRep.out HB.out).1, ?_⟩⟩
        exact RepF.keep (fun g hg hl => ⟨HB2.out.block g hl, hg.1⟩) _ _ (HRep.out HB.out).2
      · have t1 : (refKind (kT st) != 101) = true := by rw [hend]; simpa using h0
        by_cases h4 : kT st = 4
        · obtain ⟨y, hy1, hy2⟩ := pars_pfn h4 hp
          have hm0 : m ≠ 0 := by intro e; subst e; exact absurd hy1 (pars_zero _ _ _ _ _)
          obtain ⟨m', rfl⟩ : ∃ m', m = m' + 1 := ⟨m - 1, by omega⟩
          have hu := hide (fun (w' : World) (h : RS b tb cap te xs w' st) => func_any (refPars m' m' (Nat.le_refl _) (by omega)) (by omega) w' st y h4 h hy1)
          have hk : (kT st == 4) = true := by rw [h4]; rfl
          have HY := hide hy2
          clear hp hrs hO hown hlo hrep h0 h4 hbad hend hk40 hy1 hy2
          go_wp2_with fail
          refine (peek_rs HRS.out).mono ?_
          rintro e w1 ⟨S1, rfl, hS1, hrs1, hb1⟩
          have HRS1 := hide hrs1
          have HB1 := hide hb1
          clear hS1 hrs1 hb1 cb
          go_wp2_with fail
          refine (is_rs HRS1.out 4 (by omega) (by omega) [102, 110] rfl).mono ?_
          rintro e w2 ⟨rfl, hrs2, hb2⟩
          rw [hk]
          have HO2 : Hid (Only b wr w2) := (Below.only HB1.out).trans (Below.only hb2)
          have HRS2 := hide hrs2
          have hsz2 := HO2.out.size
          clear hrs2 hb2
          go_wp2_with fail
          refine (hu.out _ HRS2.out).mono ?_
          rintro e w4 ⟨I, S, ln, nn, va4, vn4, vc4, pa, pn, pc, rfl, hr4, ho4, hrep4⟩
          have hne : (Value.slice va vn vc).ownBlock ≠ some b := fun e => by have := HLo.out b e; omega
          have HO24 : Hid (Only b wr w4) := HO2.out.trans ho4
          have hown4 := (own_only HOwn.out HO24.out hne).alloc (.cells (ndC I S ln nn va4 vn4 vc4 pa pn pc) 41)
          have HR4 := hide hr4
          have HRep4 := hide hrep4
          clear hr4 ho4 hrep4 hne
          go_wp2_with (at_builtin; refine wpl_app (w4.alloc (.cells (ndC I S ln nn va4 vn4 vc4 pa pn pc) 41)) (ndC I S ln nn va4 vn4 vc4 pa pn pc) 41 rfl (.tmp 23) (.tmp 25) 36 rfl 0 6 96 (.agg #[.string ⟨#[]⟩, .int .i64 0, .string ⟨#[]⟩, .int .i64 0, .slice none 0 0, .slice none 0 0]) Tryz.underlying36 infoNode rfl (by omega) _ _ _ rfl (by simp; rfl) hown4 rfl nd_one (by omega) (by omega) (Nat.zero_le _) ?_; intro g cap1 w5 hown5 hgrow hat hg)
          replace hgrow : (w4.alloc (.cells (ndC I S ln nn va4 vn4 vc4 pa pn pc) 41)).grownBy w5 (Value.slice va vn vc).ownBlock := hgrow
          replace hat : (Value.slice va vn vc).ownBlock = some g ∨ g = (w4.alloc (.cells (ndC I S ln nn va4 vn4 vc4 pa pn pc) 41)).heap.size + 1 := hat
          have hrow : ∀ k, (Value.slice va vn vc).ownBlock = some k → k ≠ b ∧ k ≠ tb ∧ w.heap.size ≤ k := fun k e => by have := HLo.out k e; omega
          go_roundg (m' + 1)
          case measure => omega
          case rel =>
            have hs4 := HO24.out.size
            refine ⟨bapp acc y.1, y.2, some ⟨g, 0, none⟩, cn + 1, cap1, cn + 1, cs ++ (ndC I S ln nn va4 vn4 vc4 pa pn pc).toList, rfl, by omega, HY.out, (HR4.out.alloc _).grown hgrow (fun e => (hrow b e).1 rfl) (fun e => (hrow tb e).2.1 rfl), ((HO.out.trans HO24.out).alloc _).grown hgrow (fun k e => .inr (hrow k e).2.2), by omega, hown5, ?_, fun hb => ⟨?_, ?_⟩⟩
            · intro k hk
              simp only [Value.ownBlock, Option.some.injEq] at hk
              rw [← hk]
              rcases hat with h | h
              · exact (hrow g h).2.2
              · rw [h]; simp; omega
            · have hr := HRep.out HB.out
              rw [bapp_len, (HRep4.out hb).1, hr.1]
            · refine app_rep lb hsz HO24.out (fun k hk => Below.heap_alloc _ _ _ hk) (by simp) HOwn.out hgrow hat (HRep.out HB.out).2 ?_
              exact RepF.keep (fun k hk hl => ⟨rfl, by have h : w2.heap.size ≤ k := hk; omega⟩) _ _ (HRep4.out hb).2
        · obtain ⟨y, hy1, hy2⟩ := pars_pst h0 h4 hp
          have hu := hide (fun (w' : World) (h : RS b tb cap te xs w' st) => (refPars m m (Nat.le_refl _) (by omega)).stmt w' st y h hy1)
          have hk : (kT st == 4) = false := by simpa using h4
          have HY := hide hy2
          clear hp hrs hO hown hlo hrep h0 h4 hbad hend hk40 hy1 hy2
          go_wp2_with fail
          refine (peek_rs HRS.out).mono ?_
          rintro e w1 ⟨S1, rfl, hS1, hrs1, hb1⟩
          have HRS1 := hide hrs1
          have HB1 := hide hb1
          clear hS1 hrs1 hb1 cb
          go_wp2_with fail
          refine (is_rs HRS1.out 4 (by omega) (by omega) [102, 110] rfl).mono ?_
          rintro e w2 ⟨rfl, hrs2, hb2⟩
          rw [hk]
          have HO2 : Hid (Only b wr w2) := (Below.only HB1.out).trans (Below.only hb2)
          have HRS2 := hide hrs2
          have hsz2 := HO2.out.size
          clear hrs2 hb2
          go_wp2_with fail
          refine (hu.out _ HRS2.out).mono ?_
          rintro e w4 ⟨I, S, ln, nn, va4, vn4, vc4, pa, pn, pc, rfl, hr4, ho4, hrep4⟩
          have hne : (Value.slice va vn vc).ownBlock ≠ some b := fun e => by have := HLo.out b e; omega
          have HO24 : Hid (Only b wr w4) := HO2.out.trans ho4
          have hown4 := (own_only HOwn.out HO24.out hne).alloc (.cells (ndC I S ln nn va4 vn4 vc4 pa pn pc) 41)
          have HR4 := hide hr4
          have HRep4 := hide hrep4
          clear hr4 ho4 hrep4 hne
          go_wp2_with (at_builtin; refine wpl_app (w4.alloc (.cells (ndC I S ln nn va4 vn4 vc4 pa pn pc) 41)) (ndC I S ln nn va4 vn4 vc4 pa pn pc) 41 rfl (.tmp 29) (.tmp 31) 36 rfl 0 6 96 (.agg #[.string ⟨#[]⟩, .int .i64 0, .string ⟨#[]⟩, .int .i64 0, .slice none 0 0, .slice none 0 0]) Tryz.underlying36 infoNode rfl (by omega) _ _ _ rfl (by simp; rfl) hown4 rfl nd_one (by omega) (by omega) (Nat.zero_le _) ?_; intro g cap1 w5 hown5 hgrow hat hg)
          replace hgrow : (w4.alloc (.cells (ndC I S ln nn va4 vn4 vc4 pa pn pc) 41)).grownBy w5 (Value.slice va vn vc).ownBlock := hgrow
          replace hat : (Value.slice va vn vc).ownBlock = some g ∨ g = (w4.alloc (.cells (ndC I S ln nn va4 vn4 vc4 pa pn pc) 41)).heap.size + 1 := hat
          have hrow : ∀ k, (Value.slice va vn vc).ownBlock = some k → k ≠ b ∧ k ≠ tb ∧ w.heap.size ≤ k := fun k e => by have := HLo.out k e; omega
          go_roundg m
          case measure => omega
          case rel =>
            have hs4 := HO24.out.size
            refine ⟨bapp acc y.1, y.2, some ⟨g, 0, none⟩, cn + 1, cap1, cn + 1, cs ++ (ndC I S ln nn va4 vn4 vc4 pa pn pc).toList, rfl, by omega, HY.out, (HR4.out.alloc _).grown hgrow (fun e => (hrow b e).1 rfl) (fun e => (hrow tb e).2.1 rfl), ((HO.out.trans HO24.out).alloc _).grown hgrow (fun k e => .inr (hrow k e).2.2), by omega, hown5, ?_, fun hb => ⟨?_, ?_⟩⟩
            · intro k hk
              simp only [Value.ownBlock, Option.some.injEq] at hk
              rw [← hk]
              rcases hat with h | h
              · exact (hrow g h).2.2
              · rw [h]; simp; omega
            · have hr := HRep.out HB.out
              rw [bapp_len, (HRep4.out hb).1, hr.1]
            · refine app_rep lb hsz HO24.out (fun k hk => Below.heap_alloc _ _ _ hk) (by simp) HOwn.out hgrow hat (HRep.out HB.out).2 ?_
              exact RepF.keep (fun k hk hl => ⟨rfl, by have h : w2.heap.size ≤ k := hk; omega⟩) _ _ (HRep4.out hb).2
    · have e2 := pars_sticky (hrs.sticky hbad) hbad _ _ _ _ _ hp
      have hb0 : ((st.bad : Int) == 0) = false := by rw [beq_eq_false_iff_ne]; omega
      have HE := hide e2
      have HB := hide hbad
      clear e2 hp hrs hO hbad hrep hown hlo
      go_wp2
      go_ret
      refine ⟨va, vn, vc, cn, cs, rfl, ⟨HOwn.out, HLo.out⟩, by omega, by rw [HE.out]; exact HRS.out, HO.out, fun h => absurd (by rw [← HE.out]; exact h) HB.out⟩
end Go.Proofs.YtgccmgjbbcndbaaGreatDoor
