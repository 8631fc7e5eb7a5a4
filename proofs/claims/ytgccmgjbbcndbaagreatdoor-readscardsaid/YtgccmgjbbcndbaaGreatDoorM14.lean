import Derived.Test.YtgccmgjbbcndbaaGreatDoorM02
import Derived.Test.YtgccmgjbbcndbaaGreatDoorM01
import Derived.Deep.LoopGhost
/- Walk of expr. -/
namespace Go.Proofs.YtgccmgjbbcndbaaGreatDoor
open Go.RowKit
open Go.Deep (BT)

def rowText (a : Nat) : List UInt8 :=
  if a = 0 then [32, 124, 124, 32] else if a = 1 then [32, 38, 38, 32] else if a = 2 then [32, 61, 61, 32, 33, 61, 32] else if a = 3 then [32, 60, 32, 60, 61, 32, 62, 32, 62, 61, 32]
  else if a = 4 then [32, 43, 32, 45, 32] else [32, 42, 32, 47, 32, 37, 32]

theorem row_among : ∀ k, k ≤ 40 → 18 ≤ k → ∀ a, a < 6 → amongL (spell k) (rowText a) = (rowOf k == a + 1) := by decide +kernel
theorem row_small : ∀ k, k < 18 → rowOf k = 0 := by decide +kernel
theorem refKind_115 (k : Nat) (h : k ≤ 40) : (refKind k != 115) = decide (k < 18) := by
  revert h; revert k; decide +kernel
theorem rowTexts_at : ∀ a, a < 6 → rowTexts[a]? = some (.string ⟨(rowText a).toArray⟩) := by
  intro a ha
  match a, ha with
  | 0, _ => rfl
  | 1, _ => rfl
  | 2, _ => rfl
  | 3, _ => rfl
  | 4, _ => rfl
  | 5, _ => rfl

set_option maxRecDepth 100000 in
set_option maxHeartbeats 1000000 in
theorem expr_six {b tb cap te : Nat} {xs : List (Tk × List UInt8)} {n : Nat} (ih : RefPars b tb cap te xs n) (w : World) (s : PS) (q : Int) (r : BT Lab × PS) (hq : q = 6) (hs : RS b tb cap te xs w s) (hp : pars (n + 1) 0 6 .nil s = some r) :
    Calls Tryz.prog 42 #[.pointer (some ⟨b, 0, none⟩), .int .i64 q] w (NodePost b tb cap te xs w r) := by
  subst hq
  have hp' := pars_expr6 hp
  obtain ⟨lb, lt, lne⟩ := hs.lt
  have hu := hide (fun (w' : World) h => ih.unary w' s r h hp')
  have HS := hide hs
  have HIH := hide ih
  clear hp hp' hs ih
  go_enter Tryz.func42, Tryz.ntmps42
  go_wp2_with fail
  refine (rows_any _).mono ?_
  rintro e w' ⟨rfl, rfl⟩
  go_wp2_with fail
  refine (hu.out _ ?_).mono ?_
  · exact (HS.out.alloc _).alloc _
  rintro e w2 ⟨I, S, ln, nn, va, vn, vc, pa, pn, pc, rfl, hr, ho, hrep⟩
  have hz := ho.blk (alloc_old (heap_alloc_new w _)) (by omega)
  obtain ⟨c0, c1, c2, c3, c4, c5, f0, l0⟩ := blk6 hz
  have HR := hide hr
  have HRep := hide hrep
  have HZ := hide hz
  clear hr hrep hz
  go_wp2
  refine bodyPost_ret (v := .agg #[.string ⟨I.toArray⟩, .int .i64 ln, .string ⟨S.toArray⟩, .int .i64 nn, .slice va vn vc, .slice pa pn pc]) ?_ rfl ?_
  · simp [results, Tryz.results42, go_sem, c0, c1, c2, c3, c4, c5]
  unfold NodePost
  refine ⟨I, S, ln, nn, va, vn, vc, pa, pn, pc, rfl, ?_, ?_, ?_⟩
  · exact HR.out.other6 (by omega) (by omega) _ _ _ _ _ _
  · exact Only.set6 ((((Only.refl b w).alloc _).alloc _).trans ho) (Nat.le_refl _) _ _ _ _ _ _
  · intro hbad
    refine ⟨(HRep.out hbad).1, RepF.keep (fun g hg hl => ⟨?_, ?_⟩) _ _ (HRep.out hbad).2⟩
    · have hne : g ≠ w.heap.size := by simp at hg; omega
      exact set6_same hne _ _ _ _ _ _
    · simp at hg; omega
end Go.Proofs.YtgccmgjbbcndbaaGreatDoor
/- Walk of expr: a row of signs. -/
namespace Go.Proofs.YtgccmgjbbcndbaaGreatDoor
open Go.RowKit
open Go.Deep (BT)

def zN : Array Value := #[.string ⟨#[]⟩, .int .i64 0, .string ⟨#[]⟩, .int .i64 0, .slice none 0 0, .slice none 0 0]

/- what holds at the head of the loop of a row of signs: w: where the call began; xb: the block of what was read so far -/
def ERel (b tb cap te : Nat) (xs : List (Tk × List UInt8)) (a : Nat) (r : BT Lab × PS) (w : World) (xb : Nat) (k : Nat) (wr : World) : Prop :=
  ∃ (acc : BT Lab) (st : PS) (I S : List UInt8) (ln nn : Int) (va : Option Addr) (vn vc : Nat) (pa : Option Addr) (pn pc : Nat), pars k 1 a acc st = some r ∧ RS b tb cap te xs wr st ∧ Only b w wr ∧
    wr.heap[xb]? = some (.cells #[.string ⟨I.toArray⟩, .int .i64 ln, .string ⟨S.toArray⟩, .int .i64 nn, .slice va vn vc, .slice pa pn pc] 41 (0, 0)) ∧
    wr.heap[w.heap.size]? = some (.cells #[.string ⟨#[]⟩, .int .i64 0, .string ⟨#[]⟩, .int .i64 0, .slice none 0 0, .slice none 0 0] 41 (0, 0)) ∧
    wr.heap[w.heap.size + 1]? = some (.cells rowTexts 9 (0, 0)) ∧
    (st.bad = 0 → blen acc = 1 ∧ RepF (fun g => w.heap.size < g ∧ g ≠ xb) wr acc (ndC I S ln nn va vn vc pa pn pc).toList)

theorem isS_sign (k : Nat) (h : 18 ≤ k) (h' : k ≤ 40) : spell k = isS (100 + k) := by
  have : ∀ k, k ≤ 40 → 18 ≤ k → spell k = isS (100 + k) := by decide +kernel
  exact this k h' h

theorem ERel.bin {b tb cap te : Nat} {xs : List (Tk × List UInt8)} {a : Nat} {r : BT Lab × PS} {w w4 : World} {xb m k line : Nat} {acc : BT Lab} {y : BT Lab × PS} {I S I4 S4 : List UInt8} {ln nn ln4 nn4 : Int} {va va4 : Option Addr} {vn vc vn4 vc4 : Nat} {pa pa4 : Option Addr} {pn pc pn4 pc4 : Nat} {z0 z1 z2 z3 z4 z5 : Value}
    (lb : b < w.heap.size) (lt : tb < w.heap.size) (hxb : w.heap.size + 1 < xb) (h18 : 18 ≤ k) (h40 : k ≤ 40) (hY : pars m 1 a (nd (lab0 (100 + k) line) (bapp acc y.1)) y.2 = some r) (hr4 : RS b tb cap te xs w4 y.2) (hO4 : Only b w w4)
    (hX4 : w4.heap[xb]? = some (.cells #[z0, z1, z2, z3, z4, z5] 41 (0, 0)))
    (hZ4 : w4.heap[w.heap.size]? = some (.cells #[.string ⟨#[]⟩, .int .i64 0, .string ⟨#[]⟩, .int .i64 0, .slice none 0 0, .slice none 0 0] 41 (0, 0)))
    (hRow4 : w4.heap[w.heap.size + 1]? = some (.cells rowTexts 9 (0, 0)))
    (hA : y.2.bad = 0 → blen acc = 1 ∧ RepF (fun g => w.heap.size < g ∧ g ≠ xb) w4 acc (ndC I S ln nn va vn vc pa pn pc).toList)
    (hB : y.2.bad = 0 → blen y.1 = 1 ∧ RepF (fun g => w.heap.size < g ∧ g ≠ xb) w4 y.1 (ndC I4 S4 ln4 nn4 va4 vn4 vc4 pa4 pn4 pc4).toList) :
    ERel b tb cap te xs a r w xb m ((((((((w4.setCell ⟨xb, 0, none⟩ (.string ⟨(spell k).toArray⟩)).setCell ⟨xb, 1, none⟩ (.int .i64 line)).setCell ⟨xb, 2, none⟩ (.string ⟨#[]⟩)).setCell ⟨xb, 3, none⟩ (.int .i64 0)).setCell ⟨xb, 4, none⟩ (.slice (some ⟨w4.heap.size + 1, 0, none⟩) 2 2)).setCell ⟨xb, 5, none⟩ (.slice none 0 0)).alloc
        (.cells #[.string ⟨I4.toArray⟩, .int .i64 ln4, .string ⟨S4.toArray⟩, .int .i64 nn4, .slice va4 vn4 vc4, .slice pa4 pn4 pc4] 41)).alloc
        (.cells #[.string ⟨I.toArray⟩, .int .i64 ln, .string ⟨S.toArray⟩, .int .i64 nn, .slice va vn vc, .slice pa pn pc, .string ⟨I4.toArray⟩, .int .i64 ln4, .string ⟨S4.toArray⟩, .int .i64 nn4, .slice va4 vn4 vc4, .slice pa4 pn4 pc4] 41)) := by
  have lX := heap_lt hX4
  refine ⟨_, y.2, spell k, [], line, 0, some ⟨w4.heap.size + 1, 0, none⟩, 2, 2, none, 0, 0, hY, ?_, ?_, ?_, ?_, ?_, ?_⟩
  · exact ((hr4.other6 (by omega) (by omega) _ _ _ _ _ _).alloc _).alloc _
  · exact ((Only.set6 hO4 (by omega) _ _ _ _ _ _).alloc _).alloc _
  · exact alloc_old (alloc_old (set6_new hX4 _ _ _ _ _ _))
  · exact alloc_old (alloc_old (set6_old hZ4 (by omega) _ _ _ _ _ _))
  · exact alloc_old (alloc_old (set6_old hRow4 (by omega) _ _ _ _ _ _))
  · intro hb
    refine ⟨rfl, ?_⟩
    have hkeep : ∀ {W : World} {o1 o2 : Obj} (g : Nat), (w.heap.size < g ∧ g ≠ xb) → g < w4.heap.size → W.heap.size = w4.heap.size → W.heap[g]? = w4.heap[g]? → ((W.alloc o1).alloc o2).heap[g]? = w4.heap[g]? ∧ (w.heap.size < g ∧ g ≠ xb) := by
      intro W o1 o2 g hg hl hs he
      refine ⟨?_, hg⟩
      rw [Below.heap_alloc _ _ _ (by simp; omega), Below.heap_alloc _ _ _ (by omega), he]
    refine RepF.one (lab0 (100 + k) line) (bapp acc y.1) _ _ _ _ _ _ _ _ _ _ ((ndC I S ln nn va vn vc pa pn pc).toList ++ (ndC I4 S4 ln4 nn4 va4 vn4 vc4 pa4 pn4 pc4).toList) (by simp only [lab0]; omega) (by simp only [lab0]; omega) (isS_sign k h18 h40) (fun _ => rfl) (fun h => ?_) (fun h => ?_) ?_ ?_
    · exfalso; revert h; simp only [lab0, nameSure]; intro h; simp at h; omega
    · exfalso; simp only [lab0] at h; omega
    · rw [bapp_len, (hA hb).1, (hB hb).1]
      refine own_lit ?_ rfl (by omega) ?_
      · have := heap_alloc_new ((((((((w4.setCell ⟨xb, 0, none⟩ (.string ⟨(spell k).toArray⟩)).setCell ⟨xb, 1, none⟩ (.int .i64 line)).setCell ⟨xb, 2, none⟩ (.string ⟨#[]⟩)).setCell ⟨xb, 3, none⟩ (.int .i64 0)).setCell ⟨xb, 4, none⟩ (.slice (some ⟨w4.heap.size + 1, 0, none⟩) 2 2)).setCell ⟨xb, 5, none⟩ (.slice none 0 0)).alloc
          (.cells #[.string ⟨I4.toArray⟩, .int .i64 ln4, .string ⟨S4.toArray⟩, .int .i64 nn4, .slice va4 vn4 vc4, .slice pa4 pn4 pc4] 41))) (.cells #[.string ⟨I.toArray⟩, .int .i64 ln, .string ⟨S.toArray⟩, .int .i64 nn, .slice va vn vc, .slice pa pn pc, .string ⟨I4.toArray⟩, .int .i64 ln4, .string ⟨S4.toArray⟩, .int .i64 nn4, .slice va4 vn4 vc4, .slice pa4 pn4 pc4] 41)
        rw [World.size_alloc, set6_size] at this
        exact this
      · omega
    · refine RepF.app _ _ _ _ (RepF.keep (fun g hg hl => ?_) _ _ (hA hb).2) (RepF.keep (fun g hg hl => ?_) _ _ (hB hb).2)
      · exact hkeep g hg hl (set6_size _ _ _ _ _ _ _ _) (set6_same hg.2 _ _ _ _ _ _)
      · exact hkeep g hg hl (set6_size _ _ _ _ _ _ _ _) (set6_same hg.2 _ _ _ _ _ _)

set_option maxRecDepth 100000 in
set_option maxHeartbeats 2000000 in
theorem expr_low {b tb cap te : Nat} {xs : List (Tk × List UInt8)} {n : Nat} (ih : ∀ m, m ≤ n → RefPars b tb cap te xs m) (w : World) (s : PS) (a : Nat) (q : Int) (r : BT Lab × PS) (ha : a < 6) (hq : q = a) (hs : RS b tb cap te xs w s) (hp : pars (n + 1) 0 a .nil s = some r) :
    Calls Tryz.prog 42 #[.pointer (some ⟨b, 0, none⟩), .int .i64 q] w (NodePost b tb cap te xs w r) := by
  subst hq
  obtain ⟨x, hp1, hp2⟩ := pars_expr (by omega) hp
  obtain ⟨lb, lt, lne⟩ := hs.lt
  have hu := hide (fun (w' : World) h => (ih n (Nat.le_refl _)).expr w' s (a + 1) ((a : Int) + 1) x (by omega) (by omega) h hp1)
  have HS := hide hs
  have HIH := hide ih
  have HP := hide hp2
  have h6 : ((a : Int) == 6) = false := by rw [beq_eq_false_iff_ne]; omega
  clear hp hp1 hp2 hs ih
  go_enter Tryz.func42, Tryz.ntmps42
  go_wp2_with fail
  refine (rows_any _).mono ?_
  rintro e w' ⟨rfl, rfl⟩
  go_wp2_with fail
  refine (hu.out _ ?_).mono ?_
  · exact (HS.out.alloc _).alloc _
  rintro e w2 ⟨I, S, ln, nn, va, vn, vc, pa, pn, pc, rfl, hr, ho, hrep⟩
  have hO : Only b w w2 := (((Only.refl b w).alloc _).alloc _).trans ho
  have hz := ho.blk (alloc_old (heap_alloc_new w _)) (by omega)
  have hrow := ho.blk (heap_alloc_new (w.alloc _) _) (by simp; omega)
  have l2 : w.heap.size + 1 < w2.heap.size := by have := heap_lt hrow; simpa using this
  simp only [World.size_alloc] at hrow
  have HR := hide hr
  have HRep := hide hrep
  have HZ := hide hz
  have HRow := hide hrow
  have HO := hide hO
  clear hr hrep hz hrow hO ho hu
  go_wp2
  go_loopg [] n (fun k wr => k ≤ n ∧ ERel b tb cap te xs a r w w2.heap.size k wr)
  case atStart =>
    refine ⟨Nat.le_refl _, x.1, x.2, I, S, ln, nn, va, vn, vc, pa, pn, pc, HP.out, HR.out.alloc _, HO.out.alloc _, heap_alloc_new w2 _, alloc_old HZ.out, alloc_old HRow.out, fun hb => ⟨(HRep.out hb).1, ?_⟩⟩
    refine RepF.keep (fun g hg hl => ⟨Below.heap_alloc _ _ _ hl, ?_⟩) _ _ (HRep.out hb).2
    simp only [World.size_alloc] at hg
    omega
  case round =>
    clear HR HRep HZ HRow HO HP
    obtain ⟨hkn, acc, st, I, S, ln, nn, va, vn, vc, pa, pn, pc, hp, hrs, hO, hX, hZ, hRow, hrep⟩ := hrel
    cases gk with
    | zero => exact absurd hp (pars_zero _ _ _ _ _)
    | succ m =>
    have hk40 : kT st ≤ 40 := by obtain ⟨pl, h⟩ := hrs; exact h.k40
    have lX := heap_lt hX
    have lRow := heap_lt hRow
    have HRS := hide hrs
    have HX := hide hX
    have HZ := hide hZ
    have HRow := hide hRow
    have HRep := hide hrep
    have HO := hide hO
    by_cases h18 : kT st < 18
    · have hrr := pars_loop0 (by rw [row_small _ h18]; omega) hp
      have t1 : (refKind (kT st) != 115) = true := by rw [refKind_115 _ hk40]; simpa using h18
      have HRR := hide hrr
      clear hp hrs hX hZ hRow hrep hO hrr hk40
      go_wp2_with fail
      refine (peek_rs HRS.out).mono ?_
      rintro e w3 ⟨S3, rfl, hS3, hrs3, hb3⟩
      obtain ⟨c0, c1, c2, c3, c4, c5, f0, l0⟩ := blk6 (bblk hb3 HZ.out)
      obtain ⟨d0, d1, d2, d3, d4, d5, f1, l1⟩ := blk6 (bblk hb3 HX.out)
      have HRS3 := hide hrs3
      have HB3 := hide hb3
      clear hS3 hrs3 hb3
      go_wp2
      go_quiet (fail)
      go_wp2
      refine bodyPost_ret (v := .agg #[.string ⟨I.toArray⟩, .int .i64 ln, .string ⟨S.toArray⟩, .int .i64 nn, .slice va vn vc, .slice pa pn pc]) ?_ rfl ?_
      · simp [results, Tryz.results42, go_sem, c0, c1, c2, c3, c4, c5, l0]
      rw [HRR.out]
      refine node_close lb lt ?_ ?_ (fun hb => ⟨(HRep.out hb).1, ?_⟩)
      · exact (HRS3.out.alloc _).drewN _
      · exact ((HO.out.trans (Below.only HB3.out)).alloc _).drewN _
      · refine RepF.keep (fun g hg hl => ⟨?_, hg.1⟩) _ _ (HRep.out hb).2
        exact (Below.heap_alloc _ _ _ (Nat.lt_of_lt_of_le hl HB3.out.size)).trans (HB3.out.block g hl)
    · have h18' : 18 ≤ kT st := by omega
      have t1 : (refKind (kT st) != 115) = false := by rw [refKind_115 _ hk40]; simpa using h18
      have hra := row_among (kT st) hk40 h18' a ha
      have HSp : Hid (spell (kT st) = refS (hdT st)) := by
        show _ = _
        unfold refS; rw [if_neg (by unfold kT at h18'; omega)]; rfl
      have HK2 : Hid ((hdT st).k ≠ 2) := by show _ ≠ _; unfold kT at h18'; omega
      have hlen : (spell (kT st)).length ≤ 100000 := by
        have : ∀ k, k ≤ 40 → (spell k).length ≤ 100000 := by decide +kernel
        exact this _ hk40
      have hlen2 : (rowText a).length ≤ 100000 := by
        have : ∀ k, k < 6 → (rowText k).length ≤ 100000 := by decide +kernel
        exact this _ ha
      have HK0 : Hid (kT st ≠ 0) := by show _ ≠ _; omega
      have HK40 := hide hk40
      have HB0 : Hid (st.bad = 0) := by obtain ⟨pl, h⟩ := hrs; exact (h.notEnd HK0.out).1
      cases hrow : rowOf (kT st) == a + 1
      · have hrr := pars_loop0 (by simpa using hrow) hp
        have HRR := hide hrr
        have hra' := hra.trans hrow
        clear hp hrs hX hZ hRow hrep hO hrr hk40 hra hrow h18'
        go_wp2_with fail
        refine (peek_rs HRS.out).mono ?_
        rintro e w3 ⟨S3, rfl, hS3, hrs3, hb3⟩
        have hS4 := (hS3 HK2.out).trans HSp.out.symm
        subst hS4
        obtain ⟨c0, c1, c2, c3, c4, c5, f0, l0⟩ := blk6 (bblk hb3 HZ.out)
        obtain ⟨d0, d1, d2, d3, d4, d5, f1, l1⟩ := blk6 (bblk hb3 HX.out)
        have rc := cell_row (bblk hb3 HRow.out) a _ (rowTexts_at a ha)
        have lrow3 := heap_lt (bblk hb3 HRow.out)
        have HRS3 := hide hrs3
        have HB3 := hide hb3
        clear hS3 hrs3 hb3
        go_wp2
        go_quiet ((go_at_call 34; exact Calls.quiet_of_same (among_any _ _ _ hlen hlen2)))
        go_wp2
        refine bodyPost_ret (v := .agg #[.string ⟨I.toArray⟩, .int .i64 ln, .string ⟨S.toArray⟩, .int .i64 nn, .slice va vn vc, .slice pa pn pc]) ?_ rfl ?_
        · simp [results, Tryz.results42, go_sem, c0, c1, c2, c3, c4, c5, l0]
        rw [HRR.out]
        refine node_close lb lt ?_ ?_ (fun hb => ⟨(HRep.out hb).1, ?_⟩)
        · exact (HRS3.out.alloc _).drewN _
        · exact ((HO.out.trans (Below.only HB3.out)).alloc _).drewN _
        · refine RepF.keep (fun g hg hl => ⟨?_, hg.1⟩) _ _ (HRep.out hb).2
          exact (Below.heap_alloc _ _ _ (Nat.lt_of_lt_of_le hl HB3.out.size)).trans (HB3.out.block g hl)
      · obtain ⟨y, hy1, hy2⟩ := pars_loop1 (by simpa using hrow) hp
        have hra' := hra.trans hrow
        have hu := hide (fun (w' : World) h => (HIH.out m (by omega)).expr w' (takeS st) (a + 1) ((a : Int) + 1) y (by omega) (by omega) h hy1)
        have HY := hide hy2
        clear hp hrs hX hZ hRow hrep hO hk40 hra hrow h18' hy1 hy2
        go_wp2_with fail
        refine (peek_rs HRS.out).mono ?_
        rintro e w3 ⟨S3, rfl, hS3, hrs3, hb3⟩
        have hS4 := (hS3 HK2.out).trans HSp.out.symm
        subst hS4
        have HZ3 := hide (bblk hb3 HZ.out)
        have HX3 := hide (bblk hb3 HX.out)
        have HRow3 := hide (bblk hb3 HRow.out)
        have rc := cell_row (bblk hb3 HRow.out) a _ (rowTexts_at a ha)
        have lrow3 := heap_lt (bblk hb3 HRow.out)
        obtain ⟨pl, hpl⟩ := hrs3
        obtain ⟨e0, e1, e2⟩ := hpl.cells
        have fb := frozen_row hpl.rd
        have lb3 := heap_lt hpl.rd
        have hfew := hpl.toks.few
        have hpll := hpl.lt
        have HPL := hide hpl
        have HB3 := hide hb3
        clear hS3 hpl hb3 e0 e2
        go_wp2
        go_quiet ((go_at_call 34; exact Calls.quiet_of_same (among_any _ _ _ hlen hlen2)))
        go_wp2_with fail
        refine (hu.out _ ?_).mono ?_
        · exact ⟨pl + 1, ((HPL.out.alloc _).drewN _).move HK0.out _ rfl⟩
        rintro e w4 ⟨I4, S4, ln4, nn4, va4, vn4, vc4, pa4, pn4, pc4, rfl, hr4, ho4, hrep4⟩
        have hZ4 := ho4.blk (set_old (w := (w3.alloc _).drewN _) (alloc_old HZ3.out) (by simp; omega)) (by omega)
        have hX4 := ho4.blk (set_old (w := (w3.alloc _).drewN _) (alloc_old HX3.out) (by simp; omega)) (by omega)
        have hRow4 := ho4.blk (set_old (w := (w3.alloc _).drewN _) (alloc_old HRow3.out) (by simp; omega)) (by omega)
        have hT4 := ho4.blk (set_old (w := (w3.alloc _).drewN _) (heap_alloc_new w3 _) (by simp; omega)) (by omega)
        obtain ⟨d0, d1, d2, d3, d4, d5, f1, l1⟩ := blk6 hX4
        obtain ⟨g0, g1, g2, g3, f2, l2'⟩ := blk4 hT4
        have HZ4 := hide hZ4
        have HX4 := hide hX4
        have HRow4 := hide hRow4
        have HR4 := hide hr4
        have HO4 := hide ho4
        have HRep4 := hide hrep4
        clear hZ4 hX4 hRow4 hT4 hr4 ho4 hrep4 e1 fb rc
        go_wp2
        go_roundg m
        case measure => omega
        case rel =>
          refine ⟨by omega, ?_⟩
          have hO3 : Only b w (((w3.alloc (.cells #[.int .u8 (refKind (kT st)), .string ⟨(spell (kT st)).toArray⟩, .int .i64 (hdT st).n, .int .i64 ((hdT st).line : Nat)] 79)).drewN nq).setCell ⟨b, 1, none⟩ (.int .i64 ((pl : Int) + 1))) :=
            Only.set (p := ⟨b, 1, none⟩) (((HO.out.trans (Below.only HB3.out)).alloc _).drewN nq) (.inl rfl) _
          refine ERel.bin lb lt (by omega) (by omega) HK40.out HY.out HR4.out (hO3.trans HO4.out) HX4.out HZ4.out HRow4.out (fun hb => ⟨(HRep.out HB0.out).1, ?_⟩) (fun hb => ⟨(HRep4.out hb).1, ?_⟩)
          · refine RepF.keep (fun g hg hl => ⟨?_, hg⟩) _ _ (HRep.out HB0.out).2
            have hb3 := HB3.out
            have e4 := HO4.out.block g (by simp [World.setCell, World.drewN]; have := hb3.size; omega) (by omega)
            have e3 : (((w3.alloc (.cells #[.int .u8 (refKind (kT st)), .string ⟨(spell (kT st)).toArray⟩, .int .i64 (hdT st).n, .int .i64 ((hdT st).line : Nat)] 79)).drewN nq).setCell ⟨b, 1, none⟩ (.int .i64 ((pl : Int) + 1))).heap[g]? = w3.heap[g]? := by
              rw [Below.heap_setCell _ _ _ _ (by simp; omega)]
              exact Below.heap_alloc _ _ _ (by have := hb3.size; omega)
            exact e4.trans (e3.trans (hb3.block g hl))
          · refine RepF.keep (fun g hg hl => ⟨rfl, ?_⟩) _ _ (HRep4.out hb).2
            have hs : (((w3.alloc (.cells #[.int .u8 (refKind (kT st)), .string ⟨(spell (kT st)).toArray⟩, .int .i64 (hdT st).n, .int .i64 ((hdT st).line : Nat)] 79)).drewN nq).setCell ⟨b, 1, none⟩ (.int .i64 ((pl : Int) + 1))).heap.size = w3.heap.size + 1 := by simp [World.setCell, World.drewN]
            rw [hs] at hg
            have := HB3.out.size
            omega
end Go.Proofs.YtgccmgjbbcndbaaGreatDoor
