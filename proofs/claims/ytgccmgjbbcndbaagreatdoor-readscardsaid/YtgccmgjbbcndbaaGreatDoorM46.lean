import Derived.Test.YtgccmgjbbcndbaaGreatDoorM33
/- Walk of gambitref.Compile: a program that is read. -/
namespace Go.Proofs.YtgccmgjbbcndbaaGreatDoor
open Go.RowKit
open Go.Deep (BT)

theorem kn0' {k : Nat} (h : k ≠ 0) : ((k : Int) == 0) = false := by rw [beq_eq_false_iff_ne]; omega
theorem dropT_nil : ∀ c : BT Lab, dropT (blen c) c = .nil := by
  intro c
  induction c with
  | nil => rfl
  | node x y l ch sib _ ih =>
    show dropT (blen sib + 1) _ = _
    rw [dropT]; exact ih

def CfPost (r : BT Lab × PS) (w : World) (e : Ending) (w' : World) : Prop :=
  Below w.heap.size w w' ∧ (((sensT (fnsOf r.1) r.1 [] [] (0, 0)).1 ≠ 0 ∧ e = .returned (.tuple #[.pointer none, .agg #[.int .i64 ((sensT (fnsOf r.1) r.1 [] [] (0, 0)).1 : Nat), .int .i64 ((sensT (fnsOf r.1) r.1 [] [] (0, 0)).2 : Nat)]])) ∨
    ((sensT (fnsOf r.1) r.1 [] [] (0, 0)).1 = 0 ∧ ∃ fs pb la ln lc fa fc cs, fnsOf r.1 = fs ∧ fs.length ≤ 100000 ∧ e = .returned (.tuple #[.pointer (some ⟨pb, 0, none⟩), .agg #[.int .i64 0, .int .i64 0]]) ∧ w.heap.size < pb ∧
      w'.heap[pb]? = some (.cells #[.slice la ln lc, .slice fa fs.length fc] 38 (0, 0)) ∧ w'.ownsRow 0 41 6 (.slice fa fs.length fc) fs.length cs ∧ fnAt fs cs ∧ (∀ g, (Value.slice fa fs.length fc).ownBlock = some g → w.heap.size < g)))

theorem sense_new {w : World} {pb : Nat} {c : BT Lab} {va : Option Addr} {vn vc : Nat} {fs : List (Nm × Nat)} {W : World} {fa : Option Addr} {fc : Nat} {cs : List Value} (hI : FnI W pb va vn vc fs w fa fc cs) (hfs : fnsOf c = fs) (hf : fs.length ≤ 100000) :
    (⟨w.heap.size, pb, 67, 38, fnsOf c, va, vn, vc, fa, fs.length, fc⟩ : Ctx).St (fun g => g < w.heap.size) (w.alloc (.cells #[.pointer (some ⟨pb, 0, none⟩), .slice none 0 0, .slice none 0 0, .int .i64 0, .int .i64 0, .bool false, .int .i64 0, .int .i64 0] 67)) [] [] [] 0 0 false (0, 0) := by
  have lp := heap_lt hI.cell
  subst hfs
  refine ⟨⟨none, 0, 0, none, 0, 0, [], heap_alloc_new _ _, World.ownsRow_nil _ _ _ _, World.ownsRow_nil _ _ _ _, rfl, fun i h => by simp at h, fun i h => by simp at h, by simp, fun g e => by simp [Value.ownBlock] at e, fun g e => by simp [Value.ownBlock] at e, by omega, rfl, rfl⟩, ⟨alloc_old hI.cell, lp, rfl, hf, fun i hi => ?_⟩, fun g hg => by simp; omega⟩
  have hi' : i < (fnsOf c).length := hi
  obtain ⟨g, k1, k2, k3, k4, k5⟩ := own_row hI.own (by omega)
  obtain ⟨m1, pa, pc, m2⟩ := hI.at' i hi
  exact ⟨g, k1, k4, by simp; omega, k3, (World.cell?_of_block (Below.heap_alloc _ _ _ k4)).trans (k5 _ _ m1), pa, pc, (World.cell?_of_block (Below.heap_alloc _ _ _ k4)).trans (k5 _ _ m2)⟩

set_option maxRecDepth 100000 in
set_option maxHeartbeats 4000000 in
theorem compile_fine (l : List UInt8) (w : World) (hl : l.length ≤ 2000) (ts : List Tk) (hn : lex (l.length + 1) l 1 false = .inr ts) (h1 : ts.length ≤ 2001) (h2 : LexOk 1 2000 ts) (r : BT Lab × PS) (hr : pars 100000 10 0 .nil ⟨ts, 0⟩ = some r) (hb : r.2.bad = 0) (hd : nest ts 0 = 0) (hkd : KdT r.1) (hsane : Sane r.1) (ht32 : T32 r.1) (hsz : bsize r.1 ≤ 4002) :
    Calls Tryz.prog 6 #[.string ⟨l.toArray⟩] w (CfPost r w) := by
  have t : decide (2000 < (l.length : Int)) = false := decide_eq_false (by omega)
  have HN := hide hn
  have HC := hide (fun w => tokens_any l w (by omega))
  have HR := hide hr
  have HKd := hide hkd
  have HSane := hide hsane
  have HT32 := hide ht32
  clear hn hr hkd hsane ht32
  go_enter Tryz.func6, Tryz.ntmps6
  go_wp2_with fail
  refine (HC.out _).mono ?_
  rintro e w1 ⟨v, k, rfl, ho, hbel⟩
  rw [HN.out] at ho
  obtain ⟨rfl, xs, hxm, hxk, hown⟩ := ho
  have hxl : ts.length = xs.length := by rw [← hxm]; simp
  have hpos := h2.pos
  obtain ⟨g0, cap, cur, rfl, hg1, hg2, hg3, hg4⟩ := own_slice hown (by omega)
  have hT := toks_of hxm hxk h1 h2
  have hR := bblk hbel (heap_alloc_new w (.cells #[.int .i64 0, .int .i64 0] 29))
  obtain ⟨x0, x1, fX, lX⟩ := blk2 hR
  have HRb := hide hR
  have HBel : Hid (Below w.heap.size w w1) := Below.trans (Below.alloc (Below.refl _ _) (Nat.le_refl _) _) (hbel.mono (by simp))
  have HG := hide hg2
  have lg := heap_lt hg2
  have HTk := hide hT
  have HG4 := hide hg4
  have HXm := hide hxm
  have HRS : Hid (RS w1.heap.size g0 cap 61 xs (w1.alloc (.cells #[.slice (some ⟨g0, 0, none⟩) xs.length cap, .int .i64 0, .int .i64 0] 61)) ⟨ts, 0⟩) := by
    refine ⟨0, hT, heap_alloc_new w1 _, ⟨cur, alloc_old hg2, hg4⟩, by omega, by omega, hg3, fun _ => by rw [← hxm]; rfl, fun e => absurd rfl e⟩
  have lw1 : w.heap.size < w1.heap.size := by have := hbel.size; rw [World.size_alloc] at this; omega
  clear hbel HC hR hown hg2 hg4 hxk hT
  go_wp2_with fail
  refine (prog_any (by decide) _ _ r HRS.out HR.out).mono ?_
  rintro e w2 ⟨va, vn, vc, n, cs, rfl, hown, hlo2, hrs, honly, hrep⟩
  have hRr := honly.blk (alloc_old (o' := .cells #[.slice (some ⟨g0, 0, none⟩) xs.length cap, .int .i64 0, .int .i64 0] 61) HRb.out) (by omega)
  obtain ⟨hbc, hbl⟩ := hrs.badCell
  rw [hb] at hbc
  clear hbl
  have lb : w1.heap.size < w2.heap.size := by have := honly.size; simp at this; omega
  have HB2 : Hid (Below w.heap.size w w2) := HBel.out.trans (Below.trans (b := w1.alloc (.cells #[.slice (some ⟨g0, 0, none⟩) xs.length cap, .int .i64 0, .int .i64 0] 61)) (Below.alloc (Below.refl _ _) (by omega) _) ⟨honly.os, honly.tape, honly.output, honly.size, fun k hk => honly.block k (by simp; omega) (by omega)⟩)
  have HG2 := hide (honly.blk (alloc_old (o' := .cells #[.slice (some ⟨g0, 0, none⟩) xs.length cap, .int .i64 0, .int .i64 0] 61) HG.out) (by omega))
  have HRow : Hid (TokRow g0 cap xs (w2.alloc (.cells #[.slice va vn vc, .slice none 0 0] 38))) := ⟨HTk.out, ⟨cur, alloc_old HG2.out, HG4.out⟩, hg3⟩
  clear x0 x1 fX lX HRS honly hrs
  obtain ⟨x0, x1, fX, lX⟩ := blk2 hRr
  have HRr := hide hRr
  have HOwn := hide hown
  have HRep := hide hrep
  clear hRr hxm hown hrep
  go_wp2_with fail
  refine (nested_any _ HRow.out).mono ?_
  rintro e w3 ⟨rfl, hbel3⟩
  rw [HXm.out, hd]
  have hR3 := bblk hbel3 (alloc_old HRr.out)
  have hP3 := bblk hbel3 (heap_alloc_new w2 (.cells #[.slice va vn vc, .slice none 0 0] 38))
  have HB3 : Hid (Below w.heap.size w w3) := HB2.out.trans (Below.trans (Below.alloc (Below.refl _ _) (by omega) _) (hbel3.mono (by simp; omega)))
  have HBn := hide hbel3
  clear x0 x1 fX lX hbc hbel3
  obtain ⟨x0, x1, fX, lX⟩ := blk2 hR3
  obtain ⟨p0, p1, fp, lp⟩ := blk2 hP3
  have HR3 := hide hR3
  have lb3 : w2.heap.size < w3.heap.size := lp
  clear hR3
  have hvn : vn = n := (own_cells HOwn.out.1).1
  obtain ⟨hnb, hrep0⟩ := HRep.out hb
  have hnn : vn = blen (ung r.1) := by rw [hvn, hnb, ung_len _ HSane.out]
  have hkk : ∀ g, (w1.alloc (.cells #[.slice (some ⟨g0, 0, none⟩) xs.length cap, .int .i64 0, .int .i64 0] 61)).heap.size ≤ g → g < w2.heap.size → w3.heap[g]? = w2.heap[g]? ∧ (g < w2.heap.size ∧ w1.heap.size < g) := fun g h1 h2 => ⟨(HBn.out.block g (by simp; omega)).trans (Below.heap_alloc _ _ _ h2), h2, by simp at h1; omega⟩
  have hOwn3 := HOwn.out.keep hkk
  have hRep3 := RepF.ung _ _ HSane.out (RepF.keep hkk _ _ hrep0)
  rw [hnb, ← ung_len _ HSane.out] at hOwn3
  rw [hnn] at hOwn3 hP3 p0
  have HOwn3 := hide hOwn3
  have HRep3 := hide hRep3
  have hfs0 := fnsOf_ung r.1 HKd.out
  obtain ⟨c, hc⟩ : ∃ c, c = ung r.1 := ⟨_, rfl⟩
  rw [← hc] at HOwn3 HRep3 hP3 p0 hfs0
  have HP3 := hide hP3
  have HShp : Hid (Shp c) := by show Shp c; rw [hc]; exact ung_shp _ HSane.out
  have HT : Hid (T32 c) := by show T32 c; rw [hc]; exact ung_T32 _ HSane.out HT32.out
  have HKdc : Hid (KdT c) := by show KdT c; rw [hc]; exact KdT.ung _ HKd.out
  have hbs : bsize c ≤ 4002 := by rw [hc]; exact Nat.le_trans (ung_size _) hsz
  have hbl := blen_size c
  have HFs0 := hide hfs0
  have HC0 := hide hc
  clear hc hP3 hOwn3 hRep3 hfs0 hkk hrep0 hnn hvn hnb
  go_wp2
  go_loopg [9] (blen c) (fun k v wr => ∃ (i : Nat) (fs : List (Nm × Nat)) (fa : Option Addr) (fc : Nat) (cs : List Value), v = .int .i64 i ∧ i + k = blen c ∧ fnsOf c = fs ++ fnsOf (dropT i c) ∧ fs.length ≤ i ∧ FnI w3 w2.heap.size va (blen c) vc fs wr fa fc cs)
  case atStart => exact ⟨0, [], none, 0, [], rfl, by omega, by rw [show dropT 0 c = c from by cases c <;> rfl]; rfl, Nat.le_refl _, ⟨HP3.out, World.ownsRow_nil _ _ _ _, fun j h => by simp at h, by simp [Value.ownBlock], Only.refl _ _⟩⟩
  case round =>
    clear p0 p1 fp lp x0 x1 fX lX
    obtain ⟨i, fs, fa, fc, fcs, rfl, hik, hfs, hfl, hI⟩ := hrel
    obtain ⟨p0, p1, fp, lp⟩ := blk2 hI.cell
    have hlsr := hI.only.size
    have HI := hide hI
    have HFs := hide hfs
    clear hI hfs
    by_cases hlt : i < blen c
    · have hk : ∀ g, (g < w2.heap.size ∧ w1.heap.size < g) → g < w3.heap.size → wr.heap[g]? = w3.heap[g]? ∧ (g < w2.heap.size ∧ w1.heap.size < g) := fun g hg hl => ⟨HI.out.only.block g hl (by omega), hg⟩
      obtain ⟨x, y, lab, cc, rr, hd', ln', mm, S', va2, vn2, vc2, pa2, pn2, pc2, c2, hrt, k0, k1, k2, k3, k4, k5⟩ := RepF.at' i c cs HShp.out (RepF.keep hk _ _ HRep3.out) hlt
      obtain ⟨gl, hla, _, hcap, lgl, hcell⟩ := own_row (HOwn3.out.keep hk).1 (by omega)
      subst hla
      have hgl := (HOwn3.out.keep hk).2 gl rfl
      have d0 := hcell _ _ k0
      have d1 := hcell _ _ k1
      have d2 := hcell _ _ k2
      have d3 := hcell _ _ k3
      have d4 := hcell _ _ k4
      have d5 := hcell _ _ k5
      have HDs := hide (dropT_succ i c x y lab cc rr hd')
      obtain ⟨h140, hok, _, _⟩ := prog_at ⟨0, 0, 0, 0, [], none, 0, 0, none, 0, 0⟩ i c HShp.out HKdc.out x y lab cc rr hd'
      have HRt := hide hrt
      have HD' := hide hd'
      clear hcell hd' hrt k0 k1 k2 k3 k4 k5 hk
      by_cases h20 : lab.kd = 20
      · have hIA : (isS lab.kd).toArray = #[102, 110] := by rw [h20]; rfl
        rw [hIA] at d0
        clear hIA
        obtain ⟨ys, hxo, hxm⟩ := HRt.out.prm h20
        have hpn : pn2 = ys.length := (own_cells hxo.1).1
        have hS : S' = lab.s := HRt.out.name (by rw [h20]; rfl)
        have hps : lab.ps.length = ys.length := by rw [← hxm]; simp
        have hpn2 : pn2 = lab.ps.length := by omega
        subst hS
        subst hpn2
        have HFn : Hid (fnsOf (dropT i c) = (lab.s, lab.ps.length) :: fnsOf (dropT (i + 1) c)) := by
          show _ = _
          rw [HD'.out, fnsOf_fn _ _ _ _ _ h20, HDs.out]
        have hown := HI.out.own
        have hlt1 := lt_one fs.length
        clear h20 hxo hxm hpn hps h140 hok HRt
        go_wp2
        go_region_law (refine step_app2 _ wr.heap.size zNd 41 (by show (wr.alloc _).heap[wr.heap.size]? = _; exact heap_alloc_new wr (.cells zNd 41)) rfl (.tmp 68) (.tmp 77) 36 rfl 0 6 96 (.agg #[.string ⟨#[]⟩, .int .i64 0, .string ⟨#[]⟩, .int .i64 0, .slice none 0 0, .slice none 0 0]) Tryz.underlying36 infoNode rfl (by omega) (.slice fa fs.length fc) fs.length fcs rfl rfl (hown.alloc _) rfl zNd_one (by omega) (by omega) (Nat.zero_le _) ?_; intro g2 cap2 w4 hown2 hgrow2 hat2 hg2; have hM := HI.out.mid (g2 := g2) (cap2 := cap2) (by omega) hown2 ⟨hgrow2.os, hgrow2.tape, hgrow2.output, hgrow2.size, hgrow2.block⟩ hat2; obtain ⟨q0, q1, fq, lq⟩ := blk2 hM.cell; obtain ⟨m0, m1, m2, m3, m4, m5⟩ := hM.zs; have fm := hM.frz; obtain ⟨lm, lcap⟩ := hM.lt; have hne := hM.ne; have HM := hide hM; clear hM hgrow2 hat2 hown2)
        all_goals
          go_wp2
          go_roundg (gk - 1)
          case measure => omega
          case rel =>
            refine ⟨i + 1, fs ++ [(lab.s, lab.ps.length)], some ⟨g2, 0, none⟩, cap2, fcs ++ [.string ⟨#[102, 110]⟩, .int .i64 ln', .string ⟨lab.s.toArray⟩, .int .i64 mm, .slice va2 vn2 vc2, .slice pa2 lab.ps.length pc2], rfl, by omega, by rw [HFs.out, HFn.out, List.append_assoc]; rfl, by simp; omega, ?_⟩
            have D1 := HM.out.done1 (.string ⟨#[102, 110]⟩) (.int .i64 ln') (.int .i64 mm) (.slice va2 vn2 vc2) lab.s lab.ps.length pa2 pc2
            have D2 := HM.out.done2 (.string ⟨#[102, 110]⟩) (.int .i64 ln') (.int .i64 mm) (.slice va2 vn2 vc2) lab.s lab.ps.length pa2 pc2
            first
              | with_reducible exact D1
              | with_reducible exact D2
      · have hne : (isS lab.kd == [102, 110]) = false := fn_name _ h140 hok h20
        have HFn : Hid (fnsOf (dropT i c) = fnsOf (dropT (i + 1) c)) := by
          show _ = _
          rw [HD'.out, fnsOf_st _ _ _ _ _ h20, HDs.out]
        clear h20 hok HRt
        go_wp2
        go_roundg (gk - 1)
        case measure => omega
        case rel => exact ⟨i + 1, fs, fa, fc, fcs, rfl, by omega, by rw [HFs.out, HFn.out], by omega, HI.out⟩
    · have hie : i = blen c := by omega
      have hfe : fnsOf c = fs := by
        have := HFs.out
        rw [hie, dropT_nil] at this
        simpa [fnsOf] using this
      have hR4 := (HI.out.only.block w.heap.size (by omega) (by omega)).trans HR3.out
      have HSt := hide (sense_new HI.out hfe (by omega))
      have hk : ∀ g, (g < w2.heap.size ∧ w1.heap.size < g) → g < w3.heap.size → (wr.alloc (.cells #[.pointer (some ⟨w2.heap.size, 0, none⟩), .slice none 0 0, .slice none 0 0, .int .i64 0, .int .i64 0, .bool false, .int .i64 0, .int .i64 0] 67)).heap[g]? = w3.heap[g]? ∧ (g < wr.heap.size) := fun g hg hl => ⟨(Below.heap_alloc _ _ _ (by omega)).trans (HI.out.only.block g hl (by omega)), by omega⟩
      have HAll := hide (all_any ⟨wr.heap.size, w2.heap.size, 67, 38, fnsOf c, va, blen c, vc, fa, fs.length, fc⟩ c cs _ _ (0, 0) HSt.out (HOwn3.out.keep hk) (RepF.keep hk _ _ HRep3.out) HShp.out HT.out HKdc.out rfl (by omega))
      have HFe := hide hfe
      have HR4 := hide hR4
      have HB4 : Hid (Below w.heap.size w wr) := ⟨HI.out.only.os.trans HB3.out.os, HI.out.only.tape.trans HB3.out.tape, HI.out.only.output.trans HB3.out.output, by omega, fun k hk => (HI.out.only.block k (by omega) (by omega)).trans (HB3.out.block k hk)⟩
      clear hk hfe hie hR4 HSt
      go_wp2_with fail
      refine HAll.out.mono ?_
      rintro e w5 ⟨rfl, cur', hs5, hb5⟩
      obtain ⟨na, nm, nc, ba, bm, bc, bs, hss⟩ := hs5.st
      obtain ⟨y0, y1, y2, y3, y4, y5, y6, y7, fy, ly⟩ := blk8 hss.cell
      replace ly : wr.heap.size < w5.heap.size := ly
      have hold : ∀ g, g < wr.heap.size → w5.heap[g]? = wr.heap[g]? := fun g hg => (hb5.block g hg).trans (Below.heap_alloc _ _ _ hg)
      have hR5 := (hold _ (by omega)).trans HR4.out
      have hP5 := (hold _ lp).trans HI.out.cell
      obtain ⟨x0, x1, fx, lx⟩ := blk2 hR5
      have ls5 := hb5.size
      rw [World.size_alloc] at ls5
      have HB5 : Hid (Below w.heap.size w w5) := ⟨hb5.os.trans HB4.out.os, hb5.tape.trans HB4.out.tape, hb5.output.trans HB4.out.output, by omega, fun k hk => (hold k (by omega)).trans (HB4.out.block k hk)⟩
      have hse : sensT (fnsOf c) c [] [] (0, 0) = sensT (fnsOf r.1) r.1 [] [] (0, 0) := by
        rw [HC0.out, fnsOf_ung _ HKd.out, sensT_ung _ _ HSane.out HKd.out]
      simp only [] at y6 y7
      rw [hse] at y6 y7
      have HP5 := hide hP5
      have HOld := hide hold
      clear hss hs5 hb5 hse hR5 hP5 hold HAll p0 p1 fp
      generalize hfl : sensT (fnsOf r.1) r.1 [] [] (0, 0) = fl at *
      have HFl := hide hfl
      clear hfl
      by_cases hs0 : fl.1 = 0
      · have HS0 := hide hs0
        rw [hs0] at y6
        clear hs0
        go_wp2
        refine bodyPost_ret (v := .tuple #[.pointer (some ⟨w2.heap.size, 0, none⟩), .agg #[.int .i64 0, .int .i64 0]]) (by simp [results, Tryz.results6, go_sem, x0, x1]) rfl ?_
        have hset : ∀ g, w.heap.size < g → ((w5.setCell ⟨w.heap.size, 0, none⟩ (.int .i64 0)).setCell ⟨w.heap.size, 1, none⟩ (.int .i64 0)).heap[g]? = w5.heap[g]? := by
          intro g hg
          rw [Below.heap_setCell _ _ _ _ (by show g ≠ w.heap.size; omega), Below.heap_setCell _ _ _ _ (by show g ≠ w.heap.size; omega)]
        refine ⟨?_, .inr ⟨by rw [HFl.out]; exact HS0.out, fs, w2.heap.size, va, blen c, vc, fa, fc, fcs, HFs0.out.symm.trans HFe.out, by omega, rfl, by omega, (hset _ (by omega)).trans HP5.out, ?_, HI.out.at', fun g e => by have := HI.out.lo g e; omega⟩⟩
        · repeat (first | exact HB5.out | refine Below.alloc ?_ (by simp [World.setCell]; omega) _ | refine Below.setCell ?_ (by simp) _ | refine Below.drew ?_)
        · exact own_same HI.out.own (fun k hk hl => (hset k (by have := HI.out.lo k hk; omega)).trans (HOld.out k hl))
      · have t4 : ((fl.1 : Int) == 0) = false := kn0' hs0
        have HS0 := hide hs0
        clear hs0
        go_wp2
        go_region
        all_goals go_wp2
        all_goals refine bodyPost_ret (v := .tuple #[.pointer none, .agg #[.int .i64 (fl.1 : Nat), .int .i64 (fl.2 : Nat)]]) (by simp [results, Tryz.results6, go_sem, x0, x1]) rfl ?_
        all_goals refine ⟨?_, .inl (by rw [HFl.out]; exact ⟨HS0.out, rfl⟩)⟩
        all_goals repeat (first | exact HB5.out | refine Below.alloc ?_ (by simp [World.setCell]; omega) _ | refine Below.setCell ?_ (by simp) _ | refine Below.drew ?_)
end Go.Proofs.YtgccmgjbbcndbaaGreatDoor
