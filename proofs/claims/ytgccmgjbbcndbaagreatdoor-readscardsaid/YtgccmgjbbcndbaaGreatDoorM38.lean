import Derived.Test.YtgccmgjbbcndbaaGreatDoorM37
import Derived.Test.YtgccmgjbbcndbaaGreatDoorM26
import Derived.Test.YtgccmgjbbcndbaaGreatDoorM28
/- Walks of the code's parser: params, function. -/
namespace Go.Proofs.YtgccmgjbbcndbaaGreatDoor
open Go.RowKit
open Go.Deep (BT)

theorem want_sticky {k : Nat} {s : PS} (h : (wantS k s).bad ≠ 0) (hs : s.bad ≠ 0 → s.ts = [endT]) : (wantS k s).ts = [endT] := by
  unfold wantS at h ⊢
  split
  · rename_i hk
    rw [if_pos hk, take_badC] at h
    unfold takeS
    rw [if_pos (by unfold kT hdT; rw [hs h]; rfl)]; exact hs h
  · unfold failS
    split
    · rfl
    · rename_i h0; exact hs h0

def PmPost (b tb cap te : Nat) (ts : List Tk) (w : World) (p : List (Nat × List UInt8) × PS) (e : Ending) (w' : World) : Prop :=
  ∃ va vn vc m cs, e = .returned (.slice va vn vc) ∧ OwnsD (fun g => w.heap.size ≤ g) w' 52 2 (.slice va vn vc) m cs ∧ PR b tb cap te ts w' p.2 ∧ Only b w w' ∧ (p.2.bad = 0 → m = p.1.length ∧ cs = prmC p.1)

def PmRel (b tb cap te : Nat) (ts : List Tk) (n : Nat) (p : List (Nat × List UInt8) × PS) (w : World) (k : Nat) (v : Value) (wr : World) : Prop :=
  ∃ (acc : List (Nat × List UInt8)) (st : PS) (va : Option Addr) (vn vc m : Nat) (cs : List Value), v = .slice va vn vc ∧ k ≤ n ∧ prms (k + 1) acc st = some p ∧ PR b tb cap te ts wr (wantS 1 st) ∧ Only b w wr ∧ m + k ≤ n + 1 ∧
    OwnsD (fun g => w.heap.size ≤ g) wr 52 2 (.slice va vn vc) m cs ∧ ((wantS 1 st).bad = 0 → m = acc.length + 1 ∧ cs = prmC (acc ++ [((hdT st).line, (hdT st).s)]))

theorem prmC_app (a b : List (Nat × List UInt8)) : prmC (a ++ b) = prmC a ++ prmC b := by simp [prmC]

set_option maxRecDepth 100000 in
set_option maxHeartbeats 4000000 in
theorem pparams_any {b tb cap te : Nat} {ts : List Tk} {n : Nat} (hn : n ≤ 500000) (w : World) (s : PS) (p : List (Nat × List UInt8) × PS) (hs : PR b tb cap te ts w s) (hp : params n (wantS 18 s) = some p) :
    Calls Tryz.prog 73 #[.pointer (some ⟨b, 0, none⟩)] w (PmPost b tb cap te ts w p) := by
  have HS := hide hs
  obtain ⟨lb, lt, lne⟩ := hs.lt
  by_cases c19 : kT (wantS 18 s) = 19
  · have HR : Hid (p = ([], takeS (wantS 18 s))) := by
      unfold params at hp
      rw [if_pos c19] at hp
      exact (Option.some.inj hp).symm
    have HW : Hid (wantS 19 (wantS 18 s) = takeS (wantS 18 s)) := by show _ = _; rw [wantS, if_pos c19]
    have tk : ((kT (wantS 18 s) : Int) != 19) = false := by rw [c19]; rfl
    clear c19 hp hs
    go_enter Tryz.func73, Tryz.ntmps73
    go_wp2_with fail
    refine (want_any HS.out 18).mono ?_
    rintro e w1 ⟨kk1, ln1, nn1, S1, rfl, htk1, h1, ho1⟩
    have HP1 := hide ho1
    have HO1 : Hid (Only b w w1) := (Only.refl b w).trans HP1.out
    have lw1 := HO1.out.size
    have HTk1 := hide htk1
    have H1 := hide h1
    clear h1 ho1 htk1
    go_wp2_with fail
    refine (kind_any H1.out).mono ?_
    rintro e w2 ⟨rfl, h2, hb2⟩
    have HP2 := hide (Below.only (b := b) hb2)
    have HO2 : Hid (Only b w w2) := HO1.out.trans HP2.out
    have lw2 := HO2.out.size
    have H2 := hide h2
    clear h2 hb2
    go_wp2_with fail
    refine (want_any H2.out 19).mono ?_
    rintro e w3 ⟨kk3, ln3, nn3, S3, rfl, htk3, h3, ho3⟩
    have HP3 := hide ho3
    have HO3 : Hid (Only b w w3) := HO2.out.trans HP3.out
    have lw3 := HO3.out.size
    have HTk3 := hide htk3
    rw [HW.out] at h3
    have H3 := hide h3
    clear h3 ho3 htk3
    go_wp2
    go_ret
    rw [HR.out]
    exact ⟨none, 0, 0, 0, [], rfl, own_nil _ _ _ _, H3.out, HO3.out, fun _ => ⟨rfl, rfl⟩⟩
  · have hq : prms n [] (wantS 18 s) = some p := by
      unfold params at hp
      rw [if_neg c19] at hp
      exact hp
    obtain ⟨n, rfl⟩ : ∃ n', n = n' + 1 := by
      cases n with
      | zero => rw [prms] at hq; cases hq
      | succ n => exact ⟨n, rfl⟩
    have HQ := hide hq
    have tk : ((kT (wantS 18 s) : Int) != 19) = true := by simp; omega
    clear c19 hp hs hq
    go_enter Tryz.func73, Tryz.ntmps73
    go_wp2_with fail
    refine (want_any HS.out 18).mono ?_
    rintro e w1 ⟨kk1, ln1, nn1, S1, rfl, htk1, h1, ho1⟩
    have HP1 := hide ho1
    have HO1 : Hid (Only b w w1) := (Only.refl b w).trans HP1.out
    have lw1 := HO1.out.size
    have HTk1 := hide htk1
    have H1 := hide h1
    clear h1 ho1 htk1
    go_wp2_with fail
    refine (kind_any H1.out).mono ?_
    rintro e w2 ⟨rfl, h2, hb2⟩
    have HP2 := hide (Below.only (b := b) hb2)
    have HO2 : Hid (Only b w w2) := HO1.out.trans HP2.out
    have lw2 := HO2.out.size
    have H2 := hide h2
    clear h2 hb2
    go_wp2_with fail
    refine (ident_any H2.out).mono ?_
    rintro e w3 ⟨ln3, S3, rfl, htk3, h3, ho3⟩
    have HP3 := hide ho3
    have HO3 : Hid (Only b w w3) := HO2.out.trans HP3.out
    have lw3 := HO3.out.size
    have HTk3 := hide htk3
    have H3 := hide h3
    clear h3 ho3 htk3
    go_wp2_with (at_builtin; refine wpl_app w3 #[.int .i64 ln3, .string ⟨S3.toArray⟩] 52 rfl (.tmp 9) (.tmp 12) 53 rfl 0 2 24 (.agg #[.int .i64 0, .string ⟨#[]⟩]) Tryz.underlying53 infoIdent rfl (by omega) (.slice none 0 0) 0 [] rfl rfl (World.ownsRow_nil _ _ _ _) rfl (fun u hu => by simp at hu; rcases hu with rfl | rfl <;> rfl) (by omega) (by omega) (Nat.zero_le _) ?_; intro g cap1 w4 hown4 hgrow hat hg)
    replace hgrow : w3.grownBy w4 (Value.slice none 0 0).ownBlock := hgrow
    have hat : (Value.slice none 0 0).ownBlock = some g ∨ g = w3.heap.size + 1 := hat
    have HGg : Hid (g = w3.heap.size + 1) := by rcases hat with h | h; simp [Value.ownBlock] at h; exact h
    have HRel : Hid (PmRel b tb cap te ts n p w n (.slice (some ⟨g, 0, none⟩) 1 cap1) w4) := by
      refine ⟨[], wantS 18 s, some ⟨g, 0, none⟩, 1, cap1, 1, _, rfl, Nat.le_refl _, HQ.out, PR.grown H3.out hgrow (by simp [Value.ownBlock]) (by simp [Value.ownBlock]), HO3.out.grown hgrow (by simp [Value.ownBlock]), by omega, ⟨hown4, fun k hk => ?_⟩, fun hb => ⟨rfl, ?_⟩⟩
      · simp only [Value.ownBlock, Option.some.injEq] at hk; have := HGg.out; show w.heap.size ≤ k; omega
      · rw [(HTk3.out hb).1, (HTk3.out hb).2]; rfl
    clear hgrow hat hown4 hg
    go_wp2
    go_loopg [3] n (fun k v wr => PmRel b tb cap te ts n p w k v wr)
    case atStart => exact HRel.out
    case round =>
      clear HRel HQ H1 H2 H3 HO1 HO2 HO3 HP1 HP2 HP3 HTk1 HTk3 HS HGg
      obtain ⟨acc, st, va, vn, vc, m, cs, rfl, hkn, hpk, hrs, hO, hcn, hown, hrep⟩ := hrel
      have HRS := hide hrs
      have HOr := hide hO
      have HOwn := hide hown
      have HRep := hide hrep
      have lwr := hO.size
      have hne : (Value.slice va vn vc).ownBlock ≠ some b := fun e => by have h : w.heap.size ≤ b := hown.2 b e; omega
      by_cases c24 : kT (wantS 1 st) = 24
      · have hz := prms_more c24 hpk
        cases gk with
        | zero => rw [prms] at hz; cases hz
        | succ q =>
        have HZ := hide hz
        have tk : (kT (wantS 1 st) == 24) = true := by simpa using c24
        have HM : Hid (mayS 24 (wantS 1 st) = takeS (wantS 1 st)) := by show _ = _; unfold mayS; rw [if_pos c24]
        have HB0 : Hid ((wantS 1 st).bad = 0) := hrs.notEnd (by omega)
        clear hz c24 hpk hrs hO hown hrep
        go_wp2_with fail
        refine (accept_any HRS.out 24).mono ?_
        rintro e w5 ⟨rfl, h5, ho5⟩
        have HP5 := hide ho5
        have HO5 : Hid (Only b wr w5) := (Only.refl b wr).trans HP5.out
        have lw5 := HO5.out.size
        rw [tk]
        rw [HM.out] at h5
        have H5 := hide h5
        clear h5 ho5
        go_wp2_with fail
        refine (ident_any H5.out).mono ?_
        rintro e w6 ⟨ln6, S6, rfl, htk6, h6, ho6⟩
        have HP6 := hide ho6
        have HO6 : Hid (Only b wr w6) := HO5.out.trans HP6.out
        have lw6 := HO6.out.size
        have HTk6 := hide htk6
        have H6 := hide h6
        clear h6 ho6 htk6
        have hown6 : w6.ownsRow 0 52 2 (.slice va vn vc) m cs := own_same HOwn.out.1 (fun k hk hl => HO6.out.block k hl (fun e => hne (by rw [← e]; exact hk)))
        go_wp2_with (at_builtin; refine wpl_app w6 #[.int .i64 ln6, .string ⟨S6.toArray⟩] 52 rfl (.tmp 16) (.tmp 19) 53 rfl 0 2 24 (.agg #[.int .i64 0, .string ⟨#[]⟩]) Tryz.underlying53 infoIdent rfl (by omega) _ _ _ rfl rfl hown6 rfl (fun u hu => by simp at hu; rcases hu with rfl | rfl <;> rfl) (by omega) (by omega) (Nat.zero_le _) ?_; intro g7 cap7 w7 hown7 hgrow7 hat7 hg7)
        replace hgrow7 : w6.grownBy w7 (Value.slice va vn vc).ownBlock := hgrow7
        replace hat7 : (Value.slice va vn vc).ownBlock = some g7 ∨ g7 = w6.heap.size + 1 := hat7
        have hrow : ∀ k, (Value.slice va vn vc).ownBlock = some k → k ≠ b ∧ k ≠ tb ∧ w.heap.size ≤ k := fun k e => by have h : w.heap.size ≤ k := HOwn.out.2 k e; omega
        go_roundg q
        case measure => omega
        case rel =>
          refine ⟨acc ++ [((hdT st).line, (hdT st).s)], takeS (wantS 1 st), some ⟨g7, 0, none⟩, m + 1, cap7, m + 1, _, rfl, by omega, HZ.out, PR.grown H6.out hgrow7 (fun e => (hrow b e).1 rfl) (fun e => (hrow tb e).2.1 rfl), (HOr.out.trans HO6.out).grown hgrow7 (fun k e => .inr (hrow k e).2.2), by omega, ⟨hown7, fun k hk => ?_⟩, fun hb => ?_⟩
          · simp only [Value.ownBlock, Option.some.injEq] at hk
            rw [← hk]
            rcases hat7 with h | h
            · exact (hrow g7 h).2.2
            · show w.heap.size ≤ g7; omega
          · have h1 := HRep.out HB0.out
            refine ⟨by rw [h1.1]; simp, ?_⟩
            rw [h1.2, (HTk6.out hb).1, (HTk6.out hb).2, prmC_app (acc ++ _)]; rfl
      · have HE := hide (prms_last c24 hpk)
        have tk : (kT (wantS 1 st) == 24) = false := by simpa using c24
        have HM : Hid (mayS 24 (wantS 1 st) = wantS 1 st) := by show _ = _; unfold mayS; rw [if_neg c24]
        clear c24 hpk hrs hO hown hrep
        go_wp2_with fail
        refine (accept_any HRS.out 24).mono ?_
        rintro e w5 ⟨rfl, h5, ho5⟩
        have HP5 := hide ho5
        have HO5 : Hid (Only b wr w5) := (Only.refl b wr).trans HP5.out
        have lw5 := HO5.out.size
        rw [tk]
        rw [HM.out] at h5
        have H5 := hide h5
        clear h5 ho5
        go_wp2_with fail
        refine (want_any H5.out 19).mono ?_
        rintro e w6 ⟨kk6, ln6, nn6, S6, rfl, htk6, h6, ho6⟩
        have HP6 := hide ho6
        have HO6 : Hid (Only b wr w6) := HO5.out.trans HP6.out
        have lw6 := HO6.out.size
        have HTk6 := hide htk6
        have H6 := hide h6
        clear h6 ho6 htk6
        go_wp2
        go_ret
        rw [HE.out]
        refine ⟨va, vn, vc, m, cs, rfl, ⟨own_same HOwn.out.1 (fun k hk hl => HO6.out.block k hl (fun e => hne (by rw [← e]; exact hk))), HOwn.out.2⟩, H6.out, HOr.out.trans HO6.out, fun hb => ?_⟩
        have h1 := HRep.out (want_goodC hb)
        exact ⟨by rw [h1.1]; simp, h1.2⟩

theorem OwnsD.of {D D' : Nat → Prop} {w w' : World} {e : TypeId} {size : Nat} {v : Value} {n : Nat} {cs : List Value} (h : OwnsD D w e size v n cs) (hk : ∀ g, D g → g < w.heap.size → w'.heap[g]? = w.heap[g]?) (hd : ∀ g, D g → D' g) : OwnsD D' w' e size v n cs :=
  h.keep (fun g hg hl => ⟨hk g hg hl, hd g hg⟩)
theorem params_good {n : Nat} {s : PS} {p : List (Nat × List UInt8) × PS} (hs : s.bad ≠ 0 → s.ts = [endT]) (h : params n s = some p) (hb : p.2.bad = 0) : s.bad = 0 := by
  by_cases h0 : s.bad = 0
  · exact h0
  · rw [params_sticky (hs h0) h0 n p h] at hb; exact absurd hb h0

set_option maxRecDepth 100000 in
set_option maxHeartbeats 4000000 in
theorem pfunc_any {b tb cap te : Nat} {ts : List Tk} {n : Nat} (ih : CodePars b tb cap te ts n) (hn : n ≤ 500000) (w : World) (s : PS) (r : BT Lab × PS) (hk : kT s = 4) (hs : PR b tb cap te ts w s) (hp : pars (n + 1) 11 0 .nil s = some r) :
    Calls Tryz.prog 55 #[.pointer (some ⟨b, 0, none⟩)] w (ExPost b tb cap te ts w r) := by
  obtain ⟨p, bl, hpm, hbl, hr⟩ := pars_fn hp
  have HS := hide hs
  have lb := hs.lt
  have HR := hide hr
  have HBp := hide hbl
  have HPp := hide hpm
  have HW : Hid (wantS 4 s = takeS s) := by show _ = _; unfold wantS; rw [if_pos hk]
  have HPm := hide (fun (W : World) (h : PR b tb cap te ts W (wantS 1 (takeS s))) => pparams_any hn W (wantS 1 (takeS s)) p h hpm)
  have HBl := hide (fun (W : World) (h : PR b tb cap te ts W p.2) => ih.block W p.2 bl h hbl)
  clear hp hs hk hpm hbl hr
  go_enter Tryz.func55, Tryz.ntmps55
  go_wp2_with fail
  refine (want_any HS.out 4).mono ?_
  rintro e w1 ⟨kk1, ln1, nn1, S1, rfl, htk1, h1, ho1⟩
  have HP1 := hide ho1
  have HO1 : Hid (Only b w w1) := (Only.refl b w).trans HP1.out
  have lw1 := HO1.out.size
  have HTk1 := hide htk1
  rw [HW.out] at h1
  have H1 := hide h1
  clear h1 ho1 htk1
  go_wp2_with fail
  refine (ident_any H1.out).mono ?_
  rintro e w2 ⟨ln2, S2, rfl, htk2, h2, ho2⟩
  have HP2 := hide ho2
  have HO2 : Hid (Only b w w2) := HO1.out.trans HP2.out
  have lw2 := HO2.out.size
  have HTk2 := hide htk2
  have H2 := hide h2
  clear h2 ho2 htk2
  go_wp2_with fail
  refine (HPm.out _ H2.out).mono ?_
  rintro e w3 ⟨va3, vn3, vc3, m3, cs3, rfl, hown3, h3, ho3, hr3⟩
  have HP3 := hide ho3
  have HO3 : Hid (Only b w w3) := HO2.out.trans HP3.out
  have lw3 := HO3.out.size
  have HR3 := hide hr3
  have HOwn3 := hide hown3
  have H3 := hide h3
  clear h3 ho3 hr3 hown3
  go_wp2_with fail
  refine (HBl.out _ H3.out).mono ?_
  rintro e w4 ⟨va4, vn4, vc4, cs4, rfl, hown4, h4, ho4, hr4⟩
  have HP4 := hide ho4
  have HO4 : Hid (Only b w w4) := HO3.out.trans HP4.out
  have lw4 := HO4.out.size
  have HR4 := hide hr4
  have HOwn4 := hide hown4
  have H4 := hide h4
  clear h4 ho4 hr4 hown4
  go_wp2
  go_ret
  rw [HR.out]
  refine ex_close (l := ⟨20, (hdT (takeS s)).line, (hdT (takeS s)).s, 0, p.1⟩) (ch := bl.1) (ks := cs4) (cs := #[.int .i64 ln2, .string ⟨S2.toArray⟩, .slice va3 vn3 vc3, .slice va4 vn4 vc4]) H4.out HO4.out rfl (by simp) rfl rfl (fun hb => ?_)
  have hb3 := pars_good H3.out.sticky HBp.out hb
  have hb2 : (wantS 1 (takeS s)).bad = 0 := want_goodC (params_good (fun h => ?_) HPp.out hb3)
  · have h3 := HR3.out hb3
    refine ⟨⟨.slice va3 vn3 vc3, .slice va4 vn4 vc4, ?_, HOwn4.out.keep (fun k hk _ => ⟨rfl, by have h : w3.heap.size ≤ k := hk; omega⟩), ?_⟩, RepC.weak (by omega) (HR4.out hb)⟩
    · rw [(HTk2.out hb2).1, (HTk2.out hb2).2]; rfl
    · show OwnsD _ _ _ _ _ p.1.length (prmC p.1)
      rw [← h3.1, ← h3.2]
      exact HOwn3.out.keep (fun k hk hl => ⟨HP4.out.block k hl (by have h : w2.heap.size ≤ k := hk; omega), by have h : w2.heap.size ≤ k := hk; omega⟩)
  · exact want_sticky h H2.out.sticky

end Go.Proofs.YtgccmgjbbcndbaaGreatDoor
/- Walks of the code's parser: program. -/
namespace Go.Proofs.YtgccmgjbbcndbaaGreatDoor
open Go.RowKit
open Go.Deep (BT)

def PgRel (b tb cap te : Nat) (ts : List Tk) (n : Nat) (r : BT Lab × PS) (w : World) (k : Nat) (wr : World) : Prop :=
  ∃ (acc : BT Lab) (st : PS) (va : Option Addr) (vn vc : Nat) (cs : List Value), k ≤ n ∧ pars k 10 0 acc st = some r ∧ PR b tb cap te ts wr st ∧ Only b w wr ∧ cs.length + k ≤ n + 1 ∧
    wr.heap[w.heap.size]? = some (.cells #[.slice va vn vc] 74 (0, 0)) ∧
    OwnsD (fun g => w.heap.size < g) wr 76 1 (.slice va vn vc) cs.length cs ∧ (st.bad = 0 → RepC (fun g => w.heap.size < g ∧ (Value.slice va vn vc).ownBlock ≠ some g) wr acc cs)

def PgPost (b tb cap te : Nat) (ts : List Tk) (w : World) (r : BT Lab × PS) (e : Ending) (w' : World) : Prop :=
  ∃ va vn vc cs, e = .returned (.pointer (some ⟨w.heap.size, 0, none⟩)) ∧ w'.heap[w.heap.size]? = some (.cells #[.slice va vn vc] 74 (0, 0)) ∧
    OwnsD (fun g => w.heap.size < g) w' 76 1 (.slice va vn vc) cs.length cs ∧ PR b tb cap te ts w' r.2 ∧ Only b w w' ∧ (r.2.bad = 0 → RepC (fun g => w.heap.size < g) w' r.1 cs)

theorem blk1 {w : World} {g : Nat} {a0 : Value} {t : TypeId} (h : w.heap[g]? = some (.cells #[a0] t (0, 0))) : w.cell? ⟨g, 0, none⟩ = some a0 ∧ (∀ o, w.frozen? ⟨g, o, none⟩ = false) ∧ g < w.heap.size := ⟨cell_row h 0 _ rfl, frozen_row h, heap_lt h⟩

/- appC where the row and the trees lie above a block, and another world lies between -/
theorem appC2 {b n g X : Nat} {wr w4 w5 : World} {T : TypeId} {v val : Value} {m : Nat} {cs cs0 : List Value} {acc x : BT Lab} (hb : b ≤ n) (hn : n < wr.heap.size) (hr : RepC (fun g => n < g ∧ v.ownBlock ≠ some g) wr acc cs) (ho : Only b wr w4) (hx : RepC (fun g => wr.heap.size ≤ g) w4 x [val]) (hown : wr.ownsRow 0 T 1 v m cs0)
    (hgrow : w4.grownBy w5 v.ownBlock) (hX : X ≤ n) (hat : v.ownBlock = some g ∨ g = w4.heap.size + 1) (u : Value) : RepC (fun k => n < k ∧ (some g : Option Nat) ≠ some k) (w5.setCell ⟨X, 0, none⟩ u) (bapp acc x) (cs ++ [val]) := by
  have hlt := own_lt hown
  have hs := ho.size
  have hset : ∀ k, n < k → (w5.setCell ⟨X, 0, none⟩ u).heap[k]? = w5.heap[k]? := fun k hk => Below.heap_setCell _ _ _ _ (by show k ≠ X; omega)
  refine RepC.app _ _ _ _ (RepC.keep ?_ _ _ hr) (RepC.keep ?_ _ _ hx)
  · intro k ⟨h1, h2⟩ hk
    refine ⟨(hset k h1).trans ((hgrow.block k (by omega) (fun e => h2 e.symm)).trans (ho.block k hk (by omega))), h1, fun e => ?_⟩
    have e := Option.some.inj e
    subst e
    rcases hat with h | h
    · exact h2 h
    · omega
  · intro k h1 hk
    refine ⟨(hset k (by omega)).trans (hgrow.block k hk (fun e => ?_)), by omega, fun e => ?_⟩
    · have := hlt k e.symm; omega
    · have e := Option.some.inj e
      subst e
      rcases hat with h | h
      · have := hlt g h; omega
      · omega

set_option maxRecDepth 100000 in
set_option maxHeartbeats 4000000 in
theorem pprog_any {b tb cap te : Nat} {ts : List Tk} {n : Nat} (hn : n ≤ 500000) (w : World) (s : PS) (r : BT Lab × PS) (hs : PR b tb cap te ts w s) (hp : pars n 10 0 .nil s = some r) :
    Calls Tryz.prog 28 #[.pointer (some ⟨b, 0, none⟩)] w (PgPost b tb cap te ts w r) := by
  have HS := hide hs
  obtain ⟨lb, lt, lne⟩ := hs.lt
  have HP0 := hide hp
  clear hp hs
  go_enter Tryz.func28, Tryz.ntmps28
  go_wp2
  go_loopg [] n (fun k wr => PgRel b tb cap te ts n r w k wr)
  case atStart => exact ⟨.nil, s, none, 0, 0, [], Nat.le_refl _, HP0.out, PR.alloc HS.out _, (Only.refl _ _).alloc _, by simp, heap_alloc_new _ _, own_nil _ _ _ _, fun _ => rfl⟩
  case round =>
    clear HP0 HS
    obtain ⟨acc, st, va, vn, vc, cs, hkn, hpk, hrs, hO, hcn, hpb, hown, hrep⟩ := hrel
    cases gk with
    | zero => exact absurd hpk (pars_zero _ _ _ _ _)
    | succ m =>
    have HRS := hide hrs
    have HOr := hide hO
    have HOwn := hide hown
    have HRep := hide hrep
    have HPb := hide hpb
    have lwr := hO.size
    have hrow : ∀ k, (Value.slice va vn vc).ownBlock = some k → k ≠ b ∧ k ≠ tb ∧ w.heap.size < k := fun k e => by have h : w.heap.size < k := hown.2 k e; omega
    have HRow := hide hrow
    have lpb := heap_lt hpb
    by_cases c0 : kT st = 0
    · have HE := hide (pars_pend c0 hpk)
      have tk : ((kT st : Int) != 0) = false := by rw [c0]; rfl
      clear c0 hpk hrs hO hrep hown hpb
      go_wp2_with fail
      refine (kind_any HRS.out).mono ?_
      rintro e w1 ⟨rfl, h1, hb1⟩
      have H1 := hide h1
      have HP1 := hide hb1
      clear h1 hb1
      go_wp2
      go_ret
      rw [HE.out]
      exact ⟨va, vn, vc, cs, rfl, bblk HP1.out HPb.out, HOwn.out.keep (fun k hk hl => ⟨HP1.out.block k hl, hk⟩), H1.out, HOr.out.trans (Below.only HP1.out), fun hb => RepC.keep (fun k hk hl => ⟨HP1.out.block k hl, hk.1⟩) _ _ (HRep.out hb)⟩
    · have HB0 : Hid (st.bad = 0) := hrs.notEnd c0
      have tk : ((kT st : Int) != 0) = true := by simpa using c0
      by_cases c4 : kT st = 4
      · obtain ⟨z, hz1, hz2⟩ := pars_pfn c4 hpk
        have hm0 : m ≠ 0 := by intro e; subst e; exact absurd hz1 (pars_zero _ _ _ _ _)
        obtain ⟨q, rfl⟩ : ∃ q, m = q + 1 := ⟨m - 1, by omega⟩
        have HZ2 := hide hz2
        have HX := hide (fun (W : World) (h : PR b tb cap te ts W st) => pfunc_any (codePars q q (Nat.le_refl _) (by omega)) (by omega) W st z c4 h hz1)
        have tk4 : ((kT st : Int) == 4) = true := ke (c := 4) rfl c4
        clear c0 c4 hpk hrs hO hrep hown hz1 hz2 hpb hrow
        go_wp2_with fail
        refine (kind_any HRS.out).mono ?_
        rintro e w1 ⟨rfl, h1, hb1⟩
        have H1 := hide h1
        have HP1 := hide hb1
        clear h1 hb1
        go_wp2_with fail
        refine (kind_any H1.out).mono ?_
        rintro e w2 ⟨rfl, h2, hb2⟩
        have H2 := hide h2
        have HB2 : Hid (Below wr.heap.size wr w2) := HP1.out.trans (hb2.mono HP1.out.size)
        have hpb2 := bblk HB2.out HPb.out
        obtain ⟨y0, fy, ly⟩ := blk1 hpb2
        have HPb2 := hide hpb2
        have lw2 := HB2.out.size
        clear h2 hb2 hpb2
        have HXd := hide (HX.out _ H2.out.drew)
        go_wp2
        go_region_law (first
          | (refine step_app2 _ w5.heap.size #[.iface ty5 x5] 76 (heap_alloc_new w5 (.cells #[.iface ty5 x5] 76)) rfl (.tmp 16) (.tmp 19) 54 rfl 0 1 16 .nilIface Tryz.underlying54 infoStmt rfl (by omega) (.slice va vn vc) cs.length cs rfl rfl (hown5.alloc _) rfl (fun u hu => by simp at hu; rw [hu]; rfl) (by omega) (by omega) (Nat.zero_le _) ?_; intro g6 cap6 w6 hown6 hgrow6' hat6' hg6; have hgrow6 : w5.grownBy w6 (Value.slice va vn vc).ownBlock := grown_trans (World.grownBy_alloc w5 (.cells #[.iface ty5 x5] 76) none) hgrow6'; have hat6 : (Value.slice va vn vc).ownBlock = some g6 ∨ g6 = w5.heap.size + 1 := (hat6'.imp id (fun e => e.trans (by simp))); have hpb6 := (hgrow6.block w.heap.size (heap_lt HPb5.out) (fun e => by have := HRow.out _ e.symm; omega)).trans HPb5.out; have HPb6 := hide hpb6; obtain ⟨q0, fq, lq⟩ := blk1 hpb6; clear hpb6 hgrow6' hat6')
          | (refine step_call rfl 55 _ _ rfl #[.pointer (some ⟨b, 0, none⟩)] (by kernel_rfl) HXd.out ?_; rintro e w5 ⟨ty5, x5, rfl, h5, ho5, hr5⟩; refine ⟨_, rfl, ?_⟩; have hpb5 := ho5.blk (show w2.drew.heap[w.heap.size]? = _ from HPb2.out) (by omega); have HPb5 := hide hpb5; obtain ⟨z0, fz, lz⟩ := blk1 hpb5; have hown5 : w5.ownsRow 0 76 1 (.slice va vn vc) cs.length cs := own_same HOwn.out.1 (fun k hk hl => ((ho5.block k (Nat.lt_of_lt_of_le hl HB2.out.size) (HRow.out k hk).1).trans (HB2.out.block k hl))); clear hpb5))
        all_goals
          go_wp2
          go_roundg (q + 1)
          case measure => omega
          case rel =>
            have lw5 := ho5.size
            replace lw5 : w2.heap.size ≤ w5.heap.size := lw5
            have hb25 : Only b wr w5 := (Below.only HB2.out).drew.trans ho5
            have hne6 : ∀ k, k ≠ w.heap.size → (w6.setCell ⟨w.heap.size, 0, none⟩ (.slice (some ⟨g6, 0, none⟩) (cs.length + 1) cap6)).heap[k]? = w6.heap[k]? := fun k hk => Below.heap_setCell _ _ _ _ (by exact hk)
            have hg6' : w.heap.size < g6 := by
              rcases hat6 with h | h
              · exact (HRow.out g6 h).2.2
              · omega
            refine ⟨bapp acc z.1, z.2, some ⟨g6, 0, none⟩, cs.length + 1, cap6, cs ++ [.iface ty5 x5], by omega, HZ2.out, PR.other (PR.grown h5 hgrow6 (fun e => (HRow.out b e).1 rfl) (fun e => (HRow.out tb e).2.1 rfl)) (by show b ≠ w.heap.size; omega) (by show tb ≠ w.heap.size; omega) _, Only.set (p := ⟨w.heap.size, 0, none⟩) ((HOr.out.trans hb25).grown hgrow6 (fun k e => .inr (by have := (HRow.out k e).2.2; omega))) (.inr (Nat.le_refl _)) _, by simp; omega, ?_, ⟨own_same (by simpa using hown6) (fun k hk _ => hne6 k ?_), fun k hk => ?_⟩, fun hb => ?_⟩
            · have := heap_set (j := 0) HPb6.out (.slice (some ⟨g6, 0, none⟩) (cs.length + 1) cap6)
              simpa using this
            · simp only [Value.ownBlock, Option.some.injEq] at hk
              omega
            · simp only [Value.ownBlock, Option.some.injEq] at hk
              rw [← hk]; exact hg6'
            · exact appC2 (by omega) lpb (HRep.out HB0.out) hb25 (RepC.weak (by show wr.heap.size ≤ w2.heap.size; omega) (hr5 hb)) HOwn.out.1 hgrow6 (Nat.le_refl _) hat6 _
      · obtain ⟨z, hz1, hz2⟩ := pars_pst c0 c4 hpk
        have HZ2 := hide hz2
        have HX := hide (fun (W : World) (h : PR b tb cap te ts W st) => (codePars m m (Nat.le_refl _) (by omega)).stmt W st z h hz1)
        have tk4 : ((kT st : Int) == 4) = false := kn (c := 4) rfl c4
        clear c0 c4 hpk hrs hO hrep hown hz1 hz2 hpb hrow
        go_wp2_with fail
        refine (kind_any HRS.out).mono ?_
        rintro e w1 ⟨rfl, h1, hb1⟩
        have H1 := hide h1
        have HP1 := hide hb1
        clear h1 hb1
        go_wp2_with fail
        refine (kind_any H1.out).mono ?_
        rintro e w2 ⟨rfl, h2, hb2⟩
        have H2 := hide h2
        have HB2 : Hid (Below wr.heap.size wr w2) := HP1.out.trans (hb2.mono HP1.out.size)
        have hpb2 := bblk HB2.out HPb.out
        obtain ⟨y0, fy, ly⟩ := blk1 hpb2
        have HPb2 := hide hpb2
        have lw2 := HB2.out.size
        clear h2 hb2 hpb2
        have HXd := hide (HX.out _ H2.out.drew)
        go_wp2
        go_region_law (first
          | (refine step_app2 _ w5.heap.size #[.iface ty5 x5] 76 (heap_alloc_new w5 (.cells #[.iface ty5 x5] 76)) rfl (.tmp 27) (.tmp 30) 54 rfl 0 1 16 .nilIface Tryz.underlying54 infoStmt rfl (by omega) (.slice va vn vc) cs.length cs rfl rfl (hown5.alloc _) rfl (fun u hu => by simp at hu; rw [hu]; rfl) (by omega) (by omega) (Nat.zero_le _) ?_; intro g6 cap6 w6 hown6 hgrow6' hat6' hg6; have hgrow6 : w5.grownBy w6 (Value.slice va vn vc).ownBlock := grown_trans (World.grownBy_alloc w5 (.cells #[.iface ty5 x5] 76) none) hgrow6'; have hat6 : (Value.slice va vn vc).ownBlock = some g6 ∨ g6 = w5.heap.size + 1 := (hat6'.imp id (fun e => e.trans (by simp))); have hpb6 := (hgrow6.block w.heap.size (heap_lt HPb5.out) (fun e => by have := HRow.out _ e.symm; omega)).trans HPb5.out; have HPb6 := hide hpb6; obtain ⟨q0, fq, lq⟩ := blk1 hpb6; clear hpb6 hgrow6' hat6')
          | (refine step_call rfl 56 _ _ rfl #[.pointer (some ⟨b, 0, none⟩)] (by kernel_rfl) HXd.out ?_; rintro e w5 ⟨ty5, x5, rfl, h5, ho5, hr5⟩; refine ⟨_, rfl, ?_⟩; have hpb5 := ho5.blk (show w2.drew.heap[w.heap.size]? = _ from HPb2.out) (by omega); have HPb5 := hide hpb5; obtain ⟨z0, fz, lz⟩ := blk1 hpb5; have hown5 : w5.ownsRow 0 76 1 (.slice va vn vc) cs.length cs := own_same HOwn.out.1 (fun k hk hl => ((ho5.block k (Nat.lt_of_lt_of_le hl HB2.out.size) (HRow.out k hk).1).trans (HB2.out.block k hl))); clear hpb5))
        all_goals
          go_wp2
          go_roundg m
          case measure => omega
          case rel =>
            have lw5 := ho5.size
            replace lw5 : w2.heap.size ≤ w5.heap.size := lw5
            have hb25 : Only b wr w5 := (Below.only HB2.out).drew.trans ho5
            have hne6 : ∀ k, k ≠ w.heap.size → (w6.setCell ⟨w.heap.size, 0, none⟩ (.slice (some ⟨g6, 0, none⟩) (cs.length + 1) cap6)).heap[k]? = w6.heap[k]? := fun k hk => Below.heap_setCell _ _ _ _ (by exact hk)
            have hg6' : w.heap.size < g6 := by
              rcases hat6 with h | h
              · exact (HRow.out g6 h).2.2
              · omega
            refine ⟨bapp acc z.1, z.2, some ⟨g6, 0, none⟩, cs.length + 1, cap6, cs ++ [.iface ty5 x5], by omega, HZ2.out, PR.other (PR.grown h5 hgrow6 (fun e => (HRow.out b e).1 rfl) (fun e => (HRow.out tb e).2.1 rfl)) (by show b ≠ w.heap.size; omega) (by show tb ≠ w.heap.size; omega) _, Only.set (p := ⟨w.heap.size, 0, none⟩) ((HOr.out.trans hb25).grown hgrow6 (fun k e => .inr (by have := (HRow.out k e).2.2; omega))) (.inr (Nat.le_refl _)) _, by simp; omega, ?_, ⟨own_same (by simpa using hown6) (fun k hk _ => hne6 k ?_), fun k hk => ?_⟩, fun hb => ?_⟩
            · have := heap_set (j := 0) HPb6.out (.slice (some ⟨g6, 0, none⟩) (cs.length + 1) cap6)
              simpa using this
            · simp only [Value.ownBlock, Option.some.injEq] at hk
              omega
            · simp only [Value.ownBlock, Option.some.injEq] at hk
              rw [← hk]; exact hg6'
            · exact appC2 (by omega) lpb (HRep.out HB0.out) hb25 (RepC.weak (by show wr.heap.size ≤ w2.heap.size; omega) (hr5 hb)) HOwn.out.1 hgrow6 (Nat.le_refl _) hat6 _
end Go.Proofs.YtgccmgjbbcndbaaGreatDoor
