import Derived.Test.YtgccmgjbbcndbaaGreatDoorM34
import Derived.Deep.LoopGhost
import Derived.Deep.RegionHeld3
/- Walks of the code's parser: expr, items. -/
namespace Go.Proofs.YtgccmgjbbcndbaaGreatDoor
open Go.RowKit
open Go.Deep (BT)

theorem infoExpr : (Tryz.prog.info? 144).map (fun i => (i.zero, i.size, i.bytes)) = some (some .nilIface, 1, 16) := by kernel_rfl
theorem infoStmt : (Tryz.prog.info? 76).map (fun i => (i.zero, i.size, i.bytes)) = some (some .nilIface, 1, 16) := by kernel_rfl
theorem infoIdent : (Tryz.prog.info? 52).map (fun i => (i.zero, i.size, i.bytes)) = some (some (.agg #[.int .i64 0, .string ⟨#[]⟩]), 2, 24) := by kernel_rfl

theorem appC {b n g : Nat} {wr w4 w5 : World} {T : TypeId} {v val : Value} {m : Nat} {cs cs0 : List Value} {acc x : BT Lab} (hb : b < n) (hn : n ≤ wr.heap.size) (hr : RepC (fun g => n ≤ g ∧ v.ownBlock ≠ some g) wr acc cs) (ho : Only b wr w4) (hx : RepC (fun g => wr.heap.size ≤ g) w4 x [val]) (hown : wr.ownsRow 0 T 1 v m cs0)
    (hgrow : w4.grownBy w5 v.ownBlock) (hat : v.ownBlock = some g ∨ g = w4.heap.size + 1) : RepC (fun k => n ≤ k ∧ (some g : Option Nat) ≠ some k) w5 (bapp acc x) (cs ++ [val]) := by
  have hlt := own_lt hown
  have hs := ho.size
  refine RepC.app _ _ _ _ (RepC.keep ?_ _ _ hr) (RepC.keep ?_ _ _ hx)
  · intro k ⟨h1, h2⟩ hk
    refine ⟨(hgrow.block k (by omega) (fun e => h2 e.symm)).trans (ho.block k hk (by omega)), h1, fun e => ?_⟩
    have e := Option.some.inj e
    subst e
    rcases hat with h | h
    · exact h2 h
    · omega
  · intro k h1 hk
    refine ⟨hgrow.block k hk (fun e => ?_), by omega, fun e => ?_⟩
    · have := hlt k e.symm; omega
    · have e := Option.some.inj e
      subst e
      rcases hat with h | h
      · have := hlt g h; omega
      · omega

theorem want_goodC {k : Nat} {s : PS} (h : (wantS k s).bad = 0) : s.bad = 0 := by
  by_cases h0 : s.bad = 0
  · exact h0
  · exfalso
    unfold wantS at h
    split at h
    · rw [take_badC] at h; exact h0 h
    · unfold failS at h
      rw [if_neg h0] at h; exact h0 h

/- where no fault came out there was none -/
theorem pars_good {n t a : Nat} {acc : BT Lab} {s : PS} {r : BT Lab × PS} (hs : s.bad ≠ 0 → s.ts = [endT]) (h : pars n t a acc s = some r) (hb : r.2.bad = 0) : s.bad = 0 := by
  by_cases h0 : s.bad = 0
  · exact h0
  · rw [pars_sticky (hs h0) h0 _ _ _ _ _ h] at hb; exact absurd hb h0

theorem pexpr_any {b tb cap te : Nat} {ts : List Tk} {n : Nat} (ih : CodePars b tb cap te ts n) (w : World) (s : PS) (r : BT Lab × PS) (hs : PR b tb cap te ts w s) (hp : pars n 0 0 .nil s = some r) :
    Calls Tryz.prog 78 #[.pointer (some ⟨b, 0, none⟩)] w (ExPost b tb cap te ts w r) := by
  have HC := hide (ih.expr w s 0 r (by omega) hs hp)
  clear hs hp
  go_enter Tryz.func78, Tryz.ntmps78
  go_wp2_with fail
  refine HC.out.mono ?_
  rintro e w1 ⟨t, x, rfl, h1, ho1, hr1⟩
  have HE := hide (And.intro h1 (And.intro ho1 hr1))
  clear h1 ho1 hr1
  go_wp2
  go_ret
  exact ⟨t, x, rfl, HE.out⟩

def IRel (a b tb cap te : Nat) (ts : List Tk) (n : Nat) (r : BT Lab × PS) (w : World) (k : Nat) (v : Value) (wr : World) : Prop :=
  ∃ (acc : BT Lab) (st : PS) (va : Option Addr) (vn vc : Nat) (cs : List Value), v = .slice va vn vc ∧ k ≤ n ∧ pars k 6 a acc st = some r ∧ PR b tb cap te ts wr st ∧ Only b w wr ∧ cs.length + k ≤ n + 1 ∧
    OwnsD (fun g => w.heap.size ≤ g) wr 144 1 (.slice va vn vc) cs.length cs ∧ (st.bad = 0 → RepC (fun g => w.heap.size ≤ g ∧ (Value.slice va vn vc).ownBlock ≠ some g) wr acc cs)

theorem PR.grown {b tb cap te : Nat} {ts : List Tk} {w w' : World} {s : PS} {row : Option Nat} (h : PR b tb cap te ts w s) (hg : w.grownBy w' row) (h1 : row ≠ some b) (h2 : row ≠ some tb) : PR b tb cap te ts w' s :=
  h.keep (hg.block b h.lt.1 (fun e => h1 e.symm)) (hg.block tb h.lt.2.1 (fun e => h2 e.symm))

set_option maxRecDepth 100000 in
set_option maxHeartbeats 4000000 in
theorem items_any {b tb cap te : Nat} {ts : List Tk} {n : Nat} (ih : ∀ m, m ≤ n → CodePars b tb cap te ts m) (hn : n ≤ 500000) (w : World) (s : PS) (a : Nat) (r : BT Lab × PS) (hs : PR b tb cap te ts w s) (hp : pars (n + 1) 5 a .nil s = some r) :
    Calls Tryz.prog 132 #[.pointer (some ⟨b, 0, none⟩), .int .i64 (a : Nat)] w (LsPost 144 b tb cap te ts w r) := by
  have HS := hide hs
  obtain ⟨lb, lt, lne⟩ := hs.lt
  by_cases hc : kT s = a
  · have t : ((kT s : Int) != (a : Int)) = false := by rw [hc]; simp
    have HR := hide (pars_list0 hc hp)
    have HW : Hid (wantS a s = takeS s) := by show _ = _; unfold wantS; rw [if_pos hc]
    clear hc hp hs
    go_enter Tryz.func132, Tryz.ntmps132
    go_wp2_with fail
    refine (kind_any HS.out).mono ?_
    rintro e w1 ⟨rfl, h1, hb1⟩
    have H1 := hide h1
    have HO1 : Hid (Only b w w1) := Below.only hb1
    clear h1 hb1
    go_wp2_with fail
    refine (want_any H1.out a).mono ?_
    rintro e w2 ⟨kk, ln, nn, S, rfl, htk, h2, ho2⟩
    have HO2 : Hid (Only b w w2) := HO1.out.trans ho2
    rw [HW.out] at h2
    have H2 := hide h2
    clear h2 htk ho2
    go_wp2
    go_ret
    rw [HR.out]
    exact ⟨none, 0, 0, [], rfl, own_nil _ _ _ _, H2.out, HO2.out, fun _ => rfl⟩
  · have hpos : n ≠ 0 := by
      intro e; subst e
      obtain ⟨y, hy, _⟩ := bind_some (pars_list1 hc hp)
      exact pars_zero _ _ _ _ _ hy
    obtain ⟨y, hy1, hy2⟩ := bind_some (pars_list1 hc hp)
    have t : ((kT s : Int) != (a : Int)) = true := by simp; omega
    have HY2 := hide hy2
    have HX := hide (fun (W : World) (h : PR b tb cap te ts W s) => pexpr_any (ih n (Nat.le_refl _)) W s y h hy1)
    clear hc hp hs hy1 hy2
    go_enter Tryz.func132, Tryz.ntmps132
    go_wp2_with fail
    refine (kind_any HS.out).mono ?_
    rintro e w1 ⟨rfl, h1, hb1⟩
    have H1 := hide h1
    have HO1 : Hid (Only b w w1) := Below.only hb1
    clear h1 hb1
    go_wp2_with fail
    refine (HX.out _ H1.out).mono ?_
    rintro e w2 ⟨ty, x, rfl, h2, ho2, hr2⟩
    have HO2 : Hid (Only b w w2) := HO1.out.trans ho2
    have HO2' := hide ho2
    have H2 := hide h2
    have HR2 := hide hr2
    have lw1 := HO1.out.size
    have lw2 := ho2.size
    clear h2 ho2 hr2
    go_wp2_with (at_builtin; refine wpl_app w2 #[.iface ty x] 144 rfl (.tmp 10) (.tmp 13) 212 rfl 0 1 16 .nilIface Tryz.underlying212 infoExpr rfl (by omega) (.slice none 0 0) 0 [] rfl rfl (World.ownsRow_nil _ _ _ _) rfl (fun u hu => by simp at hu; rw [hu]; rfl) (by omega) (by omega) (Nat.zero_le _) ?_; intro g cap1 w3 hown3 hgrow hat hg)
    replace hgrow : w2.grownBy w3 (Value.slice none 0 0).ownBlock := hgrow
    have hat : (Value.slice none 0 0).ownBlock = some g ∨ g = w2.heap.size + 1 := hat
    have HGg : Hid (g = w2.heap.size + 1) := by rcases hat with h | h; simp [Value.ownBlock] at h; exact h
    have HRel : Hid (IRel a b tb cap te ts n r w n (.slice (some ⟨g, 0, none⟩) 1 cap1) w3) := by
      refine ⟨y.1, y.2, some ⟨g, 0, none⟩, 1, cap1, [.iface ty x], rfl, Nat.le_refl _, HY2.out, PR.grown H2.out hgrow (by simp [Value.ownBlock]) (by simp [Value.ownBlock]), HO2.out.grown hgrow (by simp [Value.ownBlock]), by simp; omega, ⟨hown3, fun k hk => ?_⟩, fun hb => ?_⟩
      · simp only [Value.ownBlock, Option.some.injEq] at hk; have := HGg.out; omega
      · have := appC (T := 144) (acc := .nil) (cs := []) (n := w.heap.size) lb lw1 rfl HO2'.out (HR2.out hb) (World.ownsRow_nil _ _ _ _) hgrow hat
        exact this
    have HG := hide hgrow
    clear hgrow hat hown3 hg
    go_wp2
    go_loopg [5] n (fun k v wr => IRel a b tb cap te ts n r w k v wr)
    case atStart => exact HRel.out
    case round =>
      clear HRel HY2 HX HR2 H2 HO2 H1 HO1 HO2' HG
      obtain ⟨acc, st, va, vn, vc, cs, rfl, hkn, hpk, hrs, hO, hcn, hown, hrep⟩ := hrel
      cases gk with
      | zero => exact absurd hpk (pars_zero _ _ _ _ _)
      | succ m =>
      have HRS := hide hrs
      have HO := hide hO
      have HOwn := hide hown
      have HRep := hide hrep
      have lwr := hO.size
      by_cases h24 : kT st = 24
      · obtain ⟨z, hz1, hz2⟩ := bind_some (pars_more h24 hpk)
        have HZ2 := hide hz2
        have HX := hide (fun (W : World) (h : PR b tb cap te ts W (takeS st)) => pexpr_any (ih m (by omega)) W (takeS st) z h hz1)
        have tk : (kT st == 24) = true := by simpa using h24
        have HM : Hid (mayS 24 st = takeS st) := by show _ = _; unfold mayS; rw [if_pos h24]
        have HB0 : Hid (st.bad = 0) := hrs.notEnd (by omega)
        clear hz1 hz2 h24 hpk hrs hO hown hrep
        go_wp2_with fail
        refine (accept_any HRS.out 24).mono ?_
        rintro e w4 ⟨rfl, h4, ho4⟩
        rw [tk]
        rw [HM.out] at h4
        have H4 := hide h4
        have HO4 := hide ho4
        clear h4 ho4
        go_wp2_with fail
        refine (HX.out _ H4.out).mono ?_
        rintro e w5 ⟨ty5, x5, rfl, h5, ho5, hr5⟩
        have HO5 : Hid (Only b wr w5) := HO4.out.trans ho5
        have H5 := hide h5
        have HR5 := hide hr5
        have lw4 := HO4.out.size
        have lw5 := ho5.size
        have hne : (Value.slice va vn vc).ownBlock ≠ some b := fun e => by have := HOwn.out.2 b e; omega
        have hown5 : w5.ownsRow 0 144 1 (.slice va vn vc) cs.length cs := own_same HOwn.out.1 (fun k hk hl => HO5.out.block k hl (fun e => hne (by rw [← e]; exact hk)))
        clear h5 ho5 hr5
        go_wp2_with (at_builtin; refine wpl_app w5 #[.iface ty5 x5] 144 rfl (.tmp 17) (.tmp 20) 212 rfl 0 1 16 .nilIface Tryz.underlying212 infoExpr rfl (by omega) _ _ _ rfl rfl hown5 rfl (fun u hu => by simp at hu; rw [hu]; rfl) (by omega) (by omega) (Nat.zero_le _) ?_; intro g6 cap6 w6 hown6 hgrow6 hat6 hg6)
        replace hgrow6 : w5.grownBy w6 (Value.slice va vn vc).ownBlock := hgrow6
        replace hat6 : (Value.slice va vn vc).ownBlock = some g6 ∨ g6 = w5.heap.size + 1 := hat6
        have hrow : ∀ k, (Value.slice va vn vc).ownBlock = some k → k ≠ b ∧ k ≠ tb ∧ w.heap.size ≤ k := fun k e => by have := HOwn.out.2 k e; omega
        go_roundg m
        case measure => omega
        case rel =>
          refine ⟨bapp acc z.1, z.2, some ⟨g6, 0, none⟩, cs.length + 1, cap6, cs ++ [.iface ty5 x5], rfl, by omega, HZ2.out, PR.grown H5.out hgrow6 (fun e => (hrow b e).1 rfl) (fun e => (hrow tb e).2.1 rfl), (HO.out.trans HO5.out).grown hgrow6 (fun k e => .inr (hrow k e).2.2), by simp; omega, ⟨by simpa using hown6, fun k hk => ?_⟩, fun hb => ?_⟩
          · simp only [Value.ownBlock, Option.some.injEq] at hk
            rw [← hk]
            rcases hat6 with h | h
            · exact (hrow g6 h).2.2
            · omega
          · exact appC lb lwr (HRep.out HB0.out) HO5.out (RepC.weak lw4 (HR5.out hb)) HOwn.out.1 hgrow6 hat6
      · have HE := hide (pars_last h24 hpk)
        have tk : (kT st == 24) = false := by simpa using h24
        have HM : Hid (mayS 24 st = st) := by show _ = _; unfold mayS; rw [if_neg h24]
        clear h24 hpk hrs hO hown hrep
        go_wp2_with fail
        refine (accept_any HRS.out 24).mono ?_
        rintro e w4 ⟨rfl, h4, ho4⟩
        rw [tk]
        rw [HM.out] at h4
        have H4 := hide h4
        have HO4 := hide ho4
        clear h4 ho4
        go_wp2_with fail
        refine (want_any H4.out a).mono ?_
        rintro e w5 ⟨kk, ln, nn, S, rfl, htk, h5, ho5⟩
        have HO5 : Hid (Only b wr w5) := HO4.out.trans ho5
        have H5 := hide h5
        clear h5 ho5
        go_wp2
        go_ret
        rw [HE.out]
        have hne : (Value.slice va vn vc).ownBlock ≠ some b := fun e => by have := HOwn.out.2 b e; omega
        refine ⟨va, vn, vc, cs, rfl, ⟨own_same HOwn.out.1 (fun k hk hl => HO5.out.block k hl (fun e => hne (by rw [← e]; exact hk))), HOwn.out.2⟩, H5.out, HO.out.trans HO5.out, fun hb => ?_⟩
        exact RepC.keep (fun k hk hl => ⟨HO5.out.block k hl (by omega), hk.1⟩) _ _ (HRep.out (want_goodC hb))
end Go.Proofs.YtgccmgjbbcndbaaGreatDoor
/- Walks of the code's parser: length, push, varOrCall, atom. -/
namespace Go.Proofs.YtgccmgjbbcndbaaGreatDoor
open Go.RowKit
open Go.Deep (BT)

set_option maxRecDepth 100000 in
set_option maxHeartbeats 4000000 in
theorem length_any {b tb cap te : Nat} {ts : List Tk} {n : Nat} (ih : CodePars b tb cap te ts n) (w : World) (s : PS) (r : BT Lab × PS) (hk : kT s = 16) (hs : PR b tb cap te ts w s) (hp : pars (n + 1) 4 0 .nil s = some r) :
    Calls Tryz.prog 134 #[.pointer (some ⟨b, 0, none⟩)] w (ExPost b tb cap te ts w r) := by
  obtain ⟨x, hx, hr⟩ := pars_len hk hp
  have HS := hide hs
  have lb := hs.lt
  have HB0 : Hid (s.bad = 0) := hs.notEnd (by omega)
  have HR := hide hr
  have HX := hide (fun (W : World) (h : PR b tb cap te ts W (wantS 18 (takeS s))) => pexpr_any ih W (wantS 18 (takeS s)) x h hx)
  have hf1 := cf1
  clear hp hs hk hx hr
  go_enter Tryz.func134, Tryz.ntmps134
  go_wp2_with fail
  refine (take_any HS.out).mono ?_
  rintro e w1 ⟨ln1, nn1, S1, rfl, htk1, h1, ho1⟩
  have HP1 := hide ho1
  have HO1 : Hid (Only b w w1) := (Only.refl b w).trans HP1.out
  have lw1 := HO1.out.size
  have HTk1 := hide htk1
  have H1 := hide h1
  clear h1 ho1 htk1
  go_wp2_with fail
  refine (want_any H1.out 18).mono ?_
  rintro e w2 ⟨kk2, ln2, nn2, S2, rfl, htk2, h2, ho2⟩
  have HP2 := hide ho2
  have HO2 : Hid (Only b w w2) := HO1.out.trans HP2.out
  have lw2 := HO2.out.size
  have HTk2 := hide htk2
  have H2 := hide h2
  clear h2 ho2 htk2
  go_wp2_with fail
  refine (HX.out _ H2.out).mono ?_
  rintro e w3 ⟨ty3, x3, rfl, h3, ho3, hr3⟩
  have HP3 := hide ho3
  have HO3 : Hid (Only b w w3) := HO2.out.trans HP3.out
  have lw3 := HO3.out.size
  have HR3 := hide hr3
  have H3 := hide h3
  clear h3 ho3 hr3
  go_wp2_with fail
  refine (want_any H3.out 19).mono ?_
  rintro e w4 ⟨kk4, ln4, nn4, S4, rfl, htk4, h4, ho4⟩
  have HP4 := hide ho4
  have HO4 : Hid (Only b w w4) := HO3.out.trans HP4.out
  have lw4 := HO4.out.size
  have HTk4 := hide htk4
  have H4 := hide h4
  clear h4 ho4 htk4
  go_wp2
  go_ret
  rw [HR.out]
  refine ex_close (l := lab0 10 (hdT s).line) (ch := x.1) (ks := [.iface ty3 x3]) H4.out HO4.out rfl (by simp [lab0]) rfl rfl (fun hb => ⟨⟨_, ?_, rfl⟩, RepC.later (by omega) (by omega) HP4.out (HR3.out (want_goodC hb))⟩)
  rw [(HTk1.out HB0.out).1]; rfl

set_option maxRecDepth 100000 in
set_option maxHeartbeats 4000000 in
theorem push_any {b tb cap te : Nat} {ts : List Tk} {n : Nat} (ih : CodePars b tb cap te ts n) (w : World) (s : PS) (r : BT Lab × PS) (hk : kT s = 17) (hs : PR b tb cap te ts w s) (hp : pars (n + 1) 4 0 .nil s = some r) :
    Calls Tryz.prog 135 #[.pointer (some ⟨b, 0, none⟩)] w (ExPost b tb cap te ts w r) := by
  obtain ⟨x, y, hx, hy, hr⟩ := pars_push hk hp
  have HS := hide hs
  have lb := hs.lt
  have HB0 : Hid (s.bad = 0) := hs.notEnd (by omega)
  have HR := hide hr
  have HYp := hide hy
  have HX := hide (fun (W : World) (h : PR b tb cap te ts W (wantS 18 (takeS s))) => pexpr_any ih W (wantS 18 (takeS s)) x h hx)
  have HY := hide (fun (W : World) (h : PR b tb cap te ts W (wantS 24 x.2)) => pexpr_any ih W (wantS 24 x.2) y h hy)
  have hf1 := cf1
  clear hp hs hk hx hy hr
  go_enter Tryz.func135, Tryz.ntmps135
  go_wp2_with fail
  refine (take_any HS.out).mono ?_
  rintro e w1 ⟨ln1, nn1, S1, rfl, htk1, h1, ho1⟩
  have HP1 := hide ho1
  have HO1 : Hid (Only b w w1) := (Only.refl b w).trans HP1.out
  have lw1 := HO1.out.size
  have HTk1 := hide htk1
  have H1 := hide h1
  clear h1 ho1 htk1
  go_wp2_with fail
  refine (want_any H1.out 18).mono ?_
  rintro e w2 ⟨kk2, ln2, nn2, S2, rfl, htk2, h2, ho2⟩
  have HP2 := hide ho2
  have HO2 : Hid (Only b w w2) := HO1.out.trans HP2.out
  have lw2 := HO2.out.size
  have HTk2 := hide htk2
  have H2 := hide h2
  clear h2 ho2 htk2
  go_wp2_with fail
  refine (HX.out _ H2.out).mono ?_
  rintro e w3 ⟨ty3, x3, rfl, h3, ho3, hr3⟩
  have HP3 := hide ho3
  have HO3 : Hid (Only b w w3) := HO2.out.trans HP3.out
  have lw3 := HO3.out.size
  have HR3 := hide hr3
  have H3 := hide h3
  clear h3 ho3 hr3
  go_wp2_with fail
  refine (want_any H3.out 24).mono ?_
  rintro e w4 ⟨kk4, ln4, nn4, S4, rfl, htk4, h4, ho4⟩
  have HP4 := hide ho4
  have HO4 : Hid (Only b w w4) := HO3.out.trans HP4.out
  have lw4 := HO4.out.size
  have HTk4 := hide htk4
  have H4 := hide h4
  clear h4 ho4 htk4
  go_wp2_with fail
  refine (HY.out _ H4.out).mono ?_
  rintro e w5 ⟨ty5, x5, rfl, h5, ho5, hr5⟩
  have HP5 := hide ho5
  have HO5 : Hid (Only b w w5) := HO4.out.trans HP5.out
  have lw5 := HO5.out.size
  have HR5 := hide hr5
  have H5 := hide h5
  clear h5 ho5 hr5
  go_wp2_with fail
  refine (want_any H5.out 19).mono ?_
  rintro e w6 ⟨kk6, ln6, nn6, S6, rfl, htk6, h6, ho6⟩
  have HP6 := hide ho6
  have HO6 : Hid (Only b w w6) := HO5.out.trans HP6.out
  have lw6 := HO6.out.size
  have HTk6 := hide htk6
  have H6 := hide h6
  clear h6 ho6 htk6
  go_wp2
  go_ret
  rw [HR.out]
  refine ex_close (l := lab0 11 (hdT s).line) (ch := bapp x.1 y.1) (ks := [.iface ty3 x3, .iface ty5 x5]) H6.out HO6.out rfl (by simp [lab0]) rfl rfl (fun hb => ⟨⟨_, _, ?_, rfl⟩, RepC.app _ _ [_] [_] (RepC.later (by omega) (by omega) ((HP4.out.trans HP5.out).trans HP6.out) (HR3.out (want_goodC (pars_good H4.out.sticky HYp.out (want_goodC hb))))) (RepC.later (by omega) (by omega) HP6.out (HR5.out (want_goodC hb)))⟩)
  rw [(HTk1.out HB0.out).1]; rfl

set_option maxRecDepth 100000 in
set_option maxHeartbeats 4000000 in
theorem var_any {b tb cap te : Nat} {ts : List Tk} {n : Nat} (w : World) (s : PS) (r : BT Lab × PS) (hk : kT s = 1) (hk2 : kT (takeS s) ≠ 18) (hs : PR b tb cap te ts w s) (hp : pars (n + 1) 4 0 .nil s = some r) :
    Calls Tryz.prog 133 #[.pointer (some ⟨b, 0, none⟩)] w (ExPost b tb cap te ts w r) := by
  have HR := hide (pars_name hk hk2 hp)
  have HS := hide hs
  have lb := hs.lt
  have HB0 : Hid (s.bad = 0) := hs.notEnd (by omega)
  have tk : (kT (takeS s) == 18) = false := by simpa using hk2
  have HM : Hid (mayS 18 (takeS s) = takeS s) := by show _ = _; unfold mayS; rw [if_neg hk2]
  clear hp hs hk hk2
  go_enter Tryz.func133, Tryz.ntmps133
  go_wp2_with fail
  refine (take_any HS.out).mono ?_
  rintro e w1 ⟨ln1, nn1, S1, rfl, htk1, h1, ho1⟩
  have HP1 := hide ho1
  have HO1 : Hid (Only b w w1) := (Only.refl b w).trans HP1.out
  have lw1 := HO1.out.size
  have HTk1 := hide htk1
  have H1 := hide h1
  clear h1 ho1 htk1
  have HT1 := hide (heap_alloc_new w1 (.cells #[.int .i64 (kT s : Nat), .int .i64 ln1, .string ⟨S1.toArray⟩, .int .i64 nn1] 93))
  have lw1b : w1.heap.size < (w1.alloc (.cells #[.int .i64 (kT s : Nat), .int .i64 ln1, .string ⟨S1.toArray⟩, .int .i64 nn1] 93)).heap.size := by simp
  go_wp2_with fail
  refine (accept_any (PR.alloc H1.out _) 18).mono ?_
  rintro e w2 ⟨rfl, h2, ho2⟩
  have HP2 := hide ho2
  have HO2 : Hid (Only b w w2) := (HO1.out.alloc _).trans HP2.out
  have lw2 := HO2.out.size
  rw [tk]
  rw [HM.out] at h2
  have H2 := hide h2
  clear h2 ho2
  have hT2 := HP2.out.blk HT1.out (by omega)
  obtain ⟨y0, y1, y2, y3, fy, ly⟩ := blk4 hT2
  clear hT2
  go_wp2
  go_ret
  rw [HR.out]
  refine ex_close (l := ⟨6, (hdT s).line, (hdT s).s, 0, []⟩) (ch := .nil) (ks := []) H2.out HO2.out rfl (by simp) rfl rfl (fun _ => ⟨⟨?_, rfl⟩, rfl⟩)
  rw [(HTk1.out HB0.out).1, (HTk1.out HB0.out).2.1]; rfl

set_option maxRecDepth 100000 in
set_option maxHeartbeats 4000000 in
theorem call_any {b tb cap te : Nat} {ts : List Tk} {n : Nat} (ih : CodePars b tb cap te ts n) (w : World) (s : PS) (r : BT Lab × PS) (hk : kT s = 1) (hk2 : kT (takeS s) = 18) (hs : PR b tb cap te ts w s) (hp : pars (n + 1) 4 0 .nil s = some r) :
    Calls Tryz.prog 133 #[.pointer (some ⟨b, 0, none⟩)] w (ExPost b tb cap te ts w r) := by
  obtain ⟨x, hx, hr⟩ := pars_call hk hk2 hp
  have HR := hide hr
  have HS := hide hs
  have lb := hs.lt
  have HB0 : Hid (s.bad = 0) := hs.notEnd (by omega)
  have tk : (kT (takeS s) == 18) = true := by simpa using hk2
  have HM : Hid (mayS 18 (takeS s) = takeS (takeS s)) := by show _ = _; unfold mayS; rw [if_pos hk2]
  have HX := hide (fun (W : World) (h : PR b tb cap te ts W (takeS (takeS s))) => ih.list W (takeS (takeS s)) 19 x h hx)
  clear hp hs hk hk2 hx hr
  go_enter Tryz.func133, Tryz.ntmps133
  go_wp2_with fail
  refine (take_any HS.out).mono ?_
  rintro e w1 ⟨ln1, nn1, S1, rfl, htk1, h1, ho1⟩
  have HP1 := hide ho1
  have HO1 : Hid (Only b w w1) := (Only.refl b w).trans HP1.out
  have lw1 := HO1.out.size
  have HTk1 := hide htk1
  have H1 := hide h1
  clear h1 ho1 htk1
  have HT1 := hide (heap_alloc_new w1 (.cells #[.int .i64 (kT s : Nat), .int .i64 ln1, .string ⟨S1.toArray⟩, .int .i64 nn1] 93))
  have lw1b : w1.heap.size < (w1.alloc (.cells #[.int .i64 (kT s : Nat), .int .i64 ln1, .string ⟨S1.toArray⟩, .int .i64 nn1] 93)).heap.size := by simp
  go_wp2_with fail
  refine (accept_any (PR.alloc H1.out _) 18).mono ?_
  rintro e w2 ⟨rfl, h2, ho2⟩
  have HP2 := hide ho2
  have HO2 : Hid (Only b w w2) := (HO1.out.alloc _).trans HP2.out
  have lw2 := HO2.out.size
  rw [tk]
  rw [HM.out] at h2
  have H2 := hide h2
  clear h2 ho2
  have HT2 := hide (HP2.out.blk HT1.out (by omega))
  obtain ⟨y0, y1, y2, y3, fy, ly⟩ := blk4 HT2.out
  have HXd := hide (HX.out _ H2.out.drew)
  have hne : w1.heap.size ≠ b := by omega
  generalize hgw : w1.heap.size = tk1 at *
  have HGw := hide hgw
  clear hgw
  go_wp2
  go_region_with (go_at_call 132; refine HXd.out.mono ?_; rintro e w3 ⟨va3, vn3, vc3, cs3, rfl, hown3, h3, ho3, hr3⟩; have hT3 := ho3.blk (show w2.drew.heap[tk1]? = _ from HT2.out) hne; obtain ⟨z0, z1, z2, z3, fz, lz⟩ := blk4 hT3; clear hT3)
  all_goals go_wp2
  all_goals go_ret
  all_goals rw [HR.out]
  all_goals refine ex_close (l := ⟨7, (hdT s).line, (hdT s).s, 0, []⟩) (ch := x.1) (ks := cs3) h3 (HO2.out.drew.trans ho3) rfl (by simp) rfl rfl (fun hb => ⟨⟨_, ?_, hown3.keep (fun k hk _ => ⟨rfl, by have h : w2.heap.size ≤ k := hk; omega⟩)⟩, RepC.weak (by show _ ≤ w2.heap.size; omega) (hr3 hb)⟩)
  all_goals rw [(HTk1.out HB0.out).1, (HTk1.out HB0.out).2.1]; rfl

set_option maxRecDepth 100000 in
set_option maxHeartbeats 4000000 in
theorem patom_any {b tb cap te : Nat} {ts : List Tk} {n : Nat} (ih : CodePars b tb cap te ts n) (w : World) (s : PS) (r : BT Lab × PS) (hs : PR b tb cap te ts w s) (hp : pars (n + 1) 4 0 .nil s = some r) :
    Calls Tryz.prog 130 #[.pointer (some ⟨b, 0, none⟩)] w (ExPost b tb cap te ts w r) := by
  have HS := hide hs
  have lb := hs.lt
  have hf1 := cf1
  by_cases c18 : kT s = 18
  · have t18 : ((kT s : Int) == 18) = true := ke (c := 18) rfl c18
    obtain ⟨x, hx, hr⟩ := pars_group c18 hp
    have HR := hide hr
    have HB0 : Hid (s.bad = 0) := hs.notEnd (by omega)
    have HX := hide (fun (W : World) (h : PR b tb cap te ts W (takeS s)) => pexpr_any ih W (takeS s) x h hx)
    clear hp hs hx hr c18
    go_enter Tryz.func130, Tryz.ntmps130
    go_wp2_with fail
    refine (kind_any HS.out).mono ?_
    rintro e w1 ⟨rfl, h1, hb1⟩
    have HP1 := hide (Below.only (b := b) hb1)
    have HO1 : Hid (Only b w w1) := (Only.refl b w).trans HP1.out
    have lw1 := HO1.out.size
    have H1 := hide h1
    clear h1 hb1
    go_wp2_with fail
    refine (take_any H1.out).mono ?_
    rintro e w2 ⟨ln2, nn2, S2, rfl, htk2, h2, ho2⟩
    have HP2 := hide ho2
    have HO2 : Hid (Only b w w2) := HO1.out.trans HP2.out
    have lw2 := HO2.out.size
    have HTk2 := hide htk2
    have H2 := hide h2
    clear h2 ho2 htk2
    go_wp2_with fail
    refine (HX.out _ H2.out).mono ?_
    rintro e w3 ⟨ty3, x3, rfl, h3, ho3, hr3⟩
    have HP3 := hide ho3
    have HO3 : Hid (Only b w w3) := HO2.out.trans HP3.out
    have lw3 := HO3.out.size
    have HR3 := hide hr3
    have H3 := hide h3
    clear h3 ho3 hr3
    go_wp2_with fail
    refine (want_any H3.out 19).mono ?_
    rintro e w4 ⟨kk4, ln4, nn4, S4, rfl, htk4, h4, ho4⟩
    have HP4 := hide ho4
    have HO4 : Hid (Only b w w4) := HO3.out.trans HP4.out
    have lw4 := HO4.out.size
    have HTk4 := hide htk4
    have H4 := hide h4
    clear h4 ho4 htk4
    go_wp2
    go_ret
    rw [HR.out]
    exact ex_close (l := lab0 8 (hdT s).line) (ch := x.1) (ks := [.iface ty3 x3]) H4.out HO4.out rfl (by simp [lab0]) rfl rfl (fun hb => ⟨⟨_, rfl, rfl⟩, RepC.later (by omega) (by omega) HP4.out (HR3.out (want_goodC hb))⟩)
  by_cases c22 : kT s = 22
  · have t18 : ((kT s : Int) == 18) = false := kn (c := 18) rfl c18
    have t22 : ((kT s : Int) == 22) = true := ke (c := 22) rfl c22
    obtain ⟨x, hx, hr⟩ := pars_array c22 hp
    have HR := hide hr
    have HB0 : Hid (s.bad = 0) := hs.notEnd (by omega)
    have HX := hide (fun (W : World) (h : PR b tb cap te ts W (takeS s)) => ih.list W (takeS s) 23 x h hx)
    clear hp hs hx hr c18 c22
    go_enter Tryz.func130, Tryz.ntmps130
    go_wp2_with fail
    refine (kind_any HS.out).mono ?_
    rintro e w1 ⟨rfl, h1, hb1⟩
    have HP1 := hide (Below.only (b := b) hb1)
    have HO1 : Hid (Only b w w1) := (Only.refl b w).trans HP1.out
    have lw1 := HO1.out.size
    have H1 := hide h1
    clear h1 hb1
    go_wp2_with fail
    refine (take_any H1.out).mono ?_
    rintro e w2 ⟨ln2, nn2, S2, rfl, htk2, h2, ho2⟩
    have HP2 := hide ho2
    have HO2 : Hid (Only b w w2) := HO1.out.trans HP2.out
    have lw2 := HO2.out.size
    have HTk2 := hide htk2
    have H2 := hide h2
    clear h2 ho2 htk2
    go_wp2_with fail
    refine (HX.out _ H2.out).mono ?_
    rintro e w3 ⟨va3, vn3, vc3, cs3, rfl, hown3, h3, ho3, hr3⟩
    have HP3 := hide ho3
    have HO3 : Hid (Only b w w3) := HO2.out.trans HP3.out
    have lw3 := HO3.out.size
    have HR3 := hide hr3
    have HOwn3 := hide hown3
    have H3 := hide h3
    clear h3 ho3 hr3 hown3
    go_wp2
    go_ret
    rw [HR.out]
    refine ex_close (l := lab0 9 (hdT s).line) (ch := x.1) (ks := cs3) H3.out HO3.out rfl (by simp [lab0]) rfl rfl (fun hb => ⟨⟨_, ?_, HOwn3.out.keep (fun k hk _ => ⟨rfl, by have h : w2.heap.size ≤ k := hk; omega⟩)⟩, RepC.weak (by omega) (HR3.out hb)⟩)
    rw [(HTk2.out HB0.out).1]; rfl
  by_cases c1 : kT s = 1
  · have t18 : ((kT s : Int) == 18) = false := kn (c := 18) rfl c18
    have t22 : ((kT s : Int) == 22) = false := kn (c := 22) rfl c22
    have t1 : ((kT s : Int) == 1) = true := ke (c := 1) rfl c1
    have HX : Hid (∀ W, PR b tb cap te ts W s → Calls Tryz.prog 133 #[.pointer (some ⟨b, 0, none⟩)] W (ExPost b tb cap te ts W r)) := by
      intro W h
      by_cases c2 : kT (takeS s) = 18
      · exact call_any ih W s r c1 c2 h hp
      · exact var_any W s r c1 c2 h hp
    clear hp hs c18 c22 c1
    go_enter Tryz.func130, Tryz.ntmps130
    go_wp2_with fail
    refine (kind_any HS.out).mono ?_
    rintro e w1 ⟨rfl, h1, hb1⟩
    have HP1 := hide (Below.only (b := b) hb1)
    have HO1 : Hid (Only b w w1) := (Only.refl b w).trans HP1.out
    have lw1 := HO1.out.size
    have H1 := hide h1
    clear h1 hb1
    go_wp2_with fail
    refine (HX.out _ H1.out).mono ?_
    rintro e w2 ⟨ty2, x2, rfl, h2, ho2, hr2⟩
    have HP2 := hide ho2
    have HO2 : Hid (Only b w w2) := HO1.out.trans HP2.out
    have lw2 := HO2.out.size
    have HR2 := hide hr2
    have H2 := hide h2
    clear h2 ho2 hr2
    go_wp2
    go_ret
    exact ⟨_, _, rfl, H2.out, HO2.out, fun hb => RepC.weak (by omega) (HR2.out hb)⟩
  by_cases c16 : kT s = 16
  · have t18 : ((kT s : Int) == 18) = false := kn (c := 18) rfl c18
    have t22 : ((kT s : Int) == 22) = false := kn (c := 22) rfl c22
    have t1 : ((kT s : Int) == 1) = false := kn (c := 1) rfl c1
    have t16 : ((kT s : Int) == 16) = true := ke (c := 16) rfl c16
    have HX := hide (fun (W : World) (h : PR b tb cap te ts W s) => length_any ih W s r c16 h hp)
    clear hp hs c18 c22 c1 c16
    go_enter Tryz.func130, Tryz.ntmps130
    go_wp2_with fail
    refine (kind_any HS.out).mono ?_
    rintro e w1 ⟨rfl, h1, hb1⟩
    have HP1 := hide (Below.only (b := b) hb1)
    have HO1 : Hid (Only b w w1) := (Only.refl b w).trans HP1.out
    have lw1 := HO1.out.size
    have H1 := hide h1
    clear h1 hb1
    go_wp2_with fail
    refine (HX.out _ H1.out).mono ?_
    rintro e w2 ⟨ty2, x2, rfl, h2, ho2, hr2⟩
    have HP2 := hide ho2
    have HO2 : Hid (Only b w w2) := HO1.out.trans HP2.out
    have lw2 := HO2.out.size
    have HR2 := hide hr2
    have H2 := hide h2
    clear h2 ho2 hr2
    go_wp2
    go_ret
    exact ⟨_, _, rfl, H2.out, HO2.out, fun hb => RepC.weak (by omega) (HR2.out hb)⟩
  by_cases c17 : kT s = 17
  · have t18 : ((kT s : Int) == 18) = false := kn (c := 18) rfl c18
    have t22 : ((kT s : Int) == 22) = false := kn (c := 22) rfl c22
    have t1 : ((kT s : Int) == 1) = false := kn (c := 1) rfl c1
    have t16 : ((kT s : Int) == 16) = false := kn (c := 16) rfl c16
    have t17 : ((kT s : Int) == 17) = true := ke (c := 17) rfl c17
    have HX := hide (fun (W : World) (h : PR b tb cap te ts W s) => push_any ih W s r c17 h hp)
    clear hp hs c18 c22 c1 c16 c17
    go_enter Tryz.func130, Tryz.ntmps130
    go_wp2_with fail
    refine (kind_any HS.out).mono ?_
    rintro e w1 ⟨rfl, h1, hb1⟩
    have HP1 := hide (Below.only (b := b) hb1)
    have HO1 : Hid (Only b w w1) := (Only.refl b w).trans HP1.out
    have lw1 := HO1.out.size
    have H1 := hide h1
    clear h1 hb1
    go_wp2_with fail
    refine (HX.out _ H1.out).mono ?_
    rintro e w2 ⟨ty2, x2, rfl, h2, ho2, hr2⟩
    have HP2 := hide ho2
    have HO2 : Hid (Only b w w2) := HO1.out.trans HP2.out
    have lw2 := HO2.out.size
    have HR2 := hide hr2
    have H2 := hide h2
    clear h2 ho2 hr2
    go_wp2
    go_ret
    exact ⟨_, _, rfl, H2.out, HO2.out, fun hb => RepC.weak (by omega) (HR2.out hb)⟩
  have t18 : ((kT s : Int) == 18) = false := kn (c := 18) rfl c18
  have t22 : ((kT s : Int) == 22) = false := kn (c := 22) rfl c22
  have t1 : ((kT s : Int) == 1) = false := kn (c := 1) rfl c1
  have t16 : ((kT s : Int) == 16) = false := kn (c := 16) rfl c16
  have t17 : ((kT s : Int) == 17) = false := kn (c := 17) rfl c17
  have HX := hide (fun (W : World) (h : PR b tb cap te ts W s) => literal_any W s r c1 c18 c22 c16 c17 h hp)
  clear hp hs c18 c22 c1 c16 c17 hf1
  go_enter Tryz.func130, Tryz.ntmps130
  go_wp2_with fail
  refine (kind_any HS.out).mono ?_
  rintro e w1 ⟨rfl, h1, hb1⟩
  have HP1 := hide (Below.only (b := b) hb1)
  have HO1 : Hid (Only b w w1) := (Only.refl b w).trans HP1.out
  have lw1 := HO1.out.size
  have H1 := hide h1
  clear h1 hb1
  go_wp2_with fail
  refine (HX.out _ H1.out).mono ?_
  rintro e w2 ⟨ty2, x2, rfl, h2, ho2, hr2⟩
  have HP2 := hide ho2
  have HO2 : Hid (Only b w w2) := HO1.out.trans HP2.out
  have lw2 := HO2.out.size
  have HR2 := hide hr2
  have H2 := hide h2
  clear h2 ho2 hr2
  go_wp2
  go_ret
  exact ⟨_, _, rfl, H2.out, HO2.out, fun hb => RepC.weak (by omega) (HR2.out hb)⟩
end Go.Proofs.YtgccmgjbbcndbaaGreatDoor
