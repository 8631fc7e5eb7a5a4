import Derived.Test.YtgccmgjbbcndbaaGreatDoorM28
/- Walk of Sense: block. -/
namespace Go.Proofs.YtgccmgjbbcndbaaGreatDoor
open Go.RowKit
open Go.Deep (BT)

def w32 (kd : Nat) : Nat := if kd = 32 then 1 else 0

structure Ctx where
  sb : Nat
  pb : Nat
  te : Nat
  tp : Nat
  fns : List (Nm × Nat)
  la : Option Addr
  ln : Nat
  lc : Nat
  fa : Option Addr
  fn : Nat
  fc : Nat

structure Ctx.St (K : Ctx) (D : Nat → Prop) (w : World) (outer : List Nm) (ob : List Nat) (cur : List Nm) (blk wh : Nat) (inn : Bool) (f : Flt) : Prop where
  st : SSt D K.sb K.pb K.te w outer ob cur blk wh inn f
  fr : FnR D K.pb K.tp w K.fns K.la K.ln K.lc K.fa K.fn K.fc
  lo : ∀ g, D g → g < w.heap.size

def NodeOK (K : Ctx) (l : Lab) (c : BT Lab) : Prop := ∀ (D : Nat → Prop) (w : World) (outer : List Nm) (ob : List Nat) (cur : List Nm) (blk wh : Nat) (inn : Bool) (f : Flt) (ln nn : Int) (S : List UInt8) (va : Option Addr) (vn vc : Nat) (pa : Option Addr) (pn pc : Nat) (c1 : List Value),
  K.St D w outer ob cur blk (wh + w32 l.kd) inn f → RepT D w l c ln nn S va vn vc pa pn pc c1 → (outer ++ cur).length + bsize (nd l c) ≤ 900000 → blk + bsize (nd l c) ≤ 99990 → wh + bsize (nd l c) ≤ 99990 →
  Calls Tryz.prog 23 #[.pointer (some ⟨K.sb, 0, none⟩), .agg #[.string ⟨(isS l.kd).toArray⟩, .int .i64 ln, .string ⟨S.toArray⟩, .int .i64 nn, .slice va vn vc, .slice pa pn pc]] w fun e w' =>
    e = .returned (.tuple #[]) ∧ K.St D w' outer ob (sens K.fns (nd l c) outer cur wh inn f).1 blk (wh + w32 l.kd) inn (sens K.fns (nd l c) outer cur wh inn f).2 ∧ BelD D w w'

def ForestOK (K : Ctx) (f : BT Lab) : Prop := ∀ i x y l c r, dropT i f = .node x y l c r → NodeOK K l c

theorem sens_xy (fns : List (Nm × Nat)) (x y : Nat) (l : Lab) (c r : BT Lab) (outer cur : List Nm) (wh : Nat) (inn : Bool) (f : Flt) : sens fns (.node x y l c r) outer cur wh inn f = sens fns r outer (sens fns (nd l c) outer cur wh inn f).1 wh inn (sens fns (nd l c) outer cur wh inn f).2 := by
  rw [sens_sib]
  rfl

theorem Ctx.St.keep {K : Ctx} {D : Nat → Prop} {w w' : World} {outer : List Nm} {ob : List Nat} {cur : List Nm} {blk wh : Nat} {inn : Bool} {f : Flt} (h : K.St D w outer ob cur blk wh inn f) (hk : ∀ g, g < w.heap.size → w'.heap[g]? = w.heap[g]?) (hb : BelD D w w') : K.St D w' outer ob cur blk wh inn f :=
  ⟨h.st.keep hk, h.fr.keep hb, fun g hg => Nat.lt_of_lt_of_le (h.lo g hg) hb.size⟩

theorem own_row {w : World} {base : Nat} {e : TypeId} {size : Nat} {va : Option Addr} {vn vc n : Nat} {xs : List Value} (h : w.ownsRow base e size (.slice va vn vc) n xs) (hn : 0 < n) :
    ∃ g, va = some ⟨g, 0, none⟩ ∧ vn = n ∧ n ≤ vc ∧ g < w.heap.size ∧ ∀ j u, xs[j]? = some u → w.cell? ⟨g, j, none⟩ = some u := by
  obtain ⟨hl, ⟨h2, h3⟩ | ⟨g, cap, cur, hv, _, hg, hcap, _, _, ht⟩⟩ := h
  · omega
  · injection hv with e1 e2 e3
    subst e1 e2 e3
    refine ⟨g, rfl, rfl, hcap, heap_lt hg, fun j u hu => ?_⟩
    rw [← ht, List.getElem?_take] at hu
    split at hu
    · rw [cell_of_row w g j cur _ _ hg, ← Array.getElem?_toList]; exact hu
    · cases hu

theorem own_cap {w : World} {base : Nat} {e : TypeId} {size : Nat} {va : Option Addr} {vn vc n : Nat} {xs : List Value} (h : w.ownsRow base e size (.slice va vn vc) n xs) : n ≤ vc := by
  obtain ⟨hl, ⟨h2, h3⟩ | ⟨g, cap, cur, hv, _, hg, hcap, _⟩⟩ := h
  · injection h2 with e1 e2 e3; omega
  · injection hv with e1 e2 e3; omega
theorem blen_size : ∀ f : BT Lab, blen f ≤ bsize f := by
  intro f
  induction f with
  | nil => exact Nat.le_refl _
  | node x y l c r _ ih => rw [blen, bsize]; omega

theorem prmF_step (ps : List (Nat × Nm)) (i : Nat) (h : i < ps.length) (cur : List Nm) (f : Flt) : prmF (ps.drop i) cur f = prmF (ps.drop (i + 1)) (cur ++ [ps[i].2]) (wrongF (decide (ps[i].2 ∈ cur)) 3 ps[i].1 f) := by
  rw [List.drop_eq_getElem_cons h, prmF]
theorem prmF_end (ps : List (Nat × Nm)) (i : Nat) (h : ps.length ≤ i) (cur : List Nm) (f : Flt) : prmF (ps.drop i) cur f = (cur, f) := by
  rw [List.drop_eq_nil_of_le h, prmF]

theorem Ctx.St.next {K : Ctx} {D : Nat → Prop} {w w' : World} {outer outer' : List Nm} {ob ob' : List Nat} {cur cur' : List Nm} {blk blk' wh wh' : Nat} {inn inn' : Bool} {f f' : Flt} (h : K.St D w outer ob cur blk wh inn f) (h2 : SSt D K.sb K.pb K.te w' outer' ob' cur' blk' wh' inn' f') (hb : BelD D w w') : K.St D w' outer' ob' cur' blk' wh' inn' f' :=
  ⟨h2, h.fr.keep hb, fun g hg => Nat.lt_of_lt_of_le (h.lo g hg) hb.size⟩
set_option maxRecDepth 100000 in
set_option maxHeartbeats 2000000 in
theorem block_sense (K : Ctx) (c : BT Lab) (hok : ForestOK K c) (hshp : Shp c) (ht32 : T32 c) (D : Nat → Prop) (w : World) (outer : List Nm) (ob : List Nat) (cur : List Nm) (blk wh : Nat) (inn : Bool) (f : Flt) (va : Option Addr) (vn vc : Nat) (pa : Option Addr) (pn pc : Nat) (c1 : List Value) (xs : List (Tk × List UInt8))
    (hst : K.St D w outer ob cur blk wh inn f) (hown : OwnsD D w 41 6 (.slice va vn vc) (blen c) c1) (hrep : RepF D w c c1) (hprm : OwnsD D w 79 4 (.slice pa pn pc) xs.length (tkCs xs))
    (hb1 : (outer ++ cur).length + xs.length + bsize c + 1 ≤ 900000) (hb2 : blk + bsize c + 1 ≤ 99990) (hb3 : wh + bsize c ≤ 99990) (hb4 : xs.length ≤ 100000) :
    Calls Tryz.prog 26 #[.pointer (some ⟨K.sb, 0, none⟩), .slice va vn vc, .slice pa pn pc] w fun e w' => e = .returned (.tuple #[]) ∧ K.St D w' outer ob cur blk wh inn (sens K.fns c (outer ++ cur) (prmF (xs.map (fun x => (x.1.line, x.2))) [] f).1 wh inn (prmF (xs.map (fun x => (x.1.line, x.2))) [] f).2).2 ∧ BelD D w w' := by
  obtain ⟨⟨na, nn, nc, ba, bn, bc, bs, h⟩, hfr, hlo⟩ := hst
  obtain ⟨y0, y1, y2, y3, y4, y5, y6, y7, fy, ly⟩ := blk8 h.cell
  have hnn : nn = (outer ++ cur).length := (own_cells h.names).1
  have HH := hide h
  have HOwn := hide hown
  have HRep := hide hrep
  have HPrm := hide hprm
  have HOk := hide hok
  have HShp := hide hshp
  have HT := hide ht32
  have HFr := hide hfr
  have hvn : vn = blen c := (own_cells hown.1).1
  have hbls := blen_size c
  have hpn : pn = xs.length := (own_cells hprm.1).1
  subst hvn hpn
  have hlen : (outer ++ cur).length = nn := hnn.symm
  have HLen := hide hlen
  rw [hlen] at hb1
  clear h hown hrep hprm hok hshp ht32 hfr hnn hlen
  go_enter Tryz.func26, Tryz.ntmps26
  have hbsE : bs = ob ++ List.replicate cur.length blk := HH.out.bsE.1
  have HBs := hide hbsE
  have HSt1 : Hid (K.St D (w.setCell ⟨K.sb, 3, none⟩ (.int .i64 ((blk : Int) + 1))) (outer ++ cur) bs [] (blk + 1) wh inn f ∧ BelD D w (w.setCell ⟨K.sb, 3, none⟩ (.int .i64 ((blk : Int) + 1)))) := by
    have hbel : BelD D w (w.setCell ⟨K.sb, 3, none⟩ (.int .i64 ((blk : Int) + 1))) := BelD.set (p := ⟨K.sb, 3, none⟩) (BelD.refl _ _) HH.out.lo1 _
    refine ⟨⟨⟨na, nn, nc, ba, bn, bc, bs, HH.out.opened (by omega) ?_ (fun g _ hne => Below.heap_setCell _ _ _ _ (by exact hne))⟩, HFr.out.keep hbel, fun g hg => Nat.lt_of_lt_of_le (hlo g hg) hbel.size⟩, hbel⟩
    have := heap_set (j := 3) HH.out.cell (.int .i64 ((blk : Int) + 1))
    simpa using this
  have hbsl : bs.length = nn := by rw [HH.out.len]; exact HLen.out
  clear hbsE
  go_wp2
  clear y0 y1 y2 y3 y4 y5 y6 y7 fy
  generalize hps : xs.map (fun x => (x.1.line, x.2)) = ps
  have HPs := hide hps
  have hpl : ps.length = xs.length := by rw [← hps]; simp
  clear hps
  go_loopg [7] xs.length (fun k v wr => ∃ (n : Nat) (cp : List Nm) (fp : Flt), v = .int .i64 n ∧ n + k = xs.length ∧ cp.length = n ∧ K.St D wr (outer ++ cur) bs cp (blk + 1) wh inn fp ∧ prmF (ps.drop n) cp fp = prmF ps [] f ∧ BelD D w wr)
  case atStart => exact ⟨0, [], f, rfl, by omega, rfl, HSt1.out.1, rfl, HSt1.out.2⟩
  case round =>
    clear HSt1
    obtain ⟨n, cp, fp, rfl, hnk, hcp, hst, hpr, hbel⟩ := hrel
    have HSt := hide hst
    have HPr := hide hpr
    have HBel := hide hbel
    have hlo2 := hst.lo
    clear hst hpr hbel
    by_cases hlt : n < xs.length
    · have HPrm2 : Hid (OwnsD D wr 79 4 (.slice pa xs.length pc) xs.length (tkCs xs)) := HPrm.out.keep (fun g hg _ => ⟨HBel.out.block g hg, hg⟩)
      obtain ⟨g, rfl, _, hcap, lg, hcell⟩ := own_row HPrm2.out.1 (by omega)
      have d1 := hcell (n * 4 + 1) (.string ⟨xs[n].2.toArray⟩) (by rw [tkCs_at xs n 1 hlt (by omega)]; rfl)
      have d3 := hcell (n * 4 + 3) (.int .i64 (xs[n].1.line : Nat)) (by rw [tkCs_at xs n 3 hlt (by omega)]; rfl)
      have glo : D g := HPrm2.out.2 g rfl
      have hxp : ps[n]? = some (xs[n].1.line, xs[n].2) := by rw [← HPs.out, List.getElem?_map, List.getElem?_eq_getElem hlt]; rfl
      have HStep : Hid (prmF (ps.drop n) cp fp = prmF (ps.drop (n + 1)) (cp ++ [xs[n].2]) (wrongF (decide (xs[n].2 ∈ cp)) 3 xs[n].1.line fp)) := by
        show _ = _
        have hlp : n < ps.length := by omega
        rw [List.getElem?_eq_getElem hlp] at hxp
        rw [prmF_step ps n hlp, Option.some.inj hxp]
      clear hcell hxp
      generalize xs[n] = x at *
      go_wp2_with fail
      refine (had_any HSt.out.st (by rw [List.length_append, HLen.out]; omega) x.2).mono ?_
      rintro e w2 ⟨rfl, hs2, hbl2⟩
      have HSt2 := hide (HSt.out.next hs2 (beld_of hbl2 hlo2))
      have HB2 : Hid (BelD D wr w2) := beld_of hbl2 hlo2
      have d1' := (World.cell?_of_block (HB2.out.block g glo)).trans d1
      have d3' := (World.cell?_of_block (HB2.out.block g glo)).trans d3
      have lg2 : g < w2.heap.size := Nat.lt_of_lt_of_le lg HB2.out.size
      clear hs2 hbl2 d1 d3
      go_wp2_with fail
      refine (wrong_any HSt2.out.st (decide (x.2 ∈ cp)) 3 x.1.line _ _ rfl rfl).mono ?_
      rintro e w3 ⟨rfl, hs3, hbl3⟩
      have HSt3 := hide (HSt2.out.next hs3 hbl3)
      have HB3 : Hid (BelD D wr w3) := BelD.trans HB2.out hbl3
      have d1 := (World.cell?_of_block (hbl3.block g glo)).trans d1'
      have lg3 : g < w3.heap.size := Nat.lt_of_lt_of_le lg2 hbl3.size
      clear hs3 hbl3 d1' d3'
      go_wp2_with fail
      refine (let_any HSt3.out.st (by rw [List.length_append, HLen.out]; omega) HSt3.out.lo x.2).mono ?_
      rintro e w4 ⟨rfl, hs4, hbl4⟩
      have HSt4 := hide (HSt3.out.next hs4 hbl4)
      have HB4 : Hid (BelD D w w4) := BelD.trans HBel.out (BelD.trans HB3.out hbl4)
      clear hs4 hbl4 d1
      go_wp2
      go_roundg (gk - 1)
      case measure => omega
      case rel => exact ⟨n + 1, cp ++ [x.2], _, rfl, by omega, by simp; omega, HSt4.out, HStep.out.symm.trans HPr.out, HB4.out⟩
    · have HEnd : Hid ((cp, fp) = prmF ps [] f) := (prmF_end ps n (by omega) cp fp).symm.trans HPr.out
      clear HPr
      have hcpl : cp.length = xs.length := by omega
      go_wp2
      go_loopg [9] (blen c) (fun k v wr => ∃ (n : Nat) (cn : List Nm) (fn : Flt), v = .int .i64 n ∧ n + k = blen c ∧ cn.length + bsize (dropT n c) ≤ cp.length + bsize c ∧ K.St D wr (outer ++ cur) bs cn (blk + 1) wh inn fn ∧ sens K.fns (dropT n c) (outer ++ cur) cn wh inn fn = sens K.fns c (outer ++ cur) cp wh inn fp ∧ BelD D w wr)
      case atStart => exact ⟨0, cp, fp, rfl, by omega, Nat.le_refl _, HSt.out, rfl, HBel.out⟩
      case round =>
        clear HSt HBel hlo2 hlt hnk hcp
        obtain ⟨n, cn, fn, rfl, hnk, hcn, hst, hse, hbel⟩ := hrel
        have HSt := hide hst
        have HSe := hide hse
        have HBel := hide hbel
        have hlo2 := hst.lo
        have hbc := HLen.out
        clear hst hse hbel
        by_cases hlt : n < blen c
        · have hk : ∀ g, D g → g < w.heap.size → wr.heap[g]? = w.heap[g]? ∧ D g := fun g hg _ => ⟨HBel.out.block g hg, hg⟩
          obtain ⟨x, y, l, cc, r, hd, ln, mm, S, va2, vn2, vc2, pa2, pn2, pc2, c2, hrt, k0, k1, k2, k3, k4, k5⟩ := RepF.at' n c c1 HShp.out (RepF.keep hk _ _ HRep.out) hlt
          obtain ⟨g, rfl, _, hcap, lg, hcell⟩ := own_row (HOwn.out.keep hk).1 (by omega)
          have d0 := hcell _ _ k0
          have d1 := hcell _ _ k1
          have d2 := hcell _ _ k2
          have d3 := hcell _ _ k3
          have d4 := hcell _ _ k4
          have d5 := hcell _ _ k5
          have h32 : l.kd ≠ 32 := by have := dropT_T32 n c HT.out; rw [hd] at this; exact this.1
          have hw : wh + w32 l.kd = wh := by unfold w32; rw [if_neg h32]; rfl
          have hsz : bsize (dropT n c) = bsize (nd l cc) + bsize r := by rw [hd, nd_size, bsize]
          have hdn := dropT_size n c
          have HNd := hide (HOk.out n x y l cc r hd)
          have HDs := hide (dropT_succ n c x y l cc r hd)
          have HRt := hide hrt
          have HSx := hide ((congrArg (fun q => sens K.fns q (outer ++ cur) cn wh inn fn) hd).trans (sens_xy K.fns x y l cc r (outer ++ cur) cn wh inn fn))
          have hcur := sens_cur K.fns (nd l cc) (outer ++ cur) cn wh inn fn
          have HW := hide hw
          clear hcell k0 k1 k2 k3 k4 k5 hd hrt hw h32
          go_wp2_with fail
          refine (HNd.out D wr (outer ++ cur) bs cn (blk + 1) wh inn fn ln mm S va2 vn2 vc2 pa2 pn2 pc2 c2 (by rw [HW.out]; exact HSt.out) HRt.out (by rw [List.length_append, hbc]; omega) (by omega) (by omega)).mono ?_
          rintro e w2 ⟨rfl, hs2, hbl2⟩
          rw [HW.out] at hs2
          have HSt2 := hide hs2
          have HB2 : Hid (BelD D w w2) := BelD.trans HBel.out hbl2
          clear hs2 hbl2
          go_wp2
          go_roundg (gk - 1)
          case measure => omega
          case rel => exact ⟨n + 1, _, _, rfl, by omega, by rw [HDs.out]; omega, HSt2.out, by rw [HDs.out, ← HSx.out]; exact HSe.out, HB2.out⟩
        · have HE : Hid ((cn, fn) = sens K.fns c (outer ++ cur) cp wh inn fp) := by
            have h0 : dropT n c = .nil := blen_zero _ (by rw [dropT_len]; omega)
            have := HSe.out
            rw [h0] at this
            exact this
          clear HSe
          obtain ⟨na', nn', nc', ba', bn', bc', bs', h'⟩ := HSt.out.st
          obtain ⟨z0, z1, z2, z3, z4, z5, z6, z7, fz, lz⟩ := blk8 h'.cell
          have HH' := hide h'
          have hc1 : nn ≤ nc' := by have := own_cap h'.names; simp only [List.length_append] at this hbc; omega
          have hc2 : nn ≤ bc' := by have := own_cap h'.blocks; have := h'.len; simp only [List.length_append] at this hbc; omega
          clear h'
          go_wp2
          go_end0
          have hbel : BelD D w (((wr.setCell ⟨K.sb, 3, none⟩ (.int .i64 (blk : Nat))).setCell ⟨K.sb, 1, none⟩ (.slice na' nn nc')).setCell ⟨K.sb, 2, none⟩ (.slice ba' nn bc')) := BelD.set (p := ⟨K.sb, 2, none⟩) (BelD.set (p := ⟨K.sb, 1, none⟩) (BelD.set (p := ⟨K.sb, 3, none⟩) HBel.out HH'.out.lo1 _) HH'.out.lo1 _) HH'.out.lo1 _
          have hf : fn = (sens K.fns c (outer ++ cur) (prmF (xs.map (fun x => (x.1.line, x.2))) [] f).1 wh inn (prmF (xs.map (fun x => (x.1.line, x.2))) [] f).2).2 := by
            rw [HPs.out, ← HEnd.out]
            exact congrArg Prod.snd HE.out
          rw [← hf]
          have hx := HH'.out
          rw [HBs.out] at hx
          refine ⟨rfl, ⟨⟨na', nn, nc', ba', nn, bc', ob ++ List.replicate cur.length blk, ?_⟩, HFr.out.keep hbel, fun g hg => Nat.lt_of_lt_of_le (hlo g hg) hbel.size⟩, hbel⟩
          have hcl := SSv.closed (w' := ((wr.setCell ⟨K.sb, 3, none⟩ (.int .i64 (blk : Nat))).setCell ⟨K.sb, 1, none⟩ (.slice na' nn nc')).setCell ⟨K.sb, 2, none⟩ (.slice ba' nn bc')) HH.out.bsE.2 HH.out.obs hx ?_ (fun g _ hne => ?_)
          · rw [hbc] at hcl; exact hcl
          · rw [hbc]
            have := heap_set (j := 2) (heap_set (j := 1) (heap_set (j := 3) HH'.out.cell (.int .i64 (blk : Nat))) (.slice na' nn nc')) (.slice ba' nn bc')
            simpa using this
          · rw [Below.heap_setCell _ _ _ _ (by exact hne), Below.heap_setCell _ _ _ _ (by exact hne), Below.heap_setCell _ _ _ _ (by exact hne)]
end Go.Proofs.YtgccmgjbbcndbaaGreatDoor
/- Walk of Sense: node, where only what lies below is looked at. -/
namespace Go.Proofs.YtgccmgjbbcndbaaGreatDoor
open Go.RowKit
open Go.Deep (BT)

theorem SSt.weak {D E : Nat → Prop} {sb pb te : Nat} {w : World} {outer cur : List Nm} {ob : List Nat} {blk wh : Nat} {inn : Bool} {f : Flt} (h : SSt D sb pb te w outer ob cur blk wh inn f) (he : ∀ g, E g → D g) : SSt E sb pb te w outer ob cur blk wh inn f := by
  obtain ⟨na, nn, nc, ba, bn, bc, bs, h⟩ := h
  exact ⟨na, nn, nc, ba, bn, bc, bs, ⟨h.cell, h.names, h.blocks, h.len, h.out, h.inn', fun e => h.lo1 (he _ e), fun g hg => ⟨fun e => (h.lo2 g hg).1 (he _ e), (h.lo2 g hg).2⟩, fun g hg => ⟨fun e => (h.lo3 g hg).1 (he _ e), (h.lo3 g hg).2⟩, h.few, h.bsE⟩⟩

/- a block that the call has just made is kept from what it calls -/
theorem Ctx.St.protect {K : Ctx} {D : Nat → Prop} {w : World} {outer : List Nm} {ob : List Nat} {cur : List Nm} {blk wh : Nat} {inn : Bool} {f : Flt} (h : K.St D w outer ob cur blk wh inn f) (o : Obj) : K.St (fun g => D g ∨ g = w.heap.size) (w.alloc o) outer ob cur blk wh inn f := by
  obtain ⟨⟨na, nn, nc, ba, bn, bc, bs, hs⟩, hf, hl⟩ := h
  have hk : ∀ g, g < w.heap.size → (w.alloc o).heap[g]? = w.heap[g]? := fun g hg => Below.heap_alloc _ _ _ hg
  have ls := heap_lt hs.cell
  refine ⟨⟨na, nn, nc, ba, bn, bc, bs, ?_⟩, ?_, ?_⟩
  · have h2 := hs.keep hk
    exact ⟨h2.cell, h2.names, h2.blocks, h2.len, h2.out, h2.inn', fun e => by rcases e with e | e; exact hs.lo1 e; omega, fun g hg => ⟨fun e => by rcases e with e | e; exact (hs.lo2 g hg).1 e; have := own_lt hs.names g hg; omega, (hs.lo2 g hg).2⟩, fun g hg => ⟨fun e => by rcases e with e | e; exact (hs.lo3 g hg).1 e; have := own_lt hs.blocks g hg; omega, (hs.lo3 g hg).2⟩, h2.few, h2.bsE⟩
  · have h2 := hf.keep (BelD.alloc (BelD.refl D w) hl o)
    refine ⟨h2.cell, .inl h2.lt, h2.len, h2.few, fun i hi => ?_⟩
    obtain ⟨g, e1, e2, e3⟩ := h2.at' i hi
    exact ⟨g, e1, .inl e2, e3⟩
  · intro g hg
    rcases hg with e | e
    · have := hl g e; simp; omega
    · simp; omega
theorem beld_new {K : Ctx} {D : Nat → Prop} {w : World} {outer : List Nm} {ob : List Nat} {cur : List Nm} {blk wh : Nat} {inn : Bool} {f : Flt} (h : K.St D w outer ob cur blk wh inn f) (o : Obj) : BelD D w (w.alloc o) := BelD.alloc (BelD.refl D w) h.lo o
theorem Ctx.St.back {K : Ctx} {D : Nat → Prop} {x : Nat} {w w' : World} {outer outer' : List Nm} {ob ob' : List Nat} {cur cur' : List Nm} {blk blk' wh wh' : Nat} {inn inn' : Bool} {f f' : Flt} (h : K.St D w outer ob cur blk wh inn f) (h2 : SSt (fun g => D g ∨ g = x) K.sb K.pb K.te w' outer' ob' cur' blk' wh' inn' f') (hb : BelD D w w') : K.St D w' outer' ob' cur' blk' wh' inn' f' := h.next (h2.weak (fun _ hg => .inl hg)) hb

def plainKd (kd : Nat) : Bool := decide (kd ≤ 140) && (decide (kd ≤ 30) || decide (127 ≤ kd)) && !(kd == 6 || kd == 7 || kd == 8 || kd == 20 || kd == 21 || kd == 23 || kd == 24 || kd == 25 || kd == 26 || kd == 28)
theorem plain_tests : ∀ kd, kd ≤ 140 → plainKd kd = true → (kd ≠ 32 ∧ (isS kd == [98, 108, 111, 99, 107]) = false ∧ (isS kd == [108, 101, 116]) = false ∧ (isS kd == [110, 97, 109, 101]) = false ∧ (isS kd == [115, 101, 116]) = false ∧ (isS kd == [99, 97, 108, 108]) = false ∧ (isS kd == [98, 114, 101, 97, 107]) = false ∧ (isS kd == [99, 111, 110, 116, 105, 110, 117, 101]) = false ∧ (isS kd == [114, 101, 116, 117, 114, 110]) = false ∧ (isS kd == [119, 104, 105, 108, 101]) = false) := by decide +kernel
theorem sens_plain (fns : List (Nm × Nat)) (l : Lab) (c : BT Lab) (outer cur : List Nm) (wh : Nat) (inn : Bool) (f : Flt) (h : plainKd l.kd = true) (h32 : l.kd ≠ 32) (h31 : l.kd ≠ 31) : sens fns (nd l c) outer cur wh inn f = sens fns c outer cur wh inn f := by
  unfold plainKd at h
  simp only [Bool.and_eq_true, Bool.not_eq_true', Bool.or_eq_false_iff, beq_eq_false_iff_ne] at h
  obtain ⟨_, ⟨⟨⟨⟨⟨⟨⟨⟨⟨h6, h7⟩, h8⟩, h20⟩, h21⟩, h23⟩, h24⟩, h25⟩, h26⟩, h28⟩⟩ := h
  unfold nd
  rw [sens, if_neg h31, if_neg h32, if_neg h21]
  simp only [h6, h28, h7, h25, h26, h24, or_self, if_false, sens]

set_option maxRecDepth 100000 in
set_option maxHeartbeats 2000000 in
theorem node_plain (K : Ctx) (l : Lab) (c : BT Lab) (hkd : plainKd l.kd = true) (hok : ForestOK K c) (hshp : Shp c) (ht32 : T32 c) : NodeOK K l c := by
  have h140 : l.kd ≤ 140 := by unfold plainKd at hkd; simp only [Bool.and_eq_true, decide_eq_true_eq] at hkd; exact hkd.1.1
  have h31 : l.kd ≠ 31 := by unfold plainKd at hkd; simp only [Bool.and_eq_true, Bool.or_eq_true, decide_eq_true_eq] at hkd; omega
  obtain ⟨hk32, t1, t2, t3, t4, t5, t6, t7, t8, t9⟩ := plain_tests l.kd h140 hkd
  have hsens := fun (outer cur : List Nm) (wh : Nat) (inn : Bool) (f : Flt) => sens_plain K.fns l c outer cur wh inn f hkd hk32 h31
  clear h140 h31 hkd
  intro D w outer ob cur blk wh inn f ln nn S va vn vc pa pn pc c1 hst hrt hb1 hb2 hb3
  have hw32 : wh + w32 l.kd = wh := by unfold w32; rw [if_neg hk32]; rfl
  rw [hw32] at hst ⊢
  have HSens := hide (hsens outer cur wh inn f)
  have HSt0 := hide hst
  have HRt0 := hide hrt
  have HSt1 := hide (hst.protect (.cells #[.string ⟨(isS l.kd).toArray⟩, .int .i64 ln, .string ⟨S.toArray⟩, .int .i64 nn, .slice va vn vc, .slice pa pn pc] 41))
  have HOk := hide hok
  have HShp := hide hshp
  have HT := hide ht32
  have hvn : vn = blen c := (own_cells hrt.own.1).1
  have hbls := blen_size c
  have hnds := nd_size l c
  have hrt1 : RepT (fun g => D g ∨ g = w.heap.size) (w.alloc (.cells #[.string ⟨(isS l.kd).toArray⟩, .int .i64 ln, .string ⟨S.toArray⟩, .int .i64 nn, .slice va vn vc, .slice pa pn pc] 41)) l c ln nn S va vn vc pa pn pc c1 := hrt.keep (fun g hg hl => ⟨Below.heap_alloc _ _ _ hl, .inl hg⟩)
  have HRt1' := hide hrt1
  subst hvn
  obtain ⟨w1, hw1⟩ : ∃ w1, w1 = w.alloc (.cells #[.string ⟨(isS l.kd).toArray⟩, .int .i64 ln, .string ⟨S.toArray⟩, .int .i64 nn, .slice va (blen c) vc, .slice pa pn pc] 41) := ⟨_, rfl⟩
  have HRt1 : Hid (RepT (fun g => D g ∨ g = w.heap.size) w1 l c ln nn S va (blen c) vc pa pn pc c1) := by rw [hw1]; exact HRt1'.out
  have HX1 : Hid (w1.heap[w.heap.size]? = some (.cells #[.string ⟨(isS l.kd).toArray⟩, .int .i64 ln, .string ⟨S.toArray⟩, .int .i64 nn, .slice va (blen c) vc, .slice pa pn pc] 41)) := by show _ = _; rw [hw1]; exact heap_alloc_new w (.cells #[.string ⟨(isS l.kd).toArray⟩, .int .i64 ln, .string ⟨S.toArray⟩, .int .i64 nn, .slice va (blen c) vc, .slice pa pn pc] 41)
  have HB0 : Hid (BelD D w w1) := by rw [hw1]; exact beld_new HSt0.out (.cells #[.string ⟨(isS l.kd).toArray⟩, .int .i64 ln, .string ⟨S.toArray⟩, .int .i64 nn, .slice va (blen c) vc, .slice pa pn pc] 41)
  have HEq := hide hw1
  have hsw1 : w1.heap.size = w.heap.size + 1 := by rw [hw1]; simp
  have HLt0 := hide HRt0.out.line
  have HNm0 := hide HRt0.out.name
  clear hsens hst hrt hrt1 hok hshp ht32 hw32 hk32 hw1 HRt1' HRt0
  have HSt2 := HSt1
  have HB2 : Hid (BelD (fun g => D g ∨ g = w.heap.size) w1 (w.alloc (.cells #[.string ⟨(isS l.kd).toArray⟩, .int .i64 ln, .string ⟨S.toArray⟩, .int .i64 nn, .slice va (blen c) vc, .slice pa pn pc] 41))) := by rw [HEq.out]; exact BelD.refl _ _
  go_enter Tryz.func23, Tryz.ntmps23
  go_wp2
  go_loopg [7] (blen c) (fun k v wr => ∃ (n : Nat) (cn : List Nm) (fn : Flt), v = .int .i64 n ∧ n + k = blen c ∧ cn.length + bsize (dropT n c) ≤ (cur).length + bsize c ∧ K.St (fun g => D g ∨ g = w.heap.size) wr outer ob cn blk wh inn fn ∧ sens K.fns (dropT n c) outer cn wh inn fn = sens K.fns c outer (cur) wh inn (f) ∧ BelD (fun g => D g ∨ g = w.heap.size) w1 wr)
  case atStart => exact ⟨0, cur, f, rfl, by omega, Nat.le_refl _, HSt2.out, rfl, HB2.out⟩
  case round =>
    clear HSt2 HB2
    obtain ⟨n, cn, fn, rfl, hnk, hcn, hst, hse, hbel⟩ := hrel
    have hX := (hbel.block w.heap.size (.inr rfl)).trans HX1.out
    obtain ⟨x0, x1, x2, x3, x4, x5, fX, lX⟩ := blk6 hX
    have HSt := hide hst
    have HSe := hide hse
    have HBel := hide hbel
    clear hst hse hbel
    by_cases hlt : n < blen c
    · have hk : ∀ g, (D g ∨ g = w.heap.size) → g < w1.heap.size → wr.heap[g]? = w1.heap[g]? ∧ (D g ∨ g = w.heap.size) := fun g hg _ => ⟨HBel.out.block g hg, hg⟩
      obtain ⟨x, y, l', cc, r, hd, ln', mm, S', va2, vn2, vc2, pa2, pn2, pc2, c2, hrt, k0, k1, k2, k3, k4, k5⟩ := RepF.at' n c c1 HShp.out (RepF.keep hk _ _ HRt1.out.kids) hlt
      obtain ⟨g, rfl, _, hcap, lg, hcell⟩ := own_row (HRt1.out.own.keep hk).1 (by omega)
      have d0 := hcell _ _ k0
      have d1 := hcell _ _ k1
      have d2 := hcell _ _ k2
      have d3 := hcell _ _ k3
      have d4 := hcell _ _ k4
      have d5 := hcell _ _ k5
      have h32 : l'.kd ≠ 32 := by have := dropT_T32 n c HT.out; rw [hd] at this; exact this.1
      have hw : wh + w32 l'.kd = wh := by unfold w32; rw [if_neg h32]; rfl
      have hsz : bsize (dropT n c) = bsize (nd l' cc) + bsize r := by rw [hd, nd_size, bsize]
      have hdn := dropT_size n c
      have HNd := hide (HOk.out n x y l' cc r hd)
      have HDs := hide (dropT_succ n c x y l' cc r hd)
      have HRt := hide hrt
      have HSx := hide ((congrArg (fun q => sens K.fns q outer cn wh inn fn) hd).trans (sens_xy K.fns x y l' cc r outer cn wh inn fn))
      have hcur := sens_cur K.fns (nd l' cc) outer cn wh inn fn
      have HW := hide hw
      clear hcell hd hrt hw h32
      clear k0 k1 k2 k3 k4 k5
      go_wp2_with fail
      refine (HNd.out _ wr outer ob cn blk wh inn fn ln' mm S' va2 vn2 vc2 pa2 pn2 pc2 c2 (by rw [HW.out]; exact HSt.out) HRt.out (by simp only [List.length_append] at hb1 ⊢; omega) (by omega) (by omega)).mono ?_
      rintro e w3 ⟨rfl, hs3, hbl3⟩
      rw [HW.out] at hs3
      have HSt3 := hide hs3
      have HB3 : Hid (BelD (fun g => D g ∨ g = w.heap.size) w1 w3) := HBel.out.trans hbl3
      clear hs3 hbl3
      go_wp2
      go_roundg (gk - 1)
      case measure => omega
      case rel => exact ⟨n + 1, _, _, rfl, by omega, by rw [HDs.out]; omega, HSt3.out, by rw [HDs.out, ← HSx.out]; exact HSe.out, HB3.out⟩
    · have HE : Hid ((cn, fn) = sens K.fns c outer (cur) wh inn (f)) := by
        have h0 : dropT n c = .nil := blen_zero _ (by rw [dropT_len]; omega)
        have := HSe.out
        rw [h0] at this
        exact this
      clear HSe
      go_wp2
      go_end0
      have hbl := HB0.out.trans (HBel.out.weak (fun g hg => .inl hg))
      rw [HSens.out, ← HE.out]
      exact ⟨rfl, HSt0.out.back HSt.out.st hbl, hbl⟩
end Go.Proofs.YtgccmgjbbcndbaaGreatDoor
