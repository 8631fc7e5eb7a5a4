import Derived.Test.YtgccmgjbbcndbaaGreatDoorM27
import Derived.Test.YtgccmgjbbcndbaaGreatDoorM23
import Derived.Deep.RegionLaw
import Derived.Test.YtgccmgjbbcndbaaGreatDoorM11
/- Walks of Sense: had, seen. -/
namespace Go.Proofs.YtgccmgjbbcndbaaGreatDoor
open Go.RowKit
open Go.Deep (BT)

theorem below_drewN {n : Nat} {x w : World} (h : Below n x w) (q : Nat) : Below n x (w.drewN q) := ⟨h.os, h.tape, h.output, h.size, h.block⟩

set_option maxRecDepth 100000 in
set_option maxHeartbeats 1000000 in
theorem had_any {D : Nat → Prop} {sb pb te : Nat} {w : World} {outer cur : List Nm} {ob : List Nat} {blk wh : Nat} {inn : Bool} {f : Flt} (h : SSt D sb pb te w outer ob cur blk wh inn f) (hlen : (outer ++ cur).length ≤ 1000000) (s : Nm) :
    Calls Tryz.prog 44 #[.pointer (some ⟨sb, 0, none⟩), .string ⟨s.toArray⟩] w fun e w' => e = .returned (.bool (decide (s ∈ cur))) ∧ SSt D sb pb te w' outer ob cur blk wh inn f ∧ Below w.heap.size w w' := by
  obtain ⟨na, nn, nc, ba, bn, bc, bs, h⟩ := h
  have HH := hide h
  have hnn : nn = (outer ++ cur).length := (own_cells h.names).1
  have hbn : bn = bs.length := (own_cells h.blocks).1
  have hl2 := h.len
  have HI := hide (had_iff h.len h.out h.inn' s)
  have hblk := h.few.1
  have HBs : Hid (∀ i (hi : i < bs.length), bs[i] ≤ 100000) := by
    intro i hi
    by_cases ho : i < outer.length
    · have := h.out i hi ho; omega
    · have := h.inn' i hi (by omega); omega
  have HNames : Hid (∀ wr : World, SSv D sb pb te wr outer ob cur blk wh inn f na nn nc ba bn bc bs → wr.ownsRow 0 9 1 (.slice na nn nc) (outer ++ cur).length ((outer ++ cur).map nmV)) := fun wr hh => hh.names
  clear h
  generalize hns : outer ++ cur = ns at HI HNames hnn hlen hl2
  have HNS := hide hns
  clear hns
  subst hnn hbn
  go_enter Tryz.func44, Tryz.ntmps44
  go_wp2
  go_loopg [5] ns.length (fun k v wr => ∃ n : Nat, v = .int .i64 n ∧ n + k = ns.length ∧ (∀ i, i < n → ∀ (h : i < bs.length) (h' : i < ns.length), ¬ (ns[i] = s ∧ bs[i] = blk)) ∧ SSv D sb pb te wr outer ob cur blk wh inn f na ns.length nc ba bs.length bc bs ∧ Below w.heap.size w wr)
  case atStart =>
    exact ⟨0, rfl, by omega, fun i hi => by omega, HH.out, Below.refl _ _⟩
  case round =>
    clear HH
    obtain ⟨n, rfl, hnk, hno, hh, hbel⟩ := hrel
    have HH := hide hh
    have HNo := hide hno
    have HBel := hide hbel
    obtain ⟨c0, c1, c2, c3, c4, c5, c6, c7, fz, ls⟩ := blk8 hh.cell
    clear hno hh hbel
    by_cases hlt : n < ns.length
    · have hb2 : n < bs.length := by omega
      obtain ⟨g, rfl, _, hcap, lg, fg, hx, cg⟩ := own_at (HNames.out _ HH.out) n hlt
      obtain ⟨g2, rfl, _, hcap2, lg2, fg2, hx2, cg2⟩ := own_at HH.out.blocks n hb2
      simp only [List.getElem_map, nmV] at cg
      simp only [List.getElem_map, blV] at cg2
      have hbn := HBs.out n hb2
      have HI1 := hide (fun e1 e2 => HI.out.2 ⟨n, hb2, hlt, e1, e2⟩)
      have HS : Hid (¬ (ns[n] = s ∧ bs[n] = blk) → ∀ i, i < n + 1 → ∀ (h : i < bs.length) (h' : i < ns.length), ¬ (ns[i] = s ∧ bs[i] = blk)) := by
        intro hn i hi h h' e
        by_cases hin : i = n
        · subst hin; exact hn e
        · exact HNo.out i (by omega) h h' e
      generalize ns[n] = x at *
      generalize bs[n] = y at *
      cases hq : (x == s)
      · have HQ : Hid (¬ (x = s ∧ y = blk)) := fun e => by rw [beq_eq_false_iff_ne] at hq; exact hq e.1
        go_wp2
        go_quiet (fail)
        go_wp2
        go_roundg (gk - 1)
        case measure => omega
        case rel => exact ⟨n + 1, rfl, by omega, HS.out HQ.out, HH.out.keep (fun _ _ => rfl), below_drewN HBel.out _⟩
      · have HQ : Hid (x = s) := hide (by simpa using hq)
        by_cases hy : y = blk
        · have HT := hide (HI1.out HQ.out hy)
          have t2 : (((y : Nat) : Int) == ((blk : Nat) : Int)) = true := by rw [hy]; simp
          clear hy
          go_wp2
          go_quiet (fail)
          go_wp2
          go_ret
          refine ⟨?_, ⟨_, _, _, _, _, _, _, HH.out.keep (fun _ _ => rfl)⟩, below_drewN HBel.out _⟩
          rw [decide_eq_true HT.out]; rfl
        · have HQ2 : Hid (¬ (x = s ∧ y = blk)) := fun e => hy e.2
          have t2 : (((y : Nat) : Int) == ((blk : Nat) : Int)) = false := by rw [beq_eq_false_iff_ne]; omega
          clear hy
          go_wp2
          go_quiet (fail)
          go_wp2
          go_roundg (gk - 1)
          case measure => omega
          case rel => exact ⟨n + 1, rfl, by omega, HS.out HQ2.out, HH.out.keep (fun _ _ => rfl), below_drewN HBel.out _⟩
    · have HT : Hid (¬ s ∈ cur) := by
        intro hm
        obtain ⟨i, h, h', e⟩ := HI.out.1 hm
        exact HNo.out i (by omega) h h' e
      go_wp2
      go_ret
      refine ⟨?_, ⟨_, _, _, _, _, _, _, HH.out⟩, HBel.out⟩
      rw [decide_eq_false HT.out]; rfl

set_option maxRecDepth 100000 in
set_option maxHeartbeats 1000000 in
theorem seen_any {D : Nat → Prop} {sb pb te : Nat} {w : World} {outer cur : List Nm} {ob : List Nat} {blk wh : Nat} {inn : Bool} {f : Flt} (h : SSt D sb pb te w outer ob cur blk wh inn f) (hlen : (outer ++ cur).length ≤ 1000000) (s : Nm) :
    Calls Tryz.prog 45 #[.pointer (some ⟨sb, 0, none⟩), .string ⟨s.toArray⟩] w fun e w' => e = .returned (.bool (decide (s ∈ outer ++ cur))) ∧ SSt D sb pb te w' outer ob cur blk wh inn f ∧ Below w.heap.size w w' := by
  obtain ⟨na, nn, nc, ba, bn, bc, bs, h⟩ := h
  have HH := hide h
  have hnn : nn = (outer ++ cur).length := (own_cells h.names).1
  have HNames : Hid (∀ wr : World, SSv D sb pb te wr outer ob cur blk wh inn f na nn nc ba bn bc bs → wr.ownsRow 0 9 1 (.slice na nn nc) (outer ++ cur).length ((outer ++ cur).map nmV)) := fun wr hh => hh.names
  clear h
  generalize hns : outer ++ cur = ns at HNames hnn hlen ⊢
  have HNS := hide hns
  clear hns
  subst hnn
  go_enter Tryz.func45, Tryz.ntmps45
  go_wp2
  go_loopg [5] ns.length (fun k v wr => ∃ n : Nat, v = .int .i64 n ∧ n + k = ns.length ∧ (∀ i, i < n → ∀ (h' : i < ns.length), ¬ (ns[i] = s)) ∧ SSv D sb pb te wr outer ob cur blk wh inn f na ns.length nc ba bn bc bs ∧ Below w.heap.size w wr)
  case atStart =>
    exact ⟨0, rfl, by omega, fun i hi => by omega, HH.out, Below.refl _ _⟩
  case round =>
    clear HH
    obtain ⟨n, rfl, hnk, hno, hh, hbel⟩ := hrel
    have HH := hide hh
    have HNo := hide hno
    have HBel := hide hbel
    obtain ⟨c0, c1, c2, c3, c4, c5, c6, c7, fz, ls⟩ := blk8 hh.cell
    clear hno hh hbel
    by_cases hlt : n < ns.length
    · obtain ⟨g, rfl, _, hcap, lg, fg, hx, cg⟩ := own_at (HNames.out _ HH.out) n hlt
      simp only [List.getElem_map, nmV] at cg
      have HM : Hid (ns[n] ∈ ns) := List.getElem_mem _
      have HS : Hid (¬ ns[n] = s → ∀ i, i < n + 1 → ∀ (h' : i < ns.length), ¬ (ns[i] = s)) := by
        intro hn i hi h' e
        by_cases hin : i = n
        · subst hin; exact hn e
        · exact HNo.out i (by omega) h' e
      generalize ns[n] = x at *
      cases hq : (x == s)
      · have HQ : Hid (¬ x = s) := by rw [beq_eq_false_iff_ne] at hq; exact hq
        go_wp2
        go_roundg (gk - 1)
        case measure => omega
        case rel => exact ⟨n + 1, rfl, by omega, HS.out HQ.out, HH.out, HBel.out⟩
      · have HT : Hid (s ∈ ns) := by
          have : x = s := by simpa using hq
          rw [this] at HM; exact HM
        go_wp2
        go_ret
        refine ⟨?_, ⟨_, _, _, _, _, _, _, HH.out⟩, HBel.out⟩
        rw [decide_eq_true HT.out]; rfl
    · have HT : Hid (¬ s ∈ ns) := by
        intro hm
        obtain ⟨i, h, e⟩ := List.getElem_of_mem hm
        exact HNo.out i (by omega) h e
      go_wp2
      go_ret
      refine ⟨?_, ⟨_, _, _, _, _, _, _, HH.out⟩, HBel.out⟩
      rw [decide_eq_false HT.out]; rfl
end Go.Proofs.YtgccmgjbbcndbaaGreatDoor
/- One element appended, within a region that draws its order. -/
namespace Go.Proofs.YtgccmgjbbcndbaaGreatDoor
open Go.RowKit

theorem step_app {P : Program} {ops : Array Oper} {o : Oper} {a : Act} {K : Act → World → Prop} {Q : Exit → Act → World → Prop} {E : Prop} (W : World) (cs : Array Value) (e : TypeId) (hgd : o.guard = none) (s x : Operand) (t : TypeId)
    (ho : o.op = .call { callee := .builtin .append, args := #[s, x], argTypes := #[t, t] })
    (base size bytes : Nat) (z : Value) (ht : P.underlying t = some (.slice e)) (hinfo : (P.info? e).map (fun i => (i.zero, i.size, i.bytes)) = some (some z, size, bytes))
    (hzs : z.cells.size = size) (hsz : 0 < size)
    (v : Value) (n : Nat) (xs : List Value) (hs : a.eval s = v) (hx : a.eval x = .slice (some ⟨W.heap.size, 0, none⟩) 1 1)
    (hown : W.ownsRow base e size v n xs) (hl : cs.size = size) (h1 : ∀ u ∈ cs.toList, u.oneCell' = true)
    (hn : n ≤ 1000000) (hby : bytes ≤ 1000) (hbase : base ≤ W.heap.size)
    (h : ∀ g cap w', w'.ownsRow base e size (.slice (some ⟨g, 0, none⟩) (n + 1) cap) (n + 1) (xs ++ cs.toList) → W.grownBy w' v.ownBlock → (v.ownBlock = some g ∨ g = W.heap.size + 1) → g < w'.heap.size →
      K (a.put o.dst (.slice (some ⟨g, 0, none⟩) (n + 1) cap)) w') :
    if Region.wanted o (yielded ops a.tmps) = true then Oper.wp P o a (W.alloc (.cells cs e)) K Q else E := by
  obtain ⟨i, hi, hz0, hz1, hz2⟩ := info_parts hinfo
  have hb := Nat.mul_le_mul (show n + 1 ≤ 1000001 by omega) hby
  refine step_append_lies (P := P) (W.alloc (.cells cs e)) hgd s x t ho base e i z size bytes ht hi hz0 hz1 hz2 hzs hsz v n xs hs (hown.alloc _) ⟨W.heap.size, 0, none⟩ 1 1 cs.toList hx (by simp [hl])
    (World.news_of_block (heap_alloc_new W _)) h1 (by omega) (by simp only [maxLen]; omega) (by omega) (by simp; omega) (W.heap.size + 1) (by simp) ?_
  intro g cap w' k1 k2 k3 k4
  exact h g cap w' k1 (grown_trans (World.grownBy_alloc W _ none) k2) k3 k4

/- the same in whatever world, the element in a block that is known -/
theorem step_app2 {P : Program} {ops : Array Oper} {o : Oper} {a : Act} {K : Act → World → Prop} {Q : Exit → Act → World → Prop} {E : Prop} (W : World) (B : Nat) (cs : Array Value) (e : TypeId) (hB : W.heap[B]? = some (.cells cs e (0, 0))) (hgd : o.guard = none) (s x : Operand) (t : TypeId)
    (ho : o.op = .call { callee := .builtin .append, args := #[s, x], argTypes := #[t, t] })
    (base size bytes : Nat) (z : Value) (ht : P.underlying t = some (.slice e)) (hinfo : (P.info? e).map (fun i => (i.zero, i.size, i.bytes)) = some (some z, size, bytes))
    (hzs : z.cells.size = size) (hsz : 0 < size)
    (v : Value) (n : Nat) (xs : List Value) (hs : a.eval s = v) (hx : a.eval x = .slice (some ⟨B, 0, none⟩) 1 1)
    (hown : W.ownsRow base e size v n xs) (hl : cs.size = size) (h1 : ∀ u ∈ cs.toList, u.oneCell' = true)
    (hn : n ≤ 1000000) (hby : bytes ≤ 1000) (hbase : base ≤ W.heap.size)
    (h : ∀ g cap w', w'.ownsRow base e size (.slice (some ⟨g, 0, none⟩) (n + 1) cap) (n + 1) (xs ++ cs.toList) → W.grownBy w' v.ownBlock → (v.ownBlock = some g ∨ g = W.heap.size) → g < w'.heap.size →
      K (a.put o.dst (.slice (some ⟨g, 0, none⟩) (n + 1) cap)) w') :
    if Region.wanted o (yielded ops a.tmps) = true then Oper.wp P o a W K Q else E := by
  obtain ⟨i, hi, hz0, hz1, hz2⟩ := info_parts hinfo
  have hb := Nat.mul_le_mul (show n + 1 ≤ 1000001 by omega) hby
  exact step_append_lies (P := P) W hgd s x t ho base e i z size bytes ht hi hz0 hz1 hz2 hzs hsz v n xs hs hown ⟨B, 0, none⟩ 1 1 cs.toList hx (by simp [hl])
    (World.news_of_block hB) h1 (by omega) (by simp only [maxLen]; omega) (by omega) hbase W.heap.size rfl h
end Go.Proofs.YtgccmgjbbcndbaaGreatDoor
/- Walk of Sense: let. -/
namespace Go.Proofs.YtgccmgjbbcndbaaGreatDoor
open Go.RowKit
open Go.Deep (BT)

theorem infoStr : (Tryz.prog.info? 9).map (fun i => (i.zero, i.size, i.bytes)) = some (some (.string ⟨#[]⟩), 1, 16) := by kernel_rfl
theorem infoInt : (Tryz.prog.info? 3).map (fun i => (i.zero, i.size, i.bytes)) = some (some (.int .i64 0), 1, 8) := by kernel_rfl

set_option maxRecDepth 100000 in
set_option maxHeartbeats 1000000 in
theorem let_any {D : Nat → Prop} {sb pb te : Nat} {w : World} {outer cur : List Nm} {ob : List Nat} {blk wh : Nat} {inn : Bool} {f : Flt} (h : SSt D sb pb te w outer ob cur blk wh inn f) (hlen : (outer ++ cur).length ≤ 900000) (hlo : ∀ g, D g → g < w.heap.size) (s : Nm) :
    Calls Tryz.prog 46 #[.pointer (some ⟨sb, 0, none⟩), .string ⟨s.toArray⟩] w fun e w' => e = .returned (.tuple #[]) ∧ SSt D sb pb te w' outer ob (cur ++ [s]) blk wh inn f ∧ BelD D w w' := by
  obtain ⟨na, nn, nc, ba, bn, bc, bs, h⟩ := h
  obtain ⟨c0, c1, c2, c3, c4, c5, c6, c7, fz, ls⟩ := blk8 h.cell
  have hl2 := h.len
  have HH := hide h
  have hown := h.names
  have hown2 := h.blocks
  have h2 := h.lo2
  have h3 := h.lo3
  have HLo1 := hide h.lo1
  clear h
  generalize hns : outer ++ cur = ns at hown hlen hl2
  have HNS := hide hns
  have HLo2 := hide h2
  have HLo3 := hide h3
  have hnn : nn = ns.length := (own_cells hown).1
  have hbn : bn = bs.length := (own_cells hown2).1
  have hlb : bs.length ≤ 900000 := by omega
  subst hnn hbn
  have HL2 := hide hl2
  clear hns h2 h3 hl2
  go_enter Tryz.func46, Tryz.ntmps46
  have HOwn2 := hide hown2
  have HSb := hide HH.out.cell
  go_wp2_with (at_builtin; first
    | (refine wpl_app w #[.string ⟨s.toArray⟩] 9 rfl (.tmp 8) (.tmp 10) 34 rfl 0 1 16 (.string ⟨#[]⟩) Tryz.underlying34 infoStr rfl (by omega) _ _ _ rfl rfl hown rfl (fun u hu => by simp at hu; rw [hu]; rfl) (by omega) (by omega) (Nat.zero_le _) ?_; intro g1 cap1 w1 hown1 hgrow1 hat1 hg1
       replace hgrow1 : w.grownBy w1 (Value.slice na ns.length nc).ownBlock := hgrow1
       replace hat1 : (Value.slice na ns.length nc).ownBlock = some g1 ∨ g1 = w.heap.size + 1 := hat1
       have HG1 : Hid (¬ D g1 ∧ g1 ≠ sb ∧ (Value.slice ba bs.length bc).ownBlock ≠ some g1) := (by rcases hat1 with e | e; exact HLo2.out g1 e; refine ⟨fun hd => by have := hlo _ hd; omega, by omega, fun e2 => ?_⟩; have := own_lt HOwn2.out g1 e2; omega)
       have hsb1 := (hgrow1.block sb ls (fun e => (HLo2.out sb e.symm).2.1 rfl)).trans HSb.out
       obtain ⟨y0, y1, y2, y3, y4, y5, y6, y7, fy, ly⟩ := blk8 hsb1
       have HSb1 := hide hsb1
       have hown3 : (w1.setCell ⟨sb, 1, none⟩ (.slice (some ⟨g1, 0, none⟩) (ns.length + 1) cap1)).ownsRow 0 3 1 (.slice ba bs.length bc) bs.length (bs.map blV) := own_same HOwn2.out (fun k hk hl => by have hk3 := HLo3.out k hk; exact (Below.heap_setCell _ _ _ _ (by exact hk3.2)).trans (hgrow1.block k hl (fun e => (HLo2.out k e.symm).2.2 hk)))
       have HGrow1 := hide hgrow1
       have hs1 : (w1.setCell ⟨sb, 1, none⟩ (.slice (some ⟨g1, 0, none⟩) (ns.length + 1) cap1)).heap.size = w1.heap.size := (by simp [World.setCell])
       have HOwn1 := hide hown1
       clear hsb1 hgrow1 hat1 hown1 hown hown2 c0 c1 c2 c3 c4 c5 c6 c7 fz)
    | fail)
  go_region_law (refine step_app2 _ w1.heap.size #[.int .i64 (blk : Nat)] 3 (by show ((w1.setCell ⟨sb, 1, none⟩ (.slice (some ⟨g1, 0, none⟩) (ns.length + 1) cap1)).alloc _).heap[w1.heap.size]? = _; have := heap_alloc_new (w1.setCell ⟨sb, 1, none⟩ (.slice (some ⟨g1, 0, none⟩) (ns.length + 1) cap1)) (.cells #[.int .i64 (blk : Nat)] 3); rw [hs1] at this; exact this) rfl (.tmp 18) (.tmp 23) 65 rfl 0 1 8 (.int .i64 0) Tryz.underlying65 infoInt rfl (by omega) (.slice ba bs.length bc) bs.length (bs.map blV) rfl rfl (hown3.alloc _) rfl (fun u hu => by simp at hu; rw [hu]; rfl) (by omega) (by omega) (Nat.zero_le _) ?_; intro g2 cap2 w2 hown2 hgrow2' hat2' hg2; have hgrow2 : (w1.setCell ⟨sb, 1, none⟩ (.slice (some ⟨g1, 0, none⟩) (ns.length + 1) cap1)).grownBy w2 (Value.slice ba bs.length bc).ownBlock := grown_trans (World.grownBy_alloc (w1.setCell ⟨sb, 1, none⟩ (.slice (some ⟨g1, 0, none⟩) (ns.length + 1) cap1)) (.cells #[.int .i64 (blk : Nat)] 3) none) ⟨hgrow2'.os, hgrow2'.tape, hgrow2'.output, hgrow2'.size, hgrow2'.block⟩; have hat2 : (Value.slice ba bs.length bc).ownBlock = some g2 ∨ g2 = w1.heap.size + 1 := (hat2'.imp id (fun e => e.trans (by show ((w1.setCell ⟨sb, 1, none⟩ (.slice (some ⟨g1, 0, none⟩) (ns.length + 1) cap1)).alloc _).heap.size = _; rw [World.size_alloc, hs1]))); have hsb2 := (hgrow2.block sb (by rw [hs1]; exact ly) (fun e => (HLo3.out sb e.symm).2 rfl)).trans (heap_set (j := 1) HSb1.out _); simp only [List.setIfInBounds_toArray, List.set_cons_zero, List.set_cons_succ] at hsb2; obtain ⟨z0, z1, z2, z3, z4, z5, z6, z7, fz2, lz⟩ := blk8 hsb2; have HSb2 := hide hsb2; clear hsb2 hgrow2' hat2')
  all_goals go_wp2
  all_goals go_end0
  all_goals
    have hw1 := HGrow1.out.size
    have hG1 := HG1.out
    have hG2 : ¬ D g2 ∧ g2 ≠ sb ∧ g1 ≠ g2 := by
      rcases hat2 with e | e
      · exact ⟨(HLo3.out g2 e).1, (HLo3.out g2 e).2, fun e2 => hG1.2.2 (by rw [e, e2])⟩
      · exact ⟨fun hd => by have := hlo _ hd; omega, by omega, by omega⟩
    have hW1 : (w1.setCell ⟨sb, 1, none⟩ (.slice (some ⟨g1, 0, none⟩) (ns.length + 1) cap1)).ownsRow 0 9 1 (.slice (some ⟨g1, 0, none⟩) (ns.length + 1) cap1) (ns.length + 1) (ns.map nmV ++ [.string ⟨s.toArray⟩]) := own_same HOwn1.out (fun k hk _ => Below.heap_setCell _ _ _ _ (by simp only [Value.ownBlock, Option.some.injEq] at hk; rw [← hk]; exact hG1.2.1))
    refine ⟨rfl, ⟨some ⟨g1, 0, none⟩, ns.length + 1, cap1, some ⟨g2, 0, none⟩, bs.length + 1, cap2, bs ++ [blk], ?_⟩, ?_⟩
    · refine ⟨?_, ?_, ?_, ?_, ?_, ?_, HLo1.out, ?_, ?_, HH.out.few, ?_⟩
      · have := heap_set (j := 2) HSb2.out (.slice (some ⟨g2, 0, none⟩) (bs.length + 1) cap2)
        simpa using this
      · rw [← List.append_assoc, HNS.out]
        simp only [List.length_append, List.length_singleton, List.map_append, List.map_cons, List.map_nil]
        exact own_same (own_same hW1 (fun k hk hl => hgrow2.block k hl (fun e => by simp only [Value.ownBlock, Option.some.injEq] at hk; rw [← hk] at e; exact hG1.2.2 e.symm))) (fun k hk _ => Below.heap_setCell _ _ _ _ (by simp only [Value.ownBlock, Option.some.injEq] at hk; rw [← hk]; exact hG1.2.1))
      · simp only [List.length_append, List.length_singleton, List.map_append, List.map_cons, List.map_nil]
        exact own_same hown2 (fun k hk _ => Below.heap_setCell _ _ _ _ (by simp only [Value.ownBlock, Option.some.injEq] at hk; rw [← hk]; exact hG2.2.1))
      · rw [← List.append_assoc, HNS.out]; simp [HL2.out]
      · intro i hi ho
        have hob : outer.length ≤ bs.length := by have := HH.out.len; rw [this]; simp
        rw [List.getElem_append_left (by omega)]
        exact HH.out.out i (by omega) ho
      · intro i hi ho
        by_cases hib : i < bs.length
        · rw [List.getElem_append_left hib]; exact HH.out.inn' i hib ho
        · rw [List.getElem_append_right (by omega)]; simp
      · intro k hk
        simp only [Value.ownBlock, Option.some.injEq] at hk
        subst hk
        exact ⟨hG1.1, hG1.2.1, by simp only [Value.ownBlock, ne_eq, Option.some.injEq]; exact fun e => hG2.2.2 e.symm⟩
      · intro k hk
        simp only [Value.ownBlock, Option.some.injEq] at hk
        subst hk
        exact ⟨hG2.1, hG2.2.1⟩
      · refine ⟨?_, HH.out.bsE.2⟩
        rw [HH.out.bsE.1, List.length_append, List.length_singleton, List.replicate_succ', List.append_assoc]
    · exact BelD.set (p := ⟨sb, 2, none⟩) (BelD.grown (BelD.set (p := ⟨sb, 1, none⟩) (BelD.grown (BelD.refl _ _) HGrow1.out hlo (fun k e => (HLo2.out k e).1)) HLo1.out _) hgrow2 hlo (fun k e => (HLo3.out k e).1)) HLo1.out _
end Go.Proofs.YtgccmgjbbcndbaaGreatDoor
/- Walk of the document's function: which one has a name. -/
namespace Go.Proofs.YtgccmgjbbcndbaaGreatDoor
open Go.RowKit
open Go.Deep (BT)

structure FnR (D : Nat → Prop) (pb tp : Nat) (w : World) (fns : List (Nm × Nat)) (la : Option Addr) (ln lc : Nat) (fa : Option Addr) (fn fc : Nat) : Prop where
  cell : w.heap[pb]? = some (.cells #[.slice la ln lc, .slice fa fn fc] tp (0, 0))
  lt : D pb
  len : fn = fns.length
  few : fns.length ≤ 100000
  at' : ∀ i (h : i < fns.length), ∃ g, fa = some ⟨g, 0, none⟩ ∧ D g ∧ g < w.heap.size ∧ fn ≤ fc ∧ w.cell? ⟨g, i * 6 + 2, none⟩ = some (.string ⟨fns[i].1.toArray⟩) ∧ ∃ pa pc, w.cell? ⟨g, i * 6 + 5, none⟩ = some (.slice pa fns[i].2 pc)

theorem FnR.keep {D : Nat → Prop} {pb tp : Nat} {w w' : World} {fns : List (Nm × Nat)} {la : Option Addr} {ln lc : Nat} {fa : Option Addr} {fn fc : Nat} (h : FnR D pb tp w fns la ln lc fa fn fc) (hb : BelD D w w') : FnR D pb tp w' fns la ln lc fa fn fc := by
  refine ⟨(hb.block pb h.lt).trans h.cell, h.lt, h.len, h.few, fun i hi => ?_⟩
  obtain ⟨g, e1, e2, e3, e4, e5, pa, pc, e6⟩ := h.at' i hi
  exact ⟨g, e1, e2, Nat.lt_of_lt_of_le e3 hb.size, e4, (World.cell?_of_block (hb.block g e2)).trans e5, pa, pc, (World.cell?_of_block (hb.block g e2)).trans e6⟩

def FnIs (fns : List (Nm × Nat)) (s : Nm) (q : Int) : Prop := (∃ i, ∃ h : i < fns.length, q = i ∧ fns[i].1 = s ∧ ∀ j, j < i → ∀ h' : j < fns.length, fns[j].1 ≠ s) ∨ (q = -1 ∧ ∀ j, ∀ h : j < fns.length, fns[j].1 ≠ s)

theorem fnIx_at : ∀ (fns : List (Nm × Nat)) (s : Nm) (i : Nat) (h : i < fns.length), fns[i].1 = s → (∀ j, j < i → ∀ h' : j < fns.length, fns[j].1 ≠ s) → fnIx fns s = some fns[i].2 := by
  intro fns
  induction fns with
  | nil => intro s i h; simp at h
  | cons f r ih =>
    intro s i h e hno
    cases i with
    | zero => rw [fnIx, if_pos (by simpa using e)]; rfl
    | succ i =>
      have h0 : f.1 ≠ s := by have := hno 0 (by omega) (by simp); simpa using this
      rw [fnIx, if_neg h0, ih s i (by simpa using h) (by simpa using e) (fun j hj h' => by have := hno (j + 1) (by omega) (by simpa using h'); simpa using this)]
      rfl
theorem fnIx_none : ∀ (fns : List (Nm × Nat)) (s : Nm), (∀ j, ∀ h : j < fns.length, fns[j].1 ≠ s) → fnIx fns s = none := by
  intro fns
  induction fns with
  | nil => intro s _; rfl
  | cons f r ih =>
    intro s hno
    have h0 : f.1 ≠ s := by have := hno 0 (by simp); simpa using this
    rw [fnIx, if_neg h0]
    exact ih s (fun j h => by have := hno (j + 1) (by simpa using h); simpa using this)

set_option maxRecDepth 100000 in
set_option maxHeartbeats 1000000 in
theorem fun_any {D : Nat → Prop} {pb tp : Nat} {w : World} {fns : List (Nm × Nat)} {la : Option Addr} {ln lc : Nat} {fa : Option Addr} {fn fc : Nat} (h : FnR D pb tp w fns la ln lc fa fn fc) (s : Nm) :
    Calls Tryz.prog 24 #[.pointer (some ⟨pb, 0, none⟩), .string ⟨s.toArray⟩] w fun e w' => ∃ q, e = .returned (.int .i64 q) ∧ FnIs fns s q ∧ w' = w := by
  have hfn := h.len
  subst hfn
  have hfew := h.few
  have c0 := cell_row h.cell 0 _ rfl
  have c1 := cell_row h.cell 1 _ rfl
  have lp := heap_lt h.cell
  have HH := hide h
  clear h
  go_enter Tryz.func24, Tryz.ntmps24
  go_wp2
  go_loopg [5] fns.length (fun k v wr => ∃ n : Nat, v = .int .i64 n ∧ n + k = fns.length ∧ (∀ j, j < n → ∀ h' : j < fns.length, fns[j].1 ≠ s) ∧ wr = w)
  case atStart =>
    exact ⟨0, rfl, by omega, fun i hi => by omega, rfl⟩
  case round =>
    obtain ⟨n, rfl, hnk, hno, rfl⟩ := hrel
    have HNo := hide hno
    clear hno
    by_cases hlt : n < fns.length
    · obtain ⟨g, rfl, _, lg, hcap, cg, pa, pc, cg2⟩ := HH.out.at' n hlt
      have HI : Hid (fns[n].1 = s → FnIs fns s n) := fun e => .inl ⟨n, hlt, rfl, e, HNo.out⟩
      have HS : Hid (fns[n].1 ≠ s → ∀ j, j < n + 1 → ∀ h' : j < fns.length, fns[j].1 ≠ s) := by
        intro hn j hj h' e
        by_cases hjn : j = n
        · subst hjn; exact hn e
        · exact HNo.out j (by omega) h' e
      generalize fns[n] = x at *
      cases hq : (x.1 == s)
      · have HQ : Hid (x.1 ≠ s) := by rw [beq_eq_false_iff_ne] at hq; exact hq
        go_wp2
        go_roundg (gk - 1)
        case measure => omega
        case rel => exact ⟨n + 1, rfl, by omega, HS.out HQ.out, rfl⟩
      · have HQ : Hid (x.1 = s) := hide (by simpa using hq)
        go_wp2
        go_ret
        exact ⟨_, rfl, HI.out HQ.out, rfl⟩
    · have HT : Hid (FnIs fns s (-1)) := .inr ⟨rfl, fun j h => HNo.out j (by omega) h⟩
      go_wp2
      go_ret
      exact ⟨_, rfl, HT.out, rfl⟩
end Go.Proofs.YtgccmgjbbcndbaaGreatDoor
/- A forest in memory, tree by tree. -/
namespace Go.Proofs.YtgccmgjbbcndbaaGreatDoor
open Go.RowKit
open Go.Deep (BT)

theorem RepF.ung {D : Nat → Prop} {w : World} : ∀ (f : BT Lab) (cs : List Value), Sane f → RepF D w f cs → RepF D w (ung f) cs := by
  intro f
  induction f with
  | nil => intro cs _ h; exact h
  | node x y l c r ih1 ih2 =>
    intro cs hs h
    rw [RepF] at h
    rw [YtgccmgjbbcndbaaGreatDoor.ung]
    split at h
    · rename_i h8
      rw [if_pos h8]
      obtain ⟨c1, c2, rfl, h1, h2⟩ := h
      exact RepF.app _ _ _ _ (ih1 c1 hs.2.2.2.1 h1) (ih2 c2 hs.2.2.2.2 h2)
    · rename_i h8
      rw [if_neg h8, RepF, if_neg h8]
      obtain ⟨ln, nn, S, v, pv, c1, c2, hv, rfl, h1, h2, h3, h12, h4, h5, h6, h7⟩ := h
      exact ⟨ln, nn, S, v, pv, c1, c2, hv, rfl, h1, h2, h3, h12, by rw [ung_len c hs.2.2.2.1]; exact h4, ih1 c1 hs.2.2.2.1 h5, h6, ih2 c2 hs.2.2.2.2 h7⟩

def dropT : Nat → BT Lab → BT Lab
  | 0, f => f
  | _ + 1, .nil => .nil
  | n + 1, .node _ _ _ _ r => dropT n r

theorem dropT_len : ∀ n f, blen (dropT n f) = blen f - n := by
  intro n
  induction n with
  | zero => intro f; rw [dropT]; rfl
  | succ n ih =>
    intro f
    cases f with
    | nil => rw [dropT]; simp [blen]
    | node x y l c r => rw [dropT, ih, blen]; omega
theorem dropT_succ : ∀ n f x y l c r, dropT n f = .node x y l c r → dropT (n + 1) f = r := by
  intro n
  induction n with
  | zero => intro f x y l c r h; rw [dropT] at h; subst h; rfl
  | succ n ih =>
    intro f x y l c r h
    cases f with
    | nil => rw [dropT] at h; cases h
    | node x' y' l' c' r' => rw [dropT] at h ⊢; exact ih r' x y l c r h
theorem dropT_shp : ∀ n f, Shp f → Shp (dropT n f) := by
  intro n
  induction n with
  | zero => intro f h; exact h
  | succ n ih =>
    intro f h
    cases f with
    | nil => exact h
    | node x y l c r => exact ih r h.2.2.2.2
theorem dropT_T32 : ∀ n f, T32 f → T32 (dropT n f) := by
  intro n
  induction n with
  | zero => intro f h; exact h
  | succ n ih =>
    intro f h
    cases f with
    | nil => exact h
    | node x y l c r => exact ih r h.2
theorem dropT_size : ∀ n f, bsize (dropT n f) ≤ bsize f := by
  intro n
  induction n with
  | zero => intro f; exact Nat.le_refl _
  | succ n ih =>
    intro f
    cases f with
    | nil => exact Nat.le_refl _
    | node x y l c r => rw [dropT, bsize]; have := ih r; omega

/- one tree of a forest without groups -/
structure RepT (D : Nat → Prop) (w : World) (l : Lab) (c : BT Lab) (ln nn : Int) (S : List UInt8) (va : Option Addr) (vn vc : Nat) (pa : Option Addr) (pn pc : Nat) (c1 : List Value) : Prop where
  line : lineSure l.kd = true → ln = l.line
  name : nameSure l.kd = true → S = l.s
  own : OwnsD D w 41 6 (.slice va vn vc) (blen c) c1
  kids : RepF D w c c1
  prm : l.kd = 20 → ∃ xs : List (Tk × List UInt8), OwnsD D w 79 4 (.slice pa pn pc) xs.length (tkCs xs) ∧ xs.map (fun x => (x.1.line, x.2)) = l.ps

theorem RepT.keep {D D' : Nat → Prop} {w w' : World} {l : Lab} {c : BT Lab} {ln nn : Int} {S : List UInt8} {va : Option Addr} {vn vc : Nat} {pa : Option Addr} {pn pc : Nat} {c1 : List Value} (h : RepT D w l c ln nn S va vn vc pa pn pc c1)
    (hk : ∀ g, D g → g < w.heap.size → w'.heap[g]? = w.heap[g]? ∧ D' g) : RepT D' w' l c ln nn S va vn vc pa pn pc c1 :=
  ⟨h.line, h.name, h.own.keep hk, RepF.keep hk _ _ h.kids, fun e => by obtain ⟨xs, k1, k2⟩ := h.prm e; exact ⟨xs, k1.keep hk, k2⟩⟩

theorem RepF.at' {D : Nat → Prop} {w : World} : ∀ (i : Nat) (f : BT Lab) (cs : List Value), Shp f → RepF D w f cs → i < blen f →
    ∃ x y l c r, dropT i f = .node x y l c r ∧ ∃ ln nn S va vn vc pa pn pc c1, RepT D w l c ln nn S va vn vc pa pn pc c1 ∧
      cs[i * 6]? = some (.string ⟨(isS l.kd).toArray⟩) ∧ cs[i * 6 + 1]? = some (.int .i64 ln) ∧ cs[i * 6 + 2]? = some (.string ⟨S.toArray⟩) ∧ cs[i * 6 + 3]? = some (.int .i64 nn) ∧ cs[i * 6 + 4]? = some (.slice va vn vc) ∧ cs[i * 6 + 5]? = some (.slice pa pn pc) := by
  intro i
  induction i with
  | zero =>
    intro f cs hs h hi
    cases f with
    | nil => simp [blen] at hi
    | node x y l c r =>
      rw [RepF, if_neg hs.1] at h
      obtain ⟨ln, nn, S, v, pv, c1, c2, ⟨va, vn, vc, pa, pn, pc, rfl, rfl⟩, rfl, h1, h2, h3, h12, h4, h5, h6, h7⟩ := h
      exact ⟨x, y, l, c, r, rfl, ln, nn, S, va, vn, vc, pa, pn, pc, c1, ⟨h1, h2, h4, h5, h6⟩, rfl, rfl, rfl, rfl, rfl, rfl⟩
  | succ i ih =>
    intro f cs hs h hi
    cases f with
    | nil => simp [blen] at hi
    | node x y l c r =>
      rw [RepF, if_neg hs.1] at h
      obtain ⟨ln, nn, S, v, pv, c1, c2, hv, rfl, h1, h2, h3, h12, h4, h5, h6, h7⟩ := h
      obtain ⟨x', y', l', c', r', e, ln', nn', S', va, vn, vc, pa, pn, pc, c1', k0, k1, k2, k3, k4, k5, k6⟩ := ih r c2 hs.2.2.2.2 h7 (by simp only [blen] at hi; omega)
      refine ⟨x', y', l', c', r', e, ln', nn', S', va, vn, vc, pa, pn, pc, c1', k0, ?_, ?_, ?_, ?_, ?_, ?_⟩
      · rw [show (i + 1) * 6 = i * 6 + 6 by omega]; exact k1
      · rw [show (i + 1) * 6 + 1 = (i * 6 + 1) + 6 by omega]; exact k2
      · rw [show (i + 1) * 6 + 2 = (i * 6 + 2) + 6 by omega]; exact k3
      · rw [show (i + 1) * 6 + 3 = (i * 6 + 3) + 6 by omega]; exact k4
      · rw [show (i + 1) * 6 + 4 = (i * 6 + 4) + 6 by omega]; exact k5
      · rw [show (i + 1) * 6 + 5 = (i * 6 + 5) + 6 by omega]; exact k6
end Go.Proofs.YtgccmgjbbcndbaaGreatDoor
/- A call of a Go function, within a region that draws its order. -/
namespace Go.Proofs.YtgccmgjbbcndbaaGreatDoor
open Go.RowKit

theorem step_call {P : Program} {ops : Array Oper} {o : Oper} {a : Act} {w : World} {K : Act → World → Prop} {Q : Exit → Act → World → Prop} {E : Prop} (hg : o.guard = none) (f : FuncId) (xs : Array Operand) (ts : Array TypeId) (_ : o.op = .call { callee := .value (.func f), args := xs, argTypes := ts }) (args : Array Value)
    (hrun : (execOp a.eval o).run P w = .ok (.enter f args) w) {R : Ending → World → Prop} (hC : Calls P f args w R)
    (h : ∀ e w', R e w' → ∃ u, e = .returned u ∧ K (a.put o.dst u) w') : if Region.wanted o (yielded ops a.tmps) = true then Oper.wp P o a w K Q else E := by
  have hw : Region.wanted o (yielded ops a.tmps) = true := by simp [Region.wanted, hg]
  rw [if_pos hw]
  unfold Oper.wp
  rw [hrun, Oper.upon_enter]
  refine hC.mono ?_
  intro e w' hR
  obtain ⟨u, rfl, hK⟩ := h e w' hR
  exact hK
end Go.Proofs.YtgccmgjbbcndbaaGreatDoor
/- Plain mathematics: what Compile answers, by the document. -/
namespace Go.Proofs.YtgccmgjbbcndbaaGreatDoor
open Go.Deep (BT)

/- the fault (its code and its line; code 0: none), and the names of the functions -/
def compileP (l : List UInt8) : Flt × List (Nm × Nat) :=
  if 2000 < l.length then ((1, 0), [])
  else match lex (l.length + 1) l 1 false with
    | .inl n => ((2, n), [])
    | .inr ts =>
      match pars 100000 10 0 .nil ⟨ts, 0⟩ with
      | none => ((0, 0), [])
      | some r =>
        if r.2.bad ≠ 0 then ((2, r.2.bad), [])
        else if nest ts 0 ≠ 0 then ((1, nest ts 0), [])
        else if (sensT (fnsOf r.1) r.1 [] [] (0, 0)).1 ≠ 0 then (sensT (fnsOf r.1) r.1 [] [] (0, 0), [])
        else ((0, 0), fnsOf r.1)

theorem prog_fit {m : Nat} {ts : List Tk} (h : LexOk 1 m ts) (hl : ts.length ≤ 2001) : ∃ r, pars 100000 10 0 .nil ⟨ts, 0⟩ = some r ∧ KdT r.1 ∧ (r.2.bad = 0 → Sane r.1 ∧ T32 r.1 ∧ bsize r.1 ≤ 4002) := by
  have hw : WF ⟨ts, 0⟩ := ⟨fun _ => LexOk.ends (Nat.le_refl _) _ h, fun e => absurd rfl e⟩
  have hm : msr ⟨ts, 0⟩ = ts.length := by unfold msr; rw [if_pos rfl]
  obtain ⟨r, hr⟩ := pars_total 100000 10 0 .nil ⟨ts, 0⟩ hw (by omega) (by omega) (by rw [hm]; show _ + 14 ≤ _; omega)
  refine ⟨r, hr, prog_kd _ _ _ _ hr trivial, fun hb => ?_⟩
  obtain ⟨k1, k2, k3, _⟩ := pars_fit _ _ _ _ _ _ hw hr hb trivial trivial (by unfold accTag; omega)
  refine ⟨k1, k2, ?_⟩
  rw [hm] at k3
  have : bsize (.nil : BT Lab) = 0 := rfl
  omega

/- a text that is not too long: what its tokens are like -/
theorem text_fit (l : List UInt8) (h : l.length ≤ 2000) : (∃ n, lex (l.length + 1) l 1 false = .inl n ∧ 1 ≤ n ∧ n ≤ 2001) ∨ ∃ ts, lex (l.length + 1) l 1 false = .inr ts ∧ ts.length ≤ 2001 ∧ LexOk 1 2000 ts := by
  have hf := lex_fit (l.length + 1) l 1 false
  cases hx : lex (l.length + 1) l 1 false with
  | inl n => rw [hx] at hf; obtain ⟨k1, k2⟩ := hf; exact .inl ⟨n, rfl, k1, by omega⟩
  | inr ts => rw [hx] at hf; obtain ⟨k1, k2⟩ := hf; exact .inr ⟨ts, rfl, by omega, LexOk.weak (Nat.le_refl _) (by omega) _ k2⟩

theorem nest_le {m : Nat} : ∀ (ts : List Tk) (o : Int), (∀ t ∈ ts, t.line ≤ m) → nest ts o ≤ m := by
  intro ts
  induction ts with
  | nil => intro o _; exact Nat.zero_le _
  | cons t r ih =>
    intro o h
    have h1 := h t (List.mem_cons_self ..)
    have h2 : ∀ t ∈ r, t.line ≤ m := fun t ht => h t (List.mem_cons_of_mem _ ht)
    rw [nest]
    split
    · split
      · exact h1
      · exact ih _ h2
    · split
      · exact ih _ h2
      · exact ih _ h2
end Go.Proofs.YtgccmgjbbcndbaaGreatDoor
/- The state of the look at names: a block is opened, a block is closed. -/
namespace Go.Proofs.YtgccmgjbbcndbaaGreatDoor
open Go.RowKit
open Go.Deep (BT)

theorem own_take {w : World} {base : Nat} {e : TypeId} {size : Nat} {va : Option Addr} {vn vc n m : Nat} {xs : List Value} (h : w.ownsRow base e size (.slice va vn vc) n xs) (hm : m ≤ n) : w.ownsRow base e size (.slice va m vc) m (xs.take (m * size)) := by
  obtain ⟨hl, ⟨h2, h3⟩ | ⟨g, cap, cur, hv, hb, hg, hcap, hmx, hsz, ht⟩⟩ := h
  · injection h2 with e1 e2 e3
    subst e1 e2 e3 h3
    obtain rfl : m = 0 := by omega
    exact ⟨by simp, .inl ⟨rfl, rfl⟩⟩
  · injection hv with e1 e2 e3
    subst e1 e2 e3
    have hle : m * size ≤ vn * size := Nat.mul_le_mul_right _ hm
    refine ⟨by rw [List.length_take, hl]; omega, .inr ⟨g, vc, cur, rfl, hb, hg, by omega, hmx, hsz, ?_⟩⟩
    rw [← ht, List.take_take, Nat.min_eq_left hle]

theorem own_len (a : Option Addr) (n m c : Nat) : (Value.slice a n c).ownBlock = (Value.slice a m c).ownBlock := by cases a <;> rfl
theorem SSt.lo1 {D : Nat → Prop} {sb pb te : Nat} {w : World} {outer cur : List Nm} {ob : List Nat} {blk wh : Nat} {inn : Bool} {f : Flt} (h : SSt D sb pb te w outer ob cur blk wh inn f) : ¬ D sb ∧ sb < w.heap.size := by
  obtain ⟨na, nn, nc, ba, bn, bc, bs, h⟩ := h
  exact ⟨h.lo1, heap_lt h.cell⟩
theorem SSt.keep {D : Nat → Prop} {sb pb te : Nat} {w w' : World} {outer cur : List Nm} {ob : List Nat} {blk wh : Nat} {inn : Bool} {f : Flt} (h : SSt D sb pb te w outer ob cur blk wh inn f) (hk : ∀ g, g < w.heap.size → w'.heap[g]? = w.heap[g]?) : SSt D sb pb te w' outer ob cur blk wh inn f := by
  obtain ⟨na, nn, nc, ba, bn, bc, bs, h⟩ := h
  exact ⟨na, nn, nc, ba, bn, bc, bs, h.keep hk⟩

/- the block's number goes up: a new block, with no names of its own so far -/
theorem SSv.opened {D : Nat → Prop} {sb pb te : Nat} {w w' : World} {outer cur : List Nm} {ob : List Nat} {blk wh : Nat} {inn : Bool} {f : Flt} {na : Option Addr} {nn nc : Nat} {ba : Option Addr} {bn bc : Nat} {bs : List Nat} (h : SSv D sb pb te w outer ob cur blk wh inn f na nn nc ba bn bc bs) (hb : blk + 1 ≤ 100000)
    (hc : w'.heap[sb]? = some (.cells #[.pointer (some ⟨pb, 0, none⟩), .slice na nn nc, .slice ba bn bc, .int .i64 ((blk + 1 : Nat) : Nat), .int .i64 (wh : Nat), .bool inn, .int .i64 (f.1 : Nat), .int .i64 (f.2 : Nat)] te (0, 0)))
    (hk : ∀ g, g < w.heap.size → g ≠ sb → w'.heap[g]? = w.heap[g]?) : SSv D sb pb te w' (outer ++ cur) bs [] (blk + 1) wh inn f na nn nc ba bn bc bs := by
  refine ⟨hc, ?_, own_same h.blocks (fun g hg hl => hk g hl (h.lo3 g hg).2), ?_, ?_, ?_, h.lo1, h.lo2, h.lo3, ⟨hb, h.few.2⟩, ?_⟩
  · rw [List.append_nil]; exact own_same h.names (fun g hg hl => hk g hl (h.lo2 g hg).2.1)
  · rw [List.append_nil]; exact h.len
  · intro i hi _
    by_cases ho : i < outer.length
    · have := h.out i hi ho; omega
    · have := h.inn' i hi (by omega); omega
  · intro i hi ho
    have := h.len
    omega
  · refine ⟨by simp, h.len⟩

/- and down again: what was let in it is seen no more -/
theorem SSv.closed {D : Nat → Prop} {sb pb te : Nat} {w w' : World} {outer cur cur' : List Nm} {ob : List Nat} {blk wh : Nat} {inn : Bool} {f : Flt} {na : Option Addr} {nn nc : Nat} {ba : Option Addr} {bn bc : Nat} {bs' : List Nat}
    (hl : ob.length = outer.length) (ho : ∀ x ∈ ob, x < blk) (h : SSv D sb pb te w (outer ++ cur) (ob ++ List.replicate cur.length blk) cur' (blk + 1) wh inn f na nn nc ba bn bc bs')
    (hc : w'.heap[sb]? = some (.cells #[.pointer (some ⟨pb, 0, none⟩), .slice na (outer ++ cur).length nc, .slice ba (outer ++ cur).length bc, .int .i64 (blk : Nat), .int .i64 (wh : Nat), .bool inn, .int .i64 (f.1 : Nat), .int .i64 (f.2 : Nat)] te (0, 0)))
    (hk : ∀ g, g < w.heap.size → g ≠ sb → w'.heap[g]? = w.heap[g]?) : SSv D sb pb te w' outer ob cur blk wh inn f na (outer ++ cur).length nc ba (outer ++ cur).length bc (ob ++ List.replicate cur.length blk) := by
  have hn : (outer ++ cur).length ≤ ((outer ++ cur) ++ cur').length := by simp
  have hbs := h.bsE.1
  have hle : (ob ++ List.replicate cur.length blk).length = (outer ++ cur).length := by simp [hl]
  refine ⟨hc, ?_, ?_, hle, ?_, ?_, h.lo1, ?_, ?_, ⟨by have := h.few.1; omega, h.few.2⟩, rfl, hl⟩
  · have := own_take (own_same h.names (fun g hg hl => hk g hl (h.lo2 g hg).2.1)) hn
    rw [Nat.mul_one, ← List.map_take, List.take_left] at this
    exact this
  · have h2 := own_take (m := (outer ++ cur).length) (own_same h.blocks (fun g hg hl => hk g hl (h.lo3 g hg).2)) (by rw [h.len]; exact hn)
    rw [Nat.mul_one, ← List.map_take, hbs, List.take_append_of_le_length (by omega), List.take_of_length_le (by omega)] at h2
    rw [hle]; exact h2
  · intro i hi hi2
    rw [List.getElem_append_left (by omega)]
    exact ho _ (List.getElem_mem _)
  · intro i hi hi2
    rw [List.getElem_append_right (by omega)]
    simp
  · intro g hg
    have h2 := h.lo2 g ((own_len _ _ _ _).trans hg)
    exact ⟨h2.1, h2.2.1, fun e => h2.2.2 ((own_len _ _ _ _).trans e)⟩
  · intro g hg
    exact h.lo3 g ((own_len _ _ _ _).trans hg)

theorem SSv.obs {D : Nat → Prop} {sb pb te : Nat} {w : World} {outer cur : List Nm} {ob : List Nat} {blk wh : Nat} {inn : Bool} {f : Flt} {na : Option Addr} {nn nc : Nat} {ba : Option Addr} {bn bc : Nat} {bs : List Nat} (h : SSv D sb pb te w outer ob cur blk wh inn f na nn nc ba bn bc bs) : ∀ x ∈ ob, x < blk := by
  intro x hx
  obtain ⟨i, hi, e⟩ := List.getElem_of_mem hx
  have hb := h.bsE
  have hl : i < bs.length := by rw [hb.1]; simp; omega
  have := h.out i hl (by omega)
  have e2 : bs[i] = ob[i] := by
    have : bs[i]? = ob[i]? := by rw [hb.1, List.getElem?_append_left hi]
    rw [List.getElem?_eq_getElem hl, List.getElem?_eq_getElem hi] at this
    exact Option.some.inj this
  omega
end Go.Proofs.YtgccmgjbbcndbaaGreatDoor
