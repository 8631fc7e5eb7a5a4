import Derived.Test.YtgccmgjbbcndbaaGreatDoorM06
import Derived.Test.YtgccmgjbbcndbaaGreatDoorM03
/- Walk of the code's scanner: quoted. -/
namespace Go.Proofs.YtgccmgjbbcndbaaGreatDoor
open Go.RowKit

def QPost (b te : Nat) (w : World) (l : List UInt8) (i line : Nat) (e : Ending) (w' : World) : Prop :=
  Only b w w' ∧ ((∃ x, quot false (l.drop (i + 1)) = some x ∧ e = .returned (.tuple #[.agg #[.int .i64 3, .int .i64 (line : Nat), .string ⟨x.1.toArray⟩, .int .i64 0], .bool true]) ∧ Sc b te w' l (i + 1 + x.2) line) ∨
    (quot false (l.drop (i + 1)) = none ∧ e = .returned (.tuple #[.agg #[.int .i64 0, .int .i64 0, .string ⟨#[]⟩, .int .i64 0], .bool false]) ∧ ∃ i', Sc b te w' l i' line))

theorem quot_esc2 (l : List UInt8) (k : Nat) (h : k + 1 < l.length) (hc : l[k] = 92) (v : UInt8) (hv : escB l[k + 1] = some v) : quot false (l.drop k) = qapp [v] 2 (quot false (l.drop (k + 2))) := by
  unfold escB at hv
  split at hv
  · rename_i h1
    simp only [Bool.or_eq_true, beq_iff_eq] at h1
    have := Option.some.inj hv
    subst this
    rcases h1 with e | e
    · rw [quot_esc l k h hc (.inl e), e]; rfl
    · rw [quot_esc l k h hc (.inr (.inl e)), e]; rfl
  · split at hv
    · rename_i h2
      simp only [beq_iff_eq] at h2
      have := Option.some.inj hv
      subst this
      rw [quot_esc l k h hc (.inr (.inr h2)), h2]; rfl
    · cases hv
theorem quot_esc_no (l : List UInt8) (k : Nat) (h : k < l.length) (hc : l[k] = 92) (hv : ∀ h : k + 1 < l.length, escB l[k + 1] = none) : quot false (l.drop k) = none := by
  by_cases h1 : k + 1 < l.length
  · have h2 := hv h1
    unfold escB at h2
    split at h2
    · cases h2
    · split at h2
      · cases h2
      · rename_i e1 e2
        simp only [Bool.or_eq_true, beq_iff_eq] at e1 e2
        exact quot_esc_bad l k h1 hc (fun e => e1 (.inl e)) (fun e => e1 (.inr e)) e2
  · exact quot_esc_out l k h hc (by omega)

def QRel (b te : Nat) (l : List UInt8) (i line : Nat) (w : World) (k : Nat) (v : Value) (wr : World) : Prop :=
  ∃ (j : Nat) (acc : List UInt8) (va : Option Addr) (vn vc : Nat), v = .slice va vn vc ∧ i + 1 ≤ j ∧ j ≤ l.length ∧ j + k = l.length ∧ acc.length ≤ j ∧ wr.ownsRow 0 5 1 (.slice va vn vc) acc.length (acc.map byteV) ∧ (∀ g, (Value.slice va vn vc).ownBlock = some g → w.heap.size < g) ∧
    quot false (l.drop (i + 1)) = qapp acc (j - (i + 1)) (quot false (l.drop j)) ∧ Sc b te wr l j line ∧ Only b w wr ∧ wr.heap[w.heap.size]? = some (.cells #[.int .i64 0, .int .i64 0, .string ⟨#[]⟩, .int .i64 0] 93)

set_option maxRecDepth 100000 in
set_option maxHeartbeats 4000000 in
theorem cquoted_any {b te : Nat} {w : World} {l : List UInt8} {i line : Nat} (h : Sc b te w l i line) (hl : l.length ≤ 100000) (hi : i < l.length) :
    Calls Tryz.prog 52 #[.pointer (some ⟨b, 0, none⟩)] w (QPost b te w l i line) := by
  obtain ⟨c0, c1, c2, fz, lb⟩ := h.cells
  have HSc0 := hide h
  have hlb := lb
  clear h
  go_enter Tryz.func52, Tryz.ntmps52
  go_wp2
  go_loopg [4] (l.length - (i + 1)) (fun k v wr => QRel b te l i line w k v wr)
  case atStart =>
    refine ⟨i + 1, [], none, 0, 0, rfl, Nat.le_refl _, by omega, by omega, by simp, World.ownsRow_nil _ _ _ _, (fun g hg => by simp [Value.ownBlock] at hg), ?_, ?_, ?_, ?_⟩
    · rw [Nat.sub_self]; cases quot false (l.drop (i + 1)) <;> simp [qapp]
    · exact (Sc.at HSc0.out (i + 1) _ (by omega)).keep (Below.heap_alloc _ _ _ (by simp [World.setCell]; exact lb))
    · exact (Only.set (p := ⟨b, 1, none⟩) (Only.refl b w) (.inl rfl) _).alloc _
    · have := heap_alloc_new (w.setCell ⟨b, 1, none⟩ (.int .i64 ((i : Int) + 1))) (.cells #[.int .i64 0, .int .i64 0, .string ⟨#[]⟩, .int .i64 0] 93)
      simpa [World.setCell] using this
  case round =>
    clear c0 c1 c2 fz lb HSc0
    obtain ⟨j, acc, va, vn, vc, rfl, hij, hjl, hjk, hacc, hown, hlo, hq, hsc, ho, hz⟩ := hrel
    obtain ⟨c0, c1, c2, fz, lb⟩ := hsc.cells
    have HSc := hide hsc
    have HO := hide ho
    have HZ := hide hz
    have HQ := hide hq
    have HLo := hide hlo
    clear hq hsc ho hz hlo
    have hbw : b < w.heap.size := hlb
    by_cases hlt : j < l.length
    · have hE : ∀ h, ((⟨l.toArray⟩ : ByteArray)[j]'h) = l[j] := fun h => byte_at l j h
      cases hp : isPrt l[j]
      · have HN : Hid (quot false (l.drop (i + 1)) = none) := by show _ = _; rw [HQ.out, quot_bad l j hlt hp]; rfl
        go_wp2
        go_quiet ((go_at_call 69; exact Calls.quiet_of_same (cprinting_is hp _)))
        have hs5 : Sc b te (wr.drewN nq) l j line := HSc.out.keep rfl
        have HO5 : Hid (Only b w (wr.drewN nq)) := HO.out.drewN _
        have hz5 : (wr.drewN nq).heap[w.heap.size]? = some (.cells #[.int .i64 0, .int .i64 0, .string ⟨#[]⟩, .int .i64 0] 93) := HZ.out
        have hw5 : (wr.drewN nq).ownsRow 0 5 1 (.slice va vn vc) acc.length (acc.map byteV) := hown
        clear c0 c1 c2 fz lb HSc HO HZ hown
        generalize wr.drewN nq = w5 at *
        obtain ⟨c0, c1, c2, fz, lb⟩ := hs5.cells
        have HSc := hide hs5
        have HO := HO5
        have HZ := hide hz5
        have hown := hw5
        clear hs5 HO5 hz5 hw5
        obtain ⟨z0, z1, z2, z3, fZ, lZ⟩ := blk4 HZ.out
        go_wp2
        refine bodyPost_ret (v := .tuple #[.agg #[.int .i64 0, .int .i64 0, .string ⟨#[]⟩, .int .i64 0], .bool false]) (by simp [results, Tryz.results52, go_sem, z0, z1, z2, z3]) rfl ?_
        exact ⟨Only.set4 HO.out (Nat.le_refl _) _ _ _ _, .inr ⟨HN.out, rfl, _, HSc.out.keep (set4_same (by omega) _ _ _ _)⟩⟩
      · by_cases h34 : l[j] = 34
        · have t34 : ((l[j].toNat : Int) == 34) = true := bt_eq (d := 34) rfl h34
          have HN : Hid (quot false (l.drop (i + 1)) = some (acc, j - (i + 1) + 1)) := by
            show _ = _
            rw [HQ.out, quot_end l j hlt h34]; simp [qapp]
          clear h34
          go_wp2
          go_quiet ((go_at_call 69; exact Calls.quiet_of_same (cprinting_is hp _)))
          have hs5 : Sc b te (wr.drewN nq) l j line := HSc.out.keep rfl
          have HO5 : Hid (Only b w (wr.drewN nq)) := HO.out.drewN _
          have hz5 : (wr.drewN nq).heap[w.heap.size]? = some (.cells #[.int .i64 0, .int .i64 0, .string ⟨#[]⟩, .int .i64 0] 93) := HZ.out
          have hw5 : (wr.drewN nq).ownsRow 0 5 1 (.slice va vn vc) acc.length (acc.map byteV) := hown
          clear c0 c1 c2 fz lb HSc HO HZ hown
          generalize wr.drewN nq = w5 at *
          obtain ⟨c0, c1, c2, fz, lb⟩ := hs5.cells
          have HSc := hide hs5
          have HO := HO5
          have HZ := hide hz5
          have hown := hw5
          clear hs5 HO5 hz5 hw5
          go_wp2
          go_quiet (fail)
          have hs6 : Sc b te (w5.drewN nq) l j line := HSc.out.keep rfl
          have HO6 : Hid (Only b w (w5.drewN nq)) := HO.out.drewN _
          have hz6 : (w5.drewN nq).heap[w.heap.size]? = some (.cells #[.int .i64 0, .int .i64 0, .string ⟨#[]⟩, .int .i64 0] 93) := HZ.out
          have hw6 : (w5.drewN nq).ownsRow 0 5 1 (.slice va vn vc) acc.length (acc.map byteV) := hown
          clear c0 c1 c2 fz lb HSc HO HZ hown
          generalize w5.drewN nq = w6 at *
          obtain ⟨c0, c1, c2, fz, lb⟩ := hs6.cells
          have HSc := hide hs6
          have HO := HO6
          have HZ := hide hz6
          have hown := hw6
          clear hs6 HO6 hz6 hw6
          have hSA : Sc b te (w6.setCell ⟨b, 1, none⟩ (.int .i64 ((j : Int) + 1))) l (j + 1) line := HSc.out.at (j + 1) _ (by omega)
          have HScA := hide hSA
          have HOA : Hid (Only b w (w6.setCell ⟨b, 1, none⟩ (.int .i64 ((j : Int) + 1)))) := Only.set (p := ⟨b, 1, none⟩) HO.out (.inl rfl) _
          have HZA : Hid ((w6.setCell ⟨b, 1, none⟩ (.int .i64 ((j : Int) + 1))).heap[w.heap.size]? = some (.cells #[.int .i64 0, .int .i64 0, .string ⟨#[]⟩, .int .i64 0] 93)) := (Below.heap_setCell _ _ _ _ (by show w.heap.size ≠ b; omega)).trans HZ.out
          have hownA : (w6.setCell ⟨b, 1, none⟩ (.int .i64 ((j : Int) + 1))).ownsRow 0 5 1 (.slice va vn vc) acc.length (acc.map byteV) := own_same hown (fun k hk _ => Below.heap_setCell _ _ _ _ (by have := HLo.out k hk; show k ≠ b; omega))
          clear hown
          go_wp2
          clear c0 c1 c2 fz lb HSc HO HZ
          generalize w6.setCell ⟨b, 1, none⟩ (.int .i64 ((j : Int) + 1)) = wB at *
          obtain ⟨c0, c1, c2, fz, lb⟩ := hSA.cells
          have hcv := conv_own (w := wB.drew) hownA
          obtain ⟨z0, z1, z2, z3, fZ, lZ⟩ := blk4 HZA.out
          have hbz : b ≠ w.heap.size := by omega
          clear hSA hownA
          go_region
          all_goals go_wp2
          all_goals
            refine bodyPost_ret (v := .tuple #[.agg #[.int .i64 3, .int .i64 (line : Nat), .string ⟨acc.toArray⟩, .int .i64 0], .bool true]) (by simp [results, Tryz.results52, go_sem, z0, z1, z2, z3]) rfl ?_
            refine ⟨Only.set4 HOA.out.drew (Nat.le_refl _) _ _ _ _, .inl ⟨_, HN.out, rfl, ?_⟩⟩
            have := HScA.out.keep (w' := (((wB.drew.setCell ⟨w.heap.size, 0, none⟩ (.int .i64 3)).setCell ⟨w.heap.size, 1, none⟩ (.int .i64 (line : Nat))).setCell ⟨w.heap.size, 2, none⟩ (.string ⟨acc.toArray⟩)).setCell ⟨w.heap.size, 3, none⟩ (.int .i64 0)) (set4_same (w := wB.drew) (g := w.heap.size) (k := b) (by omega) (.int .i64 3) (.int .i64 (line : Nat)) (.string ⟨acc.toArray⟩) (.int .i64 0))
            rw [show i + 1 + (j - (i + 1) + 1) = j + 1 by omega]
            exact this
        · have t34 : ((l[j].toNat : Int) == 34) = false := bt_ne (d := 34) rfl h34
          by_cases h92 : l[j] = 92
          · have t92 : ((l[j].toNat : Int) == 92) = true := bt_eq (d := 92) rfl h92
            have HE2 := hide (fun h v hv => quot_esc2 l j h h92 v hv)
            have HEN := hide (fun hv => quot_esc_no l j hlt h92 hv)
            clear h34 h92
            go_wp2
            go_quiet ((go_at_call 69; exact Calls.quiet_of_same (cprinting_is hp _)))
            have hs5 : Sc b te (wr.drewN nq) l j line := HSc.out.keep rfl
            have HO5 : Hid (Only b w (wr.drewN nq)) := HO.out.drewN _
            have hz5 : (wr.drewN nq).heap[w.heap.size]? = some (.cells #[.int .i64 0, .int .i64 0, .string ⟨#[]⟩, .int .i64 0] 93) := HZ.out
            have hw5 : (wr.drewN nq).ownsRow 0 5 1 (.slice va vn vc) acc.length (acc.map byteV) := hown
            clear c0 c1 c2 fz lb HSc HO HZ hown
            generalize wr.drewN nq = w5 at *
            obtain ⟨c0, c1, c2, fz, lb⟩ := hs5.cells
            have HSc := hide hs5
            have HO := HO5
            have HZ := hide hz5
            have hown := hw5
            clear hs5 HO5 hz5 hw5
            go_wp2
            go_quiet (fail)
            have hs6 : Sc b te (w5.drewN nq) l j line := HSc.out.keep rfl
            have HO6 : Hid (Only b w (w5.drewN nq)) := HO.out.drewN _
            have hz6 : (w5.drewN nq).heap[w.heap.size]? = some (.cells #[.int .i64 0, .int .i64 0, .string ⟨#[]⟩, .int .i64 0] 93) := HZ.out
            have hw6 : (w5.drewN nq).ownsRow 0 5 1 (.slice va vn vc) acc.length (acc.map byteV) := hown
            clear c0 c1 c2 fz lb HSc HO HZ hown
            generalize w5.drewN nq = w6 at *
            obtain ⟨c0, c1, c2, fz, lb⟩ := hs6.cells
            have HSc := hide hs6
            have HO := HO6
            have HZ := hide hz6
            have hown := hw6
            clear hs6 HO6 hz6 hw6
            have hSA : Sc b te (w6.setCell ⟨b, 1, none⟩ (.int .i64 ((j : Int) + 1))) l (j + 1) line := HSc.out.at (j + 1) _ (by omega)
            have HScA := hide hSA
            have HOA : Hid (Only b w (w6.setCell ⟨b, 1, none⟩ (.int .i64 ((j : Int) + 1)))) := Only.set (p := ⟨b, 1, none⟩) HO.out (.inl rfl) _
            have HZA : Hid ((w6.setCell ⟨b, 1, none⟩ (.int .i64 ((j : Int) + 1))).heap[w.heap.size]? = some (.cells #[.int .i64 0, .int .i64 0, .string ⟨#[]⟩, .int .i64 0] 93)) := (Below.heap_setCell _ _ _ _ (by show w.heap.size ≠ b; omega)).trans HZ.out
            have hownA : (w6.setCell ⟨b, 1, none⟩ (.int .i64 ((j : Int) + 1))).ownsRow 0 5 1 (.slice va vn vc) acc.length (acc.map byteV) := own_same hown (fun k hk _ => Below.heap_setCell _ _ _ _ (by have := HLo.out k hk; show k ≠ b; omega))
            clear hown
            go_wp2_with fail
            refine (escape_any hSA hl (by omega)).mono ?_
            rintro e w9 hpost
            clear hSA c0 c1 c2 fz lb HSc HO HZ
            rcases hpost with ⟨hj1, v, hv, rfl, hs9, ho9⟩ | ⟨hv, rfl, ⟨i', hs9⟩, ho9⟩
            · have HN : Hid (quot false (l.drop (i + 1)) = qapp (acc ++ [v]) (j + 2 - (i + 1)) (quot false (l.drop (j + 2)))) := by
                show _ = _
                rw [HQ.out, HE2.out hj1 v hv, qapp_qapp, show j - (i + 1) + 2 = j + 2 - (i + 1) by omega]
              have hown9 := own_same hownA (fun k hk hl => ho9.block k hl (by have := HLo.out k hk; omega))
              have hz9 := ho9.blk HZA.out (by omega)
              replace HOA : Hid (Only b w w9) := HOA.out.trans ho9
              replace HScA := hide hs9
              replace HZA := hide hz9
              replace hownA := hown9
              have hbyte : Value.int .u8 v.toNat = byteV v := rfl
              clear hs9 ho9 hz9 hown9 hv hbyte
              go_wp2_with (at_builtin; refine wpl_app (w9) #[byteV (v)] 5 rfl (.tmp 71) (.tmp 73) 124 rfl 0 1 1 (.int .u8 0) Tryz.underlying124 infoByte rfl (by omega) _ _ _ rfl (by first | rfl | (simp [World.setCell]; done) | (simp [World.setCell]; rfl)) hownA rfl (by intro u hu; simp at hu; subst hu; rfl) (by omega) (by omega) (Nat.zero_le _) ?_; intro g cap1 wA hown1 hgrow hat hg)
              replace hgrow : (w9).grownBy wA (Value.slice va vn vc).ownBlock := hgrow
              replace hat : (Value.slice va vn vc).ownBlock = some g ∨ g = (w9).heap.size + 1 := hat
              go_roundg (gk - 2)
              case measure => omega
              case rel =>
                refine ⟨j + 2, acc ++ [v], some ⟨g, 0, none⟩, acc.length + 1, cap1, rfl, by omega, by omega, by omega, by simp; omega, by simpa using hown1, ?_, HN.out, HScA.out.keep (hgrow.block b (heap_lt HScA.out) (fun e => by have := HLo.out b e.symm; omega)), HOA.out.grown hgrow (fun k e => .inr (by have := HLo.out k e; omega)), (hgrow.block _ (heap_lt HZA.out) (fun e => by have := HLo.out _ e.symm; omega)).trans HZA.out⟩
                intro k hk
                simp only [Value.ownBlock, Option.some.injEq] at hk
                rw [← hk]
                rcases hat with e | e
                · exact HLo.out g e
                · have := heap_lt HZA.out; omega
            · have HN : Hid (quot false (l.drop (i + 1)) = none) := by show _ = _; rw [HQ.out, HEN.out hv]; rfl
              have HZ := hide (ho9.blk HZA.out (by omega))
              have HO : Hid (Only b w w9) := HOA.out.trans ho9
              have HSc := hide hs9
              clear hs9 ho9 hv hownA HZA HOA HScA
              obtain ⟨z0, z1, z2, z3, fZ, lZ⟩ := blk4 HZ.out
              go_wp2
              refine bodyPost_ret (v := .tuple #[.agg #[.int .i64 0, .int .i64 0, .string ⟨#[]⟩, .int .i64 0], .bool false]) (by simp [results, Tryz.results52, go_sem, z0, z1, z2, z3]) rfl ?_
              exact ⟨Only.set4 HO.out (Nat.le_refl _) _ _ _ _, .inr ⟨HN.out, rfl, _, HSc.out.keep (set4_same (by omega) _ _ _ _)⟩⟩
          · have t92 : ((l[j].toNat : Int) == 92) = false := bt_ne (d := 92) rfl h92
            have HN : Hid (quot false (l.drop (i + 1)) = qapp (acc ++ [l[j]]) (j + 1 - (i + 1)) (quot false (l.drop (j + 1)))) := by
              show _ = _
              rw [HQ.out, quot_plain l j hlt hp h34 h92, qapp_qapp, show j - (i + 1) + 1 = j + 1 - (i + 1) by omega]
            clear h34 h92
            go_wp2
            go_quiet ((go_at_call 69; exact Calls.quiet_of_same (cprinting_is hp _)))
            have hs5 : Sc b te (wr.drewN nq) l j line := HSc.out.keep rfl
            have HO5 : Hid (Only b w (wr.drewN nq)) := HO.out.drewN _
            have hz5 : (wr.drewN nq).heap[w.heap.size]? = some (.cells #[.int .i64 0, .int .i64 0, .string ⟨#[]⟩, .int .i64 0] 93) := HZ.out
            have hw5 : (wr.drewN nq).ownsRow 0 5 1 (.slice va vn vc) acc.length (acc.map byteV) := hown
            clear c0 c1 c2 fz lb HSc HO HZ hown
            generalize wr.drewN nq = w5 at *
            obtain ⟨c0, c1, c2, fz, lb⟩ := hs5.cells
            have HSc := hide hs5
            have HO := HO5
            have HZ := hide hz5
            have hown := hw5
            clear hs5 HO5 hz5 hw5
            go_wp2
            go_quiet (fail)
            have hs6 : Sc b te (w5.drewN nq) l j line := HSc.out.keep rfl
            have HO6 : Hid (Only b w (w5.drewN nq)) := HO.out.drewN _
            have hz6 : (w5.drewN nq).heap[w.heap.size]? = some (.cells #[.int .i64 0, .int .i64 0, .string ⟨#[]⟩, .int .i64 0] 93) := HZ.out
            have hw6 : (w5.drewN nq).ownsRow 0 5 1 (.slice va vn vc) acc.length (acc.map byteV) := hown
            clear c0 c1 c2 fz lb HSc HO HZ hown
            generalize w5.drewN nq = w6 at *
            obtain ⟨c0, c1, c2, fz, lb⟩ := hs6.cells
            have HSc := hide hs6
            have HO := HO6
            have HZ := hide hz6
            have hown := hw6
            clear hs6 HO6 hz6 hw6
            have hSA : Sc b te (w6.setCell ⟨b, 1, none⟩ (.int .i64 ((j : Int) + 1))) l (j + 1) line := HSc.out.at (j + 1) _ (by omega)
            have HScA := hide hSA
            have HOA : Hid (Only b w (w6.setCell ⟨b, 1, none⟩ (.int .i64 ((j : Int) + 1)))) := Only.set (p := ⟨b, 1, none⟩) HO.out (.inl rfl) _
            have HZA : Hid ((w6.setCell ⟨b, 1, none⟩ (.int .i64 ((j : Int) + 1))).heap[w.heap.size]? = some (.cells #[.int .i64 0, .int .i64 0, .string ⟨#[]⟩, .int .i64 0] 93)) := (Below.heap_setCell _ _ _ _ (by show w.heap.size ≠ b; omega)).trans HZ.out
            have hownA : (w6.setCell ⟨b, 1, none⟩ (.int .i64 ((j : Int) + 1))).ownsRow 0 5 1 (.slice va vn vc) acc.length (acc.map byteV) := own_same hown (fun k hk _ => Below.heap_setCell _ _ _ _ (by have := HLo.out k hk; show k ≠ b; omega))
            clear hown hSA
            go_wp2_with (at_builtin; refine wpl_app (w6.setCell ⟨b, 1, none⟩ (.int .i64 ((j : Int) + 1))) #[byteV (l[j])] 5 rfl (.tmp 71) (.tmp 73) 124 rfl 0 1 1 (.int .u8 0) Tryz.underlying124 infoByte rfl (by omega) _ _ _ rfl (by first | rfl | (simp [World.setCell]; done) | (simp [World.setCell]; rfl)) hownA rfl (by intro u hu; simp at hu; subst hu; rfl) (by omega) (by omega) (Nat.zero_le _) ?_; intro g cap1 wA hown1 hgrow hat hg)
            replace hgrow : (w6.setCell ⟨b, 1, none⟩ (.int .i64 ((j : Int) + 1))).grownBy wA (Value.slice va vn vc).ownBlock := hgrow
            replace hat : (Value.slice va vn vc).ownBlock = some g ∨ g = (w6.setCell ⟨b, 1, none⟩ (.int .i64 ((j : Int) + 1))).heap.size + 1 := hat
            go_roundg (gk - 1)
            case measure => omega
            case rel =>
              refine ⟨j + 1, acc ++ [l[j]], some ⟨g, 0, none⟩, acc.length + 1, cap1, rfl, by omega, by omega, by omega, by simp; omega, by simpa using hown1, ?_, HN.out, HScA.out.keep (hgrow.block b (heap_lt HScA.out) (fun e => by have := HLo.out b e.symm; omega)), HOA.out.grown hgrow (fun k e => .inr (by have := HLo.out k e; omega)), (hgrow.block _ (heap_lt HZA.out) (fun e => by have := HLo.out _ e.symm; omega)).trans HZA.out⟩
              intro k hk
              simp only [Value.ownBlock, Option.some.injEq] at hk
              rw [← hk]
              rcases hat with e | e
              · exact HLo.out g e
              · have := heap_lt HZA.out; omega
    · have HN : Hid (quot false (l.drop (i + 1)) = none) := by show _ = _; rw [HQ.out, quot_out l j (by omega)]; rfl
      go_wp2
      go_quiet (fail)
      have hs5 : Sc b te (wr.drewN nq) l j line := HSc.out.keep rfl
      have HO5 : Hid (Only b w (wr.drewN nq)) := HO.out.drewN _
      have hz5 : (wr.drewN nq).heap[w.heap.size]? = some (.cells #[.int .i64 0, .int .i64 0, .string ⟨#[]⟩, .int .i64 0] 93) := HZ.out
      have hw5 : (wr.drewN nq).ownsRow 0 5 1 (.slice va vn vc) acc.length (acc.map byteV) := hown
      clear c0 c1 c2 fz lb HSc HO HZ hown
      generalize wr.drewN nq = w5 at *
      obtain ⟨c0, c1, c2, fz, lb⟩ := hs5.cells
      have HSc := hide hs5
      have HO := HO5
      have HZ := hide hz5
      have hown := hw5
      clear hs5 HO5 hz5 hw5
      obtain ⟨z0, z1, z2, z3, fZ, lZ⟩ := blk4 HZ.out
      go_wp2
      refine bodyPost_ret (v := .tuple #[.agg #[.int .i64 0, .int .i64 0, .string ⟨#[]⟩, .int .i64 0], .bool false]) (by simp [results, Tryz.results52, go_sem, z0, z1, z2, z3]) rfl ?_
      exact ⟨Only.set4 HO.out (Nat.le_refl _) _ _ _ _, .inr ⟨HN.out, rfl, _, HSc.out.keep (set4_same (by omega) _ _ _ _)⟩⟩
end Go.Proofs.YtgccmgjbbcndbaaGreatDoor
