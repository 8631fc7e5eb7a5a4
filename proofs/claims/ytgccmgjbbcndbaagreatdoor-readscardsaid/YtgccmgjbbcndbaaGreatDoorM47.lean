/- Proved: for every text, gambitlaw.Reads answers true: gambit.Compile and gambitref.Compile tell the same fault with its line, or both take the program and tell the same names of functions. Conditions: the package-level variables that the row lists hold what the program lays into them (the card ties them); commit 622c691. -/
import Derived.Test.YtgccmgjbbcndbaaGreatDoorM46
import Derived.Test.YtgccmgjbbcndbaaGreatDoorM33
import Derived.Test.YtgccmgjbbcndbaaGreatDoorM45
/- gambitref.Compile answers compileP. -/
namespace Go.Proofs.YtgccmgjbbcndbaaGreatDoor
open Go.RowKit
open Go.Deep (BT)

theorem compile_ref (l : List UInt8) (w : World) : Calls Tryz.prog 6 #[.string ⟨l.toArray⟩] w (CrPost l w) := by
  by_cases hlong : 2000 < l.length
  · refine (compile_long l w hlong).mono ?_
    rintro e w' ⟨rfl, hb⟩
    have hc : compileP l = ((1, 0), []) := if_pos hlong
    exact ⟨hb, .inl ⟨by rw [hc]; simp, by rw [hc]; rfl⟩⟩
  · rcases text_fit l (by omega) with ⟨n, hn, h1, h2⟩ | ⟨ts, hn, h1, h2⟩
    · refine (compile_bad l w (by omega) n hn h1 h2).mono ?_
      rintro e w' ⟨rfl, hb⟩
      have hc : compileP l = ((2, n), []) := by unfold compileP; rw [if_neg hlong, hn]
      exact ⟨hb, .inl ⟨by rw [hc]; simp, by rw [hc]; rfl⟩⟩
    · obtain ⟨r, hr, hkd, hsane⟩ := prog_fit h2 h1
      have hcp : compileP l = (if r.2.bad ≠ 0 then ((2, r.2.bad), []) else if nest ts 0 ≠ 0 then ((1, nest ts 0), []) else if (sensT (fnsOf r.1) r.1 [] [] (0, 0)).1 ≠ 0 then (sensT (fnsOf r.1) r.1 [] [] (0, 0), []) else ((0, 0), fnsOf r.1)) := by
        unfold compileP
        rw [if_neg hlong, hn]
        simp only []
        rw [hr]
      by_cases hb : r.2.bad = 0
      · rw [if_neg (by omega)] at hcp
        by_cases hd : nest ts 0 = 0
        · rw [if_neg (by omega)] at hcp
          obtain ⟨k1, k2, k3⟩ := hsane hb
          refine (compile_fine l w (by omega) ts hn h1 h2 r hr hb hd hkd k1 k2 k3).mono ?_
          rintro e w' ⟨hbel, ⟨hs, rfl⟩ | ⟨hs, fs, pb, la, ln, lc, fa, fc, cs, hfs, hfew, rfl, hpb, hcell, hown, hat, hlo⟩⟩
          · rw [if_pos hs] at hcp
            exact ⟨hbel, .inl ⟨by rw [hcp]; exact hs, by rw [hcp]⟩⟩
          · rw [if_neg (by omega), hfs] at hcp
            exact ⟨hbel, .inr ⟨fs, pb, la, ln, lc, fa, fc, cs, hcp, hfew, rfl, hpb, hcell, hown, hat, hlo⟩⟩
        · rw [if_pos hd] at hcp
          refine (compile_deep l w (by omega) ts hn h1 h2 r hr hb hd).mono ?_
          rintro e w' ⟨rfl, hbel⟩
          exact ⟨hbel, .inl ⟨by rw [hcp]; simp, by rw [hcp]; rfl⟩⟩
      · rw [if_pos hb] at hcp
        refine (compile_syn l w (by omega) ts hn h1 h2 r hr hb).mono ?_
        rintro e w' ⟨rfl, hbel⟩
        exact ⟨hbel, .inl ⟨by rw [hcp]; simp, by rw [hcp]; rfl⟩⟩
end Go.Proofs.YtgccmgjbbcndbaaGreatDoor
/- Reads, as the card states it. -/
namespace Go.Proofs.YtgccmgjbbcndbaaGreatDoor
theorem reads_holds : Rows.ReadsCardSaid := reads_card compile_ref
#print axioms reads_holds
end Go.Proofs.YtgccmgjbbcndbaaGreatDoor
