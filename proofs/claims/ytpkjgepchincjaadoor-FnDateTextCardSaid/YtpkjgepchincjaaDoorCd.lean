/- Contracts of chapter 1: days added, weeks. -/
import Derived.Test.YtpkjgepchincjaaDoorCc
namespace Go.Proofs.YtpkjgepchincjaaDoor
open Go.ChangeShapes Go.WideShapes Go.ChangeAt Go.RowKit
set_option linter.unusedSimpArgs false

theorem iDA_t (y m d k : Int) (w : World) (h : valB y m d = true) (h0 : 0 ≤ num y m d + k) (h1 : num y m d + k ≤ 1460969) :
    Calls Tryd.prog 13 #[.agg #[.int .i64 y, .int .i64 m, .int .i64 d], .int .i64 k] w (DateFull (num y m d + k) w) := by
  have hn := num_bd h
  have hk1 : -1460969 ≤ k := by omega
  have hk2 : k ≤ 1460969 := by omega
  go_enter Tryd.func13, Tryd.ntmps13
  go_wp2_with fail
  refine (iDV_any _ _ _ _).mono ?_; rintro e w1 ⟨rfl, hw⟩
  obtain ⟨hH, hH', hB⟩ := ownb2 hw
  obtain ⟨c0, c1, c2, f0, f1, f2, hz⟩ := blk3 hH
  go_wp2_with fail
  refine (iDN_t _ _ _ _ h).mono ?_; rintro e w2 ⟨rfl, hw2⟩
  go_wp2_with fail
  refine (iDO_t _ _ h0 h1).mono ?_; rintro e w3 ⟨a, b, c, rfl, hv, hm, hw3⟩
  obtain ⟨g0, g1, g2, e0, e1, e2, hz2⟩ := blk3 (blk_next (blk_next hH' hw2) hw3)
  go_wp2
  exact bodyPost_ret (v := .tuple #[.agg #[.int .i64 a, .int .i64 b, .int .i64 c], .bool true]) (by simp [results, Tryd.results13, go_sem, g0, g1, g2]) rfl ⟨_, _, _, rfl, hv, hm, ((((bel_next (bel_next hB hw2) hw3).setCell (p := ⟨_, _, _⟩) (by simp) _).setCell (p := ⟨_, _, _⟩) (by simp) _).setCell (p := ⟨_, _, _⟩) (by simp) _)⟩
theorem iDA_f (y m d k : Int) (w : World) (h : ¬ (valB y m d = true ∧ 0 ≤ num y m d + k ∧ num y m d + k ≤ 1460969)) :
    Calls Tryd.prog 13 #[.agg #[.int .i64 y, .int .i64 m, .int .i64 d], .int .i64 k] w (DateNone w) := by
  cases hv : valB y m d
  · clear h
    go_enter Tryd.func13, Tryd.ntmps13
    go_wp2_with fail
    refine (iDV_any _ _ _ _).mono ?_; rintro e w1 ⟨rfl, hw⟩
    obtain ⟨hH, hH', hB⟩ := ownb2 hw
    obtain ⟨g0, g1, g2, e0, e1, e2, hz2⟩ := blk3 hH'
    go_wp2_with fail
    exact bodyPost_ret (v := .tuple #[.agg #[.int .i64 0, .int .i64 0, .int .i64 0], .bool false]) (by simp [results, Tryd.results13, go_sem, g0, g1, g2]) rfl ⟨rfl, (((hB.setCell (p := ⟨_, _, _⟩) (by simp) _).setCell (p := ⟨_, _, _⟩) (by simp) _).setCell (p := ⟨_, _, _⟩) (by simp) _)⟩
  · have hn := num_bd hv
    by_cases hk : k < -1460969
    · clear h
      go_enter Tryd.func13, Tryd.ntmps13
      go_wp2_with fail
      refine (iDV_any _ _ _ _).mono ?_; rintro e w1 ⟨rfl, hw⟩
      obtain ⟨hH, hH', hB⟩ := ownb2 hw
      obtain ⟨g0, g1, g2, e0, e1, e2, hz2⟩ := blk3 hH'
      go_wp2_with fail
      exact bodyPost_ret (v := .tuple #[.agg #[.int .i64 0, .int .i64 0, .int .i64 0], .bool false]) (by simp [results, Tryd.results13, go_sem, g0, g1, g2]) rfl ⟨rfl, (((hB.setCell (p := ⟨_, _, _⟩) (by simp) _).setCell (p := ⟨_, _, _⟩) (by simp) _).setCell (p := ⟨_, _, _⟩) (by simp) _)⟩
    · by_cases hk2 : 1460969 < k
      · clear h
        go_enter Tryd.func13, Tryd.ntmps13
        go_wp2_with fail
        refine (iDV_any _ _ _ _).mono ?_; rintro e w1 ⟨rfl, hw⟩
        obtain ⟨hH, hH', hB⟩ := ownb2 hw
        obtain ⟨g0, g1, g2, e0, e1, e2, hz2⟩ := blk3 hH'
        go_wp2_with fail
        exact bodyPost_ret (v := .tuple #[.agg #[.int .i64 0, .int .i64 0, .int .i64 0], .bool false]) (by simp [results, Tryd.results13, go_sem, g0, g1, g2]) rfl ⟨rfl, (((hB.setCell (p := ⟨_, _, _⟩) (by simp) _).setCell (p := ⟨_, _, _⟩) (by simp) _).setCell (p := ⟨_, _, _⟩) (by simp) _)⟩
      · have hx : ¬ (0 ≤ num y m d + k ∧ num y m d + k ≤ 1460969) := fun hx => h ⟨hv, hx⟩
        have HX := Lib.hid hx
        clear h hx
        go_enter Tryd.func13, Tryd.ntmps13
        go_wp2_with fail
        refine (iDV_any _ _ _ _).mono ?_; rintro e w1 ⟨rfl, hw⟩
        obtain ⟨hH, hH', hB⟩ := ownb2 hw
        obtain ⟨c0, c1, c2, f0, f1, f2, hz⟩ := blk3 hH
        go_wp2_with fail
        refine (iDN_t _ _ _ _ hv).mono ?_; rintro e w2 ⟨rfl, hw2⟩
        go_wp2_with fail
        refine (iDO_f _ _ HX.out).mono ?_; rintro e w3 ⟨rfl, hw3⟩
        obtain ⟨g0, g1, g2, e0, e1, e2, hz2⟩ := blk3 (blk_next (blk_next hH' hw2) hw3)
        go_wp2
        exact bodyPost_ret (v := .tuple #[.agg #[.int .i64 0, .int .i64 0, .int .i64 0], .bool false]) (by simp [results, Tryd.results13, go_sem, g0, g1, g2]) rfl ⟨rfl, ((((bel_next (bel_next hB hw2) hw3).setCell (p := ⟨_, _, _⟩) (by simp) _).setCell (p := ⟨_, _, _⟩) (by simp) _).setCell (p := ⟨_, _, _⟩) (by simp) _)⟩
end Go.Proofs.YtpkjgepchincjaaDoor
