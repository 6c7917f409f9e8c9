/- Contracts of chapter 5: spots are the same. -/
import Derived.Test.YtlahjgjjebkpjaaVu
namespace Go.Proofs.Ytlahjgjjebkpjaa
open Go Go.ChangeShapes Go.WideShapes Go.ChangeAt Go.RowKit
set_option linter.unusedSimpArgs false
set_option linter.unusedVariables false

set_option maxHeartbeats 4000000 in
theorem iSS_any (e n d x y z : Int) (w : World) :
    Calls Try.prog 25 #[.agg #[.int .i64 e, .int .i64 n, .int .i64 d], .agg #[.int .i64 x, .int .i64 y, .int .i64 z]] w fun E w' => E = .returned (.bool (ssB e n d x y z)) ∧ Below w.heap.size w w' := by
  cases ha : spB e n d
  · have hv : ssB e n d x y z = false := by unfold ssB; rw [ha]; rfl
    rw [hv]; have HA := Lib.hid ha; clear ha hv
    go_enter Try.func25, Try.ntmps25
    go_wp2_with fail
    refine (isV_is _ HA.out).mono ?_; rintro E w1 ⟨rfl, hw1⟩
    obtain ⟨hP1, hQ1, hB1⟩ := ownb2 hw1
    obtain ⟨cP1_0, cP1_1, cP1_2, fP1_0, fP1_1, fP1_2, zP1⟩ := blk3 hP1
    obtain ⟨cQ1_0, cQ1_1, cQ1_2, fQ1_0, fQ1_1, fQ1_2, zQ1⟩ := blk3 hQ1
    go_wp2
    go_ret
    exact ⟨rfl, hB1⟩
  · cases hb : spB x y z
    · have hv : ssB e n d x y z = false := by unfold ssB; rw [ha, hb]; rfl
      rw [hv]; clear hv
      have HA := Lib.hid ha
      have HB := Lib.hid hb
      clear ha hb
      go_enter Try.func25, Try.ntmps25
      go_wp2_with fail
      refine (isV_is _ HA.out).mono ?_; rintro E w1 ⟨rfl, hw1⟩
      obtain ⟨hP1, hQ1, hB1⟩ := ownb2 hw1
      obtain ⟨cP1_0, cP1_1, cP1_2, fP1_0, fP1_1, fP1_2, zP1⟩ := blk3 hP1
      obtain ⟨cQ1_0, cQ1_1, cQ1_2, fQ1_0, fQ1_1, fQ1_2, zQ1⟩ := blk3 hQ1
      go_wp2_with fail
      refine (isV_is _ HB.out).mono ?_; rintro E w2 ⟨rfl, hw2⟩
      have hP2 := blk_next hP1 hw2
      have hQ2 := blk_next hQ1 hw2
      have hB2 := bel_next hB1 hw2
      obtain ⟨cP2_0, cP2_1, cP2_2, fP2_0, fP2_1, fP2_2, zP2⟩ := blk3 hP2
      obtain ⟨cQ2_0, cQ2_1, cQ2_2, fQ2_0, fQ2_1, fQ2_2, zQ2⟩ := blk3 hQ2
      go_wp2
      go_ret
      exact ⟨rfl, hB2⟩
    · have hv : ssB e n d x y z = (decide (e * z = x * d) && decide (n * z = y * d)) := by unfold ssB; rw [ha, hb]; rfl
      rw [hv]; clear hv
      have b1 := spB_iff.1 ha
      have b2 := spB_iff.1 hb
      have m0 := mulB (p := 1000000) (q := 1000000) (a := e) (b := z) (by omega) (by omega) (by omega) (by omega)
      have m1 := mulB (p := 1000000) (q := 1000000) (a := x) (b := d) (by omega) (by omega) (by omega) (by omega)
      have m2 := mulB (p := 1000000) (q := 1000000) (a := n) (b := z) (by omega) (by omega) (by omega) (by omega)
      have m3 := mulB (p := 1000000) (q := 1000000) (a := y) (b := d) (by omega) (by omega) (by omega) (by omega)
      simp only [Int.reduceMul, Int.reduceNeg] at m0 m1 m2 m3
      obtain ⟨m00, m01⟩ := m0
      obtain ⟨m10, m11⟩ := m1
      obtain ⟨m20, m21⟩ := m2
      obtain ⟨m30, m31⟩ := m3
      have HA := Lib.hid ha
      have HB := Lib.hid hb
      clear ha hb
      go_enter Try.func25, Try.ntmps25
      go_wp2_with fail
      refine (isV_is _ HA.out).mono ?_; rintro E w1 ⟨rfl, hw1⟩
      obtain ⟨hP1, hQ1, hB1⟩ := ownb2 hw1
      obtain ⟨cP1_0, cP1_1, cP1_2, fP1_0, fP1_1, fP1_2, zP1⟩ := blk3 hP1
      obtain ⟨cQ1_0, cQ1_1, cQ1_2, fQ1_0, fQ1_1, fQ1_2, zQ1⟩ := blk3 hQ1
      go_wp2_with fail
      refine (isV_is _ HB.out).mono ?_; rintro E w2 ⟨rfl, hw2⟩
      have hP2 := blk_next hP1 hw2
      have hQ2 := blk_next hQ1 hw2
      have hB2 := bel_next hB1 hw2
      obtain ⟨cP2_0, cP2_1, cP2_2, fP2_0, fP2_1, fP2_2, zP2⟩ := blk3 hP2
      obtain ⟨cQ2_0, cQ2_1, cQ2_2, fQ2_0, fQ2_1, fQ2_2, zQ2⟩ := blk3 hQ2
      go_wp2
      all_goals go_ret
      all_goals exact ⟨ret_bool (by first | rfl | (simp_all [ssB]; done) | (rw [Bool.eq_iff_iff]; simp_all [ssB]; try omega)), hB2⟩
theorem iSS_is {e n d x y z : Int} {r : Bool} (w : World) (h_ : ssB e n d x y z = r) : Calls Try.prog 25 #[.agg #[.int .i64 e, .int .i64 n, .int .i64 d], .agg #[.int .i64 x, .int .i64 y, .int .i64 z]] w fun E w' => E = .returned (.bool r) ∧ Below w.heap.size w w' := by subst h_; exact iSS_any e n d x y z w
end Go.Proofs.Ytlahjgjjebkpjaa
