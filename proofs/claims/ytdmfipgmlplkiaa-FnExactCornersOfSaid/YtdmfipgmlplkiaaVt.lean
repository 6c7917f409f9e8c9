/- Contracts of chapter 5: under a block, tips, spots, turns. -/
import Derived.Test.YtdmfipgmlplkiaaVs
namespace Go.Proofs.Ytdmfipgmlplkiaa
open Go Go.ChangeShapes Go.WideShapes Go.ChangeAt Go.RowKit
set_option linter.unusedSimpArgs false
set_option linter.unusedVariables false

set_option maxHeartbeats 4000000 in
theorem iUB_any (e n a b c d h : Int) (w : World) :
    Calls Try.prog 60 #[.agg #[.int .i64 e, .int .i64 n], .agg #[.int .i64 a, .int .i64 b, .int .i64 c, .int .i64 d, .int .i64 h]] w fun E w' => E = .returned (.bool (unB e n a b c d h)) ∧ Below w.heap.size w w' := by
  cases hp : plB e n
  · have hv : unB e n a b c d h = false := by unfold unB; rw [hp]; rfl
    rw [hv]; have HP := Lib.hid hp; clear hp hv
    go_enter Try.func60, Try.ntmps60
    go_wp2_with fail
    refine (iPV_is _ HP.out).mono ?_; rintro E w1 ⟨rfl, hw1⟩
    obtain ⟨hP1, hQ1, hB1⟩ := ownb2 hw1
    obtain ⟨p0, p1, _, _, z1⟩ := blk2 hP1
    obtain ⟨q0, q1, q2, q3, q4, _, _, _, _, _, z2⟩ := blk5 hQ1
    go_wp2
    go_ret
    exact ⟨rfl, hB1⟩
  · cases hb : blB a b c d h
    · have hv : unB e n a b c d h = false := by unfold unB; rw [hp, hb]; rfl
      rw [hv]; have HP := Lib.hid hp; have HB := Lib.hid hb; clear hp hv hb
      go_enter Try.func60, Try.ntmps60
      go_wp2_with fail
      refine (iPV_is _ HP.out).mono ?_; rintro E w1 ⟨rfl, hw1⟩
      obtain ⟨hP1, hQ1, hB1⟩ := ownb2 hw1
      obtain ⟨p0, p1, _, _, z1⟩ := blk2 hP1
      obtain ⟨q0, q1, q2, q3, q4, _, _, _, _, _, z2⟩ := blk5 hQ1
      go_wp2_with fail
      refine (iBV_is _ HB.out).mono ?_; rintro E w2 ⟨rfl, hw2⟩
      have hP2 := blk_next hP1 hw2
      have hQ2 := blk_next hQ1 hw2
      have hB2 := bel_next hB1 hw2
      obtain ⟨p0, p1, _, _, z1⟩ := blk2 hP2
      obtain ⟨q0, q1, q2, q3, q4, _, _, _, _, _, z2⟩ := blk5 hQ2
      go_wp2
      go_ret
      exact ⟨rfl, hB2⟩
    · have hv : unB e n a b c d h = decide (a ≤ e ∧ e ≤ b ∧ c ≤ n ∧ n ≤ d) := by unfold unB; rw [hp, hb]; rfl
      rw [hv]; have HP := Lib.hid hp; have HB := Lib.hid hb; clear hp hv hb
      go_enter Try.func60, Try.ntmps60
      go_wp2_with fail
      refine (iPV_is _ HP.out).mono ?_; rintro E w1 ⟨rfl, hw1⟩
      obtain ⟨hP1, hQ1, hB1⟩ := ownb2 hw1
      obtain ⟨p0, p1, _, _, z1⟩ := blk2 hP1
      obtain ⟨q0, q1, q2, q3, q4, _, _, _, _, _, z2⟩ := blk5 hQ1
      go_wp2_with fail
      refine (iBV_is _ HB.out).mono ?_; rintro E w2 ⟨rfl, hw2⟩
      have hP2 := blk_next hP1 hw2
      have hQ2 := blk_next hQ1 hw2
      have hB2 := bel_next hB1 hw2
      obtain ⟨p0, p1, _, _, z1⟩ := blk2 hP2
      obtain ⟨q0, q1, q2, q3, q4, _, _, _, _, _, z2⟩ := blk5 hQ2
      go_wp2_with (first | (go_at_call 63; refine (iInV_any _ _ _ _).mono ?_; rintro E w' ⟨rfl, rfl⟩))
      all_goals go_ret
      all_goals exact ⟨ret_bool (by first | rfl | (simp_all [unB, inV]; done) | (rw [Bool.eq_iff_iff]; simp_all [unB, inV]; try omega)), hB2⟩
theorem iUB_is {e n a b c d h : Int} {r : Bool} (w : World) (h_ : unB e n a b c d h = r) : Calls Try.prog 60 #[.agg #[.int .i64 e, .int .i64 n], .agg #[.int .i64 a, .int .i64 b, .int .i64 c, .int .i64 d, .int .i64 h]] w fun E w' => E = .returned (.bool r) ∧ Below w.heap.size w w' := by subst h_; exact iUB_any e n a b c d h w
set_option maxHeartbeats 4000000 in
theorem sUB_any (e n a b c d h : Int) (w : World) :
    Calls Try.prog 59 #[.agg #[.int .i64 e, .int .i64 n], .agg #[.int .i64 a, .int .i64 b, .int .i64 c, .int .i64 d, .int .i64 h]] w fun E w' => E = .returned (.bool (unB e n a b c d h)) ∧ Below w.heap.size w w' := by
  cases hp : plB e n
  · have hv : unB e n a b c d h = false := by unfold unB; rw [hp]; rfl
    rw [hv]; have HP := Lib.hid hp; clear hp hv
    go_enter Try.func59, Try.ntmps59
    go_wp2_with fail
    refine (sPV_is _ HP.out).mono ?_; rintro E w1 ⟨rfl, hw1⟩
    obtain ⟨hP1, hQ1, hB1⟩ := ownb2 hw1
    obtain ⟨p0, p1, _, _, z1⟩ := blk2 hP1
    obtain ⟨q0, q1, q2, q3, q4, _, _, _, _, _, z2⟩ := blk5 hQ1
    go_wp2
    go_ret
    exact ⟨rfl, hB1⟩
  · cases hb : blB a b c d h
    · have hv : unB e n a b c d h = false := by unfold unB; rw [hp, hb]; rfl
      rw [hv]; have HP := Lib.hid hp; have HB := Lib.hid hb; clear hp hv hb
      go_enter Try.func59, Try.ntmps59
      go_wp2_with fail
      refine (sPV_is _ HP.out).mono ?_; rintro E w1 ⟨rfl, hw1⟩
      obtain ⟨hP1, hQ1, hB1⟩ := ownb2 hw1
      obtain ⟨p0, p1, _, _, z1⟩ := blk2 hP1
      obtain ⟨q0, q1, q2, q3, q4, _, _, _, _, _, z2⟩ := blk5 hQ1
      go_wp2_with fail
      refine (sBV_is _ HB.out).mono ?_; rintro E w2 ⟨rfl, hw2⟩
      have hP2 := blk_next hP1 hw2
      have hQ2 := blk_next hQ1 hw2
      have hB2 := bel_next hB1 hw2
      obtain ⟨p0, p1, _, _, z1⟩ := blk2 hP2
      obtain ⟨q0, q1, q2, q3, q4, _, _, _, _, _, z2⟩ := blk5 hQ2
      go_wp2
      go_ret
      exact ⟨rfl, hB2⟩
    · have hv : unB e n a b c d h = decide (a ≤ e ∧ e ≤ b ∧ c ≤ n ∧ n ≤ d) := by unfold unB; rw [hp, hb]; rfl
      rw [hv]; have HP := Lib.hid hp; have HB := Lib.hid hb; clear hp hv hb
      go_enter Try.func59, Try.ntmps59
      go_wp2_with fail
      refine (sPV_is _ HP.out).mono ?_; rintro E w1 ⟨rfl, hw1⟩
      obtain ⟨hP1, hQ1, hB1⟩ := ownb2 hw1
      obtain ⟨p0, p1, _, _, z1⟩ := blk2 hP1
      obtain ⟨q0, q1, q2, q3, q4, _, _, _, _, _, z2⟩ := blk5 hQ1
      go_wp2_with fail
      refine (sBV_is _ HB.out).mono ?_; rintro E w2 ⟨rfl, hw2⟩
      have hP2 := blk_next hP1 hw2
      have hQ2 := blk_next hQ1 hw2
      have hB2 := bel_next hB1 hw2
      obtain ⟨p0, p1, _, _, z1⟩ := blk2 hP2
      obtain ⟨q0, q1, q2, q3, q4, _, _, _, _, _, z2⟩ := blk5 hQ2
      go_wp2_with (first | (go_at_call 61; refine (l1V_any _ _ _ _).mono ?_; rintro E w' ⟨rfl, rfl⟩))
      all_goals go_ret
      all_goals exact ⟨ret_bool (by first | rfl | (simp_all [unB, inV]; done) | (rw [Bool.eq_iff_iff]; simp_all [unB, inV]; try omega)), hB2⟩
theorem sUB_is {e n a b c d h : Int} {r : Bool} (w : World) (h_ : unB e n a b c d h = r) : Calls Try.prog 59 #[.agg #[.int .i64 e, .int .i64 n], .agg #[.int .i64 a, .int .i64 b, .int .i64 c, .int .i64 d, .int .i64 h]] w fun E w' => E = .returned (.bool r) ∧ Below w.heap.size w w' := by subst h_; exact sUB_any e n a b c d h w
end Go.Proofs.Ytdmfipgmlplkiaa
