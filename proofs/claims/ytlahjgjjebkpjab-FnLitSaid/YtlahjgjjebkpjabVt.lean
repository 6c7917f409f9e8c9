/- Contracts of chapter 5: under a block, tips, spots, turns. -/
import Derived.Test.YtlahjgjjebkpjabVs
namespace Go.Proofs.Ytlahjgjjebkpjab
open Go Go.ChangeShapes Go.WideShapes Go.ChangeAt Go.RowKit
set_option linter.unusedSimpArgs false
set_option linter.unusedVariables false

set_option maxHeartbeats 4000000 in
theorem iUB_any (e n a b c d h : Int) (w : World) :
    Calls Try.prog 59 #[.agg #[.int .i64 e, .int .i64 n], .agg #[.int .i64 a, .int .i64 b, .int .i64 c, .int .i64 d, .int .i64 h]] w fun E w' => E = .returned (.bool (unB e n a b c d h)) ∧ Below w.heap.size w w' := by
  cases hp : plB e n
  · have hv : unB e n a b c d h = false := by unfold unB; rw [hp]; rfl
    rw [hv]; have HP := Lib.hid hp; clear hp hv
    go_enter Try.func59, Try.ntmps59
    go_wp2_with fail
    refine (iPV_is _ HP.out).mono ?_; rintro E w1 ⟨rfl, hw1⟩
    obtain ⟨hP1, hQ1, hB1⟩ := ownb2 hw1
    obtain ⟨p0, p1, _, _, z1⟩ := blk2 hP1
    obtain ⟨q0, q1, q2, q3, q4, _, _, _, _, _, z2⟩ := blk5 hQ1
    go_wp2
    go_ret
    exact ⟨rfl, hB1⟩
  · cases hb : blB a b c d h
    · have hv : unB e n a b c d h = false := by unfold unB; rw [hp, hb]; rfl
      rw [hv]; have HP := Lib.hid hp; have HB := Lib.hid hb; clear hp hv hb
      go_enter Try.func59, Try.ntmps59
      go_wp2_with fail
      refine (iPV_is _ HP.out).mono ?_; rintro E w1 ⟨rfl, hw1⟩
      obtain ⟨hP1, hQ1, hB1⟩ := ownb2 hw1
      obtain ⟨p0, p1, _, _, z1⟩ := blk2 hP1
      obtain ⟨q0, q1, q2, q3, q4, _, _, _, _, _, z2⟩ := blk5 hQ1
      go_wp2_with fail
      refine (iBV_is _ HB.out).mono ?_; rintro E w2 ⟨rfl, hw2⟩
      have hP2 := blk_next hP1 hw2
      have hQ2 := blk_next hQ1 hw2
      have hB2 := bel_next hB1 hw2
      obtain ⟨p0, p1, _, _, z1⟩ := blk2 hP2
      obtain ⟨q0, q1, q2, q3, q4, _, _, _, _, _, z2⟩ := blk5 hQ2
      go_wp2
      go_ret
      exact ⟨rfl, hB2⟩
    · have hv : unB e n a b c d h = decide (a ≤ e ∧ e ≤ b ∧ c ≤ n ∧ n ≤ d) := by unfold unB; rw [hp, hb]; rfl
      rw [hv]; have HP := Lib.hid hp; have HB := Lib.hid hb; clear hp hv hb
      go_enter Try.func59, Try.ntmps59
      go_wp2_with fail
      refine (iPV_is _ HP.out).mono ?_; rintro E w1 ⟨rfl, hw1⟩
      obtain ⟨hP1, hQ1, hB1⟩ := ownb2 hw1
      obtain ⟨p0, p1, _, _, z1⟩ := blk2 hP1
      obtain ⟨q0, q1, q2, q3, q4, _, _, _, _, _, z2⟩ := blk5 hQ1
      go_wp2_with fail
      refine (iBV_is _ HB.out).mono ?_; rintro E w2 ⟨rfl, hw2⟩
      have hP2 := blk_next hP1 hw2
      have hQ2 := blk_next hQ1 hw2
      have hB2 := bel_next hB1 hw2
      obtain ⟨p0, p1, _, _, z1⟩ := blk2 hP2
      obtain ⟨q0, q1, q2, q3, q4, _, _, _, _, _, z2⟩ := blk5 hQ2
      go_wp2_with (first | (go_at_call 54; refine (iInV_any _ _ _ _).mono ?_; rintro E w' ⟨rfl, rfl⟩))
      all_goals go_ret
      all_goals exact ⟨ret_bool (by first | rfl | (simp_all [unB, inV]; done) | (rw [Bool.eq_iff_iff]; simp_all [unB, inV]; try omega)), hB2⟩
theorem iUB_is {e n a b c d h : Int} {r : Bool} (w : World) (h_ : unB e n a b c d h = r) : Calls Try.prog 59 #[.agg #[.int .i64 e, .int .i64 n], .agg #[.int .i64 a, .int .i64 b, .int .i64 c, .int .i64 d, .int .i64 h]] w fun E w' => E = .returned (.bool r) ∧ Below w.heap.size w w' := by subst h_; exact iUB_any e n a b c d h w
set_option maxHeartbeats 4000000 in
theorem sUB_any (e n a b c d h : Int) (w : World) :
    Calls Try.prog 60 #[.agg #[.int .i64 e, .int .i64 n], .agg #[.int .i64 a, .int .i64 b, .int .i64 c, .int .i64 d, .int .i64 h]] w fun E w' => E = .returned (.bool (unB e n a b c d h)) ∧ Below w.heap.size w w' := by
  cases hp : plB e n
  · have hv : unB e n a b c d h = false := by unfold unB; rw [hp]; rfl
    rw [hv]; have HP := Lib.hid hp; clear hp hv
    go_enter Try.func60, Try.ntmps60
    go_wp2_with fail
    refine (sPV_is _ HP.out).mono ?_; rintro E w1 ⟨rfl, hw1⟩
    obtain ⟨hP1, hQ1, hB1⟩ := ownb2 hw1
    obtain ⟨p0, p1, _, _, z1⟩ := blk2 hP1
    obtain ⟨q0, q1, q2, q3, q4, _, _, _, _, _, z2⟩ := blk5 hQ1
    go_wp2
    go_ret
    exact ⟨rfl, hB1⟩
  · cases hb : blB a b c d h
    · have hv : unB e n a b c d h = false := by unfold unB; rw [hp, hb]; rfl
      rw [hv]; have HP := Lib.hid hp; have HB := Lib.hid hb; clear hp hv hb
      go_enter Try.func60, Try.ntmps60
      go_wp2_with fail
      refine (sPV_is _ HP.out).mono ?_; rintro E w1 ⟨rfl, hw1⟩
      obtain ⟨hP1, hQ1, hB1⟩ := ownb2 hw1
      obtain ⟨p0, p1, _, _, z1⟩ := blk2 hP1
      obtain ⟨q0, q1, q2, q3, q4, _, _, _, _, _, z2⟩ := blk5 hQ1
      go_wp2_with fail
      refine (sBV_is _ HB.out).mono ?_; rintro E w2 ⟨rfl, hw2⟩
      have hP2 := blk_next hP1 hw2
      have hQ2 := blk_next hQ1 hw2
      have hB2 := bel_next hB1 hw2
      obtain ⟨p0, p1, _, _, z1⟩ := blk2 hP2
      obtain ⟨q0, q1, q2, q3, q4, _, _, _, _, _, z2⟩ := blk5 hQ2
      go_wp2
      go_ret
      exact ⟨rfl, hB2⟩
    · have hv : unB e n a b c d h = decide (a ≤ e ∧ e ≤ b ∧ c ≤ n ∧ n ≤ d) := by unfold unB; rw [hp, hb]; rfl
      rw [hv]; have HP := Lib.hid hp; have HB := Lib.hid hb; clear hp hv hb
      go_enter Try.func60, Try.ntmps60
      go_wp2_with fail
      refine (sPV_is _ HP.out).mono ?_; rintro E w1 ⟨rfl, hw1⟩
      obtain ⟨hP1, hQ1, hB1⟩ := ownb2 hw1
      obtain ⟨p0, p1, _, _, z1⟩ := blk2 hP1
      obtain ⟨q0, q1, q2, q3, q4, _, _, _, _, _, z2⟩ := blk5 hQ1
      go_wp2_with fail
      refine (sBV_is _ HB.out).mono ?_; rintro E w2 ⟨rfl, hw2⟩
      have hP2 := blk_next hP1 hw2
      have hQ2 := blk_next hQ1 hw2
      have hB2 := bel_next hB1 hw2
      obtain ⟨p0, p1, _, _, z1⟩ := blk2 hP2
      obtain ⟨q0, q1, q2, q3, q4, _, _, _, _, _, z2⟩ := blk5 hQ2
      go_wp2_with (first | (go_at_call 52; refine (l1V_any _ _ _ _).mono ?_; rintro E w' ⟨rfl, rfl⟩))
      all_goals go_ret
      all_goals exact ⟨ret_bool (by first | rfl | (simp_all [unB, inV]; done) | (rw [Bool.eq_iff_iff]; simp_all [unB, inV]; try omega)), hB2⟩
theorem sUB_is {e n a b c d h : Int} {r : Bool} (w : World) (h_ : unB e n a b c d h = r) : Calls Try.prog 60 #[.agg #[.int .i64 e, .int .i64 n], .agg #[.int .i64 a, .int .i64 b, .int .i64 c, .int .i64 d, .int .i64 h]] w fun E w' => E = .returned (.bool r) ∧ Below w.heap.size w w' := by subst h_; exact sUB_any e n a b c d h w
set_option maxHeartbeats 1000000 in
theorem iPT_f (e n : Int) (w : World) (hv : plB e n = false) :
    Calls Try.prog 19 #[.agg #[.int .i64 e, .int .i64 n]] w fun E w' => E = .returned (.agg #[.int .i64 0, .int .i64 0]) ∧ Below w.heap.size w w' := by
  have HV := Lib.hid hv
  clear hv
  go_enter Try.func19, Try.ntmps19
  go_wp2_with fail
  refine (iPV_is _ HV.out).mono ?_; rintro E w1 ⟨rfl, hw1⟩
  obtain ⟨hP1, hQ1, hB1⟩ := ownb2 hw1
  obtain ⟨cP0, cP1, fP0, fP1, zP⟩ := blk2 hP1
  obtain ⟨cQ0, cQ1, fQ0, fQ1, zQ⟩ := blk2 hQ1
  go_wp2
  refine bodyPost_ret (v := .agg #[.int .i64 0, .int .i64 0]) (by simp [results, Try.results19, go_sem, cQ0, cQ1]) rfl ⟨rfl, ?_⟩
  repeat (first | exact hB1 | refine Below.setCell ?_ (by simp <;> omega) _ | refine Below.alloc ?_ (by simp <;> omega) _)
set_option maxHeartbeats 1000000 in
theorem iPT_t (e n : Int) (w : World) (hv : plB e n = true) :
    Calls Try.prog 19 #[.agg #[.int .i64 e, .int .i64 n]] w fun E w' => E = .returned (.agg #[.int .i64 (-n), .int .i64 e]) ∧ Below w.heap.size w w' := by
  have bd := plB_iff.1 hv
  have HV := Lib.hid hv
  clear hv
  go_enter Try.func19, Try.ntmps19
  go_wp2_with fail
  refine (iPV_is _ HV.out).mono ?_; rintro E w1 ⟨rfl, hw1⟩
  obtain ⟨hP1, hQ1, hB1⟩ := ownb2 hw1
  obtain ⟨cP0, cP1, fP0, fP1, zP⟩ := blk2 hP1
  obtain ⟨cQ0, cQ1, fQ0, fQ1, zQ⟩ := blk2 hQ1
  go_wp2
  refine bodyPost_ret (v := .agg #[.int .i64 (-n), .int .i64 e]) (by simp [results, Try.results19, go_sem, cQ0, cQ1]) rfl ⟨rfl, ?_⟩
  repeat (first | exact hB1 | refine Below.setCell ?_ (by simp <;> omega) _ | refine Below.alloc ?_ (by simp <;> omega) _)
set_option maxHeartbeats 1000000 in
theorem iRT_f (e n u : Int) (w : World) (hv : ryB e n u = false) :
    Calls Try.prog 21 #[.agg #[.int .i64 e, .int .i64 n, .int .i64 u]] w fun E w' => E = .returned (.agg #[.int .i64 0, .int .i64 0, .int .i64 0]) ∧ Below w.heap.size w w' := by
  have HV := Lib.hid hv
  clear hv
  go_enter Try.func21, Try.ntmps21
  go_wp2_with fail
  refine (iRV_is _ HV.out).mono ?_; rintro E w1 ⟨rfl, hw1⟩
  obtain ⟨hP1, hQ1, hB1⟩ := ownb2 hw1
  obtain ⟨cP0, cP1, cP2, fP0, fP1, fP2, zP⟩ := blk3 hP1
  obtain ⟨cQ0, cQ1, cQ2, fQ0, fQ1, fQ2, zQ⟩ := blk3 hQ1
  go_wp2
  refine bodyPost_ret (v := .agg #[.int .i64 0, .int .i64 0, .int .i64 0]) (by simp [results, Try.results21, go_sem, cQ0, cQ1, cQ2]) rfl ⟨rfl, ?_⟩
  repeat (first | exact hB1 | refine Below.setCell ?_ (by simp <;> omega) _ | refine Below.alloc ?_ (by simp <;> omega) _)
set_option maxHeartbeats 1000000 in
theorem iRT_t (e n u : Int) (w : World) (hv : ryB e n u = true) :
    Calls Try.prog 21 #[.agg #[.int .i64 e, .int .i64 n, .int .i64 u]] w fun E w' => E = .returned (.agg #[.int .i64 (-n), .int .i64 e, .int .i64 u]) ∧ Below w.heap.size w w' := by
  have bd := ryB_iff.1 hv
  have HV := Lib.hid hv
  clear hv
  go_enter Try.func21, Try.ntmps21
  go_wp2_with fail
  refine (iRV_is _ HV.out).mono ?_; rintro E w1 ⟨rfl, hw1⟩
  obtain ⟨hP1, hQ1, hB1⟩ := ownb2 hw1
  obtain ⟨cP0, cP1, cP2, fP0, fP1, fP2, zP⟩ := blk3 hP1
  obtain ⟨cQ0, cQ1, cQ2, fQ0, fQ1, fQ2, zQ⟩ := blk3 hQ1
  go_wp2
  refine bodyPost_ret (v := .agg #[.int .i64 (-n), .int .i64 e, .int .i64 u]) (by simp [results, Try.results21, go_sem, cQ0, cQ1, cQ2]) rfl ⟨rfl, ?_⟩
  repeat (first | exact hB1 | refine Below.setCell ?_ (by simp <;> omega) _ | refine Below.alloc ?_ (by simp <;> omega) _)
set_option maxHeartbeats 1000000 in
theorem iBT_f (a b c d h : Int) (w : World) (hv : blB a b c d h = false) :
    Calls Try.prog 20 #[.agg #[.int .i64 a, .int .i64 b, .int .i64 c, .int .i64 d, .int .i64 h]] w fun E w' => E = .returned (.agg #[.int .i64 0, .int .i64 0, .int .i64 0, .int .i64 0, .int .i64 0]) ∧ Below w.heap.size w w' := by
  have HV := Lib.hid hv
  clear hv
  go_enter Try.func20, Try.ntmps20
  go_wp2_with fail
  refine (iBV_is _ HV.out).mono ?_; rintro E w1 ⟨rfl, hw1⟩
  obtain ⟨hP1, hQ1, hB1⟩ := ownb2 hw1
  obtain ⟨cP0, cP1, cP2, cP3, cP4, fP0, fP1, fP2, fP3, fP4, zP⟩ := blk5 hP1
  obtain ⟨cQ0, cQ1, cQ2, cQ3, cQ4, fQ0, fQ1, fQ2, fQ3, fQ4, zQ⟩ := blk5 hQ1
  go_wp2
  refine bodyPost_ret (v := .agg #[.int .i64 0, .int .i64 0, .int .i64 0, .int .i64 0, .int .i64 0]) (by simp [results, Try.results20, go_sem, cQ0, cQ1, cQ2, cQ3, cQ4]) rfl ⟨rfl, ?_⟩
  repeat (first | exact hB1 | refine Below.setCell ?_ (by simp <;> omega) _ | refine Below.alloc ?_ (by simp <;> omega) _)
set_option maxHeartbeats 1000000 in
theorem iBT_t (a b c d h : Int) (w : World) (hv : blB a b c d h = true) :
    Calls Try.prog 20 #[.agg #[.int .i64 a, .int .i64 b, .int .i64 c, .int .i64 d, .int .i64 h]] w fun E w' => E = .returned (.agg #[.int .i64 (-d), .int .i64 (-c), .int .i64 a, .int .i64 b, .int .i64 h]) ∧ Below w.heap.size w w' := by
  have bd := blB_iff.1 hv
  have HV := Lib.hid hv
  clear hv
  go_enter Try.func20, Try.ntmps20
  go_wp2_with fail
  refine (iBV_is _ HV.out).mono ?_; rintro E w1 ⟨rfl, hw1⟩
  obtain ⟨hP1, hQ1, hB1⟩ := ownb2 hw1
  obtain ⟨cP0, cP1, cP2, cP3, cP4, fP0, fP1, fP2, fP3, fP4, zP⟩ := blk5 hP1
  obtain ⟨cQ0, cQ1, cQ2, cQ3, cQ4, fQ0, fQ1, fQ2, fQ3, fQ4, zQ⟩ := blk5 hQ1
  go_wp2
  refine bodyPost_ret (v := .agg #[.int .i64 (-d), .int .i64 (-c), .int .i64 a, .int .i64 b, .int .i64 h]) (by simp [results, Try.results20, go_sem, cQ0, cQ1, cQ2, cQ3, cQ4]) rfl ⟨rfl, ?_⟩
  repeat (first | exact hB1 | refine Below.setCell ?_ (by simp <;> omega) _ | refine Below.alloc ?_ (by simp <;> omega) _)
end Go.Proofs.Ytlahjgjjebkpjab
