/- Contracts of chapter 5's small functions: valid places, blocks and rays, turns, tips, spots. -/
import Derived.Test.YtigndpajpofofaaRows
import Derived.Test.YtigndpajpofofaaVh
import Derived.Test.YtigndpajpofofaaVm
namespace Go.Proofs.Ytigndpajpofofaa
open Go Go.ChangeShapes Go.WideShapes Go.ChangeAt Go.RowKit
set_option linter.unusedSimpArgs false
set_option linter.unusedVariables false

theorem l1V_any (n a b : Int) (w : World) :
    Calls Try.prog 20 #[.int .i64 n, .int .i64 a, .int .i64 b] w fun E w' => E = .returned (.bool (inV n a b)) ∧ w = w' := by
  go_enter Try.func20, Try.ntmps20
  go_wp2
  all_goals go_ret
  all_goals exact ⟨ret_bool (by rw [Bool.eq_iff_iff]; simp [inV]; omega), rfl⟩
theorem iInV_any (n a b : Int) (w : World) :
    Calls Try.prog 55 #[.int .i64 n, .int .i64 a, .int .i64 b] w fun E w' => E = .returned (.bool (inV n a b)) ∧ w = w' := by
  go_enter Try.func55, Try.ntmps55
  go_wp2
  all_goals go_ret
  all_goals exact ⟨ret_bool (by rw [Bool.eq_iff_iff]; simp [inV]; omega), rfl⟩
theorem pnV_any (n : Int) (w : World) :
    Calls Try.prog 60 #[.int .i64 n] w fun E w' => E = .returned (.bool (inV n (-50) 50)) ∧ w = w' := by
  go_enter Try.func60, Try.ntmps60
  go_wp2_with (go_at_call 55; refine (iInV_any _ _ _ _).mono ?_; rintro e' w' ⟨rfl, rfl⟩)
  go_ret
  exact ⟨rfl, rfl⟩
set_option maxHeartbeats 1000000 in
theorem iPV_any (e n : Int) (w : World) :
    Calls Try.prog 35 #[.agg #[.int .i64 e, .int .i64 n]] w fun E w' => E = .returned (.bool (plB e n)) ∧ Below w.heap.size w w' := by
  go_enter Try.func35, Try.ntmps35
  go_wp2_with (first | (go_at_call 60; refine (pnV_any _ _).mono ?_; rintro e' w' ⟨rfl, rfl⟩) | (go_at_call 55; refine (iInV_any _ _ _ _).mono ?_; rintro e' w' ⟨rfl, rfl⟩))
  all_goals go_ret
  all_goals exact ⟨ret_bool (by simp_all [plB, inV]; try omega), bel1 _ _⟩
set_option maxHeartbeats 1000000 in
theorem sPV_any (e n : Int) (w : World) :
    Calls Try.prog 22 #[.agg #[.int .i64 e, .int .i64 n]] w fun E w' => E = .returned (.bool (plB e n)) ∧ Below w.heap.size w w' := by
  go_enter Try.func22, Try.ntmps22
  go_wp2_with (go_at_call 20; refine (l1V_any _ _ _ _).mono ?_; rintro e' w' ⟨rfl, rfl⟩)
  all_goals go_ret
  all_goals exact ⟨ret_bool (by simp_all [plB, inV]; try omega), bel1 _ _⟩
set_option maxHeartbeats 1000000 in
theorem iRV_any (e n u : Int) (w : World) :
    Calls Try.prog 83 #[.agg #[.int .i64 e, .int .i64 n, .int .i64 u]] w fun E w' => E = .returned (.bool (ryB e n u)) ∧ Below w.heap.size w w' := by
  go_enter Try.func83, Try.ntmps83
  go_wp2_with (first | (go_at_call 60; refine (pnV_any _ _).mono ?_; rintro e' w' ⟨rfl, rfl⟩) | (go_at_call 55; refine (iInV_any _ _ _ _).mono ?_; rintro e' w' ⟨rfl, rfl⟩))
  all_goals go_ret
  all_goals exact ⟨ret_bool (by simp_all [ryB, inV]; try omega), bel1 _ _⟩
set_option maxHeartbeats 1000000 in
theorem sRV_any (e n u : Int) (w : World) :
    Calls Try.prog 71 #[.agg #[.int .i64 e, .int .i64 n, .int .i64 u]] w fun E w' => E = .returned (.bool (ryB e n u)) ∧ Below w.heap.size w w' := by
  go_enter Try.func71, Try.ntmps71
  go_wp2_with (go_at_call 20; refine (l1V_any _ _ _ _).mono ?_; rintro e' w' ⟨rfl, rfl⟩)
  all_goals go_ret
  all_goals exact ⟨ret_bool (by simp_all [ryB, inV]; try omega), bel1 _ _⟩
set_option maxHeartbeats 1000000 in
theorem iBV_any (a b c d h : Int) (w : World) :
    Calls Try.prog 59 #[.agg #[.int .i64 a, .int .i64 b, .int .i64 c, .int .i64 d, .int .i64 h]] w fun E w' => E = .returned (.bool (blB a b c d h)) ∧ Below w.heap.size w w' := by
  go_enter Try.func59, Try.ntmps59
  go_wp2_with (first | (go_at_call 60; refine (pnV_any _ _).mono ?_; rintro e' w' ⟨rfl, rfl⟩) | (go_at_call 55; refine (iInV_any _ _ _ _).mono ?_; rintro e' w' ⟨rfl, rfl⟩))
  all_goals go_ret
  all_goals exact ⟨ret_bool (by simp_all [blB, inV]; try omega), bel1 _ _⟩
theorem l1V_is (n a b : Int) (r : Bool) (w : World) (h : inV n a b = r) : Calls Try.prog 20 #[.int .i64 n, .int .i64 a, .int .i64 b] w fun E w' => E = .returned (.bool r) ∧ w = w' := by subst h; exact l1V_any n a b w
set_option maxHeartbeats 4000000 in
theorem sBV_any (a b c d h : Int) (w : World) :
    Calls Try.prog 52 #[.agg #[.int .i64 a, .int .i64 b, .int .i64 c, .int .i64 d, .int .i64 h]] w fun E w' => E = .returned (.bool (blB a b c d h)) ∧ Below w.heap.size w w' := by
  by_cases hb : -50 ≤ b ∧ b ≤ 50
  · obtain ⟨hb0, hb1⟩ := hb
    by_cases hd : -50 ≤ d ∧ d ≤ 50
    · obtain ⟨hd0, hd1⟩ := hd
      go_enter Try.func52, Try.ntmps52
      go_wp2_with (go_at_call 20; refine (l1V_any _ _ _ _).mono ?_; rintro e' w' ⟨rfl, rfl⟩)
      all_goals go_ret
      all_goals exact ⟨ret_bool (by first | (simp_all [blB, inV]; done) | (rw [Bool.eq_iff_iff]; simp_all [blB, inV]; omega)), bel1 _ _⟩
    · have hf : inV d (-50) 50 = false := by unfold inV; exact decide_eq_false hd
      have hg : blB a b c d h = false := by unfold blB; exact decide_eq_false (by omega)
      clear hd
      rw [hg]
      have HF := Lib.hid hf
      clear hf hg
      go_enter Try.func52, Try.ntmps52
      go_wp2_with (go_at_call 20; first | ((with_reducible refine (l1V_is d (-50) 50 _ _ HF.out).mono ?_); rintro e' w' ⟨rfl, rfl⟩) | (refine (l1V_any _ _ _ _).mono ?_; rintro e' w' ⟨rfl, rfl⟩))
      all_goals go_ret
      all_goals exact ⟨by first | rfl | exact ret_bool (by simp_all), bel1 _ _⟩
  · have hf : inV b (-50) 50 = false := by unfold inV; exact decide_eq_false hb
    have hg : blB a b c d h = false := by unfold blB; exact decide_eq_false (by omega)
    clear hb
    rw [hg]
    have HF := Lib.hid hf
    clear hf hg
    go_enter Try.func52, Try.ntmps52
    go_wp2_with (go_at_call 20; first | ((with_reducible refine (l1V_is b (-50) 50 _ _ HF.out).mono ?_); rintro e' w' ⟨rfl, rfl⟩) | (refine (l1V_any _ _ _ _).mono ?_; rintro e' w' ⟨rfl, rfl⟩))
    all_goals go_ret
    all_goals exact ⟨by first | rfl | exact ret_bool (by simp_all), bel1 _ _⟩
theorem iPV_is {e n : Int} {r : Bool} (w : World) (h_ : plB e n = r) : Calls Try.prog 35 #[.agg #[.int .i64 e, .int .i64 n]] w fun E w' => E = .returned (.bool r) ∧ Below w.heap.size w w' := by subst h_; exact iPV_any e n w
theorem sPV_is {e n : Int} {r : Bool} (w : World) (h_ : plB e n = r) : Calls Try.prog 22 #[.agg #[.int .i64 e, .int .i64 n]] w fun E w' => E = .returned (.bool r) ∧ Below w.heap.size w w' := by subst h_; exact sPV_any e n w
theorem iRV_is {e n u : Int} {r : Bool} (w : World) (h_ : ryB e n u = r) : Calls Try.prog 83 #[.agg #[.int .i64 e, .int .i64 n, .int .i64 u]] w fun E w' => E = .returned (.bool r) ∧ Below w.heap.size w w' := by subst h_; exact iRV_any e n u w
theorem sRV_is {e n u : Int} {r : Bool} (w : World) (h_ : ryB e n u = r) : Calls Try.prog 71 #[.agg #[.int .i64 e, .int .i64 n, .int .i64 u]] w fun E w' => E = .returned (.bool r) ∧ Below w.heap.size w w' := by subst h_; exact sRV_any e n u w
theorem iBV_is {a b c d h : Int} {r : Bool} (w : World) (h_ : blB a b c d h = r) : Calls Try.prog 59 #[.agg #[.int .i64 a, .int .i64 b, .int .i64 c, .int .i64 d, .int .i64 h]] w fun E w' => E = .returned (.bool r) ∧ Below w.heap.size w w' := by subst h_; exact iBV_any a b c d h w
theorem sBV_is {a b c d h : Int} {r : Bool} (w : World) (h_ : blB a b c d h = r) : Calls Try.prog 52 #[.agg #[.int .i64 a, .int .i64 b, .int .i64 c, .int .i64 d, .int .i64 h]] w fun E w' => E = .returned (.bool r) ∧ Below w.heap.size w w' := by subst h_; exact sBV_any a b c d h w
end Go.Proofs.Ytigndpajpofofaa
