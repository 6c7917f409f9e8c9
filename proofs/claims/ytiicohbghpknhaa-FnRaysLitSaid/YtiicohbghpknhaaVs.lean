/- Contracts of chapter 5's small functions: valid places, blocks and rays, turns, tips, spots. -/
import Derived.Test.YtiicohbghpknhaaRows
import Derived.Test.YtiicohbghpknhaaVh
import Derived.Test.YtiicohbghpknhaaVm
namespace Go.Proofs.Ytiicohbghpknhaa
open Go Go.ChangeShapes Go.WideShapes Go.ChangeAt Go.RowKit
set_option linter.unusedSimpArgs false
set_option linter.unusedVariables false

theorem l1V_any (n a b : Int) (w : World) :
    Calls Try.prog 65 #[.int .i64 n, .int .i64 a, .int .i64 b] w fun E w' => E = .returned (.bool (inV n a b)) ∧ w = w' := by
  go_enter Try.func65, Try.ntmps65
  go_wp2
  all_goals go_ret
  all_goals exact ⟨ret_bool (by rw [Bool.eq_iff_iff]; simp [inV]; omega), rfl⟩
theorem iInV_any (n a b : Int) (w : World) :
    Calls Try.prog 74 #[.int .i64 n, .int .i64 a, .int .i64 b] w fun E w' => E = .returned (.bool (inV n a b)) ∧ w = w' := by
  go_enter Try.func74, Try.ntmps74
  go_wp2
  all_goals go_ret
  all_goals exact ⟨ret_bool (by rw [Bool.eq_iff_iff]; simp [inV]; omega), rfl⟩
theorem pnV_any (n : Int) (w : World) :
    Calls Try.prog 71 #[.int .i64 n] w fun E w' => E = .returned (.bool (inV n (-50) 50)) ∧ w = w' := by
  go_enter Try.func71, Try.ntmps71
  go_wp2_with (go_at_call 74; refine (iInV_any _ _ _ _).mono ?_; rintro e' w' ⟨rfl, rfl⟩)
  go_ret
  exact ⟨rfl, rfl⟩
set_option maxHeartbeats 1000000 in
theorem iPV_any (e n : Int) (w : World) :
    Calls Try.prog 49 #[.agg #[.int .i64 e, .int .i64 n]] w fun E w' => E = .returned (.bool (plB e n)) ∧ Below w.heap.size w w' := by
  go_enter Try.func49, Try.ntmps49
  go_wp2_with (first | (go_at_call 71; refine (pnV_any _ _).mono ?_; rintro e' w' ⟨rfl, rfl⟩) | (go_at_call 74; refine (iInV_any _ _ _ _).mono ?_; rintro e' w' ⟨rfl, rfl⟩))
  all_goals go_ret
  all_goals exact ⟨ret_bool (by simp_all [plB, inV]; try omega), bel1 _ _⟩
set_option maxHeartbeats 1000000 in
theorem sPV_any (e n : Int) (w : World) :
    Calls Try.prog 54 #[.agg #[.int .i64 e, .int .i64 n]] w fun E w' => E = .returned (.bool (plB e n)) ∧ Below w.heap.size w w' := by
  go_enter Try.func54, Try.ntmps54
  go_wp2_with (go_at_call 65; refine (l1V_any _ _ _ _).mono ?_; rintro e' w' ⟨rfl, rfl⟩)
  all_goals go_ret
  all_goals exact ⟨ret_bool (by simp_all [plB, inV]; try omega), bel1 _ _⟩
set_option maxHeartbeats 1000000 in
theorem iRV_any (e n u : Int) (w : World) :
    Calls Try.prog 52 #[.agg #[.int .i64 e, .int .i64 n, .int .i64 u]] w fun E w' => E = .returned (.bool (ryB e n u)) ∧ Below w.heap.size w w' := by
  go_enter Try.func52, Try.ntmps52
  go_wp2_with (first | (go_at_call 71; refine (pnV_any _ _).mono ?_; rintro e' w' ⟨rfl, rfl⟩) | (go_at_call 74; refine (iInV_any _ _ _ _).mono ?_; rintro e' w' ⟨rfl, rfl⟩))
  all_goals go_ret
  all_goals exact ⟨ret_bool (by simp_all [ryB, inV]; try omega), bel1 _ _⟩
set_option maxHeartbeats 1000000 in
theorem sRV_any (e n u : Int) (w : World) :
    Calls Try.prog 56 #[.agg #[.int .i64 e, .int .i64 n, .int .i64 u]] w fun E w' => E = .returned (.bool (ryB e n u)) ∧ Below w.heap.size w w' := by
  go_enter Try.func56, Try.ntmps56
  go_wp2_with (go_at_call 65; refine (l1V_any _ _ _ _).mono ?_; rintro e' w' ⟨rfl, rfl⟩)
  all_goals go_ret
  all_goals exact ⟨ret_bool (by simp_all [ryB, inV]; try omega), bel1 _ _⟩
set_option maxHeartbeats 1000000 in
theorem iBV_any (a b c d h : Int) (w : World) :
    Calls Try.prog 73 #[.agg #[.int .i64 a, .int .i64 b, .int .i64 c, .int .i64 d, .int .i64 h]] w fun E w' => E = .returned (.bool (blB a b c d h)) ∧ Below w.heap.size w w' := by
  go_enter Try.func73, Try.ntmps73
  go_wp2_with (first | (go_at_call 71; refine (pnV_any _ _).mono ?_; rintro e' w' ⟨rfl, rfl⟩) | (go_at_call 74; refine (iInV_any _ _ _ _).mono ?_; rintro e' w' ⟨rfl, rfl⟩))
  all_goals go_ret
  all_goals exact ⟨ret_bool (by simp_all [blB, inV]; try omega), bel1 _ _⟩
theorem l1V_is (n a b : Int) (r : Bool) (w : World) (h : inV n a b = r) : Calls Try.prog 65 #[.int .i64 n, .int .i64 a, .int .i64 b] w fun E w' => E = .returned (.bool r) ∧ w = w' := by subst h; exact l1V_any n a b w
set_option maxHeartbeats 4000000 in
theorem sBV_any (a b c d h : Int) (w : World) :
    Calls Try.prog 78 #[.agg #[.int .i64 a, .int .i64 b, .int .i64 c, .int .i64 d, .int .i64 h]] w fun E w' => E = .returned (.bool (blB a b c d h)) ∧ Below w.heap.size w w' := by
  by_cases hb : -50 ≤ b ∧ b ≤ 50
  · obtain ⟨hb0, hb1⟩ := hb
    by_cases hd : -50 ≤ d ∧ d ≤ 50
    · obtain ⟨hd0, hd1⟩ := hd
      go_enter Try.func78, Try.ntmps78
      go_wp2_with (go_at_call 65; refine (l1V_any _ _ _ _).mono ?_; rintro e' w' ⟨rfl, rfl⟩)
      all_goals go_ret
      all_goals exact ⟨ret_bool (by first | (simp_all [blB, inV]; done) | (rw [Bool.eq_iff_iff]; simp_all [blB, inV]; omega)), bel1 _ _⟩
    · have hf : inV d (-50) 50 = false := by unfold inV; exact decide_eq_false hd
      have hg : blB a b c d h = false := by unfold blB; exact decide_eq_false (by omega)
      clear hd
      rw [hg]
      have HF := Lib.hid hf
      clear hf hg
      go_enter Try.func78, Try.ntmps78
      go_wp2_with (go_at_call 65; first | ((with_reducible refine (l1V_is d (-50) 50 _ _ HF.out).mono ?_); rintro e' w' ⟨rfl, rfl⟩) | (refine (l1V_any _ _ _ _).mono ?_; rintro e' w' ⟨rfl, rfl⟩))
      all_goals go_ret
      all_goals exact ⟨by first | rfl | exact ret_bool (by simp_all), bel1 _ _⟩
  · have hf : inV b (-50) 50 = false := by unfold inV; exact decide_eq_false hb
    have hg : blB a b c d h = false := by unfold blB; exact decide_eq_false (by omega)
    clear hb
    rw [hg]
    have HF := Lib.hid hf
    clear hf hg
    go_enter Try.func78, Try.ntmps78
    go_wp2_with (go_at_call 65; first | ((with_reducible refine (l1V_is b (-50) 50 _ _ HF.out).mono ?_); rintro e' w' ⟨rfl, rfl⟩) | (refine (l1V_any _ _ _ _).mono ?_; rintro e' w' ⟨rfl, rfl⟩))
    all_goals go_ret
    all_goals exact ⟨by first | rfl | exact ret_bool (by simp_all), bel1 _ _⟩
theorem iPV_is {e n : Int} {r : Bool} (w : World) (h_ : plB e n = r) : Calls Try.prog 49 #[.agg #[.int .i64 e, .int .i64 n]] w fun E w' => E = .returned (.bool r) ∧ Below w.heap.size w w' := by subst h_; exact iPV_any e n w
theorem sPV_is {e n : Int} {r : Bool} (w : World) (h_ : plB e n = r) : Calls Try.prog 54 #[.agg #[.int .i64 e, .int .i64 n]] w fun E w' => E = .returned (.bool r) ∧ Below w.heap.size w w' := by subst h_; exact sPV_any e n w
theorem iRV_is {e n u : Int} {r : Bool} (w : World) (h_ : ryB e n u = r) : Calls Try.prog 52 #[.agg #[.int .i64 e, .int .i64 n, .int .i64 u]] w fun E w' => E = .returned (.bool r) ∧ Below w.heap.size w w' := by subst h_; exact iRV_any e n u w
theorem sRV_is {e n u : Int} {r : Bool} (w : World) (h_ : ryB e n u = r) : Calls Try.prog 56 #[.agg #[.int .i64 e, .int .i64 n, .int .i64 u]] w fun E w' => E = .returned (.bool r) ∧ Below w.heap.size w w' := by subst h_; exact sRV_any e n u w
theorem iBV_is {a b c d h : Int} {r : Bool} (w : World) (h_ : blB a b c d h = r) : Calls Try.prog 73 #[.agg #[.int .i64 a, .int .i64 b, .int .i64 c, .int .i64 d, .int .i64 h]] w fun E w' => E = .returned (.bool r) ∧ Below w.heap.size w w' := by subst h_; exact iBV_any a b c d h w
theorem sBV_is {a b c d h : Int} {r : Bool} (w : World) (h_ : blB a b c d h = r) : Calls Try.prog 78 #[.agg #[.int .i64 a, .int .i64 b, .int .i64 c, .int .i64 d, .int .i64 h]] w fun E w' => E = .returned (.bool r) ∧ Below w.heap.size w w' := by subst h_; exact sBV_any a b c d h w
end Go.Proofs.Ytiicohbghpknhaa
