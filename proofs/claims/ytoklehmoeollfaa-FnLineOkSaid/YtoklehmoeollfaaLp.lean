/- Leap years, and the laws' own question whether the program lives. -/
import Derived.Test.YtoklehmoeollfaaRows
import Derived.Test.YtoklehmoeollfaaHelp
import Derived.Test.YtoklehmoeollfaaCal
namespace Go.Proofs.Ytoklehmoeollfaa
open Go.ChangeShapes Go.WideShapes Go.ChangeAt Go.RowKit
set_option linter.unusedSimpArgs false

theorem yv_any (n : Int) (w : World) :
    Calls Try.prog 57 #[.int .i64 n] w fun e w' => e = .returned (.bool (inB n 1 4000)) ∧ w = w' := by
  go_enter Try.func57, Try.ntmps57
  go_wp2
  all_goals go_ret
  all_goals exact ⟨ret_bool (by rw [Bool.eq_iff_iff]; simp [inB]; omega), rfl⟩
theorem iLeap_any (y : Int) (w : World) :
    Calls Try.prog 40 #[.int .i64 y] w fun e w' => e = .returned (.bool (leapB y)) ∧ w = w' := by
  by_cases hy : 1 ≤ y ∧ y ≤ 4000
  · have hb := inB_t hy.1 hy.2
    obtain ⟨h1, h2⟩ := hy
    go_enter Try.func40, Try.ntmps40
    go_wp2_with (go_at_call 57; refine (yv_any _ _).mono ?_; rintro e w' ⟨rfl, rfl⟩)
    all_goals go_ret
    all_goals exact ⟨ret_bool (by rw [Bool.eq_iff_iff]; simp [leapB]; omega), rfl⟩
  · have hb := inB_f hy
    go_enter Try.func40, Try.ntmps40
    go_wp2_with (go_at_call 57; refine (yv_any _ _).mono ?_; rintro e w' ⟨rfl, rfl⟩)
    all_goals go_ret
    all_goals exact ⟨ret_bool (by rw [Bool.eq_iff_iff]; simp [leapB]; omega), rfl⟩
theorem alive_any (w : World) : Calls Try.prog 13 #[] w fun e w' => e = .returned (.bool true) ∧ w = w' := by
  have e1 : leapB 2000 = true := by decide
  have e2 : leapB 1900 = false := by decide
  go_enter Try.func13, Try.ntmps13
  go_wp2_with (go_at_call 40; refine (iLeap_any _ _).mono ?_; rintro e w' ⟨rfl, rfl⟩)
  go_ret
  exact ⟨rfl, rfl⟩
theorem alive_bel (w : World) : Calls Try.prog 13 #[] w fun e w' => e = .returned (.bool true) ∧ Below w.heap.size w w' := by
  refine (alive_any w).mono ?_
  rintro e w' ⟨rfl, rfl⟩
  exact ⟨rfl, Below.refl _ _⟩
end Go.Proofs.Ytoklehmoeollfaa
