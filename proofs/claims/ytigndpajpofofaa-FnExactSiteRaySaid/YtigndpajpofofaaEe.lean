/- Sites: the direction to the sun in numbers. -/
import Derived.Test.YtigndpajpofofaaSi
import Derived.Test.YtigndpajpofofaaSn
import Derived.Test.YtigndpajpofofaaSk
import Derived.Test.YtigndpajpofofaaHelp
namespace Go.Proofs.Ytigndpajpofofaa
open Go Go.ChangeShapes Go.WideShapes Go.ChangeAt Go.RowKit
set_option linter.unusedSimpArgs false
set_option linter.unusedVariables false
set_option linter.unnecessarySimpa false

/-- A number of the sun as one of a direction. -/
def raI (n least : Int) : Int := min (max (nearI n 50000000) least) 20
theorem raI_bd {n least : Int} (h0 : -20 ≤ least) (h1 : least ≤ 20) : least ≤ raI n least ∧ raI n least ≤ 20 := by unfold raI; omega
theorem near5_bd {n : Int} (h0 : -2000000000 ≤ n) (h1 : n ≤ 2000000000) : -40 ≤ nearI n 50000000 ∧ nearI n 50000000 ≤ 40 := by unfold nearI; omega
set_option maxHeartbeats 4000000 in
theorem iRN_is {n least x : Int} (w : World) (h0 : -2000000000 ≤ n) (h1 : n ≤ 2000000000) (k0 : -20 ≤ least) (k1 : least ≤ 20) (hx : raI n least = x) : Calls Try.prog 70 #[.int .i64 n, .int .i64 least] w fun e w' => e = .returned (.int .i64 x) ∧ w = w' := by
  have hb := near5_bd h0 h1
  unfold raI at hx
  go_enter Try.func70, Try.ntmps70
  go_wp2_with fail
  refine (near_any _ _ _ (by omega) (by omega) (by omega) (by omega)).mono ?_; rintro e w1 ⟨rfl, rfl⟩
  generalize nearI n 50000000 = m at hb hx ⊢
  go_wp2
  all_goals go_ret
  all_goals refine ⟨?_, rfl⟩
  all_goals refine congrArg Ending.returned (congrArg (Value.int .i64) ?_)
  all_goals (subst hx; simp only [Int.max_def, Int.min_def])
  all_goals by_cases c : m < least
  all_goals (first | (have c2 : m + 1 ≤ least := by omega) | (have c2 : least ≤ m := by omega))
  all_goals (try simp only [c, if_true, if_false] at *)
  all_goals repeat' split
  all_goals omega
set_option maxHeartbeats 4000000 in
theorem sN10_is {n x : Int} (w : World) (h0 : -2000000000 ≤ n) (h1 : n ≤ 2000000000) (hx : raI n (-20) = x) : Calls Try.prog 46 #[.int .i64 n] w fun e w' => e = .returned (.int .i64 x) ∧ w = w' := by
  have hb := near5_bd h0 h1
  unfold raI at hx
  go_enter Try.func46, Try.ntmps46
  go_wp2_with fail
  refine (sNear_any _ _ _ (by omega) (by omega) (by omega) (by omega)).mono ?_; rintro e w1 ⟨rfl, rfl⟩
  generalize nearI n 50000000 = m at hb hx ⊢
  go_wp2
  all_goals go_ret
  all_goals refine ⟨?_, rfl⟩
  all_goals refine congrArg Ending.returned (congrArg (Value.int .i64) ?_)
  all_goals (subst hx; simp only [Int.max_def, Int.min_def])
  all_goals by_cases c : m < -20
  all_goals (first | (have c2 : m + 1 ≤ -20 := by omega) | (have c2 : -20 ≤ m := by omega))
  all_goals (try simp only [c, if_true, if_false] at *)
  all_goals repeat' split
  all_goals omega
end Go.Proofs.Ytigndpajpofofaa
