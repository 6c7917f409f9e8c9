/- Contracts of chapter 3: suns are equal. -/
import Derived.Test.YtbiajaafdbbmgaaSu
import Derived.Test.YtbiajaafdbbmgaaHlp
namespace Go.Proofs.Ytbiajaafdbbmgaa
open Go.ChangeShapes Go.WideShapes Go.ChangeAt Go.RowKit
set_option linter.unusedSimpArgs false
set_option linter.unusedVariables false

theorem eqSun_any (a b c : Int) (w : World) :
    Calls Try.prog 16 #[.agg #[.int .i64 a, .int .i64 b, .int .i64 c], .agg #[.int .i64 a, .int .i64 b, .int .i64 c]] w fun e w' => e = .returned (.bool true) ∧ Below w.heap.size w w' := by
  go_enter Try.func16, Try.ntmps16
  go_wp2
  all_goals go_ret
  all_goals exact ⟨ret_bool (by simp_all), ((bel1 _ _).alloc (by simp) _)⟩
end Go.Proofs.Ytbiajaafdbbmgaa
