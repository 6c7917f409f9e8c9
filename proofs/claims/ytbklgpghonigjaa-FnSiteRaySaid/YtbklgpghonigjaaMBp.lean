/- Bp: texts joined. -/
import Derived.Test.YtbklgpghonigjaaMQG
namespace Go.Proofs.Ytbklgpghonigjaa
open Go Go.ChangeShapes Go.WideShapes Go.ChangeAt Go.RowKit
set_option linter.unusedSimpArgs false
set_option linter.unusedVariables false
set_option maxHeartbeats 4000000 in
theorem iBl_any (s : Bool) (t : Int) (w : World) :
    Calls Try.prog 24 #[.agg #[.bool s, .int .i64 t]] w fun E w' => E = .returned (.bool (inV t 0 20)) ∧ Below w.heap.size w w' := by
  go_enter Try.func24, Try.ntmps24
  go_wp2_with (go_at_call 43; refine (iIn7 _ _ _ _).mono ?_; rintro E w' ⟨rfl, rfl⟩)
  go_ret
  exact ⟨rfl, bel1 _ _⟩
theorem iBl_is {s : Bool} {t : Int} {r : Bool} (w : World) (h_ : inV t 0 20 = r) : Calls Try.prog 24 #[.agg #[.bool s, .int .i64 t]] w fun E w' => E = .returned (.bool r) ∧ Below w.heap.size w w' := by subst h_; exact iBl_any s t w
set_option maxHeartbeats 4000000 in
theorem sBl_any (s : Bool) (t : Int) (w : World) :
    Calls Try.prog 30 #[.agg #[.bool s, .int .i64 t]] w fun E w' => E = .returned (.bool (inV t 0 20)) ∧ Below w.heap.size w w' := by
  go_enter Try.func30, Try.ntmps30
  go_wp2_with (go_at_call 25; refine (sIn7 _ _ _ _).mono ?_; rintro E w' ⟨rfl, rfl⟩)
  go_ret
  exact ⟨rfl, bel1 _ _⟩
theorem sBl_is {s : Bool} {t : Int} {r : Bool} (w : World) (h_ : inV t 0 20 = r) : Calls Try.prog 30 #[.agg #[.bool s, .int .i64 t]] w fun E w' => E = .returned (.bool r) ∧ Below w.heap.size w w' := by subst h_; exact sBl_any s t w
end Go.Proofs.Ytbklgpghonigjaa
