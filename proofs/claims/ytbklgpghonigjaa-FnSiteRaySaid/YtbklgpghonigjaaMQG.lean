/- QG: texts joined. -/
import Derived.Test.YtbklgpghonigjaaMQD
import Derived.Test.YtbklgpghonigjaaMQE
import Derived.Test.YtbklgpghonigjaaMQC
import Derived.Laws.AppendOwn
namespace Go.Proofs.Ytbklgpghonigjaa
set_option linter.unusedVariables false
set_option linter.unusedSimpArgs false
def bdB (lo hi : Int) : Bool := decide (0 ≤ lo ∧ lo < hi ∧ hi ≤ 100)
end Go.Proofs.Ytbklgpghonigjaa
namespace Go.Proofs.Ytbklgpghonigjaa
open Go Go.ChangeShapes Go.WideShapes Go.ChangeAt Go.RowKit
set_option linter.unusedSimpArgs false
set_option linter.unusedVariables false
set_option maxHeartbeats 4000000 in
theorem iBd_any (lo hi : Int) (w : World) :
    Calls Try.prog 23 #[.agg #[.int .i64 lo, .int .i64 hi]] w fun E w' => E = .returned (.bool (bdB lo hi)) ∧ Below w.heap.size w w' := by
  go_enter Try.func23, Try.ntmps23
  go_wp2
  all_goals go_ret
  all_goals exact ⟨ret_bool (by first | (simp_all [bdB]; done) | (rw [Bool.eq_iff_iff]; simp_all [bdB]; omega)), bel1 _ _⟩
set_option maxHeartbeats 4000000 in
theorem sBd_any (lo hi : Int) (w : World) :
    Calls Try.prog 29 #[.agg #[.int .i64 lo, .int .i64 hi]] w fun E w' => E = .returned (.bool (bdB lo hi)) ∧ Below w.heap.size w w' := by
  by_cases hh : 1 ≤ hi ∧ hi ≤ 100
  · obtain ⟨h1, h2⟩ := hh
    go_enter Try.func29, Try.ntmps29
    go_wp2_with (go_at_call 25; refine (sIn7 _ _ _ _).mono ?_; rintro E w' ⟨rfl, rfl⟩)
    all_goals go_ret
    all_goals exact ⟨ret_bool (by first | (simp_all [bdB, inV]; done) | (rw [Bool.eq_iff_iff]; simp_all [bdB, inV]; omega)), bel1 _ _⟩
  · have hf : bdB lo hi = false := by unfold bdB; exact decide_eq_false (by omega)
    have hg : inV hi 1 100 = false := by unfold inV; exact decide_eq_false (by omega)
    have HF := Lib.hid hf
    have HG := Lib.hid hg
    clear hf hg hh
    go_enter Try.func29, Try.ntmps29
    go_wp2_with (go_at_call 25; first | ((with_reducible refine (sIn7_is _ HG.out).mono ?_); rintro E w' ⟨rfl, rfl⟩) | (refine (sIn7 _ _ _ _).mono ?_; rintro E w' ⟨rfl, rfl⟩))
    all_goals go_ret
    all_goals exact ⟨ret_bool HF.out.symm, bel1 _ _⟩
theorem iBd_is {lo hi : Int} {r : Bool} (w : World) (h_ : bdB lo hi = r) : Calls Try.prog 23 #[.agg #[.int .i64 lo, .int .i64 hi]] w fun E w' => E = .returned (.bool r) ∧ Below w.heap.size w w' := by subst h_; exact iBd_any lo hi w
theorem sBd_is {lo hi : Int} {r : Bool} (w : World) (h_ : bdB lo hi = r) : Calls Try.prog 29 #[.agg #[.int .i64 lo, .int .i64 hi]] w fun E w' => E = .returned (.bool r) ∧ Below w.heap.size w w' := by subst h_; exact sBd_any lo hi w
end Go.Proofs.Ytbklgpghonigjaa
namespace Go.Proofs.Ytbklgpghonigjaa
open Go Go.ChangeShapes Go.WideShapes Go.ChangeAt Go.RowKit
set_option linter.unusedSimpArgs false
set_option linter.unusedVariables false
end Go.Proofs.Ytbklgpghonigjaa
