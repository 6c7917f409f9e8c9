/- QE: texts joined. -/
import Derived.Test.YtbklgpghonigjaaMQD
import Derived.Test.YtbklgpghonigjaaMQA
import Derived.Test.YtbklgpghonigjaaRows
import Derived.Test.YtbklgpghonigjaaMQC
namespace Go.Proofs.Ytbklgpghonigjaa
set_option linter.unusedVariables false
set_option linter.unusedSimpArgs false
def fcB (e n u : Int) : Bool := decide (-10 ≤ e ∧ e ≤ 10 ∧ -10 ≤ n ∧ n ≤ 10 ∧ 0 ≤ u ∧ u ≤ 10 ∧ ¬(e = 0 ∧ n = 0 ∧ u = 0))
end Go.Proofs.Ytbklgpghonigjaa
namespace Go.Proofs.Ytbklgpghonigjaa
open Go Go.ChangeShapes Go.WideShapes Go.ChangeAt Go.RowKit
set_option linter.unusedSimpArgs false
set_option linter.unusedVariables false
theorem iIn7 (n a b : Int) (w : World) : Calls Try.prog 43 #[.int .i64 n, .int .i64 a, .int .i64 b] w fun E w' => E = .returned (.bool (inV n a b)) ∧ w = w' := by
  go_enter Try.func43, Try.ntmps43
  go_wp2
  all_goals go_ret
  all_goals exact ⟨ret_bool (by rw [Bool.eq_iff_iff]; simp [inV]; omega), rfl⟩
theorem iIn7_is {n a b : Int} {r : Bool} (w : World) (h_ : inV n a b = r) : Calls Try.prog 43 #[.int .i64 n, .int .i64 a, .int .i64 b] w fun E w' => E = .returned (.bool r) ∧ w = w' := by subst h_; exact iIn7 n a b w
theorem sIn7 (n a b : Int) (w : World) : Calls Try.prog 25 #[.int .i64 n, .int .i64 a, .int .i64 b] w fun E w' => E = .returned (.bool (inV n a b)) ∧ w = w' := by
  go_enter Try.func25, Try.ntmps25
  go_wp2
  all_goals go_ret
  all_goals exact ⟨ret_bool (by rw [Bool.eq_iff_iff]; simp [inV]; omega), rfl⟩
theorem sIn7_is {n a b : Int} {r : Bool} (w : World) (h_ : inV n a b = r) : Calls Try.prog 25 #[.int .i64 n, .int .i64 a, .int .i64 b] w fun E w' => E = .returned (.bool r) ∧ w = w' := by subst h_; exact sIn7 n a b w
end Go.Proofs.Ytbklgpghonigjaa
namespace Go.Proofs.Ytbklgpghonigjaa
open Go Go.ChangeShapes Go.WideShapes Go.ChangeAt Go.RowKit
set_option linter.unusedSimpArgs false
set_option linter.unusedVariables false
set_option maxHeartbeats 4000000 in
theorem iFC_any (e n u : Int) (w : World) :
    Calls Try.prog 52 #[.agg #[.int .i64 e, .int .i64 n, .int .i64 u]] w fun E w' => E = .returned (.bool (fcB e n u)) ∧ Below w.heap.size w w' := by
  by_cases hz : e = 0 ∧ n = 0 ∧ u = 0
  · obtain ⟨rfl, rfl, rfl⟩ := hz
    go_enter Try.func52, Try.ntmps52
    go_wp2_with (go_at_call 43; refine (iIn7 _ _ _ _).mono ?_; rintro E w' ⟨rfl, rfl⟩)
    all_goals go_ret
    all_goals exact ⟨ret_bool (by simp_all [fcB, inV]), bel1 _ _⟩
  · have HZ := Lib.hid hz
    clear hz
    go_enter Try.func52, Try.ntmps52
    go_wp2_with (go_at_call 43; refine (iIn7 _ _ _ _).mono ?_; rintro E w' ⟨rfl, rfl⟩)
    all_goals go_ret
    all_goals have hz := HZ.out
    all_goals exact ⟨ret_bool (by first | (simp_all [fcB, inV]; done) | (rw [Bool.eq_iff_iff]; simp_all [fcB, inV]; omega)), bel1 _ _⟩
theorem iFC_is {e n u : Int} {r : Bool} (w : World) (h_ : fcB e n u = r) : Calls Try.prog 52 #[.agg #[.int .i64 e, .int .i64 n, .int .i64 u]] w fun E w' => E = .returned (.bool r) ∧ Below w.heap.size w w' := by subst h_; exact iFC_any e n u w
set_option maxHeartbeats 4000000 in
theorem sFC_any (e n u : Int) (w : World) :
    Calls Try.prog 28 #[.agg #[.int .i64 e, .int .i64 n, .int .i64 u]] w fun E w' => E = .returned (.bool (fcB e n u)) ∧ Below w.heap.size w w' := by
  by_cases hz : e = 0 ∧ n = 0 ∧ u = 0
  · obtain ⟨rfl, rfl, rfl⟩ := hz
    go_enter Try.func28, Try.ntmps28
    go_wp2_with (go_at_call 25; refine (sIn7 _ _ _ _).mono ?_; rintro E w' ⟨rfl, rfl⟩)
    all_goals go_ret
    all_goals exact ⟨ret_bool (by simp_all [fcB, inV]), bel1 _ _⟩
  · have HZ := Lib.hid hz
    clear hz
    go_enter Try.func28, Try.ntmps28
    go_wp2_with (go_at_call 25; refine (sIn7 _ _ _ _).mono ?_; rintro E w' ⟨rfl, rfl⟩)
    all_goals go_ret
    all_goals have hz := HZ.out
    all_goals exact ⟨ret_bool (by first | (simp_all [fcB, inV]; done) | (rw [Bool.eq_iff_iff]; simp_all [fcB, inV]; omega)), bel1 _ _⟩
theorem sFC_is {e n u : Int} {r : Bool} (w : World) (h_ : fcB e n u = r) : Calls Try.prog 28 #[.agg #[.int .i64 e, .int .i64 n, .int .i64 u]] w fun E w' => E = .returned (.bool r) ∧ Below w.heap.size w w' := by subst h_; exact sFC_any e n u w
end Go.Proofs.Ytbklgpghonigjaa
namespace Go.Proofs.Ytbklgpghonigjaa
set_option linter.unusedVariables false
set_option linter.unusedSimpArgs false
end Go.Proofs.Ytbklgpghonigjaa
