/- Contracts of chapter 2's small functions: ways, their products, their halves. -/
import Derived.Test.YtibpaojhjgpdaaaRows
import Derived.Test.YtibpaojhjgpdaaaHelp
import Derived.Test.YtibpaojhjgpdaaaWay
namespace Go.Proofs.Ytibpaojhjgpdaaa
open Go.ChangeShapes Go.WideShapes Go.ChangeAt Go.RowKit
set_option linter.unusedSimpArgs false
set_option linter.unusedVariables false

def inW (n a b : Int) : Bool := decide (a ≤ n ∧ n ≤ b)
theorem l1InW_any (n a b : Int) (w : World) :
    Calls Try.prog 56 #[.int .i64 n, .int .i64 a, .int .i64 b] w fun e w' => e = .returned (.bool (inW n a b)) ∧ w = w' := by
  go_enter Try.func56, Try.ntmps56
  go_wp2
  all_goals go_ret
  all_goals exact ⟨ret_bool (by rw [Bool.eq_iff_iff]; simp [inW]; omega), rfl⟩
theorem cv_any (n : Int) (w : World) :
    Calls Try.prog 85 #[.int .i64 n] w fun e w' => e = .returned (.bool (inW n (-1000) 1000)) ∧ w = w' := by
  go_enter Try.func85, Try.ntmps85
  go_wp2
  all_goals go_ret
  all_goals exact ⟨ret_bool (by rw [Bool.eq_iff_iff]; simp [inW]; omega), rfl⟩
theorem iWV_any (a b : Int) (w : World) :
    Calls Try.prog 75 #[.agg #[.int .i64 a, .int .i64 b]] w fun e w' => e = .returned (.bool (wvB a b)) ∧ Below w.heap.size w w' := by
  go_enter Try.func75, Try.ntmps75
  go_wp2_with (go_at_call 85; refine (cv_any _ _).mono ?_; rintro e w' ⟨rfl, rfl⟩)
  all_goals go_ret
  all_goals exact ⟨ret_bool (by simp_all [wvB, inW]; try omega), bel1 _ _⟩
theorem sWV_any (a b : Int) (w : World) :
    Calls Try.prog 47 #[.agg #[.int .i64 a, .int .i64 b]] w fun e w' => e = .returned (.bool (wvB a b)) ∧ Below w.heap.size w w' := by
  go_enter Try.func47, Try.ntmps47
  go_wp2_with (go_at_call 56; refine (l1InW_any _ _ _ _).mono ?_; rintro e w' ⟨rfl, rfl⟩)
  all_goals go_ret
  all_goals exact ⟨ret_bool (by simp_all [wvB, inW]; try omega), bel1 _ _⟩
theorem toWay_any (a b : Int) (w : World) :
    Calls Try.prog 53 #[.agg #[.int .i64 a, .int .i64 b]] w fun e w' => e = .returned (.agg #[.int .i64 a, .int .i64 b]) ∧ Below w.heap.size w w' := by
  go_enter Try.func53, Try.ntmps53
  go_wp2
  refine bodyPost_ret (v := .agg #[.int .i64 a, .int .i64 b]) (by simp [results, Try.results53, go_sem]) rfl ⟨rfl, ((bel1 _ _).alloc (by simp) _).alloc (by simp; omega) _⟩
theorem eqWay_any (a b c d : Int) (w : World) :
    Calls Try.prog 54 #[.agg #[.int .i64 a, .int .i64 b], .agg #[.int .i64 c, .int .i64 d]] w fun e w' => e = .returned (.bool (decide (a = c ∧ b = d))) ∧ Below w.heap.size w w' := by
  go_enter Try.func54, Try.ntmps54
  go_wp2
  all_goals go_ret
  all_goals exact ⟨ret_bool (by simp_all), ((bel1 _ _).alloc (by simp) _)⟩
/-- The sums and products, as the machine has them. -/
def w64 (x : Int) : Int := wrap64 x
def addW (a c : Int) : Int := w64 (a + c)
def dotW (a b c d : Int) : Int := w64 (w64 (a * c) + w64 (b * d))
def crossW (a b c d : Int) : Int := w64 (w64 (a * d) - w64 (b * c))
theorem w64_in {x : Int} (h0 : -9223372036854775808 ≤ x) (h1 : x ≤ 9223372036854775807) : w64 x = x := IntWalk.wrap64_in _ (by omega)
theorem iCro_any (a b c d : Int) (w : World) : Calls Try.prog 77 #[.agg #[.int .i64 a, .int .i64 b], .agg #[.int .i64 c, .int .i64 d]] w fun e w' => e = .returned (.int .i64 (crossW a b c d)) ∧ Below w.heap.size w w' := by go_enter Try.func77, Try.ntmps77; go_wp2; go_ret; exact ⟨ret_int rfl, (bel1 _ _).alloc (by simp) _⟩
theorem sCro_any (a b c d : Int) (w : World) : Calls Try.prog 73 #[.agg #[.int .i64 a, .int .i64 b], .agg #[.int .i64 c, .int .i64 d]] w fun e w' => e = .returned (.int .i64 (crossW a b c d)) ∧ Below w.heap.size w w' := by go_enter Try.func73, Try.ntmps73; go_wp2; go_ret; exact ⟨ret_int rfl, (bel1 _ _).alloc (by simp) _⟩
theorem iHalf_any (a b : Int) (w : World) : Calls Try.prog 76 #[.agg #[.int .i64 a, .int .i64 b]] w fun e w' => e = .returned (.int .i64 (halfI a b)) ∧ Below w.heap.size w w' := by
  go_enter Try.func76, Try.ntmps76
  go_wp2
  all_goals go_ret
  all_goals exact ⟨ret_int (by unfold halfI; simp_all; try omega), bel1 _ _⟩
theorem sHalf_any (a b : Int) (w : World) : Calls Try.prog 48 #[.agg #[.int .i64 a, .int .i64 b]] w fun e w' => e = .returned (.int .i64 (halfI a b)) ∧ Below w.heap.size w w' := by
  go_enter Try.func48, Try.ntmps48
  go_wp2
  all_goals go_ret
  all_goals exact ⟨ret_int (by unfold halfI; simp_all; try omega), bel1 _ _⟩
end Go.Proofs.Ytibpaojhjgpdaaa
