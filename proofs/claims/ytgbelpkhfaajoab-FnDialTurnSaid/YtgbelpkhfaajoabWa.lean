/- Contracts of chapter 2's small functions: ways, their products, their halves. -/
import Derived.Test.YtgbelpkhfaajoabRows
import Derived.Test.YtgbelpkhfaajoabHelp
import Derived.Test.YtgbelpkhfaajoabWay
namespace Go.Proofs.Ytgbelpkhfaajoab
open Go.ChangeShapes Go.WideShapes Go.ChangeAt Go.RowKit
set_option linter.unusedSimpArgs false
set_option linter.unusedVariables false

def inW (n a b : Int) : Bool := decide (a ≤ n ∧ n ≤ b)
theorem l1InW_any (n a b : Int) (w : World) :
    Calls Try.prog 44 #[.int .i64 n, .int .i64 a, .int .i64 b] w fun e w' => e = .returned (.bool (inW n a b)) ∧ w = w' := by
  go_enter Try.func44, Try.ntmps44
  go_wp2
  all_goals go_ret
  all_goals exact ⟨ret_bool (by rw [Bool.eq_iff_iff]; simp [inW]; omega), rfl⟩
theorem cv_any (n : Int) (w : World) :
    Calls Try.prog 64 #[.int .i64 n] w fun e w' => e = .returned (.bool (inW n (-1000) 1000)) ∧ w = w' := by
  go_enter Try.func64, Try.ntmps64
  go_wp2
  all_goals go_ret
  all_goals exact ⟨ret_bool (by rw [Bool.eq_iff_iff]; simp [inW]; omega), rfl⟩
theorem iWV_any (a b : Int) (w : World) :
    Calls Try.prog 33 #[.agg #[.int .i64 a, .int .i64 b]] w fun e w' => e = .returned (.bool (wvB a b)) ∧ Below w.heap.size w w' := by
  go_enter Try.func33, Try.ntmps33
  go_wp2_with (go_at_call 64; refine (cv_any _ _).mono ?_; rintro e w' ⟨rfl, rfl⟩)
  all_goals go_ret
  all_goals exact ⟨ret_bool (by simp_all [wvB, inW]; try omega), bel1 _ _⟩
theorem sWV_any (a b : Int) (w : World) :
    Calls Try.prog 60 #[.agg #[.int .i64 a, .int .i64 b]] w fun e w' => e = .returned (.bool (wvB a b)) ∧ Below w.heap.size w w' := by
  go_enter Try.func60, Try.ntmps60
  go_wp2_with (go_at_call 44; refine (l1InW_any _ _ _ _).mono ?_; rintro e w' ⟨rfl, rfl⟩)
  all_goals go_ret
  all_goals exact ⟨ret_bool (by simp_all [wvB, inW]; try omega), bel1 _ _⟩
/-- The sums and products, as the machine has them. -/
def w64 (x : Int) : Int := wrap64 x
def addW (a c : Int) : Int := w64 (a + c)
def dotW (a b c d : Int) : Int := w64 (w64 (a * c) + w64 (b * d))
def crossW (a b c d : Int) : Int := w64 (w64 (a * d) - w64 (b * c))
theorem w64_in {x : Int} (h0 : -9223372036854775808 ≤ x) (h1 : x ≤ 9223372036854775807) : w64 x = x := IntWalk.wrap64_in _ (by omega)
theorem iDot_any (a b c d : Int) (w : World) : Calls Try.prog 26 #[.agg #[.int .i64 a, .int .i64 b], .agg #[.int .i64 c, .int .i64 d]] w fun e w' => e = .returned (.int .i64 (dotW a b c d)) ∧ Below w.heap.size w w' := by go_enter Try.func26, Try.ntmps26; go_wp2; go_ret; exact ⟨ret_int rfl, (bel1 _ _).alloc (by simp) _⟩
theorem iCro_any (a b c d : Int) (w : World) : Calls Try.prog 18 #[.agg #[.int .i64 a, .int .i64 b], .agg #[.int .i64 c, .int .i64 d]] w fun e w' => e = .returned (.int .i64 (crossW a b c d)) ∧ Below w.heap.size w w' := by go_enter Try.func18, Try.ntmps18; go_wp2; go_ret; exact ⟨ret_int rfl, (bel1 _ _).alloc (by simp) _⟩
theorem sDot_any (a b c d : Int) (w : World) : Calls Try.prog 70 #[.agg #[.int .i64 a, .int .i64 b], .agg #[.int .i64 c, .int .i64 d]] w fun e w' => e = .returned (.int .i64 (dotW a b c d)) ∧ Below w.heap.size w w' := by go_enter Try.func70, Try.ntmps70; go_wp2; go_ret; exact ⟨ret_int rfl, (bel1 _ _).alloc (by simp) _⟩
theorem sCro_any (a b c d : Int) (w : World) : Calls Try.prog 63 #[.agg #[.int .i64 a, .int .i64 b], .agg #[.int .i64 c, .int .i64 d]] w fun e w' => e = .returned (.int .i64 (crossW a b c d)) ∧ Below w.heap.size w w' := by go_enter Try.func63, Try.ntmps63; go_wp2; go_ret; exact ⟨ret_int rfl, (bel1 _ _).alloc (by simp) _⟩
theorem iHalf_any (a b : Int) (w : World) : Calls Try.prog 34 #[.agg #[.int .i64 a, .int .i64 b]] w fun e w' => e = .returned (.int .i64 (halfI a b)) ∧ Below w.heap.size w w' := by
  go_enter Try.func34, Try.ntmps34
  go_wp2
  all_goals go_ret
  all_goals exact ⟨ret_int (by unfold halfI; simp_all; try omega), bel1 _ _⟩
theorem sHalf_any (a b : Int) (w : World) : Calls Try.prog 61 #[.agg #[.int .i64 a, .int .i64 b]] w fun e w' => e = .returned (.int .i64 (halfI a b)) ∧ Below w.heap.size w w' := by
  go_enter Try.func61, Try.ntmps61
  go_wp2
  all_goals go_ret
  all_goals exact ⟨ret_int (by unfold halfI; simp_all; try omega), bel1 _ _⟩
end Go.Proofs.Ytgbelpkhfaajoab
