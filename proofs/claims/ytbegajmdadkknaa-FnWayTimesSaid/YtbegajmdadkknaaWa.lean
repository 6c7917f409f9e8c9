/- Contracts of chapter 2's small functions: ways, their products, their halves. -/
import Derived.Test.YtbegajmdadkknaaRows
import Derived.Test.YtbegajmdadkknaaHelp
import Derived.Test.YtbegajmdadkknaaWay
namespace Go.Proofs.Ytbegajmdadkknaa
open Go.ChangeShapes Go.WideShapes Go.ChangeAt Go.RowKit
set_option linter.unusedSimpArgs false
set_option linter.unusedVariables false

def inW (n a b : Int) : Bool := decide (a ≤ n ∧ n ≤ b)
theorem l1InW_any (n a b : Int) (w : World) :
    Calls Try.prog 43 #[.int .i64 n, .int .i64 a, .int .i64 b] w fun e w' => e = .returned (.bool (inW n a b)) ∧ w = w' := by
  go_enter Try.func43, Try.ntmps43
  go_wp2
  all_goals go_ret
  all_goals exact ⟨ret_bool (by rw [Bool.eq_iff_iff]; simp [inW]; omega), rfl⟩
theorem cv_any (n : Int) (w : World) :
    Calls Try.prog 42 #[.int .i64 n] w fun e w' => e = .returned (.bool (inW n (-1000) 1000)) ∧ w = w' := by
  go_enter Try.func42, Try.ntmps42
  go_wp2
  all_goals go_ret
  all_goals exact ⟨ret_bool (by rw [Bool.eq_iff_iff]; simp [inW]; omega), rfl⟩
theorem iWV_any (a b : Int) (w : World) :
    Calls Try.prog 13 #[.agg #[.int .i64 a, .int .i64 b]] w fun e w' => e = .returned (.bool (wvB a b)) ∧ Below w.heap.size w w' := by
  go_enter Try.func13, Try.ntmps13
  go_wp2_with (go_at_call 42; refine (cv_any _ _).mono ?_; rintro e w' ⟨rfl, rfl⟩)
  all_goals go_ret
  all_goals exact ⟨ret_bool (by simp_all [wvB, inW]; try omega), bel1 _ _⟩
theorem sWV_any (a b : Int) (w : World) :
    Calls Try.prog 14 #[.agg #[.int .i64 a, .int .i64 b]] w fun e w' => e = .returned (.bool (wvB a b)) ∧ Below w.heap.size w w' := by
  go_enter Try.func14, Try.ntmps14
  go_wp2_with (go_at_call 43; refine (l1InW_any _ _ _ _).mono ?_; rintro e w' ⟨rfl, rfl⟩)
  all_goals go_ret
  all_goals exact ⟨ret_bool (by simp_all [wvB, inW]; try omega), bel1 _ _⟩
/-- The sums and products, as the machine has them. -/
def w64 (x : Int) : Int := wrap64 x
def addW (a c : Int) : Int := w64 (a + c)
def dotW (a b c d : Int) : Int := w64 (w64 (a * c) + w64 (b * d))
def crossW (a b c d : Int) : Int := w64 (w64 (a * d) - w64 (b * c))
theorem w64_in {x : Int} (h0 : -9223372036854775808 ≤ x) (h1 : x ≤ 9223372036854775807) : w64 x = x := IntWalk.wrap64_in _ (by omega)
theorem iDot_any (a b c d : Int) (w : World) : Calls Try.prog 28 #[.agg #[.int .i64 a, .int .i64 b], .agg #[.int .i64 c, .int .i64 d]] w fun e w' => e = .returned (.int .i64 (dotW a b c d)) ∧ Below w.heap.size w w' := by go_enter Try.func28, Try.ntmps28; go_wp2; go_ret; exact ⟨ret_int rfl, (bel1 _ _).alloc (by simp) _⟩
theorem iCro_any (a b c d : Int) (w : World) : Calls Try.prog 30 #[.agg #[.int .i64 a, .int .i64 b], .agg #[.int .i64 c, .int .i64 d]] w fun e w' => e = .returned (.int .i64 (crossW a b c d)) ∧ Below w.heap.size w w' := by go_enter Try.func30, Try.ntmps30; go_wp2; go_ret; exact ⟨ret_int rfl, (bel1 _ _).alloc (by simp) _⟩
theorem iWA_any (a b c d : Int) (w : World) : Calls Try.prog 17 #[.agg #[.int .i64 a, .int .i64 b], .agg #[.int .i64 c, .int .i64 d]] w fun e w' => e = .returned (.agg #[.int .i64 (addW a c), .int .i64 (addW b d)]) ∧ Below w.heap.size w w' := by go_enter Try.func17, Try.ntmps17; go_wp2; refine bodyPost_ret (v := .agg #[.int .i64 (addW a c), .int .i64 (addW b d)]) (by simp [results, Try.results17, go_sem]; try exact ⟨rfl, rfl⟩) rfl ⟨rfl, ?_⟩; exact ((bel1 _ _).alloc (by simp) _).alloc (by simp; omega) _
theorem iWT_any (a b c d : Int) (w : World) : Calls Try.prog 20 #[.agg #[.int .i64 a, .int .i64 b], .agg #[.int .i64 c, .int .i64 d]] w fun e w' => e = .returned (.agg #[.int .i64 (w64 (w64 (a * c) - w64 (b * d))), .int .i64 (w64 (w64 (a * d) + w64 (b * c)))]) ∧ Below w.heap.size w w' := by go_enter Try.func20, Try.ntmps20; go_wp2; refine bodyPost_ret (v := .agg #[.int .i64 (w64 (w64 (a * c) - w64 (b * d))), .int .i64 (w64 (w64 (a * d) + w64 (b * c)))]) (by simp [results, Try.results20, go_sem]; try exact ⟨rfl, rfl⟩) rfl ⟨rfl, ?_⟩; exact ((bel1 _ _).alloc (by simp) _).alloc (by simp; omega) _
theorem iWF_any (a b : Int) (w : World) : Calls Try.prog 24 #[.agg #[.int .i64 a, .int .i64 b]] w fun e w' => e = .returned (.agg #[.int .i64 a, .int .i64 (w64 (-b))]) ∧ Below w.heap.size w w' := by go_enter Try.func24, Try.ntmps24; go_wp2; refine bodyPost_ret (v := .agg #[.int .i64 a, .int .i64 (w64 (-b))]) (by simp [results, Try.results24, go_sem]; try rfl) rfl ⟨rfl, ?_⟩; exact (bel1 _ _).alloc (by simp) _
theorem sDot_any (a b c d : Int) (w : World) : Calls Try.prog 31 #[.agg #[.int .i64 a, .int .i64 b], .agg #[.int .i64 c, .int .i64 d]] w fun e w' => e = .returned (.int .i64 (dotW a b c d)) ∧ Below w.heap.size w w' := by go_enter Try.func31, Try.ntmps31; go_wp2; go_ret; exact ⟨ret_int rfl, (bel1 _ _).alloc (by simp) _⟩
theorem sCro_any (a b c d : Int) (w : World) : Calls Try.prog 33 #[.agg #[.int .i64 a, .int .i64 b], .agg #[.int .i64 c, .int .i64 d]] w fun e w' => e = .returned (.int .i64 (crossW a b c d)) ∧ Below w.heap.size w w' := by go_enter Try.func33, Try.ntmps33; go_wp2; go_ret; exact ⟨ret_int rfl, (bel1 _ _).alloc (by simp) _⟩
theorem sWA_any (a b c d : Int) (w : World) : Calls Try.prog 18 #[.agg #[.int .i64 a, .int .i64 b], .agg #[.int .i64 c, .int .i64 d]] w fun e w' => e = .returned (.agg #[.int .i64 (addW a c), .int .i64 (addW b d)]) ∧ Below w.heap.size w w' := by go_enter Try.func18, Try.ntmps18; go_wp2; refine bodyPost_ret (v := .agg #[.int .i64 (addW a c), .int .i64 (addW b d)]) (by simp [results, Try.results18, go_sem]; try exact ⟨rfl, rfl⟩) rfl ⟨rfl, ?_⟩; exact ((bel1 _ _).alloc (by simp) _).alloc (by simp; omega) _
theorem sWT_any (a b c d : Int) (w : World) : Calls Try.prog 21 #[.agg #[.int .i64 a, .int .i64 b], .agg #[.int .i64 c, .int .i64 d]] w fun e w' => e = .returned (.agg #[.int .i64 (w64 (w64 (a * c) - w64 (b * d))), .int .i64 (w64 (w64 (a * d) + w64 (b * c)))]) ∧ Below w.heap.size w w' := by go_enter Try.func21, Try.ntmps21; go_wp2; refine bodyPost_ret (v := .agg #[.int .i64 (w64 (w64 (a * c) - w64 (b * d))), .int .i64 (w64 (w64 (a * d) + w64 (b * c)))]) (by simp [results, Try.results21, go_sem]; try exact ⟨rfl, rfl⟩) rfl ⟨rfl, ?_⟩; exact ((bel1 _ _).alloc (by simp) _).alloc (by simp; omega) _
theorem sWF_any (a b : Int) (w : World) : Calls Try.prog 25 #[.agg #[.int .i64 a, .int .i64 b]] w fun e w' => e = .returned (.agg #[.int .i64 a, .int .i64 (w64 (-b))]) ∧ Below w.heap.size w w' := by go_enter Try.func25, Try.ntmps25; go_wp2; refine bodyPost_ret (v := .agg #[.int .i64 a, .int .i64 (w64 (-b))]) (by simp [results, Try.results25, go_sem]; try rfl) rfl ⟨rfl, ?_⟩; exact (bel1 _ _).alloc (by simp) _
theorem sWS_any (a b : Int) (w : World) : Calls Try.prog 27 #[.agg #[.int .i64 a, .int .i64 b]] w fun e w' => e = .returned (.int .i64 (dotW a b a b)) ∧ Below w.heap.size w w' := by go_enter Try.func27, Try.ntmps27; go_wp2; go_ret; exact ⟨ret_int rfl, bel1 _ _⟩
theorem iWS_any (a b : Int) (w : World) : Calls Try.prog 22 #[.agg #[.int .i64 a, .int .i64 b]] w fun e w' => e = .returned (.int .i64 (dotW a b a b)) ∧ Below w.heap.size w w' := by
  go_enter Try.func22, Try.ntmps22
  go_wp2_with (go_at_call 28; refine (iDot_any _ _ _ _ _).mono ?_; rintro e w1 ⟨rfl, hw⟩)
  go_ret
  exact ⟨rfl, (ownb hw).2⟩
theorem iHalf_any (a b : Int) (w : World) : Calls Try.prog 38 #[.agg #[.int .i64 a, .int .i64 b]] w fun e w' => e = .returned (.int .i64 (halfI a b)) ∧ Below w.heap.size w w' := by
  go_enter Try.func38, Try.ntmps38
  go_wp2
  all_goals go_ret
  all_goals exact ⟨ret_int (by unfold halfI; simp_all; try omega), bel1 _ _⟩
theorem sHalf_any (a b : Int) (w : World) : Calls Try.prog 39 #[.agg #[.int .i64 a, .int .i64 b]] w fun e w' => e = .returned (.int .i64 (halfI a b)) ∧ Below w.heap.size w w' := by
  go_enter Try.func39, Try.ntmps39
  go_wp2
  all_goals go_ret
  all_goals exact ⟨ret_int (by unfold halfI; simp_all; try omega), bel1 _ _⟩
end Go.Proofs.Ytbegajmdadkknaa
