/- Contracts of chapter 3: counts of hour angles, setting. -/
import Derived.Test.YtigndpajpofofaaSu
namespace Go.Proofs.Ytigndpajpofofaa
open Go.ChangeShapes Go.WideShapes Go.ChangeAt Go.RowKit
set_option linter.unusedSimpArgs false
set_option linter.unusedVariables false

theorem ret_v {a b : Int} (h : b = a) : Value.int .i64 a = .int .i64 b := by rw [h]
def cmpI (x y : Int) : Int := if x < y then -1 else if y < x then 1 else 0
theorem cmp_pos {x : Int} : cmpI x 0 = 1 ↔ 0 < x := by unfold cmpI; split <;> (try split) <;> omega
theorem cmp_neg {x : Int} : cmpI x 0 = -1 ↔ x < 0 := by unfold cmpI; split <;> (try split) <;> omega
theorem cmp_nil {x : Int} : cmpI x 0 = 0 ↔ x = 0 := by unfold cmpI; split <;> (try split) <;> omega
theorem cnt_yes {p : Int → Bool} {a : Int} {k : Nat} (h : p (a + k) = true) : cnt p a (k + 1) = cnt p a k + 1 := by simp only [cnt]; unfold hit; rw [if_pos h]
theorem cnt_no {p : Int → Bool} {a : Int} {k : Nat} (h : p (a + k) = false) : cnt p a (k + 1) = cnt p a k := by simp only [cnt]; unfold hit; rw [h]; simp
end Go.Proofs.Ytigndpajpofofaa
