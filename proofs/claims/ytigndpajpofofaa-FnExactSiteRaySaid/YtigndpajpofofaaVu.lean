/- Contracts of chapter 5: tips and spots. -/
import Derived.Test.YtigndpajpofofaaVt
namespace Go.Proofs.Ytigndpajpofofaa
open Go Go.ChangeShapes Go.WideShapes Go.ChangeAt Go.RowKit
set_option linter.unusedSimpArgs false
set_option linter.unusedVariables false

def spB (e n d : Int) : Bool := decide (-1000000 ≤ e ∧ e ≤ 1000000 ∧ -1000000 ≤ n ∧ n ≤ 1000000 ∧ 1 ≤ d ∧ d ≤ 1000000)
theorem spB_iff {e n d : Int} : spB e n d = true ↔ -1000000 ≤ e ∧ e ≤ 1000000 ∧ -1000000 ≤ n ∧ n ≤ 1000000 ∧ 1 ≤ d ∧ d ≤ 1000000 := by unfold spB; simp
def ssB (e n d e' n' d' : Int) : Bool := spB e n d && (spB e' n' d' && (decide (e * d' = e' * d) && decide (n * d' = n' * d)))
theorem mulB {a b p q : Int} (h0 : -p ≤ a) (h1 : a ≤ p) (h2 : -q ≤ b) (h3 : b ≤ q) : -(p * q) ≤ a * b ∧ a * b ≤ p * q := by
  have e1 := Int.mul_nonneg (show 0 ≤ p - a by omega) (show 0 ≤ q + b by omega)
  have e2 := Int.mul_nonneg (show 0 ≤ p + a by omega) (show 0 ≤ q - b by omega)
  have e3 := Int.mul_nonneg (show 0 ≤ p - a by omega) (show 0 ≤ q - b by omega)
  have e4 := Int.mul_nonneg (show 0 ≤ p + a by omega) (show 0 ≤ q + b by omega)
  simp only [Int.sub_mul, Int.add_mul, Int.mul_add, Int.mul_sub] at e1 e2 e3 e4
  omega
def tipN (p r h u : Int) : Int := p * u - r * h
def tpB (e n h re rn ru : Int) : Bool := plB e n && (inV h 0 30 && ryB re rn ru)
end Go.Proofs.Ytigndpajpofofaa
