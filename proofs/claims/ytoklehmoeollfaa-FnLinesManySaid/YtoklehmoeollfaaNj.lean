/- What the laws of lines say: plain mathematics. -/
import Derived.Test.YtoklehmoeollfaaNb
namespace Go.Proofs.Ytoklehmoeollfaa
set_option linter.unusedVariables false
set_option linter.unusedSimpArgs false

/-- The friends of the first k of n plants, all of which may stand side by side. -/
def faP (n k : Nat) : List Int := (List.range k).map (fun j => alI n - 2 ^ j)
theorem faP_len (n k : Nat) : (faP n k).length = k := by simp [faP]
theorem faP_snoc (n k : Nat) : faP n (k + 1) = faP n k ++ [alI n - 2 ^ k] := by simp [faP, List.range_succ]
theorem faP_all (n : Nat) : faP n n = falI n := rfl
theorem fac_bd {k : Nat} (h : k ≤ 6) : 1 ≤ facI k ∧ facI k ≤ 720 := by
  have : k = 0 ∨ k = 1 ∨ k = 2 ∨ k = 3 ∨ k = 4 ∨ k = 5 ∨ k = 6 := by omega
  rcases this with rfl | rfl | rfl | rfl | rfl | rfl | rfl <;> decide
end Go.Proofs.Ytoklehmoeollfaa
