/- What the laws of friends say: plain mathematics of chapter 9. -/
import Derived.Test.YtoeblgfaemhbjaaQs
namespace Go.Proofs.Ytoeblgfaemhbjaa
set_option linter.unusedVariables false
set_option linter.unusedSimpArgs false

theorem isB_zero (j : Nat) : isB 0 j = false := by unfold isB; simp
theorem fr_zero {n : Nat} (h : n ≤ 6) : frB (List.replicate n 0) = true := by
  refine frB_good (by simpa using h) (fun a ha => ?_)
  have hg : ∀ b : Nat, (List.replicate n (0 : Int)).getD b 0 = 0 := fun b => by
    rw [List.getD_eq_getElem?_getD, List.getElem?_replicate]; split <;> rfl
  unfold FrAt
  rw [hg a, List.length_replicate]
  refine ⟨by omega, (alI_bd h).1, isB_zero a, fun b _ => by rw [hg b, isB_zero, isB_zero]⟩
theorem fr_one : frB [1] = false := by decide +kernel
end Go.Proofs.Ytoeblgfaemhbjaa
