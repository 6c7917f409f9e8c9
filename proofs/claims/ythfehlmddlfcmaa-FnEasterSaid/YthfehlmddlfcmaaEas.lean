/- Easter, year by year: reckoned by the kernel. -/
import Derived.Test.YthfehlmddlfcmaaCi
namespace Go.Proofs.Ythfehlmddlfcmaa
def easN (y : Int) : Int := num y (eMo y) (eDa y)
def easOk (y : Int) : Bool :=
  valB y (eMo y) (eDa y) && decide (easN y % 7 = 6) && decide (num y 3 22 ≤ easN y) && decide (easN y ≤ num y 4 25) && (decide (y = 4000) || (decide (350 ≤ easN (y + 1) - easN y) && decide (easN (y + 1) - easN y ≤ 391)))
theorem eas_all : ((List.range 4000).all fun n => easOk ((n : Int) + 1)) = true := by decide +kernel
theorem eas_ok (y : Int) (h1 : 1 ≤ y) (h2 : y ≤ 4000) : easOk y = true := by
  have h := List.all_eq_true.1 eas_all (y - 1).toNat (by rw [List.mem_range]; omega)
  rwa [show (((y - 1).toNat : Int) + 1) = y by omega] at h
theorem eas_facts (y : Int) (h1 : 1 ≤ y) (h2 : y ≤ 4000) : valB y (eMo y) (eDa y) = true ∧ easN y % 7 = 6 ∧ num y 3 22 ≤ easN y ∧ easN y ≤ num y 4 25 ∧ (y < 4000 → 350 ≤ easN (y + 1) - easN y ∧ easN (y + 1) - easN y ≤ 391) := by
  have h := eas_ok y h1 h2
  simp only [easOk, Bool.and_eq_true, Bool.or_eq_true, decide_eq_true_eq] at h
  obtain ⟨⟨⟨⟨a, b⟩, c⟩, d⟩, e⟩ := h
  exact ⟨a, b, c, d, fun hy => by rcases e with e | e <;> omega⟩
end Go.Proofs.Ythfehlmddlfcmaa
