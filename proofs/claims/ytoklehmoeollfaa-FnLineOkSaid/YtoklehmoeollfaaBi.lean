/- Rows cut off, for elements of one cell. -/
import Derived.Test.YtoklehmoeollfaaGBool
import Derived.Test.YtoklehmoeollfaaGNum
namespace Go.Proofs.Ytoklehmoeollfaa
open Go Go.ChangeShapes Go.WideShapes Go.ChangeAt Go.RowKit Go.Deep
set_option linter.unusedSimpArgs false
set_option linter.unusedVariables false

theorem SRow.cutB {α : Type} {E : Enc α} {w : World} {A : Option Addr} {xs : List α} (h : SRow E w A xs) (k : Nat) : SRow E w A (xs.take k) := by
  rcases h with h | ⟨b, off, e, hc⟩
  · left; rw [h]; simp
  · refine .inr ⟨b, off, e, fun i hi j v hv => ?_⟩
    have hi2 : i < xs.length := by rw [List.length_take] at hi; omega
    rw [List.getElem_take] at hv
    exact hc i hi2 j v hv
theorem SRow.dropB {α : Type} {E : Enc α} {w : World} {b off : Nat} {xs : List α} (h : SRow E w (some ⟨b, off, none⟩) xs) (k : Nat) : SRow E w (some ⟨b, off + k * E.k, none⟩) (xs.drop k) := by
  rcases h with h | ⟨b', off', e, hc⟩
  · left; rw [h]; simp
  · simp only [Option.some.injEq, Addr.mk.injEq, and_true] at e
    obtain ⟨rfl, rfl⟩ := e
    refine .inr ⟨b, off + k * E.k, rfl, fun i hi j v hv => ?_⟩
    have hi2 : k + i < xs.length := by rw [List.length_drop] at hi; omega
    rw [List.getElem_drop] at hv
    have := hc (k + i) hi2 j v hv
    rw [show off + k * E.k + (i * E.k + j) = off + ((k + i) * E.k + j) by rw [Nat.add_mul]; omega]
    exact this
theorem SRow.dropN {w : World} {b : Nat} {xs : List Int} (h : SRow encNum w (some ⟨b, 0, none⟩) xs) (k : Nat) : SRow encNum w (some ⟨b, k, none⟩) (xs.drop k) := by
  have := h.dropB k; simpa [encNum] using this
theorem SRow.dropL {w : World} {b : Nat} {xs : List Bool} (h : SRow encBool w (some ⟨b, 0, none⟩) xs) (k : Nat) : SRow encBool w (some ⟨b, k, none⟩) (xs.drop k) := by
  have := h.dropB k; simpa [encBool] using this
end Go.Proofs.Ytoklehmoeollfaa
