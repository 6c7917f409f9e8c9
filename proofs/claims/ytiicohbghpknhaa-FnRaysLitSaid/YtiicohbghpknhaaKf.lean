/- Comparisons in the laws of chapter 6; rows cut off. -/
import Derived.Test.YtiicohbghpknhaaGEdge
import Derived.Test.YtiicohbghpknhaaGNum
namespace Go.Proofs.Ytiicohbghpknhaa
open Go Go.ChangeShapes Go.WideShapes Go.ChangeAt Go.RowKit Go.Deep
set_option linter.unusedSimpArgs false
set_option linter.unusedVariables false
set_option linter.unnecessarySimpa false

theorem SRow.cutTo {α : Type} {E : Enc α} {w : World} {A : Option Addr} {xs : List α} (h : SRow E w A xs) (k : Nat) : SRow E w A (xs.take k) := by
  rcases h with h | ⟨b, off, e, hc⟩
  · left; rw [h]; simp
  · refine .inr ⟨b, off, e, fun i hi j v hv => ?_⟩
    have hi2 : i < xs.length := by rw [List.length_take] at hi; omega
    rw [List.getElem_take] at hv
    exact hc i hi2 j v hv
theorem SOwn.dropK {α : Type} {E : Enc α} {w : World} {base g cap : Nat} {T : TypeId} {xs : List α} (h : SOwn E w base T (some ⟨g, 0, none⟩) cap xs) (k : Nat) : SRow E w (some ⟨g, k * E.k, none⟩) (xs.drop k) := by
  refine .inr ⟨g, k * E.k, rfl, fun i hi j v hv => ?_⟩
  have hi2 : k + i < xs.length := by rw [List.length_drop] at hi; omega
  rw [List.getElem_drop] at hv
  have := h.cell (k + i) hi2 j v hv
  rw [show k * E.k + (i * E.k + j) = (k + i) * E.k + j by rw [Nat.add_mul]; omega]
  exact this
end Go.Proofs.Ytiicohbghpknhaa
