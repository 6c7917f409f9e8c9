/- What the law of EntriesValid says. -/
import Derived.Test.YtpmbjdfecbmgoabBz
namespace Go.Proofs.Ytpmbjdfecbmgoab
open Go Go.ChangeShapes Go.WideShapes Go.ChangeAt Go.RowKit
set_option linter.unusedSimpArgs false
set_option linter.unusedVariables false

theorem enR_low : ∀ (xs : List (Int × ByteArray)) (p q : Int), q ≤ p → enR p xs = true → enR q xs = true
  | [], _, _, _, _ => rfl
  | y :: xs, p, q, h, h2 => by
    simp only [enR, enV, Bool.and_eq_true, decide_eq_true_eq] at h2 ⊢
    exact ⟨⟨by have := h2.1.1; omega, h2.1.2⟩, h2.2⟩
theorem enB_tail {xs : List (Int × ByteArray)} (h : enB xs = true) : enB (xs.drop 1) = true := by
  obtain ⟨h1, h2⟩ := enB_iff.1 h
  refine enB_iff.2 ⟨by rw [List.length_drop]; omega, ?_⟩
  cases xs with
  | nil => rfl
  | cons y ys =>
    simp only [enR, enV, Bool.and_eq_true, decide_eq_true_eq] at h2
    exact enR_low ys _ _ (by have := h2.1.1; omega) h2.2
theorem enB_dup {xs : List (Int × ByteArray)} (h : 0 < xs.length) : enB ([xs[0]] ++ xs) = false := by
  refine enB_no ?_
  cases xs with
  | nil => simp at h
  | cons y ys => simp [enR, enV]
theorem enQ_dup {xs : List VEntry} (h : ∀ v ∈ xs, v.2.size ≤ maxLen) (h0 : 0 < xs.length) : ∀ v ∈ [xs[0]] ++ xs, v.2.size ≤ maxLen := fun v hv => by
  rcases List.mem_append.1 hv with h9 | h9
  · obtain rfl := List.mem_singleton.1 h9; exact h _ (List.getElem_mem h0)
  · exact h v h9
end Go.Proofs.Ytpmbjdfecbmgoab
