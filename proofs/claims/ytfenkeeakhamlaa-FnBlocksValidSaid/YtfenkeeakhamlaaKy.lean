/- Blocks: what the law of valid blocks asks. -/
import Derived.Test.YtfenkeeakhamlaaVg
namespace Go.Proofs.Ytfenkeeakhamlaa
theorem bs_snocW (xs : List VBlock) : bsB (xs ++ [(0, 0, 0, 0, 0)]) = false := by
  have : blV (0, 0, 0, 0, 0) = false := by decide
  unfold bsB; simp [this]
theorem bs_nilW : bsB [] = true := by decide
theorem bs_tailW {xs : List VBlock} (h : bsB xs = true) : bsB (xs.drop 1) = true := by
  unfold bsB at *
  rw [Bool.and_eq_true] at *
  refine ⟨by have := h.1; simp at *; omega, ?_⟩
  rw [List.all_eq_true] at *
  exact fun p hp => h.2 p (List.mem_of_mem_drop hp)
end Go.Proofs.Ytfenkeeakhamlaa
