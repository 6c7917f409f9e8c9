/- Whether some light is at a bound or beyond it. -/
import Derived.Test.YtpmbjdfecbmgoaaBq
namespace Go.Proofs.Ytpmbjdfecbmgoaa
set_option linter.unusedSimpArgs false
set_option linter.unusedVariables false

def anL (lo hi : Int) (xs : List Int) : Bool := xs.any (fun x => decide (x ≤ lo) || decide (hi ≤ x))
theorem anL_step {xs : List Int} {k : Nat} (hk : k < xs.length) (lo hi : Int) : anL lo hi (xs.take (k + 1)) = (anL lo hi (xs.take k) || (decide (xs[k] ≤ lo) || decide (hi ≤ xs[k]))) := by
  unfold anL; rw [List.take_succ_eq_append_getElem hk, List.any_append]; simp
theorem anL_zero {lo hi : Int} {xs : List Int} (h : anL lo hi xs = false) (s : Bool) : bcR lo hi s xs = 0 := by
  refine bcR_zero xs s (fun x hx => ?_)
  have := List.any_eq_false.1 h x hx
  simp at this; omega
theorem bcI_dup {s : Bool} {lo hi x n : Int} {xs ys : List Int} (h : brB lo hi xs = true) (hl : xs.length < 60) (e : xs = x :: ys) (hn : bcR lo hi s xs = n) : bcI s lo hi ([x] ++ xs) = n := by
  subst e
  obtain ⟨hb, hv⟩ := brB_iff.1 h
  have h8 : brB lo hi ([x] ++ (x :: ys)) = true := brB_iff.2 ⟨hb, ltB_twice hv hl⟩
  rw [bcI_yes h8]
  show bcR lo hi s (x :: x :: ys) = n
  rw [bcR_dup]; exact hn
end Go.Proofs.Ytpmbjdfecbmgoaa
