/- Houses: what the law of valid houses asks. -/
import Derived.Test.YtifnengegbiijabKm
namespace Go.Proofs.Ytifnengegbiijab
theorem hs_snocW (xs : List (Int × Int × Int)) : hsB (xs ++ [(1, 1, 1)]) = false := by
  cases h : hsB (xs ++ [(1, 1, 1)]) with
  | false => rfl
  | true =>
    have := (hsB_iff.1 h).2 (1, 1, 1) (by simp)
    revert this; decide
theorem hs_nilW : hsB [] = true := by decide
end Go.Proofs.Ytifnengegbiijab
