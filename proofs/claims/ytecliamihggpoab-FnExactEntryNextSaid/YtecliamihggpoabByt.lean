/- A text of one byte; the texts of marks. -/
import Derived.Test.YtecliamihggpoabRows
import Derived.Test.YtecliamihggpoabTxt
import Derived.Test.YtecliamihggpoabHlp
namespace Go.Proofs.Ytecliamihggpoab
open Go Go.ChangeShapes Go.WideShapes Go.ChangeAt Go.RowKit
set_option linter.unusedSimpArgs false
set_option linter.unusedVariables false

/-- The text of a mark. -/
def mtext (k : Nat) : ByteArray := bs (109 :: Lib.decDigits k)
theorem dec_len (n : Nat) (k : Nat) (h : n < 10 ^ k) (hk : 0 < k) : (Lib.decDigits n).length ≤ k := by
  induction k generalizing n with
  | zero => omega
  | succ k ih =>
    by_cases h1 : n < 10
    · rw [dec_lt h1]; simp
    · rw [dec_ge h1, List.length_append]
      have hk0 : 0 < k := by
        rcases Nat.eq_zero_or_pos k with e | e
        · subst e; omega
        · exact e
      have := ih (n / 10) (by rw [Nat.pow_succ] at h; omega) hk0
      simp; omega
end Go.Proofs.Ytecliamihggpoab
