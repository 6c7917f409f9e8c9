/- A text of one byte; the texts of marks. -/
import Derived.Test.YtidppabconifkabRows
import Derived.Test.YtidppabconifkabTxt
import Derived.Test.YtidppabconifkabHlp
namespace Go.Proofs.Ytidppabconifkab
open Go Go.ChangeShapes Go.WideShapes Go.ChangeAt Go.RowKit
set_option linter.unusedSimpArgs false
set_option linter.unusedVariables false

theorem byte_text (n : Nat) (w : World) (hn : n < 10) : (convert 22 9 (.slice (some ⟨w.heap.size, 0, none⟩) 1 1)).run Try.prog (w.alloc (.cells #[.int .u8 (48 + (n : Int))] 5)) = .ok (.string (bs [dg n])) (w.alloc (.cells #[.int .u8 (48 + (n : Int))] 5)) := by
  rw [run_convert_bytes_arg (P := Try.prog) (w.alloc (.cells #[.int .u8 (48 + (n : Int))] 5)) 22 5 Try.underlying22 Try.underlying5 w.heap.size 0 1 1 [48 + (n : Int)] rfl (fun i hi => by
    obtain rfl : i = 0 := by omega
    simp) 9 Try.underlying9]
  have e : strOfNums [48 + (n : Int)] = bs [dg n] := by
    have h : (48 + (n : Int)).toNat = 48 + n := by omega
    apply ByteArray.ext
    simp [strOfNums, bs, dg, h]
  rw [e]
/-- The text of a mark. -/
def mtext (k : Nat) : ByteArray := bs (109 :: Lib.decDigits k)
theorem dec_len (n : Nat) (k : Nat) (h : n < 10 ^ k) (hk : 0 < k) : (Lib.decDigits n).length ≤ k := by
  induction k generalizing n with
  | zero => omega
  | succ k ih =>
    by_cases h1 : n < 10
    · rw [dec_lt h1]; simp
    · rw [dec_ge h1, List.length_append]
      have hk0 : 0 < k := by
        rcases Nat.eq_zero_or_pos k with e | e
        · subst e; omega
        · exact e
      have := ih (n / 10) (by rw [Nat.pow_succ] at h; omega) hk0
      simp; omega
end Go.Proofs.Ytidppabconifkab
