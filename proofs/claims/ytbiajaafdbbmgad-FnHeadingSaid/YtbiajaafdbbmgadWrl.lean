/- The order of ways, as a Bool. -/
import Derived.Test.YtbiajaafdbbmgadWay
namespace Go.Proofs.Ytbiajaafdbbmgad
theorem rl_iff {a b c d : Int} : rlB a b c d = true ↔ goB a b = true ∧ goB c d = true ∧ Bef a b c d := by
  unfold rlB; rw [Bool.and_eq_true, Bool.and_eq_true, befB_iff, and_assoc]
theorem rl_irrefl (a b : Int) : rlB a b a b = false := by
  rw [Bool.eq_false_iff]; intro h; exact bef_irrefl a b (rl_iff.1 h).2.2
theorem rl_asymm {a b c d : Int} (h : rlB a b c d = true) : rlB c d a b = false := by
  rw [Bool.eq_false_iff]; intro k; exact bef_asymm (rl_iff.1 h).2.2 (rl_iff.1 k).2.2
theorem rl_trans {a b c d e f : Int} (h : rlB a b c d = true) (k : rlB c d e f = true) : rlB a b e f = true := by
  obtain ⟨h1, h2, h3⟩ := rl_iff.1 h
  obtain ⟨_, k2, k3⟩ := rl_iff.1 k
  exact rl_iff.2 ⟨h1, k2, bef_trans (goB_iff.1 h1).2 (goB_iff.1 h2).2 (goB_iff.1 k2).2 h3 k3⟩
theorem go_two {a b : Int} (h : wvB (2 * a) (2 * b) = true) : goB (2 * a) (2 * b) = goB a b := by
  rw [wvB_iff] at h
  rw [Bool.eq_iff_iff, goB_iff, goB_iff]; omega
theorem rl_two {a b c d : Int} (h : wvB (2 * a) (2 * b) = true) : rlB (2 * a) (2 * b) c d = rlB a b c d := by
  unfold rlB; rw [go_two h]
  congr 1
  rw [Bool.eq_iff_iff, befB_iff, befB_iff]; exact bef_two a b c d
theorem rl_two' {a b c d : Int} (h : wvB (2 * a) (2 * b) = true) : rlB c d (2 * a) (2 * b) = rlB c d a b := by
  unfold rlB; rw [go_two h]
  congr 1
  rw [Bool.eq_iff_iff, befB_iff, befB_iff]; exact bef_two' a b c d
end Go.Proofs.Ytbiajaafdbbmgad
