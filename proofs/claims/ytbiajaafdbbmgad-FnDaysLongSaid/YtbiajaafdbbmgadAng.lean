/- Angles and small numbers that are drawn out of a code. -/
import Derived.Test.YtbiajaafdbbmgadRdU
import Derived.Test.YtbiajaafdbbmgadHlp
namespace Go.Proofs.Ytbiajaafdbbmgad
open Go.ChangeShapes Go.WideShapes Go.ChangeAt Go.RowKit
set_option linter.unusedSimpArgs false
set_option linter.unusedVariables false

def DrewI (lo hi : Int) (w : World) (e : Ending) (w' : World) : Prop := ∃ k : Int, e = .returned (.int .i64 k) ∧ lo ≤ k ∧ k ≤ hi ∧ Below w.heap.size w w'
set_option maxHeartbeats 4000000 in
theorem angle_any (B : Nat) (u : Int) (w : World) (h : RdU B u w) (hu : u ≤ 800000) : Calls Try.prog 67 #[.pointer (some ⟨B, 0, none⟩)] w (IntIs B (u + 3) (-1020) 1020 w) := by
  go_enter Try.func67, Try.ntmps67
  go_wp2_with fail
  refine (pick_any B u 3 _ h (by omega) (by omega) (by omega)).mono ?_; rintro e w2 ⟨k, rfl, k0, k1, h2, hx2⟩
  by_cases e0 : k = 0
  · subst e0
    go_wp2_with fail
    refine (pick_any B _ 40 _ h2 (by omega) (by omega) (by omega)).mono ?_; rintro e w3 ⟨p, rfl, p0, p1, h3, hx3⟩
    go_wp2
    go_ret
    exact ⟨_, rfl, by omega, by omega, h3.mono (by omega), hx2.trans hx3⟩
  · have z0 : (k == 0) = false := by rw [beq_eq_false_iff_ne]; omega
    by_cases e1 : k = 1
    · subst e1
      clear z0 e0
      go_wp2_with fail
      refine (pick_any B _ 256 _ h2 (by omega) (by omega) (by omega)).mono ?_; rintro e w3 ⟨p, rfl, p0, p1, h3, hx3⟩
      go_wp2_with fail
      refine (pick_any B _ 9 _ h3 (by omega) (by omega) (by omega)).mono ?_; rintro e w4 ⟨q, rfl, q0, q1, h4, hx4⟩
      have hm : -1020 ≤ p * (q - 4) ∧ p * (q - 4) ≤ 1020 := by
        have a1 : 0 ≤ p * q := Int.mul_nonneg p0 q0
        have a2 : p * q ≤ p * 8 := Int.mul_le_mul_of_nonneg_left (by omega) p0
        rw [Int.mul_sub]; omega
      go_wp2
      go_ret
      exact ⟨_, rfl, hm.1, hm.2, h4.mono (by omega), (hx2.trans hx3).trans hx4⟩
    · have z1 : (k == 1) = false := by rw [beq_eq_false_iff_ne]; omega
      clear e0 e1
      go_wp2_with fail
      refine (pick_any B _ 256 _ h2 (by omega) (by omega) (by omega)).mono ?_; rintro e w3 ⟨p, rfl, p0, p1, h3, hx3⟩
      go_wp2_with fail
      refine (pick_any B _ 106 _ h3 (by omega) (by omega) (by omega)).mono ?_; rintro e w4 ⟨q, rfl, q0, q1, h4, hx4⟩
      go_wp2
      go_ret
      exact ⟨_, rfl, by omega, by omega, h4.mono (by omega), (hx2.trans hx3).trans hx4⟩
end Go.Proofs.Ytbiajaafdbbmgad
