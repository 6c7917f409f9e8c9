/- The number whose root is asked. -/
import Derived.Test.YtbegajmdadkknaaRdU
import Derived.Test.YtbegajmdadkknaaWay
namespace Go.Proofs.Ytbegajmdadkknaa
open Go.ChangeShapes Go.WideShapes Go.ChangeAt Go.RowKit
set_option linter.unusedSimpArgs false
set_option linter.unusedVariables false

def DrewN (lo hi : Int) (w : World) (e : Ending) (w' : World) : Prop := ∃ k : Int, e = .returned (.int .i64 k) ∧ lo ≤ k ∧ k ≤ hi ∧ Below w.heap.size w w'
theorem mul_le' {x y X Y : Int} (hx : 0 ≤ x) (hX : x ≤ X) (hy : 0 ≤ y) (hY : y ≤ Y) : 0 ≤ x * y ∧ x * y ≤ X * Y :=
  ⟨Int.mul_nonneg hx hy, Int.mul_le_mul hX hY hy (by omega)⟩
set_option maxHeartbeats 4000000 in
theorem drRootOf_any (a : Option Addr) (len cap : Nat) (w : World) (h : CodeOk w a len cap) : Calls Try.prog 34 #[.slice a len cap] w (DrewN (-2) 1000000001 w) := by
  go_enter Try.func34, Try.ntmps34
  go_wp2_with fail
  refine (open_any _ _ _ _ h).mono ?_; rintro e w1 ⟨B, rfl, hB, h1, hb1⟩
  have hz1 := hb1.size
  go_wp2_with fail
  refine (pick_any B 0 4 _ h1 (by omega) (by omega) (by omega)).mono ?_; rintro e w2 ⟨k, rfl, k0, k1, h2, hx2⟩
  have hz2 := h2.lt
  by_cases e0 : k = 0
  · subst e0
    go_wp2_with fail
    refine (pick_any B _ 256 _ h2 (by omega) (by omega) (by omega)).mono ?_; rintro e w3 ⟨p, rfl, p0, p1, h3, hx3⟩
    go_wp2_with fail
    refine (pick_any B _ 120 _ h3 (by omega) (by omega) (by omega)).mono ?_; rintro e w4 ⟨q, rfl, q0, q1, h4, hx4⟩
    have m0 := mul_le' (X := 255) (Y := 119) p0 (by omega) q0 (by omega)
    have m1 := mul_le' (X := 30345) (Y := 30345) m0.1 (by omega) m0.1 (by omega)
    go_wp2_with fail
    refine (pick_any B _ 3 _ h4 (by omega) (by omega) (by omega)).mono ?_; rintro e w5 ⟨r, rfl, r0, r1, h5, hx5⟩
    go_wp2
    go_ret
    exact ⟨_, rfl, by omega, by omega, hb1.trans ((((hx2.trans hx3).trans hx4).trans hx5).below (N := w.heap.size) (by omega) (by omega))⟩
  · have z0 : (k == 0) = false := by rw [beq_eq_false_iff_ne]; omega
    by_cases e1 : k = 1
    · subst e1
      clear z0 e0
      go_wp2_with fail
      refine (pick_any B _ 6 _ (h2.alloc _) (by omega) (by omega) (by omega)).mono ?_; rintro e w3 ⟨p, rfl, p0, p1, h3, hx3⟩
      obtain ⟨v, hv, v0, v1⟩ := blk_int_at [-1, 0, 1000000000, 1000000001, 999950884, 999950883] (blk_ext (blk_new w2 _) hx3 (by omega)) (-2) 1000000001 (by decide) p.toNat (by simp; omega)
      go_wp2
      go_ret
      exact ⟨v, rfl, v0, v1, hb1.trans (((hx2.alloc _).trans hx3).below (N := w.heap.size) (by omega) (by omega))⟩
    · have z1 : (k == 1) = false := by rw [beq_eq_false_iff_ne]; omega
      clear e0 e1
      go_wp2_with fail
      refine (pick_any B _ 256 _ h2 (by omega) (by omega) (by omega)).mono ?_; rintro e w3 ⟨p, rfl, p0, p1, h3, hx3⟩
      go_wp2_with fail
      refine (pick_any B _ 256 _ h3 (by omega) (by omega) (by omega)).mono ?_; rintro e w4 ⟨q, rfl, q0, q1, h4, hx4⟩
      have m0 := mul_le' (X := 255) (Y := 255) p0 (by omega) q0 (by omega)
      go_wp2_with fail
      refine (pick_any B _ 200 _ h4 (by omega) (by omega) (by omega)).mono ?_; rintro e w5 ⟨r, rfl, r0, r1, h5, hx5⟩
      have m1 := mul_le' (X := 65025) (Y := 199) m0.1 (by omega) r0 (by omega)
      go_wp2_with fail
      refine (pick_any B _ 256 _ h5 (by omega) (by omega) (by omega)).mono ?_; rintro e w6 ⟨s, rfl, s0, s1, h6, hx6⟩
      go_wp2
      go_ret
      exact ⟨_, rfl, by omega, by omega, hb1.trans (((((hx2.trans hx3).trans hx4).trans hx5).trans hx6).below (N := w.heap.size) (by omega) (by omega))⟩
end Go.Proofs.Ytbegajmdadkknaa
