/- What the laws of chapter 3 draw out of a code. -/
import Derived.Test.YtbiajaafdbbmgadAng
namespace Go.Proofs.Ytbiajaafdbbmgad
open Go.ChangeShapes Go.WideShapes Go.ChangeAt Go.RowKit
set_option linter.unusedSimpArgs false
set_option linter.unusedVariables false

def SkyIs (B : Nat) (u : Int) (w : World) (e : Ending) (w' : World) : Prop :=
  ∃ l t : Int, e = .returned (.tuple #[.int .i64 l, .int .i64 t]) ∧ -100 ≤ l ∧ l ≤ 100 ∧ -100 ≤ t ∧ t ≤ 100 ∧ RdU B u w' ∧ Ext B w w'
def DrewSky (w : World) (e : Ending) (w' : World) : Prop :=
  ∃ l t : Int, e = .returned (.tuple #[.int .i64 l, .int .i64 t]) ∧ -100 ≤ l ∧ l ≤ 100 ∧ -100 ≤ t ∧ t ≤ 100 ∧ Below w.heap.size w w'
def DrewSun (w : World) (e : Ending) (w' : World) : Prop :=
  ∃ l t h : Int, e = .returned (.tuple #[.int .i64 l, .int .i64 t, .int .i64 h]) ∧ -100 ≤ l ∧ l ≤ 100 ∧ -100 ≤ t ∧ t ≤ 100 ∧ -1020 ≤ h ∧ h ≤ 1020 ∧ Below w.heap.size w w'
set_option maxHeartbeats 4000000 in
theorem sky_any (B : Nat) (u : Int) (w : World) (h : RdU B u w) (hu : u ≤ 800000) : Calls Try.prog 55 #[.pointer (some ⟨B, 0, none⟩)] w (SkyIs B (u + 6) w) := by
  go_enter Try.func55, Try.ntmps55
  go_wp2_with fail
  refine (pick_any B u 181 _ h (by omega) (by omega) (by omega)).mono ?_; rintro e w1 ⟨k, rfl, k0, k1, h1, hx1⟩
  go_wp2_with fail
  refine (pick_any B _ 5 _ h1 (by omega) (by omega) (by omega)).mono ?_; rintro e w2 ⟨q, rfl, q0, q1, h2, hx2⟩
  by_cases e0 : q = 0
  · subst e0
    go_wp2_with fail
    have hB2 := h2.lt
    refine (pick_any B _ 7 _ (h2.alloc _) (by omega) (by omega) (by omega)).mono ?_; rintro e w3 ⟨j, rfl, j0, j1, h3, hx3⟩
    have hH := blk_ext (blk_new _ _) hx3 (by omega)
    obtain ⟨v, hv, v0, v1⟩ := blk_int_at [-90, 90, 0, 66, -67, 91, -91] hH (-100) 100 (by decide) j.toNat (by simp; omega)
    clear hH
    go_wp2_with fail
    refine (pick_any B _ 47 _ h3 (by omega) (by omega) (by omega)).mono ?_; rintro e w4 ⟨a, rfl, a0, a1, h4, hx4⟩
    go_wp2_with fail
    refine (pick_any B _ 40 _ h4 (by omega) (by omega) (by omega)).mono ?_; rintro e w5 ⟨b, rfl, b0, b1, h5, hx5⟩
    go_wp2_with fail
    refine (pick_any B _ 40 _ h5 (by omega) (by omega) (by omega)).mono ?_; rintro e w6 ⟨c, rfl, c0, c1, h6, hx6⟩
    go_wp2
    go_ret2
    exact ⟨_, _, rfl, by omega, by omega, by omega, by omega, h6.mono (by omega), ((((hx1.trans hx2).alloc _).trans hx3).trans hx4).trans (hx5.trans hx6)⟩
  · have z0 : (q == 0) = false := by rw [beq_eq_false_iff_ne]; omega
    go_wp2_with fail
    refine (pick_any B _ 47 _ h2 (by omega) (by omega) (by omega)).mono ?_; rintro e w4 ⟨a, rfl, a0, a1, h4, hx4⟩
    go_wp2_with fail
    refine (pick_any B _ 40 _ h4 (by omega) (by omega) (by omega)).mono ?_; rintro e w5 ⟨b, rfl, b0, b1, h5, hx5⟩
    go_wp2_with fail
    refine (pick_any B _ 40 _ h5 (by omega) (by omega) (by omega)).mono ?_; rintro e w6 ⟨c, rfl, c0, c1, h6, hx6⟩
    go_wp2
    go_ret2
    exact ⟨_, _, rfl, by omega, by omega, by omega, by omega, h6.mono (by omega), (((hx1.trans hx2).trans hx4).trans (hx5.trans hx6))⟩
end Go.Proofs.Ytbiajaafdbbmgad
