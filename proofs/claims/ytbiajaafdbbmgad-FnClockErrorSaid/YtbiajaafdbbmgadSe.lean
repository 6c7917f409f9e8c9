/- Days of a year, minutes and places that are drawn out of a code. -/
import Derived.Test.YtbiajaafdbbmgadAng
namespace Go.Proofs.Ytbiajaafdbbmgad
open Go.ChangeShapes Go.WideShapes Go.ChangeAt Go.RowKit
set_option linter.unusedSimpArgs false
set_option linter.unusedVariables false

theorem yday_any (B : Nat) (u : Int) (w : World) (h : RdU B u w) (hu : u ≤ 800000) : Calls Try.prog 47 #[.pointer (some ⟨B, 0, none⟩)] w (IntIs B (u + 3) 0 367 w) := by
  go_enter Try.func47, Try.ntmps47
  go_wp2_with fail
  refine (pick_any B u 8 _ h (by omega) (by omega) (by omega)).mono ?_; rintro e w1 ⟨k, rfl, k0, k1, h1, hx1⟩
  by_cases e0 : k = 0
  · subst e0
    go_wp2_with fail
    have hB1 := h1.lt
    refine (pick_any B (u + 1) 7 _ (h1.alloc _) (by omega) (by omega) (by omega)).mono ?_; rintro e w2 ⟨j, rfl, j0, j1, h2, hx2⟩
    have hH := blk_ext (blk_new _ _) hx2 (by omega)
    obtain ⟨v, hv, v0, v1⟩ := blk_int_at [0, 1, 80, 81, 365, 366, 367] hH 0 367 (by decide) j.toNat (by simp; omega)
    clear hH
    go_wp2
    go_ret
    exact ⟨v, rfl, v0, v1, h2.mono (by omega), (hx1.alloc _).trans hx2⟩
  · have z0 : (k == 0) = false := by rw [beq_eq_false_iff_ne]; omega
    go_wp2_with fail
    refine (pick_any B (u + 1) 183 _ h1 (by omega) (by omega) (by omega)).mono ?_; rintro e w2 ⟨j, rfl, j0, j1, h2, hx2⟩
    go_wp2_with fail
    refine (pick_any B (u + 1 + 1) 2 _ h2 (by omega) (by omega) (by omega)).mono ?_; rintro e w3 ⟨i, rfl, i0, i1, h3, hx3⟩
    go_wp2
    go_ret
    exact ⟨_, rfl, by omega, by omega, h3.mono (by omega), (hx1.trans hx2).trans hx3⟩
def ClockIs (B : Nat) (w : World) (e : Ending) (w' : World) : Prop :=
  ∃ m d l z : Int, e = .returned (.tuple #[.int .i64 m, .int .i64 d, .int .i64 l, .int .i64 z]) ∧ -1500 ≤ m ∧ m ≤ 3000 ∧ 0 ≤ d ∧ d ≤ 367 ∧ -180 ≤ l ∧ l ≤ 380 ∧ -32 ≤ z ∧ z ≤ 14 ∧ Ext B w w'
def DrewClock (w : World) (e : Ending) (w' : World) : Prop :=
  ∃ m d l z : Int, e = .returned (.tuple #[.int .i64 m, .int .i64 d, .int .i64 l, .int .i64 z]) ∧ -1500 ≤ m ∧ m ≤ 3000 ∧ 0 ≤ d ∧ d ≤ 367 ∧ -180 ≤ l ∧ l ≤ 380 ∧ -32 ≤ z ∧ z ≤ 14 ∧ Below w.heap.size w w'
set_option maxHeartbeats 4000000 in
theorem clock_any (B : Nat) (w : World) (h : RdU B 0 w) : Calls Try.prog 62 #[.pointer (some ⟨B, 0, none⟩)] w (ClockIs B w) := by
  go_enter Try.func62, Try.ntmps62
  go_wp2_with fail
  refine (pick_any B _ 24 _ h (by omega) (by omega) (by omega)).mono ?_; rintro e w1 ⟨k1, rfl, a1, b1, h1, hx1⟩
  go_wp2_with fail
  refine (pick_any B _ 60 _ h1 (by omega) (by omega) (by omega)).mono ?_; rintro e w2 ⟨k2, rfl, a2, b2, h2, hx2⟩
  go_wp2_with fail
  refine (pick_any B _ 40 _ h2 (by omega) (by omega) (by omega)).mono ?_; rintro e w3 ⟨k3, rfl, a3, b3, h3, hx3⟩
  go_wp2_with fail
  refine (pick_any B _ 40 _ h3 (by omega) (by omega) (by omega)).mono ?_; rintro e w4 ⟨k4, rfl, a4, b4, h4, hx4⟩
  go_wp2_with fail
  refine (yday_any B _ _ h4 (by omega)).mono ?_; rintro e w5 ⟨k5, rfl, a5, b5, h5, hx5⟩
  go_wp2_with fail
  refine (pick_any B _ 181 _ h5 (by omega) (by omega) (by omega)).mono ?_; rintro e w6 ⟨k6, rfl, a6, b6, h6, hx6⟩
  go_wp2_with fail
  refine (pick_any B _ 40 _ h6 (by omega) (by omega) (by omega)).mono ?_; rintro e w7 ⟨k7, rfl, a7, b7, h7, hx7⟩
  go_wp2_with fail
  refine (pick_any B _ 27 _ h7 (by omega) (by omega) (by omega)).mono ?_; rintro e w8 ⟨k8, rfl, a8, b8, h8, hx8⟩
  go_wp2_with fail
  refine (pick_any B _ 40 _ h8 (by omega) (by omega) (by omega)).mono ?_; rintro e w9 ⟨k9, rfl, a9, b9, h9, hx9⟩
  go_wp2
  exact bodyPost_ret (v := .tuple #[.int .i64 (k1 * 60 + k2 + k3 / 39 * 1440 - k4 / 39 * 1500), .int .i64 k5, .int .i64 (k6 * 2 - 180 + k7 / 39 * 200), .int .i64 (k8 - 12 - k9 / 39 * 20)]) (by simp [results, Try.results62, go_sem]) rfl
    ⟨_, _, _, _, rfl, by omega, by omega, by omega, by omega, by omega, by omega, by omega, by omega, (((hx1.trans hx2).trans (hx3.trans hx4)).trans hx5).trans ((hx6.trans hx7).trans (hx8.trans hx9))⟩
theorem drTiltOf_any (a : Option Addr) (len cap : Nat) (w : World) (h : CodeOk w a len cap) : Calls Try.prog 12 #[.slice a len cap] w (DrewI 0 367 w) := by
  go_enter Try.func12, Try.ntmps12
  go_wp2_with fail
  refine (open_any _ _ _ _ h).mono ?_; rintro e w1 ⟨B, rfl, hB, h1, hb1⟩
  go_wp2_with fail
  refine (yday_any B 0 _ h1 (by omega)).mono ?_; rintro e w2 ⟨k, rfl, k0, k1, _, hx⟩
  go_wp2
  go_ret
  exact ⟨k, rfl, k0, k1, hb1.trans (hx.below hB hb1.size)⟩
theorem drClockError_any (a : Option Addr) (len cap : Nat) (w : World) (h : CodeOk w a len cap) : Calls Try.prog 23 #[.slice a len cap] w (DrewI 0 367 w) := by
  go_enter Try.func23, Try.ntmps23
  go_wp2_with fail
  refine (open_any _ _ _ _ h).mono ?_; rintro e w1 ⟨B, rfl, hB, h1, hb1⟩
  go_wp2_with fail
  refine (yday_any B 0 _ h1 (by omega)).mono ?_; rintro e w2 ⟨k, rfl, k0, k1, _, hx⟩
  go_wp2
  go_ret
  exact ⟨k, rfl, k0, k1, hb1.trans (hx.below hB hb1.size)⟩
theorem drSunMinute_any (a : Option Addr) (len cap : Nat) (w : World) (h : CodeOk w a len cap) : Calls Try.prog 26 #[.slice a len cap] w (DrewClock w) := by
  go_enter Try.func26, Try.ntmps26
  go_wp2_with fail
  refine (open_any _ _ _ _ h).mono ?_; rintro e w1 ⟨B, rfl, hB, h1, hb1⟩
  go_wp2_with fail
  refine (clock_any B _ h1).mono ?_; rintro e w2 ⟨m, d, l, z, rfl, m0, m1, d0, d1, l0, l1, z0, z1, hx⟩
  go_wp2
  exact bodyPost_ret (v := .tuple #[.int .i64 m, .int .i64 d, .int .i64 l, .int .i64 z]) (by simp [results, Try.results26, go_sem]) rfl ⟨_, _, _, _, rfl, m0, m1, d0, d1, l0, l1, z0, z1, hb1.trans (hx.below hB hb1.size)⟩
theorem drClockMinute_any (a : Option Addr) (len cap : Nat) (w : World) (h : CodeOk w a len cap) : Calls Try.prog 30 #[.slice a len cap] w (DrewClock w) := by
  go_enter Try.func30, Try.ntmps30
  go_wp2_with fail
  refine (open_any _ _ _ _ h).mono ?_; rintro e w1 ⟨B, rfl, hB, h1, hb1⟩
  go_wp2_with fail
  refine (clock_any B _ h1).mono ?_; rintro e w2 ⟨m, d, l, z, rfl, m0, m1, d0, d1, l0, l1, z0, z1, hx⟩
  go_wp2
  exact bodyPost_ret (v := .tuple #[.int .i64 m, .int .i64 d, .int .i64 l, .int .i64 z]) (by simp [results, Try.results30, go_sem]) rfl ⟨_, _, _, _, rfl, m0, m1, d0, d1, l0, l1, z0, z1, hb1.trans (hx.below hB hb1.size)⟩
theorem drHourAngle_any (a : Option Addr) (len cap : Nat) (w : World) (h : CodeOk w a len cap) : Calls Try.prog 32 #[.slice a len cap] w (DrewI (-1500) 3000 w) := by
  go_enter Try.func32, Try.ntmps32
  go_wp2_with fail
  refine (open_any _ _ _ _ h).mono ?_; rintro e w0 ⟨B, rfl, hB, h0, hb0⟩
  go_wp2_with fail
  refine (pick_any B _ 24 _ h0 (by omega) (by omega) (by omega)).mono ?_; rintro e w1 ⟨k1, rfl, a1, b1, h1, hx1⟩
  go_wp2_with fail
  refine (pick_any B _ 60 _ h1 (by omega) (by omega) (by omega)).mono ?_; rintro e w2 ⟨k2, rfl, a2, b2, h2, hx2⟩
  go_wp2_with fail
  refine (pick_any B _ 20 _ h2 (by omega) (by omega) (by omega)).mono ?_; rintro e w3 ⟨k3, rfl, a3, b3, h3, hx3⟩
  go_wp2_with fail
  refine (pick_any B _ 20 _ h3 (by omega) (by omega) (by omega)).mono ?_; rintro e w4 ⟨k4, rfl, a4, b4, h4, hx4⟩
  go_wp2
  go_ret
  exact ⟨_, rfl, by omega, by omega, hb0.trans (((hx1.trans hx2).trans (hx3.trans hx4)).below hB hb0.size)⟩
end Go.Proofs.Ytbiajaafdbbmgad
