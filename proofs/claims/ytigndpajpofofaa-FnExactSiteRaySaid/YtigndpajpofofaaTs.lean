/- Contracts: turns, sines and cosines, division rounded down and to the nearest. -/
import Derived.Test.YtigndpajpofofaaRows
import Derived.Test.YtigndpajpofofaaHelp
import Derived.Test.YtigndpajpofofaaSin
namespace Go.Proofs.Ytigndpajpofofaa
open Go.ChangeShapes Go.WideShapes Go.ChangeAt Go.RowKit
set_option linter.unusedSimpArgs false
set_option linter.unusedVariables false

theorem turn_eq (a : Int) : (wrap64 (a.tmod 360 + 360)).tmod 360 = a % 360 := by
  have h1 := Int.tmod_add_mul_tdiv a 360
  have h2 := Int.tmod_lt_of_pos a (b := 360) (by omega)
  have h3 := Int.lt_tmod_of_pos a (b := 360) (by omega)
  rw [IntWalk.wrap64_in _ (by omega), Int.tmod_eq_emod_of_nonneg (by omega)]
  omega
theorem sTurn_any (a : Int) (w : World) : Calls Try.prog 65 #[.int .i64 a] w fun e w' => e = .returned (.int .i64 (a % 360)) ∧ w = w' := by
  go_enter Try.func65, Try.ntmps65
  go_wp2
  go_ret
  exact ⟨ret_int (turn_eq a), rfl⟩
theorem iTurn_any (a : Int) (w : World) : Calls Try.prog 88 #[.int .i64 a] w fun e w' => e = .returned (.int .i64 (a % 360)) ∧ w = w' := by
  go_enter Try.func88, Try.ntmps88
  go_wp2
  go_ret
  exact ⟨ret_int (turn_eq a), rfl⟩
theorem s2Sine_any (x : Int) (w : World) (h0 : 0 ≤ x) (h1 : x ≤ 180) : Calls Try.prog 75 #[.int .i64 x] w fun e w' => e = .returned (.int .i64 (sin0 x)) ∧ w = w' := by
  have hp := p_bd x h0 h1
  go_enter Try.func75, Try.ntmps75
  go_wp2
  go_ret
  exact ⟨ret_int rfl, rfl⟩
theorem tmod_bd (n b : Int) (hb : 0 < b) (hb1 : b ≤ 4000000000000000000) : -9000000000000000000 ≤ n.tmod b ∧ n.tmod b ≤ 9000000000000000000 := by
  have h1 := Int.tmod_lt_of_pos n hb
  have h2 := Int.lt_tmod_of_pos n hb
  omega
theorem tdiv_bd (n b : Int) (hb : 0 < b) (h0 : -9000000000000000000 ≤ n) (h1 : n ≤ 9000000000000000000) : -9000000000000000000 ≤ n.tdiv b ∧ n.tdiv b ≤ 9000000000000000000 := by
  have := Int.natAbs_tdiv_le_natAbs n b
  omega
theorem tdiv_dn (n b : Int) (hb : 0 < b) (h0 : -9000000000000000000 ≤ n) (h1 : n ≤ 9000000000000000000) (hn : n.tmod b < 0) : n.tdiv b - 1 = n / b ∧ -9000000000000000000 ≤ n.tdiv b ∧ n.tdiv b ≤ 9000000000000000000 := by
  refine ⟨?_, tdiv_bd n b hb h0 h1⟩
  have e1 := Int.mul_tdiv_add_tmod n b
  have e2 := Int.lt_tmod_of_pos n hb
  have e3 : n = b * (n.tdiv b - 1) + (n.tmod b + b) := by rw [Int.mul_sub]; omega
  symm
  exact ((Int.ediv_emod_unique (a := n) (b := b) (r := n.tmod b + b) (q := n.tdiv b - 1) hb).2 ⟨by omega, by omega, by omega⟩).1
theorem tdiv_up (n b : Int) (hb : 0 < b) (h0 : -9000000000000000000 ≤ n) (h1 : n ≤ 9000000000000000000) (hn : ¬ n.tmod b < 0) : n.tdiv b = n / b ∧ -9000000000000000000 ≤ n.tdiv b ∧ n.tdiv b ≤ 9000000000000000000 := by
  refine ⟨?_, tdiv_bd n b hb h0 h1⟩
  have e1 := Int.mul_tdiv_add_tmod n b
  have e2 := Int.tmod_lt_of_pos n hb
  symm
  exact ((Int.ediv_emod_unique (a := n) (b := b) (r := n.tmod b) (q := n.tdiv b) hb).2 ⟨by omega, by omega, by omega⟩).1
/-- Division rounded down. -/
theorem qd_any (n b : Int) (w : World) (hb : 0 < b) (hb1 : b ≤ 4000000000000000000) (h0 : -9000000000000000000 ≤ n) (h1 : n ≤ 9000000000000000000) : Calls Try.prog 81 #[.int .i64 n, .int .i64 b] w fun e w' => e = .returned (.int .i64 (n / b)) ∧ w = w' := by
  have e1 := Int.mul_ediv_add_emod n b
  have e2 := Int.emod_nonneg n (show b ≠ 0 by omega)
  have e3 := Int.emod_lt_of_pos n hb
  have hb0 : b ≠ 0 := by omega
  by_cases hn : n.tmod b < 0
  · have hq : n.tdiv b - 1 = n / b ∧ -9000000000000000000 ≤ n.tdiv b ∧ n.tdiv b ≤ 9000000000000000000 := tdiv_dn n b hb h0 h1 hn
    have hr : -9000000000000000000 ≤ n.tmod b ∧ n.tmod b ≤ 9000000000000000000 := tmod_bd n b hb hb1
    obtain ⟨hq1, q0, q1⟩ := hq
    clear e1 e2 e3
    go_enter Try.func81, Try.ntmps81
    go_wp2
    go_ret
    exact ⟨rfl, rfl⟩
  · have hq : n.tdiv b = n / b ∧ -9000000000000000000 ≤ n.tdiv b ∧ n.tdiv b ≤ 9000000000000000000 := tdiv_up n b hb h0 h1 hn
    have hr : -9000000000000000000 ≤ n.tmod b ∧ n.tmod b ≤ 9000000000000000000 := tmod_bd n b hb hb1
    obtain ⟨hq1, q0, q1⟩ := hq
    clear e1 e2 e3
    go_enter Try.func81, Try.ntmps81
    go_wp2
    go_ret
    exact ⟨rfl, rfl⟩
def nearI (n b : Int) : Int := (2 * n + b) / (2 * b)
theorem near_any (n b : Int) (w : World) (hb : 0 < b) (hb1 : b ≤ 1000000000000 ) (h0 : -1000000000000000000 ≤ n) (h1 : n ≤ 1000000000000000000) : Calls Try.prog 80 #[.int .i64 n, .int .i64 b] w fun e w' => e = .returned (.int .i64 (nearI n b)) ∧ w = w' := by
  go_enter Try.func80, Try.ntmps80
  go_wp2_with fail
  refine (qd_any _ _ _ (by omega) (by omega) (by omega) (by omega)).mono ?_; rintro e w1 ⟨rfl, rfl⟩
  go_wp2
  go_ret
  exact ⟨ret_int rfl, rfl⟩
theorem near_sin (x : Int) : nearI (4000 * (x * (180 - x))) (40500 - x * (180 - x)) = sin0 x := (sin0_eq x).symm
theorem i0Sine_any (x : Int) (w : World) (h0 : 0 ≤ x) (h1 : x ≤ 180) : Calls Try.prog 77 #[.int .i64 x] w fun e w' => e = .returned (.int .i64 (sin0 x)) ∧ w = w' := by
  have hp := p_bd x h0 h1
  have hx : x % 360 = x := by omega
  go_enter Try.func77, Try.ntmps77
  go_wp2_with fail
  refine (iTurn_any _ _).mono ?_; rintro e w1 ⟨rfl, rfl⟩
  rw [hx]
  clear hx
  go_wp2_with fail
  refine (near_any _ _ _ (by omega) (by omega) (by omega) (by omega)).mono ?_; rintro e w1 ⟨rfl, rfl⟩
  go_wp2
  go_ret
  exact ⟨ret_int (near_sin x), rfl⟩
theorem iSine_any (x : Int) (w : World) : Calls Try.prog 77 #[.int .i64 x] w fun e w' => e = .returned (.int .i64 (sinI x)) ∧ w = w' := by
  have hb := mod360 x
  generalize ht : x % 360 = t at hb
  have hs : sinI x = sinT t := by unfold sinI; rw [ht]
  rw [hs]
  clear hs
  have HT := Lib.hid ht
  clear ht
  by_cases h : 180 < t
  · have hp := p_bd (t - 180) (by omega) (by omega)
    have hsb : -1000 ≤ sin0 (t - 180) ∧ sin0 (t - 180) ≤ 1000 := by
      have := sin_bd t
      unfold sinI sinT at this
      rw [show t % 360 = t by omega, if_pos h] at this; omega
    go_enter Try.func77, Try.ntmps77
    go_wp2_with fail
    refine (iTurn_any _ _).mono ?_; rintro e w1 ⟨rfl, rfl⟩
    rw [HT.out]
    go_wp2_with fail
    refine (i0Sine_any _ _ (by omega) (by omega)).mono ?_; rintro e w1 ⟨rfl, rfl⟩
    go_wp2
    go_ret
    exact ⟨ret_int (by unfold sinT; rw [if_pos h]), rfl⟩
  · have hp := p_bd t (by omega) (by omega)
    go_enter Try.func77, Try.ntmps77
    go_wp2_with fail
    refine (iTurn_any _ _).mono ?_; rintro e w1 ⟨rfl, rfl⟩
    rw [HT.out]
    go_wp2_with fail
    refine (near_any _ _ _ (by omega) (by omega) (by omega) (by omega)).mono ?_; rintro e w1 ⟨rfl, rfl⟩
    go_wp2
    go_ret
    exact ⟨ret_int (by unfold sinT; rw [if_neg (by omega)]; exact near_sin t), rfl⟩
theorem sSine_any (x : Int) (w : World) : Calls Try.prog 63 #[.int .i64 x] w fun e w' => e = .returned (.int .i64 (sinI x)) ∧ w = w' := by
  have hb := mod360 x
  generalize ht : x % 360 = t at hb
  have hs : sinI x = sinT t := by unfold sinI; rw [ht]
  rw [hs]
  clear hs
  have HT := Lib.hid ht
  clear ht
  by_cases h : 180 < t
  · have hp := p_bd (t - 180) (by omega) (by omega)
    have hsb : -1000 ≤ sin0 (t - 180) ∧ sin0 (t - 180) ≤ 1000 := by
      have := sin_bd t
      unfold sinI sinT at this
      rw [show t % 360 = t by omega, if_pos h] at this; omega
    go_enter Try.func63, Try.ntmps63
    go_wp2_with fail
    refine (sTurn_any _ _).mono ?_; rintro e w1 ⟨rfl, rfl⟩
    rw [HT.out]
    go_wp2_with fail
    refine (s2Sine_any _ _ (by omega) (by omega)).mono ?_; rintro e w1 ⟨rfl, rfl⟩
    go_wp2
    go_ret
    exact ⟨ret_int (by unfold sinT; rw [if_pos h]), rfl⟩
  · go_enter Try.func63, Try.ntmps63
    go_wp2_with fail
    refine (sTurn_any _ _).mono ?_; rintro e w1 ⟨rfl, rfl⟩
    rw [HT.out]
    go_wp2_with fail
    refine (s2Sine_any _ _ (by omega) (by omega)).mono ?_; rintro e w1 ⟨rfl, rfl⟩
    go_wp2
    go_ret
    exact ⟨ret_int (by unfold sinT; rw [if_neg (by omega)]), rfl⟩
theorem iCos_any (x : Int) (w : World) : Calls Try.prog 78 #[.int .i64 x] w fun e w' => e = .returned (.int .i64 (cosI x)) ∧ w = w' := by
  have hb := mod360 x
  have HC := Lib.hid (cos_eq x)
  go_enter Try.func78, Try.ntmps78
  go_wp2_with fail
  refine (iTurn_any _ _).mono ?_; rintro e w1 ⟨rfl, rfl⟩
  go_wp2_with fail
  refine (iSine_any _ _).mono ?_; rintro e w1 ⟨rfl, rfl⟩
  go_wp2
  go_ret
  exact ⟨ret_int HC.out.symm, rfl⟩
theorem sCos_any (x : Int) (w : World) : Calls Try.prog 64 #[.int .i64 x] w fun e w' => e = .returned (.int .i64 (cosI x)) ∧ w = w' := by
  have hb := mod360 x
  have HC := Lib.hid (cos_eq x)
  go_enter Try.func64, Try.ntmps64
  go_wp2_with fail
  refine (sTurn_any _ _).mono ?_; rintro e w1 ⟨rfl, rfl⟩
  go_wp2_with fail
  refine (sSine_any _ _).mono ?_; rintro e w1 ⟨rfl, rfl⟩
  go_wp2
  go_ret
  exact ⟨ret_int HC.out.symm, rfl⟩
end Go.Proofs.Ytigndpajpofofaa
