/- Contracts of chapter 3: the tilt, sundials and clocks. -/
import Derived.Test.YtigndpajpofofaaTs
namespace Go.Proofs.Ytigndpajpofofaa
open Go.ChangeShapes Go.WideShapes Go.ChangeAt Go.RowKit
set_option linter.unusedSimpArgs false
set_option linter.unusedVariables false

def inK (n a b : Int) : Bool := decide (a ≤ n ∧ n ≤ b)
theorem sInK_any (n a b : Int) (w : World) :
    Calls Try.prog 20 #[.int .i64 n, .int .i64 a, .int .i64 b] w fun e w' => e = .returned (.bool (inK n a b)) ∧ w = w' := by
  go_enter Try.func20, Try.ntmps20
  go_wp2
  all_goals go_ret
  all_goals exact ⟨ret_bool (by rw [Bool.eq_iff_iff]; simp [inK]; omega), rfl⟩
theorem iInK_any (n a b : Int) (w : World) :
    Calls Try.prog 55 #[.int .i64 n, .int .i64 a, .int .i64 b] w fun e w' => e = .returned (.bool (inK n a b)) ∧ w = w' := by
  go_enter Try.func55, Try.ntmps55
  go_wp2
  all_goals go_ret
  all_goals exact ⟨ret_bool (by rw [Bool.eq_iff_iff]; simp [inK]; omega), rfl⟩
theorem mod_eq (n m : Int) (hm : 0 < m) (hm1 : m ≤ 4000000000000000000) : (wrap64 (n.tmod m + m)).tmod m = n % m := by
  have h1 := Int.mul_tdiv_add_tmod n m
  have h2 := Int.tmod_lt_of_pos n hm
  have h3 := Int.lt_tmod_of_pos n hm
  rw [IntWalk.wrap64_in _ (by omega), Int.tmod_eq_emod_of_nonneg (by omega)]
  rw [Int.add_emod_right]
  have e : n = n.tmod m + m * n.tdiv m := by omega
  conv => rhs; rw [e, Int.add_mul_emod_self_left]
theorem sMod_any (n m : Int) (w : World) (hm : 0 < m) (hm1 : m ≤ 4000000000000000000) :
    Calls Try.prog 76 #[.int .i64 n, .int .i64 m] w fun e w' => e = .returned (.int .i64 (n % m)) ∧ w = w' := by
  have hm0 : m ≠ 0 := by omega
  have HE := Lib.hid (mod_eq n m hm hm1)
  go_enter Try.func76, Try.ntmps76
  go_wp2
  go_ret
  exact ⟨ret_int HE.out, rfl⟩
theorem sub_mod_div (x m : Int) (hm : 0 < m) : (x - x % m).tdiv m = x / m := by
  have e : x - x % m = m * (x / m) := by have := Int.mul_ediv_add_emod x m; omega
  rw [e, Int.mul_tdiv_cancel_left _ (by omega)]
theorem sNear_any (n b : Int) (w : World) (hb : 0 < b) (hb1 : b ≤ 1000000000000) (h0 : -1000000000000000000 ≤ n) (h1 : n ≤ 1000000000000000000) : Calls Try.prog 66 #[.int .i64 n, .int .i64 b] w fun e w' => e = .returned (.int .i64 (nearI n b)) ∧ w = w' := by
  have m0 := Int.emod_nonneg (2 * n + b) (show 2 * b ≠ 0 by omega)
  have m1 := Int.emod_lt_of_pos (2 * n + b) (show 0 < 2 * b by omega)
  have HE := Lib.hid (sub_mod_div (2 * n + b) (2 * b) (by omega))
  have hb0 : 2 * b ≠ 0 := by omega
  go_enter Try.func66, Try.ntmps66
  go_wp2_with fail
  refine (sMod_any _ _ _ (by omega) (by omega)).mono ?_; rintro e w1 ⟨rfl, rfl⟩
  go_wp2
  go_ret
  exact ⟨ret_int HE.out, rfl⟩
def yearDayB (d : Int) : Bool := decide (1 ≤ d ∧ d ≤ 366)
theorem yd_any (d : Int) (w : World) : Calls Try.prog 79 #[.int .i64 d] w fun e w' => e = .returned (.bool (yearDayB d)) ∧ w = w' := by
  go_enter Try.func79, Try.ntmps79
  go_wp2_with (go_at_call 55; refine (iInK_any _ _ _ _).mono ?_; rintro e w' ⟨rfl, rfl⟩)
  go_ret
  exact ⟨rfl, rfl⟩
theorem syd_any (d : Int) (w : World) : Calls Try.prog 20 #[.int .i64 d, .int .i64 1, .int .i64 366] w fun e w' => e = .returned (.bool (yearDayB d)) ∧ w = w' := sInK_any d 1 366 w
theorem yearDayB_iff {d : Int} : yearDayB d = true ↔ 1 ≤ d ∧ d ≤ 366 := by unfold yearDayB; simp
/-- The tilt of a day. -/
def tiltI (d : Int) : Int := if yearDayB d = true then nearI (23450 * sinI (360 * (d + 284) / 365)) 1000000 else 0
def errI (d : Int) : Int := if yearDayB d = true then nearI (9870 * sinI (2 * (360 * (d - 81) / 365)) - 7530 * cosI (360 * (d - 81) / 365) - 1500 * sinI (360 * (d - 81) / 365)) 1000000 else 0
theorem iTilt_any (d : Int) (w : World) : Calls Try.prog 68 #[.int .i64 d] w fun e w' => e = .returned (.int .i64 (tiltI d)) ∧ w = w' := by
  cases hd : yearDayB d
  · have E := Lib.hid (show tiltI d = 0 by unfold tiltI; simp [hd])
    go_enter Try.func68, Try.ntmps68
    go_wp2_with fail
    refine (yd_any _ _).mono ?_; rintro e w1 ⟨rfl, rfl⟩
    rw [hd]
    go_wp2
    go_ret
    exact ⟨ret_int E.out.symm, rfl⟩
  · have E := Lib.hid (show tiltI d = nearI (23450 * sinI (360 * (d + 284) / 365)) 1000000 by unfold tiltI; rw [if_pos hd])
    have hb := yearDayB_iff.1 hd
    have hs := sin_bd (360 * (d + 284) / 365)
    go_enter Try.func68, Try.ntmps68
    go_wp2_with fail
    refine (yd_any _ _).mono ?_; rintro e w1 ⟨rfl, rfl⟩
    rw [hd]
    go_wp2_with fail
    refine (qd_any _ _ _ (by omega) (by omega) (by omega) (by omega)).mono ?_; rintro e w1 ⟨rfl, rfl⟩
    go_wp2_with fail
    refine (iSine_any _ _).mono ?_; rintro e w1 ⟨rfl, rfl⟩
    go_wp2_with fail
    refine (near_any _ _ _ (by omega) (by omega) (by omega) (by omega)).mono ?_; rintro e w1 ⟨rfl, rfl⟩
    go_wp2
    go_ret
    exact ⟨ret_int E.out.symm, rfl⟩
theorem sTilt_any (d : Int) (w : World) : Calls Try.prog 44 #[.int .i64 d] w fun e w' => e = .returned (.int .i64 (tiltI d)) ∧ w = w' := by
  cases hd : yearDayB d
  · have E := Lib.hid (show tiltI d = 0 by unfold tiltI; simp [hd])
    go_enter Try.func44, Try.ntmps44
    go_wp2_with fail
    refine (syd_any _ _).mono ?_; rintro e w1 ⟨rfl, rfl⟩
    rw [hd]
    go_wp2
    go_ret
    exact ⟨ret_int E.out.symm, rfl⟩
  · have E := Lib.hid (show tiltI d = nearI (23450 * sinI (360 * (d + 284) / 365)) 1000000 by unfold tiltI; rw [if_pos hd])
    have hb := yearDayB_iff.1 hd
    have hs := sin_bd (360 * (d + 284) / 365)
    go_enter Try.func44, Try.ntmps44
    go_wp2_with fail
    refine (syd_any _ _).mono ?_; rintro e w1 ⟨rfl, rfl⟩
    rw [hd]
    go_wp2_with fail
    refine (sSine_any _ _).mono ?_; rintro e w1 ⟨rfl, rfl⟩
    go_wp2_with fail
    refine (sNear_any _ _ _ (by omega) (by omega) (by omega) (by omega)).mono ?_; rintro e w1 ⟨rfl, rfl⟩
    go_wp2
    go_ret
    exact ⟨ret_int E.out.symm, rfl⟩
theorem err_num (x y z : Int) (hx : -1000 ≤ x ∧ x ≤ 1000) (hy : -1000 ≤ y ∧ y ≤ 1000) (hz : -1000 ≤ z ∧ z ≤ 1000) : True := trivial
/-- Minutes, days, longitudes and zones. -/
def clockB (m d l z : Int) : Bool := decide (0 ≤ m ∧ m ≤ 1439 ∧ 1 ≤ d ∧ d ≤ 366 ∧ -180 ≤ l ∧ l ≤ 180 ∧ -12 ≤ z ∧ z ≤ 14)
theorem clockB_iff {m d l z : Int} : clockB m d l z = true ↔ 0 ≤ m ∧ m ≤ 1439 ∧ 1 ≤ d ∧ d ≤ 366 ∧ -180 ≤ l ∧ l ≤ 180 ∧ -12 ≤ z ∧ z ≤ 14 := by unfold clockB; simp
theorem mv_any (m : Int) (w : World) : Calls Try.prog 56 #[.int .i64 m] w fun e w' => e = .returned (.bool (inK m 0 1439)) ∧ w = w' := by
  go_enter Try.func56, Try.ntmps56
  go_wp2_with (go_at_call 55; refine (iInK_any _ _ _ _).mono ?_; rintro e w' ⟨rfl, rfl⟩)
  go_ret
  exact ⟨rfl, rfl⟩
end Go.Proofs.Ytigndpajpofofaa
