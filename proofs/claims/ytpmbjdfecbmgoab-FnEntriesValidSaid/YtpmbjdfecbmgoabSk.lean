/- Contracts of chapter 3: the tilt, sundials and clocks. -/
import Derived.Test.YtpmbjdfecbmgoabTs
namespace Go.Proofs.Ytpmbjdfecbmgoab
open Go.ChangeShapes Go.WideShapes Go.ChangeAt Go.RowKit
set_option linter.unusedSimpArgs false
set_option linter.unusedVariables false

def inK (n a b : Int) : Bool := decide (a ≤ n ∧ n ≤ b)
theorem sInK_any (n a b : Int) (w : World) :
    Calls Try.prog 34 #[.int .i64 n, .int .i64 a, .int .i64 b] w fun e w' => e = .returned (.bool (inK n a b)) ∧ w = w' := by
  go_enter Try.func34, Try.ntmps34
  go_wp2
  all_goals go_ret
  all_goals exact ⟨ret_bool (by rw [Bool.eq_iff_iff]; simp [inK]; omega), rfl⟩
theorem iInK_any (n a b : Int) (w : World) :
    Calls Try.prog 46 #[.int .i64 n, .int .i64 a, .int .i64 b] w fun e w' => e = .returned (.bool (inK n a b)) ∧ w = w' := by
  go_enter Try.func46, Try.ntmps46
  go_wp2
  all_goals go_ret
  all_goals exact ⟨ret_bool (by rw [Bool.eq_iff_iff]; simp [inK]; omega), rfl⟩
theorem mod_eq (n m : Int) (hm : 0 < m) (hm1 : m ≤ 4000000000000000000) : (wrap64 (n.tmod m + m)).tmod m = n % m := by
  have h1 := Int.mul_tdiv_add_tmod n m
  have h2 := Int.tmod_lt_of_pos n hm
  have h3 := Int.lt_tmod_of_pos n hm
  rw [IntWalk.wrap64_in _ (by omega), Int.tmod_eq_emod_of_nonneg (by omega)]
  rw [Int.add_emod_right]
  have e : n = n.tmod m + m * n.tdiv m := by omega
  conv => rhs; rw [e, Int.add_mul_emod_self_left]
theorem sub_mod_div (x m : Int) (hm : 0 < m) : (x - x % m).tdiv m = x / m := by
  have e : x - x % m = m * (x / m) := by have := Int.mul_ediv_add_emod x m; omega
  rw [e, Int.mul_tdiv_cancel_left _ (by omega)]
def yearDayB (d : Int) : Bool := decide (1 ≤ d ∧ d ≤ 366)
theorem syd_any (d : Int) (w : World) : Calls Try.prog 34 #[.int .i64 d, .int .i64 1, .int .i64 366] w fun e w' => e = .returned (.bool (yearDayB d)) ∧ w = w' := sInK_any d 1 366 w
theorem yearDayB_iff {d : Int} : yearDayB d = true ↔ 1 ≤ d ∧ d ≤ 366 := by unfold yearDayB; simp
/-- The tilt of a day. -/
def tiltI (d : Int) : Int := if yearDayB d = true then nearI (23450 * sinI (360 * (d + 284) / 365)) 1000000 else 0
def errI (d : Int) : Int := if yearDayB d = true then nearI (9870 * sinI (2 * (360 * (d - 81) / 365)) - 7530 * cosI (360 * (d - 81) / 365) - 1500 * sinI (360 * (d - 81) / 365)) 1000000 else 0
theorem err_num (x y z : Int) (hx : -1000 ≤ x ∧ x ≤ 1000) (hy : -1000 ≤ y ∧ y ≤ 1000) (hz : -1000 ≤ z ∧ z ≤ 1000) : True := trivial
/-- Minutes, days, longitudes and zones. -/
def clockB (m d l z : Int) : Bool := decide (0 ≤ m ∧ m ≤ 1439 ∧ 1 ≤ d ∧ d ≤ 366 ∧ -180 ≤ l ∧ l ≤ 180 ∧ -12 ≤ z ∧ z ≤ 14)
theorem clockB_iff {m d l z : Int} : clockB m d l z = true ↔ 0 ≤ m ∧ m ≤ 1439 ∧ 1 ≤ d ∧ d ≤ 366 ∧ -180 ≤ l ∧ l ≤ 180 ∧ -12 ≤ z ∧ z ≤ 14 := by unfold clockB; simp
theorem mv_any (m : Int) (w : World) : Calls Try.prog 41 #[.int .i64 m] w fun e w' => e = .returned (.bool (inK m 0 1439)) ∧ w = w' := by
  go_enter Try.func41, Try.ntmps41
  go_wp2_with (go_at_call 46; refine (iInK_any _ _ _ _).mono ?_; rintro e w' ⟨rfl, rfl⟩)
  go_ret
  exact ⟨rfl, rfl⟩
end Go.Proofs.Ytpmbjdfecbmgoab
