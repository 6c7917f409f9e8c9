/- Contracts of chapter 3: minutes of sundials and clocks, hour angles. -/
import Derived.Test.YtigndpajpofofaaSk
namespace Go.Proofs.Ytigndpajpofofaa
open Go.ChangeShapes Go.WideShapes Go.ChangeAt Go.RowKit
set_option linter.unusedSimpArgs false
set_option linter.unusedVariables false

/-- A fact of all days of a year, by looking. -/
theorem all367 {p : Int → Bool} (h : (List.range 367).all (fun k => p (k : Int)) = true) (t : Int) (h0 : 0 ≤ t) (h1 : t < 367) : p t = true := by
  have := List.all_eq_true.1 h t.toNat (by rw [List.mem_range]; omega)
  rwa [show ((t.toNat : Nat) : Int) = t by omega] at this
theorem err_all : (List.range 367).all (fun k => decide (-20 ≤ errI (k : Int) ∧ errI (k : Int) ≤ 20 ∧ ((k : Int) = 0 ∨ (k : Int) = 366 ∨ (errI ((k : Int) + 1) - errI (k : Int) ≤ 3 ∧ errI (k : Int) - errI ((k : Int) + 1) ≤ 3)))) = true := by decide +kernel
theorem err_facts (d : Int) (h : yearDayB d = true) : -20 ≤ errI d ∧ errI d ≤ 20 ∧ (d = 366 ∨ (errI (d + 1) - errI d ≤ 3 ∧ errI d - errI (d + 1) ≤ 3)) := by
  have hb := yearDayB_iff.1 h
  have := all367 (p := fun k => decide (-20 ≤ errI k ∧ errI k ≤ 20 ∧ (k = 0 ∨ k = 366 ∨ (errI (k + 1) - errI k ≤ 3 ∧ errI k - errI (k + 1) ≤ 3)))) err_all d (by omega) (by omega)
  have := of_decide_eq_true this
  omega
theorem tilt_all : (List.range 367).all (fun k => decide (-23 ≤ tiltI (k : Int) ∧ tiltI (k : Int) ≤ 23 ∧ ((k : Int) = 0 ∨ (k : Int) = 366 ∨ (tiltI ((k : Int) + 1) - tiltI (k : Int) ≤ 1 ∧ tiltI (k : Int) - tiltI ((k : Int) + 1) ≤ 1)))) = true := by decide +kernel
theorem tilt_facts (d : Int) (h : yearDayB d = true) : -23 ≤ tiltI d ∧ tiltI d ≤ 23 ∧ (d = 366 ∨ (tiltI (d + 1) - tiltI d ≤ 1 ∧ tiltI d - tiltI (d + 1) ≤ 1)) := by
  have hb := yearDayB_iff.1 h
  have := all367 (p := fun k => decide (-23 ≤ tiltI k ∧ tiltI k ≤ 23 ∧ (k = 0 ∨ k = 366 ∨ (tiltI (k + 1) - tiltI k ≤ 1 ∧ tiltI k - tiltI (k + 1) ≤ 1)))) tilt_all d (by omega) (by omega)
  have := of_decide_eq_true this
  omega
theorem err_bd (d : Int) : -20 ≤ errI d ∧ errI d ≤ 20 := by
  cases h : yearDayB d
  · unfold errI; rw [h]; simp
  · have := err_facts d h; omega
theorem tilt_bd (d : Int) : -23 ≤ tiltI d ∧ tiltI d ≤ 23 := by
  cases h : yearDayB d
  · unfold tiltI; rw [h]; simp
  · have := tilt_facts d h; omega
def aheadI (d l z : Int) : Int := 4 * l - 60 * z + errI d
def smI (m d l z : Int) : Int := if clockB m d l z = true then (m + aheadI d l z) % 1440 else -1
def cmI (m d l z : Int) : Int := if clockB m d l z = true then (m - aheadI d l z) % 1440 else -1
def haI (m : Int) : Int := if 0 ≤ m ∧ m ≤ 1439 then (m - 720) / 4 else -181
theorem iHA_any (m : Int) (w : World) : Calls Try.prog 69 #[.int .i64 m] w fun e w' => e = .returned (.int .i64 (haI m)) ∧ w = w' := by
  by_cases h : 0 ≤ m ∧ m ≤ 1439
  · have E := Lib.hid (show haI m = (m - 720) / 4 by unfold haI; rw [if_pos h])
    have hk : inK m 0 1439 = true := by unfold inK; simp; omega
    go_enter Try.func69, Try.ntmps69
    go_wp2_with fail
    refine (mv_any _ _).mono ?_; rintro e w1 ⟨rfl, rfl⟩
    rw [hk]
    go_wp2_with fail
    refine (qd_any _ _ _ (by omega) (by omega) (by omega) (by omega)).mono ?_; rintro e w1 ⟨rfl, rfl⟩
    go_wp2
    go_ret
    exact ⟨ret_int E.out.symm, rfl⟩
  · have E := Lib.hid (show haI m = -181 by unfold haI; rw [if_neg h])
    have hk : inK m 0 1439 = false := by unfold inK; simp; omega
    clear h
    go_enter Try.func69, Try.ntmps69
    go_wp2_with fail
    refine (mv_any _ _).mono ?_; rintro e w1 ⟨rfl, rfl⟩
    rw [hk]
    go_wp2
    go_ret
    exact ⟨ret_int E.out.symm, rfl⟩
theorem sHA_any (m : Int) (w : World) : Calls Try.prog 45 #[.int .i64 m] w fun e w' => e = .returned (.int .i64 (haI m)) ∧ w = w' := by
  by_cases h : 0 ≤ m ∧ m ≤ 1439
  · have E : Hid (haI m = m / 4 - 180) := by show _ = _; unfold haI; rw [if_pos h]; omega
    have hk : inK m 0 1439 = true := by unfold inK; simp; omega
    go_enter Try.func45, Try.ntmps45
    go_wp2_with fail
    refine (sInK_any _ _ _ _).mono ?_; rintro e w1 ⟨rfl, rfl⟩
    rw [hk]
    go_wp2
    go_ret
    exact ⟨ret_int E.out.symm, rfl⟩
  · have E := Lib.hid (show haI m = -181 by unfold haI; rw [if_neg h])
    have hk : inK m 0 1439 = false := by unfold inK; simp; omega
    clear h
    go_enter Try.func45, Try.ntmps45
    go_wp2_with fail
    refine (sInK_any _ _ _ _).mono ?_; rintro e w1 ⟨rfl, rfl⟩
    rw [hk]
    go_wp2
    go_ret
    exact ⟨ret_int E.out.symm, rfl⟩
end Go.Proofs.Ytigndpajpofofaa
