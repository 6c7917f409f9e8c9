/- Contracts of chapter 3: minutes of sundials and clocks, hour angles. -/
import Derived.Test.YtbiajaafdbbmgadSk
namespace Go.Proofs.Ytbiajaafdbbmgad
open Go.ChangeShapes Go.WideShapes Go.ChangeAt Go.RowKit
set_option linter.unusedSimpArgs false
set_option linter.unusedVariables false

/-- A fact of all days of a year, by looking. -/
theorem all367 {p : Int → Bool} (h : (List.range 367).all (fun k => p (k : Int)) = true) (t : Int) (h0 : 0 ≤ t) (h1 : t < 367) : p t = true := by
  have := List.all_eq_true.1 h t.toNat (by rw [List.mem_range]; omega)
  rwa [show ((t.toNat : Nat) : Int) = t by omega] at this
theorem err_all : (List.range 367).all (fun k => decide (-20 ≤ errI (k : Int) ∧ errI (k : Int) ≤ 20 ∧ ((k : Int) = 0 ∨ (k : Int) = 366 ∨ (errI ((k : Int) + 1) - errI (k : Int) ≤ 3 ∧ errI (k : Int) - errI ((k : Int) + 1) ≤ 3)))) = true := by decide +kernel
theorem err_facts (d : Int) (h : yearDayB d = true) : -20 ≤ errI d ∧ errI d ≤ 20 ∧ (d = 366 ∨ (errI (d + 1) - errI d ≤ 3 ∧ errI d - errI (d + 1) ≤ 3)) := by
  have hb := yearDayB_iff.1 h
  have := all367 (p := fun k => decide (-20 ≤ errI k ∧ errI k ≤ 20 ∧ (k = 0 ∨ k = 366 ∨ (errI (k + 1) - errI k ≤ 3 ∧ errI k - errI (k + 1) ≤ 3)))) err_all d (by omega) (by omega)
  have := of_decide_eq_true this
  omega
theorem tilt_all : (List.range 367).all (fun k => decide (-23 ≤ tiltI (k : Int) ∧ tiltI (k : Int) ≤ 23 ∧ ((k : Int) = 0 ∨ (k : Int) = 366 ∨ (tiltI ((k : Int) + 1) - tiltI (k : Int) ≤ 1 ∧ tiltI (k : Int) - tiltI ((k : Int) + 1) ≤ 1)))) = true := by decide +kernel
theorem tilt_facts (d : Int) (h : yearDayB d = true) : -23 ≤ tiltI d ∧ tiltI d ≤ 23 ∧ (d = 366 ∨ (tiltI (d + 1) - tiltI d ≤ 1 ∧ tiltI d - tiltI (d + 1) ≤ 1)) := by
  have hb := yearDayB_iff.1 h
  have := all367 (p := fun k => decide (-23 ≤ tiltI k ∧ tiltI k ≤ 23 ∧ (k = 0 ∨ k = 366 ∨ (tiltI (k + 1) - tiltI k ≤ 1 ∧ tiltI k - tiltI (k + 1) ≤ 1)))) tilt_all d (by omega) (by omega)
  have := of_decide_eq_true this
  omega
theorem err_bd (d : Int) : -20 ≤ errI d ∧ errI d ≤ 20 := by
  cases h : yearDayB d
  · unfold errI; rw [h]; simp
  · have := err_facts d h; omega
theorem tilt_bd (d : Int) : -23 ≤ tiltI d ∧ tiltI d ≤ 23 := by
  cases h : yearDayB d
  · unfold tiltI; rw [h]; simp
  · have := tilt_facts d h; omega
def aheadI (d l z : Int) : Int := 4 * l - 60 * z + errI d
def smI (m d l z : Int) : Int := if clockB m d l z = true then (m + aheadI d l z) % 1440 else -1
def cmI (m d l z : Int) : Int := if clockB m d l z = true then (m - aheadI d l z) % 1440 else -1
theorem mod_any (m : Int) (w : World) (h0 : -100000 ≤ m) (h1 : m ≤ 100000) : Calls Try.prog 64 #[.int .i64 m] w fun e w' => e = .returned (.int .i64 (m % 1440)) ∧ w = w' := by
  have HE : Hid (m - m / 1440 * 1440 = m % 1440) := by show _ = _; omega
  go_enter Try.func64, Try.ntmps64
  go_wp2_with fail
  refine (qd_any _ _ _ (by omega) (by omega) (by omega) (by omega)).mono ?_; rintro e w1 ⟨rfl, rfl⟩
  go_wp2
  go_ret
  exact ⟨ret_int HE.out, rfl⟩
theorem ah_any (d l z : Int) (w : World) (l0 : -180 ≤ l) (l1 : l ≤ 180) (z0 : -12 ≤ z) (z1 : z ≤ 14) : Calls Try.prog 65 #[.int .i64 d, .int .i64 l, .int .i64 z] w fun e w' => e = .returned (.int .i64 (aheadI d l z)) ∧ w = w' := by
  have hb := err_bd d
  have HE := Lib.hid (show aheadI d l z = 4 * l - 60 * z + errI d from rfl)
  go_enter Try.func65, Try.ntmps65
  go_wp2_with fail
  refine (iErr_any _ _).mono ?_; rintro e w1 ⟨rfl, rfl⟩
  go_wp2
  go_ret
  exact ⟨ret_int HE.out.symm, rfl⟩
theorem iSunMinute_any (m d l z : Int) (w : World) : Calls Try.prog 27 #[.int .i64 m, .int .i64 d, .int .i64 l, .int .i64 z] w fun e w' => e = .returned (.int .i64 (smI m d l z)) ∧ w = w' := by
  cases hc : clockB m d l z
  · have E := Lib.hid (show smI m d l z = -1 by unfold smI; simp [hc])
    go_enter Try.func27, Try.ntmps27
    go_wp2_with fail
    refine (clv_any _ _ _ _ _).mono ?_; rintro e w1 ⟨rfl, rfl⟩
    rw [hc]
    go_wp2
    go_ret
    exact ⟨ret_int E.out.symm, rfl⟩
  · have E := Lib.hid (show smI m d l z = (m + aheadI d l z) % 1440 by unfold smI; rw [if_pos hc])
    have hb := clockB_iff.1 hc
    have ha : -2000 ≤ aheadI d l z ∧ aheadI d l z ≤ 2000 := by have := err_bd d; unfold aheadI; omega
    go_enter Try.func27, Try.ntmps27
    go_wp2_with fail
    refine (clv_any _ _ _ _ _).mono ?_; rintro e w1 ⟨rfl, rfl⟩
    rw [hc]
    go_wp2_with fail
    refine (ah_any _ _ _ _ (by omega) (by omega) (by omega) (by omega)).mono ?_; rintro e w1 ⟨rfl, rfl⟩
    go_wp2_with fail
    refine (mod_any _ _ (by omega) (by omega)).mono ?_; rintro e w1 ⟨rfl, rfl⟩
    go_wp2
    go_ret
    exact ⟨ret_int E.out.symm, rfl⟩
theorem sSunMinute_any (m d l z : Int) (w : World) : Calls Try.prog 28 #[.int .i64 m, .int .i64 d, .int .i64 l, .int .i64 z] w fun e w' => e = .returned (.int .i64 (smI m d l z)) ∧ w = w' := by
  cases hc : clockB m d l z
  · have E := Lib.hid (show smI m d l z = -1 by unfold smI; simp [hc])
    have hb : ¬ (0 ≤ m ∧ m ≤ 1439 ∧ 1 ≤ d ∧ d ≤ 366 ∧ -180 ≤ l ∧ l ≤ 180 ∧ -12 ≤ z ∧ z ≤ 14) := fun h => by rw [clockB_iff.2 h] at hc; cases hc
    have hf : inK m 0 1439 = false ∨ (inK m 0 1439 = true ∧ inK d 1 366 = false) ∨ (inK m 0 1439 = true ∧ inK d 1 366 = true ∧ inK l (-180) 180 = false) ∨ (inK m 0 1439 = true ∧ inK d 1 366 = true ∧ inK l (-180) 180 = true ∧ inK z (-12) 14 = false) := by
      unfold inK; simp only [decide_eq_true_eq, decide_eq_false_iff_not]; omega
    clear hb
    rcases hf with h | ⟨h, h2⟩ | ⟨h, h2, h3⟩ | ⟨h, h2, h3, h4⟩
    all_goals
      go_enter Try.func28, Try.ntmps28
      go_wp2_with (go_at_call 52; refine (sInK_any _ _ _ _).mono ?_; rintro e w' ⟨rfl, rfl⟩)
      go_ret
      exact ⟨ret_int E.out.symm, rfl⟩
  · have hb := clockB_iff.1 hc
    have he := err_bd d
    have E : Hid (smI m d l z = (m + 4 * l - 60 * z + errI d) % 1440) := by show _ = _; unfold smI aheadI; rw [if_pos hc]; congr 1; omega
    have h1 : inK m 0 1439 = true := by unfold inK; simp; omega
    have h2 : inK d 1 366 = true := by unfold inK; simp; omega
    have h3 : inK l (-180) 180 = true := by unfold inK; simp; omega
    have h4 : inK z (-12) 14 = true := by unfold inK; simp; omega
    go_enter Try.func28, Try.ntmps28
    go_wp2_with (first | (go_at_call 52; refine (sInK_any _ _ _ _).mono ?_; rintro e w' ⟨rfl, rfl⟩) | (go_at_call 25; refine (sErr_any _ _).mono ?_; rintro e w' ⟨rfl, rfl⟩) | (go_at_call 61; refine (sMod_any _ _ _ (by omega) (by omega)).mono ?_; rintro e w' ⟨rfl, rfl⟩))
    go_ret
    exact ⟨ret_int E.out.symm, rfl⟩
theorem iClockMinute_any (m d l z : Int) (w : World) : Calls Try.prog 29 #[.int .i64 m, .int .i64 d, .int .i64 l, .int .i64 z] w fun e w' => e = .returned (.int .i64 (cmI m d l z)) ∧ w = w' := by
  cases hc : clockB m d l z
  · have E := Lib.hid (show cmI m d l z = -1 by unfold cmI; simp [hc])
    go_enter Try.func29, Try.ntmps29
    go_wp2_with fail
    refine (clv_any _ _ _ _ _).mono ?_; rintro e w1 ⟨rfl, rfl⟩
    rw [hc]
    go_wp2
    go_ret
    exact ⟨ret_int E.out.symm, rfl⟩
  · have E := Lib.hid (show cmI m d l z = (m - aheadI d l z) % 1440 by unfold cmI; rw [if_pos hc])
    have hb := clockB_iff.1 hc
    have ha : -2000 ≤ aheadI d l z ∧ aheadI d l z ≤ 2000 := by have := err_bd d; unfold aheadI; omega
    go_enter Try.func29, Try.ntmps29
    go_wp2_with fail
    refine (clv_any _ _ _ _ _).mono ?_; rintro e w1 ⟨rfl, rfl⟩
    rw [hc]
    go_wp2_with fail
    refine (ah_any _ _ _ _ (by omega) (by omega) (by omega) (by omega)).mono ?_; rintro e w1 ⟨rfl, rfl⟩
    go_wp2_with fail
    refine (mod_any _ _ (by omega) (by omega)).mono ?_; rintro e w1 ⟨rfl, rfl⟩
    go_wp2
    go_ret
    exact ⟨ret_int E.out.symm, rfl⟩
theorem sClockMinute_any (m d l z : Int) (w : World) : Calls Try.prog 31 #[.int .i64 m, .int .i64 d, .int .i64 l, .int .i64 z] w fun e w' => e = .returned (.int .i64 (cmI m d l z)) ∧ w = w' := by
  cases hc : clockB m d l z
  · have E := Lib.hid (show cmI m d l z = -1 by unfold cmI; simp [hc])
    have hb : ¬ (0 ≤ m ∧ m ≤ 1439 ∧ 1 ≤ d ∧ d ≤ 366 ∧ -180 ≤ l ∧ l ≤ 180 ∧ -12 ≤ z ∧ z ≤ 14) := fun h => by rw [clockB_iff.2 h] at hc; cases hc
    have hf : inK m 0 1439 = false ∨ (inK m 0 1439 = true ∧ inK d 1 366 = false) ∨ (inK m 0 1439 = true ∧ inK d 1 366 = true ∧ inK l (-180) 180 = false) ∨ (inK m 0 1439 = true ∧ inK d 1 366 = true ∧ inK l (-180) 180 = true ∧ inK z (-12) 14 = false) := by
      unfold inK; simp only [decide_eq_true_eq, decide_eq_false_iff_not]; omega
    clear hb
    rcases hf with h | ⟨h, h2⟩ | ⟨h, h2, h3⟩ | ⟨h, h2, h3, h4⟩
    all_goals
      go_enter Try.func31, Try.ntmps31
      go_wp2_with (go_at_call 52; refine (sInK_any _ _ _ _).mono ?_; rintro e w' ⟨rfl, rfl⟩)
      go_ret
      exact ⟨ret_int E.out.symm, rfl⟩
  · have hb := clockB_iff.1 hc
    have he := err_bd d
    have E : Hid (cmI m d l z = (m - 4 * l + 60 * z - errI d) % 1440) := by show _ = _; unfold cmI aheadI; rw [if_pos hc]; congr 1; omega
    have h1 : inK m 0 1439 = true := by unfold inK; simp; omega
    have h2 : inK d 1 366 = true := by unfold inK; simp; omega
    have h3 : inK l (-180) 180 = true := by unfold inK; simp; omega
    have h4 : inK z (-12) 14 = true := by unfold inK; simp; omega
    go_enter Try.func31, Try.ntmps31
    go_wp2_with (first | (go_at_call 52; refine (sInK_any _ _ _ _).mono ?_; rintro e w' ⟨rfl, rfl⟩) | (go_at_call 25; refine (sErr_any _ _).mono ?_; rintro e w' ⟨rfl, rfl⟩) | (go_at_call 61; refine (sMod_any _ _ _ (by omega) (by omega)).mono ?_; rintro e w' ⟨rfl, rfl⟩))
    go_ret
    exact ⟨ret_int E.out.symm, rfl⟩
def haI (m : Int) : Int := if 0 ≤ m ∧ m ≤ 1439 then (m - 720) / 4 else -181
theorem iHA_any (m : Int) (w : World) : Calls Try.prog 33 #[.int .i64 m] w fun e w' => e = .returned (.int .i64 (haI m)) ∧ w = w' := by
  by_cases h : 0 ≤ m ∧ m ≤ 1439
  · have E := Lib.hid (show haI m = (m - 720) / 4 by unfold haI; rw [if_pos h])
    have hk : inK m 0 1439 = true := by unfold inK; simp; omega
    go_enter Try.func33, Try.ntmps33
    go_wp2_with fail
    refine (mv_any _ _).mono ?_; rintro e w1 ⟨rfl, rfl⟩
    rw [hk]
    go_wp2_with fail
    refine (qd_any _ _ _ (by omega) (by omega) (by omega) (by omega)).mono ?_; rintro e w1 ⟨rfl, rfl⟩
    go_wp2
    go_ret
    exact ⟨ret_int E.out.symm, rfl⟩
  · have E := Lib.hid (show haI m = -181 by unfold haI; rw [if_neg h])
    have hk : inK m 0 1439 = false := by unfold inK; simp; omega
    clear h
    go_enter Try.func33, Try.ntmps33
    go_wp2_with fail
    refine (mv_any _ _).mono ?_; rintro e w1 ⟨rfl, rfl⟩
    rw [hk]
    go_wp2
    go_ret
    exact ⟨ret_int E.out.symm, rfl⟩
theorem sHA_any (m : Int) (w : World) : Calls Try.prog 34 #[.int .i64 m] w fun e w' => e = .returned (.int .i64 (haI m)) ∧ w = w' := by
  by_cases h : 0 ≤ m ∧ m ≤ 1439
  · have E : Hid (haI m = m / 4 - 180) := by show _ = _; unfold haI; rw [if_pos h]; omega
    have hk : inK m 0 1439 = true := by unfold inK; simp; omega
    go_enter Try.func34, Try.ntmps34
    go_wp2_with fail
    refine (sInK_any _ _ _ _).mono ?_; rintro e w1 ⟨rfl, rfl⟩
    rw [hk]
    go_wp2
    go_ret
    exact ⟨ret_int E.out.symm, rfl⟩
  · have E := Lib.hid (show haI m = -181 by unfold haI; rw [if_neg h])
    have hk : inK m 0 1439 = false := by unfold inK; simp; omega
    clear h
    go_enter Try.func34, Try.ntmps34
    go_wp2_with fail
    refine (sInK_any _ _ _ _).mono ?_; rintro e w1 ⟨rfl, rfl⟩
    rw [hk]
    go_wp2
    go_ret
    exact ⟨ret_int E.out.symm, rfl⟩
end Go.Proofs.Ytbiajaafdbbmgad
