/- Contracts: turns, sines and cosines, division rounded down and to the nearest. -/
import Derived.Test.YtpmbjdfecbmgoabRows
import Derived.Test.YtpmbjdfecbmgoabHelp
import Derived.Test.YtpmbjdfecbmgoabSin
namespace Go.Proofs.Ytpmbjdfecbmgoab
open Go.ChangeShapes Go.WideShapes Go.ChangeAt Go.RowKit
set_option linter.unusedSimpArgs false
set_option linter.unusedVariables false

theorem turn_eq (a : Int) : (wrap64 (a.tmod 360 + 360)).tmod 360 = a % 360 := by
  have h1 := Int.tmod_add_mul_tdiv a 360
  have h2 := Int.tmod_lt_of_pos a (b := 360) (by omega)
  have h3 := Int.lt_tmod_of_pos a (b := 360) (by omega)
  rw [IntWalk.wrap64_in _ (by omega), Int.tmod_eq_emod_of_nonneg (by omega)]
  omega
theorem tmod_bd (n b : Int) (hb : 0 < b) (hb1 : b ≤ 4000000000000000000) : -9000000000000000000 ≤ n.tmod b ∧ n.tmod b ≤ 9000000000000000000 := by
  have h1 := Int.tmod_lt_of_pos n hb
  have h2 := Int.lt_tmod_of_pos n hb
  omega
theorem tdiv_bd (n b : Int) (hb : 0 < b) (h0 : -9000000000000000000 ≤ n) (h1 : n ≤ 9000000000000000000) : -9000000000000000000 ≤ n.tdiv b ∧ n.tdiv b ≤ 9000000000000000000 := by
  have := Int.natAbs_tdiv_le_natAbs n b
  omega
theorem tdiv_dn (n b : Int) (hb : 0 < b) (h0 : -9000000000000000000 ≤ n) (h1 : n ≤ 9000000000000000000) (hn : n.tmod b < 0) : n.tdiv b - 1 = n / b ∧ -9000000000000000000 ≤ n.tdiv b ∧ n.tdiv b ≤ 9000000000000000000 := by
  refine ⟨?_, tdiv_bd n b hb h0 h1⟩
  have e1 := Int.mul_tdiv_add_tmod n b
  have e2 := Int.lt_tmod_of_pos n hb
  have e3 : n = b * (n.tdiv b - 1) + (n.tmod b + b) := by rw [Int.mul_sub]; omega
  symm
  exact ((Int.ediv_emod_unique (a := n) (b := b) (r := n.tmod b + b) (q := n.tdiv b - 1) hb).2 ⟨by omega, by omega, by omega⟩).1
theorem tdiv_up (n b : Int) (hb : 0 < b) (h0 : -9000000000000000000 ≤ n) (h1 : n ≤ 9000000000000000000) (hn : ¬ n.tmod b < 0) : n.tdiv b = n / b ∧ -9000000000000000000 ≤ n.tdiv b ∧ n.tdiv b ≤ 9000000000000000000 := by
  refine ⟨?_, tdiv_bd n b hb h0 h1⟩
  have e1 := Int.mul_tdiv_add_tmod n b
  have e2 := Int.tmod_lt_of_pos n hb
  symm
  exact ((Int.ediv_emod_unique (a := n) (b := b) (r := n.tmod b) (q := n.tdiv b) hb).2 ⟨by omega, by omega, by omega⟩).1
/-- Division rounded down. -/
theorem qd_any (n b : Int) (w : World) (hb : 0 < b) (hb1 : b ≤ 4000000000000000000) (h0 : -9000000000000000000 ≤ n) (h1 : n ≤ 9000000000000000000) : Calls Try.prog 50 #[.int .i64 n, .int .i64 b] w fun e w' => e = .returned (.int .i64 (n / b)) ∧ w = w' := by
  have e1 := Int.mul_ediv_add_emod n b
  have e2 := Int.emod_nonneg n (show b ≠ 0 by omega)
  have e3 := Int.emod_lt_of_pos n hb
  have hb0 : b ≠ 0 := by omega
  by_cases hn : n.tmod b < 0
  · have hq : n.tdiv b - 1 = n / b ∧ -9000000000000000000 ≤ n.tdiv b ∧ n.tdiv b ≤ 9000000000000000000 := tdiv_dn n b hb h0 h1 hn
    have hr : -9000000000000000000 ≤ n.tmod b ∧ n.tmod b ≤ 9000000000000000000 := tmod_bd n b hb hb1
    obtain ⟨hq1, q0, q1⟩ := hq
    clear e1 e2 e3
    go_enter Try.func50, Try.ntmps50
    go_wp2
    go_ret
    exact ⟨rfl, rfl⟩
  · have hq : n.tdiv b = n / b ∧ -9000000000000000000 ≤ n.tdiv b ∧ n.tdiv b ≤ 9000000000000000000 := tdiv_up n b hb h0 h1 hn
    have hr : -9000000000000000000 ≤ n.tmod b ∧ n.tmod b ≤ 9000000000000000000 := tmod_bd n b hb hb1
    obtain ⟨hq1, q0, q1⟩ := hq
    clear e1 e2 e3
    go_enter Try.func50, Try.ntmps50
    go_wp2
    go_ret
    exact ⟨rfl, rfl⟩
def nearI (n b : Int) : Int := (2 * n + b) / (2 * b)
theorem near_sin (x : Int) : nearI (4000 * (x * (180 - x))) (40500 - x * (180 - x)) = sin0 x := (sin0_eq x).symm
end Go.Proofs.Ytpmbjdfecbmgoab
