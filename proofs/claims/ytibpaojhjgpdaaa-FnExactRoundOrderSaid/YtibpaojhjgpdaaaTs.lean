/- Contracts: turns, sines and cosines, division rounded down and to the nearest. -/
import Derived.Test.YtibpaojhjgpdaaaRows
import Derived.Test.YtibpaojhjgpdaaaHelp
import Derived.Test.YtibpaojhjgpdaaaSin
namespace Go.Proofs.Ytibpaojhjgpdaaa
open Go.ChangeShapes Go.WideShapes Go.ChangeAt Go.RowKit
set_option linter.unusedSimpArgs false
set_option linter.unusedVariables false

theorem turn_eq (a : Int) : (wrap64 (a.tmod 360 + 360)).tmod 360 = a % 360 := by
  have h1 := Int.tmod_add_mul_tdiv a 360
  have h2 := Int.tmod_lt_of_pos a (b := 360) (by omega)
  have h3 := Int.lt_tmod_of_pos a (b := 360) (by omega)
  rw [IntWalk.wrap64_in _ (by omega), Int.tmod_eq_emod_of_nonneg (by omega)]
  omega
theorem tmod_bd (n b : Int) (hb : 0 < b) (hb1 : b ≤ 4000000000000000000) : -9000000000000000000 ≤ n.tmod b ∧ n.tmod b ≤ 9000000000000000000 := by
  have h1 := Int.tmod_lt_of_pos n hb
  have h2 := Int.lt_tmod_of_pos n hb
  omega
theorem tdiv_bd (n b : Int) (hb : 0 < b) (h0 : -9000000000000000000 ≤ n) (h1 : n ≤ 9000000000000000000) : -9000000000000000000 ≤ n.tdiv b ∧ n.tdiv b ≤ 9000000000000000000 := by
  have := Int.natAbs_tdiv_le_natAbs n b
  omega
theorem tdiv_dn (n b : Int) (hb : 0 < b) (h0 : -9000000000000000000 ≤ n) (h1 : n ≤ 9000000000000000000) (hn : n.tmod b < 0) : n.tdiv b - 1 = n / b ∧ -9000000000000000000 ≤ n.tdiv b ∧ n.tdiv b ≤ 9000000000000000000 := by
  refine ⟨?_, tdiv_bd n b hb h0 h1⟩
  have e1 := Int.mul_tdiv_add_tmod n b
  have e2 := Int.lt_tmod_of_pos n hb
  have e3 : n = b * (n.tdiv b - 1) + (n.tmod b + b) := by rw [Int.mul_sub]; omega
  symm
  exact ((Int.ediv_emod_unique (a := n) (b := b) (r := n.tmod b + b) (q := n.tdiv b - 1) hb).2 ⟨by omega, by omega, by omega⟩).1
theorem tdiv_up (n b : Int) (hb : 0 < b) (h0 : -9000000000000000000 ≤ n) (h1 : n ≤ 9000000000000000000) (hn : ¬ n.tmod b < 0) : n.tdiv b = n / b ∧ -9000000000000000000 ≤ n.tdiv b ∧ n.tdiv b ≤ 9000000000000000000 := by
  refine ⟨?_, tdiv_bd n b hb h0 h1⟩
  have e1 := Int.mul_tdiv_add_tmod n b
  have e2 := Int.tmod_lt_of_pos n hb
  symm
  exact ((Int.ediv_emod_unique (a := n) (b := b) (r := n.tmod b) (q := n.tdiv b) hb).2 ⟨by omega, by omega, by omega⟩).1
def nearI (n b : Int) : Int := (2 * n + b) / (2 * b)
theorem near_sin (x : Int) : nearI (4000 * (x * (180 - x))) (40500 - x * (180 - x)) = sin0 x := (sin0_eq x).symm
end Go.Proofs.Ytibpaojhjgpdaaa
