/- Contracts of chapter 2: orders of ways, angles, sines. -/
import Derived.Test.YtgbelpkhfaajoabWa
import Derived.Test.YtgbelpkhfaajoabTs
import Derived.Test.YtgbelpkhfaajoabHlp
namespace Go.Proofs.Ytgbelpkhfaajoab
open Go.ChangeShapes Go.WideShapes Go.ChangeAt Go.RowKit
set_option linter.unusedSimpArgs false
set_option linter.unusedVariables false

theorem iGo_any (a b : Int) (w : World) :
    Calls Try.prog 58 #[.agg #[.int .i64 a, .int .i64 b]] w fun e w' => e = .returned (.bool (goB a b)) ∧ Below w.heap.size w w' := by
  cases h : wvB a b
  all_goals
    go_enter Try.func58, Try.ntmps58
    go_wp2_with fail
    refine (iWV_any _ _ _).mono ?_; rintro e w1 ⟨rfl, hw⟩
    obtain ⟨hH, hB⟩ := ownb hw
    obtain ⟨c0, c1, f0, f1, hz⟩ := blk2 hH
    go_wp2
    all_goals go_ret
    all_goals exact ⟨ret_bool (by unfold goB; simp_all), hB⟩
/-- Bounds that keep the cross in the machine's numbers. -/
theorem mul_bd {x y B : Int} (h0 : -B ≤ x) (h1 : x ≤ B) (k0 : -B ≤ y) (k1 : y ≤ B) (hB : 0 ≤ B) : -(B * B) ≤ x * y ∧ x * y ≤ B * B := by
  have e1 : 0 ≤ (B - x) * (B + y) := Int.mul_nonneg (by omega) (by omega)
  have e2 : 0 ≤ (B + x) * (B - y) := Int.mul_nonneg (by omega) (by omega)
  have e3 : 0 ≤ (B - x) * (B - y) := Int.mul_nonneg (by omega) (by omega)
  have e4 : 0 ≤ (B + x) * (B + y) := Int.mul_nonneg (by omega) (by omega)
  have a1 : (B - x) * (B + y) = B * B + B * y - B * x - x * y := by grind
  have a2 : (B + x) * (B - y) = B * B - B * y + B * x - x * y := by grind
  have a3 : (B - x) * (B - y) = B * B - B * y - B * x + x * y := by grind
  have a4 : (B + x) * (B + y) = B * B + B * y + B * x + x * y := by grind
  omega
/-- Numbers up to a million either way. -/
def Sm (B x : Int) : Prop := -B ≤ x ∧ x ≤ B
theorem cross_in {a b c d : Int} (ha : Sm 1000000000 a) (hb : Sm 1000000000 b) (hc : Sm 1000000000 c) (hd : Sm 1000000000 d) : crossW a b c d = a * d - b * c := by
  have h1 := mul_bd ha.1 ha.2 hd.1 hd.2 (by omega)
  have h2 := mul_bd hb.1 hb.2 hc.1 hc.2 (by omega)
  unfold crossW
  rw [w64_in (x := a * d) (by omega) (by omega), w64_in (x := b * c) (by omega) (by omega), w64_in (by omega) (by omega)]
theorem dot_in {a b c d : Int} (ha : Sm 1000000000 a) (hb : Sm 1000000000 b) (hc : Sm 1000000000 c) (hd : Sm 1000000000 d) : dotW a b c d = a * c + b * d := by
  have h1 := mul_bd ha.1 ha.2 hc.1 hc.2 (by omega)
  have h2 := mul_bd hb.1 hb.2 hd.1 hd.2 (by omega)
  unfold dotW
  rw [w64_in (x := a * c) (by omega) (by omega), w64_in (x := b * d) (by omega) (by omega), w64_in (by omega) (by omega)]
theorem go_sm {a b : Int} (h : goB a b = true) : Sm 1000000000 a ∧ Sm 1000000000 b := by
  have := goB_iff.1 h; unfold Sm; omega
theorem go_cross {a b c d : Int} (h : goB a b = true) (k : goB c d = true) : crossW a b c d = a * d - b * c :=
  cross_in (go_sm h).1 (go_sm h).2 (go_sm k).1 (go_sm k).2
theorem go_half {a b : Int} (h : goB a b = true) : 0 ≤ halfI a b ∧ halfI a b ≤ 1 := by
  have := goB_iff.1 h; have h1 := half_cases a b; have h2 := @half_nil a b; omega
end Go.Proofs.Ytgbelpkhfaajoab
