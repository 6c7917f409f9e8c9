/- Contracts of chapter 2 with the result under a name. -/
import Derived.Test.YtbiajaafdbbmgadWa
import Derived.Test.YtbiajaafdbbmgadHlp
namespace Go.Proofs.Ytbiajaafdbbmgad
open Go.ChangeShapes Go.WideShapes Go.ChangeAt Go.RowKit
set_option linter.unusedSimpArgs false
set_option linter.unusedVariables false

theorem mul_bnd {x y B : Int} (h0 : -B ≤ x) (h1 : x ≤ B) (k0 : -B ≤ y) (k1 : y ≤ B) : -(B * B) ≤ x * y ∧ x * y ≤ B * B := by
  have e1 : 0 ≤ (B - x) * (B + y) := Int.mul_nonneg (by omega) (by omega)
  have e2 : 0 ≤ (B + x) * (B - y) := Int.mul_nonneg (by omega) (by omega)
  have e3 : 0 ≤ (B - x) * (B - y) := Int.mul_nonneg (by omega) (by omega)
  have e4 : 0 ≤ (B + x) * (B + y) := Int.mul_nonneg (by omega) (by omega)
  have a1 : (B - x) * (B + y) = B * B + B * y - B * x - x * y := by grind
  have a2 : (B + x) * (B - y) = B * B - B * y + B * x - x * y := by grind
  have a3 : (B - x) * (B - y) = B * B - B * y - B * x + x * y := by grind
  have a4 : (B + x) * (B + y) = B * B + B * y + B * x + x * y := by grind
  omega
theorem add_is {a c : Int} (h : -9000000000000000000 ≤ a + c ∧ a + c ≤ 9000000000000000000) : addW a c = a + c := w64_in (by omega) (by omega)
theorem dot_is {a b c d : Int} (ha : -2000000000 ≤ a ∧ a ≤ 2000000000) (hb : -2000000000 ≤ b ∧ b ≤ 2000000000) (hc : -2000000000 ≤ c ∧ c ≤ 2000000000) (hd : -2000000000 ≤ d ∧ d ≤ 2000000000) : dotW a b c d = a * c + b * d := by
  have h1 := mul_bnd ha.1 ha.2 hc.1 hc.2
  have h2 := mul_bnd hb.1 hb.2 hd.1 hd.2
  unfold dotW
  rw [w64_in (x := a * c) (by omega) (by omega), w64_in (x := b * d) (by omega) (by omega), w64_in (by omega) (by omega)]
theorem cross_is {a b c d : Int} (ha : -2000000000 ≤ a ∧ a ≤ 2000000000) (hb : -2000000000 ≤ b ∧ b ≤ 2000000000) (hc : -2000000000 ≤ c ∧ c ≤ 2000000000) (hd : -2000000000 ≤ d ∧ d ≤ 2000000000) : crossW a b c d = a * d - b * c := by
  have h1 := mul_bnd ha.1 ha.2 hd.1 hd.2
  have h2 := mul_bnd hb.1 hb.2 hc.1 hc.2
  unfold crossW
  rw [w64_in (x := a * d) (by omega) (by omega), w64_in (x := b * c) (by omega) (by omega), w64_in (by omega) (by omega)]
theorem tE_is {a b c d : Int} (ha : -2000000000 ≤ a ∧ a ≤ 2000000000) (hb : -2000000000 ≤ b ∧ b ≤ 2000000000) (hc : -2000000000 ≤ c ∧ c ≤ 2000000000) (hd : -2000000000 ≤ d ∧ d ≤ 2000000000) : w64 (w64 (a * c) - w64 (b * d)) = a * c - b * d := by
  have h1 := mul_bnd ha.1 ha.2 hc.1 hc.2
  have h2 := mul_bnd hb.1 hb.2 hd.1 hd.2
  rw [w64_in (x := a * c) (by omega) (by omega), w64_in (x := b * d) (by omega) (by omega), w64_in (by omega) (by omega)]
theorem tN_is {a b c d : Int} (ha : -2000000000 ≤ a ∧ a ≤ 2000000000) (hb : -2000000000 ≤ b ∧ b ≤ 2000000000) (hc : -2000000000 ≤ c ∧ c ≤ 2000000000) (hd : -2000000000 ≤ d ∧ d ≤ 2000000000) : w64 (w64 (a * d) + w64 (b * c)) = a * d + b * c := by
  have h1 := mul_bnd ha.1 ha.2 hd.1 hd.2
  have h2 := mul_bnd hb.1 hb.2 hc.1 hc.2
  rw [w64_in (x := a * d) (by omega) (by omega), w64_in (x := b * c) (by omega) (by omega), w64_in (by omega) (by omega)]
theorem neg_is {b : Int} (h : -9000000000000000000 ≤ b ∧ b ≤ 9000000000000000000) : w64 (-b) = -b := w64_in (by omega) (by omega)
/-- A sum within a drawn region. -/
theorem wr_is {x : Int} (h0 : -9000000000000000000 ≤ x) (h1 : x ≤ 9000000000000000000) : IntKind.i64.wrap x = x := IntWalk.i64_in _ (by omega)
theorem iCro_is {a b c d r : Int} (w : World) (h1 : crossW a b c d = r) : Calls Try.prog 85 #[.agg #[.int .i64 a, .int .i64 b], .agg #[.int .i64 c, .int .i64 d]] w fun e w' => e = .returned (.int .i64 r) ∧ Below w.heap.size w w' := by subst h1; exact iCro_any a b c d w
theorem sCro_is {a b c d r : Int} (w : World) (h1 : crossW a b c d = r) : Calls Try.prog 83 #[.agg #[.int .i64 a, .int .i64 b], .agg #[.int .i64 c, .int .i64 d]] w fun e w' => e = .returned (.int .i64 r) ∧ Below w.heap.size w w' := by subst h1; exact sCro_any a b c d w
end Go.Proofs.Ytbiajaafdbbmgad
