/- Headings, told by what they are. -/
import Derived.Test.YtbiajaafdbbmgadWh
import Derived.Test.YtbiajaafdbbmgadWrl
namespace Go.Proofs.Ytbiajaafdbbmgad
open Go.ChangeShapes Go.WideShapes Go.ChangeAt Go.RowKit
set_option linter.unusedVariables false

theorem HeadIs.bd {p : Int → Bool} {n : Int} (h : HeadIs p n) : 0 ≤ n ∧ n < 360 := by
  rcases h with ⟨h0, h1, _⟩ | ⟨rfl, _⟩ <;> omega
theorem HeadIs.low {p : Int → Bool} {n k : Int} (h : HeadIs p n) (k0 : 0 ≤ k) (k1 : k < n) : p k = true := by
  rcases h with ⟨_, _, _, h3⟩ | ⟨rfl, _⟩
  · exact h3 k k0 k1
  · omega
theorem HeadIs.at_ {p : Int → Bool} {n : Int} (h : HeadIs p n) (hn : ¬ n = 0) : p n = false := by
  rcases h with ⟨_, _, h2, _⟩ | ⟨rfl, _⟩
  · exact h2
  · exact absurd rfl hn
theorem head_two {a b : Int} {n : Int} (hw : wvB (2 * a) (2 * b) = true) (h : HeadIs (headP a b) n) : HeadIs (headP (2 * a) (2 * b)) n := by
  have e : headP (2 * a) (2 * b) = headP a b := by funext k; unfold headP; exact rl_two' hw
  rw [e]; exact h
theorem iHead_n {a b n : Int} (w : World) (h : goB a b = true) (hn : HeadIs (headP a b) n) : Calls Try.prog 43 #[.agg #[.int .i64 a, .int .i64 b]] w fun e w' => e = .returned (.int .i64 n) ∧ Below w.heap.size w w' := by
  refine (iHead_t a b w h).mono ?_
  rintro e w' ⟨m, rfl, hm, hw⟩
  obtain rfl := hn.unique hm
  exact ⟨rfl, hw⟩
theorem iCos_bel (x : Int) (w : World) : Calls Try.prog 40 #[.int .i64 x] w fun e w' => e = .returned (.int .i64 (cosI x)) ∧ Below w.heap.size w w' := by
  refine (iCos_any x w).mono ?_
  rintro e w' ⟨rfl, rfl⟩
  exact ⟨rfl, Below.refl _ _⟩
theorem iSine_bel (x : Int) (w : World) : Calls Try.prog 36 #[.int .i64 x] w fun e w' => e = .returned (.int .i64 (sinI x)) ∧ Below w.heap.size w w' := by
  refine (iSine_any x w).mono ?_
  rintro e w' ⟨rfl, rfl⟩
  exact ⟨rfl, Below.refl _ _⟩
theorem iRL_is {a b c d : Int} {r : Bool} (w : World) (h : rlB a b c d = r) : Calls Try.prog 45 #[.agg #[.int .i64 a, .int .i64 b], .agg #[.int .i64 c, .int .i64 d]] w fun e w' => e = .returned (.bool r) ∧ Below w.heap.size w w' := by
  subst h; exact iRL_any a b c d w
theorem iWV_is {a b : Int} {r : Bool} (w : World) (h : wvB a b = r) : Calls Try.prog 46 #[.agg #[.int .i64 a, .int .i64 b]] w fun e w' => e = .returned (.bool r) ∧ Below w.heap.size w w' := by
  subst h; exact iWV_any a b w
end Go.Proofs.Ytbiajaafdbbmgad
