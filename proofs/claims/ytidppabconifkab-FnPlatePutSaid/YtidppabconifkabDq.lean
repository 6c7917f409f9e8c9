/- What the laws of plates draw out of a code. -/
import Derived.Test.YtidppabconifkabDp
namespace Go.Proofs.Ytidppabconifkab
open Go Go.ChangeShapes Go.WideShapes Go.ChangeAt Go.RowKit
set_option linter.unusedSimpArgs false
set_option linter.unusedVariables false

/-- Nothing is said of the world. -/
def AnyW (w : World) : Prop := 0 ≤ w.heap.size
theorem AnyW.mk {w : World} : AnyW w := Nat.zero_le _
def DrewP (w : World) (e : Ending) (w' : World) : Prop :=
  ∃ (xs : List VMark) (g cp : Nat), e = .returned (.slice (some ⟨g, 0, none⟩) xs.length cp) ∧ xs.length ≤ 25 ∧ plSm xs ∧ SOwn encMark w' w.heap.size 40 (some ⟨g, 0, none⟩) cp xs ∧ Below w.heap.size w w'
def DrewPW (w : World) (e : Ending) (w' : World) : Prop :=
  ∃ (xs : List VMark) (g cp : Nat) (a b : Int), e = .returned (.tuple #[.slice (some ⟨g, 0, none⟩) xs.length cp, .agg #[.int .i64 a, .int .i64 b]]) ∧ xs.length ≤ 25 ∧ plSm xs ∧ (-1001 ≤ a ∧ a ≤ 1001) ∧ (-1001 ≤ b ∧ b ≤ 1001) ∧ SOwn encMark w' w.heap.size 40 (some ⟨g, 0, none⟩) cp xs ∧ Below w.heap.size w w'
theorem own_far {α : Type} {E : Enc α} {w : World} {base k : Nat} {T : TypeId} {A : Option Addr} {cap : Nat} {xs : List α} (h : SOwn E w base T A cap xs) (hk : k < base) (a b : Value) : SOwn E ((w.setCell ⟨k, 0, none⟩ a).setCell ⟨k, 1, none⟩ b) base T A cap xs := by
  have hg : w.grownBy ((w.setCell ⟨k, 0, none⟩ a).setCell ⟨k, 1, none⟩ b) (some k) := setAll_grown [a, b] 0 (⟨rfl, rfl, rfl, Nat.le_refl _, fun _ _ _ => rfl⟩ : w.grownBy w (some k))
  refine h.grown_far hg (fun g hg e => ?_)
  rcases h.form with ⟨e2, _⟩ | ⟨g2, e2, hb, _⟩
  · rw [e2] at hg; cases hg
  · rw [e2] at hg; cases hg; cases e; omega
end Go.Proofs.Ytidppabconifkab
