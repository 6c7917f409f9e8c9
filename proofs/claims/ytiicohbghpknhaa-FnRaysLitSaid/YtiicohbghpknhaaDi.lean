/- What the laws of lists of blocks draw. -/
import Derived.Test.YtiicohbghpknhaaDd
import Derived.Test.YtiicohbghpknhaaDg
namespace Go.Proofs.Ytiicohbghpknhaa
open Go Go.ChangeShapes Go.WideShapes Go.ChangeAt Go.RowKit
set_option linter.unusedSimpArgs false
set_option linter.unusedVariables false

theorem SOwn.set_far {α : Type} {E : Enc α} {w : World} {base C i : Nat} {T : TypeId} {A : Option Addr} {cap : Nat} {xs : List α} (h : SOwn E w base T A cap xs) (hC : C < base) (v : Value) : SOwn E (w.setCell ⟨C, i, none⟩ v) base T A cap xs := by
  refine h.grown_far (row := some C) (setAll_grown [v] i ⟨rfl, rfl, rfl, Nat.le_refl _, fun _ _ _ => rfl⟩) (fun g hg e => ?_)
  rcases h.form with ⟨e2, _⟩ | ⟨g2, e2, hb, _⟩
  · rw [e2] at hg; cases hg
  · rw [e2] at hg; cases hg; cases e; omega
def DrewBlocks (w : World) (e : Ending) (w' : World) : Prop := ∃ (xs : List VBlock) (A : Option Addr) (cap : Nat), e = .returned (.slice A xs.length cap) ∧ xs.length ≤ 6 ∧ SOwn encBlock w' w.heap.size 91 A cap xs ∧ Below w.heap.size w w'
def DrewLit (w : World) (e : Ending) (w' : World) : Prop := ∃ (p0 p1 r0 r1 r2 : Int) (xs : List VBlock) (A : Option Addr) (cap : Nat), e = .returned (.tuple #[.agg #[.int .i64 p0, .int .i64 p1], .slice A xs.length cap, .agg #[.int .i64 r0, .int .i64 r1, .int .i64 r2]]) ∧ (-200 ≤ p0 ∧ p0 ≤ 200) ∧ (-200 ≤ p1 ∧ p1 ≤ 200) ∧ (-200 ≤ r0 ∧ r0 ≤ 200) ∧ (-200 ≤ r1 ∧ r1 ≤ 200) ∧ (-200 ≤ r2 ∧ r2 ≤ 200) ∧ xs.length ≤ 6 ∧ SOwn encBlock w' w.heap.size 91 A cap xs ∧ Below w.heap.size w w'
end Go.Proofs.Ytiicohbghpknhaa
