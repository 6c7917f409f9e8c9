/- Rows of one's own beside boxes of another type. -/
import Derived.Test.YtoklehmoeollfaaGs
namespace Go.Proofs.Ytoklehmoeollfaa
open Go Go.ChangeShapes Go.WideShapes Go.ChangeAt Go.RowKit
set_option linter.unusedSimpArgs false
set_option linter.unusedVariables false

theorem SOwn.ne_typeO {α : Type} {E : Enc α} {w : World} {base : Nat} {T T' : TypeId} {A : Option Addr} {cap n k : Nat} {xs : List α} {c : Array Value} {z : Nat × Nat} (h : SOwn E w base T A cap xs) (hk : w.heap[k]? = some (.cells c T' z)) (hT : T ≠ T') : Value.ownBlock (.slice A n cap) ≠ some k := by
  rcases h.2 with ⟨e, _⟩ | ⟨g, cap', cur, e, hb, hg, _⟩
  · simp only [Value.slice.injEq] at e
    rw [e.1]; simp [Value.ownBlock]
  · simp only [Value.slice.injEq] at e
    rw [e.1]
    simp only [Value.ownBlock, ne_eq]
    intro h2
    have e2 : g = k := by simpa using h2
    rw [e2, hk] at hg
    simp at hg
    exact hT hg.2.1.symm
theorem SOwn.boxO {α : Type} {E : Enc α} {w : World} {base k : Nat} {T T' : TypeId} {A : Option Addr} {cap : Nat} {xs : List α} {c : Array Value} {z : Nat × Nat} (h : SOwn E w base T A cap xs) (hk : w.heap[k]? = some (.cells c T' z)) (hT : T ≠ T') (a b : Value) : SOwn E ((w.setCell ⟨k, 0, none⟩ a).setCell ⟨k, 1, none⟩ b) base T A cap xs := by
  refine h.grown_far (row := some k) (setAll_grown [a, b] 0 ⟨rfl, rfl, rfl, Nat.le_refl _, fun _ _ _ => rfl⟩) (fun g e e2 => ?_)
  have := SOwn.ne_typeO (n := 0) h hk hT
  rw [e] at this
  simp [Value.ownBlock] at this
  simp at e2
  exact this e2.symm
/-- Behind a write into a row of one's own a box of another type is as it was. -/
theorem blk_grownT {α : Type} {E : Enc α} {w w' : World} {base k n : Nat} {T T' : TypeId} {A : Option Addr} {cap : Nat} {xs : List α} {c : Array Value} {z : Nat × Nat} (hk : w.heap[k]? = some (.cells c T' z)) (h : SOwn E w base T A cap xs) (hg : w.grownBy w' (Value.ownBlock (.slice A n cap))) (hT : T ≠ T') : w'.heap[k]? = some (.cells c T' z) := by
  rw [hg.block k (blk_lt hk) (fun e => SOwn.ne_typeO h hk hT e.symm)]; exact hk
end Go.Proofs.Ytoklehmoeollfaa
