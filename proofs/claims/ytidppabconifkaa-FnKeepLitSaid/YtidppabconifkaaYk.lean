/- Blocks behind marks. -/
import Derived.Test.YtidppabconifkaaGCity
namespace Go.Proofs.Ytidppabconifkaa
open Go Go.Deep Go.ChangeShapes Go.WideShapes Go.ChangeAt Go.RowKit
theorem blk_grownC {w w' : World} {row : Option Nat} {k : Nat} {o : Obj} (h : w.heap[k]? = some o) (hg : w.grownBy w' row) (hne : row ≠ some k) : w'.heap[k]? = some o := by
  rw [hg.block k (blk_lt h) (fun e => hne e.symm)]; exact h
theorem SOwn.ne_typeC {α : Type} {E : Enc α} {w : World} {base : Nat} {T T' : TypeId} {A : Option Addr} {cap n k : Nat} {xs : List α} {c : Array Value} {z : Nat × Nat} (h : SOwn E w base T A cap xs) (hk : w.heap[k]? = some (.cells c T' z)) (hT : T ≠ T') : Value.ownBlock (.slice A n cap) ≠ some k := by
  rcases h.2 with ⟨e, _⟩ | ⟨g, cap', cur, e, hb, hg, _⟩
  · simp only [Value.slice.injEq] at e
    rw [e.1]; simp [Value.ownBlock]
  · simp only [Value.slice.injEq] at e
    rw [e.1]
    simp only [Value.ownBlock, ne_eq]
    intro h2
    have e2 : g = k := by simpa using h2
    rw [e2, hk] at hg
    simp at hg
    exact hT hg.2.1.symm
end Go.Proofs.Ytidppabconifkaa
