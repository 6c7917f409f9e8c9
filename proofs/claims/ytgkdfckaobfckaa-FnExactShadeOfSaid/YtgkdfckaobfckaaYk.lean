/- Blocks behind marks. -/
import Derived.Test.YtgkdfckaobfckaaGCity
namespace Go.Proofs.Ytgkdfckaobfckaa
open Go Go.ChangeShapes Go.WideShapes Go.ChangeAt Go.RowKit
theorem blk_grownC {w w' : World} {row : Option Nat} {k : Nat} {o : Obj} (h : w.heap[k]? = some o) (hg : w.grownBy w' row) (hne : row ≠ some k) : w'.heap[k]? = some o := by
  rw [hg.block k (blk_lt h) (fun e => hne e.symm)]; exact h
end Go.Proofs.Ytgkdfckaobfckaa
