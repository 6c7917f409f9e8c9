/- What the laws of chapter 2 draw out of a code. -/
import Derived.Test.YtibpaojhjgpdaaaDw
namespace Go.Proofs.Ytibpaojhjgpdaaa
open Go.ChangeShapes Go.WideShapes Go.ChangeAt Go.RowKit
set_option linter.unusedSimpArgs false
set_option linter.unusedVariables false

def DrewW (w : World) (e : Ending) (w' : World) : Prop := ∃ a b : Int, e = .returned (.agg #[.int .i64 a, .int .i64 b]) ∧ -1001 ≤ a ∧ a ≤ 1001 ∧ -1001 ≤ b ∧ b ≤ 1001 ∧ Below w.heap.size w w'
def DrewTwo (w : World) (e : Ending) (w' : World) : Prop :=
  ∃ a b c d : Int, e = .returned (.tuple #[.agg #[.int .i64 a, .int .i64 b], .agg #[.int .i64 c, .int .i64 d]]) ∧ -1001 ≤ a ∧ a ≤ 1001 ∧ -1001 ≤ b ∧ b ≤ 1001 ∧ -3003 ≤ c ∧ c ≤ 3003 ∧ -3003 ≤ d ∧ d ≤ 3003 ∧ Below w.heap.size w w'
end Go.Proofs.Ytibpaojhjgpdaaa
