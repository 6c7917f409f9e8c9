/- What the laws of chapter 5 draw: one thing. -/
import Derived.Test.YtiicohbghpknhaaDa
import Derived.Test.YtiicohbghpknhaaVt
import Derived.Test.YtiicohbghpknhaaLp
namespace Go.Proofs.Ytiicohbghpknhaa
open Go Go.ChangeShapes Go.WideShapes Go.ChangeAt Go.RowKit
set_option linter.unusedSimpArgs false
set_option linter.unusedVariables false

def DrewPlace (w : World) (e : Ending) (w' : World) : Prop := ∃ x0 x1 : Int, e = .returned (.agg #[.int .i64 x0, .int .i64 x1]) ∧ (-100 ≤ x0 ∧ x0 ≤ 100) ∧ (-100 ≤ x1 ∧ x1 ≤ 100) ∧ Below w.heap.size w w'
def DrewBlock (w : World) (e : Ending) (w' : World) : Prop := ∃ x0 x1 x2 x3 x4 : Int, e = .returned (.agg #[.int .i64 x0, .int .i64 x1, .int .i64 x2, .int .i64 x3, .int .i64 x4]) ∧ (-100 ≤ x0 ∧ x0 ≤ 100) ∧ (-100 ≤ x1 ∧ x1 ≤ 100) ∧ (-100 ≤ x2 ∧ x2 ≤ 100) ∧ (-100 ≤ x3 ∧ x3 ≤ 100) ∧ (-100 ≤ x4 ∧ x4 ≤ 100) ∧ Below w.heap.size w w'
def DrewRay (w : World) (e : Ending) (w' : World) : Prop := ∃ x0 x1 x2 : Int, e = .returned (.agg #[.int .i64 x0, .int .i64 x1, .int .i64 x2]) ∧ (-100 ≤ x0 ∧ x0 ≤ 100) ∧ (-100 ≤ x1 ∧ x1 ≤ 100) ∧ (-100 ≤ x2 ∧ x2 ≤ 100) ∧ Below w.heap.size w w'
end Go.Proofs.Ytiicohbghpknhaa
