/- A place, a block and a direction that are drawn together. -/
import Derived.Test.YtiicohbghpknhaaDb
import Derived.RegionTactic
namespace Go.Proofs.Ytiicohbghpknhaa
open Go Go.ChangeShapes Go.WideShapes Go.ChangeAt Go.RowKit
set_option linter.unusedSimpArgs false
set_option linter.unusedVariables false

def ShadedIs (B : Nat) (u : Int) (w : World) (e : Ending) (w' : World) : Prop :=
  ∃ p0 p1 b0 b1 b2 b3 b4 r0 r1 r2 : Int, e = .returned (.tuple #[.agg #[.int .i64 p0, .int .i64 p1], .agg #[.int .i64 b0, .int .i64 b1, .int .i64 b2, .int .i64 b3, .int .i64 b4], .agg #[.int .i64 r0, .int .i64 r1, .int .i64 r2]]) ∧ (-200 ≤ p0 ∧ p0 ≤ 200) ∧ (-200 ≤ p1 ∧ p1 ≤ 200) ∧ (-200 ≤ b0 ∧ b0 ≤ 200) ∧ (-200 ≤ b1 ∧ b1 ≤ 200) ∧ (-200 ≤ b2 ∧ b2 ≤ 200) ∧ (-200 ≤ b3 ∧ b3 ≤ 200) ∧ (-200 ≤ b4 ∧ b4 ≤ 200) ∧ (-200 ≤ r0 ∧ r0 ≤ 200) ∧ (-200 ≤ r1 ∧ r1 ≤ 200) ∧ (-200 ≤ r2 ∧ r2 ≤ 200) ∧ RdU B u w' ∧ Ext B w w'
end Go.Proofs.Ytiicohbghpknhaa
