/- What the laws of chapter 5 draw: one thing. -/
import Derived.Test.YtlahjgjjebkpjabDa
import Derived.Test.YtlahjgjjebkpjabVt
import Derived.Test.YtlahjgjjebkpjabLp
namespace Go.Proofs.Ytlahjgjjebkpjab
open Go Go.ChangeShapes Go.WideShapes Go.ChangeAt Go.RowKit
set_option linter.unusedSimpArgs false
set_option linter.unusedVariables false

def DrewPlace (w : World) (e : Ending) (w' : World) : Prop := ∃ x0 x1 : Int, e = .returned (.agg #[.int .i64 x0, .int .i64 x1]) ∧ (-100 ≤ x0 ∧ x0 ≤ 100) ∧ (-100 ≤ x1 ∧ x1 ≤ 100) ∧ Below w.heap.size w w'
def DrewBlock (w : World) (e : Ending) (w' : World) : Prop := ∃ x0 x1 x2 x3 x4 : Int, e = .returned (.agg #[.int .i64 x0, .int .i64 x1, .int .i64 x2, .int .i64 x3, .int .i64 x4]) ∧ (-100 ≤ x0 ∧ x0 ≤ 100) ∧ (-100 ≤ x1 ∧ x1 ≤ 100) ∧ (-100 ≤ x2 ∧ x2 ≤ 100) ∧ (-100 ≤ x3 ∧ x3 ≤ 100) ∧ (-100 ≤ x4 ∧ x4 ≤ 100) ∧ Below w.heap.size w w'
def DrewRay (w : World) (e : Ending) (w' : World) : Prop := ∃ x0 x1 x2 : Int, e = .returned (.agg #[.int .i64 x0, .int .i64 x1, .int .i64 x2]) ∧ (-100 ≤ x0 ∧ x0 ≤ 100) ∧ (-100 ≤ x1 ∧ x1 ≤ 100) ∧ (-100 ≤ x2 ∧ x2 ≤ 100) ∧ Below w.heap.size w w'
theorem iPT_is {e n p : Int} (w : World) (hv : plB e n = true) (hp : -n = p) : Calls Try.prog 19 #[.agg #[.int .i64 e, .int .i64 n]] w fun E w' => E = .returned (.agg #[.int .i64 p, .int .i64 e]) ∧ Below w.heap.size w w' := by subst hp; exact iPT_t e n w hv
theorem iRT_is {e n u p : Int} (w : World) (hv : ryB e n u = true) (hp : -n = p) : Calls Try.prog 21 #[.agg #[.int .i64 e, .int .i64 n, .int .i64 u]] w fun E w' => E = .returned (.agg #[.int .i64 p, .int .i64 e, .int .i64 u]) ∧ Below w.heap.size w w' := by subst hp; exact iRT_t e n u w hv
theorem iBT_is {a b c d h p q : Int} (w : World) (hv : blB a b c d h = true) (hp : -d = p) (hq : -c = q) : Calls Try.prog 20 #[.agg #[.int .i64 a, .int .i64 b, .int .i64 c, .int .i64 d, .int .i64 h]] w fun E w' => E = .returned (.agg #[.int .i64 p, .int .i64 q, .int .i64 a, .int .i64 b, .int .i64 h]) ∧ Below w.heap.size w w' := by subst hp; subst hq; exact iBT_t a b c d h w hv
end Go.Proofs.Ytlahjgjjebkpjab
