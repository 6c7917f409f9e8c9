/- What the laws of behaviour ask of lists of numbers. -/
import Derived.Test.YtidppabconifkabIl
namespace Go.Proofs.Ytidppabconifkab
open Go.ChangeShapes Go.WideShapes Go.ChangeAt Go.RowKit
set_option linter.unusedSimpArgs false
set_option linter.unusedVariables false

def hasB (xs : List Int) (x : Int) : Bool := decide (x ∈ xs)
/-- Numbers ascend. -/
def Asc (xs : List Int) : Prop := ∀ i (h : i + 1 < xs.length), xs[i] < xs[i + 1]
end Go.Proofs.Ytidppabconifkab
