/- Cities: copies, comparisons, sizes, marks. -/
import Derived.Test.YtidppabconifkaaRows
import Derived.Test.YtidppabconifkaaGNum
import Derived.Test.YtidppabconifkaaHlp2
namespace Go.Proofs.Ytidppabconifkaa
open Go Go.ChangeShapes Go.WideShapes Go.ChangeAt Go.RowKit Go.Deep
set_option linter.unusedSimpArgs false
set_option linter.unusedVariables false
set_option linter.unnecessarySimpa false

def CopyCity (d : Int) (xs : List Int) (w : World) (e : Ending) (w' : World) : Prop := ∃ g : Nat, e = .returned (.agg #[.int .i64 d, .slice (some ⟨g, 0, none⟩) xs.length xs.length]) ∧ w.heap.size ≤ g ∧ SBlk encNum w' g 3 xs ∧ Below w.heap.size w w'
end Go.Proofs.Ytidppabconifkaa
