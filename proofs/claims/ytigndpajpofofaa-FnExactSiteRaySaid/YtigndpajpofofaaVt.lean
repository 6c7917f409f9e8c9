/- Contracts of chapter 5: under a block, tips, spots, turns. -/
import Derived.Test.YtigndpajpofofaaVs
namespace Go.Proofs.Ytigndpajpofofaa
open Go Go.ChangeShapes Go.WideShapes Go.ChangeAt Go.RowKit
set_option linter.unusedSimpArgs false
set_option linter.unusedVariables false

end Go.Proofs.Ytigndpajpofofaa
