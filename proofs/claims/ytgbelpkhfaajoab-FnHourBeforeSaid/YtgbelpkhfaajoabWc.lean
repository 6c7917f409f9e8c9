/- Contracts of chapter 2: the order of ways by the model, the same direction by both. -/
import Derived.Test.YtgbelpkhfaajoabWb
namespace Go.Proofs.Ytgbelpkhfaajoab
open Go.ChangeShapes Go.WideShapes Go.ChangeAt Go.RowKit
set_option linter.unusedSimpArgs false
set_option linter.unusedVariables false

end Go.Proofs.Ytgbelpkhfaajoab
