/- Vd: texts joined. -/
import Derived.Test.YtbklgpghonigjaaMQI
namespace Go.Proofs.Ytbklgpghonigjaa
open Go Go.ChangeShapes Go.WideShapes Go.ChangeAt Go.RowKit
set_option linter.unusedSimpArgs false
set_option linter.unusedVariables false
end Go.Proofs.Ytbklgpghonigjaa
