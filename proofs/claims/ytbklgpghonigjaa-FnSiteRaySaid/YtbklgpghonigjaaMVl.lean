/- Vl: texts joined. -/
import Derived.Test.YtbklgpghonigjaaMQD
import Derived.Test.YtbklgpghonigjaaMVa
import Derived.Test.YtbklgpghonigjaaMVd
namespace Go.Proofs.Ytbklgpghonigjaa
open Go Go.ChangeShapes Go.WideShapes Go.ChangeAt Go.RowKit
set_option linter.unusedSimpArgs false
set_option linter.unusedVariables false
end Go.Proofs.Ytbklgpghonigjaa
