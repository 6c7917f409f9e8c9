/- The reader of a code: opened, and read; years and days that are drawn. -/
import Derived.Test.YtkeghnbckndgfaaRdU
import Derived.Test.YtkeghnbckndgfaaCal
namespace Go.Proofs.Ytkeghnbckndgfaa
open Go.ChangeShapes Go.WideShapes Go.ChangeAt Go.RowKit
set_option linter.unusedSimpArgs false

end Go.Proofs.Ytkeghnbckndgfaa
