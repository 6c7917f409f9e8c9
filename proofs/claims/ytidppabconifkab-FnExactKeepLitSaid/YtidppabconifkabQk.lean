/- Comparisons of lists of numbers in the laws. -/
import Derived.Test.YtidppabconifkabGNum
namespace Go.Proofs.Ytidppabconifkab
open Go Go.ChangeShapes Go.WideShapes Go.ChangeAt Go.RowKit Go.Deep
set_option linter.unusedSimpArgs false
set_option linter.unusedVariables false
set_option linter.unnecessarySimpa false

end Go.Proofs.Ytidppabconifkab
