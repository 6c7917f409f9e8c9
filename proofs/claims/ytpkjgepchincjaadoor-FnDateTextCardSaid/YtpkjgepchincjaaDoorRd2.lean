/- The reader of a code: opened, and read; years and days that are drawn. -/
import Derived.Test.YtpkjgepchincjaaDoorRdU
import Derived.Test.YtpkjgepchincjaaDoorCal
namespace Go.Proofs.YtpkjgepchincjaaDoor
open Go.ChangeShapes Go.WideShapes Go.ChangeAt Go.RowKit
set_option linter.unusedSimpArgs false

end Go.Proofs.YtpkjgepchincjaaDoor
