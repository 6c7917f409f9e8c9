/- Plates: what the model asks of a text (XTk) and of a plate. -/
import Derived.Test.YtjlaefapcfppeaaTk
import Derived.Test.YtjlaefapcfppeaaGMark
import Derived.Test.YtjlaefapcfppeaaWc
