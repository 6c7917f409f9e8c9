/- Plates: what the model asks of a text (XTk) and of a plate. -/
import Derived.Test.YtidppabconifkabTk
import Derived.Test.YtidppabconifkabGMark
import Derived.Test.YtidppabconifkabWc
