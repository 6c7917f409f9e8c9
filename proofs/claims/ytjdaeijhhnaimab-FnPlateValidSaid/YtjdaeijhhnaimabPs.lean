/- Plates: what the model asks of a text (XTk) and of a plate. -/
import Derived.Test.YtjdaeijhhnaimabTk
import Derived.Test.YtjdaeijhhnaimabGMark
import Derived.Test.YtjdaeijhhnaimabWc
