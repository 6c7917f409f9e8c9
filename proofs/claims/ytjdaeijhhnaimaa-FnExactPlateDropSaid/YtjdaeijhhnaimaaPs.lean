/- Plates: what the model asks of a text (XTk) and of a plate. -/
import Derived.Test.YtjdaeijhhnaimaaTk
import Derived.Test.YtjdaeijhhnaimaaGMark
import Derived.Test.YtjdaeijhhnaimaaWc
