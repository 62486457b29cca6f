/- Package occ, whole: what each of its eight functions returns. -/
import Derived.Test.YtgbgeedcfccclaaDoorOccE
import Derived.Test.YtgbgeedcfccclaaDoorOccN
import Derived.Test.YtgbgeedcfccclaaDoorOccL
import Derived.Test.YtgbgeedcfccclaaDoorOccT
