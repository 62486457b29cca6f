/- What the document's own answers of layer 1 (package shelfmarkref01) return: Log, Pow, Power alone. -/
import Derived.Test.YtephmejhglcdiaaProg
import Derived.Test.YtephmejhglcdiaaFn01
import Derived.WalkKit
import Derived.WalkSpells
import Derived.WalkLawsBesides
import Derived.Lib.Hide
namespace Go.Proofs.Ytephmejhglcdiaa
open Go.RowKit

end Go.Proofs.Ytephmejhglcdiaa
