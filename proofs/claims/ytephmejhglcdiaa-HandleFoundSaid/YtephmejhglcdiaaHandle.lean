/- What package handle's calls return: the contracts of the landed code, all of them, beside the document's own answers. -/
import Derived.Test.YtephmejhglcdiaaHnMake
import Derived.Test.YtephmejhglcdiaaHnSet
import Derived.Test.YtephmejhglcdiaaHnDrop
import Derived.Test.YtephmejhglcdiaaRefF14
namespace Go.Proofs.Ytephmejhglcdiaa
end Go.Proofs.Ytephmejhglcdiaa
