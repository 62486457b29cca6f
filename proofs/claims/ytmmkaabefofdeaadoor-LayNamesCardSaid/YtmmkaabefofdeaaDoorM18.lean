/- What Move of package slots returns. -/
import Derived.Test.YtmmkaabefofdeaaDoorM17
import Derived.Test.YtmmkaabefofdeaaDoorM15
namespace Go.Proofs.YtmmkaabefofdeaaDoor
open Go.RowKit
set_option linter.unusedVariables false
set_option linter.unusedSimpArgs false

end Go.Proofs.YtmmkaabefofdeaaDoor
