/- What the fixed examples return; validity of integers. -/
import Derived.Test.YtclmenpclkmfeaaDoorVG7AddB
import Derived.Test.YtclmenpclkmfeaaDoorVG0Words
namespace Go.Proofs.YtclmenpclkmfeaaDoor
open Go.RowKit
end Go.Proofs.YtclmenpclkmfeaaDoor
