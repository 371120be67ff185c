/- Layer 12's begun. -/
import Derived.Test.YtjddbjmcjhjpiaaGreatDoorN16G
import Derived.Test.YtjddbjmcjhjpiaaGreatDoorBegun4

set_option linter.all false

namespace Go.Proofs.YtjddbjmcjhjpiaaGreatDoor
open Go.RowKit M

set_option maxRecDepth 100000
end Go.Proofs.YtjddbjmcjhjpiaaGreatDoor
