/- The laws ModAll, ModRound. -/
import Derived.Test.YtocjhpaackccpaaGreatDoorBegun12
import Derived.Test.YtocjhpaackccpaaGreatDoorN12C
import Derived.Test.YtocjhpaackccpaaGreatDoorN12B

set_option linter.all false

namespace Go.Proofs.YtocjhpaackccpaaGreatDoor
open Go.RowKit M

end Go.Proofs.YtocjhpaackccpaaGreatDoor
