/- Package turn as landed (db57207e): what is heard. -/
import Derived.Test.YtocjhpaackccpaaDoorN12B
import Derived.Test.YtocjhpaackccpaaDoorN12A

set_option linter.all false

namespace Go.Proofs.YtocjhpaackccpaaDoor
open Go.RowKit M

end Go.Proofs.YtocjhpaackccpaaDoor
