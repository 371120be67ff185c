/- The laws ModAll, ModRound. -/
import Derived.Test.YtocjhpaackccpaaDoorBegun12
import Derived.Test.YtocjhpaackccpaaDoorN12C
import Derived.Test.YtocjhpaackccpaaDoorN12B

set_option linter.all false

namespace Go.Proofs.YtocjhpaackccpaaDoor
open Go.RowKit M

theorem m8_wf (n : Int) : (Lit.int .i64 (m8 n)).wf = true := by
  have := m8_bound n
  exact w64 (by omega)
end Go.Proofs.YtocjhpaackccpaaDoor
