/- The sayings of layer 8's packages as landed (qos, meet, xid, setup), in one place. -/
import Derived.Test.YtcmjdbljdkabpaaGreatDoorM8B
import Derived.Test.YtcmjdbljdkabpaaGreatDoorM8F
import Derived.Test.YtcmjdbljdkabpaaGreatDoorM8G
import Derived.Test.YtcmjdbljdkabpaaGreatDoorZA3
import Derived.Test.YtcmjdbljdkabpaaGreatDoorZA4
import Derived.Test.YtcmjdbljdkabpaaGreatDoorM8J
import Derived.Test.YtcmjdbljdkabpaaGreatDoorSA2
import Derived.Test.YtcmjdbljdkabpaaGreatDoorSA3

set_option linter.all false

namespace Go.Proofs.YtcmjdbljdkabpaaGreatDoor
end Go.Proofs.YtcmjdbljdkabpaaGreatDoor
