import Derived.Test.YtgggdbjakcpanaaGreatDoorQCShaOf
import Derived.Lib.SlBytesConst
set_option linter.unusedVariables false
set_option linter.unusedSimpArgs false
namespace Go.Proofs.YtgggdbjakcpanaaGreatDoor
namespace Sh
open Go.RowKit Sp
end Sh
end Go.Proofs.YtgggdbjakcpanaaGreatDoor
