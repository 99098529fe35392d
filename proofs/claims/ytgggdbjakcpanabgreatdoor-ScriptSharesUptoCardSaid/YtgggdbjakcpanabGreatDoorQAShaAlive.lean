import Derived.Test.YtgggdbjakcpanabGreatDoorQAShaOf
import Derived.Lib.SlBytesConst
set_option linter.unusedVariables false
set_option linter.unusedSimpArgs false
namespace Go.Proofs.YtgggdbjakcpanabGreatDoor
namespace Sh
open Go.RowKit Sp
end Sh
end Go.Proofs.YtgggdbjakcpanabGreatDoor
