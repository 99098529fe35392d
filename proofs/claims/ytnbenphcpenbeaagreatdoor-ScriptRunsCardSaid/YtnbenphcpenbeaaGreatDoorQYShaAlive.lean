import Derived.Test.YtnbenphcpenbeaaGreatDoorQYShaOf
import Derived.Lib.SlBytesConst
set_option linter.unusedVariables false
set_option linter.unusedSimpArgs false
namespace Go.Proofs.YtnbenphcpenbeaaGreatDoor
namespace Sh
open Go.RowKit Sp
end Sh
end Go.Proofs.YtnbenphcpenbeaaGreatDoor
