import Derived.Test.YtmennpefjofhjaaGreatDoorQShaAlive
import Derived.Test.YtmennpefjofhjaaGreatDoorQMem2
import Derived.Deep.AppendLies
import Derived.OwnWalk
set_option linter.unusedVariables false
set_option linter.unusedSimpArgs false
namespace Go.Proofs.YtmennpefjofhjaaGreatDoor
namespace Sh
open Go.RowKit Sp
end Sh
end Go.Proofs.YtmennpefjofhjaaGreatDoor
