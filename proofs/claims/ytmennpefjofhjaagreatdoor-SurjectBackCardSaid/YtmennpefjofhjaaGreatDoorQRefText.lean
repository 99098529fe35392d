import Derived.Test.YtmennpefjofhjaaGreatDoorQOwnAny
import Derived.Test.YtmennpefjofhjaaGreatDoorQShaLess
import Derived.Maps.AppendAt
set_option linter.unusedVariables false
set_option linter.unusedSimpArgs false
namespace Go.Proofs.YtmennpefjofhjaaGreatDoor
namespace Sh
open Go.RowKit Sp
end Sh
end Go.Proofs.YtmennpefjofhjaaGreatDoor
