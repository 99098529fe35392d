import Derived.Test.YtmennpefjofhjaaGreatDoorQMem3
set_option linter.unusedVariables false
set_option linter.unusedSimpArgs false
namespace Go.Proofs.YtmennpefjofhjaaGreatDoor
namespace Sh
open Go.RowKit Sp
end Sh
end Go.Proofs.YtmennpefjofhjaaGreatDoor
