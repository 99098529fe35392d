import Derived.Test.YtnbenphcpenbeaaGreatDoorRows
import Derived.Test.YtnbenphcpenbeaaGreatDoorQMShaWd
import Derived.Deep.QuietTactic
import Derived.BigQuiet
import Derived.Lib.Hide
set_option linter.unusedVariables false
set_option linter.unusedSimpArgs false
namespace Go.Proofs.YtnbenphcpenbeaaGreatDoor
namespace Sh
open Go.RowKit Sp
end Sh
end Go.Proofs.YtnbenphcpenbeaaGreatDoor
