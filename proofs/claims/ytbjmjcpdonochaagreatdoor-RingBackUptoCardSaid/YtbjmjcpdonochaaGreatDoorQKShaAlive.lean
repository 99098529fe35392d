import Derived.Test.YtbjmjcpdonochaaGreatDoorQKShaOf
import Derived.Lib.SlBytesConst
set_option linter.unusedVariables false
set_option linter.unusedSimpArgs false
namespace Go.Proofs.YtbjmjcpdonochaaGreatDoor
namespace Sh
open Go.RowKit Sp
end Sh
end Go.Proofs.YtbjmjcpdonochaaGreatDoor
