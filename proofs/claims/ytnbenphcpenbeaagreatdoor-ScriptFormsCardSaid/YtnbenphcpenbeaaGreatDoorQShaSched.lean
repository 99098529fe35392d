import Derived.Test.YtnbenphcpenbeaaGreatDoorQShaRot
import Derived.Test.YtnbenphcpenbeaaGreatDoorQMem
import Derived.StillTailTactics
import Derived.BigRegion
import Derived.Deep.DeepCutAuto
set_option linter.unusedVariables false
set_option linter.unusedSimpArgs false
namespace Go.Proofs.YtnbenphcpenbeaaGreatDoor
namespace Sh
open Go.RowKit Sp
theorem addr_add (g o n:Nat):(⟨g,o,none⟩:Addr).add n=⟨g,o+n,none⟩:=by
 unfold Addr.add; split <;> simp_all
end Sh
end Go.Proofs.YtnbenphcpenbeaaGreatDoor
