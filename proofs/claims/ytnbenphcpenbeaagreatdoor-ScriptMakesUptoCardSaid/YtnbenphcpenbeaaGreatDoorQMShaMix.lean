import Derived.Test.YtnbenphcpenbeaaGreatDoorQMShaSched
import Derived.Deep.MidRow
set_option linter.unusedVariables false
set_option linter.unusedSimpArgs false
namespace Go.Proofs.YtnbenphcpenbeaaGreatDoor
namespace Sh
open Go.RowKit Sp
def TabAt (w:World) (b:Nat):Prop:=∀ t,t<64→w.cell? ⟨b,t,none⟩=some (wv (kc t))
end Sh
end Go.Proofs.YtnbenphcpenbeaaGreatDoor
