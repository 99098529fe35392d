import Derived.Test.YtnbenphcpenbeaaGreatDoorQMShaSpec
import Derived.WalkKit
import Derived.WalkSpells
import Derived.WalkLawsBesides
set_option linter.unusedVariables false
set_option linter.unusedSimpArgs false
namespace Go.Proofs.YtnbenphcpenbeaaGreatDoor
section
open Go.RowKit Sp
def wv (x:Wd):Value:=.int .u32 (x.toNat:Int)
end
end Go.Proofs.YtnbenphcpenbeaaGreatDoor
