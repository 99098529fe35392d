import Derived.Test.YtgggdbjakcpanaaGreatDoorQCRefText
import Derived.Test.YtgggdbjakcpanaaGreatDoorQCRefOf
import Derived.Test.YtgggdbjakcpanaaGreatDoorQCShaMac
set_option linter.unusedVariables false
set_option linter.unusedSimpArgs false
namespace Go.Proofs.YtgggdbjakcpanaaGreatDoor
namespace Sh
open Go.RowKit Sp
theorem below_alloc2 (w:World) (o o':Obj):Below w.heap.size w ((w.alloc o).alloc o'):=((Below.refl _ _).alloc (Nat.le_refl _) _).alloc (by simp) _
end Sh
end Go.Proofs.YtgggdbjakcpanaaGreatDoor
