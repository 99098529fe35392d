import Derived.Test.YtgggdbjakcpanabGreatDoorQAShaAlive
import Derived.Lib.BytesEntry
import Derived.Stop.BytesEq
set_option linter.unusedVariables false
set_option linter.unusedSimpArgs false
namespace Go.Proofs.YtgggdbjakcpanabGreatDoor
namespace Sh
open Go.RowKit Sp
theorem slice_all (x:Nat) (W:World) :
  (Instr.sliceAt 27 (.pointer (some ⟨x,0,none⟩)) none none none).run Tryz.prog W=.ok (.slice (some ⟨x,0,none⟩) 32 32) W:=by
 have hal:Tryz.prog.arrayLen 27=32:=by kernel_rfl
 have hu:Tryz.prog.underlying 27=some (.array (Tryz.prog.arrayLen 27) (Tryz.prog.elem 27)):=by kernel_rfl
 have hs:∀ W,(sizeOf (Tryz.prog.elem 27)).run Tryz.prog W=.ok 1 W:=fun W=>by kernel_rfl
 rw [run_sliceAt_array_all W 27 ⟨x,0,none⟩ hu,hs,hal]
 simp [slicedAt,addr_add]
end Sh
end Go.Proofs.YtgggdbjakcpanabGreatDoor
