import Derived.Test.YtgggdbjakcpanaaGreatDoorQCShaAlive
import Derived.Lib.BytesEntry
import Derived.Stop.BytesEq
set_option linter.unusedVariables false
set_option linter.unusedSimpArgs false
namespace Go.Proofs.YtgggdbjakcpanaaGreatDoor
namespace Sh
open Go.RowKit Sp
theorem slice_all (x:Nat) (W:World) :
  (Instr.sliceAt 28 (.pointer (some ⟨x,0,none⟩)) none none none).run Tryz.prog W=.ok (.slice (some ⟨x,0,none⟩) 32 32) W:=by
 have hal:Tryz.prog.arrayLen 28=32:=by kernel_rfl
 have hu:Tryz.prog.underlying 28=some (.array (Tryz.prog.arrayLen 28) (Tryz.prog.elem 28)):=by kernel_rfl
 have hs:∀ W,(sizeOf (Tryz.prog.elem 28)).run Tryz.prog W=.ok 1 W:=fun W=>by kernel_rfl
 rw [run_sliceAt_array_all W 28 ⟨x,0,none⟩ hu,hs,hal]
 simp [slicedAt,addr_add]
theorem dig_cell {w:World} {g:Nat} {t:TypeId} {l:List UInt8} (h:Blk w g t (l.map bv).toArray):∀ j u,l[j]? = some u→w.cell? ⟨g,j,none⟩=some (bv u):=fun j u hu=>(h.cell j).trans (by simp [hu])
end Sh
end Go.Proofs.YtgggdbjakcpanaaGreatDoor
