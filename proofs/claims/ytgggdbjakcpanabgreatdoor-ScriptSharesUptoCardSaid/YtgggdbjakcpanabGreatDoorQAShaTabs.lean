import Derived.Test.YtgggdbjakcpanabGreatDoorQALift
import Derived.Test.YtgggdbjakcpanabGreatDoorQAShaMix
set_option linter.unusedVariables false
set_option linter.unusedSimpArgs false
namespace Go.Proofs.YtgggdbjakcpanabGreatDoor
namespace Sh
open Go.ChangeShapes Go.WideShapes Go.ChangeAt Go.RowKit Sp
theorem ownNone:ownKnob Tryz.prog.godebug=none:=by kernel_rfl
theorem laidOutP:laidOutB Tryz.prog=true:=by kernel_rfl
theorem cellsTab:Tryz.prog.cellsOf 171=64:=by kernel_rfl
theorem cellsWord:Tryz.prog.cellsOf 144=1:=by kernel_rfl
theorem kTyp:(Tryz.prog.globals[0]?).map (·.type)=some 171:=by kernel_rfl
theorem kNam : Tryz.prog.globalNamed "tollhouse/sha.cubeRoots" = some 0 := by kernel_rfl
theorem tab_of {W:World} {name:String} {g:Nat} (hg:Tryz.prog.globalNamed name=some g) (ht:Lib.TabIs Tryz.prog W name .u32 (ktab.map (fun n:Nat=>(n:Int)))):TabAt W g:=by
 intro t hlt
 have hk:ktab.length=64:=rfl
 have hc:=ht.cell hg t (by rw [List.length_map,hk]; exact hlt)
 rw [hc]
 unfold wv kc
 rw [BitVec.toNat_ofNat]
 have hb:∀ j,j<64→(ktab.getD j 0)%2 ^ 32=ktab.getD j 0:=by decide
 rw [hb t hlt]
 have hlt':t<ktab.length:=by rw [hk]; exact hlt
 simp [List.getElem?_eq_getElem hlt']
def tabFill:Obj→Obj
 | .cells _ t frozen=>.cells (ktab.map (fun n:Nat=>Value.int .u32 n)).toArray t frozen
 | o=>o
end Sh
end Go.Proofs.YtgggdbjakcpanabGreatDoor
