import Derived.Test.YtgggdbjakcpanaaGreatDoorQCLift
import Derived.Test.YtgggdbjakcpanaaGreatDoorQCShaMix
set_option linter.unusedVariables false
set_option linter.unusedSimpArgs false
namespace Go.Proofs.YtgggdbjakcpanaaGreatDoor
namespace Sh
open Go.ChangeShapes Go.WideShapes Go.ChangeAt Go.RowKit Sp
theorem ownNone:ownKnob Tryz.prog.godebug=none:=by kernel_rfl
theorem laidOutP:laidOutB Tryz.prog=true:=by kernel_rfl
theorem cellsTab:Tryz.prog.cellsOf 256=64:=by kernel_rfl
theorem cellsWord:Tryz.prog.cellsOf 67=1:=by kernel_rfl
theorem kTyp:(Tryz.prog.globals[1]?).map (·.type)=some 256:=by kernel_rfl
theorem rTyp:(Tryz.prog.globals[0]?).map (·.type)=some 256:=by kernel_rfl
theorem kNam : Tryz.prog.globalNamed "tollhouse/sha.cubeRoots" = some 1 := by kernel_rfl
theorem rNam : Tryz.prog.globalNamed "tollhouse/tollhouseref01.table" = some 0 := by kernel_rfl
theorem tab_of {W:World} {name:String} {g:Nat} (hg:Tryz.prog.globalNamed name=some g) (ht:Lib.TabIs Tryz.prog W name .u32 (ktab.map (fun n:Nat=>(n:Int)))):TabAt W g:=by
 intro t hlt
 have hk:ktab.length=64:=rfl
 have hc:=ht.cell hg t (by rw [List.length_map,hk]; exact hlt)
 rw [hc]
 unfold wv kc
 rw [BitVec.toNat_ofNat]
 have hb:∀ j,j<64→(ktab.getD j 0)%2 ^ 32=ktab.getD j 0:=by decide
 rw [hb t hlt]
 have hlt':t<ktab.length:=by rw [hk]; exact hlt
 simp [List.getElem?_eq_getElem hlt']
theorem tabs {W : World} (h : laidMet Tryz.prog [("tollhouse/tollhouseref01.table", Rows.laid_tollhouse_tollhouseref01_table), ("tollhouse/sha.cubeRoots", Rows.laid_tollhouse_sha_cubeRoots)] W) : TabAt W 1 ∧ TabAt W 0 := by
 have h2 := h.filter (fun x => x.1 == "tollhouse/sha.cubeRoots")
 have t1 : Lib.TabIs Tryz.prog W "tollhouse/tollhouseref01.table" .u32 (ktab.map (fun n : Nat => (n : Int))) :=
  Lib.tabIs_of_head (rest := [("tollhouse/sha.cubeRoots", Rows.laid_tollhouse_sha_cubeRoots)]) rNam rTyp Tryz.underlying256 Tryz.underlying67 cellsWord cellsTab h
 have t2 : Lib.TabIs Tryz.prog W "tollhouse/sha.cubeRoots" .u32 (ktab.map (fun n : Nat => (n : Int))) :=
  Lib.tabIs_of_head (rest:=[]) kNam kTyp Tryz.underlying256 Tryz.underlying67 cellsWord cellsTab h2
 exact ⟨tab_of kNam t2,tab_of rNam t1⟩
def tabFill:Obj→Obj
 | .cells _ t frozen=>.cells (ktab.map (fun n:Nat=>Value.int .u32 n)).toArray t frozen
 | o=>o
noncomputable def tabWorld (os:Os):World :=
 { World.holding Tryz.prog os ⟨#[],#[],[]⟩ with heap:=((World.holding Tryz.prog os ⟨#[],#[],[]⟩).heap.modify 1 tabFill).modify 0 tabFill }
end Sh
end Go.Proofs.YtgggdbjakcpanaaGreatDoor
