import Derived.Test.YtgggdbjakcpanaaGreatDoorQDShaTabs
set_option linter.unusedVariables false
set_option linter.unusedSimpArgs false
namespace Go.Proofs.YtgggdbjakcpanaaGreatDoor
namespace Sh
open Go.ChangeShapes Go.WideShapes Go.ChangeAt Go.RowKit Sp
theorem tab1 {W : World} (h : laidMet Tryz.prog [("tollhouse/sha.cubeRoots", Rows.laid_tollhouse_sha_cubeRoots)] W) : TabAt W 1 := by
 have t2 : Lib.TabIs Tryz.prog W "tollhouse/sha.cubeRoots" .u32 (ktab.map (fun n : Nat => (n : Int))) :=
  Lib.tabIs_of_head (rest:=[]) kNam kTyp Tryz.underlying256 Tryz.underlying67 cellsWord cellsTab h
 exact tab_of kNam t2
noncomputable def tabWorld1 (os:Os):World :=
 { World.holding Tryz.prog os ⟨#[],#[],[]⟩ with heap:=(World.holding Tryz.prog os ⟨#[],#[],[]⟩).heap.modify 1 tabFill }
end Sh
end Go.Proofs.YtgggdbjakcpanaaGreatDoor
