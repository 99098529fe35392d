/-
  What the rows' lists give where they hold the program's constants alone; a world for a witness that holds them.
-/
import Derived.Test.YtbofhoonlmikcaaGreatDoorShaTabs
namespace Go.Proofs.YtbofhoonlmikcaaGreatDoor.Sh
open Go.ChangeShapes Go.WideShapes Go.ChangeAt Go.RowKit Go.Proofs.YtbofhoonlmikcaaGreatDoor Go.Proofs.YtbofhoonlmikcaaGreatDoor.Sp

theorem tab1 {W : World} (h : laidMet Tryz.prog [("tollhouse/sha.cubeRoots", Rows.laid_tollhouse_sha_cubeRoots)] W) : TabAt W 1 := by
  have t2 : Lib.TabIs Tryz.prog W "tollhouse/sha.cubeRoots" .u32 (ktab.map (fun n : Nat => (n : Int))) :=
    Lib.tabIs_of_head (rest := []) kNam kTyp Tryz.underlying181 Tryz.underlying179 cellsWord cellsTab h
  exact tab_of kNam t2
/-- a world for a witness: the settled one, the table as its initialiser lays it -/
noncomputable def tabWorld1 (os : Os) : World :=
  { World.holding Tryz.prog os ⟨#[], #[], []⟩ with heap := (World.holding Tryz.prog os ⟨#[], #[], []⟩).heap.modify 1 tabFill }
end Go.Proofs.YtbofhoonlmikcaaGreatDoor.Sh
