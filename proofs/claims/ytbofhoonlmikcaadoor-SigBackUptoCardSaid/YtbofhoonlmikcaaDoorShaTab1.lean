/-
  What the rows' lists give where they hold the program's constants alone; a world for a witness that holds them.
-/
import Derived.Test.YtbofhoonlmikcaaDoorShaTabs
namespace Go.Proofs.YtbofhoonlmikcaaDoor.Sh
open Go.ChangeShapes Go.WideShapes Go.ChangeAt Go.RowKit Go.Proofs.YtbofhoonlmikcaaDoor Go.Proofs.YtbofhoonlmikcaaDoor.Sp

theorem tab1 {W : World} (h : laidMet Tryd.prog [("tollhouse/sha.cubeRoots", Rows.laid_tollhouse_sha_cubeRoots)] W) : TabAt W 0 := by
  have t2 : Lib.TabIs Tryd.prog W "tollhouse/sha.cubeRoots" .u32 (ktab.map (fun n : Nat => (n : Int))) :=
    Lib.tabIs_of_head (rest := []) kNam kTyp Tryd.underlying133 Tryd.underlying106 cellsWord cellsTab h
  exact tab_of kNam t2
/-- a world for a witness: the settled one, the table as its initialiser lays it -/
noncomputable def tabWorld1 (os : Os) : World :=
  { World.holding Tryd.prog os ⟨#[], #[], []⟩ with heap := (World.holding Tryd.prog os ⟨#[], #[], []⟩).heap.modify 0 tabFill }
end Go.Proofs.YtbofhoonlmikcaaDoor.Sh
