/-
  What the rows' lists give: the constants, the program's and the document's; a world for a witness that holds both.
-/
import Derived.Test.YtbofhoonlmikcaaDoorLift
import Derived.Test.YtbofhoonlmikcaaDoorShaMix
namespace Go.Proofs.YtbofhoonlmikcaaDoor.Sh
open Go.ChangeShapes Go.WideShapes Go.ChangeAt Go.RowKit Go.Proofs.YtbofhoonlmikcaaDoor.Sp

theorem ownNone : ownKnob Tryd.prog.godebug = none := by kernel_rfl
theorem laidOutP : laidOutB Tryd.prog = true := by kernel_rfl
theorem cellsTab : Tryd.prog.cellsOf 133 = 64 := by kernel_rfl
theorem cellsWord : Tryd.prog.cellsOf 106 = 1 := by kernel_rfl
theorem cellsByte : Tryd.prog.cellsOf 5 = 1 := by kernel_rfl
theorem kTyp : (Tryd.prog.globals[0]?).map (·.type) = some 133 := by kernel_rfl
theorem kNam : Tryd.prog.globalNamed "tollhouse/sha.cubeRoots" = some 0 := by kernel_rfl
theorem tab_of {W : World} {name : String} {g : Nat} (hg : Tryd.prog.globalNamed name = some g) (ht : Lib.TabIs Tryd.prog W name .u32 (ktab.map (fun n : Nat => (n : Int)))) : TabAt W g := by
  intro t hlt
  have hk : ktab.length = 64 := rfl
  have hc := ht.cell hg t (by rw [List.length_map, hk]; exact hlt)
  rw [hc]
  unfold wv kc
  rw [BitVec.toNat_ofNat]
  have hb : ∀ j, j < 64 → (ktab.getD j 0) % 2 ^ 32 = ktab.getD j 0 := by decide
  rw [hb t hlt]
  have hlt' : t < ktab.length := by rw [hk]; exact hlt
  simp [List.getElem?_eq_getElem hlt']

def tabFill : Obj → Obj
  | .cells _ t frozen => .cells (ktab.map (fun n : Nat => Value.int .u32 n)).toArray t frozen
  | o => o
end Go.Proofs.YtbofhoonlmikcaaDoor.Sh
