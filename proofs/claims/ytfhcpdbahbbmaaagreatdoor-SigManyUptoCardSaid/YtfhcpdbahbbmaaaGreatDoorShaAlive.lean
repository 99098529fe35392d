/-
  The two digests that the document fixes.
-/
import Derived.Test.YtfhcpdbahbbmaaaGreatDoorShaOf
import Derived.Lib.SlBytesConst
namespace Go.Proofs.YtfhcpdbahbbmaaaGreatDoor.Sh
open Go.RowKit Sp

theorem sum_cell {w : World} {g : Nat} {t : TypeId} {l : List UInt8} (h : Blk w g t ((sum l).map bv).toArray) (i : Nat) (hi : i < 32) (v : UInt8) (hv : (sum l).getD i 0 = v) : w.cell? ⟨g, i, none⟩ = some (.int .u8 (v.toNat : Int)) := by
  refine (h.cell i).trans ?_
  have hl : i < (sum l).length := by rw [sum_length]; exact hi
  subst hv
  simp [List.getElem?_eq_getElem hl, bv]

theorem Src.of_row {w : World} {g : Nat} {t : TypeId} {fr : Nat × Nat} {m : List UInt8} (h : w.heap[g]? = some (.cells (m.map bv).toArray t fr)) : Src w (some ⟨g, 0, none⟩) m := fun _ =>
  ⟨g, 0, rfl, lt_of_block h, fun j u hu => by rw [Nat.zero_add]; exact (cell_of_row w g j _ _ _ h).trans (by simp [hu])⟩

end Go.Proofs.YtfhcpdbahbbmaaaGreatDoor.Sh
