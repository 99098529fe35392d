/-
  string(b) of bytes that lie somewhere. No function of the program stands here.
-/
import Derived.Test.YtimnpakmifjgoaaDoorShaMac
import Derived.Laws.IdiomStrings
import Derived.Shelf.Bytes.SlSmallAll
namespace Go.Proofs.YtimnpakmifjgoaaDoor
open Go.RowKit Sp
theorem run_string_of {P : Program} {w : World} {src dst e : TypeId} {A : Option Addr} {m : List UInt8} {c : Nat} (h : Src w A m) (hs : P.underlying src = some (.slice e)) (he : P.underlying e = some (.int .u8)) (hd : P.underlying dst = some .string) :
    (convert src dst (.slice A m.length c)).run P w = .ok (.string ⟨m.toArray⟩) w := by
  by_cases hm : m = []
  · subst hm
    exact run_convert_bytes_zero w src e hs he A c dst hd
  · obtain ⟨b, o, rfl, _, hc⟩ := h hm
    refine run_convert_bytes_back w src dst e _ c m hs he hd (fun j hj => ?_)
    rw [addr_add]
    exact hc j _ (List.getElem?_eq_getElem hj)
end Go.Proofs.YtimnpakmifjgoaaDoor
