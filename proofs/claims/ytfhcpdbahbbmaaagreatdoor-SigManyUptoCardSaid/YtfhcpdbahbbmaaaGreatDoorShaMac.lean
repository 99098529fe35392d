/-
  Mac: a digest that nobody can make without a key.
-/
import Derived.Test.YtfhcpdbahbbmaaaGreatDoorShaKey
namespace Go.Proofs.YtfhcpdbahbbmaaaGreatDoor.Sh
open Go.RowKit Sp

def macS (k t : List UInt8) : List UInt8 := sum (kp k 92 ++ sum (kp k 54 ++ t))

theorem Src.off {w : World} {A : Option Addr} {m : List UInt8} {N : Nat} (h : Src w A m) (hN : w.heap.size ≤ N) : m ≠ [] → ∀ x, A = some x → x.block ≠ N := fun hne x hx => by
  obtain ⟨b', o, he, hlt, _⟩ := h hne
  rw [he] at hx
  injection hx with hx
  subst hx
  show b' ≠ N
  omega

end Go.Proofs.YtfhcpdbahbbmaaaGreatDoor.Sh
