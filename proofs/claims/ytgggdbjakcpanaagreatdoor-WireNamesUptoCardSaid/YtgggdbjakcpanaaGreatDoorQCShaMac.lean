import Derived.Test.YtgggdbjakcpanaaGreatDoorQCShaKey
set_option linter.unusedVariables false
set_option linter.unusedSimpArgs false
namespace Go.Proofs.YtgggdbjakcpanaaGreatDoor
namespace Sh
open Go.RowKit Sp
theorem Src.off {w:World} {A:Option Addr} {m:List UInt8} {N:Nat} (h:Src w A m) (hN:w.heap.size≤N):m≠[]→∀ x,A=some x→x.block≠N:=fun hne x hx=>by
 obtain ⟨b',o,he,hlt,_⟩:=h hne
 rw [he] at hx
 injection hx with hx
 subst hx
 show b'≠N
 omega
end Sh
end Go.Proofs.YtgggdbjakcpanaaGreatDoor
