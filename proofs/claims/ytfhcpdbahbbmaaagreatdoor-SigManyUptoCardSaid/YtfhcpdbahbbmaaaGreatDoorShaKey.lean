/-
  A key that fills a block, each byte xored.
-/
import Derived.Test.YtfhcpdbahbbmaaaGreatDoorRefOfL
import Derived.Test.YtfhcpdbahbbmaaaGreatDoorShaLess
import Derived.Test.YtfhcpdbahbbmaaaGreatDoorOwnAny
namespace Go.Proofs.YtfhcpdbahbbmaaaGreatDoor.Sh
open Go.RowKit Sp

def kin (k : List UInt8) : List UInt8 := if 64 < k.length then sum k else k
def pad64 (l : List UInt8) : List UInt8 := l ++ List.replicate (64 - l.length) 0
def kp (k : List UInt8) (x : UInt8) : List UInt8 := (pad64 (kin k)).map (fun b => b ^^^ x)
theorem kin_length (k : List UInt8) : (kin k).length ≤ 64 := by
  unfold kin; split
  · rw [sum_length]; omega
  · omega
theorem pad64_length (l : List UInt8) (h : l.length ≤ 64) : (pad64 l).length = 64 := by simp [pad64]; omega
theorem kp_length (k : List UInt8) (x : UInt8) : (kp k x).length = 64 := by rw [kp, List.length_map, pad64_length _ (kin_length k)]
theorem xor8 (a b : UInt8) : bits .xor .u8 (a.toNat : Int) (b.toNat : Int) = ((a ^^^ b).toNat : Int) := by
  rw [u8_xor_nat _ _ a.toNat_lt b.toNat_lt, UInt8.toNat_xor]
theorem pad64_copy (l : List UInt8) (_h : l.length ≤ 64) : (List.replicate 64 (Value.int .u8 0)).take 0 ++ (l.map bv ++ (List.replicate 64 (Value.int .u8 0)).drop (0 + (l.map bv).length)) = (pad64 l).map bv := by
  rw [List.length_map]
  simp only [List.take_zero, List.nil_append, Nat.zero_add, List.drop_replicate, pad64, List.map_append, List.map_replicate]
  rfl

end Go.Proofs.YtfhcpdbahbbmaaaGreatDoor.Sh
