/-
  The document's padded text.
-/
import Derived.Test.YtbofhoonlmikcaaDoorMem3
namespace Go.Proofs.YtbofhoonlmikcaaDoor.Sh
open Go.RowKit Sp

theorem zeros_more (n k : Nat) (hk : k ≤ zeros n) : ((n + 1 + k) % 64 = 56) ↔ k = zeros n := by unfold zeros at *; omega

/-- the padded text while k of its zero bytes are there -/
def zTo (m : List UInt8) (k : Nat) : List UInt8 := m ++ [128] ++ List.replicate k 0
theorem zTo_length (m : List UInt8) (k : Nat) : (zTo m k).length = m.length + 1 + k := by simp [zTo]; omega
theorem zTo_step (m : List UInt8) (k : Nat) : zTo m k ++ [0] = zTo m (k + 1) := by simp [zTo, List.replicate_succ']
/-- .. and k of its length's bytes -/
def lTo (m : List UInt8) (k : Nat) : List UInt8 := zTo m (zeros m.length) ++ (List.range k).map (lenByte m.length)
theorem lTo_length (m : List UInt8) (k : Nat) : (lTo m k).length = m.length + 1 + zeros m.length + k := by simp only [lTo, List.length_append, zTo_length, List.length_map, List.length_range]
theorem lTo_step (m : List UInt8) (k : Nat) : lTo m k ++ [lenByte m.length k] = lTo m (k + 1) := by simp [lTo, List.range_succ]
theorem lTo_8 (m : List UInt8) : lTo m 8 = padded m := by simp [lTo, zTo, padded, pad]
theorem lenByte_r (n k : Nat) (_hk : k < 8) : (8 * (n : Int)) / 2 ^ (56 - 8 * k) % 256 = ((lenByte n k).toNat : Int) := by
  unfold lenByte
  simp
theorem byteOf (x : UInt8) (z : Int) (h : z = (x.toNat : Int)) : (Value.int .u8 z) = bv x := by rw [h]; rfl

end Go.Proofs.YtbofhoonlmikcaaDoor.Sh
