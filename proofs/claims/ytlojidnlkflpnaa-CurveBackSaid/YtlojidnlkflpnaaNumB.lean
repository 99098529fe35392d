/-
  A number's 32 bytes, the highest first, and back. No function of the program stands here.
-/
import Derived.Test.YtlojidnlkflpnaaFeOrd
import Derived.Stop.BytesEq
namespace Go.Proofs.Ytlojidnlkflpnaa
open Go.RowKit Go.Lib

/-- byte number j of a number, the lowest is 0 -/
def byteN (z j : Nat) : UInt8 := UInt8.ofNat (z / 2 ^ (8 * j) % 256)
/-- the k lowest bytes, the highest first -/
def lowB (z : Nat) : Nat → List UInt8
  | 0 => []
  | k + 1 => byteN z k :: lowB z k
theorem lowB_length (z : Nat) : ∀ k, (lowB z k).length = k
  | 0 => rfl
  | k + 1 => by rw [lowB, List.length_cons, lowB_length z k]
def bytesS (z : Nat) : List UInt8 := lowB z 32
/-- what stands in the array behind k rounds -/
def partB (z k : Nat) : List UInt8 := List.replicate (32 - k) 0 ++ lowB z k
theorem partB_length (z k : Nat) (h : k ≤ 32) : (partB z k).length = 32 := by simp [partB, lowB_length]; omega
theorem partB_full (z : Nat) : partB z 32 = bytesS z := by simp [partB, bytesS]
theorem partB_set (z k : Nat) (h : k < 32) : ((partB z k).map bv).toArray.setIfInBounds (31 - k) (bv (byteN z k)) = ((partB z (k + 1)).map bv).toArray := by
  rw [List.setIfInBounds_toArray]
  congr 1
  rw [← List.map_set]
  congr 1
  unfold partB
  rw [List.set_append_left _ _ (by simp; omega)]
  obtain ⟨m, hm⟩ : ∃ m, 32 - k = m + 1 := ⟨31 - k, by omega⟩
  have h2 : 32 - (k + 1) = m := by omega
  have h3 : 31 - k = m := by omega
  rw [hm, h2, h3, List.replicate_succ', List.set_append_right _ _ (by simp)]
  simp [lowB]
theorem bytesS_length (z : Nat) : (bytesS z).length = 32 := lowB_length z 32
theorem bv_byteN (z j : Nat) : bv (byteN z j) = .int .u8 ((z / 2 ^ (8 * j) % 256 : Nat) : Int) := by
  unfold bv byteN
  congr 2
  rw [UInt8.toNat_ofNat']
  omega
theorem Blk.val {w : World} {a : Addr} {v v' : Value} {g : Nat} {t : TypeId} {cs : Array Value} (h : Blk (w.setCell a v) g t cs) (e : v = v') : Blk (w.setCell a v') g t cs := e ▸ h
theorem b32_info {l : List UInt8} (h : l.length = 32) : (Try.prog.info? 52).map (·.size) = some (l.map bv).toArray.size := by
  simp only [List.size_toArray, List.length_map, h]
  kernel_rfl
theorem b32_one (l : List UInt8) : (l.map bv).toArray.all (·.oneCell') = true := by simp [bv, Value.oneCell']

def valB (l : List UInt8) : Nat := l.foldl (fun a b => a * 256 + b.toNat) 0
theorem valB_snoc (l : List UInt8) (c : UInt8) : valB (l ++ [c]) = valB l * 256 + c.toNat := by simp [valB, List.foldl_append]
theorem valB_lt : ∀ (n : Nat) (l : List UInt8), l.length = n → valB l < 256 ^ n
  | 0, l, h => by
    obtain rfl : l = [] := List.length_eq_zero_iff.1 h
    simp [valB]
  | n + 1, l, h => by
    have hne : l ≠ [] := by intro e; rw [e] at h; cases h
    have e := List.dropLast_concat_getLast hne
    have ih := valB_lt n l.dropLast (by rw [List.length_dropLast]; omega)
    rw [← e, valB_snoc, Nat.pow_succ]
    have := (l.getLast hne).toNat_lt
    omega
theorem valB_append (l : List UInt8) : ∀ (n : Nat) (m : List UInt8), m.length = n → valB (l ++ m) = valB l * 256 ^ n + valB m
  | 0, m, h => by
    obtain rfl : m = [] := List.length_eq_zero_iff.1 h
    simp [valB]
  | n + 1, m, h => by
    have hne : m ≠ [] := by intro e; rw [e] at h; cases h
    have e := List.dropLast_concat_getLast hne
    have ih := valB_append l n m.dropLast (by rw [List.length_dropLast]; omega)
    rw [← e, ← List.append_assoc, valB_snoc, valB_snoc, ih, Nat.pow_succ, Nat.add_mul, Nat.mul_assoc]
    omega
/-- the word of eight bytes at 8 p, as far as k bytes have come -/
def wdB (l : List UInt8) (k p : Nat) : Nat := valB ((l.drop (8 * p)).take (min 8 (k - 8 * p)))
theorem wdB_zero (l : List UInt8) (p : Nat) : wdB l 0 p = 0 := by simp [wdB, valB]
theorem wdB_step (l : List UInt8) (k p : Nat) (c : UInt8) (h : l[k]? = some c) (hp : k / 8 = p) : wdB l (k + 1) p = wdB l k p * 256 + c.toNat := by
  unfold wdB
  rw [show min 8 (k + 1 - 8 * p) = (k - 8 * p) + 1 by omega, show min 8 (k - 8 * p) = k - 8 * p by omega, List.take_add_one, List.getElem?_drop, show 8 * p + (k - 8 * p) = k by omega, h]
  exact valB_snoc _ _
theorem wdB_same (l : List UInt8) (k p : Nat) (hp : k / 8 ≠ p) : wdB l (k + 1) p = wdB l k p := by
  unfold wdB
  rw [show min 8 (k + 1 - 8 * p) = min 8 (k - 8 * p) by omega]
theorem wdB_lt (l : List UInt8) (k p : Nat) (hp : k / 8 = p) : wdB l k p < 72057594037927936 := by
  unfold wdB
  have h := valB_lt _ ((l.drop (8 * p)).take (min 8 (k - 8 * p))) rfl
  refine Nat.lt_of_lt_of_le h ?_
  have : ((l.drop (8 * p)).take (min 8 (k - 8 * p))).length ≤ 7 := by rw [List.length_take]; omega
  exact Nat.pow_le_pow_right (by omega) this
theorem wdB_all (l : List UInt8) (h : l.length = 32) : valB l = wdB l 32 3 + 18446744073709551616 * wdB l 32 2 + 340282366920938463463374607431768211456 * wdB l 32 1 + 6277101735386680763835789423207666416102355444464034512896 * wdB l 32 0 := by
  have e : l = (l.take 8 ++ (l.drop 8).take 8) ++ ((l.drop 16).take 8 ++ (l.drop 24).take 8) := by
    conv => lhs; rw [← List.take_append_drop 16 l, ← List.take_append_drop 8 (l.take 16), ← List.take_append_drop 8 (l.drop 16)]
    congr 2
    · rw [List.take_take]; rfl
    · rw [List.drop_take]
    · rw [List.drop_drop, List.take_of_length_le (by simp; omega)]
  have w0 : wdB l 32 0 = valB (l.take 8) := rfl
  have w1 : wdB l 32 1 = valB ((l.drop 8).take 8) := rfl
  have w2 : wdB l 32 2 = valB ((l.drop 16).take 8) := rfl
  have w3 : wdB l 32 3 = valB ((l.drop 24).take 8) := rfl
  conv => lhs; rw [e]
  rw [valB_append _ 16 _ (by simp; omega), valB_append _ 8 _ (by simp; omega), valB_append _ 8 _ (by simp; omega), w0, w1, w2, w3]
  have p8 : (256 : Nat) ^ 8 = 18446744073709551616 := by decide
  have p16 : (256 : Nat) ^ 16 = 340282366920938463463374607431768211456 := by decide
  rw [p8, p16, Nat.add_mul, Nat.mul_assoc]
  omega
theorem wdB_lt8 (l : List UInt8) (k p : Nat) : wdB l k p < 18446744073709551616 := by
  unfold wdB
  have h := valB_lt _ ((l.drop (8 * p)).take (min 8 (k - 8 * p))) rfl
  refine Nat.lt_of_lt_of_le h ?_
  have : ((l.drop (8 * p)).take (min 8 (k - 8 * p))).length ≤ 8 := by rw [List.length_take]; omega
  exact Nat.pow_le_pow_right (by omega) this
theorem or_add (w c : Nat) (hw : w < 72057594037927936) (hc : c < 256) : bits .or .u64 ((w : Int) * 256) (c : Int) = ((w * 256 + c : Nat) : Int) := by
  have e : ((w : Int) * 256) = ((w * 256 : Nat) : Int) := by omega
  rw [e]
  have h : w * 256 ||| c = w * 256 + c := by
    have := Nat.two_pow_add_eq_or_of_lt (i := 8) (b := c) (by omega) w
    rw [Nat.mul_comm w 256]
    exact this.symm
  have hw2 : (BitVec.ofInt 64 ((w * 256 : Nat) : Int) ||| BitVec.ofInt 64 (c : Int)).toNat = w * 256 + c := by
    rw [BitVec.toNat_or]
    simp only [BitVec.ofInt_natCast, BitVec.toNat_ofNat]
    rw [Nat.mod_eq_of_lt (by omega), Nat.mod_eq_of_lt (by omega), h]
  show IntKind.u64.wrap ((BitVec.ofInt 64 ((w * 256 : Nat) : Int) ||| BitVec.ofInt 64 (c : Int)).toNat : Int) = _
  rw [hw2, IntKind.wrap_u64]
  omega
theorem run_index_b32 (W : World) (l : List UInt8) (k : Nat) (c : UInt8) (h : l[k]? = some c) (hk : k < 32) :
    (Instr.index 52 (.agg (l.map bv).toArray) (.int .i64 (k : Int))).run Try.prog W = .ok (bv c) W := by
  unfold Instr.index
  have hs : ∀ W, (sizeOf 5).run Try.prog W = .ok 1 W := fun W => by kernel_rfl
  have pc : (part 5 (l.map bv).toArray ((k : Int).toNat * 1)).run Try.prog W = .ok (bv c) W := by
    simp [part, isAgg, run_underlying Try.underlying5, h]
  simp only [asIntOf, Sem.run_bind, Sem.run_pure, Result.andThen_ok, run_underlying Try.underlying52]
  rw [if_pos ⟨by omega, by omega⟩]
  simp only [Sem.run_bind, hs, Result.andThen_ok, pc]

theorem p256 (k : Nat) : (2 : Nat) ^ (8 * k) = 256 ^ k := by rw [Nat.pow_mul]
theorem valB_lowB (z : Nat) : ∀ k, valB (lowB z k) = z % 256 ^ k
  | 0 => by simp [lowB, valB, Nat.mod_one]
  | k + 1 => by
    have h := valB_append [byteN z k] k (lowB z k) (lowB_length z k)
    rw [lowB]
    rw [List.singleton_append] at h
    rw [h, valB_lowB z k, Nat.mod_pow_succ]
    have e : valB [byteN z k] = z / 256 ^ k % 256 := by
      have : valB [byteN z k] = (byteN z k).toNat := by simp [valB]
      rw [this, byteN, UInt8.toNat_ofNat', p256]
      omega
    rw [e, Nat.mul_comm]
    omega
theorem valB_bytesS (z : Nat) (hz : z < 115792089237316195423570985008687907853269984665640564039457584007913129639936) : valB (bytesS z) = z := by
  rw [bytesS, valB_lowB]
  have : (256 : Nat) ^ 32 = 115792089237316195423570985008687907853269984665640564039457584007913129639936 := by decide
  rw [this, Nat.mod_eq_of_lt hz]
theorem valB_inj : ∀ (n : Nat) (l m : List UInt8), l.length = n → m.length = n → valB l = valB m → l = m
  | 0, l, m, hl, hm, _ => by rw [List.length_eq_zero_iff.1 hl, List.length_eq_zero_iff.1 hm]
  | n + 1, l, m, hl, hm, h => by
    have nl : l ≠ [] := by intro e; rw [e] at hl; cases hl
    have nm : m ≠ [] := by intro e; rw [e] at hm; cases hm
    have el := List.dropLast_concat_getLast nl
    have em := List.dropLast_concat_getLast nm
    rw [← el, ← em, valB_snoc, valB_snoc] at h
    have c1 := (l.getLast nl).toNat_lt
    have c2 := (m.getLast nm).toNat_lt
    have hi := valB_inj n l.dropLast m.dropLast (by rw [List.length_dropLast]; omega) (by rw [List.length_dropLast]; omega) (by omega)
    have hc : l.getLast nl = m.getLast nm := UInt8.toNat_inj.1 (by omega)
    rw [← el, ← em, hi, hc]
theorem bytesS_valB (l : List UInt8) (h : l.length = 32) : bytesS (valB l) = l :=
  valB_inj 32 _ _ (bytesS_length _) h (valB_bytesS _ (by have := valB_lt 32 l h; have e : (256 : Nat) ^ 32 = 115792089237316195423570985008687907853269984665640564039457584007913129639936 := by decide
                                                         omega))
theorem valB_lt32 (l : List UInt8) (h : l.length = 32) : valB l < 115792089237316195423570985008687907853269984665640564039457584007913129639936 := by
  have := valB_lt 32 l h
  have e : (256 : Nat) ^ 32 = 115792089237316195423570985008687907853269984665640564039457584007913129639936 := by decide
  omega
theorem run_eql_b32 (W : World) (a : List UInt8) (ha : a.length = 32) :
    (binOp .eql 52 (.agg (a.map bv).toArray) (.agg (a.map bv).toArray)).run Try.prog W = .ok (.bool true) W := by
  have h := run_eql_bytes (P := Try.prog) W 52 5 32 Try.underlying52 Try.underlying5 (fun W => by kernel_rfl) a a ha ha
  rw [beq_self_eq_true] at h
  exact h
theorem eqGuard_b32 (op : BinOp) (x y : Operand) (a b : List UInt8) (W : World) : (eqGuard op 52 x y (.agg (a.map bv).toArray) (.agg (b.map bv).toArray)).run Try.prog W = .ok () W := by
  go_simp
end Go.Proofs.Ytlojidnlkflpnaa
