/-
  Numbers of four words of 64 bits, the lowest first, as the program's arrays and structs hold them; sums and products modulo p, in plain numbers.
-/
import Derived.WalkKit
namespace Go.Proofs.Ytlojidnlkflpnaa
open Go.RowKit

/-- a word -/
def qv (n : Nat) : Value := .int .u64 (n : Int)
/-- four words of a number -/
def fv (n : Nat) : Value := .agg #[qv (n % 18446744073709551616), qv (n / 18446744073709551616 % 18446744073709551616), qv (n / 340282366920938463463374607431768211456 % 18446744073709551616), qv (n / 6277101735386680763835789423207666416102355444464034512896 % 18446744073709551616)]
theorem fv_mk (a b c d : Nat) (ha : a < 18446744073709551616) (hb : b < 18446744073709551616) (hc : c < 18446744073709551616) (hd : d < 18446744073709551616) : Value.agg #[.int .u64 (a : Int), .int .u64 (b : Int), .int .u64 (c : Int), .int .u64 (d : Int)] = fv (a + 18446744073709551616 * b + 340282366920938463463374607431768211456 * c + 6277101735386680763835789423207666416102355444464034512896 * d) := by
  unfold fv qv
  have e0 : (a + 18446744073709551616 * b + 340282366920938463463374607431768211456 * c + 6277101735386680763835789423207666416102355444464034512896 * d) % 18446744073709551616 = a := by omega
  have e1 : (a + 18446744073709551616 * b + 340282366920938463463374607431768211456 * c + 6277101735386680763835789423207666416102355444464034512896 * d) / 18446744073709551616 % 18446744073709551616 = b := by omega
  have e2 : (a + 18446744073709551616 * b + 340282366920938463463374607431768211456 * c + 6277101735386680763835789423207666416102355444464034512896 * d) / 340282366920938463463374607431768211456 % 18446744073709551616 = c := by omega
  have e3 : (a + 18446744073709551616 * b + 340282366920938463463374607431768211456 * c + 6277101735386680763835789423207666416102355444464034512896 * d) / 6277101735386680763835789423207666416102355444464034512896 % 18446744073709551616 = d := by omega
  rw [e0, e1, e2, e3]
/-- .. and the words of a number, under names -/
theorem words_of (n : Nat) (hn : n < 115792089237316195423570985008687907853269984665640564039457584007913129639936) : ∃ a b c d : Nat, a < 18446744073709551616 ∧ b < 18446744073709551616 ∧ c < 18446744073709551616 ∧ d < 18446744073709551616 ∧ n = a + 18446744073709551616 * b + 340282366920938463463374607431768211456 * c + 6277101735386680763835789423207666416102355444464034512896 * d ∧ fv n = .agg #[.int .u64 (a : Int), .int .u64 (b : Int), .int .u64 (c : Int), .int .u64 (d : Int)] :=
  ⟨n % 18446744073709551616, n / 18446744073709551616 % 18446744073709551616, n / 340282366920938463463374607431768211456 % 18446744073709551616, n / 6277101735386680763835789423207666416102355444464034512896 % 18446744073709551616, by omega, by omega, by omega, by omega, by omega, rfl⟩
theorem fv_lt (a b c d : Nat) (ha : a < 18446744073709551616) (hb : b < 18446744073709551616) (hc : c < 18446744073709551616) (hd : d < 18446744073709551616) : a + 18446744073709551616 * b + 340282366920938463463374607431768211456 * c + 6277101735386680763835789423207666416102355444464034512896 * d < 115792089237316195423570985008687907853269984665640564039457584007913129639936 := by omega
theorem fv_inj {n m : Nat} (hn : n < 115792089237316195423570985008687907853269984665640564039457584007913129639936) (hm : m < 115792089237316195423570985008687907853269984665640564039457584007913129639936) (h : fv n = fv m) : n = m := by
  unfold fv qv at h
  injection h with h
  have h := congrArg Array.toList h
  simp only [List.cons.injEq, Value.int.injEq, true_and, and_true] at h
  obtain ⟨h0, h1, h2, h3⟩ := h
  omega

/-- the modulus -/
def pM : Nat := 115792089237316195423570985008687907853269984665640564039457584007908834671663
theorem pM_eq : pM = 115792089237316195423570985008687907853269984665640564039457584007908834671663 := rfl
theorem mod_lt (n : Nat) : n % pM < 115792089237316195423570985008687907853269984665640564039457584007913129639936 := by have := Nat.mod_lt n (show 0 < pM by decide); rw [pM_eq] at this ⊢; omega
theorem mod_lt_p (n : Nat) : n % pM < pM := Nat.mod_lt n (by decide)
def addP (x y : Nat) : Nat := (x + y) % pM
def negP (x : Nat) : Nat := (pM - x % pM) % pM
def subP (x y : Nat) : Nat := (x + (pM - y % pM)) % pM
def mulP (x y : Nat) : Nat := x * y % pM
theorem addP_lt (x y : Nat) : addP x y < 115792089237316195423570985008687907853269984665640564039457584007913129639936 := mod_lt _
theorem negP_lt (x : Nat) : negP x < 115792089237316195423570985008687907853269984665640564039457584007913129639936 := mod_lt _
theorem subP_lt (x y : Nat) : subP x y < 115792089237316195423570985008687907853269984665640564039457584007913129639936 := mod_lt _
theorem mulP_lt (x y : Nat) : mulP x y < 115792089237316195423570985008687907853269984665640564039457584007913129639936 := mod_lt _

theorem add_comm_p (x y : Nat) : addP x y = addP y x := by unfold addP; rw [Nat.add_comm]
theorem mul_comm_p (x y : Nat) : mulP x y = mulP y x := by unfold mulP; rw [Nat.mul_comm]
theorem add_assoc_p (x y z : Nat) : addP (addP x y) z = addP x (addP y z) := by
  unfold addP; rw [Nat.mod_add_mod, Nat.add_mod_mod, Nat.add_assoc]
theorem mul_assoc_p (x y z : Nat) : mulP (mulP x y) z = mulP x (mulP y z) := by
  unfold mulP; rw [Nat.mod_mul_mod, Nat.mul_mod_mod, Nat.mul_assoc]
theorem mul_add_p (x y z : Nat) : mulP x (addP y z) = addP (mulP x y) (mulP x z) := by
  unfold mulP addP; rw [Nat.mul_mod_mod, Nat.mod_add_mod, Nat.add_mod_mod, Nat.mul_add]
theorem sub_add_p (x y : Nat) : subP (addP x y) y = x % pM := by
  unfold subP addP
  have hy := mod_lt_p y
  rw [Nat.mod_add_mod]
  have hd := Nat.div_add_mod y pM
  have e : x + y + (pM - y % pM) = x + pM * (y / pM + 1) := by rw [Nat.mul_add]; omega
  rw [e, Nat.add_mul_mod_self_left]
theorem add_neg_p (x : Nat) : addP x (negP x) = 0 := by
  unfold negP addP
  have hx := mod_lt_p x
  rw [Nat.add_mod_mod]
  have hd := Nat.div_add_mod x pM
  have e : x + (pM - x % pM) = pM * (x / pM + 1) := by rw [Nat.mul_add]; omega
  rw [e, Nat.mul_mod_right]

/-- what is p or more, and below 2^256, loses p once -/
theorem red_once (x : Nat) (hx : x < 115792089237316195423570985008687907853269984665640564039457584007913129639936) : x % pM = if x + 4294968273 < 115792089237316195423570985008687907853269984665640564039457584007913129639936 then x else x + 4294968273 - 115792089237316195423570985008687907853269984665640564039457584007913129639936 := by
  rw [pM_eq]
  by_cases h : x + 4294968273 < 115792089237316195423570985008687907853269984665640564039457584007913129639936
  · rw [if_pos h]; exact Nat.mod_eq_of_lt (by omega)
  · rw [if_neg h, Nat.mod_eq_sub_mod (by omega), Nat.mod_eq_of_lt (by omega)]
    omega
/-- a difference by a multiple of p does not count -/
theorem mod_of_mult {x z k : Nat} (h : z + 115792089237316195423570985008687907853269984665640564039457584007908834671663 * k = x) : z % pM = x % pM := by
  rw [← h, pM_eq, Nat.add_mul_mod_self_left]
theorem sub_words (x y : Nat) : subP x y = if y % pM ≤ x % pM then x % pM - y % pM else x % pM + 115792089237316195423570985008687907853269984665640564039457584007908834671663 - y % pM := by
  unfold subP
  have hx := mod_lt_p x
  have hy := mod_lt_p y
  rw [← Nat.mod_add_mod]
  generalize x % pM = a at *
  generalize y % pM = b at *
  rw [pM_eq] at *
  by_cases h : b ≤ a
  · rw [if_pos h, Nat.mod_eq_sub_mod (by omega), Nat.mod_eq_of_lt (by omega)]; omega
  · rw [if_neg h, Nat.mod_eq_of_lt (by omega)]; omega
theorem neg_sub (x : Nat) : negP x = subP 0 x := by unfold negP subP; rw [Nat.zero_add]

/-- a row of a product: four words by one -/
theorem row_mul (a b c d w : Nat) : (a + 18446744073709551616 * b + 340282366920938463463374607431768211456 * c + 6277101735386680763835789423207666416102355444464034512896 * d) * w = a * w + 18446744073709551616 * (b * w) + 340282366920938463463374607431768211456 * (c * w) + 6277101735386680763835789423207666416102355444464034512896 * (d * w) := by
  simp only [Nat.add_mul, Nat.mul_assoc]
theorem col_mul (x a b c d : Nat) : x * (a + 18446744073709551616 * b + 340282366920938463463374607431768211456 * c + 6277101735386680763835789423207666416102355444464034512896 * d) = x * a + 18446744073709551616 * (x * b) + 340282366920938463463374607431768211456 * (x * c) + 6277101735386680763835789423207666416102355444464034512896 * (x * d) := by
  rw [Nat.mul_comm, row_mul, Nat.mul_comm a, Nat.mul_comm b, Nat.mul_comm c, Nat.mul_comm d]
theorem mul_lt_K {a b m n : Nat} (ha : a < m) (hb : b < n) : a * b + a + b + 1 ≤ m * n := by
  have h1 : (a + 1) * (b + 1) ≤ m * n := Nat.mul_le_mul ha hb
  have h2 : (a + 1) * (b + 1) = a * b + a + b + 1 := by rw [Nat.add_mul, Nat.mul_add, Nat.one_mul]; omega
  omega
end Go.Proofs.Ytlojidnlkflpnaa
