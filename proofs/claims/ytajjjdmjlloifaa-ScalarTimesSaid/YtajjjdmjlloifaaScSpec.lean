/-
  Sums and products modulo n, in plain numbers.
-/
import Derived.Test.YtajjjdmjlloifaaFeSpec
namespace Go.Proofs.Ytajjjdmjlloifaa.Sc
open Go.RowKit

/-- the modulus -/
def pM : Nat := 115792089237316195423570985008687907852837564279074904382605163141518161494337
theorem pM_eq : pM = 115792089237316195423570985008687907852837564279074904382605163141518161494337 := rfl
theorem mod_lt (n : Nat) : n % pM < 115792089237316195423570985008687907853269984665640564039457584007913129639936 := by have := Nat.mod_lt n (show 0 < pM by decide); rw [pM_eq] at this ⊢; omega
theorem mod_lt_p (n : Nat) : n % pM < pM := Nat.mod_lt n (by decide)
def addP (x y : Nat) : Nat := (x + y) % pM
def negP (x : Nat) : Nat := (pM - x % pM) % pM
def subP (x y : Nat) : Nat := (x + (pM - y % pM)) % pM
def mulP (x y : Nat) : Nat := x * y % pM
theorem addP_lt (x y : Nat) : addP x y < 115792089237316195423570985008687907853269984665640564039457584007913129639936 := mod_lt _
theorem negP_lt (x : Nat) : negP x < 115792089237316195423570985008687907853269984665640564039457584007913129639936 := mod_lt _
theorem subP_lt (x y : Nat) : subP x y < 115792089237316195423570985008687907853269984665640564039457584007913129639936 := mod_lt _
theorem mulP_lt (x y : Nat) : mulP x y < 115792089237316195423570985008687907853269984665640564039457584007913129639936 := mod_lt _

theorem add_comm_p (x y : Nat) : addP x y = addP y x := by unfold addP; rw [Nat.add_comm]
theorem mul_comm_p (x y : Nat) : mulP x y = mulP y x := by unfold mulP; rw [Nat.mul_comm]
theorem add_assoc_p (x y z : Nat) : addP (addP x y) z = addP x (addP y z) := by
  unfold addP; rw [Nat.mod_add_mod, Nat.add_mod_mod, Nat.add_assoc]
theorem mul_assoc_p (x y z : Nat) : mulP (mulP x y) z = mulP x (mulP y z) := by
  unfold mulP; rw [Nat.mod_mul_mod, Nat.mul_mod_mod, Nat.mul_assoc]
theorem mul_add_p (x y z : Nat) : mulP x (addP y z) = addP (mulP x y) (mulP x z) := by
  unfold mulP addP; rw [Nat.mul_mod_mod, Nat.mod_add_mod, Nat.add_mod_mod, Nat.mul_add]
theorem sub_add_p (x y : Nat) : subP (addP x y) y = x % pM := by
  unfold subP addP
  have hy := mod_lt_p y
  rw [Nat.mod_add_mod]
  have hd := Nat.div_add_mod y pM
  have e : x + y + (pM - y % pM) = x + pM * (y / pM + 1) := by rw [Nat.mul_add]; omega
  rw [e, Nat.add_mul_mod_self_left]
theorem add_neg_p (x : Nat) : addP x (negP x) = 0 := by
  unfold negP addP
  have hx := mod_lt_p x
  rw [Nat.add_mod_mod]
  have hd := Nat.div_add_mod x pM
  have e : x + (pM - x % pM) = pM * (x / pM + 1) := by rw [Nat.mul_add]; omega
  rw [e, Nat.mul_mod_right]

/-- what is p or more, and below 2^256, loses p once -/
theorem red_once (x : Nat) (hx : x < 115792089237316195423570985008687907853269984665640564039457584007913129639936) : x % pM = if x + 432420386565659656852420866394968145599 < 115792089237316195423570985008687907853269984665640564039457584007913129639936 then x else x + 432420386565659656852420866394968145599 - 115792089237316195423570985008687907853269984665640564039457584007913129639936 := by
  rw [pM_eq]
  by_cases h : x + 432420386565659656852420866394968145599 < 115792089237316195423570985008687907853269984665640564039457584007913129639936
  · rw [if_pos h]; exact Nat.mod_eq_of_lt (by omega)
  · rw [if_neg h, Nat.mod_eq_sub_mod (by omega), Nat.mod_eq_of_lt (by omega)]
    omega
/-- a difference by a multiple of p does not count -/
theorem mod_of_mult {x z k : Nat} (h : z + 115792089237316195423570985008687907852837564279074904382605163141518161494337 * k = x) : z % pM = x % pM := by
  rw [← h, pM_eq, Nat.add_mul_mod_self_left]
theorem sub_words (x y : Nat) : subP x y = if y % pM ≤ x % pM then x % pM - y % pM else x % pM + 115792089237316195423570985008687907852837564279074904382605163141518161494337 - y % pM := by
  unfold subP
  have hx := mod_lt_p x
  have hy := mod_lt_p y
  rw [← Nat.mod_add_mod]
  generalize x % pM = a at *
  generalize y % pM = b at *
  rw [pM_eq] at *
  by_cases h : b ≤ a
  · rw [if_pos h, Nat.mod_eq_sub_mod (by omega), Nat.mod_eq_of_lt (by omega)]; omega
  · rw [if_neg h, Nat.mod_eq_of_lt (by omega)]; omega
theorem neg_sub (x : Nat) : negP x = subP 0 x := by unfold negP subP; rw [Nat.zero_add]

end Go.Proofs.Ytajjjdmjlloifaa.Sc
