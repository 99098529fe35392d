/-
  The field of p's remainders, the curve over it, and its points as the program's values.
-/
import Derived.Test.YtlojidnlkflpnaaSym
import Derived.Test.YtlojidnlkflpnaaEcM
import Derived.Test.YtlojidnlkflpnaaFeSqrt
import Derived.Test.YtlojidnlkflpnaaFeInv
import Derived.Test.YtlojidnlkflpnaaFeNum
namespace Go.Proofs.Ytlojidnlkflpnaa.Cu
open Go.RowKit Go.Proofs.Ytlojidnlkflpnaa Go.Proofs.Ytlojidnlkflpnaa.Sy

instance npM : NeZero pM := ⟨by unfold pM; decide⟩
/-- a remainder modulo p -/
abbrev Fp := Fin pM
theorem pM_K4 : pM < 115792089237316195423570985008687907853269984665640564039457584007913129639936 := by rw [pM_eq]; decide
theorem lt4 (a : Fp) : a.val < 115792089237316195423570985008687907853269984665640564039457584007913129639936 := Nat.lt_trans a.isLt pM_K4
/-- its inverse, and 0 for 0 -/
def finv (a : Fp) : Fp := ⟨invR a.val, by rw [← invR_red]; exact mod_lt_p _⟩
/-- a word's number -/
def nat (k : Nat) (h : k < pM) : Fp := ⟨k, h⟩

theorem val_mul (a b : Fp) : mulP a.val b.val = (a * b).val := rfl
theorem val_add (a b : Fp) : addP a.val b.val = (a + b).val := rfl
theorem val_sub (a b : Fp) : subP a.val b.val = (a - b).val := by
  have hb := b.isLt
  show (a.val + (pM - b.val % pM)) % pM = ((pM - b.val) + a.val) % pM
  rw [Nat.mod_eq_of_lt hb, Nat.add_comm]
theorem val_neg (a : Fp) : negP a.val = (-a).val := by
  have hb := a.isLt
  show (pM - a.val % pM) % pM = (pM - a.val) % pM
  rw [Nat.mod_eq_of_lt hb]
theorem mul_c (a b : Fp) (w : World) : Calls Try.prog 39 #[fv a.val, fv b.val] w (Gets w (fv (a * b).val)) := mulF_any w a.val b.val (lt4 a) (lt4 b)
theorem add_c (a b : Fp) (w : World) : Calls Try.prog 83 #[fv a.val, fv b.val] w (Gets w (fv (a + b).val)) := addF_any w a.val b.val (lt4 a) (lt4 b)
theorem sub_c (a b : Fp) (w : World) : Calls Try.prog 52 #[fv a.val, fv b.val] w (Gets w (fv (a - b).val)) := by rw [← val_sub]; exact subF_any w a.val b.val (lt4 a) (lt4 b)
theorem neg_c (a : Fp) (w : World) : Calls Try.prog 48 #[fv a.val] w (Gets w (fv (-a).val)) := by rw [← val_neg]; exact negF_any w a.val (lt4 a)
theorem inv_c (a : Fp) (w : World) : Calls Try.prog 89 #[fv a.val] w (Gets w (fv (finv a).val)) := inv_any w a.val (lt4 a)
theorem of_c (k : Nat) (h : k < pM) (hk : k < 18446744073709551616) (w : World) : Calls Try.prog 84 #[.int .u64 (k : Int)] w (Gets w (fv (nat k h).val)) := of_any w k hk

/-! ## The field -/
theorem inv_gen (p q a : Nat) (hp : Nt.Pr p) (hq : q + 1 = p - 1) (h : a % p ≠ 0) : a * (a ^ q % p) % p = 1 := by
  rw [Nat.mul_mod_mod, ← Nat.pow_succ', show q.succ = p - 1 from hq]
  exact Nt.flt hp a h
theorem finv_one (a : Fp) (h : a ≠ 0) : a * finv a = 1 := by
  have hp : Nt.Pr pM := Nt.pr_p
  have ha : a.val % pM ≠ 0 := by
    rw [Nat.mod_eq_of_lt a.isLt]
    exact fun e => h (Fin.ext e)
  obtain ⟨q, hq⟩ : ∃ q, q = eInv := ⟨_, rfl⟩
  have hq1 : q + 1 = pM - 1 := by rw [hq]; decide +kernel
  have e1 := invR_pow a.val
  rw [← hq] at e1
  have e2 := inv_gen pM q a.val hp hq1 ha
  rw [← e1, Nat.mul_mod_mod] at e2
  exact Fin.ext e2
theorem cube_one (p q r x : Nat) (hp : Nt.Pr p) (hq : p - 1 = 3 * q) (h3 : x ^ 3 % p = r) (hx : x % p ≠ 0) : r ^ q % p = 1 := by
  have := Nt.flt hp x hx
  rw [hq, Nat.pow_mul, Nat.pow_mod, h3] at this
  exact this
/-- a third of p - 1 -/
def thirdP : Nat := 38597363079105398474523661669562635951089994888546854679819194669302944890554
theorem thirdP_is : pM - 1 = 3 * thirdP := by decide +kernel
/-- -7 is no cube -/
theorem no_cube : (pM - 7) ^ thirdP % pM ≠ 1 := by
  rw [← Nt.pow_is 256 pM (pM - 7) thirdP (by decide +kernel) (by decide +kernel)]
  decide +kernel
theorem no_two (x y : Fp) (h : y * y = x * x * x + 7) : y ≠ 0 := by
  rintro rfl
  have hx : x ≠ 0 := by
    rintro rfl
    have := congrArg Fin.val h
    exact absurd this (by decide +kernel)
  have ha : x.val % pM ≠ 0 := by
    rw [Nat.mod_eq_of_lt x.isLt]
    exact fun e => hx (Fin.ext e)
  have h3 : x.val ^ 3 % pM = pM - 7 := by
    have h4 : x * x * x = ⟨pM - 7, by decide +kernel⟩ := by
      have e7 : (⟨pM - 7, by decide +kernel⟩ : Fp) = -7 := by decide +kernel
      rw [e7]
      clear ha hx
      grobner
    have h5 := congrArg Fin.val h4
    have h6 : (x * x * x).val = x.val ^ 3 % pM := by
      show x.val * x.val % pM * x.val % pM = x.val ^ 3 % pM
      rw [Nat.mod_mul_mod, show x.val ^ 3 = x.val * x.val * x.val by rw [Nat.pow_succ, Nat.pow_succ, Nat.pow_one]]
    rw [← h6, h5]
  exact no_cube (cube_one pM thirdP _ x.val Nt.pr_p thirdP_is h3 ha)
theorem twice_zero (p k : Nat) (ho : p % 2 = 1) (h : k < p) (h2 : (k + k) % p = 0) : k = 0 := by
  rcases Nat.lt_or_ge (k + k) p with hl | hl
  · rw [Nat.mod_eq_of_lt hl] at h2
    omega
  · rw [Nat.mod_eq_sub_mod hl, Nat.mod_eq_of_lt (by omega)] at h2
    omega
theorem fld : Ec.Fld pM finv where
  one := finv_one
  two x h := Fin.ext (twice_zero pM x.val (by decide +kernel) x.isLt (congrArg Fin.val h))
  noTwo := no_two
end Go.Proofs.Ytlojidnlkflpnaa.Cu
