/-
  Roots modulo p, in plain numbers: the program's root is the document's; it is even; its square is the number; the square of each number has a root, which is that number or its contrary.
-/
import Derived.Test.YtlojidnlkflpnaaFeSqrt
import Derived.Test.YtlojidnlkflpnaaRefSqrt
namespace Go.Proofs.Ytlojidnlkflpnaa
open Go.RowKit Go.Lib

theorem prime_p : Nt.Pr pM := Nt.pr_p
theorem eRoot_is : eRoot = eQ := by decide +kernel
theorem four_eQ : 2 * (eQ + eQ) = pM + 1 := by decide +kernel
theorem root_is (x : Nat) : rtR x = rootR x := by
  have h := rootR_pow x
  rw [rootR_red, eRoot_is] at h
  rw [h]
  rfl
theorem root_lt_p (x : Nat) : rootR x < pM := by rw [← rootR_red]; exact mod_lt_p _
theorem low_odd (r : Nat) : r % 18446744073709551616 % 2 = r % 2 := by omega
theorem sqrt_is (x : Nat) : sqrtR x = sqrtS x := by
  unfold sqrtR sqrtS
  rw [root_is, low_odd, rootR_red]

theorem sq_le {p r a : Nat} (hp : Nt.Pr p) (hle : a ≤ r) (hr : r < p) (h : r * r % p = a * a % p) : r = a ∨ r + a = p := by
  have e : (r - a) * (r + a) = r * r - a * a := by
    obtain ⟨d, rfl⟩ : ∃ d, r = a + d := ⟨r - a, by omega⟩
    rw [Nat.add_sub_cancel_left]
    have h1 : (a + d) * (a + d) = a * a + d * (a + d + a) := by
      simp only [Nat.mul_add, Nat.add_mul]
      have := Nat.mul_comm a d
      omega
    rw [h1, Nat.add_sub_cancel_left]
  have hd : p ∣ (r - a) * (r + a) := by
    rw [e]
    exact Nat.dvd_of_mod_eq_zero (Nat.sub_mod_eq_zero_of_mod_eq h)
  by_cases hz : (r + a) % p = 0
  · obtain ⟨k, hk⟩ := Nat.dvd_of_mod_eq_zero hz
    rcases k with _ | _ | k
    · left; omega
    · right; omega
    · have hk' : r + a = p * (k + 2) := hk
      have : p * 2 ≤ p * (k + 2) := Nat.mul_le_mul (Nat.le_refl _) (by omega)
      omega
  · left
    have hd2 : p ∣ r - a := (Nt.cop hp (r + a) hz).dvd_of_dvd_mul_right hd
    have := Nat.eq_zero_of_dvd_of_lt hd2 (by omega)
    omega
theorem sq_roots {p r a : Nat} (hp : Nt.Pr p) (hr : r < p) (ha : a < p) (h : r * r % p = a * a % p) : r = a ∨ r + a = p := by
  rcases Nat.le_total a r with hl | hl
  · exact sq_le hp hl hr h
  · rcases sq_le hp hl ha h.symm with h1 | h1
    · exact .inl h1.symm
    · exact .inr (by omega)
theorem pow_gen {p a e : Nat} (hp : Nt.Pr p) (he : 2 * (e + e) = p + 1) : ((a * a) ^ e % p) * ((a * a) ^ e % p) % p = a * a % p := by
  have h2 := hp.1
  rw [← Nat.mul_mod, ← Nat.pow_add, ← Nat.pow_two, ← Nat.pow_mul, he]
  have e1 : a ^ (p + 1) = a ^ (p - 1) * a ^ 2 := by rw [← Nat.pow_add]; congr 1; omega
  rw [e1, Nat.mul_mod]
  by_cases hz : a % p = 0
  · have : a ^ 2 % p = 0 := by rw [Nat.pow_two, Nat.mul_mod, hz]; simp
    rw [this]; simp
  · rw [Nt.flt hp a hz, Nat.one_mul, Nat.mod_mod]
theorem root_sq (a : Nat) : mulP (rootR (mulP a a)) (rootR (mulP a a)) = mulP a a := by
  have h := rootR_pow (mulP a a)
  rw [rootR_red, eRoot_is] at h
  rw [h]
  unfold mulP
  rw [← Nat.pow_mod]
  exact pow_gen prime_p four_eQ
theorem neg_of (r : Nat) (h : r < pM) (h0 : r ≠ 0) : negP r = pM - r := by
  unfold negP
  rw [Nat.mod_eq_of_lt h]
  exact Nat.mod_eq_of_lt (by omega)
theorem neg_sq (r : Nat) (h : r < pM) (h0 : r ≠ 0) : mulP (negP r) (negP r) = mulP r r := by
  rw [neg_of r h h0]
  obtain ⟨q, hq⟩ : ∃ q, pM = q + r := ⟨pM - r, by omega⟩
  rw [show pM - r = q by omega]
  unfold mulP
  have e : q * q + pM * r = r * r + pM * q := by
    rw [hq, Nat.add_mul, Nat.add_mul, Nat.mul_comm r q]
    omega
  have h1 : (q * q + pM * r) % pM = q * q % pM := Nat.add_mul_mod_self_left _ _ _
  have h2 : (r * r + pM * q) % pM = r * r % pM := Nat.add_mul_mod_self_left _ _ _
  rw [← h1, ← h2, e]
theorem pM_odd : pM % 2 = 1 := by decide +kernel
/-- the answer is even -/
theorem sqrt_even (x : Nat) : (sqrtS x).1 % pM % 2 = 0 := by
  unfold sqrtS
  have hr := root_lt_p x
  by_cases h1 : mulP (rootR x) (rootR x) ≠ x % pM
  · rw [if_pos h1]; rw [Nat.zero_mod]
  · rw [if_neg h1]
    by_cases h2 : rootR x % pM % 2 = 1
    · rw [if_pos h2]
      rw [rootR_red] at h2
      have h0 : rootR x ≠ 0 := by omega
      have e := neg_of _ hr h0
      have hp := pM_odd
      show negP (rootR x) % pM % 2 = 0
      rw [e, Nat.mod_eq_of_lt (show pM - rootR x < pM by omega)]
      omega
    · rw [if_neg h2]
      show rootR x % pM % 2 = 0
      omega
theorem sqrt_lt (x : Nat) : (sqrtS x).1 < 115792089237316195423570985008687907853269984665640564039457584007913129639936 := by
  unfold sqrtS
  by_cases h1 : mulP (rootR x) (rootR x) ≠ x % pM
  · rw [if_pos h1]; show 0 < _; omega
  · rw [if_neg h1]
    by_cases h2 : rootR x % pM % 2 = 1
    · rw [if_pos h2]; exact negP_lt _
    · rw [if_neg h2]; exact rootR_lt _
/-- its square is the number -/
theorem sqrt_mul (x : Nat) (h : (sqrtS x).2 = true) : mulP (sqrtS x).1 (sqrtS x).1 = x % pM := by
  unfold sqrtS at h ⊢
  by_cases h1 : mulP (rootR x) (rootR x) ≠ x % pM
  · rw [if_pos h1] at h; cases h
  · rw [if_neg h1]
    have h1' : mulP (rootR x) (rootR x) = x % pM := Classical.not_not.1 h1
    by_cases h2 : rootR x % pM % 2 = 1
    · rw [if_pos h2]
      rw [rootR_red] at h2
      show mulP (negP (rootR x)) (negP (rootR x)) = _
      rw [neg_sq _ (root_lt_p x) (by omega)]
      exact h1'
    · rw [if_neg h2]; exact h1'
/-- the square of a number has a root: that number, or its contrary -/
theorem sqrt_sq (a : Nat) : ∃ s, sqrtS (mulP a a) = (s, true) ∧ (s = a % pM ∨ s = negP a) := by
  obtain ⟨r, hr⟩ : ∃ r, r = rootR (mulP a a) := ⟨_, rfl⟩
  have hs := root_sq a
  rw [← hr] at hs
  have hl : r < pM := by rw [hr]; exact root_lt_p _
  have hx : mulP a a % pM = mulP a a := by unfold mulP; rw [Nat.mod_mod]
  obtain ⟨b, hb⟩ : ∃ b, b = a % pM := ⟨_, rfl⟩
  have hbl : b < pM := by rw [hb]; exact mod_lt_p a
  have hng : negP a = negP b := by unfold negP; rw [hb, Nat.mod_mod]
  have hrr : r = b ∨ r + b = pM := by
    refine sq_roots prime_p hl hbl ?_
    have : mulP a a = b * b % pM := by rw [hb, ← Nat.mul_mod]; rfl
    rw [← this]; exact hs
  have p0 : 0 < pM := by omega
  have hor : (r = b ∧ negP r = negP b) ∨ (r = negP b ∧ negP r = b) := by
    rcases hrr with h | h
    · left; exact ⟨h, by rw [h]⟩
    · by_cases h0 : b = 0
      · omega
      · right
        have e1 := neg_of b hbl h0
        have e2 := neg_of r hl (by omega)
        exact ⟨by omega, by omega⟩
  unfold sqrtS
  rw [← hr, hx, if_neg (by rw [hs]; exact fun h => h rfl), hng, ← hb]
  by_cases h2 : r % pM % 2 = 1
  · rw [if_pos h2]
    refine ⟨_, rfl, ?_⟩
    rcases hor with h | h
    · exact .inr h.2
    · exact .inl h.2
  · rw [if_neg h2]
    refine ⟨_, rfl, ?_⟩
    rcases hor with h | h
    · exact .inl h.1
    · exact .inr h.1
end Go.Proofs.Ytlojidnlkflpnaa
