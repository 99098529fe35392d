/-
  The modulus p is a prime number (Pocklington's test, by a chain of three), and Fermat's theorem for every prime number: in plain numbers.
-/
import Derived.WalkKit
namespace Go.Proofs.Ytlojidnlkflpnaa.Nt

/-- a prime -/
def Pr (p : Nat) : Prop := 2 ≤ p ∧ ∀ k, 0 < k → k < p → Nat.gcd k p = 1

def bin : Nat → Nat → Nat
  | _, 0 => 1
  | 0, _ + 1 => 0
  | n + 1, k + 1 => bin n k + bin n (k + 1)
theorem bin_zero (n : Nat) : bin n 0 = 1 := by cases n <;> rfl
theorem bin_over : ∀ (n k : Nat), n < k → bin n k = 0
  | 0, k + 1, _ => rfl
  | n + 1, k + 1, h => by rw [bin, bin_over n k (by omega), bin_over n (k + 1) (by omega)]
theorem bin_self : ∀ n, bin n n = 1
  | 0 => rfl
  | n + 1 => by rw [bin, bin_self n, bin_over n (n + 1) (by omega)]
theorem bin_mul : ∀ (n k : Nat), (k + 1) * bin (n + 1) (k + 1) = (n + 1) * bin n k
  | 0, 0 => rfl
  | 0, k + 1 => by
    show (k + 2) * (bin 0 (k + 1) + bin 0 (k + 2)) = _
    rfl
  | n + 1, 0 => by
    have h := bin_mul n 0
    have e : bin (n + 1 + 1) (0 + 1) = bin (n + 1) 0 + bin (n + 1) (0 + 1) := rfl
    rw [e, bin_zero]
    rw [bin_zero] at h
    omega
  | n + 1, k + 1 => by
    have h1 := bin_mul n k
    have h2 := bin_mul n (k + 1)
    rw [bin, Nat.mul_add, h2]
    have e1 : (k + 1 + 1) * bin (n + 1) (k + 1) = (n + 1) * bin n k + bin (n + 1) (k + 1) := by rw [Nat.add_mul (k + 1) 1, h1, Nat.one_mul]
    rw [e1]
    have e2 : bin (n + 1) (k + 1) = bin n k + bin n (k + 1) := rfl
    rw [e2]
    simp only [Nat.add_mul, Nat.mul_add, Nat.one_mul]
    omega
def bsum (n a : Nat) : Nat → Nat
  | 0 => 0
  | k + 1 => bsum n a k + bin n k * a ^ k
theorem bsum_step (n a : Nat) : ∀ k, bsum (n + 1) a (k + 1) = bsum n a (k + 1) + a * bsum n a k
  | 0 => by simp [bsum, bin_zero]
  | k + 1 => by
    rw [bsum, bsum_step n a k]
    have e1 : bsum n a (k + 1 + 1) = bsum n a (k + 1) + bin n (k + 1) * a ^ (k + 1) := rfl
    have e2 : bsum n a (k + 1) = bsum n a k + bin n k * a ^ k := rfl
    have e3 : bin (n + 1) (k + 1) = bin n k + bin n (k + 1) := rfl
    have e4 : a * (bin n k * a ^ k) = bin n k * a ^ (k + 1) := by rw [Nat.pow_succ, Nat.mul_left_comm, Nat.mul_comm a]
    rw [e1, e2, e3, Nat.add_mul, Nat.mul_add, e4]
    omega
theorem pow_bin (a : Nat) : ∀ n, (a + 1) ^ n = bsum n a (n + 1)
  | 0 => by simp [bsum, bin]
  | n + 1 => by
    rw [bsum_step, Nat.pow_succ, pow_bin a n]
    have e : bsum n a (n + 1 + 1) = bsum n a (n + 1) + bin n (n + 1) * a ^ (n + 1) := rfl
    rw [e, bin_over n (n + 1) (by omega), Nat.zero_mul, Nat.mul_add, Nat.mul_one, Nat.add_zero, Nat.mul_comm]
    omega
theorem bin_dvd {p : Nat} (hp : Pr p) (k : Nat) (h0 : 0 < k) (h1 : k < p) : p ∣ bin p k := by
  obtain ⟨n, rfl⟩ : ∃ n, p = n + 1 := ⟨p - 1, by omega⟩
  obtain ⟨j, rfl⟩ : ∃ j, k = j + 1 := ⟨k - 1, by omega⟩
  have hm := bin_mul n j
  have hd : n + 1 ∣ (j + 1) * bin (n + 1) (j + 1) := ⟨_, hm⟩
  have hc : Nat.Coprime (n + 1) (j + 1) := by
    have := hp.2 (j + 1) h0 h1
    unfold Nat.Coprime
    rw [Nat.gcd_comm]
    exact this
  exact hc.dvd_of_dvd_mul_left hd
theorem bsum_mod {p : Nat} (hp : Pr p) (a : Nat) : ∀ k, 0 < k → k ≤ p → bsum p a k % p = 1
  | 0, h, _ => by omega
  | 1, _, _ => by
    have : bsum p a 1 = 1 := by simp [bsum, bin_zero]
    rw [this]
    exact Nat.mod_eq_of_lt hp.1
  | k + 2, _, h => by
    have ih := bsum_mod hp a (k + 1) (by omega) (by omega)
    obtain ⟨c, hc⟩ := bin_dvd hp (k + 1) (by omega) (by omega)
    rw [bsum, hc, Nat.mul_assoc, Nat.add_mul_mod_self_left]
    exact ih
theorem flt_all {p : Nat} (hp : Pr p) : ∀ a, a ^ p % p = a % p
  | 0 => by
    obtain ⟨n, hn⟩ : ∃ n, p = n + 1 := ⟨p - 1, by have := hp.1; omega⟩
    rw [hn, Nat.pow_succ, Nat.mul_zero]
  | a + 1 => by
    have h0 := hp.1
    rw [pow_bin, bsum, bin_self, Nat.one_mul, Nat.add_mod, bsum_mod hp a p (by omega) (Nat.le_refl _), flt_all hp a, Nat.add_comm 1, Nat.mod_add_mod]
theorem cop {p : Nat} (hp : Pr p) (a : Nat) (ha : a % p ≠ 0) : Nat.Coprime p a := by
  unfold Nat.Coprime
  rw [Nat.gcd_rec]
  exact hp.2 (a % p) (Nat.pos_of_ne_zero ha) (Nat.mod_lt _ (by have := hp.1; omega))
theorem flt {p : Nat} (hp : Pr p) (a : Nat) (ha : a % p ≠ 0) : a ^ (p - 1) % p = 1 := by
  have h2 := hp.1
  have ha0 : 0 < a := by
    rcases Nat.eq_zero_or_pos a with h | h
    · subst h; simp at ha
    · exact h
  have hpos : 0 < a ^ (p - 1) := Nat.pow_pos ha0
  have e : a ^ p = a * a ^ (p - 1) := by
    conv => lhs; rw [show p = (p - 1) + 1 by omega]
    rw [Nat.pow_succ, Nat.mul_comm]
  have h := flt_all hp a
  have hd : p ∣ a * (a ^ (p - 1) - 1) := by
    rw [Nat.mul_sub, Nat.mul_one, ← e]
    exact Nat.dvd_of_mod_eq_zero (Nat.sub_mod_eq_zero_of_mod_eq h)
  obtain ⟨c, hc⟩ := (cop hp a ha).dvd_of_dvd_mul_left hd
  have h3 : a ^ (p - 1) = 1 + p * c := by omega
  rw [h3, Nat.add_mul_mod_self_left]
  exact Nat.mod_eq_of_lt h2

/-- a prime factor -/
theorem has_prime : ∀ (f g : Nat), g ≤ f → 2 ≤ g → ∃ r, Pr r ∧ r ∣ g
  | 0, g, h, h2 => by omega
  | f + 1, g, h, h2 => by
    by_cases hp : Pr g
    · exact ⟨g, hp, Nat.dvd_refl _⟩
    · have hn : ¬ ∀ k, 0 < k → k < g → Nat.gcd k g = 1 := fun hk => hp ⟨h2, hk⟩
      obtain ⟨k, hk⟩ := Classical.not_forall.1 hn
      obtain ⟨h0, hk⟩ := Classical.not_imp.1 hk
      obtain ⟨h1, hk⟩ := Classical.not_imp.1 hk
      have hle : Nat.gcd k g ≤ k := Nat.gcd_le_left g h0
      have hpos : 0 < Nat.gcd k g := Nat.gcd_pos_of_pos_left g h0
      obtain ⟨r, hr, hd⟩ := has_prime f (Nat.gcd k g) (by omega) (by omega)
      exact ⟨r, hr, Nat.dvd_trans hd (Nat.gcd_dvd_right k g)⟩
theorem pow_one_mod {b m r : Nat} (hr : 2 ≤ r) (h : b ^ m % r = 1) (k : Nat) : b ^ (m * k) % r = 1 := by
  rw [Nat.pow_mul, Nat.pow_mod, h, Nat.one_pow]
  exact Nat.mod_eq_of_lt hr
theorem pow_gcd {b r : Nat} (hr : 2 ≤ r) (m n : Nat) : b ^ m % r = 1 → b ^ n % r = 1 → b ^ (Nat.gcd m n) % r = 1 := by
  induction m, n using Nat.gcd.induction with
  | H0 n => intro _ h; rw [Nat.gcd_zero_left]; exact h
  | H1 m n hm ih =>
    intro h1 h2
    rw [Nat.gcd_rec]
    refine ih ?_ h1
    have e : b ^ n = b ^ (m * (n / m)) * b ^ (n % m) := by rw [← Nat.pow_add, Nat.div_add_mod]
    rw [e, Nat.mul_mod, pow_one_mod hr h1, Nat.one_mul, Nat.mod_mod] at h2
    exact h2
theorem pock_one {N a q : Nat} (hq : Pr q) (hd : q ∣ N - 1) (h1 : a ^ (N - 1) % N = 1) (hg : Nat.gcd (a ^ ((N - 1) / q) % N + (N - 1)) N = 1) (hN : 2 ≤ N) (r : Nat) (hr : Pr r) (hrN : r ∣ N) : q ∣ r - 1 := by
  have hr2 := hr.1
  have hb : (a ^ ((N - 1) / q)) ^ q % r = 1 := by
    rw [← Nat.pow_mul, Nat.div_mul_cancel hd]
    have : a ^ (N - 1) % N % r = 1 % r := by rw [h1]
    rw [Nat.mod_mod_of_dvd _ hrN] at this
    rw [this]
    exact Nat.mod_eq_of_lt hr2
  generalize hbd : a ^ ((N - 1) / q) = b at hb hg
  have hb0 : b % r ≠ 0 := by
    intro h0
    have hq0 : q ≠ 0 := by have := hq.1; omega
    rw [Nat.pow_mod, h0, Nat.zero_pow (by omega)] at hb
    simp at hb
  have hf := flt hr b hb0
  have hgcd := pow_gcd hr2 q (r - 1) hb hf
  by_cases hdv : q ∣ r - 1
  · exact hdv
  · exfalso
    have hne : (r - 1) % q ≠ 0 := fun h => hdv (Nat.dvd_of_mod_eq_zero h)
    have hc : Nat.gcd q (r - 1) = 1 := cop hq (r - 1) hne
    rw [hc, Nat.pow_one] at hgcd
    have hN1 : (N - 1) % r = r - 1 := by
      obtain ⟨c, hc⟩ := hrN
      obtain ⟨d, rfl⟩ : ∃ d, c = d + 1 := ⟨c - 1, by rcases c with _ | c; · simp at hc; omega
                                                     · rfl⟩
      have : N - 1 = r * d + (r - 1) := by rw [hc, Nat.mul_add, Nat.mul_one]; omega
      rw [this, Nat.mul_add_mod, Nat.mod_eq_of_lt (by omega)]
    have hz : (b % N + (N - 1)) % r = 0 := by
      rw [Nat.add_mod, Nat.mod_mod_of_dvd _ hrN, hgcd, hN1]
      have : 1 + (r - 1) = r := by omega
      rw [this, Nat.mod_self]
    have hdd : r ∣ 1 := by
      rw [← hg]
      exact Nat.dvd_gcd (Nat.dvd_of_mod_eq_zero hz) hrN
    have := Nat.le_of_dvd (by omega) hdd
    omega
theorem pock {N F : Nat} (hN : 2 ≤ N) (h : ∀ r, Pr r → r ∣ N → F ∣ r - 1) (hF : N < (F + 1) * (F + 1)) : Pr N := by
  refine ⟨hN, fun k h0 h1 => ?_⟩
  by_cases hg : Nat.gcd k N = 1
  · exact hg
  · exfalso
    have hle : Nat.gcd k N ≤ k := Nat.gcd_le_left N h0
    have hpos : 0 < Nat.gcd k N := Nat.gcd_pos_of_pos_left N h0
    obtain ⟨c, hc⟩ := Nat.gcd_dvd_right k N
    have hc2 : 2 ≤ c := by
      rcases c with _ | _ | c
      · omega
      · omega
      · omega
    obtain ⟨r, hr, hrd⟩ := has_prime _ (Nat.gcd k N) (Nat.le_refl _) (by omega)
    obtain ⟨s, hs, hsd⟩ := has_prime _ c (Nat.le_refl _) hc2
    have hrN : r ∣ N := Nat.dvd_trans hrd (Nat.gcd_dvd_right k N)
    have hsN : s ∣ N := by rw [hc]; exact Nat.dvd_trans hsd (Nat.dvd_mul_left c _)
    have hr2 := hr.1
    have hs2 := hs.1
    have l1 := Nat.le_of_dvd (by omega) (h r hr hrN)
    have l2 := Nat.le_of_dvd (by omega) (h s hs hsN)
    have m1 : r ≤ Nat.gcd k N := Nat.le_of_dvd hpos hrd
    have m2 : s ≤ c := Nat.le_of_dvd (by omega) hsd
    have : (F + 1) * (F + 1) ≤ Nat.gcd k N * c := Nat.mul_le_mul (by omega) (by omega)
    omega

/-- trial -/
theorem small_prime {n b : Nat} (h2 : 2 ≤ n) (hb : n < b * b) (h : (List.range b).all (fun k => k < 2 || n % k != 0) = true) : Pr n := by
  refine ⟨h2, fun k h0 h1 => ?_⟩
  by_cases hg : Nat.gcd k n = 1
  · exact hg
  · exfalso
    have hle : Nat.gcd k n ≤ k := Nat.gcd_le_left n h0
    have hpos : 0 < Nat.gcd k n := Nat.gcd_pos_of_pos_left n h0
    obtain ⟨c, hc⟩ := Nat.gcd_dvd_right k n
    have hc2 : 2 ≤ c := by
      rcases c with _ | _ | c
      · omega
      · omega
      · omega
    have key : ∀ d, 2 ≤ d → d < b → d ∣ n → False := by
      intro d hd hdb hdn
      have := List.all_eq_true.1 h d (List.mem_range.2 hdb)
      have hz := Nat.mod_eq_zero_of_dvd hdn
      simp [hz] at this
      omega
    rcases Nat.lt_or_ge (Nat.gcd k n) b with hl | hl
    · exact key _ (by omega) hl (Nat.gcd_dvd_right k n)
    · rcases Nat.lt_or_ge c b with hm | hm
      · exact key c hc2 hm ⟨Nat.gcd k n, by rw [Nat.mul_comm]; exact hc⟩
      · have := Nat.mul_le_mul hl hm
        omega

/-- powers, reckoned -/
def pm (n a : Nat) : List Bool → Nat → Nat
  | [], r => r
  | b :: bs, r => pm n a bs (if b then r * r % n * a % n else r * r % n)
def ev : List Bool → Nat → Nat
  | [], e => e
  | b :: bs, e => ev bs (if b then 2 * e + 1 else 2 * e)
theorem pm_eq (n a : Nat) : ∀ (bs : List Bool) (r e : Nat), r = a ^ e % n → pm n a bs r = a ^ (ev bs e) % n
  | [], _, _, h => h
  | true :: bs, r, e, h => by
    rw [pm, ev]
    refine pm_eq n a bs _ _ ?_
    simp only [if_true]
    rw [h, Nat.pow_succ, Nat.two_mul, Nat.pow_add, ← Nat.mul_mod, Nat.mod_mul_mod]
  | false :: bs, r, e, h => by
    rw [pm, ev]
    refine pm_eq n a bs _ _ ?_
    simp only [Bool.false_eq_true, if_false]
    rw [h, Nat.two_mul, Nat.pow_add, ← Nat.mul_mod]

def bitsOf : Nat → Nat → List Bool → List Bool
  | 0, _, l => l
  | f + 1, e, l => bitsOf f (e / 2) (decide (e % 2 = 1) :: l)
theorem ev_append : ∀ (l m : List Bool) (e : Nat), ev (l ++ m) e = ev m (ev l e)
  | [], _, _ => rfl
  | _ :: l, m, _ => ev_append l m _
theorem ev_bitsOf : ∀ (f e : Nat) (l : List Bool), e < 2 ^ f → ev (bitsOf f e l) 0 = ev l e
  | 0, e, l, h => by
    have : e = 0 := by simp at h; exact h
    rw [this]; rfl
  | f + 1, e, l, h => by
    rw [bitsOf, ev_bitsOf f (e / 2) _ (by rw [Nat.pow_succ] at h; omega), ev]
    by_cases h1 : e % 2 = 1
    · rw [decide_eq_true h1, if_pos rfl]; congr 1; omega
    · rw [decide_eq_false h1]; simp only [Bool.false_eq_true, if_false]; congr 1; omega
theorem pow_is (f n a e : Nat) (h : e < 2 ^ f) (hn : 2 ≤ n) : pm n a (bitsOf f e []) 1 = a ^ e % n := by
  rw [pm_eq n a _ 1 0 (by rw [Nat.pow_zero, Nat.mod_eq_of_lt hn]), ev_bitsOf f e [] h]; rfl
theorem pock_pm (f : Nat) {N q : Nat} (a : Nat) (hf : N < 2 ^ f) (hq : Pr q) (hd : q ∣ N - 1) (h1 : pm N a (bitsOf f (N - 1) []) 1 = 1) (hg : Nat.gcd (pm N a (bitsOf f ((N - 1) / q) []) 1 + (N - 1)) N = 1) (hN : 2 ≤ N) (r : Nat) (hr : Pr r) (hrN : r ∣ N) : q ∣ r - 1 := by
  rw [pow_is f N a _ (by omega) hN] at h1
  rw [pow_is f N a _ (Nat.lt_of_le_of_lt (Nat.div_le_self _ _) (by omega)) hN] at hg
  exact pock_one hq hd h1 hg hN r hr hrN
theorem pr_107590001 : Pr 107590001 := small_prime (b := 10374) (by decide) (by decide) (by decide +kernel)
theorem pr_7240687 : Pr 7240687 := small_prime (b := 2692) (by decide) (by decide) (by decide +kernel)
theorem pr_96557 : Pr 96557 := small_prime (b := 312) (by decide) (by decide) (by decide +kernel)
theorem pr_r2 : Pr 255515944373312847190720520512484175977 := by
  refine pock (F := 107590001 * (7240687 * 96557)) (by decide) (fun r hr hrN => ?_) (by decide)
  have h0 := pock_pm 128 2 (by decide) pr_107590001 (by decide) (by decide +kernel) (by decide +kernel) (by decide) r hr hrN
  have h1 := pock_pm 128 2 (by decide) pr_7240687 (by decide) (by decide +kernel) (by decide +kernel) (by decide) r hr hrN
  have h2 := pock_pm 128 2 (by decide) pr_96557 (by decide) (by decide +kernel) (by decide +kernel) (by decide) r hr hrN
  exact Nat.Coprime.mul_dvd_of_dvd_of_dvd (by decide) h0 (Nat.Coprime.mul_dvd_of_dvd_of_dvd (by decide) h1 h2)
theorem pr_q : Pr 205115282021455665897114700593932402728804164701536103180137503955397371 :=
  pock (F := 255515944373312847190720520512484175977) (by decide) (fun r hr hrN => pock_pm 237 2 (by decide) pr_r2 (by decide) (by decide +kernel) (by decide +kernel) (by decide) r hr hrN) (by decide)
theorem pr_p : Pr 115792089237316195423570985008687907853269984665640564039457584007908834671663 :=
  pock (F := 205115282021455665897114700593932402728804164701536103180137503955397371) (by decide) (fun r hr hrN => pock_pm 256 2 (by decide) pr_q (by decide) (by decide +kernel) (by decide +kernel) (by decide) r hr hrN) (by decide)
end Go.Proofs.Ytlojidnlkflpnaa.Nt
