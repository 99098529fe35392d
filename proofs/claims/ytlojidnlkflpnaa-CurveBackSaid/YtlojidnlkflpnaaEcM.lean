/-
  Copies of a point; N copies of any point are nothing, where N is a prime, N copies of one point are nothing, and the curve has fewer than 3 N points. No function of the program stands here.
-/
import Derived.Test.YtlojidnlkflpnaaEc
namespace Go.Proofs.Ytlojidnlkflpnaa.Ec
variable {n : Nat} [NeZero n] {inv : Fin n → Fin n}

/-- so many copies of a point -/
def nm (inv : Fin n → Fin n) : Nat → Pt n → Pt n
  | 0, _ => none
  | k + 1, P => Ec.add inv (nm inv k P) P

theorem On.nm (H : Fld n inv) {P : Pt n} (hP : On P) : ∀ k, On (nm inv k P)
  | 0 => trivial
  | k + 1 => On.add H (On.nm H hP k) hP
theorem nm_one (P : Pt n) : nm inv 1 P = P := zero_add P
theorem nm_none : ∀ k, nm inv k (none : Pt n) = none
  | 0 => rfl
  | k + 1 => by unfold nm; rw [nm_none k]; rfl
theorem nm_add (H : Fld n inv) {P : Pt n} (hP : On P) (a : Nat) : ∀ b, nm inv (a + b) P = Ec.add inv (nm inv a P) (nm inv b P)
  | 0 => (add_zero _).symm
  | b + 1 => by
    show Ec.add inv (nm inv (a + b) P) P = Ec.add inv (nm inv a P) (Ec.add inv (nm inv b P) P)
    rw [nm_add H hP a b, assoc H (hP.nm H a) (hP.nm H b) hP]
theorem nm_mul (H : Fld n inv) {P : Pt n} (hP : On P) (b : Nat) : ∀ a, nm inv (a * b) P = nm inv a (nm inv b P)
  | 0 => by rw [Nat.zero_mul]; rfl
  | a + 1 => by
    rw [Nat.add_mul, Nat.one_mul, nm_add H hP, nm_mul H hP b a]
    rfl
theorem add4 (H : Fld n inv) {P Q R S : Pt n} (hP : On P) (hQ : On Q) (hR : On R) (hS : On S) : Ec.add inv (Ec.add inv P Q) (Ec.add inv R S) = Ec.add inv (Ec.add inv P R) (Ec.add inv Q S) := by
  rw [assoc H hP hQ (On.add H hR hS), ← assoc H hQ hR hS, comm H hQ hR, assoc H hR hQ hS, ← assoc H hP hR (On.add H hQ hS)]
theorem nm_sum (H : Fld n inv) {P Q : Pt n} (hP : On P) (hQ : On Q) : ∀ k, nm inv k (Ec.add inv P Q) = Ec.add inv (nm inv k P) (nm inv k Q)
  | 0 => rfl
  | k + 1 => by
    show Ec.add inv (nm inv k (Ec.add inv P Q)) _ = Ec.add inv (Ec.add inv _ P) (Ec.add inv _ Q)
    rw [nm_sum H hP hQ k]
    exact add4 H (hP.nm H k) (hQ.nm H k) hP hQ
theorem nm_comm (H : Fld n inv) {P : Pt n} (hP : On P) (a b : Nat) : nm inv a (nm inv b P) = nm inv b (nm inv a P) := by
  rw [← nm_mul H hP, ← nm_mul H hP, Nat.mul_comm]
theorem nm_neg (H : Fld n inv) {P : Pt n} (hP : On P) : ∀ k, nm inv k (neg P) = neg (nm inv k P)
  | 0 => rfl
  | k + 1 => by
    show Ec.add inv (nm inv k (neg P)) (neg P) = neg (Ec.add inv (nm inv k P) P)
    rw [nm_neg H hP k, neg_sum H (hP.nm H k) hP]
theorem twice_none (H : Fld n inv) {P : Pt n} (hP : On P) (h : Ec.add inv P P = none) : P = none := by
  rcases P with _ | ⟨x, y⟩
  · rfl
  · rcases add_cases H hP hP with ⟨_, h2, _⟩ | ⟨_, _, _, _, _, e, _⟩
    · exact absurd (H.two _ h2) (H.noTwo _ _ hP)
    · rw [e] at h; cases h

/-- no more things fit into fewer places -/
theorem pigeon : ∀ (k m : Nat) (f : Nat → Nat), (∀ i, i < m → f i < k) → (∀ i j, i < m → j < m → f i = f j → i = j) → m ≤ k
  | 0, m, f, h, _ => by
    rcases m with _ | m
    · exact Nat.le_refl _
    · exact absurd (h 0 (Nat.succ_pos _)) (Nat.not_lt_zero _)
  | k + 1, m, f, h, hi => by
    rcases m with _ | m
    · exact Nat.zero_le _
    refine Nat.succ_le_succ ?_
    by_cases hx : ∃ i, i < m + 1 ∧ f i = k
    · obtain ⟨i0, h0, e0⟩ := hx
      refine pigeon k m (fun i => if i = i0 then f m else f i) (fun i hlt => ?_) (fun i j hlt hlt' he => ?_)
      · by_cases e : i = i0
        · rw [if_pos e]
          subst e
          have h1 := h m (Nat.lt_succ_self _)
          have h2 : f m ≠ k := fun e => by have := hi m i (Nat.lt_succ_self _) h0 (by rw [e, e0]); omega
          omega
        · rw [if_neg e]
          have h1 := h i (by omega)
          have h2 : f i ≠ k := fun e' => e (hi i i0 (by omega) h0 (by rw [e', e0]))
          omega
      · by_cases e : i = i0
        · rw [if_pos e] at he
          by_cases e' : j = i0
          · rw [e, e']
          · rw [if_neg e'] at he
            have := hi m j (by omega) (by omega) he
            omega
        · rw [if_neg e] at he
          by_cases e' : j = i0
          · rw [if_pos e'] at he
            have := hi i m (by omega) (by omega) he
            omega
          · rw [if_neg e'] at he
            exact hi i j (by omega) (by omega) he
    · refine pigeon k m f (fun i hlt => ?_) (fun i j hlt hlt' he => hi i j (by omega) (by omega) he)
      have h1 := h i (by omega)
      have h2 : f i ≠ k := fun e => hx ⟨i, by omega, e⟩
      omega

/-- the points are numbered: two an X, and one more -/
def code : Pt n → Nat
  | none => 2 * n
  | some (x, y) => 2 * x.val + y.val % 2
omit [NeZero n] in
theorem code_lt (P : Pt n) : code P < 2 * n + 1 := by
  rcases P with _ | ⟨x, y⟩
  · exact Nat.lt_succ_self _
  · have := x.isLt
    show 2 * x.val + y.val % 2 < _
    omega
theorem val_of_sum {x y : Fin n} (h : x + y = 0) (hx : x ≠ 0) : x.val + y.val = n := by
  have h1 : (x.val + y.val) % n = 0 := by
    have := congrArg Fin.val h
    rw [Fin.val_add] at this
    exact this
  have h2 := x.isLt
  have h3 := y.isLt
  have h4 : x.val ≠ 0 := fun e => hx (Fin.ext e)
  have h5 := Nat.div_add_mod (x.val + y.val) n
  rw [h1] at h5
  have h6 : (x.val + y.val) / n < 2 := Nat.div_lt_of_lt_mul (by omega)
  have h7 : (x.val + y.val) / n ≠ 0 := fun e => by rw [e] at h5; omega
  have h8 : (x.val + y.val) / n = 1 := by
    clear h5 h1
    generalize (x.val + y.val) / n = q at *
    omega
  rw [h8] at h5
  omega
theorem code_inj (H : Fld n inv) (ho : n % 2 = 1) {P Q : Pt n} (hP : On P) (hQ : On Q) (h : code P = code Q) : P = Q := by
  rcases P with _ | ⟨x, y⟩ <;> rcases Q with _ | ⟨u, v⟩
  · rfl
  · have := u.isLt
    have h' : 2 * n = 2 * u.val + v.val % 2 := h
    omega
  · have := x.isLt
    have h' : 2 * x.val + y.val % 2 = 2 * n := h
    omega
  · have h' : 2 * x.val + y.val % 2 = 2 * u.val + v.val % 2 := h
    have e : x = u := Fin.ext (by omega)
    subst e
    by_cases e : y = v
    · rw [e]
    by_cases e' : y + v = 0
    · have h1 := val_of_sum e' (H.noTwo _ _ hP)
      omega
    · exact absurd rfl (off H hP hQ (fun k => e k.2) (fun k => e' k.2))

/-- what a point's order is: no fewer copies are nothing, if N is prime -/
theorem small_order (H : Fld n inv) {G : Pt n} (hG : On G) (hne : G ≠ none) {N : Nat} (hN : nm inv N G = none) (hp : ∀ d, d ∣ N → d = 1 ∨ d = N) {d : Nat} (hd : 0 < d) (hlt : d < N) : nm inv d G ≠ none := by
  intro h
  have hmod : ∀ a b, nm inv a G = none → nm inv b G = none → nm inv (a % b) G = none := fun a b ha hb => by
    have h1 := Nat.div_add_mod a b
    have h2 : nm inv (b * (a / b) + a % b) G = none := by rw [h1]; exact ha
    rw [nm_add H hG, Nat.mul_comm, nm_mul H hG, hb, nm_none, zero_add] at h2
    exact h2
  have hg : nm inv (Nat.gcd d N) G = none := by
    have : ∀ (k a b : Nat), b ≤ k → nm inv a G = none → nm inv b G = none → nm inv (Nat.gcd b a) G = none := by
      intro k
      induction k with
      | zero =>
        intro a b hb ha _
        obtain rfl : b = 0 := by omega
        rw [Nat.gcd_zero_left]; exact ha
      | succ k ih =>
        intro a b hb ha hb'
        rcases Nat.eq_zero_or_pos b with rfl | hpos
        · rw [Nat.gcd_zero_left]; exact ha
        · rw [Nat.gcd_rec]
          exact ih b (a % b) (by have := Nat.mod_lt a hpos; omega) hb' (hmod a b ha hb')
    exact this d N d (Nat.le_refl _) hN h
  rcases hp _ (Nat.gcd_dvd_right d N) with e | e
  · rw [e, nm_one] at hg
    exact hne hg
  · have := Nat.le_of_dvd hd (Nat.gcd_dvd_left d N)
    omega

/-- N times any point is nothing, if N times one is, N is a prime, and three times N points are more than there are -/
theorem all_order (H : Fld n inv) (ho : n % 2 = 1) {G : Pt n} (hG : On G) (hne : G ≠ none) {N : Nat} (hN : nm inv N G = none) (hp : ∀ d, d ∣ N → d = 1 ∨ d = N) (hbig : 2 * n + 1 < 3 * N)
    {Q : Pt n} (hQ : On Q) : nm inv N Q = none := by
  have hN0 : 0 < N := by omega
  let T : Nat → Pt n := fun t => Ec.add inv (nm inv (t % N) G) (nm inv (t / N) Q)
  have hT : ∀ t, On (T t) := fun t => On.add H (hG.nm H _) (hQ.nm H _)
  have key : ∀ a b e, a < N → b < N → (nm inv a G = Ec.add inv (nm inv b G) (nm inv e Q)) → nm inv e (nm inv N Q) = none := fun a b e _ _ h => by
    have h1 := congrArg (nm inv N) h
    rw [nm_sum H (hG.nm H _) (hQ.nm H _), nm_comm H hG, hN, nm_none, nm_comm H hG N b, hN, nm_none, zero_add, nm_comm H hQ] at h1
    exact h1.symm
  have one2 : ∀ e, 0 < e → e < 3 → nm inv e (nm inv N Q) = none → nm inv N Q = none := fun e h0 h3 h => by
    rcases (show e = 1 ∨ e = 2 by omega) with rfl | rfl
    · rw [nm_one] at h; exact h
    · have h' : Ec.add inv (nm inv 1 (nm inv N Q)) (nm inv N Q) = none := h
      rw [nm_one] at h'
      exact twice_none H (hQ.nm H _) h'
  have split : ∀ t s, t < 3 * N → s < 3 * N → t / N < s / N → T t = T s → nm inv N Q = none := fun t s ht hs hlt he => by
    have d3 : s / N < 3 := Nat.div_lt_of_lt_mul (by rw [Nat.mul_comm]; exact hs)
    obtain ⟨e, he0⟩ : ∃ e, s / N = t / N + e := ⟨s / N - t / N, by omega⟩
    have h1 : Ec.add inv (nm inv (t % N) G) (nm inv (t / N) Q) = Ec.add inv (Ec.add inv (nm inv (s % N) G) (nm inv e Q)) (nm inv (t / N) Q) := by
      have h2 : T s = Ec.add inv (nm inv (s % N) G) (nm inv (e + t / N) Q) := by
        show Ec.add inv _ (nm inv (s / N) Q) = _
        rw [he0, Nat.add_comm]
      rw [nm_add H hQ, ← assoc H (hG.nm H _) (hQ.nm H _) (hQ.nm H _)] at h2
      exact he.trans h2
    have h2 := unadd H (hG.nm H _) (On.add H (hG.nm H _) (hQ.nm H _)) (hQ.nm H _) h1
    have e3 : e < 3 := Nat.lt_of_le_of_lt (Nat.le_add_left e (t / N)) (he0 ▸ d3)
    have e0 : 0 < e := by
      generalize t / N = q at *
      generalize s / N = q' at *
      omega
    exact one2 e e0 e3 (key _ _ e (Nat.mod_lt _ hN0) (Nat.mod_lt _ hN0) h2)
  have flat : ∀ t s, t < s → s / N = t / N → T t = T s → False := fun t s hts hq he => by
    have h1 : Ec.add inv (nm inv (t % N) G) (nm inv (t / N) Q) = Ec.add inv (nm inv (s % N) G) (nm inv (t / N) Q) := by
      have h2 : T s = Ec.add inv (nm inv (s % N) G) (nm inv (t / N) Q) := by
        show Ec.add inv _ (nm inv (s / N) Q) = _
        rw [hq]
      exact he.trans h2
    have h2 := unadd H (hG.nm H _) (hG.nm H _) (hQ.nm H _) h1
    have e1 := Nat.div_add_mod t N
    have e2 := Nat.div_add_mod s N
    rw [hq] at e2
    have l1 := Nat.mod_lt t hN0
    have l2 := Nat.mod_lt s hN0
    obtain ⟨d, hd⟩ : ∃ d, s % N = d + t % N := ⟨s % N - t % N, by omega⟩
    rw [hd, nm_add H hG] at h2
    have h3 : Ec.add inv none (nm inv (t % N) G) = Ec.add inv (nm inv d G) (nm inv (t % N) G) := by rw [zero_add]; exact h2
    have h4 := unadd H (P := none) (Q := nm inv d G) trivial (hG.nm H d) (hG.nm H (t % N)) h3
    exact small_order H hG hne hN hp (d := d) (by omega) (by omega) h4.symm
  by_cases hex : ∃ t s, t < 3 * N ∧ s < 3 * N ∧ t < s ∧ T t = T s
  · obtain ⟨t, s, ht, hs, hts, he⟩ := hex
    rcases Nat.lt_or_ge (t / N) (s / N) with hlt | hge
    · exact split t s ht hs hlt he
    · have : t / N ≤ s / N := Nat.div_le_div_right (Nat.le_of_lt hts)
      exact (flat t s hts (by omega) he).elim
  · have hm := pigeon (2 * n + 1) (3 * N) (fun t => code (T t)) (fun t _ => code_lt _) (fun i j hi hj he => by
      have he' := code_inj H ho (hT i) (hT j) he
      rcases Nat.lt_trichotomy i j with h | h | h
      · exact absurd ⟨i, j, hi, hj, h, he'⟩ hex
      · exact h
      · exact absurd ⟨j, i, hj, hi, h, he'.symm⟩ hex)
    omega

theorem nm_mod (H : Fld n inv) {P : Pt n} (hP : On P) {N : Nat} (hN : nm inv N P = none) (k : Nat) : nm inv (k % N) P = nm inv k P := by
  conv => rhs; rw [← Nat.div_add_mod k N]
  rw [nm_add H hP, Nat.mul_comm, nm_mul H hP, hN, nm_none, zero_add]
end Go.Proofs.Ytlojidnlkflpnaa.Ec
