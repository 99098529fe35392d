/-
  The points of the curve y^2 = x^3 + 7 over a field of prime order: their sum is a group. No function of the program stands here.
-/
namespace Go.Proofs.Ytlojidnlkflpnaa.Ec
variable {n : Nat} [NeZero n]

/-- the modulus is a prime other than 2, inv is the inverse, and no point of the curve has a Y that is 0 -/
structure Fld (n : Nat) [NeZero n] (inv : Fin n → Fin n) : Prop where
  one : ∀ x : Fin n, x ≠ 0 → x * inv x = 1
  two : ∀ x : Fin n, x + x = 0 → x = 0
  noTwo : ∀ x y : Fin n, y * y = x * x * x + 7 → y ≠ 0

variable {inv : Fin n → Fin n}

theorem Fld.zero (H : Fld n inv) {a b : Fin n} (h : a * b = 0) : a = 0 ∨ b = 0 := by
  by_cases ha : a = 0
  · exact .inl ha
  · have := H.one a ha
    right; grobner
theorem Fld.cancel (H : Fld n inv) {a b c : Fin n} (ha : a ≠ 0) (h : a * b = a * c) : b = c := by
  have := H.one a ha
  grobner

/-- a point: none at infinity -/
abbrev Pt (n : Nat) := Option (Fin n × Fin n)
def On : Pt n → Prop
  | none => True
  | some (x, y) => y * y = x * x * x + 7
def neg : Pt n → Pt n
  | none => none
  | some (x, y) => some (x, -y)
def slp (inv : Fin n → Fin n) (x1 y1 x2 y2 : Fin n) : Fin n := if x1 = x2 then x1 * x1 * 3 * inv (y1 + y1) else (y2 - y1) * inv (x2 - x1)
def x3 (l x1 x2 : Fin n) : Fin n := l * l - x1 - x2
def y3 (l x1 y1 x2 : Fin n) : Fin n := l * (x1 - x3 l x1 x2) - y1
def add (inv : Fin n → Fin n) : Pt n → Pt n → Pt n
  | none, q => q
  | some p, none => some p
  | some (x1, y1), some (x2, y2) => if x1 = x2 ∧ y1 + y2 = 0 then none else some (x3 (slp inv x1 y1 x2 y2) x1 x2, y3 (slp inv x1 y1 x2 y2) x1 y1 x2)

/-- three points on a line, which meets the curve in just these -/
def Col (x1 y1 x2 y2 x3 y3 l v : Fin n) : Prop :=
  y1 = l * x1 + v ∧ y2 = l * x2 + v ∧ y3 = l * x3 + v ∧ l * l = x1 + x2 + x3 ∧ -(2 * l * v) = x1 * x2 + x1 * x3 + x2 * x3 ∧ x1 * x2 * x3 = v * v - 7

theorem line (H : Fld n inv) {x1 y1 x2 y2 : Fin n} (h1 : y1 * y1 = x1 * x1 * x1 + 7) (h2 : y2 * y2 = x2 * x2 * x2 + 7) (hn : ¬ (x1 = x2 ∧ y1 + y2 = 0)) :
    Col x1 y1 x2 y2 (x3 (slp inv x1 y1 x2 y2) x1 x2) (-(y3 (slp inv x1 y1 x2 y2) x1 y1 x2)) (slp inv x1 y1 x2 y2) (y1 - slp inv x1 y1 x2 y2 * x1) := by
  obtain ⟨l, hl⟩ : ∃ l, l = slp inv x1 y1 x2 y2 := ⟨_, rfl⟩
  rw [← hl]
  unfold slp at hl
  by_cases hx : x1 = x2
  · rw [if_pos hx] at hl
    subst hx
    have hy : y1 + y2 ≠ 0 := fun h => hn ⟨rfl, h⟩
    have he : y1 = y2 := by
      have h0 : (y1 + y2) * (y1 - y2) = 0 := by grobner
      rcases H.zero h0 with h | h
      · exact absurd h hy
      · grobner
    subst he
    have hi := H.one _ hy
    have e : l * (y1 + y1) = x1 * x1 * 3 := by rw [hl]; grobner
    clear hl hi
    refine ⟨?_, ?_, ?_, ?_, ?_, ?_⟩ <;> (try unfold y3) <;> (try unfold x3) <;> grobner
  · rw [if_neg hx] at hl
    have hd : x2 - x1 ≠ 0 := by grobner
    have hi := H.one _ hd
    have e : l * (x2 - x1) = y2 - y1 := by rw [hl]; grobner
    clear hl hi
    have e2 : l * (y1 + y2) = x1 * x1 + x1 * x2 + x2 * x2 := by
      refine H.cancel hd ?_
      grobner
    refine ⟨?_, ?_, ?_, ?_, ?_, ?_⟩ <;> (try unfold y3) <;> (try unfold x3) <;> grobner

theorem Col.swap {x1 y1 x2 y2 x3 y3 l v : Fin n} (h : Col x1 y1 x2 y2 x3 y3 l v) : Col x2 y2 x1 y1 x3 y3 l v := by
  obtain ⟨a, b, c, d, e, f⟩ := h
  exact ⟨b, a, c, by grobner, by grobner, by grobner⟩
theorem Col.rot {x1 y1 x2 y2 x3 y3 l v : Fin n} (h : Col x1 y1 x2 y2 x3 y3 l v) : Col x2 y2 x3 y3 x1 y1 l v := by
  obtain ⟨a, b, c, d, e, f⟩ := h
  exact ⟨b, c, a, by grobner, by grobner, by grobner⟩
theorem Col.on {x1 y1 x2 y2 x3 y3 l v : Fin n} (h : Col x1 y1 x2 y2 x3 y3 l v) : y1 * y1 = x1 * x1 * x1 + 7 := by
  obtain ⟨rfl, rfl, rfl, d, e, f⟩ := h
  grobner

theorem neg_line {x y l v : Fin n} (h : y = l * x + v) : -y = -l * x + -v := by grobner
theorem neg_line' {x y l v : Fin n} (h : -y = l * x + v) : y = -l * x + -v := by grobner
theorem Col.flip {x1 y1 x2 y2 x3 y3 l v : Fin n} (h : Col x1 y1 x2 y2 x3 y3 l v) : Col x1 (-y1) x2 (-y2) x3 (-y3) (-l) (-v) := by
  obtain ⟨a, b, c, d, e, f⟩ := h
  refine ⟨neg_line a, neg_line b, neg_line c, ?_, ?_, ?_⟩
  · clear a b c e f; grobner
  · clear a b c d f; grobner
  · clear a b c d e; grobner
theorem third {l a c e : Fin n} (s : l * l = a + c + e) : l * l - a - c = e := by grobner
theorem third_y {l v a b e f : Fin n} (p : b = l * a + v) (r : f = l * e + v) : l * (a - e) - b = -f := by grobner
theorem tang {l v a b e : Fin n} (p : b = l * a + v) (s : l * l = a + a + e) (t : -(2 * l * v) = a * a + a * e + a * e) : a * a * 3 = (b + b) * l := by
  have : e = l * l - a - a := by grobner
  subst p this
  grobner
theorem chord {a b c d l v i : Fin n} (p : b = l * a + v) (q : d = l * c + v) (hi : (c - a) * i = 1) : (c - a) * ((d - b) * i) = (c - a) * l := by
  subst p q
  grobner
theorem neg_neg' (y : Fin n) : - -y = y := by grobner

/-- .. and the third one is what the slope gives -/
theorem Col.add (H : Fld n inv) {a b c d e f l v : Fin n} (h : Col a b c d e f l v) : add inv (some (a, b)) (some (c, d)) = some (e, -f) ∧ ¬ (a = c ∧ b + d = 0) ∧ slp inv a b c d = l := by
  have h1 := h.on
  have hy := H.noTwo _ _ h1
  obtain ⟨p, q, r, s, t, u⟩ := h
  have hn : ¬ (a = c ∧ b + d = 0) := by
    rintro ⟨rfl, k⟩
    have : b = d := by grobner
    subst this
    exact hy (H.two _ k)
  have hs : slp inv a b c d = l := by
    unfold slp
    by_cases hx : a = c
    · rw [if_pos hx]
      subst hx
      have hd : b = d := by grobner
      subst hd
      have hb : b + b ≠ 0 := fun k => hy (H.two _ k)
      have hi := H.one _ hb
      refine H.cancel hb ?_
      have e1 : (b + b) * (a * a * 3 * inv (b + b)) = a * a * 3 := by grobner
      rw [e1]
      exact tang p s t
    · rw [if_neg hx]
      have hd : c - a ≠ 0 := by grobner
      have hi := H.one _ hd
      refine H.cancel hd ?_
      exact chord p q hi
  refine ⟨?_, hn, hs⟩
  simp only [Ec.add]
  rw [if_neg hn, hs]
  refine congrArg some (Prod.ext ?_ ?_)
  · exact third s
  · show l * (a - x3 l a c) - b = -f
    rw [show x3 l a c = e from third s]; exact third_y p r

theorem add_zero (P : Pt n) : add inv P none = P := by cases P <;> rfl
theorem zero_add (P : Pt n) : add inv none P = P := by cases P <;> rfl
theorem neg_neg (P : Pt n) : neg (neg P) = P := by
  rcases P with _ | ⟨x, y⟩
  · rfl
  · show some (x, - -y) = some (x, y); congr 2; grobner
theorem On.neg {P : Pt n} (h : On P) : On (neg P) := by
  rcases P with _ | ⟨x, y⟩
  · trivial
  · show -y * -y = _
    have : y * y = x * x * x + 7 := h
    grobner
theorem add_neg (P : Pt n) : add inv P (neg P) = none := by
  rcases P with _ | ⟨x, y⟩
  · rfl
  · simp only [neg, add]
    rw [if_pos ⟨trivial, by grobner⟩]
theorem neg_add (P : Pt n) : add inv (neg P) P = none := by
  have := add_neg (inv := inv) (neg P)
  rwa [neg_neg] at this

/-- what a sum is, in each of its cases -/
theorem add_cases (H : Fld n inv) {x1 y1 x2 y2 : Fin n} (h1 : y1 * y1 = x1 * x1 * x1 + 7) (h2 : y2 * y2 = x2 * x2 * x2 + 7) :
    (x1 = x2 ∧ y1 + y2 = 0 ∧ add inv (some (x1, y1)) (some (x2, y2)) = none) ∨ (∃ x y l v, Col x1 y1 x2 y2 x (-y) l v ∧ add inv (some (x1, y1)) (some (x2, y2)) = some (x, y) ∧ slp inv x1 y1 x2 y2 = l) := by
  by_cases hn : x1 = x2 ∧ y1 + y2 = 0
  · left
    refine ⟨hn.1, hn.2, ?_⟩
    simp only [add]
    rw [if_pos hn]
  · right
    have h := line H h1 h2 hn
    refine ⟨_, _, _, _, h, ?_, rfl⟩
    simp only [add]
    rw [if_neg hn]
theorem On.add (H : Fld n inv) {P Q : Pt n} (hP : On P) (hQ : On Q) : On (add inv P Q) := by
  rcases P with _ | ⟨x1, y1⟩
  · rw [zero_add]; exact hQ
  rcases Q with _ | ⟨x2, y2⟩
  · exact hP
  rcases add_cases H hP hQ with ⟨_, _, h⟩ | ⟨x, y, l, v, h, e, _⟩
  · rw [h]; trivial
  · rw [e]
    have := h.rot.rot.on
    show y * y = _
    grobner
theorem comm (H : Fld n inv) {P Q : Pt n} (hP : On P) (hQ : On Q) : Ec.add inv P Q = Ec.add inv Q P := by
  rcases P with _ | ⟨x1, y1⟩
  · rw [zero_add, add_zero]
  rcases Q with _ | ⟨x2, y2⟩
  · rw [zero_add, add_zero]
  rcases add_cases H hP hQ with ⟨a, b, h⟩ | ⟨x, y, l, v, h, e, _⟩
  · rw [h]
    simp only [Ec.add]
    rw [if_pos ⟨a.symm, by grobner⟩]
  · rw [e, (h.swap.add H).1]
    congr 2; grobner
theorem neg_sum (H : Fld n inv) {P Q : Pt n} (hP : On P) (hQ : On Q) : neg (Ec.add inv P Q) = Ec.add inv (neg P) (neg Q) := by
  rcases P with _ | ⟨x1, y1⟩
  · rw [zero_add]; exact (zero_add _).symm
  rcases Q with _ | ⟨x2, y2⟩
  · exact (add_zero _).symm
  rcases add_cases H hP hQ with ⟨a, b, h⟩ | ⟨x, y, l, v, h, e, _⟩
  · rw [h]
    simp only [neg, Ec.add]
    rw [if_pos ⟨a, by grobner⟩]
  · rw [e]
    have h' := h.flip
    rw [neg_neg'] at h'
    exact ((h'.add H).1).symm
/-- what was added is taken back -/
theorem back (H : Fld n inv) {P Q : Pt n} (hP : On P) (hQ : On Q) : Ec.add inv (Ec.add inv P Q) (neg Q) = P := by
  rcases P with _ | ⟨x1, y1⟩
  · rw [zero_add, add_neg]
  rcases Q with _ | ⟨x2, y2⟩
  · rfl
  rcases add_cases H hP hQ with ⟨a, b, h⟩ | ⟨x, y, l, v, h, e, _⟩
  · rw [h, zero_add]
    show some (x2, -y2) = _
    congr 2
    · exact a.symm
    · grobner
  · rw [e]
    have h' := h.flip.rot.rot.rot.rot.swap
    have h' := h.flip
    rw [neg_neg'] at h'
    have := (h'.rot.rot.swap.rot.rot.swap.add H).1
    show Ec.add inv (some (x, y)) (some (x2, -y2)) = _
    have := (h'.rot.swap.add H).1
    rw [this, neg_neg']
theorem unadd (H : Fld n inv) {P Q R : Pt n} (hP : On P) (hQ : On Q) (hR : On R) (h : Ec.add inv P R = Ec.add inv Q R) : P = Q := by
  rw [← back H hP hR, h, back H hQ hR]

/-- two lines that meet the curve in opposite points: their product over the line between these, A + B x + C y + x^2, is zero wherever else they meet the curve -/
theorem atF {x1 x2 u l v m k y1 : Fin n} (h0 : l * u + v + (m * u + k) = 0) (h1 : y1 = l * x1 + v) (e1 : l * l = x1 + x2 + u) (e2 : -(2 * l * v) = x1 * x2 + x1 * u + x2 * u) :
    x1 * x1 + (u + l * m) * x1 + (u * (u + l * m) + l * k + v * m) + -(l + m) * y1 = 0 := by
  subst h1
  grobner

theorem fn {x1 y1 x2 y2 x3 y3 u v s t l c m d : Fin n} (h : Col x1 y1 x2 y2 u (-v) l c) (k : Col u v x3 y3 s (-t) m d) :
    ∃ A B C : Fin n, x1 * x1 + B * x1 + A + C * y1 = 0 ∧ x2 * x2 + B * x2 + A + C * y2 = 0 ∧ x3 * x3 + B * x3 + A + C * y3 = 0 ∧ s * s + B * s + A + C * -t = 0 ∧
      C * C - B - B = x1 + x2 + x3 + s ∧ C = -(l + m) ∧ B = u + l * m := by
  obtain ⟨a1, a2, a3, e1, e2, e3⟩ := h
  obtain ⟨b1, b2, b3, f1, f2, f3⟩ := k
  have h0 : l * u + c + (m * u + d) = 0 := by rw [← a3, ← b1]; clear a1 a2 a3 b1 b2 b3 e1 e2 e3 f1 f2 f3; grobner
  have h0' : m * u + d + (l * u + c) = 0 := by clear a1 a2 a3 b1 b2 b3 e1 e2 e3 f1 f2 f3; grobner
  have s1 : u * (u + m * l) + m * c + d * l = u * (u + l * m) + l * d + c * m := by clear a1 a2 a3 b1 b2 b3 e1 e2 e3 f1 f2 f3 h0 h0'; grobner
  have s2 : -(m + l) = -(l + m) := by clear a1 a2 a3 b1 b2 b3 e1 e2 e3 f1 f2 f3 h0 h0'; grobner
  have s3 : m * l = l * m := by clear a1 a2 a3 b1 b2 b3 e1 e2 e3 f1 f2 f3 h0 h0'; grobner
  have q1 := atF h0 a1 e1 e2
  have q2 := atF (x1 := x2) (x2 := x1) h0 a2 (by rw [e1]; clear a1 a2 a3 b1 b2 b3 e1 e2 e3 f1 f2 f3 h0 h0'; grobner) (by rw [e2]; clear a1 a2 a3 b1 b2 b3 e1 e2 e3 f1 f2 f3 h0 h0'; grobner)
  have q3 := atF (x1 := x3) (x2 := s) h0' b2 (by rw [f1]; clear a1 a2 a3 b1 b2 b3 e1 e2 e3 f1 f2 f3 h0 h0'; grobner) (by rw [f2]; clear a1 a2 a3 b1 b2 b3 e1 e2 e3 f1 f2 f3 h0 h0'; grobner)
  have q4 := atF (x1 := s) (x2 := x3) h0' b3 (by rw [f1]; clear a1 a2 a3 b1 b2 b3 e1 e2 e3 f1 f2 f3 h0 h0'; grobner) (by rw [f2]; clear a1 a2 a3 b1 b2 b3 e1 e2 e3 f1 f2 f3 h0 h0'; grobner)
  rw [s1, s2, s3] at q3 q4
  refine ⟨_, _, _, q1, q2, q3, q4, ?_, rfl, rfl⟩
  clear a1 a2 a3 b1 b2 b3 e2 e3 f2 f3 h0 h0' q1 q2 q3 q4 s1 s2 s3
  grobner

/-- there is one such function through three points that are on no line -/
theorem uniq (H : Fld n inv) {a b c x1 y1 x3 y3 l v : Fin n} (h : b + c * l = 0) (h1 : b * x1 + a + c * y1 = 0) (h3 : b * x3 + a + c * y3 = 0) (hl : y1 = l * x1 + v) (hK : y3 ≠ l * x3 + v) : a = 0 ∧ b = 0 ∧ c = 0 := by
  have hc : c * (y3 - (l * x3 + v)) = 0 := by
    have hb : b = -(c * l) := by clear h1 h3 hl; grobner
    subst hb hl
    clear h
    grobner
  rcases H.zero hc with rfl | k
  · have hb : b = 0 := by clear h1 h3 hl hc; grobner
    subst hb
    exact ⟨by clear h h3 hl hc; grobner, rfl, rfl⟩
  · exact absurd (by clear h h1 h3 hl hc; grobner) hK
/-- who stands on a line between two others, and is neither, is the third one -/
theorem third_on (H : Fld n inv) {x1 y1 x2 y2 x3 y3 u v l c : Fin n} (h : Col x1 y1 x2 y2 u (-v) l c) (h3 : y3 * y3 = x3 * x3 * x3 + 7) (hl : y3 = l * x3 + c) (n1 : x3 ≠ x1) (n2 : x3 ≠ x2) : x3 = u ∧ y3 = -v := by
  obtain ⟨a1, a2, a3, e1, e2, e3⟩ := h
  have hz : (x3 - x1) * ((x3 - x2) * (x3 - u)) = 0 := by
    subst hl
    clear a1 a2 a3 n1 n2
    grobner
  have g : x3 = u := by
    rcases H.zero hz with k | k
    · exact absurd (by clear a1 a2 a3 e1 e2 e3 h3 hl hz; grobner) n1
    rcases H.zero k with k | k
    · exact absurd (by clear a1 a2 a3 e1 e2 e3 h3 hl hz; grobner) n2
    · clear a1 a2 a3 e1 e2 e3 h3 hl hz; grobner
  refine ⟨g, ?_⟩
  rw [a3, hl, g]

theorem twoRoots (H : Fld n inv) {A B x y : Fin n} (h : x * x + B * x + A = 0) (k : y * y + B * y + A = 0) (hn : x ≠ y) : x + y + B = 0 := by
  have hz : (x - y) * (x + y + B) = 0 := by grobner
  rcases H.zero hz with g | g
  · exact absurd (by clear h k hz; grobner) hn
  · exact g

theorem same (H : Fld n inv) {A B C A' B' C' x1 x2 x3 s t s' t' : Fin n} (eA : A - A' = 0) (eB : B - B' = 0) (eC : C - C' = 0) (hC : C ≠ 0) (hs : C * C - B - B = x1 + x2 + x3 + s) (hs' : C' * C' - B' - B' = x2 + x3 + x1 + s')
    (ht : s * s + B * s + A + C * -t = 0) (ht' : s' * s' + B' * s' + A' + C' * -t' = 0) : s = s' ∧ t = t' := by
  have hA : A' = A := by clear eB eC hs hs' ht ht' hC; grobner
  have hB : B' = B := by clear eA eC hs hs' ht ht' hC; grobner
  have hD : C' = C := by clear eB eA hs hs' ht ht' hC; grobner
  subst hA hB hD
  have e : s = s' := by clear eA eB eC ht ht' hC; grobner
  subst e
  refine ⟨rfl, H.cancel hC ?_⟩
  clear eA eB eC hs hs'
  grobner
theorem sub_at {A B C A' B' C' x y : Fin n} (h : x * x + B * x + A + C * y = 0) (k : x * x + B' * x + A' + C' * y = 0) : (B - B') * x + (A - A') + (C - C') * y = 0 := by grobner

theorem off {x1 y1 x2 y2 : Fin n} (H : Fld n inv) (h1 : y1 * y1 = x1 * x1 * x1 + 7) (h2 : y2 * y2 = x2 * x2 * x2 + 7) (hn : ¬ (x1 = x2 ∧ y1 = y2)) (hm : ¬ (x1 = x2 ∧ y1 + y2 = 0)) : x1 ≠ x2 := by
  rintro rfl
  have hz : (y1 - y2) * (y1 + y2) = 0 := by clear hn hm; grobner
  rcases H.zero hz with g | g
  · exact hn ⟨rfl, by clear h1 h2 hz hn hm; grobner⟩
  · exact hm ⟨rfl, g⟩

/-- three unlike points -/
theorem assoc1 (H : Fld n inv) {x1 y1 x2 y2 x3 y3 u v l c s t m d u' v' l' c' s' t' m' d' : Fin n} (h : Col x1 y1 x2 y2 u (-v) l c) (k : Col u v x3 y3 s (-t) m d)
    (h' : Col x2 y2 x3 y3 u' (-v') l' c') (k' : Col u' v' x1 y1 s' (-t') m' d') (n12 : x1 ≠ x2) (n23 : x2 ≠ x3) (n13 : x1 ≠ x3) (hn : ¬ (u = x3 ∧ v + y3 = 0)) : s = s' ∧ t = t' := by
  have o3 := k.rot.on
  obtain ⟨A, B, C, p1, p2, p3, p4, p5, -, -⟩ := fn h k
  obtain ⟨A', B', C', q2, q3, q1, q4, q5, -, -⟩ := fn h' k'
  have r1 := sub_at p1 q1
  have r2 := sub_at p2 q2
  have r3 := sub_at p3 q3
  have hK : y3 ≠ l * x3 + c := fun e => hn (by
    obtain ⟨g, g'⟩ := third_on H h o3 e (Ne.symm n13) (Ne.symm n23)
    exact ⟨g.symm, by rw [g']; clear g g' r1 r2 r3 p1 p2 p3 p4 p5 q1 q2 q3 q4 q5; grobner⟩)
  have hb : (B - B') + (C - C') * l = 0 := by
    have a1 := h.1
    have a2 := h.2.1
    refine H.cancel (a := x1 - x2) (by intro e; exact n12 (by clear r1 r2 r3 p1 p2 p3 p4 p5 q1 q2 q3 q4 q5; grobner)) ?_
    subst a1 a2
    clear p1 p2 p3 p4 p5 q1 q2 q3 q4 q5 hK r3 o3
    grobner
  obtain ⟨eA, eB, eC⟩ := uniq H hb r1 r3 h.1 hK
  refine same H eA eB eC ?_ p5 q5 p4 q4
  rintro rfl
  have w1 := twoRoots H (A := A) (B := B) (x := x1) (y := x2) (by clear eA eB eC r1 r2 r3 p2 p3 p4 p5 q1 q2 q3 q4 q5 hb; grobner) (by clear eA eB eC r1 r2 r3 p1 p3 p4 p5 q1 q2 q3 q4 q5 hb; grobner) n12
  have w2 := twoRoots H (A := A) (B := B) (x := x1) (y := x3) (by clear eA eB eC r1 r2 r3 p2 p3 p4 p5 q1 q2 q3 q4 q5 hb; grobner) (by clear eA eB eC r1 r2 r3 p1 p2 p4 p5 q1 q2 q3 q4 q5 hb; grobner) n13
  exact n23 (by clear eA eB eC r1 r2 r3 p1 p2 p3 p4 p5 q1 q2 q3 q4 q5 hb; grobner)

/-- a point twice -/
theorem assoc2 (H : Fld n inv) {x1 y1 x3 y3 u v l c s t m d u' v' l' c' s' t' m' d' : Fin n} (h : Col x1 y1 x1 y1 u (-v) l c) (k : Col u v x3 y3 s (-t) m d)
    (h' : Col x1 y1 x3 y3 u' (-v') l' c') (k' : Col u' v' x1 y1 s' (-t') m' d') (n13 : x1 ≠ x3) (hn : ¬ (u = x3 ∧ v + y3 = 0)) : s = s' ∧ t = t' := by
  have o3 := k.rot.on
  have o1 := h.on
  have hy := H.noTwo _ _ o1
  obtain ⟨A, B, C, p1, p2, p3, p4, p5, p6, p7⟩ := fn h k
  obtain ⟨A', B', C', q1, q3, q2, q4, q5, q6, q7⟩ := fn h' k'
  have r1 := sub_at p1 q1
  have r3 := sub_at p3 q3
  have hK : y3 ≠ l * x3 + c := fun e => hn (by
    obtain ⟨g, g'⟩ := third_on H h o3 e (Ne.symm n13) (Ne.symm n13)
    exact ⟨g.symm, by rw [g']; clear g g' r1 r3 p1 p2 p3 p4 p5 p6 p7 q1 q2 q3 q4 q5 q6 q7; grobner⟩)
  have g1 : x1 + x1 + B + C * l = 0 := by
    have := h.2.2.2.1
    subst p6 p7
    clear p1 p2 p3 p4 p5 q1 q2 q3 q4 q5 q6 q7 r1 r3 hK o1 o3
    grobner
  have ht : x1 * x1 * 3 = (y1 + y1) * l := tang h.1 h.2.2.2.1 h.2.2.2.2.1
  have g2 : x1 + x1 + B' + C' * l = 0 := by
    have a1 := h'.1
    have a3 := h'.2.2.1
    have b1 := k'.1
    have b2 := k'.2.1
    have ou := k'.on
    subst q6 q7
    clear p1 p2 p3 p4 p5 p6 p7 q1 q2 q3 q4 q5 r1 r3 hK o3 h k h' k'
    have e2 : y1 + y1 = (l' + m') * (x1 - u') := by clear ht o1 ou; grobner
    have hd : x1 - u' ≠ 0 := fun e => hy (H.two _ (by rw [e2, e]; clear a1 a3 b1 b2 ou ht o1 e2; grobner))
    have e3 : l' * m' * (x1 - u') = x1 * x1 + x1 * u' + u' * u' := by
      refine H.cancel hd ?_
      have f1 : y1 + v' = l' * (x1 - u') := by clear ht o1 ou e2 b1 b2; grobner
      have f2 : y1 - v' = m' * (x1 - u') := by clear ht o1 ou e2 a1 a3 f1; grobner
      have f3 : (y1 + v') * (y1 - v') = l' * (x1 - u') * (m' * (x1 - u')) := by rw [f1, f2]
      clear a1 a3 b1 b2 e2 f1 f2 ht
      grobner
    refine H.cancel hd ?_
    rw [e2] at ht
    clear a1 a3 b1 b2 e2 o1 ou
    grobner
  have hb : (B - B') + (C - C') * l = 0 := by clear p1 p2 p3 p4 p5 p6 p7 q1 q2 q3 q4 q5 q6 q7 r1 r3 o1 o3 ht; grobner
  obtain ⟨eA, eB, eC⟩ := uniq H hb r1 r3 h.1 hK
  refine same H (x1 := x1) (x2 := x1) (x3 := x3) eA eB eC ?_ p5 q5 p4 q4
  intro hC
  rw [hC] at p1 p3 g1
  have w2 := twoRoots H (A := A) (B := B) (x := x1) (y := x3) (by clear eA eB eC r1 r3 p2 p3 p4 p5 p6 p7 q1 q2 q3 q4 q5 q6 q7 hb g1 g2; grobner) (by clear eA eB eC r1 r3 p1 p2 p4 p5 p6 p7 q1 q2 q3 q4 q5 q6 q7 hb g1 g2; grobner) n13
  exact n13 (by clear eA eB eC r1 r3 p1 p2 p3 p4 p5 p6 p7 q1 q2 q3 q4 q5 q6 q7 hb g2 ht; grobner)

theorem assoc (H : Fld n inv) {P Q R : Pt n} (hP : On P) (hQ : On Q) (hR : On R) : Ec.add inv (Ec.add inv P Q) R = Ec.add inv P (Ec.add inv Q R) := by
  by_cases cPR : P = R
  · subst cPR
    rw [comm H (On.add H hP hQ) hP, comm H hP hQ]
  by_cases cPR' : R = neg P
  · subst cPR'
    have e1 : Ec.add inv (Ec.add inv P Q) (neg P) = Q := by rw [comm H hP hQ]; exact back H hQ hP
    have e2 : Ec.add inv P (Ec.add inv Q (neg P)) = Q := by
      have := back H hQ (On.neg hP)
      rw [neg_neg] at this
      rw [comm H hP (On.add H hQ (On.neg hP))]; exact this
    rw [e1, e2]
  by_cases cPQ' : Q = neg P
  · subst cPQ'
    rw [add_neg, zero_add, comm H (On.neg hP) hR, comm H hP (On.add H hR (On.neg hP))]
    have := back H hR (On.neg hP)
    rw [neg_neg] at this
    exact this.symm
  by_cases cQR' : R = neg Q
  · subst cQR'
    rw [add_neg, add_zero]
    exact back H hP hQ
  by_cases cS : Ec.add inv P Q = neg R
  · rw [cS, neg_add]
    have e : P = neg (Ec.add inv Q R) := by
      have := back H hP hQ
      rw [cS] at this
      rw [neg_sum H hQ hR, comm H (On.neg hQ) (On.neg hR), this]
    conv => rhs; rw [e]
    rw [neg_add]
  by_cases cU : P = neg (Ec.add inv Q R)
  · exact absurd (by
      conv => lhs; rw [cU]
      rw [neg_sum H hQ hR, comm H (On.neg hQ) (On.neg hR)]
      have := back H (On.neg hR) (On.neg hQ)
      rwa [neg_neg] at this) cS
  rcases P with _ | ⟨x1, y1⟩
  · rw [zero_add, zero_add]
  rcases Q with _ | ⟨x2, y2⟩
  · rw [zero_add]; rfl
  rcases R with _ | ⟨x3, y3⟩
  · rw [add_zero, add_zero]
  have hno : ∀ {a b c d : Fin n}, some (a, b) ≠ neg (some (c, d)) → ¬ (c = a ∧ d + b = 0) := by
    rintro a b c d h ⟨rfl, h2⟩
    refine h ?_
    show some (c, b) = some (c, -d)
    rw [show b = -d by clear h hP hQ hR cPR cPR' cPQ' cQR' cS cU; grobner]
  rcases add_cases H hP hQ with ⟨a1, a2, a3⟩ | ⟨u, v, l, c, hS, eS, _⟩
  · exact absurd ⟨a1, a2⟩ (hno cPQ')
  rcases add_cases H hQ hR with ⟨a1, a2, a3⟩ | ⟨u', v', l', c', hU, eU, _⟩
  · exact absurd ⟨a1, a2⟩ (hno cQR')
  rw [eS] at cS ⊢
  rw [eU] at cU ⊢
  have oS : On (some (u, v)) := by have := On.add H hP hQ; rwa [eS] at this
  have oU : On (some (u', v')) := by have := On.add H hQ hR; rwa [eU] at this
  rw [comm H hP oU]
  have nS : ¬ (u = x3 ∧ v + y3 = 0) := by
    rintro ⟨rfl, h⟩
    exact hno cS ⟨rfl, by clear hP hQ hR cPR cPR' cPQ' cQR' cS cU eS eU hS hU oS oU; grobner⟩
  have nU := hno cU
  rcases add_cases H oS hR with ⟨a1, a2, _⟩ | ⟨s, t, m, d, k, eW, _⟩
  · exact absurd ⟨a1, a2⟩ nS
  rcases add_cases H oU hP with ⟨a1, a2, _⟩ | ⟨s', t', m', d', k', eW', _⟩
  · exact absurd ⟨a1, a2⟩ nU
  rw [eW, eW']
  have n13 : x1 ≠ x3 := off H hP hR (fun e => cPR (by rw [e.1, e.2])) (hno cPR')
  suffices hst : s = s' ∧ t = t' by rw [hst.1, hst.2]
  by_cases e12 : (x1, y1) = (x2, y2)
  · injection e12 with e1 e2
    subst e1 e2
    exact assoc2 H hS k hU k' n13 nS
  by_cases e23 : (x2, y2) = (x3, y3)
  · injection e23 with e1 e2
    subst e1 e2
    have nU' : ¬ (u' = x1 ∧ v' + y1 = 0) := nU
    have h := assoc2 H hU k' hS.swap k (Ne.symm n13) nU'
    exact ⟨h.1.symm, h.2.symm⟩
  have n12 : x1 ≠ x2 := off H hP hQ (fun e => e12 (by rw [e.1, e.2])) (hno cPQ')
  have n23 : x2 ≠ x3 := off H hQ hR (fun e => e23 (by rw [e.1, e.2])) (hno cQR')
  exact assoc1 H hS k hU k' n12 n23 n13 nS
end Go.Proofs.Ytlojidnlkflpnaa.Ec
