/-
  The bytes of points, in plain lists.
-/
import Derived.Test.YtlojidnlkflpnaaCrvD
import Derived.Test.YtlojidnlkflpnaaSymC
namespace Go.Proofs.Ytlojidnlkflpnaa.Cu
open Go.RowKit Go.Proofs.Ytlojidnlkflpnaa Go.Proofs.Ytlojidnlkflpnaa.Sy

/-- a point's 33 bytes -/
def encS : Pt → List UInt8
  | none => List.replicate 33 0
  | some (x, y) => (if y.val % 2 = 1 then 3 else 2) :: bytesS x.val
theorem encS_length : ∀ P, (encS P).length = 33
  | none => rfl
  | some (x, y) => by simp [encS, bytesS_length]
/-- the point that 33 bytes are -/
def candS (b : List UInt8) : Pt := if b.head? = some 3 then Ec.neg (liftP b.tail) else liftP b.tail
def decOk (b : List UInt8) : Bool := decide (b.length = 33 ∧ encS (candS b) = b)
def decP (b : List UInt8) : Pt := if decOk b then candS b else none
theorem liftP_on (l : List UInt8) : Ec.On (liftP l) := by
  cases h : liftB l
  · rw [lift_no h]; trivial
  · obtain ⟨u, y, _, _, e, ho, _⟩ := lift_yes h
    rw [e]; exact ho
theorem candS_on (b : List UInt8) : Ec.On (candS b) := by
  unfold candS
  split
  · exact Ec.On.neg (liftP_on _)
  · exact liftP_on _
theorem decP_on (b : List UInt8) : Ec.On (decP b) := by
  unfold decP
  split
  · exact candS_on b
  · trivial
theorem decP_ok {b : List UInt8} (h : decOk b = true) : decP b = candS b ∧ encS (decP b) = b ∧ b.length = 33 := by
  have e : decP b = candS b := by unfold decP; rw [if_pos h]
  unfold decOk at h
  have h := of_decide_eq_true h
  exact ⟨e, by rw [e]; exact h.2, h.1⟩
theorem decP_no {b : List UInt8} (h : decOk b = false) : decP b = none := by unfold decP; rw [if_neg (by simp [h])]
/-- 7 is no square: no point has X 0 -/
theorem no_zero : liftP (List.replicate 32 0) = none := lift_no (by decide +kernel)
theorem val_neg' (y : Fp) (h : y ≠ 0) : (-y).val % 2 ≠ y.val % 2 := by
  have hs : y + -y = 0 := by grobner
  have h1 := Ec.val_of_sum hs h
  have h2 : pM % 2 = 1 := by decide +kernel
  omega
/-- of a point's X, Lift is that point or its contrary: the even one -/
theorem lift_x (x y : Fp) (h : y * y = x * x * x + 7) : liftP (bytesS x.val) = if y.val % 2 = 1 then some (x, -y) else some (x, y) := by
  have hv : valB (bytesS x.val) = x.val := valB_bytesS _ (lt4 x)
  have hc : cubeN x.val = mulP y.val y.val := by
    rw [cubeN_val, ← h]
    rfl
  obtain ⟨s, hs, hsn⟩ := sqrt_sq y.val
  have hb : liftB (bytesS x.val) = true := by
    unfold liftB
    rw [hv, hc, hs]
    simp [x.isLt]
  obtain ⟨u, r, e1, e2, e3, e4, e5⟩ := lift_yes hb
  rw [hv] at e1
  have eu : u = x := Fin.ext e1
  subst eu
  rw [hv, hc, hs] at e2
  have e2 : r.val = s := e2
  rw [e3]
  have hy := no_two u y h
  rcases hsn with q | q
  · have er : r = y := Fin.ext (by rw [e2, q, Nat.mod_eq_of_lt y.isLt])
    subst er
    rw [if_neg (by omega)]
  · have er : r = -y := Fin.ext (by rw [e2, q, val_neg])
    subst er
    have := val_neg' y hy
    rw [if_pos (by omega)]
theorem cand_enc {P : Pt} (h : Ec.On P) : candS (encS P) = P := by
  rcases P with _ | ⟨x, y⟩
  · have e : encS none = 0 :: List.replicate 32 0 := rfl
    have hne : ¬ ((0 : UInt8) :: List.replicate 32 0).head? = some 3 := by decide
    unfold candS
    rw [e, if_neg hne]
    exact no_zero
  · have hl := lift_x x y h
    have e : encS (some (x, y)) = (if y.val % 2 = 1 then 3 else 2) :: bytesS x.val := rfl
    unfold candS
    rw [e]
    by_cases ho : y.val % 2 = 1
    · rw [if_pos ho] at hl ⊢
      simp only [List.head?_cons, if_true, List.tail_cons, hl]
      show some (x, - -y) = _
      rw [Ec.neg_neg']
    · rw [if_neg ho] at hl ⊢
      simp only [List.head?_cons, List.tail_cons, hl]
      rw [if_neg (by decide)]
/-- Decode of Encode -/
theorem dec_enc {P : Pt} (h : Ec.On P) : decOk (encS P) = true ∧ decP (encS P) = P := by
  have hc := cand_enc h
  have ho : decOk (encS P) = true := by
    unfold decOk
    rw [hc]
    exact decide_eq_true ⟨encS_length P, rfl⟩
  exact ⟨ho, by unfold decP; rw [if_pos ho, hc]⟩
theorem list32 (m : List UInt8) (h : m.length = 32) : ∃ a0 a1 a2 a3 a4 a5 a6 a7 a8 a9 a10 a11 a12 a13 a14 a15 a16 a17 a18 a19 a20 a21 a22 a23 a24 a25 a26 a27 a28 a29 a30 a31 : UInt8, m = [a0, a1, a2, a3, a4, a5, a6, a7, a8, a9, a10, a11, a12, a13, a14, a15, a16, a17, a18, a19, a20, a21, a22, a23, a24, a25, a26, a27, a28, a29, a30, a31] := by
  match m, h with
  | [a0, a1, a2, a3, a4, a5, a6, a7, a8, a9, a10, a11, a12, a13, a14, a15, a16, a17, a18, a19, a20, a21, a22, a23, a24, a25, a26, a27, a28, a29, a30, a31], _ => exact ⟨a0, a1, a2, a3, a4, a5, a6, a7, a8, a9, a10, a11, a12, a13, a14, a15, a16, a17, a18, a19, a20, a21, a22, a23, a24, a25, a26, a27, a28, a29, a30, a31,  rfl⟩
theorem list33 (m : List UInt8) (h : m.length = 33) : ∃ o0 o1 o2 o3 o4 o5 o6 o7 o8 o9 o10 o11 o12 o13 o14 o15 o16 o17 o18 o19 o20 o21 o22 o23 o24 o25 o26 o27 o28 o29 o30 o31 o32 : UInt8, m = (o0 :: o1 :: o2 :: [o3, o4, o5, o6, o7, o8, o9, o10, o11, o12, o13, o14, o15, o16, o17, o18, o19, o20, o21, o22, o23, o24, o25, o26, o27, o28, o29, o30, o31, o32]) := by
  obtain ⟨b, t, rfl⟩ : ∃ b t, m = b :: t := by cases m with
    | nil => cases h
    | cons b t => exact ⟨b, t, rfl⟩
  obtain ⟨a0, a1, a2, a3, a4, a5, a6, a7, a8, a9, a10, a11, a12, a13, a14, a15, a16, a17, a18, a19, a20, a21, a22, a23, a24, a25, a26, a27, a28, a29, a30, a31, e⟩ := list32 t (by simpa using h)
  exact ⟨b, a0, a1, a2, a3, a4, a5, a6, a7, a8, a9, a10, a11, a12, a13, a14, a15, a16, a17, a18, a19, a20, a21, a22, a23, a24, a25, a26, a27, a28, a29, a30, a31, by rw [e]⟩
theorem eql_u8 (w : World) (F : Slots) (o : Oper) (x y : Operand) (a : UInt8) (k : Nat) (hk : k < 256) {yt : TypeId} (ho : o.op = .binOp .eql 5 x y yt) (hx : evF F x = bv a) (hy : evF F y = .int .u8 k) : (execOp (evF F) o).run Try.prog w = .ok (.value (.bool (decide (a = UInt8.ofNat k)))) w := by
  have h1 := Try.underlying5
  have e : ((a.toNat : Int) == (k : Int)) = decide (a = UInt8.ofNat k) := by
    rw [Bool.eq_iff_iff]
    simp
    constructor
    · intro h
      have : a.toNat = k := by omega
      exact UInt8.toNat_inj.1 (by rw [this, UInt8.toNat_ofNat']; omega)
    · rintro rfl
      rw [UInt8.toNat_ofNat']
      omega
  unfold execOp
  simp only [ho, hx, hy, bv]
  simp [eqGuard, binOp, Op.intCmp, e, Sem.run_bind, Result.andThen]
end Go.Proofs.Ytlojidnlkflpnaa.Cu
