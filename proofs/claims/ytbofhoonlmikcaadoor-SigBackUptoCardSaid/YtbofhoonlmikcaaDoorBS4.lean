/-
  Texts of ours, put together: CrvU, CrvF, CrvG, CrvH, ScBase, ScOps, CurveAlive, CurveBackL, SigA, ScEq, ScB32, SigB.
-/
import Derived.Test.YtbofhoonlmikcaaDoorBS3
set_option linter.unusedVariables false
set_option linter.unusedSimpArgs false
section
namespace Go.Proofs.YtbofhoonlmikcaaDoor.Cu
open Go.RowKit Go.Proofs.YtbofhoonlmikcaaDoor Go.Proofs.YtbofhoonlmikcaaDoor.Sy

theorem one_part {w : World} {g : Nat} {vs : List Value} (h : w.rangeAt g 0 vs) : ∀ j, j < 1 → w.rangeAt g (0 + j * 13) vs := fun j hj => by
  obtain rfl : j = 0 := by omega
  exact h
/-- a point's numbers -/
def pX : Pt → Nat
  | none => 0
  | some (x, _) => x.val
def pY : Pt → Nat
  | none => 0
  | some (_, y) => y.val
def pI : Pt → Bool
  | none => true
  | some _ => false
theorem ptv_parts : ∀ P : Pt, ptv P = pv (pX P) (pY P) (pI P)
  | none => rfl
  | some (_, _) => rfl
theorem pX_lt : ∀ P : Pt, pX P < K4
  | none => by show 0 < _; decide
  | some (x, _) => lt4 x
theorem pY_lt : ∀ P : Pt, pY P < K4
  | none => by show 0 < _; decide
  | some (_, y) => lt4 y
theorem dec_parts : ∀ {P : Pt}, Ec.On P → dec (pX P) (pY P) (pI P) = P
  | none, _ => dec_zero
  | some (x, y), h => dec_fin x y h
set_option maxHeartbeats 4000000 in
set_option maxRecDepth 100000 in
theorem mul_any (w : World) (k x y : Nat) (i : Bool) (hk : k < K4) (hx : x < K4) (hy : y < K4) : Calls Tryd.prog 15 #[fv k, pv x y i] w (Gets w (ptv (Ec.nm finv (k % Sc.pM) (dec x y i)))) := by
  obtain ⟨R, hR⟩ : ∃ R, R = Ec.sumL finv (fun t => Ec.nm finv ((fun _ : Nat => (⟨k, x, y, i⟩ : Trm)) t).kn ((fun _ : Nat => (⟨k, x, y, i⟩ : Trm)) t).pt) (List.range 1) := ⟨_, rfl⟩
  have e : Ec.nm finv (k % Sc.pM) (dec x y i) = R := by rw [hR]; exact (Ec.zero_add (inv := finv) _).symm
  rw [e, ptv_parts]
  refine Sy.enter (args := [fv k, pv x y i]) Tryd.func15 rfl kL ?_
  refine sC ?_
  refine sM 24 (fcs k) (fun g0 => ?_)
  refine sM 43 (pcs x y i) (fun g1 => ?_)
  refine sM 43 (pcs 0 0 false) (fun g2 => ?_)
  refine sA ?_
  refine sS (fv k) (qL 0 g0 0 4 24 24 (fcs k) rfl Tryd.underlying24) <| sS (pv x y i) (qL 1 g1 0 9 43 43 (pcs x y i) rfl Tryd.underlying43) <| sP (trv k x y i) ?_
  refine Sy.make kR 67 (trcs k x y i) (fun g => .slice (some ⟨g, 0, none⟩) 1 1) kF (fun g3 => ?_)
  refine sS (pv (pX R) (pY R) (pI R)) (qG 29 #[.slice (some ⟨g3, 0, none⟩) 1 1] (fun w hw => by rw [← ptv_parts, hR]; exact multi_any w _ g3 0 1 1 (fun _ => ⟨k, x, y, i⟩) (Nat.le_refl _) (by decide) (fun _ => ⟨hk, hx, hy⟩) (fun _ => ⟨rfl, (hw.get (i := 3) rfl).lt, one_part (blk_range (hw.get (i := 3) rfl) kR)⟩))) <| sW 2 g2 43 (pcs 0 0 false) (pcs (pX R) (pY R) (pI R)) (wS 0 43 (pcs (pX R) (pY R) (pI R)) rfl) ?_
  refine sG ?_
  refine Sy.ret ?_
  exact rC (v := pv (pX R) (pY R) (pI R)) 43 g2 2 (pcs (pX R) (pY R) (pI R)) rfl Tryd.underlying43
end Go.Proofs.YtbofhoonlmikcaaDoor.Cu

end
section
namespace Go.Proofs.YtbofhoonlmikcaaDoor.Cu
open Go.RowKit Go.Proofs.YtbofhoonlmikcaaDoor Go.Proofs.YtbofhoonlmikcaaDoor.Sy

/-- a point's 33 bytes -/
def encS : Pt → List UInt8
  | none => List.replicate 33 0
  | some (x, y) => (if y.val % 2 = 1 then 3 else 2) :: bytesS x.val
theorem encS_length : ∀ P, (encS P).length = 33
  | none => rfl
  | some (x, y) => by simp [encS, bytesS_length]
theorem val_neg' (y : Fp) (h : y ≠ 0) : (-y).val % 2 ≠ y.val % 2 := by
  have hs : y + -y = 0 := by grobner
  have h1 := Ec.val_of_sum hs h
  have h2 : pM % 2 = 1 := by decide +kernel
  omega
/-- of a point's X, Lift is that point or its contrary: the even one -/
theorem lift_x (x y : Fp) (h : y * y = x * x * x + 7) : liftP (bytesS x.val) = if y.val % 2 = 1 then some (x, -y) else some (x, y) := by
  have hv : valB (bytesS x.val) = x.val := valB_bytesS _ (lt4 x)
  have hc : cubeN x.val = mulP y.val y.val := by
    rw [cubeN_val, ← h]
    rfl
  obtain ⟨s, hs, hsn⟩ := sqrt_sq y.val
  have hb : liftB (bytesS x.val) = true := by
    unfold liftB
    rw [hv, hc, hs]
    simp [x.isLt]
  obtain ⟨u, r, e1, e2, e3, e4, e5⟩ := lift_yes hb
  rw [hv] at e1
  have eu : u = x := Fin.ext e1
  subst eu
  rw [hv, hc, hs] at e2
  have e2 : r.val = s := e2
  rw [e3]
  have hy := no_two u y h
  rcases hsn with q | q
  · have er : r = y := Fin.ext (by rw [e2, q, Nat.mod_eq_of_lt y.isLt])
    subst er
    rw [if_neg (by omega)]
  · have er : r = -y := Fin.ext (by rw [e2, q, val_neg])
    subst er
    have := val_neg' y hy
    rw [if_pos (by omega)]
theorem list32 (m : List UInt8) (h : m.length = 32) : ∃ a0 a1 a2 a3 a4 a5 a6 a7 a8 a9 a10 a11 a12 a13 a14 a15 a16 a17 a18 a19 a20 a21 a22 a23 a24 a25 a26 a27 a28 a29 a30 a31 : UInt8, m = [a0, a1, a2, a3, a4, a5, a6, a7, a8, a9, a10, a11, a12, a13, a14, a15, a16, a17, a18, a19, a20, a21, a22, a23, a24, a25, a26, a27, a28, a29, a30, a31] := by
  match m, h with
  | [a0, a1, a2, a3, a4, a5, a6, a7, a8, a9, a10, a11, a12, a13, a14, a15, a16, a17, a18, a19, a20, a21, a22, a23, a24, a25, a26, a27, a28, a29, a30, a31], _ => exact ⟨a0, a1, a2, a3, a4, a5, a6, a7, a8, a9, a10, a11, a12, a13, a14, a15, a16, a17, a18, a19, a20, a21, a22, a23, a24, a25, a26, a27, a28, a29, a30, a31,  rfl⟩
theorem eql_u8 (w : World) (F : Slots) (o : Oper) (x y : Operand) (a : UInt8) (k : Nat) (hk : k < 256) {yt : TypeId} (ho : o.op = .binOp .eql 5 x y yt) (hx : evF F x = bv a) (hy : evF F y = .int .u8 k) : (execOp (evF F) o).run Tryd.prog w = .ok (.value (.bool (decide (a = UInt8.ofNat k)))) w := by
  have h1 := Tryd.underlying5
  have e : ((a.toNat : Int) == (k : Int)) = decide (a = UInt8.ofNat k) := by
    rw [Bool.eq_iff_iff]
    simp
    constructor
    · intro h
      have : a.toNat = k := by omega
      exact UInt8.toNat_inj.1 (by rw [this, UInt8.toNat_ofNat']; omega)
    · rintro rfl
      rw [UInt8.toNat_ofNat']
      omega
  unfold execOp
  simp only [ho, hx, hy, bv]
  simp [eqGuard, binOp, Op.intCmp, e]
end Go.Proofs.YtbofhoonlmikcaaDoor.Cu

end
section
namespace Go.Proofs.YtbofhoonlmikcaaDoor.Cu
open Go.RowKit Go.Proofs.YtbofhoonlmikcaaDoor Go.Proofs.YtbofhoonlmikcaaDoor.Sy
set_option maxRecDepth 100000
set_option maxHeartbeats 4000000

theorem enc_none (w : World) (x y : Nat) (i : Bool) (hx : x < K4) (hy : y < K4) (h : dec x y i = none) : Calls Tryd.prog 14 #[pv x y i] w (Gets w (.agg ((encS none).map bv).toArray)) := by
  refine Sy.enter (args := [pv x y i]) Tryd.func14 rfl kL ?_
  refine sC ?_
  refine sM 43 (pcs x y i) (fun g0 => ?_)
  refine Sy.make kR 48 (.int .u8 0 :: .int .u8 0 :: .int .u8 0 :: [.int .u8 0, .int .u8 0, .int .u8 0, .int .u8 0, .int .u8 0, .int .u8 0, .int .u8 0, .int .u8 0, .int .u8 0, .int .u8 0, .int .u8 0, .int .u8 0, .int .u8 0, .int .u8 0, .int .u8 0, .int .u8 0, .int .u8 0, .int .u8 0, .int .u8 0, .int .u8 0, .int .u8 0, .int .u8 0, .int .u8 0, .int .u8 0, .int .u8 0, .int .u8 0, .int .u8 0, .int .u8 0, .int .u8 0, .int .u8 0]).toArray ptr kF (fun g1 => ?_)
  refine sA ?_
  refine Sy.make kR 48 (.int .u8 0 :: .int .u8 0 :: .int .u8 0 :: [.int .u8 0, .int .u8 0, .int .u8 0, .int .u8 0, .int .u8 0, .int .u8 0, .int .u8 0, .int .u8 0, .int .u8 0, .int .u8 0, .int .u8 0, .int .u8 0, .int .u8 0, .int .u8 0, .int .u8 0, .int .u8 0, .int .u8 0, .int .u8 0, .int .u8 0, .int .u8 0, .int .u8 0, .int .u8 0, .int .u8 0, .int .u8 0, .int .u8 0, .int .u8 0, .int .u8 0, .int .u8 0, .int .u8 0, .int .u8 0]).toArray ptr kF (fun g2 => ?_)
  refine sA ?_
  refine sS (pv x y i) (qL 0 g0 0 9 43 43 (pcs x y i) rfl Tryd.underlying43) <| sS (pv 0 0 true) (qF 31 #[pv x y i] (fun w => by have hrr := right_c w x y i lK lK; rw [h] at hrr; exact hrr)) <| sW 0 g0 43 (pcs x y i) (pcs 0 0 true) (wS 0 43 (pcs 0 0 true) rfl) ?_
  refine sG ?_
  refine Sy.seq ?_
  refine Sy.seq ?_
  refine Sy.regionD (fun j => false) kR ?_
  refine sD 0 rfl (pv 0 0 true) (qL 0 g0 0 9 43 43 (pcs 0 0 true) rfl Tryd.underlying43) <| sD 1 rfl (pv 0 0 true) (qF 27 #[] (zero_c)) <| sD 2 rfl (.bool true) (Quiet.pure (fun w => eql_pt w _ _ _ _ 0 0 true 0 0 true rfl rfl rfl (by decide) (by decide) (by decide) (by decide))) ?_
  refine sI ?_
  refine sT ?_
  refine sC ?_
  refine sS (.agg ((.int .u8 0 :: .int .u8 0 :: .int .u8 0 :: [.int .u8 0, .int .u8 0, .int .u8 0, .int .u8 0, .int .u8 0, .int .u8 0, .int .u8 0, .int .u8 0, .int .u8 0, .int .u8 0, .int .u8 0, .int .u8 0, .int .u8 0, .int .u8 0, .int .u8 0, .int .u8 0, .int .u8 0, .int .u8 0, .int .u8 0, .int .u8 0, .int .u8 0, .int .u8 0, .int .u8 0, .int .u8 0, .int .u8 0, .int .u8 0, .int .u8 0, .int .u8 0, .int .u8 0, .int .u8 0]) : List Value).toArray) (Quiet.load 2 g2 0 33 48 48 (.int .u8 0 :: .int .u8 0 :: .int .u8 0 :: [.int .u8 0, .int .u8 0, .int .u8 0, .int .u8 0, .int .u8 0, .int .u8 0, .int .u8 0, .int .u8 0, .int .u8 0, .int .u8 0, .int .u8 0, .int .u8 0, .int .u8 0, .int .u8 0, .int .u8 0, .int .u8 0, .int .u8 0, .int .u8 0, .int .u8 0, .int .u8 0, .int .u8 0, .int .u8 0, .int .u8 0, .int .u8 0, .int .u8 0, .int .u8 0, .int .u8 0, .int .u8 0, .int .u8 0, .int .u8 0]).toArray _ _ rfl kR kR Tryd.underlying48 rfl kR _ kR kL) ?_
  refine Sy.write kR 1 g1 48 (.int .u8 0 :: .int .u8 0 :: .int .u8 0 :: [.int .u8 0, .int .u8 0, .int .u8 0, .int .u8 0, .int .u8 0, .int .u8 0, .int .u8 0, .int .u8 0, .int .u8 0, .int .u8 0, .int .u8 0, .int .u8 0, .int .u8 0, .int .u8 0, .int .u8 0, .int .u8 0, .int .u8 0, .int .u8 0, .int .u8 0, .int .u8 0, .int .u8 0, .int .u8 0, .int .u8 0, .int .u8 0, .int .u8 0, .int .u8 0, .int .u8 0, .int .u8 0, .int .u8 0, .int .u8 0]).toArray (.int .u8 0 :: .int .u8 0 :: .int .u8 0 :: [.int .u8 0, .int .u8 0, .int .u8 0, .int .u8 0, .int .u8 0, .int .u8 0, .int .u8 0, .int .u8 0, .int .u8 0, .int .u8 0, .int .u8 0, .int .u8 0, .int .u8 0, .int .u8 0, .int .u8 0, .int .u8 0, .int .u8 0, .int .u8 0, .int .u8 0, .int .u8 0, .int .u8 0, .int .u8 0, .int .u8 0, .int .u8 0, .int .u8 0, .int .u8 0, .int .u8 0, .int .u8 0, .int .u8 0, .int .u8 0]).toArray kR (Writes.store 0 48 (.int .u8 0 :: .int .u8 0 :: .int .u8 0 :: [.int .u8 0, .int .u8 0, .int .u8 0, .int .u8 0, .int .u8 0, .int .u8 0, .int .u8 0, .int .u8 0, .int .u8 0, .int .u8 0, .int .u8 0, .int .u8 0, .int .u8 0, .int .u8 0, .int .u8 0, .int .u8 0, .int .u8 0, .int .u8 0, .int .u8 0, .int .u8 0, .int .u8 0, .int .u8 0, .int .u8 0, .int .u8 0, .int .u8 0, .int .u8 0, .int .u8 0, .int .u8 0, .int .u8 0, .int .u8 0]).toArray _ _ rfl kR kR kR kL kR kR) ?_
  refine sG ?_
  refine Sy.ret ?_
  refine Sy.then_ret ?_
  rw [show (.agg ((encS none).map bv).toArray : Value) = .agg ((.int .u8 0 :: .int .u8 0 :: .int .u8 0 :: [.int .u8 0, .int .u8 0, .int .u8 0, .int .u8 0, .int .u8 0, .int .u8 0, .int .u8 0, .int .u8 0, .int .u8 0, .int .u8 0, .int .u8 0, .int .u8 0, .int .u8 0, .int .u8 0, .int .u8 0, .int .u8 0, .int .u8 0, .int .u8 0, .int .u8 0, .int .u8 0, .int .u8 0, .int .u8 0, .int .u8 0, .int .u8 0, .int .u8 0, .int .u8 0, .int .u8 0, .int .u8 0, .int .u8 0, .int .u8 0]) : List Value).toArray from by kernel_rfl]
  exact Sy.ret1 (v := .agg ((.int .u8 0 :: .int .u8 0 :: .int .u8 0 :: [.int .u8 0, .int .u8 0, .int .u8 0, .int .u8 0, .int .u8 0, .int .u8 0, .int .u8 0, .int .u8 0, .int .u8 0, .int .u8 0, .int .u8 0, .int .u8 0, .int .u8 0, .int .u8 0, .int .u8 0, .int .u8 0, .int .u8 0, .int .u8 0, .int .u8 0, .int .u8 0, .int .u8 0, .int .u8 0, .int .u8 0, .int .u8 0, .int .u8 0, .int .u8 0, .int .u8 0, .int .u8 0, .int .u8 0, .int .u8 0]) : List Value).toArray) rfl (.inl (Res.cell (ty' := 48) g1 1 (.int .u8 0 :: .int .u8 0 :: .int .u8 0 :: [.int .u8 0, .int .u8 0, .int .u8 0, .int .u8 0, .int .u8 0, .int .u8 0, .int .u8 0, .int .u8 0, .int .u8 0, .int .u8 0, .int .u8 0, .int .u8 0, .int .u8 0, .int .u8 0, .int .u8 0, .int .u8 0, .int .u8 0, .int .u8 0, .int .u8 0, .int .u8 0, .int .u8 0, .int .u8 0, .int .u8 0, .int .u8 0, .int .u8 0, .int .u8 0, .int .u8 0, .int .u8 0, .int .u8 0, .int .u8 0]).toArray _ kR kR Tryd.underlying48 rfl kR kR))
theorem enc_some (w : World) (x y : Nat) (i : Bool) (hx : x < K4) (hy : y < K4) (u v : Fp) (h : dec x y i = some (u, v)) : Calls Tryd.prog 14 #[pv x y i] w (Gets w (.agg ((encS (some (u, v))).map bv).toArray)) := by
  obtain ⟨a0, a1, a2, a3, a4, a5, a6, a7, a8, a9, a10, a11, a12, a13, a14, a15, a16, a17, a18, a19, a20, a21, a22, a23, a24, a25, a26, a27, a28, a29, a30, a31, hm⟩ := list32 (bytesS u.val) (bytesS_length _)
  have cB : ∀ w, Calls Tryd.prog 33 #[fv u.val] w (Gets w (.agg ((bv a0 :: bv a1 :: [bv a2, bv a3, bv a4, bv a5, bv a6, bv a7, bv a8, bv a9, bv a10, bv a11, bv a12, bv a13, bv a14, bv a15, bv a16, bv a17, bv a18, bv a19, bv a20, bv a21, bv a22, bv a23, bv a24, bv a25, bv a26, bv a27, bv a28, bv a29, bv a30, bv a31]) : List Value).toArray)) := fun w => by
    have hh := bytes_any w u.val (lt4 u)
    rw [Nat.mod_eq_of_lt u.isLt, hm] at hh
    exact hh
  refine Sy.enter (args := [pv x y i]) Tryd.func14 rfl kL ?_
  refine sC ?_
  refine sM 43 (pcs x y i) (fun g0 => ?_)
  refine Sy.make kR 48 (.int .u8 0 :: .int .u8 0 :: .int .u8 0 :: [.int .u8 0, .int .u8 0, .int .u8 0, .int .u8 0, .int .u8 0, .int .u8 0, .int .u8 0, .int .u8 0, .int .u8 0, .int .u8 0, .int .u8 0, .int .u8 0, .int .u8 0, .int .u8 0, .int .u8 0, .int .u8 0, .int .u8 0, .int .u8 0, .int .u8 0, .int .u8 0, .int .u8 0, .int .u8 0, .int .u8 0, .int .u8 0, .int .u8 0, .int .u8 0, .int .u8 0, .int .u8 0, .int .u8 0, .int .u8 0]).toArray ptr kF (fun g1 => ?_)
  refine sA ?_
  refine Sy.make kR 48 (.int .u8 0 :: .int .u8 0 :: .int .u8 0 :: [.int .u8 0, .int .u8 0, .int .u8 0, .int .u8 0, .int .u8 0, .int .u8 0, .int .u8 0, .int .u8 0, .int .u8 0, .int .u8 0, .int .u8 0, .int .u8 0, .int .u8 0, .int .u8 0, .int .u8 0, .int .u8 0, .int .u8 0, .int .u8 0, .int .u8 0, .int .u8 0, .int .u8 0, .int .u8 0, .int .u8 0, .int .u8 0, .int .u8 0, .int .u8 0, .int .u8 0, .int .u8 0, .int .u8 0, .int .u8 0]).toArray ptr kF (fun g2 => ?_)
  refine sA ?_
  refine sS (pv x y i) (qL 0 g0 0 9 43 43 (pcs x y i) rfl Tryd.underlying43) <| sS (pv u.val v.val false) (qF 31 #[pv x y i] (fun w => by have hrr := right_c w x y i lK lK; rw [h] at hrr; exact hrr)) <| sW 0 g0 43 (pcs x y i) (pcs u.val v.val false) (wS 0 43 (pcs u.val v.val false) rfl) ?_
  refine sG ?_
  refine Sy.seq ?_
  refine Sy.seq ?_
  refine Sy.regionD (fun j => false) kR ?_
  refine sD 0 rfl (pv u.val v.val false) (qL 0 g0 0 9 43 43 (pcs u.val v.val false) rfl Tryd.underlying43) <| sD 1 rfl (pv 0 0 true) (qF 27 #[] (zero_c)) <| sD 2 rfl (.bool false) (Quiet.pure (fun w => eql_pt_ne w _ _ _ _ _ _ _ _ _ _ rfl rfl rfl lK lK lK lK (by decide))) ?_
  refine sI ?_
  refine sU ?_
  refine Sy.skip ?_
  refine sB ?_
  refine sP (.pointer (some ⟨g2, 0, none⟩)) ?_
  refine Sy.write kR 2 g2 48 (.int .u8 0 :: .int .u8 0 :: .int .u8 0 :: [.int .u8 0, .int .u8 0, .int .u8 0, .int .u8 0, .int .u8 0, .int .u8 0, .int .u8 0, .int .u8 0, .int .u8 0, .int .u8 0, .int .u8 0, .int .u8 0, .int .u8 0, .int .u8 0, .int .u8 0, .int .u8 0, .int .u8 0, .int .u8 0, .int .u8 0, .int .u8 0, .int .u8 0, .int .u8 0, .int .u8 0, .int .u8 0, .int .u8 0, .int .u8 0, .int .u8 0, .int .u8 0, .int .u8 0, .int .u8 0]).toArray (.int .u8 2 :: .int .u8 0 :: .int .u8 0 :: [.int .u8 0, .int .u8 0, .int .u8 0, .int .u8 0, .int .u8 0, .int .u8 0, .int .u8 0, .int .u8 0, .int .u8 0, .int .u8 0, .int .u8 0, .int .u8 0, .int .u8 0, .int .u8 0, .int .u8 0, .int .u8 0, .int .u8 0, .int .u8 0, .int .u8 0, .int .u8 0, .int .u8 0, .int .u8 0, .int .u8 0, .int .u8 0, .int .u8 0, .int .u8 0, .int .u8 0, .int .u8 0, .int .u8 0, .int .u8 0]).toArray kR (wO 0 5 (.int .u8 2) rfl) ?_
  refine sG ?_
  refine Sy.seq ?_
  refine sC ?_
  refine sP (.pointer (some ⟨g0, 4, none⟩)) <| sS (fv v.val) (qL 0 g0 4 4 43 41 (pcs u.val v.val false) rfl Tryd.underlying41) ?_
  obtain ⟨b1, hb1⟩ : ∃ z : Bool, z = decide (v.val % pM % 2 = 1) := ⟨_, rfl⟩
  refine sS (.bool b1) (qF 32 #[fv v.val] (fun w => by rw [hb1]; exact odd_any w v.val lK)) ?_
  refine sG ?_
  cases b1
  · refine sU ?_
    refine Sy.skip ?_
    refine sB ?_
    refine sP (.pointer (some ⟨g0, 0, none⟩)) <| sS (fv u.val) (qL 0 g0 0 4 43 41 (pcs u.val v.val false) rfl Tryd.underlying41) <| sS (.agg ((bv a0 :: bv a1 :: [bv a2, bv a3, bv a4, bv a5, bv a6, bv a7, bv a8, bv a9, bv a10, bv a11, bv a12, bv a13, bv a14, bv a15, bv a16, bv a17, bv a18, bv a19, bv a20, bv a21, bv a22, bv a23, bv a24, bv a25, bv a26, bv a27, bv a28, bv a29, bv a30, bv a31]) : List Value).toArray) (qF 33 #[fv u.val] (cB)) ?_
    refine Sy.make kR 30 (.int .u8 0 :: .int .u8 0 :: [.int .u8 0, .int .u8 0, .int .u8 0, .int .u8 0, .int .u8 0, .int .u8 0, .int .u8 0, .int .u8 0, .int .u8 0, .int .u8 0, .int .u8 0, .int .u8 0, .int .u8 0, .int .u8 0, .int .u8 0, .int .u8 0, .int .u8 0, .int .u8 0, .int .u8 0, .int .u8 0, .int .u8 0, .int .u8 0, .int .u8 0, .int .u8 0, .int .u8 0, .int .u8 0, .int .u8 0, .int .u8 0, .int .u8 0, .int .u8 0]).toArray ptr kF (fun g3 => ?_)
    refine Sy.write kR 3 g3 30 (.int .u8 0 :: .int .u8 0 :: [.int .u8 0, .int .u8 0, .int .u8 0, .int .u8 0, .int .u8 0, .int .u8 0, .int .u8 0, .int .u8 0, .int .u8 0, .int .u8 0, .int .u8 0, .int .u8 0, .int .u8 0, .int .u8 0, .int .u8 0, .int .u8 0, .int .u8 0, .int .u8 0, .int .u8 0, .int .u8 0, .int .u8 0, .int .u8 0, .int .u8 0, .int .u8 0, .int .u8 0, .int .u8 0, .int .u8 0, .int .u8 0, .int .u8 0, .int .u8 0]).toArray (bv a0 :: bv a1 :: [bv a2, bv a3, bv a4, bv a5, bv a6, bv a7, bv a8, bv a9, bv a10, bv a11, bv a12, bv a13, bv a14, bv a15, bv a16, bv a17, bv a18, bv a19, bv a20, bv a21, bv a22, bv a23, bv a24, bv a25, bv a26, bv a27, bv a28, bv a29, bv a30, bv a31]).toArray kR (Writes.store 0 30 (bv a0 :: bv a1 :: [bv a2, bv a3, bv a4, bv a5, bv a6, bv a7, bv a8, bv a9, bv a10, bv a11, bv a12, bv a13, bv a14, bv a15, bv a16, bv a17, bv a18, bv a19, bv a20, bv a21, bv a22, bv a23, bv a24, bv a25, bv a26, bv a27, bv a28, bv a29, bv a30, bv a31]).toArray _ _ rfl kR kR kR kL kR kR) ?_
    refine sH (fun j => j == 2) ?_
    refine sZ 0 rfl (.slice (some ⟨g2, 1, none⟩) 32 32) <| sZ 1 rfl (.slice (some ⟨g3, 0, none⟩) 32 32) ?_
    refine Sy.writeVD 2 rfl kR (by rfl) kR 2 g2 48 (.int .u8 2 :: .int .u8 0 :: .int .u8 0 :: [.int .u8 0, .int .u8 0, .int .u8 0, .int .u8 0, .int .u8 0, .int .u8 0, .int .u8 0, .int .u8 0, .int .u8 0, .int .u8 0, .int .u8 0, .int .u8 0, .int .u8 0, .int .u8 0, .int .u8 0, .int .u8 0, .int .u8 0, .int .u8 0, .int .u8 0, .int .u8 0, .int .u8 0, .int .u8 0, .int .u8 0, .int .u8 0, .int .u8 0, .int .u8 0, .int .u8 0, .int .u8 0, .int .u8 0, .int .u8 0]).toArray (.int .u8 2 :: bv a0 :: bv a1 :: [bv a2, bv a3, bv a4, bv a5, bv a6, bv a7, bv a8, bv a9, bv a10, bv a11, bv a12, bv a13, bv a14, bv a15, bv a16, bv a17, bv a18, bv a19, bv a20, bv a21, bv a22, bv a23, bv a24, bv a25, bv a26, bv a27, bv a28, bv a29, bv a30, bv a31]).toArray (.int .i64 32) kR (WritesV.copy _ _ 25 25 _ rfl Tryd.underlying25 kR 2 g2 1 32 32 48 (.int .u8 2 :: .int .u8 0 :: .int .u8 0 :: [.int .u8 0, .int .u8 0, .int .u8 0, .int .u8 0, .int .u8 0, .int .u8 0, .int .u8 0, .int .u8 0, .int .u8 0, .int .u8 0, .int .u8 0, .int .u8 0, .int .u8 0, .int .u8 0, .int .u8 0, .int .u8 0, .int .u8 0, .int .u8 0, .int .u8 0, .int .u8 0, .int .u8 0, .int .u8 0, .int .u8 0, .int .u8 0, .int .u8 0, .int .u8 0, .int .u8 0, .int .u8 0, .int .u8 0, .int .u8 0]).toArray (.int .u8 2 :: bv a0 :: bv a1 :: [bv a2, bv a3, bv a4, bv a5, bv a6, bv a7, bv a8, bv a9, bv a10, bv a11, bv a12, bv a13, bv a14, bv a15, bv a16, bv a17, bv a18, bv a19, bv a20, bv a21, bv a22, bv a23, bv a24, bv a25, bv a26, bv a27, bv a28, bv a29, bv a30, bv a31]).toArray kR kR 3 g3 0 32 32 30 (bv a0 :: bv a1 :: [bv a2, bv a3, bv a4, bv a5, bv a6, bv a7, bv a8, bv a9, bv a10, bv a11, bv a12, bv a13, bv a14, bv a15, bv a16, bv a17, bv a18, bv a19, bv a20, bv a21, bv a22, bv a23, bv a24, bv a25, bv a26, bv a27, bv a28, bv a29, bv a30, bv a31]).toArray kR kR (bv a0 :: bv a1 :: [bv a2, bv a3, bv a4, bv a5, bv a6, bv a7, bv a8, bv a9, bv a10, bv a11, bv a12, bv a13, bv a14, bv a15, bv a16, bv a17, bv a18, bv a19, bv a20, bv a21, bv a22, bv a23, bv a24, bv a25, bv a26, bv a27, bv a28, bv a29, bv a30, bv a31]) kR kR (all_one _ kR) kL kR) ?_
    refine sE ?_
    refine sB ?_
    refine sS (.agg ((.int .u8 2 :: bv a0 :: bv a1 :: [bv a2, bv a3, bv a4, bv a5, bv a6, bv a7, bv a8, bv a9, bv a10, bv a11, bv a12, bv a13, bv a14, bv a15, bv a16, bv a17, bv a18, bv a19, bv a20, bv a21, bv a22, bv a23, bv a24, bv a25, bv a26, bv a27, bv a28, bv a29, bv a30, bv a31]) : List Value).toArray) (Quiet.load 2 g2 0 33 48 48 (.int .u8 2 :: bv a0 :: bv a1 :: [bv a2, bv a3, bv a4, bv a5, bv a6, bv a7, bv a8, bv a9, bv a10, bv a11, bv a12, bv a13, bv a14, bv a15, bv a16, bv a17, bv a18, bv a19, bv a20, bv a21, bv a22, bv a23, bv a24, bv a25, bv a26, bv a27, bv a28, bv a29, bv a30, bv a31]).toArray _ _ rfl kR kR Tryd.underlying48 rfl kR _ kR kL) ?_
    refine Sy.write kR 1 g1 48 (.int .u8 0 :: .int .u8 0 :: .int .u8 0 :: [.int .u8 0, .int .u8 0, .int .u8 0, .int .u8 0, .int .u8 0, .int .u8 0, .int .u8 0, .int .u8 0, .int .u8 0, .int .u8 0, .int .u8 0, .int .u8 0, .int .u8 0, .int .u8 0, .int .u8 0, .int .u8 0, .int .u8 0, .int .u8 0, .int .u8 0, .int .u8 0, .int .u8 0, .int .u8 0, .int .u8 0, .int .u8 0, .int .u8 0, .int .u8 0, .int .u8 0, .int .u8 0, .int .u8 0, .int .u8 0]).toArray (.int .u8 2 :: bv a0 :: bv a1 :: [bv a2, bv a3, bv a4, bv a5, bv a6, bv a7, bv a8, bv a9, bv a10, bv a11, bv a12, bv a13, bv a14, bv a15, bv a16, bv a17, bv a18, bv a19, bv a20, bv a21, bv a22, bv a23, bv a24, bv a25, bv a26, bv a27, bv a28, bv a29, bv a30, bv a31]).toArray kR (Writes.store 0 48 (.int .u8 2 :: bv a0 :: bv a1 :: [bv a2, bv a3, bv a4, bv a5, bv a6, bv a7, bv a8, bv a9, bv a10, bv a11, bv a12, bv a13, bv a14, bv a15, bv a16, bv a17, bv a18, bv a19, bv a20, bv a21, bv a22, bv a23, bv a24, bv a25, bv a26, bv a27, bv a28, bv a29, bv a30, bv a31]).toArray _ _ rfl kR kR kR kL kR kR) ?_
    refine sG ?_
    refine Sy.ret ?_
    rw [show (.agg ((encS (some (u, v))).map bv).toArray : Value) = .agg ((.int .u8 2 :: bv a0 :: bv a1 :: [bv a2, bv a3, bv a4, bv a5, bv a6, bv a7, bv a8, bv a9, bv a10, bv a11, bv a12, bv a13, bv a14, bv a15, bv a16, bv a17, bv a18, bv a19, bv a20, bv a21, bv a22, bv a23, bv a24, bv a25, bv a26, bv a27, bv a28, bv a29, bv a30, bv a31]) : List Value).toArray from by
      have e : encS (some (u, v)) = (if v.val % 2 = 1 then 3 else 2) :: bytesS u.val := rfl
      rw [e, hm, if_neg (by have q := hb1.symm; rw [Nat.mod_eq_of_lt v.isLt] at q; exact of_decide_eq_false q)]
      rfl]
    exact Sy.ret1 (v := .agg ((.int .u8 2 :: bv a0 :: bv a1 :: [bv a2, bv a3, bv a4, bv a5, bv a6, bv a7, bv a8, bv a9, bv a10, bv a11, bv a12, bv a13, bv a14, bv a15, bv a16, bv a17, bv a18, bv a19, bv a20, bv a21, bv a22, bv a23, bv a24, bv a25, bv a26, bv a27, bv a28, bv a29, bv a30, bv a31]) : List Value).toArray) rfl (.inl (Res.cell (ty' := 48) g1 1 (.int .u8 2 :: bv a0 :: bv a1 :: [bv a2, bv a3, bv a4, bv a5, bv a6, bv a7, bv a8, bv a9, bv a10, bv a11, bv a12, bv a13, bv a14, bv a15, bv a16, bv a17, bv a18, bv a19, bv a20, bv a21, bv a22, bv a23, bv a24, bv a25, bv a26, bv a27, bv a28, bv a29, bv a30, bv a31]).toArray _ kR kR Tryd.underlying48 rfl kR kR))
  · refine sT ?_
    refine Sy.region ?_
    refine sP (.pointer (some ⟨g2, 0, none⟩)) ?_
    refine Sy.write kR 2 g2 48 (.int .u8 2 :: .int .u8 0 :: .int .u8 0 :: [.int .u8 0, .int .u8 0, .int .u8 0, .int .u8 0, .int .u8 0, .int .u8 0, .int .u8 0, .int .u8 0, .int .u8 0, .int .u8 0, .int .u8 0, .int .u8 0, .int .u8 0, .int .u8 0, .int .u8 0, .int .u8 0, .int .u8 0, .int .u8 0, .int .u8 0, .int .u8 0, .int .u8 0, .int .u8 0, .int .u8 0, .int .u8 0, .int .u8 0, .int .u8 0, .int .u8 0, .int .u8 0, .int .u8 0, .int .u8 0]).toArray (.int .u8 3 :: .int .u8 0 :: .int .u8 0 :: [.int .u8 0, .int .u8 0, .int .u8 0, .int .u8 0, .int .u8 0, .int .u8 0, .int .u8 0, .int .u8 0, .int .u8 0, .int .u8 0, .int .u8 0, .int .u8 0, .int .u8 0, .int .u8 0, .int .u8 0, .int .u8 0, .int .u8 0, .int .u8 0, .int .u8 0, .int .u8 0, .int .u8 0, .int .u8 0, .int .u8 0, .int .u8 0, .int .u8 0, .int .u8 0, .int .u8 0, .int .u8 0, .int .u8 0, .int .u8 0]).toArray kR (wO 0 5 (.int .u8 3) rfl) ?_
    refine sA ?_
    refine sP (.pointer (some ⟨g0, 0, none⟩)) <| sS (fv u.val) (qL 0 g0 0 4 43 41 (pcs u.val v.val false) rfl Tryd.underlying41) <| sS (.agg ((bv a0 :: bv a1 :: [bv a2, bv a3, bv a4, bv a5, bv a6, bv a7, bv a8, bv a9, bv a10, bv a11, bv a12, bv a13, bv a14, bv a15, bv a16, bv a17, bv a18, bv a19, bv a20, bv a21, bv a22, bv a23, bv a24, bv a25, bv a26, bv a27, bv a28, bv a29, bv a30, bv a31]) : List Value).toArray) (qF 33 #[fv u.val] (cB)) ?_
    refine Sy.make kR 30 (.int .u8 0 :: .int .u8 0 :: [.int .u8 0, .int .u8 0, .int .u8 0, .int .u8 0, .int .u8 0, .int .u8 0, .int .u8 0, .int .u8 0, .int .u8 0, .int .u8 0, .int .u8 0, .int .u8 0, .int .u8 0, .int .u8 0, .int .u8 0, .int .u8 0, .int .u8 0, .int .u8 0, .int .u8 0, .int .u8 0, .int .u8 0, .int .u8 0, .int .u8 0, .int .u8 0, .int .u8 0, .int .u8 0, .int .u8 0, .int .u8 0, .int .u8 0, .int .u8 0]).toArray ptr kF (fun g4 => ?_)
    refine Sy.write kR 3 g4 30 (.int .u8 0 :: .int .u8 0 :: [.int .u8 0, .int .u8 0, .int .u8 0, .int .u8 0, .int .u8 0, .int .u8 0, .int .u8 0, .int .u8 0, .int .u8 0, .int .u8 0, .int .u8 0, .int .u8 0, .int .u8 0, .int .u8 0, .int .u8 0, .int .u8 0, .int .u8 0, .int .u8 0, .int .u8 0, .int .u8 0, .int .u8 0, .int .u8 0, .int .u8 0, .int .u8 0, .int .u8 0, .int .u8 0, .int .u8 0, .int .u8 0, .int .u8 0, .int .u8 0]).toArray (bv a0 :: bv a1 :: [bv a2, bv a3, bv a4, bv a5, bv a6, bv a7, bv a8, bv a9, bv a10, bv a11, bv a12, bv a13, bv a14, bv a15, bv a16, bv a17, bv a18, bv a19, bv a20, bv a21, bv a22, bv a23, bv a24, bv a25, bv a26, bv a27, bv a28, bv a29, bv a30, bv a31]).toArray kR (Writes.store 0 30 (bv a0 :: bv a1 :: [bv a2, bv a3, bv a4, bv a5, bv a6, bv a7, bv a8, bv a9, bv a10, bv a11, bv a12, bv a13, bv a14, bv a15, bv a16, bv a17, bv a18, bv a19, bv a20, bv a21, bv a22, bv a23, bv a24, bv a25, bv a26, bv a27, bv a28, bv a29, bv a30, bv a31]).toArray _ _ rfl kR kR kR kL kR kR) ?_
    refine sH (fun j => j == 2) ?_
    refine sZ 0 rfl (.slice (some ⟨g2, 1, none⟩) 32 32) <| sZ 1 rfl (.slice (some ⟨g4, 0, none⟩) 32 32) ?_
    refine Sy.writeVD 2 rfl kR (by rfl) kR 2 g2 48 (.int .u8 3 :: .int .u8 0 :: .int .u8 0 :: [.int .u8 0, .int .u8 0, .int .u8 0, .int .u8 0, .int .u8 0, .int .u8 0, .int .u8 0, .int .u8 0, .int .u8 0, .int .u8 0, .int .u8 0, .int .u8 0, .int .u8 0, .int .u8 0, .int .u8 0, .int .u8 0, .int .u8 0, .int .u8 0, .int .u8 0, .int .u8 0, .int .u8 0, .int .u8 0, .int .u8 0, .int .u8 0, .int .u8 0, .int .u8 0, .int .u8 0, .int .u8 0, .int .u8 0, .int .u8 0]).toArray (.int .u8 3 :: bv a0 :: bv a1 :: [bv a2, bv a3, bv a4, bv a5, bv a6, bv a7, bv a8, bv a9, bv a10, bv a11, bv a12, bv a13, bv a14, bv a15, bv a16, bv a17, bv a18, bv a19, bv a20, bv a21, bv a22, bv a23, bv a24, bv a25, bv a26, bv a27, bv a28, bv a29, bv a30, bv a31]).toArray (.int .i64 32) kR (WritesV.copy _ _ 25 25 _ rfl Tryd.underlying25 kR 2 g2 1 32 32 48 (.int .u8 3 :: .int .u8 0 :: .int .u8 0 :: [.int .u8 0, .int .u8 0, .int .u8 0, .int .u8 0, .int .u8 0, .int .u8 0, .int .u8 0, .int .u8 0, .int .u8 0, .int .u8 0, .int .u8 0, .int .u8 0, .int .u8 0, .int .u8 0, .int .u8 0, .int .u8 0, .int .u8 0, .int .u8 0, .int .u8 0, .int .u8 0, .int .u8 0, .int .u8 0, .int .u8 0, .int .u8 0, .int .u8 0, .int .u8 0, .int .u8 0, .int .u8 0, .int .u8 0, .int .u8 0]).toArray (.int .u8 3 :: bv a0 :: bv a1 :: [bv a2, bv a3, bv a4, bv a5, bv a6, bv a7, bv a8, bv a9, bv a10, bv a11, bv a12, bv a13, bv a14, bv a15, bv a16, bv a17, bv a18, bv a19, bv a20, bv a21, bv a22, bv a23, bv a24, bv a25, bv a26, bv a27, bv a28, bv a29, bv a30, bv a31]).toArray kR kR 3 g4 0 32 32 30 (bv a0 :: bv a1 :: [bv a2, bv a3, bv a4, bv a5, bv a6, bv a7, bv a8, bv a9, bv a10, bv a11, bv a12, bv a13, bv a14, bv a15, bv a16, bv a17, bv a18, bv a19, bv a20, bv a21, bv a22, bv a23, bv a24, bv a25, bv a26, bv a27, bv a28, bv a29, bv a30, bv a31]).toArray kR kR (bv a0 :: bv a1 :: [bv a2, bv a3, bv a4, bv a5, bv a6, bv a7, bv a8, bv a9, bv a10, bv a11, bv a12, bv a13, bv a14, bv a15, bv a16, bv a17, bv a18, bv a19, bv a20, bv a21, bv a22, bv a23, bv a24, bv a25, bv a26, bv a27, bv a28, bv a29, bv a30, bv a31]) kR kR (all_one _ kR) kL kR) ?_
    refine sE ?_
    refine sB ?_
    refine sS (.agg ((.int .u8 3 :: bv a0 :: bv a1 :: [bv a2, bv a3, bv a4, bv a5, bv a6, bv a7, bv a8, bv a9, bv a10, bv a11, bv a12, bv a13, bv a14, bv a15, bv a16, bv a17, bv a18, bv a19, bv a20, bv a21, bv a22, bv a23, bv a24, bv a25, bv a26, bv a27, bv a28, bv a29, bv a30, bv a31]) : List Value).toArray) (Quiet.load 2 g2 0 33 48 48 (.int .u8 3 :: bv a0 :: bv a1 :: [bv a2, bv a3, bv a4, bv a5, bv a6, bv a7, bv a8, bv a9, bv a10, bv a11, bv a12, bv a13, bv a14, bv a15, bv a16, bv a17, bv a18, bv a19, bv a20, bv a21, bv a22, bv a23, bv a24, bv a25, bv a26, bv a27, bv a28, bv a29, bv a30, bv a31]).toArray _ _ rfl kR kR Tryd.underlying48 rfl kR _ kR kL) ?_
    refine Sy.write kR 1 g1 48 (.int .u8 0 :: .int .u8 0 :: .int .u8 0 :: [.int .u8 0, .int .u8 0, .int .u8 0, .int .u8 0, .int .u8 0, .int .u8 0, .int .u8 0, .int .u8 0, .int .u8 0, .int .u8 0, .int .u8 0, .int .u8 0, .int .u8 0, .int .u8 0, .int .u8 0, .int .u8 0, .int .u8 0, .int .u8 0, .int .u8 0, .int .u8 0, .int .u8 0, .int .u8 0, .int .u8 0, .int .u8 0, .int .u8 0, .int .u8 0, .int .u8 0, .int .u8 0, .int .u8 0, .int .u8 0]).toArray (.int .u8 3 :: bv a0 :: bv a1 :: [bv a2, bv a3, bv a4, bv a5, bv a6, bv a7, bv a8, bv a9, bv a10, bv a11, bv a12, bv a13, bv a14, bv a15, bv a16, bv a17, bv a18, bv a19, bv a20, bv a21, bv a22, bv a23, bv a24, bv a25, bv a26, bv a27, bv a28, bv a29, bv a30, bv a31]).toArray kR (Writes.store 0 48 (.int .u8 3 :: bv a0 :: bv a1 :: [bv a2, bv a3, bv a4, bv a5, bv a6, bv a7, bv a8, bv a9, bv a10, bv a11, bv a12, bv a13, bv a14, bv a15, bv a16, bv a17, bv a18, bv a19, bv a20, bv a21, bv a22, bv a23, bv a24, bv a25, bv a26, bv a27, bv a28, bv a29, bv a30, bv a31]).toArray _ _ rfl kR kR kR kL kR kR) ?_
    refine sG ?_
    refine Sy.ret ?_
    rw [show (.agg ((encS (some (u, v))).map bv).toArray : Value) = .agg ((.int .u8 3 :: bv a0 :: bv a1 :: [bv a2, bv a3, bv a4, bv a5, bv a6, bv a7, bv a8, bv a9, bv a10, bv a11, bv a12, bv a13, bv a14, bv a15, bv a16, bv a17, bv a18, bv a19, bv a20, bv a21, bv a22, bv a23, bv a24, bv a25, bv a26, bv a27, bv a28, bv a29, bv a30, bv a31]) : List Value).toArray from by
      have e : encS (some (u, v)) = (if v.val % 2 = 1 then 3 else 2) :: bytesS u.val := rfl
      rw [e, hm, if_pos (by have q := hb1.symm; rw [Nat.mod_eq_of_lt v.isLt] at q; exact of_decide_eq_true q)]
      rfl]
    exact Sy.ret1 (v := .agg ((.int .u8 3 :: bv a0 :: bv a1 :: [bv a2, bv a3, bv a4, bv a5, bv a6, bv a7, bv a8, bv a9, bv a10, bv a11, bv a12, bv a13, bv a14, bv a15, bv a16, bv a17, bv a18, bv a19, bv a20, bv a21, bv a22, bv a23, bv a24, bv a25, bv a26, bv a27, bv a28, bv a29, bv a30, bv a31]) : List Value).toArray) rfl (.inl (Res.cell (ty' := 48) g1 1 (.int .u8 3 :: bv a0 :: bv a1 :: [bv a2, bv a3, bv a4, bv a5, bv a6, bv a7, bv a8, bv a9, bv a10, bv a11, bv a12, bv a13, bv a14, bv a15, bv a16, bv a17, bv a18, bv a19, bv a20, bv a21, bv a22, bv a23, bv a24, bv a25, bv a26, bv a27, bv a28, bv a29, bv a30, bv a31]).toArray _ kR kR Tryd.underlying48 rfl kR kR))
/-- every Encode -/
theorem enc_any (w : World) (x y : Nat) (i : Bool) (hx : x < K4) (hy : y < K4) : Calls Tryd.prog 14 #[pv x y i] w (Gets w (.agg ((encS (dec x y i)).map bv).toArray)) := by
  rcases h : dec x y i with _ | ⟨u, v⟩
  · exact enc_none w x y i hx hy h
  · exact enc_some w x y i hx hy u v h
end Go.Proofs.YtbofhoonlmikcaaDoor.Cu

end
section
namespace Go.Proofs.YtbofhoonlmikcaaDoor.Cu
open Go.RowKit Go.Proofs.YtbofhoonlmikcaaDoor Go.Proofs.YtbofhoonlmikcaaDoor.Sy
set_option maxRecDepth 100000
set_option maxHeartbeats 4000000

end Go.Proofs.YtbofhoonlmikcaaDoor.Cu

end
section
namespace Go.Proofs.YtbofhoonlmikcaaDoor.Sc
open Go.RowKit Go.Lib

theorem gap_any (w : World) : Calls Tryd.prog 40 #[] w fun e w' => e = .returned (fv 432420386565659656852420866394968145599) ∧ Below w.heap.size w w' := by
  go_enter Tryd.func40, Tryd.ntmps40
  go_wp2
  exact bodyPost_ret (results_cell_row rfl _ _ w.heap.size _ _ (0, 0) _ rfl (heap_alloc_new w _) Tryd.underlying24 rfl kR) rfl ⟨rfl, (Below.refl _ _).alloc (Nat.le_refl _) _⟩
set_option maxHeartbeats 8000000 in
set_option maxRecDepth 100000 in
theorem plus_any (w : World) (x y : Nat) (hx : x < 115792089237316195423570985008687907853269984665640564039457584007913129639936) (hy : y < 115792089237316195423570985008687907853269984665640564039457584007913129639936) : Calls Tryd.prog 38 #[fv x, fv y] w fun e w' => (∃ s k : Nat, s < 115792089237316195423570985008687907853269984665640564039457584007913129639936 ∧ k ≤ 1 ∧ s + 115792089237316195423570985008687907853269984665640564039457584007913129639936 * k = x + y ∧ e = .returned (.tuple #[fv s, .int .u64 (k : Int)])) ∧ Below w.heap.size w w' := by
  obtain ⟨x0, x1, x2, x3, a0, a1, a2, a3, ex, fx⟩ := words_of x hx
  obtain ⟨y0, y1, y2, y3, b0, b1, b2, b3, ey, fy⟩ := words_of y hy
  rw [fx, fy]
  obtain ⟨s0, c0, d0, k0, e0, r0⟩ := add0_ex x0 y0 a0 b0
  obtain ⟨s1, c1, d1, k1, e1, r1⟩ := addc_ex x1 y1 c0 a1 b1 k0
  obtain ⟨s2, c2, d2, k2, e2, r2⟩ := addc_ex x2 y2 c1 a2 b2 k1
  obtain ⟨s3, c3, d3, k3, e3, r3⟩ := addc_ex x3 y3 c2 a3 b3 k2
  have fin : s0 + 18446744073709551616 * s1 + 340282366920938463463374607431768211456 * s2 + 6277101735386680763835789423207666416102355444464034512896 * s3 + 115792089237316195423570985008687907853269984665640564039457584007913129639936 * c3 = x + y := by omega
  have hs := Lib.hid (fv_mk s0 s1 s2 s3 d0 d1 d2 d3)
  have hlt := Lib.hid (fv_lt s0 s1 s2 s3 d0 d1 d2 d3)
  have HF := Lib.hid fin
  have HK := Lib.hid k3
  clear ex ey fx fy e0 e1 e2 e3 a0 a1 a2 a3 b0 b1 b2 b3 d0 d1 d2 d3 k0 k1 k2 k3 fin hx hy
  go_enter Tryd.func38, Tryd.ntmps38
  go_wp2_with fail
  go_loopw [5, 7] (fun bo i wr => Below w.heap.size w wr ∧ Blk wr w.heap.size 24 #[.int .u64 (x0 : Int), .int .u64 (x1 : Int), .int .u64 (x2 : Int), .int .u64 (x3 : Int)] ∧ Blk wr (w.heap.size + 1) 24 #[.int .u64 (y0 : Int), .int .u64 (y1 : Int), .int .u64 (y2 : Int), .int .u64 (y3 : Int)] ∧ Hid ((i = .int .i64 0 ∧ bo = .int .u64 0 ∧ Blk wr (w.heap.size + 2) 24 #[.int .u64 0, .int .u64 0, .int .u64 0, .int .u64 0]) ∨ (i = .int .i64 1 ∧ bo = .int .u64 (c0 : Int) ∧ Blk wr (w.heap.size + 2) 24 #[.int .u64 (s0 : Int), .int .u64 0, .int .u64 0, .int .u64 0]) ∨ (i = .int .i64 2 ∧ bo = .int .u64 (c1 : Int) ∧ Blk wr (w.heap.size + 2) 24 #[.int .u64 (s0 : Int), .int .u64 (s1 : Int), .int .u64 0, .int .u64 0]) ∨ (i = .int .i64 3 ∧ bo = .int .u64 (c2 : Int) ∧ Blk wr (w.heap.size + 2) 24 #[.int .u64 (s0 : Int), .int .u64 (s1 : Int), .int .u64 (s2 : Int), .int .u64 0]) ∨ (i = .int .i64 4 ∧ bo = .int .u64 (c3 : Int) ∧ Blk wr (w.heap.size + 2) 24 #[.int .u64 (s0 : Int), .int .u64 (s1 : Int), .int .u64 (s2 : Int), .int .u64 (s3 : Int)]))) (fun _ i _ => 4 - (intOf i).toNat)
  case atStart => exact ⟨below_alloc3 w _ _ _, ((Blk.new w _ _).alloc _).alloc _, (blk_new2 w _ _ _).alloc _, Lib.hid (.inl ⟨rfl, rfl, blk_new3 w _ _ _ _⟩)⟩
  case round =>
    obtain ⟨hb, BX, BY, HI⟩ := hrel
    have lX := BX.lt
    have lY := BY.lt
    rcases HI.out with ⟨rfl, rfl, BW⟩ | ⟨rfl, rfl, BW⟩ | ⟨rfl, rfl, BW⟩ | ⟨rfl, rfl, BW⟩ | ⟨rfl, rfl, BW⟩
    · clear HI
      have px : wr.cell? ⟨w.heap.size, 0, none⟩ = some (.int .u64 (x0 : Int)) := BX.cell 0
      have py : wr.cell? ⟨w.heap.size + 1, 0, none⟩ = some (.int .u64 (y0 : Int)) := BY.cell 0
      go_wp2
      refine wp_region_G (fun j => j == 13) kR ?_
      try simp only [Act.put]
      refine wpAnyG_take 0 rfl kR (fun _ _ _ h => h) (YieldsG.pure (by rfl) (fun w9 _ => by go_simp; try with_reducible rfl)) ?_
      try simp only [Act.put, List.setIfInBounds_toArray, List.set_cons_zero, List.set_cons_succ]
      refine wpAnyG_take 1 rfl kR (fun _ _ _ h => h) (YieldsG.pure (by rfl) (fun w9 _ => by go_simp; try with_reducible rfl)) ?_
      try simp only [Act.put, List.setIfInBounds_toArray, List.set_cons_zero, List.set_cons_succ]
      refine wpAnyG_take 2 rfl kR (fun _ _ _ h => h) (YieldsG.pure (by rfl) (fun w9 _ => by go_simp; try with_reducible rfl)) ?_
      try simp only [Act.put, List.setIfInBounds_toArray, List.set_cons_zero, List.set_cons_succ]
      refine wpAnyG_take 3 rfl kR (fun _ _ _ h => h) (YieldsG.pure (v := .int .u64 (x0 : Int)) (by rfl) (fun w9 h9 => by have hz := (Below.cell (p := ⟨w.heap.size, 0, none⟩) h9 lX).trans px; go_simp; first | done | simp [hz])) ?_
      try simp only [Act.put, List.setIfInBounds_toArray, List.set_cons_zero, List.set_cons_succ]
      refine wpAnyG_take 4 rfl kR (fun _ _ _ h => h) (YieldsG.pure (by rfl) (fun w9 _ => by go_simp; try with_reducible rfl)) ?_
      try simp only [Act.put, List.setIfInBounds_toArray, List.set_cons_zero, List.set_cons_succ]
      refine wpAnyG_take 5 rfl kR (fun _ _ _ h => h) (YieldsG.pure (by rfl) (fun w9 _ => by go_simp; try with_reducible rfl)) ?_
      try simp only [Act.put, List.setIfInBounds_toArray, List.set_cons_zero, List.set_cons_succ]
      refine wpAnyG_take 6 rfl kR (fun _ _ _ h => h) (YieldsG.pure (v := .int .u64 (y0 : Int)) (by rfl) (fun w9 h9 => by have hz := (Below.cell (p := ⟨w.heap.size + 1, 0, none⟩) h9 lY).trans py; go_simp; first | done | simp [hz])) ?_
      try simp only [Act.put, List.setIfInBounds_toArray, List.set_cons_zero, List.set_cons_succ]
      refine wpAnyG_take 7 rfl kR (fun _ _ _ h => h) (YieldsG.pure (by rfl) (fun w9 _ => by go_simp; try with_reducible rfl)) ?_
      try simp only [Act.put, List.setIfInBounds_toArray, List.set_cons_zero, List.set_cons_succ]
      refine wpAnyG_take 8 rfl kR (fun _ _ _ h => h) (YieldsG.pure (v := .tuple #[.int .u64 (s0 : Int), .int .u64 (c0 : Int)]) (by rfl) (fun w9 h9 => by go_simp)) ?_
      try simp only [Act.put, List.setIfInBounds_toArray, List.set_cons_zero, List.set_cons_succ]
      refine wpAnyG_take 9 rfl kR (fun _ _ _ h => h) (YieldsG.pure (by rfl) (fun w9 _ => by go_simp; try with_reducible rfl)) ?_
      try simp only [Act.put, List.setIfInBounds_toArray, List.set_cons_zero, List.set_cons_succ]
      refine wpAnyG_take 10 rfl kR (fun _ _ _ h => h) (YieldsG.pure (by rfl) (fun w9 _ => by go_simp; try with_reducible rfl)) ?_
      try simp only [Act.put, List.setIfInBounds_toArray, List.set_cons_zero, List.set_cons_succ]
      refine wpAnyG_takeA 11 rfl kR (fun _ _ _ h => h) (fun _ => YieldsG.pure (by rfl) (fun w9 _ => by go_simp; try with_reducible rfl)) ?_
      try simp only [Act.put, List.setIfInBounds_toArray, List.set_cons_zero, List.set_cons_succ]
      refine wpAnyG_take 12 rfl kR (fun _ _ _ h => h) (YieldsG.pure (by rfl) (fun w9 _ => by go_simp; try with_reducible rfl)) ?_
      try simp only [Act.put, List.setIfInBounds_toArray, List.set_cons_zero, List.set_cons_succ]
      refine wpAnyG_sole 13 rfl kR (by rfl) (fun u hu K hK => ?_)
      have BX := Gr.blk hu BX
      have BY := Gr.blk hu BY
      have BW := Gr.blk hu BW
      have hb := Below.gr hb hu
      have pc : u.cell? ⟨w.heap.size + 2, 0, none⟩ = some (.int .u64 0) := BW.cell 0
      have pf := BW.frozen 0
      clear hu px py
      go_simp
      refine hK _ _ (fun e => by cases e) ?_
      clear hK K
      have hb := hb.setCell (p := ⟨w.heap.size + 2, 0, none⟩) (by show w.heap.size ≤ w.heap.size + 2; omega) (.int .u64 (s0 : Int))
      have BX := BX.far (p := ⟨w.heap.size + 2, 0, none⟩) (by show w.heap.size ≠ w.heap.size + 2; omega) (.int .u64 (s0 : Int))
      have BY := BY.far (p := ⟨w.heap.size + 2, 0, none⟩) (by show w.heap.size + 1 ≠ w.heap.size + 2; omega) (.int .u64 (s0 : Int))
      have BW := BW.set_ 0 (.int .u64 (s0 : Int))
      refine wpAnyG_takeA 14 rfl kR (fun _ _ _ h => h) (fun _ => YieldsG.pure (by rfl) (fun w9 _ => by go_simp; try with_reducible rfl)) ?_
      try simp only [Act.put, List.setIfInBounds_toArray, List.set_cons_zero, List.set_cons_succ]
      refine wpAnyG_done kR (fun v hv => ?_)
      have hb := Below.gr hb hv
      have BX := Gr.blk hv BX
      have BY := Gr.blk hv BY
      have BW := Gr.blk hv BW
      clear hv pc pf
      go_wp2
      refine ⟨⟨hb, BX, BY, Lib.hid (.inr (.inl (⟨rfl, rfl, BW⟩)))⟩, by decide⟩
    · clear HI
      have px : wr.cell? ⟨w.heap.size, 1, none⟩ = some (.int .u64 (x1 : Int)) := BX.cell 1
      have py : wr.cell? ⟨w.heap.size + 1, 1, none⟩ = some (.int .u64 (y1 : Int)) := BY.cell 1
      go_wp2
      refine wp_region_G (fun j => j == 13) kR ?_
      try simp only [Act.put]
      refine wpAnyG_take 0 rfl kR (fun _ _ _ h => h) (YieldsG.pure (by rfl) (fun w9 _ => by go_simp; try with_reducible rfl)) ?_
      try simp only [Act.put, List.setIfInBounds_toArray, List.set_cons_zero, List.set_cons_succ]
      refine wpAnyG_take 1 rfl kR (fun _ _ _ h => h) (YieldsG.pure (by rfl) (fun w9 _ => by go_simp; try with_reducible rfl)) ?_
      try simp only [Act.put, List.setIfInBounds_toArray, List.set_cons_zero, List.set_cons_succ]
      refine wpAnyG_take 2 rfl kR (fun _ _ _ h => h) (YieldsG.pure (by rfl) (fun w9 _ => by go_simp; try with_reducible rfl)) ?_
      try simp only [Act.put, List.setIfInBounds_toArray, List.set_cons_zero, List.set_cons_succ]
      refine wpAnyG_take 3 rfl kR (fun _ _ _ h => h) (YieldsG.pure (v := .int .u64 (x1 : Int)) (by rfl) (fun w9 h9 => by have hz := (Below.cell (p := ⟨w.heap.size, 1, none⟩) h9 lX).trans px; go_simp; first | done | simp [hz])) ?_
      try simp only [Act.put, List.setIfInBounds_toArray, List.set_cons_zero, List.set_cons_succ]
      refine wpAnyG_take 4 rfl kR (fun _ _ _ h => h) (YieldsG.pure (by rfl) (fun w9 _ => by go_simp; try with_reducible rfl)) ?_
      try simp only [Act.put, List.setIfInBounds_toArray, List.set_cons_zero, List.set_cons_succ]
      refine wpAnyG_take 5 rfl kR (fun _ _ _ h => h) (YieldsG.pure (by rfl) (fun w9 _ => by go_simp; try with_reducible rfl)) ?_
      try simp only [Act.put, List.setIfInBounds_toArray, List.set_cons_zero, List.set_cons_succ]
      refine wpAnyG_take 6 rfl kR (fun _ _ _ h => h) (YieldsG.pure (v := .int .u64 (y1 : Int)) (by rfl) (fun w9 h9 => by have hz := (Below.cell (p := ⟨w.heap.size + 1, 1, none⟩) h9 lY).trans py; go_simp; first | done | simp [hz])) ?_
      try simp only [Act.put, List.setIfInBounds_toArray, List.set_cons_zero, List.set_cons_succ]
      refine wpAnyG_take 7 rfl kR (fun _ _ _ h => h) (YieldsG.pure (by rfl) (fun w9 _ => by go_simp; try with_reducible rfl)) ?_
      try simp only [Act.put, List.setIfInBounds_toArray, List.set_cons_zero, List.set_cons_succ]
      refine wpAnyG_take 8 rfl kR (fun _ _ _ h => h) (YieldsG.pure (v := .tuple #[.int .u64 (s1 : Int), .int .u64 (c1 : Int)]) (by rfl) (fun w9 h9 => by go_simp)) ?_
      try simp only [Act.put, List.setIfInBounds_toArray, List.set_cons_zero, List.set_cons_succ]
      refine wpAnyG_take 9 rfl kR (fun _ _ _ h => h) (YieldsG.pure (by rfl) (fun w9 _ => by go_simp; try with_reducible rfl)) ?_
      try simp only [Act.put, List.setIfInBounds_toArray, List.set_cons_zero, List.set_cons_succ]
      refine wpAnyG_take 10 rfl kR (fun _ _ _ h => h) (YieldsG.pure (by rfl) (fun w9 _ => by go_simp; try with_reducible rfl)) ?_
      try simp only [Act.put, List.setIfInBounds_toArray, List.set_cons_zero, List.set_cons_succ]
      refine wpAnyG_takeA 11 rfl kR (fun _ _ _ h => h) (fun _ => YieldsG.pure (by rfl) (fun w9 _ => by go_simp; try with_reducible rfl)) ?_
      try simp only [Act.put, List.setIfInBounds_toArray, List.set_cons_zero, List.set_cons_succ]
      refine wpAnyG_take 12 rfl kR (fun _ _ _ h => h) (YieldsG.pure (by rfl) (fun w9 _ => by go_simp; try with_reducible rfl)) ?_
      try simp only [Act.put, List.setIfInBounds_toArray, List.set_cons_zero, List.set_cons_succ]
      refine wpAnyG_sole 13 rfl kR (by rfl) (fun u hu K hK => ?_)
      have BX := Gr.blk hu BX
      have BY := Gr.blk hu BY
      have BW := Gr.blk hu BW
      have hb := Below.gr hb hu
      have pc : u.cell? ⟨w.heap.size + 2, 1, none⟩ = some (.int .u64 0) := BW.cell 1
      have pf := BW.frozen 1
      clear hu px py
      go_simp
      refine hK _ _ (fun e => by cases e) ?_
      clear hK K
      have hb := hb.setCell (p := ⟨w.heap.size + 2, 1, none⟩) (by show w.heap.size ≤ w.heap.size + 2; omega) (.int .u64 (s1 : Int))
      have BX := BX.far (p := ⟨w.heap.size + 2, 1, none⟩) (by show w.heap.size ≠ w.heap.size + 2; omega) (.int .u64 (s1 : Int))
      have BY := BY.far (p := ⟨w.heap.size + 2, 1, none⟩) (by show w.heap.size + 1 ≠ w.heap.size + 2; omega) (.int .u64 (s1 : Int))
      have BW := BW.set_ 1 (.int .u64 (s1 : Int))
      refine wpAnyG_takeA 14 rfl kR (fun _ _ _ h => h) (fun _ => YieldsG.pure (by rfl) (fun w9 _ => by go_simp; try with_reducible rfl)) ?_
      try simp only [Act.put, List.setIfInBounds_toArray, List.set_cons_zero, List.set_cons_succ]
      refine wpAnyG_done kR (fun v hv => ?_)
      have hb := Below.gr hb hv
      have BX := Gr.blk hv BX
      have BY := Gr.blk hv BY
      have BW := Gr.blk hv BW
      clear hv pc pf
      go_wp2
      refine ⟨⟨hb, BX, BY, Lib.hid (.inr (.inr (.inl (⟨rfl, rfl, BW⟩))))⟩, by decide⟩
    · clear HI
      have px : wr.cell? ⟨w.heap.size, 2, none⟩ = some (.int .u64 (x2 : Int)) := BX.cell 2
      have py : wr.cell? ⟨w.heap.size + 1, 2, none⟩ = some (.int .u64 (y2 : Int)) := BY.cell 2
      go_wp2
      refine wp_region_G (fun j => j == 13) kR ?_
      try simp only [Act.put]
      refine wpAnyG_take 0 rfl kR (fun _ _ _ h => h) (YieldsG.pure (by rfl) (fun w9 _ => by go_simp; try with_reducible rfl)) ?_
      try simp only [Act.put, List.setIfInBounds_toArray, List.set_cons_zero, List.set_cons_succ]
      refine wpAnyG_take 1 rfl kR (fun _ _ _ h => h) (YieldsG.pure (by rfl) (fun w9 _ => by go_simp; try with_reducible rfl)) ?_
      try simp only [Act.put, List.setIfInBounds_toArray, List.set_cons_zero, List.set_cons_succ]
      refine wpAnyG_take 2 rfl kR (fun _ _ _ h => h) (YieldsG.pure (by rfl) (fun w9 _ => by go_simp; try with_reducible rfl)) ?_
      try simp only [Act.put, List.setIfInBounds_toArray, List.set_cons_zero, List.set_cons_succ]
      refine wpAnyG_take 3 rfl kR (fun _ _ _ h => h) (YieldsG.pure (v := .int .u64 (x2 : Int)) (by rfl) (fun w9 h9 => by have hz := (Below.cell (p := ⟨w.heap.size, 2, none⟩) h9 lX).trans px; go_simp; first | done | simp [hz])) ?_
      try simp only [Act.put, List.setIfInBounds_toArray, List.set_cons_zero, List.set_cons_succ]
      refine wpAnyG_take 4 rfl kR (fun _ _ _ h => h) (YieldsG.pure (by rfl) (fun w9 _ => by go_simp; try with_reducible rfl)) ?_
      try simp only [Act.put, List.setIfInBounds_toArray, List.set_cons_zero, List.set_cons_succ]
      refine wpAnyG_take 5 rfl kR (fun _ _ _ h => h) (YieldsG.pure (by rfl) (fun w9 _ => by go_simp; try with_reducible rfl)) ?_
      try simp only [Act.put, List.setIfInBounds_toArray, List.set_cons_zero, List.set_cons_succ]
      refine wpAnyG_take 6 rfl kR (fun _ _ _ h => h) (YieldsG.pure (v := .int .u64 (y2 : Int)) (by rfl) (fun w9 h9 => by have hz := (Below.cell (p := ⟨w.heap.size + 1, 2, none⟩) h9 lY).trans py; go_simp; first | done | simp [hz])) ?_
      try simp only [Act.put, List.setIfInBounds_toArray, List.set_cons_zero, List.set_cons_succ]
      refine wpAnyG_take 7 rfl kR (fun _ _ _ h => h) (YieldsG.pure (by rfl) (fun w9 _ => by go_simp; try with_reducible rfl)) ?_
      try simp only [Act.put, List.setIfInBounds_toArray, List.set_cons_zero, List.set_cons_succ]
      refine wpAnyG_take 8 rfl kR (fun _ _ _ h => h) (YieldsG.pure (v := .tuple #[.int .u64 (s2 : Int), .int .u64 (c2 : Int)]) (by rfl) (fun w9 h9 => by go_simp)) ?_
      try simp only [Act.put, List.setIfInBounds_toArray, List.set_cons_zero, List.set_cons_succ]
      refine wpAnyG_take 9 rfl kR (fun _ _ _ h => h) (YieldsG.pure (by rfl) (fun w9 _ => by go_simp; try with_reducible rfl)) ?_
      try simp only [Act.put, List.setIfInBounds_toArray, List.set_cons_zero, List.set_cons_succ]
      refine wpAnyG_take 10 rfl kR (fun _ _ _ h => h) (YieldsG.pure (by rfl) (fun w9 _ => by go_simp; try with_reducible rfl)) ?_
      try simp only [Act.put, List.setIfInBounds_toArray, List.set_cons_zero, List.set_cons_succ]
      refine wpAnyG_takeA 11 rfl kR (fun _ _ _ h => h) (fun _ => YieldsG.pure (by rfl) (fun w9 _ => by go_simp; try with_reducible rfl)) ?_
      try simp only [Act.put, List.setIfInBounds_toArray, List.set_cons_zero, List.set_cons_succ]
      refine wpAnyG_take 12 rfl kR (fun _ _ _ h => h) (YieldsG.pure (by rfl) (fun w9 _ => by go_simp; try with_reducible rfl)) ?_
      try simp only [Act.put, List.setIfInBounds_toArray, List.set_cons_zero, List.set_cons_succ]
      refine wpAnyG_sole 13 rfl kR (by rfl) (fun u hu K hK => ?_)
      have BX := Gr.blk hu BX
      have BY := Gr.blk hu BY
      have BW := Gr.blk hu BW
      have hb := Below.gr hb hu
      have pc : u.cell? ⟨w.heap.size + 2, 2, none⟩ = some (.int .u64 0) := BW.cell 2
      have pf := BW.frozen 2
      clear hu px py
      go_simp
      refine hK _ _ (fun e => by cases e) ?_
      clear hK K
      have hb := hb.setCell (p := ⟨w.heap.size + 2, 2, none⟩) (by show w.heap.size ≤ w.heap.size + 2; omega) (.int .u64 (s2 : Int))
      have BX := BX.far (p := ⟨w.heap.size + 2, 2, none⟩) (by show w.heap.size ≠ w.heap.size + 2; omega) (.int .u64 (s2 : Int))
      have BY := BY.far (p := ⟨w.heap.size + 2, 2, none⟩) (by show w.heap.size + 1 ≠ w.heap.size + 2; omega) (.int .u64 (s2 : Int))
      have BW := BW.set_ 2 (.int .u64 (s2 : Int))
      refine wpAnyG_takeA 14 rfl kR (fun _ _ _ h => h) (fun _ => YieldsG.pure (by rfl) (fun w9 _ => by go_simp; try with_reducible rfl)) ?_
      try simp only [Act.put, List.setIfInBounds_toArray, List.set_cons_zero, List.set_cons_succ]
      refine wpAnyG_done kR (fun v hv => ?_)
      have hb := Below.gr hb hv
      have BX := Gr.blk hv BX
      have BY := Gr.blk hv BY
      have BW := Gr.blk hv BW
      clear hv pc pf
      go_wp2
      refine ⟨⟨hb, BX, BY, Lib.hid (.inr (.inr (.inr (.inl (⟨rfl, rfl, BW⟩)))))⟩, by decide⟩
    · clear HI
      have px : wr.cell? ⟨w.heap.size, 3, none⟩ = some (.int .u64 (x3 : Int)) := BX.cell 3
      have py : wr.cell? ⟨w.heap.size + 1, 3, none⟩ = some (.int .u64 (y3 : Int)) := BY.cell 3
      go_wp2
      refine wp_region_G (fun j => j == 13) kR ?_
      try simp only [Act.put]
      refine wpAnyG_take 0 rfl kR (fun _ _ _ h => h) (YieldsG.pure (by rfl) (fun w9 _ => by go_simp; try with_reducible rfl)) ?_
      try simp only [Act.put, List.setIfInBounds_toArray, List.set_cons_zero, List.set_cons_succ]
      refine wpAnyG_take 1 rfl kR (fun _ _ _ h => h) (YieldsG.pure (by rfl) (fun w9 _ => by go_simp; try with_reducible rfl)) ?_
      try simp only [Act.put, List.setIfInBounds_toArray, List.set_cons_zero, List.set_cons_succ]
      refine wpAnyG_take 2 rfl kR (fun _ _ _ h => h) (YieldsG.pure (by rfl) (fun w9 _ => by go_simp; try with_reducible rfl)) ?_
      try simp only [Act.put, List.setIfInBounds_toArray, List.set_cons_zero, List.set_cons_succ]
      refine wpAnyG_take 3 rfl kR (fun _ _ _ h => h) (YieldsG.pure (v := .int .u64 (x3 : Int)) (by rfl) (fun w9 h9 => by have hz := (Below.cell (p := ⟨w.heap.size, 3, none⟩) h9 lX).trans px; go_simp; first | done | simp [hz])) ?_
      try simp only [Act.put, List.setIfInBounds_toArray, List.set_cons_zero, List.set_cons_succ]
      refine wpAnyG_take 4 rfl kR (fun _ _ _ h => h) (YieldsG.pure (by rfl) (fun w9 _ => by go_simp; try with_reducible rfl)) ?_
      try simp only [Act.put, List.setIfInBounds_toArray, List.set_cons_zero, List.set_cons_succ]
      refine wpAnyG_take 5 rfl kR (fun _ _ _ h => h) (YieldsG.pure (by rfl) (fun w9 _ => by go_simp; try with_reducible rfl)) ?_
      try simp only [Act.put, List.setIfInBounds_toArray, List.set_cons_zero, List.set_cons_succ]
      refine wpAnyG_take 6 rfl kR (fun _ _ _ h => h) (YieldsG.pure (v := .int .u64 (y3 : Int)) (by rfl) (fun w9 h9 => by have hz := (Below.cell (p := ⟨w.heap.size + 1, 3, none⟩) h9 lY).trans py; go_simp; first | done | simp [hz])) ?_
      try simp only [Act.put, List.setIfInBounds_toArray, List.set_cons_zero, List.set_cons_succ]
      refine wpAnyG_take 7 rfl kR (fun _ _ _ h => h) (YieldsG.pure (by rfl) (fun w9 _ => by go_simp; try with_reducible rfl)) ?_
      try simp only [Act.put, List.setIfInBounds_toArray, List.set_cons_zero, List.set_cons_succ]
      refine wpAnyG_take 8 rfl kR (fun _ _ _ h => h) (YieldsG.pure (v := .tuple #[.int .u64 (s3 : Int), .int .u64 (c3 : Int)]) (by rfl) (fun w9 h9 => by go_simp)) ?_
      try simp only [Act.put, List.setIfInBounds_toArray, List.set_cons_zero, List.set_cons_succ]
      refine wpAnyG_take 9 rfl kR (fun _ _ _ h => h) (YieldsG.pure (by rfl) (fun w9 _ => by go_simp; try with_reducible rfl)) ?_
      try simp only [Act.put, List.setIfInBounds_toArray, List.set_cons_zero, List.set_cons_succ]
      refine wpAnyG_take 10 rfl kR (fun _ _ _ h => h) (YieldsG.pure (by rfl) (fun w9 _ => by go_simp; try with_reducible rfl)) ?_
      try simp only [Act.put, List.setIfInBounds_toArray, List.set_cons_zero, List.set_cons_succ]
      refine wpAnyG_takeA 11 rfl kR (fun _ _ _ h => h) (fun _ => YieldsG.pure (by rfl) (fun w9 _ => by go_simp; try with_reducible rfl)) ?_
      try simp only [Act.put, List.setIfInBounds_toArray, List.set_cons_zero, List.set_cons_succ]
      refine wpAnyG_take 12 rfl kR (fun _ _ _ h => h) (YieldsG.pure (by rfl) (fun w9 _ => by go_simp; try with_reducible rfl)) ?_
      try simp only [Act.put, List.setIfInBounds_toArray, List.set_cons_zero, List.set_cons_succ]
      refine wpAnyG_sole 13 rfl kR (by rfl) (fun u hu K hK => ?_)
      have BX := Gr.blk hu BX
      have BY := Gr.blk hu BY
      have BW := Gr.blk hu BW
      have hb := Below.gr hb hu
      have pc : u.cell? ⟨w.heap.size + 2, 3, none⟩ = some (.int .u64 0) := BW.cell 3
      have pf := BW.frozen 3
      clear hu px py
      go_simp
      refine hK _ _ (fun e => by cases e) ?_
      clear hK K
      have hb := hb.setCell (p := ⟨w.heap.size + 2, 3, none⟩) (by show w.heap.size ≤ w.heap.size + 2; omega) (.int .u64 (s3 : Int))
      have BX := BX.far (p := ⟨w.heap.size + 2, 3, none⟩) (by show w.heap.size ≠ w.heap.size + 2; omega) (.int .u64 (s3 : Int))
      have BY := BY.far (p := ⟨w.heap.size + 2, 3, none⟩) (by show w.heap.size + 1 ≠ w.heap.size + 2; omega) (.int .u64 (s3 : Int))
      have BW := BW.set_ 3 (.int .u64 (s3 : Int))
      refine wpAnyG_takeA 14 rfl kR (fun _ _ _ h => h) (fun _ => YieldsG.pure (by rfl) (fun w9 _ => by go_simp; try with_reducible rfl)) ?_
      try simp only [Act.put, List.setIfInBounds_toArray, List.set_cons_zero, List.set_cons_succ]
      refine wpAnyG_done kR (fun v hv => ?_)
      have hb := Below.gr hb hv
      have BX := Gr.blk hv BX
      have BY := Gr.blk hv BY
      have BW := Gr.blk hv BW
      clear hv pc pf
      go_wp2
      refine ⟨⟨hb, BX, BY, Lib.hid (.inr (.inr (.inr (.inr (⟨rfl, rfl, BW⟩)))))⟩, by decide⟩
    · clear HI
      obtain ⟨s, hsd⟩ : ∃ s, s = s0 + 18446744073709551616 * s1 + 340282366920938463463374607431768211456 * s2 + 6277101735386680763835789423207666416102355444464034512896 * s3 := ⟨_, rfl⟩
      have hf := hs.out
      have hl := hlt.out
      have hn := HF.out
      rw [← hsd] at hf hl hn
      have BS := BW.eq_ (fcs_words hf.symm).symm
      have HS := Lib.hid (And.intro hl hn)
      clear hf hl hn hsd
      go_wp2_with (first | ((with_reducible refine here_load (d := some 24) ?_); refine wpList_load_fv rfl _ _ rfl (w.heap.size + 2) rfl (s) _ _ _ (BS) (fv_fcs s) Tryd.underlying24 rfl kR ?_) | ((with_reducible refine here_store ?_); refine wpList_store_blk rfl _ _ _ rfl (w.heap.size + 2) (fcs (s)) rfl rfl _ _ (BS) kR (by rfl) (fcs_one _) ?_; intro w9 hL9 hB9 hK9))
      exact bodyPost_ret (res_cell_tmp rfl _ _ (w.heap.size + 2) _ _ _ _ rfl hL9 rfl Tryd.underlying24 rfl kR) rfl ⟨⟨s, c3, HS.out.1, HK.out, HS.out.2, rfl⟩, hb.trans (hB9 _ (by omega))⟩

end Go.Proofs.YtbofhoonlmikcaaDoor.Sc

end
section
namespace Go.Proofs.YtbofhoonlmikcaaDoor.Sc
open Go.RowKit Go.Lib
set_option maxRecDepth 100000

theorem plus_fv (w : World) (x y s k : Nat) (hx : x < 115792089237316195423570985008687907853269984665640564039457584007913129639936) (hy : y < 115792089237316195423570985008687907853269984665640564039457584007913129639936) (hs : s < 115792089237316195423570985008687907853269984665640564039457584007913129639936) (he : s + 115792089237316195423570985008687907853269984665640564039457584007913129639936 * k = x + y) :
    Calls Tryd.prog 38 #[fv x, fv y] w fun e w' => e = .returned (.tuple #[fv s, .int .u64 (k : Int)]) ∧ Below w.heap.size w w' := by
  refine (plus_any w x y hx hy).mono ?_
  rintro e w' ⟨⟨s', k', hs', hk', he', rfl⟩, hb⟩
  obtain rfl : k' = k := by omega
  obtain rfl : s' = s := by omega
  exact ⟨rfl, hb⟩
set_option maxHeartbeats 1000000 in
theorem addF_any (w : World) (x y : Nat) (hx : x < 115792089237316195423570985008687907853269984665640564039457584007913129639936) (hy : y < 115792089237316195423570985008687907853269984665640564039457584007913129639936) : Calls Tryd.prog 19 #[fv x, fv y] w fun e w' => e = .returned (fv (addP x y)) ∧ Below w.heap.size w w' := by
  obtain ⟨p, hp⟩ : ∃ p, p = x % pM := ⟨_, rfl⟩
  obtain ⟨q, hq⟩ : ∃ q, q = y % pM := ⟨_, rfl⟩
  obtain ⟨z, hz⟩ : ∃ z, z = addP x y := ⟨_, rfl⟩
  have lp : p < 115792089237316195423570985008687907852837564279074904382605163141518161494337 := by rw [hp]; exact mod_lt_p x
  have lq : q < 115792089237316195423570985008687907852837564279074904382605163141518161494337 := by rw [hq]; exact mod_lt_p y
  have hzs : z = (p + q) % pM := by rw [hz, addP, hp, hq, ← Nat.add_mod]
  obtain ⟨s, k, hs, hk, he⟩ : ∃ s k : Nat, s < 115792089237316195423570985008687907853269984665640564039457584007913129639936 ∧ k ≤ 1 ∧ s + 115792089237316195423570985008687907853269984665640564039457584007913129639936 * k = p + q := ⟨(p + q) % 115792089237316195423570985008687907853269984665640564039457584007913129639936, (p + q) / 115792089237316195423570985008687907853269984665640564039457584007913129639936, by omega, by omega, by omega⟩
  have cx : ∀ w, Calls Tryd.prog 36 #[fv x] w fun e w' => e = .returned (fv p) ∧ Below w.heap.size w w' := by
    intro w; rw [hp]; exact norm_any w x hx
  have cy : ∀ w, Calls Tryd.prog 36 #[fv y] w fun e w' => e = .returned (fv q) ∧ Below w.heap.size w w' := by
    intro w; rw [hq]; exact norm_any w y hy
  have cp := fun w => plus_fv w p q s k (by omega) (by omega) hs he
  have cr := fun w => reduce_at w s k z k rfl hs hk (by omega) (by rw [hzs, ← he])
  rw [← hz]
  obtain ⟨x0, x1, x2, x3, fx⟩ := words_fv x hx
  obtain ⟨y0, y1, y2, y3, fy⟩ := words_fv y hy
  have FX := Lib.hid fx
  have FY := Lib.hid fy
  rw [fx, fy]
  clear fx fy hx hy hp hq hz lp lq hzs hs hk he
  go_enter Tryd.func19, Tryd.ntmps19
  go_wp2
  refine wp_region_G (fun j => j == 8) kR ?_
  try simp only [Act.put]
  refine wpAnyG_take 0 rfl kR (fun _ _ _ h => h) (YieldsG.loadF (by rfl) _ _ rfl (w.heap.size) rfl (x) _ _ (((Blk.new w _ _).alloc _).alloc _) (FX.out) Tryd.underlying24 rfl kR) ?_
  try simp only [Act.put, List.setIfInBounds_toArray, List.set_cons_zero, List.set_cons_succ]
  refine wpAnyG_take 1 rfl kR (fun _ _ _ h => h) (YieldsG.call (v := fv p) (by rfl) 36 _ (fun w9 => by go_simp; try (first | with_reducible rfl | rfl)) (fun w9 h9 => cx w9)) ?_
  try simp only [Act.put, List.setIfInBounds_toArray, List.set_cons_zero, List.set_cons_succ]
  refine wpAnyG_take 2 rfl kR (fun _ _ _ h => h) (YieldsG.loadF (by rfl) _ _ rfl (w.heap.size + 1) rfl (y) _ _ ((blk_new2 w _ _ _).alloc _) (FY.out) Tryd.underlying24 rfl kR) ?_
  try simp only [Act.put, List.setIfInBounds_toArray, List.set_cons_zero, List.set_cons_succ]
  refine wpAnyG_take 3 rfl kR (fun _ _ _ h => h) (YieldsG.call (v := fv q) (by rfl) 36 _ (fun w9 => by go_simp; try (first | with_reducible rfl | rfl)) (fun w9 h9 => cy w9)) ?_
  try simp only [Act.put, List.setIfInBounds_toArray, List.set_cons_zero, List.set_cons_succ]
  refine wpAnyG_take 4 rfl kR (fun _ _ _ h => h) (YieldsG.call (v := .tuple #[fv s, .int .u64 (k : Int)]) (by rfl) 38 _ (fun w9 => by go_simp; try (first | with_reducible rfl | rfl)) (fun w9 h9 => cp w9)) ?_
  try simp only [Act.put, List.setIfInBounds_toArray, List.set_cons_zero, List.set_cons_succ]
  refine wpAnyG_take 5 rfl kR (fun _ _ _ h => h) (YieldsG.pure (by rfl) (fun w9 _ => by go_simp; try with_reducible rfl)) ?_
  try simp only [Act.put, List.setIfInBounds_toArray, List.set_cons_zero, List.set_cons_succ]
  refine wpAnyG_take 6 rfl kR (fun _ _ _ h => h) (YieldsG.pure (by rfl) (fun w9 _ => by go_simp; try with_reducible rfl)) ?_
  try simp only [Act.put, List.setIfInBounds_toArray, List.set_cons_zero, List.set_cons_succ]
  refine wpAnyG_take 7 rfl kR (fun _ _ _ h => h) (YieldsG.call (v := fv z) (by rfl) 37 _ (fun w9 => by go_simp; try (first | with_reducible rfl | rfl)) (fun w9 h9 => cr w9)) ?_
  try simp only [Act.put, List.setIfInBounds_toArray, List.set_cons_zero, List.set_cons_succ]
  refine wpAnyG_store 8 rfl kR (by rfl) _ _ _ rfl (w.heap.size + 2) (fcs (z)) rfl rfl _ _ (blk_new3 w _ _ _ _) kR (by rfl) (fcs_one _) rfl (fun w6 h6 w7 hB7 hL7 => ?_)
  try simp only [Act.put]
  refine wpAnyG_done kR (fun w8 h8 => ?_)
  have hfin := Gr.blk h8 hL7
  have hb9 := (Below.gr (below_alloc3 w _ _ _) h6).trans ((hB7 _ (by omega)).trans (Below.mono h8 (by have := hL7.lt; omega)))
  go_wp2
  exact bodyPost_ret (results_cell_row rfl _ _ (w.heap.size + 2) _ _ (0, 0) _ rfl hfin Tryd.underlying24 rfl kR) rfl ⟨rfl, hb9⟩
set_option maxHeartbeats 1000000 in
theorem negF_any (w : World) (x : Nat) (hx : x < 115792089237316195423570985008687907853269984665640564039457584007913129639936) : Calls Tryd.prog 17 #[fv x] w fun e w' => e = .returned (fv (negP x)) ∧ Below w.heap.size w w' := by
  obtain ⟨o, ho⟩ : ∃ o, o = 115792089237316195423570985008687907852837564279074904382605163141518161494337 := ⟨_, rfl⟩
  obtain ⟨p, hp⟩ : ∃ p, p = x % pM := ⟨_, rfl⟩
  obtain ⟨z, hz⟩ : ∃ z, z = negP x := ⟨_, rfl⟩
  have lp : p < 115792089237316195423570985008687907852837564279074904382605163141518161494337 := by rw [hp]; exact mod_lt_p x
  obtain ⟨s, hs⟩ : ∃ s, s = o - p := ⟨_, rfl⟩
  have hzs : z = s % pM := by rw [hz, negP, hs, ho, hp]; rfl
  have co := fun w => order_at w o ho
  have cx : ∀ w, Calls Tryd.prog 36 #[fv x] w fun e w' => e = .returned (fv p) ∧ Below w.heap.size w w' := by
    intro w; rw [hp]; exact norm_any w x hx
  have cm := fun w => minus_fv w o p s 0 (by omega) (by omega) (by omega) (by omega)
  have cz : ∀ w, Calls Tryd.prog 36 #[fv s] w fun e w' => e = .returned (fv z) ∧ Below w.heap.size w w' := by
    intro w; rw [hzs]; exact norm_any w s (by omega)
  obtain ⟨x0, x1, x2, x3, fx⟩ := words_fv x hx
  have FX := Lib.hid fx
  rw [fx, ← hz]
  clear fx hx ho hp hz lp hs hzs
  go_enter Tryd.func17, Tryd.ntmps17
  go_wp2
  refine wp_region_G (fun j => j == 8) kR ?_
  try simp only [Act.put]
  refine wpAnyG_take 0 rfl kR (fun _ _ _ h => h) (YieldsG.call (v := fv o) (by rfl) 35 _ (fun w9 => by go_simp; try (first | with_reducible rfl | rfl)) (fun w9 h9 => co w9)) ?_
  try simp only [Act.put, List.setIfInBounds_toArray, List.set_cons_zero, List.set_cons_succ]
  refine wpAnyG_take 1 rfl kR (fun _ _ _ h => h) (YieldsG.loadF (by rfl) _ _ rfl (w.heap.size) rfl (x) _ _ ((Blk.new w _ _).alloc _) (FX.out) Tryd.underlying24 rfl kR) ?_
  try simp only [Act.put, List.setIfInBounds_toArray, List.set_cons_zero, List.set_cons_succ]
  refine wpAnyG_take 2 rfl kR (fun _ _ _ h => h) (YieldsG.call (v := fv p) (by rfl) 36 _ (fun w9 => by go_simp; try (first | with_reducible rfl | rfl)) (fun w9 h9 => cx w9)) ?_
  try simp only [Act.put, List.setIfInBounds_toArray, List.set_cons_zero, List.set_cons_succ]
  refine wpAnyG_take 3 rfl kR (fun _ _ _ h => h) (YieldsG.call (v := .tuple #[fv s, .int .u64 ((0 : Nat) : Int)]) (by rfl) 34 _ (fun w9 => by go_simp; try (first | with_reducible rfl | rfl)) (fun w9 h9 => cm w9)) ?_
  try simp only [Act.put, List.setIfInBounds_toArray, List.set_cons_zero, List.set_cons_succ]
  refine wpAnyG_take 4 rfl kR (fun _ _ _ h => h) (YieldsG.pure (by rfl) (fun w9 _ => by go_simp; try with_reducible rfl)) ?_
  try simp only [Act.put, List.setIfInBounds_toArray, List.set_cons_zero, List.set_cons_succ]
  refine wpAnyG_take 5 rfl kR (fun _ _ _ h => h) (YieldsG.pure (by rfl) (fun w9 _ => by go_simp; try with_reducible rfl)) ?_
  try simp only [Act.put, List.setIfInBounds_toArray, List.set_cons_zero, List.set_cons_succ]
  refine wpAnyG_takeA 6 rfl kR (fun _ _ _ h => h) (fun _ => YieldsG.pure (by rfl) (fun w9 _ => by go_simp; try with_reducible rfl)) ?_
  try simp only [Act.put, List.setIfInBounds_toArray, List.set_cons_zero, List.set_cons_succ]
  refine wpAnyG_sole 7 rfl kR (by rfl) (fun w3 h3 K hK => ?_)
  go_simp
  refine hK _ _ (fun _ => gr_alloc _ _) ?_
  clear hK K
  try simp only [Act.put, List.setIfInBounds_toArray, List.set_cons_zero, List.set_cons_succ]
  refine wpAnyG_store 8 rfl kR (by rfl) _ _ _ rfl (w3.heap.size) (fcs (s)) rfl rfl _ _ (Blk.new w3 _ _) kR (by rfl) (fcs_one _) rfl (fun w6 h6 w7 hB7 hL7 => ?_)
  try simp only [Act.put]
  refine wpAnyG_takeA 9 rfl kR (fun _ _ _ h => h) (fun _ => YieldsG.pure (by rfl) (fun w9 _ => by go_simp; try with_reducible rfl)) ?_
  try simp only [Act.put, List.setIfInBounds_toArray, List.set_cons_zero, List.set_cons_succ]
  refine wpAnyG_done kR (fun w8 h8 => ?_)
  have BS := Gr.blk h8 hL7
  have hsz : w.heap.size + 2 ≤ w3.heap.size := by have := h3.size; simp at this; omega
  have BR : Blk w8 (w.heap.size + 1) 24 _ := Gr.blk h8 (Blk.below (B := w3.heap.size) (Gr.blk h6 (Blk.alloc (Gr.blk h3 (blk_new2 w _ _ _)) _)) (hB7 _ (Nat.le_refl _)) (by omega))
  have hB : Below w.heap.size w w8 := Below.gr ((Below.gr ((Below.gr (below_alloc2 w _ _) h3).alloc (by omega) _) h6).trans (hB7 _ (by omega))) h8
  clear h3 h6 hB7 hL7 h8 cm co cx
  go_wp2_with (first | ((with_reducible refine here_load (d := some 12) ?_); refine wpList_load_fv rfl _ _ rfl (w3.heap.size) rfl (s) _ _ _ (BS) (fv_fcs s) Tryd.underlying24 rfl kR ?_))
  refine (cz _).mono ?_
  rintro e w9 ⟨rfl, hb⟩
  have BR9 := Gr.blk hb BR
  have hB9 := Below.gr hB hb
  go_wp2_with (first | ((with_reducible refine here_store ?_); refine wpList_store_blk rfl _ _ _ rfl (w.heap.size + 1) (fcs (z)) rfl rfl _ _ (BR9) kR (by rfl) (fcs_one _) ?_; intro wz hL hBz hKz))
  exact bodyPost_ret (results_cell_row rfl _ _ (w.heap.size + 1) _ _ (0, 0) _ rfl hL Tryd.underlying24 rfl kR) rfl ⟨rfl, hB9.trans (hBz _ (by omega))⟩
end Go.Proofs.YtbofhoonlmikcaaDoor.Sc

end
section
namespace Go.Proofs.YtbofhoonlmikcaaDoor.Cu
open Go.RowKit Go.Proofs.YtbofhoonlmikcaaDoor Go.Proofs.YtbofhoonlmikcaaDoor.Sy

end Go.Proofs.YtbofhoonlmikcaaDoor.Cu

end
section
namespace Go.Proofs.YtbofhoonlmikcaaDoor.Cu
open Go.RowKit Go.Proofs.YtbofhoonlmikcaaDoor Go.Proofs.YtbofhoonlmikcaaDoor.Sy

theorem setAll_all : ∀ (vs : List Value) (o : Nat) (cs : Array Value), o + vs.length = cs.size → setAll cs o vs = (cs.toList.take o ++ vs).toArray
  | [], o, cs, h => by
    rw [List.append_nil, List.take_of_length_le (by simp at h ⊢; omega)]
    simp [setAll]
  | v :: r, o, cs, h => by
    have hlt : o < cs.size := by simp at h; omega
    rw [setAll, setAll_all r (o + 1) _ (by simp at h ⊢; omega)]
    congr 1
    rw [Array.toList_setIfInBounds, List.take_set, List.take_succ_eq_append_getElem (by simpa using hlt), List.set_append_right _ _ (by rw [List.length_take]; exact Nat.min_le_left _ _)]
    have : (cs.toList.take o).length = o := by simp; omega
    simp [this]
theorem key_set (cs : Array Value) (l : List UInt8) (h : l.length = cs.size) : setAll cs 0 (l.map bv).toArray.toList = (l.map bv).toArray := by
  have := setAll_all (l.map bv) 0 cs (by simp; omega)
  simpa using this
theorem key_sz (l : List UInt8) {n : Nat} (h : l.length = n) : (l.map bv).toArray.size = n := by simp; omega
theorem key_one (l : List UInt8) : (l.map bv).toArray.all (·.oneCell') = true := by simp [bv, Value.oneCell']
end Go.Proofs.YtbofhoonlmikcaaDoor.Cu

end
section
namespace Go.Proofs.YtbofhoonlmikcaaDoor.Cu
open Go.RowKit Go.Proofs.YtbofhoonlmikcaaDoor Go.Proofs.YtbofhoonlmikcaaDoor.Sy
set_option maxRecDepth 100000
set_option maxHeartbeats 4000000

/-- the point of a number -/
def evP (k : Nat) : Pt := Ec.nm finv (k % Sc.pM) bP
theorem evP_on (k : Nat) : Ec.On (evP k) := bP_on.nm fld _
/-- the bytes of a point's X -/
def evX : Pt → List UInt8
  | none => List.replicate 32 0
  | some (x, _) => bytesS x.val
theorem evX_length : ∀ P : Pt, (evX P).length = 32
  | none => rfl
  | some (x, _) => bytesS_length _
/-- the number, or its contrary, whose point is even -/
def evD (k : Nat) : Nat := match evP k with
  | none => 0
  | some (_, y) => if y.val % 2 = 1 then Sc.negP k else k
theorem base_mul (w : World) (k : Nat) (hk : k < K4) : Calls Tryd.prog 15 #[fv k, pv gx.val gy.val false] w (Gets w (ptv (evP k))) := by
  have h := mul_any w k gx.val gy.val false hk (lt4 _) (lt4 _)
  rw [show dec gx.val gy.val false = bP from dec_fin gx gy bP_on] at h
  exact h
theorem enc_pt (w : World) (u v : Fp) (h : v * v = u * u * u + 7) : Calls Tryd.prog 14 #[pv u.val v.val false] w (Gets w (.agg ((encS (some (u, v))).map bv).toArray)) := by
  have q := enc_any w u.val v.val false (lt4 _) (lt4 _)
  rw [dec_fin u v h] at q
  exact q
theorem even_none (w : World) (k : Nat) (hk : k < K4) (h : evP k = none) : Calls Tryd.prog 8 #[fv k] w (Gets w (.tuple #[fv 0, .agg ((evX none).map bv).toArray, .bool false])) := by
  have cM : ∀ w, Calls Tryd.prog 15 #[fv k, pv gx.val gy.val false] w (Gets w (pv 0 0 true)) := fun w => by have q := base_mul w k hk; rw [h] at q; exact q
  have cE : ∀ w, Calls Tryd.prog 14 #[pv 0 0 true] w (Gets w (.agg (.int .u8 0 :: .int .u8 0 :: .int .u8 0 :: [.int .u8 0, .int .u8 0, .int .u8 0, .int .u8 0, .int .u8 0, .int .u8 0, .int .u8 0, .int .u8 0, .int .u8 0, .int .u8 0, .int .u8 0, .int .u8 0, .int .u8 0, .int .u8 0, .int .u8 0, .int .u8 0, .int .u8 0, .int .u8 0, .int .u8 0, .int .u8 0, .int .u8 0, .int .u8 0, .int .u8 0, .int .u8 0, .int .u8 0, .int .u8 0, .int .u8 0, .int .u8 0, .int .u8 0, .int .u8 0]).toArray)) := fun w => by have q := enc_any w 0 0 true (by decide) (by decide); rw [dec_zero] at q; exact q
  refine Sy.enter (args := [fv k]) Tryd.func8 rfl kL ?_
  refine sC ?_
  refine sM 24 (fcs k) (fun g0 => ?_)
  refine sM 24 (fcs 0) (fun g1 => ?_)
  refine sM 31 (.int .u8 0 :: .int .u8 0 :: [.int .u8 0, .int .u8 0, .int .u8 0, .int .u8 0, .int .u8 0, .int .u8 0, .int .u8 0, .int .u8 0, .int .u8 0, .int .u8 0, .int .u8 0, .int .u8 0, .int .u8 0, .int .u8 0, .int .u8 0, .int .u8 0, .int .u8 0, .int .u8 0, .int .u8 0, .int .u8 0, .int .u8 0, .int .u8 0, .int .u8 0, .int .u8 0, .int .u8 0, .int .u8 0, .int .u8 0, .int .u8 0, .int .u8 0, .int .u8 0]).toArray (fun g2 => ?_)
  refine sP (.bool false) ?_
  refine sH (fun j => j == 5) ?_
  refine sD 0 rfl (fv k) (qL 0 g0 0 4 24 24 (fcs k) rfl Tryd.underlying24) <| sD 1 rfl (pv gx.val gy.val false) (qF 16 #[] (base_c)) <| sD 2 rfl (pv 0 0 true) (qF 15 #[fv k, pv gx.val gy.val false] (cM)) <| sD 3 rfl (.agg ((.int .u8 0 :: .int .u8 0 :: .int .u8 0 :: [.int .u8 0, .int .u8 0, .int .u8 0, .int .u8 0, .int .u8 0, .int .u8 0, .int .u8 0, .int .u8 0, .int .u8 0, .int .u8 0, .int .u8 0, .int .u8 0, .int .u8 0, .int .u8 0, .int .u8 0, .int .u8 0, .int .u8 0, .int .u8 0, .int .u8 0, .int .u8 0, .int .u8 0, .int .u8 0, .int .u8 0, .int .u8 0, .int .u8 0, .int .u8 0, .int .u8 0, .int .u8 0, .int .u8 0, .int .u8 0]) : List Value).toArray) (qF 14 #[pv 0 0 true] (cE)) ?_
  refine Sy.makeD 4 rfl kR kR 48 (.int .u8 0 :: .int .u8 0 :: .int .u8 0 :: [.int .u8 0, .int .u8 0, .int .u8 0, .int .u8 0, .int .u8 0, .int .u8 0, .int .u8 0, .int .u8 0, .int .u8 0, .int .u8 0, .int .u8 0, .int .u8 0, .int .u8 0, .int .u8 0, .int .u8 0, .int .u8 0, .int .u8 0, .int .u8 0, .int .u8 0, .int .u8 0, .int .u8 0, .int .u8 0, .int .u8 0, .int .u8 0, .int .u8 0, .int .u8 0, .int .u8 0, .int .u8 0, .int .u8 0, .int .u8 0]).toArray ptr kF (fun g3 => ?_)
  refine Sy.writeD 5 rfl kR (by rfl) kR 3 g3 48 (.int .u8 0 :: .int .u8 0 :: .int .u8 0 :: [.int .u8 0, .int .u8 0, .int .u8 0, .int .u8 0, .int .u8 0, .int .u8 0, .int .u8 0, .int .u8 0, .int .u8 0, .int .u8 0, .int .u8 0, .int .u8 0, .int .u8 0, .int .u8 0, .int .u8 0, .int .u8 0, .int .u8 0, .int .u8 0, .int .u8 0, .int .u8 0, .int .u8 0, .int .u8 0, .int .u8 0, .int .u8 0, .int .u8 0, .int .u8 0, .int .u8 0, .int .u8 0, .int .u8 0, .int .u8 0]).toArray (.int .u8 0 :: .int .u8 0 :: .int .u8 0 :: [.int .u8 0, .int .u8 0, .int .u8 0, .int .u8 0, .int .u8 0, .int .u8 0, .int .u8 0, .int .u8 0, .int .u8 0, .int .u8 0, .int .u8 0, .int .u8 0, .int .u8 0, .int .u8 0, .int .u8 0, .int .u8 0, .int .u8 0, .int .u8 0, .int .u8 0, .int .u8 0, .int .u8 0, .int .u8 0, .int .u8 0, .int .u8 0, .int .u8 0, .int .u8 0, .int .u8 0, .int .u8 0, .int .u8 0, .int .u8 0]).toArray kR (Writes.store 0 48 (.int .u8 0 :: .int .u8 0 :: .int .u8 0 :: [.int .u8 0, .int .u8 0, .int .u8 0, .int .u8 0, .int .u8 0, .int .u8 0, .int .u8 0, .int .u8 0, .int .u8 0, .int .u8 0, .int .u8 0, .int .u8 0, .int .u8 0, .int .u8 0, .int .u8 0, .int .u8 0, .int .u8 0, .int .u8 0, .int .u8 0, .int .u8 0, .int .u8 0, .int .u8 0, .int .u8 0, .int .u8 0, .int .u8 0, .int .u8 0, .int .u8 0, .int .u8 0, .int .u8 0, .int .u8 0]).toArray _ _ rfl kR kR kR kL kR kR) ?_
  refine sI ?_
  refine Sy.seq ?_
  refine sC ?_
  refine sP (.pointer (some ⟨g3, 0, none⟩)) <| sS (.int .u8 0) (Quiet.cell 3 g3 0 48 5 (.int .u8 0 :: .int .u8 0 :: .int .u8 0 :: [.int .u8 0, .int .u8 0, .int .u8 0, .int .u8 0, .int .u8 0, .int .u8 0, .int .u8 0, .int .u8 0, .int .u8 0, .int .u8 0, .int .u8 0, .int .u8 0, .int .u8 0, .int .u8 0, .int .u8 0, .int .u8 0, .int .u8 0, .int .u8 0, .int .u8 0, .int .u8 0, .int .u8 0, .int .u8 0, .int .u8 0, .int .u8 0, .int .u8 0, .int .u8 0, .int .u8 0, .int .u8 0, .int .u8 0, .int .u8 0]).toArray _ _ rfl kR kR Tryd.underlying5 rfl _ kR) ?_
  refine sG ?_
  refine Sy.block ?_
  refine sC ?_
  refine sP (.bool true) <| sP (.bool true) ?_
  refine sG ?_
  refine sT ?_
  refine sC ?_
  refine sP (fv 0) <| sP (.agg ((.int .u8 0 :: .int .u8 0 :: [.int .u8 0, .int .u8 0, .int .u8 0, .int .u8 0, .int .u8 0, .int .u8 0, .int .u8 0, .int .u8 0, .int .u8 0, .int .u8 0, .int .u8 0, .int .u8 0, .int .u8 0, .int .u8 0, .int .u8 0, .int .u8 0, .int .u8 0, .int .u8 0, .int .u8 0, .int .u8 0, .int .u8 0, .int .u8 0, .int .u8 0, .int .u8 0, .int .u8 0, .int .u8 0, .int .u8 0, .int .u8 0, .int .u8 0, .int .u8 0]) : List Value).toArray) <| sW 1 g1 24 (fcs 0) (fcs 0) (wS 0 24 (fcs 0) rfl) <| sW 2 g2 31 (.int .u8 0 :: .int .u8 0 :: [.int .u8 0, .int .u8 0, .int .u8 0, .int .u8 0, .int .u8 0, .int .u8 0, .int .u8 0, .int .u8 0, .int .u8 0, .int .u8 0, .int .u8 0, .int .u8 0, .int .u8 0, .int .u8 0, .int .u8 0, .int .u8 0, .int .u8 0, .int .u8 0, .int .u8 0, .int .u8 0, .int .u8 0, .int .u8 0, .int .u8 0, .int .u8 0, .int .u8 0, .int .u8 0, .int .u8 0, .int .u8 0, .int .u8 0, .int .u8 0]).toArray (.int .u8 0 :: .int .u8 0 :: [.int .u8 0, .int .u8 0, .int .u8 0, .int .u8 0, .int .u8 0, .int .u8 0, .int .u8 0, .int .u8 0, .int .u8 0, .int .u8 0, .int .u8 0, .int .u8 0, .int .u8 0, .int .u8 0, .int .u8 0, .int .u8 0, .int .u8 0, .int .u8 0, .int .u8 0, .int .u8 0, .int .u8 0, .int .u8 0, .int .u8 0, .int .u8 0, .int .u8 0, .int .u8 0, .int .u8 0, .int .u8 0, .int .u8 0, .int .u8 0]).toArray (wS 0 31 (.int .u8 0 :: .int .u8 0 :: [.int .u8 0, .int .u8 0, .int .u8 0, .int .u8 0, .int .u8 0, .int .u8 0, .int .u8 0, .int .u8 0, .int .u8 0, .int .u8 0, .int .u8 0, .int .u8 0, .int .u8 0, .int .u8 0, .int .u8 0, .int .u8 0, .int .u8 0, .int .u8 0, .int .u8 0, .int .u8 0, .int .u8 0, .int .u8 0, .int .u8 0, .int .u8 0, .int .u8 0, .int .u8 0, .int .u8 0, .int .u8 0, .int .u8 0, .int .u8 0]).toArray rfl) <| sP (.bool false) ?_
  refine sG ?_
  refine Sy.ret ?_
  refine Sy.in_ret ?_
  refine Sy.then_ret ?_
  rw [show (.tuple #[fv 0, .agg ((evX none).map bv).toArray, .bool false] : Value) = .tuple #[fv 0, .agg ((.int .u8 0 :: .int .u8 0 :: [.int .u8 0, .int .u8 0, .int .u8 0, .int .u8 0, .int .u8 0, .int .u8 0, .int .u8 0, .int .u8 0, .int .u8 0, .int .u8 0, .int .u8 0, .int .u8 0, .int .u8 0, .int .u8 0, .int .u8 0, .int .u8 0, .int .u8 0, .int .u8 0, .int .u8 0, .int .u8 0, .int .u8 0, .int .u8 0, .int .u8 0, .int .u8 0, .int .u8 0, .int .u8 0, .int .u8 0, .int .u8 0, .int .u8 0, .int .u8 0]) : List Value).toArray, .bool false] from by kernel_rfl]
  exact Sy.ret3 (v := fv 0) (u := .agg ((.int .u8 0 :: .int .u8 0 :: [.int .u8 0, .int .u8 0, .int .u8 0, .int .u8 0, .int .u8 0, .int .u8 0, .int .u8 0, .int .u8 0, .int .u8 0, .int .u8 0, .int .u8 0, .int .u8 0, .int .u8 0, .int .u8 0, .int .u8 0, .int .u8 0, .int .u8 0, .int .u8 0, .int .u8 0, .int .u8 0, .int .u8 0, .int .u8 0, .int .u8 0, .int .u8 0, .int .u8 0, .int .u8 0, .int .u8 0, .int .u8 0, .int .u8 0, .int .u8 0]) : List Value).toArray) (x := .bool false) rfl (.inl (Res.cell (ty' := 24) g1 1 (fcs 0) _ kR kR Tryd.underlying24 rfl kR kR)) (.inl (Res.cell (ty' := 31) g2 2 (.int .u8 0 :: .int .u8 0 :: [.int .u8 0, .int .u8 0, .int .u8 0, .int .u8 0, .int .u8 0, .int .u8 0, .int .u8 0, .int .u8 0, .int .u8 0, .int .u8 0, .int .u8 0, .int .u8 0, .int .u8 0, .int .u8 0, .int .u8 0, .int .u8 0, .int .u8 0, .int .u8 0, .int .u8 0, .int .u8 0, .int .u8 0, .int .u8 0, .int .u8 0, .int .u8 0, .int .u8 0, .int .u8 0, .int .u8 0, .int .u8 0, .int .u8 0, .int .u8 0]).toArray _ kR kR Tryd.underlying31 rfl kR kR)) (.inl (show _ = _ by kernel_rfl))
theorem even_2 (w : World) (k : Nat) (hk : k < K4) (u v : Fp) (h : evP k = some (u, v)) (ho : v * v = u * u * u + 7) (hv : v.val % 2 = 0) : Calls Tryd.prog 8 #[fv k] w (Gets w (.tuple #[fv k, .agg ((evX (some (u, v))).map bv).toArray, .bool true])) := by
  obtain ⟨a0, a1, a2, a3, a4, a5, a6, a7, a8, a9, a10, a11, a12, a13, a14, a15, a16, a17, a18, a19, a20, a21, a22, a23, a24, a25, a26, a27, a28, a29, a30, a31, hm⟩ := list32 (bytesS u.val) (bytesS_length _)
  have cM : ∀ w, Calls Tryd.prog 15 #[fv k, pv gx.val gy.val false] w (Gets w (pv u.val v.val false)) := fun w => by have q := base_mul w k hk; rw [h] at q; exact q
  have cE : ∀ w, Calls Tryd.prog 14 #[pv u.val v.val false] w (Gets w (.agg ((.int .u8 2 :: bv a0 :: bv a1 :: [bv a2, bv a3, bv a4, bv a5, bv a6, bv a7, bv a8, bv a9, bv a10, bv a11, bv a12, bv a13, bv a14, bv a15, bv a16, bv a17, bv a18, bv a19, bv a20, bv a21, bv a22, bv a23, bv a24, bv a25, bv a26, bv a27, bv a28, bv a29, bv a30, bv a31]) : List Value).toArray)) := fun w => by
    have q := enc_pt w u v ho
    rw [show encS (some (u, v)) = 2 :: bytesS u.val from by show (if v.val % 2 = 1 then (3 : UInt8) else 2) :: bytesS u.val = _; rw [if_neg (by omega)], hm] at q
    exact q
  refine Sy.enter (args := [fv k]) Tryd.func8 rfl kL ?_
  refine sC ?_
  refine sM 24 (fcs k) (fun g0 => ?_)
  refine sM 24 (fcs 0) (fun g1 => ?_)
  refine sM 31 (.int .u8 0 :: .int .u8 0 :: [.int .u8 0, .int .u8 0, .int .u8 0, .int .u8 0, .int .u8 0, .int .u8 0, .int .u8 0, .int .u8 0, .int .u8 0, .int .u8 0, .int .u8 0, .int .u8 0, .int .u8 0, .int .u8 0, .int .u8 0, .int .u8 0, .int .u8 0, .int .u8 0, .int .u8 0, .int .u8 0, .int .u8 0, .int .u8 0, .int .u8 0, .int .u8 0, .int .u8 0, .int .u8 0, .int .u8 0, .int .u8 0, .int .u8 0, .int .u8 0]).toArray (fun g2 => ?_)
  refine sP (.bool false) ?_
  refine sH (fun j => j == 5) ?_
  refine sD 0 rfl (fv k) (qL 0 g0 0 4 24 24 (fcs k) rfl Tryd.underlying24) <| sD 1 rfl (pv gx.val gy.val false) (qF 16 #[] (base_c)) <| sD 2 rfl (pv u.val v.val false) (qF 15 #[fv k, pv gx.val gy.val false] (cM)) <| sD 3 rfl (.agg ((.int .u8 2 :: bv a0 :: bv a1 :: [bv a2, bv a3, bv a4, bv a5, bv a6, bv a7, bv a8, bv a9, bv a10, bv a11, bv a12, bv a13, bv a14, bv a15, bv a16, bv a17, bv a18, bv a19, bv a20, bv a21, bv a22, bv a23, bv a24, bv a25, bv a26, bv a27, bv a28, bv a29, bv a30, bv a31]) : List Value).toArray) (qF 14 #[pv u.val v.val false] (cE)) ?_
  refine Sy.makeD 4 rfl kR kR 48 (.int .u8 0 :: .int .u8 0 :: .int .u8 0 :: [.int .u8 0, .int .u8 0, .int .u8 0, .int .u8 0, .int .u8 0, .int .u8 0, .int .u8 0, .int .u8 0, .int .u8 0, .int .u8 0, .int .u8 0, .int .u8 0, .int .u8 0, .int .u8 0, .int .u8 0, .int .u8 0, .int .u8 0, .int .u8 0, .int .u8 0, .int .u8 0, .int .u8 0, .int .u8 0, .int .u8 0, .int .u8 0, .int .u8 0, .int .u8 0, .int .u8 0, .int .u8 0, .int .u8 0, .int .u8 0]).toArray ptr kF (fun g3 => ?_)
  refine Sy.writeD 5 rfl kR (by rfl) kR 3 g3 48 (.int .u8 0 :: .int .u8 0 :: .int .u8 0 :: [.int .u8 0, .int .u8 0, .int .u8 0, .int .u8 0, .int .u8 0, .int .u8 0, .int .u8 0, .int .u8 0, .int .u8 0, .int .u8 0, .int .u8 0, .int .u8 0, .int .u8 0, .int .u8 0, .int .u8 0, .int .u8 0, .int .u8 0, .int .u8 0, .int .u8 0, .int .u8 0, .int .u8 0, .int .u8 0, .int .u8 0, .int .u8 0, .int .u8 0, .int .u8 0, .int .u8 0, .int .u8 0, .int .u8 0, .int .u8 0]).toArray (.int .u8 2 :: bv a0 :: bv a1 :: [bv a2, bv a3, bv a4, bv a5, bv a6, bv a7, bv a8, bv a9, bv a10, bv a11, bv a12, bv a13, bv a14, bv a15, bv a16, bv a17, bv a18, bv a19, bv a20, bv a21, bv a22, bv a23, bv a24, bv a25, bv a26, bv a27, bv a28, bv a29, bv a30, bv a31]).toArray kR (Writes.store 0 48 (.int .u8 2 :: bv a0 :: bv a1 :: [bv a2, bv a3, bv a4, bv a5, bv a6, bv a7, bv a8, bv a9, bv a10, bv a11, bv a12, bv a13, bv a14, bv a15, bv a16, bv a17, bv a18, bv a19, bv a20, bv a21, bv a22, bv a23, bv a24, bv a25, bv a26, bv a27, bv a28, bv a29, bv a30, bv a31]).toArray _ _ rfl kR kR kR kL kR kR) ?_
  refine sI ?_
  refine Sy.seq ?_
  refine sC ?_
  refine sP (.pointer (some ⟨g3, 0, none⟩)) <| sS (.int .u8 2) (Quiet.cell 3 g3 0 48 5 (.int .u8 2 :: bv a0 :: bv a1 :: [bv a2, bv a3, bv a4, bv a5, bv a6, bv a7, bv a8, bv a9, bv a10, bv a11, bv a12, bv a13, bv a14, bv a15, bv a16, bv a17, bv a18, bv a19, bv a20, bv a21, bv a22, bv a23, bv a24, bv a25, bv a26, bv a27, bv a28, bv a29, bv a30, bv a31]).toArray _ _ rfl kR kR Tryd.underlying5 rfl _ kR) ?_
  refine sG ?_
  refine Sy.block ?_
  refine sC ?_
  refine sP (.bool false) <| sP (.bool false) ?_
  refine sG ?_
  refine sU ?_
  refine sC ?_
  refine sP (.bool false) <| sP (.bool false) ?_
  refine sG ?_
  refine sU ?_
  refine Sy.skip ?_
  refine Sy.in_ ?_
  refine sR (fun j => j == 4 || j == 5) ?_
  refine sD 0 rfl (fv k) (qL 0 g0 0 4 24 24 (fcs k) rfl Tryd.underlying24) ?_
  refine Sy.joinD (fun gq => [(0, fv k), (1, .pointer (some ⟨g0, 0, none⟩)), (2, .pointer (some ⟨g1, 0, none⟩)), (3, .pointer (some ⟨g2, 0, none⟩)), (4, .bool false), (5, .pointer (some ⟨g3, 0, none⟩)), (6, fv k), (7, pv gx.val gy.val false), (8, pv u.val v.val false), (9, .agg ((.int .u8 2 :: bv a0 :: bv a1 :: [bv a2, bv a3, bv a4, bv a5, bv a6, bv a7, bv a8, bv a9, bv a10, bv a11, bv a12, bv a13, bv a14, bv a15, bv a16, bv a17, bv a18, bv a19, bv a20, bv a21, bv a22, bv a23, bv a24, bv a25, bv a26, bv a27, bv a28, bv a29, bv a30, bv a31]) : List Value).toArray), (10, .pointer (some ⟨g3, 0, none⟩)), (11, .int .u8 2), (12, .bool false), (13, .bool false), (16, .bool false), (17, .bool false), (20, fv k), (21, .slice (some ⟨g3, 1, none⟩) 32 32), (22, .pointer (some ⟨g3, 1, none⟩)), (23, .agg ((bv a0 :: bv a1 :: [bv a2, bv a3, bv a4, bv a5, bv a6, bv a7, bv a8, bv a9, bv a10, bv a11, bv a12, bv a13, bv a14, bv a15, bv a16, bv a17, bv a18, bv a19, bv a20, bv a21, bv a22, bv a23, bv a24, bv a25, bv a26, bv a27, bv a28, bv a29, bv a30, bv a31]) : List Value).toArray)]) (fun gq => [(g0, 24, (fcs k)), (g1, 24, (fcs k)), (g2, 31, (.int .u8 0 :: .int .u8 0 :: [.int .u8 0, .int .u8 0, .int .u8 0, .int .u8 0, .int .u8 0, .int .u8 0, .int .u8 0, .int .u8 0, .int .u8 0, .int .u8 0, .int .u8 0, .int .u8 0, .int .u8 0, .int .u8 0, .int .u8 0, .int .u8 0, .int .u8 0, .int .u8 0, .int .u8 0, .int .u8 0, .int .u8 0, .int .u8 0, .int .u8 0, .int .u8 0, .int .u8 0, .int .u8 0, .int .u8 0, .int .u8 0, .int .u8 0, .int .u8 0]).toArray), (g3, 48, (.int .u8 2 :: bv a0 :: bv a1 :: [bv a2, bv a3, bv a4, bv a5, bv a6, bv a7, bv a8, bv a9, bv a10, bv a11, bv a12, bv a13, bv a14, bv a15, bv a16, bv a17, bv a18, bv a19, bv a20, bv a21, bv a22, bv a23, bv a24, bv a25, bv a26, bv a27, bv a28, bv a29, bv a30, bv a31]).toArray)]) 2 #[true, true, true, true, true, false, false] (fun gq => ?_) (fun fin => ?_)
  · refine sX 5 rfl 2 g2 31 (.int .u8 0 :: .int .u8 0 :: [.int .u8 0, .int .u8 0, .int .u8 0, .int .u8 0, .int .u8 0, .int .u8 0, .int .u8 0, .int .u8 0, .int .u8 0, .int .u8 0, .int .u8 0, .int .u8 0, .int .u8 0, .int .u8 0, .int .u8 0, .int .u8 0, .int .u8 0, .int .u8 0, .int .u8 0, .int .u8 0, .int .u8 0, .int .u8 0, .int .u8 0, .int .u8 0, .int .u8 0, .int .u8 0, .int .u8 0, .int .u8 0, .int .u8 0, .int .u8 0]).toArray (bv a0 :: bv a1 :: [bv a2, bv a3, bv a4, bv a5, bv a6, bv a7, bv a8, bv a9, bv a10, bv a11, bv a12, bv a13, bv a14, bv a15, bv a16, bv a17, bv a18, bv a19, bv a20, bv a21, bv a22, bv a23, bv a24, bv a25, bv a26, bv a27, bv a28, bv a29, bv a30, bv a31]).toArray (wS 0 31 (bv a0 :: bv a1 :: [bv a2, bv a3, bv a4, bv a5, bv a6, bv a7, bv a8, bv a9, bv a10, bv a11, bv a12, bv a13, bv a14, bv a15, bv a16, bv a17, bv a18, bv a19, bv a20, bv a21, bv a22, bv a23, bv a24, bv a25, bv a26, bv a27, bv a28, bv a29, bv a30, bv a31]).toArray rfl) ?_
    refine Sy.anyOf [6] kR (by decide) (Sy.each1 ?_)
    refine Sy.oneQuiet rfl kR (.bool true) qP ?_
    refine sI ?_
    refine Sy.ret ?_
    rw [show (.tuple #[fv k, .agg ((evX (some (u, v))).map bv).toArray, .bool true] : Value) = .tuple #[fv k, .agg ((bv a0 :: bv a1 :: [bv a2, bv a3, bv a4, bv a5, bv a6, bv a7, bv a8, bv a9, bv a10, bv a11, bv a12, bv a13, bv a14, bv a15, bv a16, bv a17, bv a18, bv a19, bv a20, bv a21, bv a22, bv a23, bv a24, bv a25, bv a26, bv a27, bv a28, bv a29, bv a30, bv a31]) : List Value).toArray, .bool true] from by rw [show evX (some (u, v)) = bytesS u.val from rfl, hm]; rfl]
    exact Sy.ret3 (v := fv k) (u := .agg ((bv a0 :: bv a1 :: [bv a2, bv a3, bv a4, bv a5, bv a6, bv a7, bv a8, bv a9, bv a10, bv a11, bv a12, bv a13, bv a14, bv a15, bv a16, bv a17, bv a18, bv a19, bv a20, bv a21, bv a22, bv a23, bv a24, bv a25, bv a26, bv a27, bv a28, bv a29, bv a30, bv a31]) : List Value).toArray) (x := .bool true) rfl (.inl (Res.cell (ty' := 24) g1 1 (fcs k) _ kR kR Tryd.underlying24 rfl kR kR)) (.inl (Res.cell (ty' := 31) g2 2 (bv a0 :: bv a1 :: [bv a2, bv a3, bv a4, bv a5, bv a6, bv a7, bv a8, bv a9, bv a10, bv a11, bv a12, bv a13, bv a14, bv a15, bv a16, bv a17, bv a18, bv a19, bv a20, bv a21, bv a22, bv a23, bv a24, bv a25, bv a26, bv a27, bv a28, bv a29, bv a30, bv a31]).toArray _ kR kR Tryd.underlying31 rfl kR kR)) (.inl (show _ = _ by kernel_rfl))
  · refine Sy.anyOf [1, 4] kR (by decide) (Sy.each2 ?_ ?_)
    · refine Sy.oneQuiet rfl kR (.slice (some ⟨g3, 1, none⟩) 32 32) qP ?_
      refine Sy.anyOf [2, 4] kR (by decide) (Sy.each2 ?_ ?_)
      · refine Sy.oneQuiet rfl kR (.pointer (some ⟨g3, 1, none⟩)) qP ?_
        refine Sy.anyOf [3, 4] kR (by decide) (Sy.each2 ?_ ?_)
        · refine Sy.oneQuiet rfl kR (.agg ((bv a0 :: bv a1 :: [bv a2, bv a3, bv a4, bv a5, bv a6, bv a7, bv a8, bv a9, bv a10, bv a11, bv a12, bv a13, bv a14, bv a15, bv a16, bv a17, bv a18, bv a19, bv a20, bv a21, bv a22, bv a23, bv a24, bv a25, bv a26, bv a27, bv a28, bv a29, bv a30, bv a31]) : List Value).toArray) (Quiet.load 3 g3 1 32 48 31 (.int .u8 2 :: bv a0 :: bv a1 :: [bv a2, bv a3, bv a4, bv a5, bv a6, bv a7, bv a8, bv a9, bv a10, bv a11, bv a12, bv a13, bv a14, bv a15, bv a16, bv a17, bv a18, bv a19, bv a20, bv a21, bv a22, bv a23, bv a24, bv a25, bv a26, bv a27, bv a28, bv a29, bv a30, bv a31]).toArray _ _ rfl kR kR Tryd.underlying31 rfl kR _ kR kL) ?_
          refine Sy.anyOf [4] kR (by decide) (Sy.each1 ?_)
          · refine Sy.oneWrite rfl (by rfl) kR 1 g1 24 (fcs 0) (fcs k) kR (wS 0 24 (fcs k) rfl) ?_
            exact Sy.leafI fin (fun i => 0) kR (all_cons kR (all_cons kR (all_cons kR (all_cons kR (all_cons kR (all_cons kR (all_cons kR (all_cons kR (all_cons kR (all_cons kR (all_cons kR (all_cons kR (all_cons kR (all_cons kR (all_cons kR (all_cons kR (all_cons kR (all_cons kR (all_cons kR (all_cons kR all_nil)))))))))))))))))))) kR
        · refine Sy.oneWrite rfl (by rfl) kR 1 g1 24 (fcs 0) (fcs k) kR (wS 0 24 (fcs k) rfl) ?_
          refine Sy.anyOf [3] kR (by decide) (Sy.each1 ?_)
          · refine Sy.oneQuiet rfl kR (.agg ((bv a0 :: bv a1 :: [bv a2, bv a3, bv a4, bv a5, bv a6, bv a7, bv a8, bv a9, bv a10, bv a11, bv a12, bv a13, bv a14, bv a15, bv a16, bv a17, bv a18, bv a19, bv a20, bv a21, bv a22, bv a23, bv a24, bv a25, bv a26, bv a27, bv a28, bv a29, bv a30, bv a31]) : List Value).toArray) (Quiet.load 3 g3 1 32 48 31 (.int .u8 2 :: bv a0 :: bv a1 :: [bv a2, bv a3, bv a4, bv a5, bv a6, bv a7, bv a8, bv a9, bv a10, bv a11, bv a12, bv a13, bv a14, bv a15, bv a16, bv a17, bv a18, bv a19, bv a20, bv a21, bv a22, bv a23, bv a24, bv a25, bv a26, bv a27, bv a28, bv a29, bv a30, bv a31]).toArray _ _ rfl kR kR Tryd.underlying31 rfl kR _ kR kL) ?_
            exact Sy.leafI fin (fun i => 0) kR (all_cons kR (all_cons kR (all_cons kR (all_cons kR (all_cons kR (all_cons kR (all_cons kR (all_cons kR (all_cons kR (all_cons kR (all_cons kR (all_cons kR (all_cons kR (all_cons kR (all_cons kR (all_cons kR (all_cons kR (all_cons kR (all_cons kR (all_cons kR all_nil)))))))))))))))))))) kR
      · refine Sy.oneWrite rfl (by rfl) kR 1 g1 24 (fcs 0) (fcs k) kR (wS 0 24 (fcs k) rfl) ?_
        refine Sy.anyOf [2] kR (by decide) (Sy.each1 ?_)
        · refine Sy.oneQuiet rfl kR (.pointer (some ⟨g3, 1, none⟩)) qP ?_
          refine Sy.anyOf [3] kR (by decide) (Sy.each1 ?_)
          · refine Sy.oneQuiet rfl kR (.agg ((bv a0 :: bv a1 :: [bv a2, bv a3, bv a4, bv a5, bv a6, bv a7, bv a8, bv a9, bv a10, bv a11, bv a12, bv a13, bv a14, bv a15, bv a16, bv a17, bv a18, bv a19, bv a20, bv a21, bv a22, bv a23, bv a24, bv a25, bv a26, bv a27, bv a28, bv a29, bv a30, bv a31]) : List Value).toArray) (Quiet.load 3 g3 1 32 48 31 (.int .u8 2 :: bv a0 :: bv a1 :: [bv a2, bv a3, bv a4, bv a5, bv a6, bv a7, bv a8, bv a9, bv a10, bv a11, bv a12, bv a13, bv a14, bv a15, bv a16, bv a17, bv a18, bv a19, bv a20, bv a21, bv a22, bv a23, bv a24, bv a25, bv a26, bv a27, bv a28, bv a29, bv a30, bv a31]).toArray _ _ rfl kR kR Tryd.underlying31 rfl kR _ kR kL) ?_
            exact Sy.leafI fin (fun i => 0) kR (all_cons kR (all_cons kR (all_cons kR (all_cons kR (all_cons kR (all_cons kR (all_cons kR (all_cons kR (all_cons kR (all_cons kR (all_cons kR (all_cons kR (all_cons kR (all_cons kR (all_cons kR (all_cons kR (all_cons kR (all_cons kR (all_cons kR (all_cons kR all_nil)))))))))))))))))))) kR
    · refine Sy.oneWrite rfl (by rfl) kR 1 g1 24 (fcs 0) (fcs k) kR (wS 0 24 (fcs k) rfl) ?_
      refine Sy.anyOf [1] kR (by decide) (Sy.each1 ?_)
      · refine Sy.oneQuiet rfl kR (.slice (some ⟨g3, 1, none⟩) 32 32) qP ?_
        refine Sy.anyOf [2] kR (by decide) (Sy.each1 ?_)
        · refine Sy.oneQuiet rfl kR (.pointer (some ⟨g3, 1, none⟩)) qP ?_
          refine Sy.anyOf [3] kR (by decide) (Sy.each1 ?_)
          · refine Sy.oneQuiet rfl kR (.agg ((bv a0 :: bv a1 :: [bv a2, bv a3, bv a4, bv a5, bv a6, bv a7, bv a8, bv a9, bv a10, bv a11, bv a12, bv a13, bv a14, bv a15, bv a16, bv a17, bv a18, bv a19, bv a20, bv a21, bv a22, bv a23, bv a24, bv a25, bv a26, bv a27, bv a28, bv a29, bv a30, bv a31]) : List Value).toArray) (Quiet.load 3 g3 1 32 48 31 (.int .u8 2 :: bv a0 :: bv a1 :: [bv a2, bv a3, bv a4, bv a5, bv a6, bv a7, bv a8, bv a9, bv a10, bv a11, bv a12, bv a13, bv a14, bv a15, bv a16, bv a17, bv a18, bv a19, bv a20, bv a21, bv a22, bv a23, bv a24, bv a25, bv a26, bv a27, bv a28, bv a29, bv a30, bv a31]).toArray _ _ rfl kR kR Tryd.underlying31 rfl kR _ kR kL) ?_
            exact Sy.leafI fin (fun i => 0) kR (all_cons kR (all_cons kR (all_cons kR (all_cons kR (all_cons kR (all_cons kR (all_cons kR (all_cons kR (all_cons kR (all_cons kR (all_cons kR (all_cons kR (all_cons kR (all_cons kR (all_cons kR (all_cons kR (all_cons kR (all_cons kR (all_cons kR (all_cons kR all_nil)))))))))))))))))))) kR
theorem even_3 (w : World) (k : Nat) (hk : k < K4) (u v : Fp) (h : evP k = some (u, v)) (ho : v * v = u * u * u + 7) (hv : v.val % 2 = 1) : Calls Tryd.prog 8 #[fv k] w (Gets w (.tuple #[fv (Sc.negP k), .agg ((evX (some (u, v))).map bv).toArray, .bool true])) := by
  obtain ⟨a0, a1, a2, a3, a4, a5, a6, a7, a8, a9, a10, a11, a12, a13, a14, a15, a16, a17, a18, a19, a20, a21, a22, a23, a24, a25, a26, a27, a28, a29, a30, a31, hm⟩ := list32 (bytesS u.val) (bytesS_length _)
  have cM : ∀ w, Calls Tryd.prog 15 #[fv k, pv gx.val gy.val false] w (Gets w (pv u.val v.val false)) := fun w => by have q := base_mul w k hk; rw [h] at q; exact q
  have cE : ∀ w, Calls Tryd.prog 14 #[pv u.val v.val false] w (Gets w (.agg ((.int .u8 3 :: bv a0 :: bv a1 :: [bv a2, bv a3, bv a4, bv a5, bv a6, bv a7, bv a8, bv a9, bv a10, bv a11, bv a12, bv a13, bv a14, bv a15, bv a16, bv a17, bv a18, bv a19, bv a20, bv a21, bv a22, bv a23, bv a24, bv a25, bv a26, bv a27, bv a28, bv a29, bv a30, bv a31]) : List Value).toArray)) := fun w => by
    have q := enc_pt w u v ho
    rw [show encS (some (u, v)) = 3 :: bytesS u.val from by show (if v.val % 2 = 1 then (3 : UInt8) else 2) :: bytesS u.val = _; rw [if_pos (by omega)], hm] at q
    exact q
  refine Sy.enter (args := [fv k]) Tryd.func8 rfl kL ?_
  refine sC ?_
  refine sM 24 (fcs k) (fun g0 => ?_)
  refine sM 24 (fcs 0) (fun g1 => ?_)
  refine sM 31 (.int .u8 0 :: .int .u8 0 :: [.int .u8 0, .int .u8 0, .int .u8 0, .int .u8 0, .int .u8 0, .int .u8 0, .int .u8 0, .int .u8 0, .int .u8 0, .int .u8 0, .int .u8 0, .int .u8 0, .int .u8 0, .int .u8 0, .int .u8 0, .int .u8 0, .int .u8 0, .int .u8 0, .int .u8 0, .int .u8 0, .int .u8 0, .int .u8 0, .int .u8 0, .int .u8 0, .int .u8 0, .int .u8 0, .int .u8 0, .int .u8 0, .int .u8 0, .int .u8 0]).toArray (fun g2 => ?_)
  refine sP (.bool false) ?_
  refine sH (fun j => j == 5) ?_
  refine sD 0 rfl (fv k) (qL 0 g0 0 4 24 24 (fcs k) rfl Tryd.underlying24) <| sD 1 rfl (pv gx.val gy.val false) (qF 16 #[] (base_c)) <| sD 2 rfl (pv u.val v.val false) (qF 15 #[fv k, pv gx.val gy.val false] (cM)) <| sD 3 rfl (.agg ((.int .u8 3 :: bv a0 :: bv a1 :: [bv a2, bv a3, bv a4, bv a5, bv a6, bv a7, bv a8, bv a9, bv a10, bv a11, bv a12, bv a13, bv a14, bv a15, bv a16, bv a17, bv a18, bv a19, bv a20, bv a21, bv a22, bv a23, bv a24, bv a25, bv a26, bv a27, bv a28, bv a29, bv a30, bv a31]) : List Value).toArray) (qF 14 #[pv u.val v.val false] (cE)) ?_
  refine Sy.makeD 4 rfl kR kR 48 (.int .u8 0 :: .int .u8 0 :: .int .u8 0 :: [.int .u8 0, .int .u8 0, .int .u8 0, .int .u8 0, .int .u8 0, .int .u8 0, .int .u8 0, .int .u8 0, .int .u8 0, .int .u8 0, .int .u8 0, .int .u8 0, .int .u8 0, .int .u8 0, .int .u8 0, .int .u8 0, .int .u8 0, .int .u8 0, .int .u8 0, .int .u8 0, .int .u8 0, .int .u8 0, .int .u8 0, .int .u8 0, .int .u8 0, .int .u8 0, .int .u8 0, .int .u8 0, .int .u8 0, .int .u8 0]).toArray ptr kF (fun g3 => ?_)
  refine Sy.writeD 5 rfl kR (by rfl) kR 3 g3 48 (.int .u8 0 :: .int .u8 0 :: .int .u8 0 :: [.int .u8 0, .int .u8 0, .int .u8 0, .int .u8 0, .int .u8 0, .int .u8 0, .int .u8 0, .int .u8 0, .int .u8 0, .int .u8 0, .int .u8 0, .int .u8 0, .int .u8 0, .int .u8 0, .int .u8 0, .int .u8 0, .int .u8 0, .int .u8 0, .int .u8 0, .int .u8 0, .int .u8 0, .int .u8 0, .int .u8 0, .int .u8 0, .int .u8 0, .int .u8 0, .int .u8 0, .int .u8 0, .int .u8 0, .int .u8 0]).toArray (.int .u8 3 :: bv a0 :: bv a1 :: [bv a2, bv a3, bv a4, bv a5, bv a6, bv a7, bv a8, bv a9, bv a10, bv a11, bv a12, bv a13, bv a14, bv a15, bv a16, bv a17, bv a18, bv a19, bv a20, bv a21, bv a22, bv a23, bv a24, bv a25, bv a26, bv a27, bv a28, bv a29, bv a30, bv a31]).toArray kR (Writes.store 0 48 (.int .u8 3 :: bv a0 :: bv a1 :: [bv a2, bv a3, bv a4, bv a5, bv a6, bv a7, bv a8, bv a9, bv a10, bv a11, bv a12, bv a13, bv a14, bv a15, bv a16, bv a17, bv a18, bv a19, bv a20, bv a21, bv a22, bv a23, bv a24, bv a25, bv a26, bv a27, bv a28, bv a29, bv a30, bv a31]).toArray _ _ rfl kR kR kR kL kR kR) ?_
  refine sI ?_
  refine Sy.seq ?_
  refine sC ?_
  refine sP (.pointer (some ⟨g3, 0, none⟩)) <| sS (.int .u8 3) (Quiet.cell 3 g3 0 48 5 (.int .u8 3 :: bv a0 :: bv a1 :: [bv a2, bv a3, bv a4, bv a5, bv a6, bv a7, bv a8, bv a9, bv a10, bv a11, bv a12, bv a13, bv a14, bv a15, bv a16, bv a17, bv a18, bv a19, bv a20, bv a21, bv a22, bv a23, bv a24, bv a25, bv a26, bv a27, bv a28, bv a29, bv a30, bv a31]).toArray _ _ rfl kR kR Tryd.underlying5 rfl _ kR) ?_
  refine sG ?_
  refine Sy.block ?_
  refine sC ?_
  refine sP (.bool false) <| sP (.bool false) ?_
  refine sG ?_
  refine sU ?_
  refine sC ?_
  refine sP (.bool true) <| sP (.bool true) ?_
  refine sG ?_
  refine sT ?_
  refine Sy.region ?_
  refine sS (fv k) (qL 0 g0 0 4 24 24 (fcs k) rfl Tryd.underlying24) <| sS (fv (Sc.negP k)) (qF 17 #[fv k] (fun w => Sc.negF_any w k hk)) <| sW 0 g0 24 (fcs k) (fcs (Sc.negP k)) (wS 0 24 (fcs (Sc.negP k)) rfl) ?_
  refine Sy.nil ?_
  refine Sy.in_ ?_
  refine sR (fun j => j == 4 || j == 5) ?_
  refine sD 0 rfl (fv (Sc.negP k)) (qL 0 g0 0 4 24 24 (fcs (Sc.negP k)) rfl Tryd.underlying24) ?_
  refine Sy.joinD (fun gq => [(0, fv k), (1, .pointer (some ⟨g0, 0, none⟩)), (2, .pointer (some ⟨g1, 0, none⟩)), (3, .pointer (some ⟨g2, 0, none⟩)), (4, .bool false), (5, .pointer (some ⟨g3, 0, none⟩)), (6, fv k), (7, pv gx.val gy.val false), (8, pv u.val v.val false), (9, .agg ((.int .u8 3 :: bv a0 :: bv a1 :: [bv a2, bv a3, bv a4, bv a5, bv a6, bv a7, bv a8, bv a9, bv a10, bv a11, bv a12, bv a13, bv a14, bv a15, bv a16, bv a17, bv a18, bv a19, bv a20, bv a21, bv a22, bv a23, bv a24, bv a25, bv a26, bv a27, bv a28, bv a29, bv a30, bv a31]) : List Value).toArray), (10, .pointer (some ⟨g3, 0, none⟩)), (11, .int .u8 3), (12, .bool false), (13, .bool false), (16, .bool true), (17, .bool true), (18, fv k), (19, fv (Sc.negP k)), (20, fv (Sc.negP k)), (21, .slice (some ⟨g3, 1, none⟩) 32 32), (22, .pointer (some ⟨g3, 1, none⟩)), (23, .agg ((bv a0 :: bv a1 :: [bv a2, bv a3, bv a4, bv a5, bv a6, bv a7, bv a8, bv a9, bv a10, bv a11, bv a12, bv a13, bv a14, bv a15, bv a16, bv a17, bv a18, bv a19, bv a20, bv a21, bv a22, bv a23, bv a24, bv a25, bv a26, bv a27, bv a28, bv a29, bv a30, bv a31]) : List Value).toArray)]) (fun gq => [(g0, 24, (fcs (Sc.negP k))), (g1, 24, (fcs (Sc.negP k))), (g2, 31, (.int .u8 0 :: .int .u8 0 :: [.int .u8 0, .int .u8 0, .int .u8 0, .int .u8 0, .int .u8 0, .int .u8 0, .int .u8 0, .int .u8 0, .int .u8 0, .int .u8 0, .int .u8 0, .int .u8 0, .int .u8 0, .int .u8 0, .int .u8 0, .int .u8 0, .int .u8 0, .int .u8 0, .int .u8 0, .int .u8 0, .int .u8 0, .int .u8 0, .int .u8 0, .int .u8 0, .int .u8 0, .int .u8 0, .int .u8 0, .int .u8 0, .int .u8 0, .int .u8 0]).toArray), (g3, 48, (.int .u8 3 :: bv a0 :: bv a1 :: [bv a2, bv a3, bv a4, bv a5, bv a6, bv a7, bv a8, bv a9, bv a10, bv a11, bv a12, bv a13, bv a14, bv a15, bv a16, bv a17, bv a18, bv a19, bv a20, bv a21, bv a22, bv a23, bv a24, bv a25, bv a26, bv a27, bv a28, bv a29, bv a30, bv a31]).toArray)]) 2 #[true, true, true, true, true, false, false] (fun gq => ?_) (fun fin => ?_)
  · refine sX 5 rfl 2 g2 31 (.int .u8 0 :: .int .u8 0 :: [.int .u8 0, .int .u8 0, .int .u8 0, .int .u8 0, .int .u8 0, .int .u8 0, .int .u8 0, .int .u8 0, .int .u8 0, .int .u8 0, .int .u8 0, .int .u8 0, .int .u8 0, .int .u8 0, .int .u8 0, .int .u8 0, .int .u8 0, .int .u8 0, .int .u8 0, .int .u8 0, .int .u8 0, .int .u8 0, .int .u8 0, .int .u8 0, .int .u8 0, .int .u8 0, .int .u8 0, .int .u8 0, .int .u8 0, .int .u8 0]).toArray (bv a0 :: bv a1 :: [bv a2, bv a3, bv a4, bv a5, bv a6, bv a7, bv a8, bv a9, bv a10, bv a11, bv a12, bv a13, bv a14, bv a15, bv a16, bv a17, bv a18, bv a19, bv a20, bv a21, bv a22, bv a23, bv a24, bv a25, bv a26, bv a27, bv a28, bv a29, bv a30, bv a31]).toArray (wS 0 31 (bv a0 :: bv a1 :: [bv a2, bv a3, bv a4, bv a5, bv a6, bv a7, bv a8, bv a9, bv a10, bv a11, bv a12, bv a13, bv a14, bv a15, bv a16, bv a17, bv a18, bv a19, bv a20, bv a21, bv a22, bv a23, bv a24, bv a25, bv a26, bv a27, bv a28, bv a29, bv a30, bv a31]).toArray rfl) ?_
    refine Sy.anyOf [6] kR (by decide) (Sy.each1 ?_)
    refine Sy.oneQuiet rfl kR (.bool true) qP ?_
    refine sI ?_
    refine Sy.ret ?_
    rw [show (.tuple #[fv (Sc.negP k), .agg ((evX (some (u, v))).map bv).toArray, .bool true] : Value) = .tuple #[fv (Sc.negP k), .agg ((bv a0 :: bv a1 :: [bv a2, bv a3, bv a4, bv a5, bv a6, bv a7, bv a8, bv a9, bv a10, bv a11, bv a12, bv a13, bv a14, bv a15, bv a16, bv a17, bv a18, bv a19, bv a20, bv a21, bv a22, bv a23, bv a24, bv a25, bv a26, bv a27, bv a28, bv a29, bv a30, bv a31]) : List Value).toArray, .bool true] from by rw [show evX (some (u, v)) = bytesS u.val from rfl, hm]; rfl]
    exact Sy.ret3 (v := fv (Sc.negP k)) (u := .agg ((bv a0 :: bv a1 :: [bv a2, bv a3, bv a4, bv a5, bv a6, bv a7, bv a8, bv a9, bv a10, bv a11, bv a12, bv a13, bv a14, bv a15, bv a16, bv a17, bv a18, bv a19, bv a20, bv a21, bv a22, bv a23, bv a24, bv a25, bv a26, bv a27, bv a28, bv a29, bv a30, bv a31]) : List Value).toArray) (x := .bool true) rfl (.inl (Res.cell (ty' := 24) g1 1 (fcs (Sc.negP k)) _ kR kR Tryd.underlying24 rfl kR kR)) (.inl (Res.cell (ty' := 31) g2 2 (bv a0 :: bv a1 :: [bv a2, bv a3, bv a4, bv a5, bv a6, bv a7, bv a8, bv a9, bv a10, bv a11, bv a12, bv a13, bv a14, bv a15, bv a16, bv a17, bv a18, bv a19, bv a20, bv a21, bv a22, bv a23, bv a24, bv a25, bv a26, bv a27, bv a28, bv a29, bv a30, bv a31]).toArray _ kR kR Tryd.underlying31 rfl kR kR)) (.inl (show _ = _ by kernel_rfl))
  · refine Sy.anyOf [1, 4] kR (by decide) (Sy.each2 ?_ ?_)
    · refine Sy.oneQuiet rfl kR (.slice (some ⟨g3, 1, none⟩) 32 32) qP ?_
      refine Sy.anyOf [2, 4] kR (by decide) (Sy.each2 ?_ ?_)
      · refine Sy.oneQuiet rfl kR (.pointer (some ⟨g3, 1, none⟩)) qP ?_
        refine Sy.anyOf [3, 4] kR (by decide) (Sy.each2 ?_ ?_)
        · refine Sy.oneQuiet rfl kR (.agg ((bv a0 :: bv a1 :: [bv a2, bv a3, bv a4, bv a5, bv a6, bv a7, bv a8, bv a9, bv a10, bv a11, bv a12, bv a13, bv a14, bv a15, bv a16, bv a17, bv a18, bv a19, bv a20, bv a21, bv a22, bv a23, bv a24, bv a25, bv a26, bv a27, bv a28, bv a29, bv a30, bv a31]) : List Value).toArray) (Quiet.load 3 g3 1 32 48 31 (.int .u8 3 :: bv a0 :: bv a1 :: [bv a2, bv a3, bv a4, bv a5, bv a6, bv a7, bv a8, bv a9, bv a10, bv a11, bv a12, bv a13, bv a14, bv a15, bv a16, bv a17, bv a18, bv a19, bv a20, bv a21, bv a22, bv a23, bv a24, bv a25, bv a26, bv a27, bv a28, bv a29, bv a30, bv a31]).toArray _ _ rfl kR kR Tryd.underlying31 rfl kR _ kR kL) ?_
          refine Sy.anyOf [4] kR (by decide) (Sy.each1 ?_)
          · refine Sy.oneWrite rfl (by rfl) kR 1 g1 24 (fcs 0) (fcs (Sc.negP k)) kR (wS 0 24 (fcs (Sc.negP k)) rfl) ?_
            exact Sy.leafI fin (fun i => 0) kR (all_cons kR (all_cons kR (all_cons kR (all_cons kR (all_cons kR (all_cons kR (all_cons kR (all_cons kR (all_cons kR (all_cons kR (all_cons kR (all_cons kR (all_cons kR (all_cons kR (all_cons kR (all_cons kR (all_cons kR (all_cons kR (all_cons kR (all_cons kR (all_cons kR (all_cons kR all_nil)))))))))))))))))))))) kR
        · refine Sy.oneWrite rfl (by rfl) kR 1 g1 24 (fcs 0) (fcs (Sc.negP k)) kR (wS 0 24 (fcs (Sc.negP k)) rfl) ?_
          refine Sy.anyOf [3] kR (by decide) (Sy.each1 ?_)
          · refine Sy.oneQuiet rfl kR (.agg ((bv a0 :: bv a1 :: [bv a2, bv a3, bv a4, bv a5, bv a6, bv a7, bv a8, bv a9, bv a10, bv a11, bv a12, bv a13, bv a14, bv a15, bv a16, bv a17, bv a18, bv a19, bv a20, bv a21, bv a22, bv a23, bv a24, bv a25, bv a26, bv a27, bv a28, bv a29, bv a30, bv a31]) : List Value).toArray) (Quiet.load 3 g3 1 32 48 31 (.int .u8 3 :: bv a0 :: bv a1 :: [bv a2, bv a3, bv a4, bv a5, bv a6, bv a7, bv a8, bv a9, bv a10, bv a11, bv a12, bv a13, bv a14, bv a15, bv a16, bv a17, bv a18, bv a19, bv a20, bv a21, bv a22, bv a23, bv a24, bv a25, bv a26, bv a27, bv a28, bv a29, bv a30, bv a31]).toArray _ _ rfl kR kR Tryd.underlying31 rfl kR _ kR kL) ?_
            exact Sy.leafI fin (fun i => 0) kR (all_cons kR (all_cons kR (all_cons kR (all_cons kR (all_cons kR (all_cons kR (all_cons kR (all_cons kR (all_cons kR (all_cons kR (all_cons kR (all_cons kR (all_cons kR (all_cons kR (all_cons kR (all_cons kR (all_cons kR (all_cons kR (all_cons kR (all_cons kR (all_cons kR (all_cons kR all_nil)))))))))))))))))))))) kR
      · refine Sy.oneWrite rfl (by rfl) kR 1 g1 24 (fcs 0) (fcs (Sc.negP k)) kR (wS 0 24 (fcs (Sc.negP k)) rfl) ?_
        refine Sy.anyOf [2] kR (by decide) (Sy.each1 ?_)
        · refine Sy.oneQuiet rfl kR (.pointer (some ⟨g3, 1, none⟩)) qP ?_
          refine Sy.anyOf [3] kR (by decide) (Sy.each1 ?_)
          · refine Sy.oneQuiet rfl kR (.agg ((bv a0 :: bv a1 :: [bv a2, bv a3, bv a4, bv a5, bv a6, bv a7, bv a8, bv a9, bv a10, bv a11, bv a12, bv a13, bv a14, bv a15, bv a16, bv a17, bv a18, bv a19, bv a20, bv a21, bv a22, bv a23, bv a24, bv a25, bv a26, bv a27, bv a28, bv a29, bv a30, bv a31]) : List Value).toArray) (Quiet.load 3 g3 1 32 48 31 (.int .u8 3 :: bv a0 :: bv a1 :: [bv a2, bv a3, bv a4, bv a5, bv a6, bv a7, bv a8, bv a9, bv a10, bv a11, bv a12, bv a13, bv a14, bv a15, bv a16, bv a17, bv a18, bv a19, bv a20, bv a21, bv a22, bv a23, bv a24, bv a25, bv a26, bv a27, bv a28, bv a29, bv a30, bv a31]).toArray _ _ rfl kR kR Tryd.underlying31 rfl kR _ kR kL) ?_
            exact Sy.leafI fin (fun i => 0) kR (all_cons kR (all_cons kR (all_cons kR (all_cons kR (all_cons kR (all_cons kR (all_cons kR (all_cons kR (all_cons kR (all_cons kR (all_cons kR (all_cons kR (all_cons kR (all_cons kR (all_cons kR (all_cons kR (all_cons kR (all_cons kR (all_cons kR (all_cons kR (all_cons kR (all_cons kR all_nil)))))))))))))))))))))) kR
    · refine Sy.oneWrite rfl (by rfl) kR 1 g1 24 (fcs 0) (fcs (Sc.negP k)) kR (wS 0 24 (fcs (Sc.negP k)) rfl) ?_
      refine Sy.anyOf [1] kR (by decide) (Sy.each1 ?_)
      · refine Sy.oneQuiet rfl kR (.slice (some ⟨g3, 1, none⟩) 32 32) qP ?_
        refine Sy.anyOf [2] kR (by decide) (Sy.each1 ?_)
        · refine Sy.oneQuiet rfl kR (.pointer (some ⟨g3, 1, none⟩)) qP ?_
          refine Sy.anyOf [3] kR (by decide) (Sy.each1 ?_)
          · refine Sy.oneQuiet rfl kR (.agg ((bv a0 :: bv a1 :: [bv a2, bv a3, bv a4, bv a5, bv a6, bv a7, bv a8, bv a9, bv a10, bv a11, bv a12, bv a13, bv a14, bv a15, bv a16, bv a17, bv a18, bv a19, bv a20, bv a21, bv a22, bv a23, bv a24, bv a25, bv a26, bv a27, bv a28, bv a29, bv a30, bv a31]) : List Value).toArray) (Quiet.load 3 g3 1 32 48 31 (.int .u8 3 :: bv a0 :: bv a1 :: [bv a2, bv a3, bv a4, bv a5, bv a6, bv a7, bv a8, bv a9, bv a10, bv a11, bv a12, bv a13, bv a14, bv a15, bv a16, bv a17, bv a18, bv a19, bv a20, bv a21, bv a22, bv a23, bv a24, bv a25, bv a26, bv a27, bv a28, bv a29, bv a30, bv a31]).toArray _ _ rfl kR kR Tryd.underlying31 rfl kR _ kR kL) ?_
            exact Sy.leafI fin (fun i => 0) kR (all_cons kR (all_cons kR (all_cons kR (all_cons kR (all_cons kR (all_cons kR (all_cons kR (all_cons kR (all_cons kR (all_cons kR (all_cons kR (all_cons kR (all_cons kR (all_cons kR (all_cons kR (all_cons kR (all_cons kR (all_cons kR (all_cons kR (all_cons kR (all_cons kR (all_cons kR all_nil)))))))))))))))))))))) kR
/-- sig.even -/
theorem even_any (w : World) (k : Nat) (hk : k < K4) : Calls Tryd.prog 8 #[fv k] w (Gets w (.tuple #[fv (evD k), .agg ((evX (evP k)).map bv).toArray, .bool (evP k).isSome])) := by
  have ho := evP_on k
  unfold evD
  rcases h : evP k with _ | ⟨u, v⟩
  · exact even_none w k hk h
  · rw [h] at ho
    rcases Nat.mod_two_eq_zero_or_one v.val with hv | hv
    · have q := even_2 w k hk u v h ho hv
      show Calls _ _ _ _ (Gets w (.tuple #[fv (if v.val % 2 = 1 then Sc.negP k else k), _, _]))
      rw [if_neg (by omega)]
      exact q
    · have q := even_3 w k hk u v h ho hv
      show Calls _ _ _ _ (Gets w (.tuple #[fv (if v.val % 2 = 1 then Sc.negP k else k), _, _]))
      rw [if_pos (by omega)]
      exact q
theorem public_any (w : World) (k : Nat) (hk : k < K4) : Calls Tryd.prog 5 #[fv k] w (Gets w (.tuple #[.agg ((evX (evP k)).map bv).toArray, .bool (evP k).isSome])) := by
  refine Sy.enter (args := [fv k]) Tryd.func5 rfl kL ?_
  refine sC ?_
  refine sM 24 (fcs k) (fun g0 => ?_)
  refine sM 31 (.int .u8 0 :: .int .u8 0 :: [.int .u8 0, .int .u8 0, .int .u8 0, .int .u8 0, .int .u8 0, .int .u8 0, .int .u8 0, .int .u8 0, .int .u8 0, .int .u8 0, .int .u8 0, .int .u8 0, .int .u8 0, .int .u8 0, .int .u8 0, .int .u8 0, .int .u8 0, .int .u8 0, .int .u8 0, .int .u8 0, .int .u8 0, .int .u8 0, .int .u8 0, .int .u8 0, .int .u8 0, .int .u8 0, .int .u8 0, .int .u8 0, .int .u8 0, .int .u8 0]).toArray (fun g1 => ?_)
  refine sP (.bool false) ?_
  refine sA ?_
  refine sS (fv k) (qL 0 g0 0 4 24 24 (fcs k) rfl Tryd.underlying24) <| sS (.tuple #[fv (evD k), .agg ((evX (evP k)).map bv).toArray, .bool ((evP k).isSome)]) (qF 8 #[fv k] (fun w => even_any w k hk)) <| sP (.tuple #[fv (evD k), .agg ((evX (evP k)).map bv).toArray, .bool ((evP k).isSome)]) <| sP (fv (evD k)) <| sP (.agg ((evX (evP k)).map bv).toArray) <| sP (.bool ((evP k).isSome)) ?_
  refine sM 24 (fcs 0) (fun g2 => ?_)
  refine sM 31 (.int .u8 0 :: .int .u8 0 :: [.int .u8 0, .int .u8 0, .int .u8 0, .int .u8 0, .int .u8 0, .int .u8 0, .int .u8 0, .int .u8 0, .int .u8 0, .int .u8 0, .int .u8 0, .int .u8 0, .int .u8 0, .int .u8 0, .int .u8 0, .int .u8 0, .int .u8 0, .int .u8 0, .int .u8 0, .int .u8 0, .int .u8 0, .int .u8 0, .int .u8 0, .int .u8 0, .int .u8 0, .int .u8 0, .int .u8 0, .int .u8 0, .int .u8 0, .int .u8 0]).toArray (fun g3 => ?_)
  refine sW 2 g2 24 (fcs 0) (fcs (evD k)) (wS 0 24 (fcs (evD k)) rfl) <| sW 3 g3 31 (.int .u8 0 :: .int .u8 0 :: [.int .u8 0, .int .u8 0, .int .u8 0, .int .u8 0, .int .u8 0, .int .u8 0, .int .u8 0, .int .u8 0, .int .u8 0, .int .u8 0, .int .u8 0, .int .u8 0, .int .u8 0, .int .u8 0, .int .u8 0, .int .u8 0, .int .u8 0, .int .u8 0, .int .u8 0, .int .u8 0, .int .u8 0, .int .u8 0, .int .u8 0, .int .u8 0, .int .u8 0, .int .u8 0, .int .u8 0, .int .u8 0, .int .u8 0, .int .u8 0]).toArray ((evX (evP k)).map bv).toArray (Writes.store 0 31 ((evX (evP k)).map bv).toArray _ _ rfl kR kR (by rw [key_sz (evX (evP k)) (evX_length _)]; kernel_rfl) (by rw [key_sz (evX (evP k)) (evX_length _)]; exact Nat.le_of_ble_eq_true kR) (key_one _) (key_set _ _ (by rw [(evX_length _)]; kernel_rfl))) <| sP (.bool ((evP k).isSome)) ?_
  refine sA ?_
  refine sS (.agg ((evX (evP k)).map bv).toArray) (Quiet.load 3 g3 0 32 31 31 ((evX (evP k)).map bv).toArray _ _ rfl kR kR Tryd.underlying31 rfl kR _ (key_whole (evX (evP k)) (evX_length _)) (key_size (evX (evP k)) (evX_length _))) <| sP (.bool ((evP k).isSome)) <| sW 1 g1 31 (.int .u8 0 :: .int .u8 0 :: [.int .u8 0, .int .u8 0, .int .u8 0, .int .u8 0, .int .u8 0, .int .u8 0, .int .u8 0, .int .u8 0, .int .u8 0, .int .u8 0, .int .u8 0, .int .u8 0, .int .u8 0, .int .u8 0, .int .u8 0, .int .u8 0, .int .u8 0, .int .u8 0, .int .u8 0, .int .u8 0, .int .u8 0, .int .u8 0, .int .u8 0, .int .u8 0, .int .u8 0, .int .u8 0, .int .u8 0, .int .u8 0, .int .u8 0, .int .u8 0]).toArray ((evX (evP k)).map bv).toArray (Writes.store 0 31 ((evX (evP k)).map bv).toArray _ _ rfl kR kR (by rw [key_sz (evX (evP k)) (evX_length _)]; kernel_rfl) (by rw [key_sz (evX (evP k)) (evX_length _)]; exact Nat.le_of_ble_eq_true kR) (key_one _) (key_set _ _ (by rw [(evX_length _)]; kernel_rfl))) <| sP (.bool ((evP k).isSome)) ?_
  refine sG ?_
  refine Sy.ret ?_
  exact Sy.ret2 (v := .agg ((evX (evP k)).map bv).toArray) (u := .bool ((evP k).isSome)) rfl (.inl (Res.cell (ty' := 31) g1 1 ((evX (evP k)).map bv).toArray _ kR kR Tryd.underlying31 rfl (by rw [key_sz (evX (evP k)) (evX_length _)]; kernel_rfl) kR)) (.inl (show _ = _ by kernel_rfl))
end Go.Proofs.YtbofhoonlmikcaaDoor.Cu

end
section
namespace Go.Proofs.YtbofhoonlmikcaaDoor.Sc
open Go.RowKit Go.Lib

theorem run_equalIn_fv (W : World) (n m : Nat) (hn : n < 115792089237316195423570985008687907853269984665640564039457584007913129639936) (hm : m < 115792089237316195423570985008687907853269984665640564039457584007913129639936) : (Op.equalIn 10000 24 (fv n) (fv m)).run Tryd.prog W = .ok (decide (n = m)) W := by
  rw [fv_wl, fv_wl]
  have h := run_equalIn_words W 9998 24 22 4 Tryd.underlying24 Tryd.underlying22 (fun W => by kernel_rfl) (wl n) (wl m) rfl rfl
  rw [wl_beq hn hm] at h
  exact h
theorem run_neq_fv (W : World) (n m : Nat) (hn : n < 115792089237316195423570985008687907853269984665640564039457584007913129639936) (hm : m < 115792089237316195423570985008687907853269984665640564039457584007913129639936) : (binOp .neq 24 (fv n) (fv m)).run Tryd.prog W = .ok (.bool (decide (n ≠ m))) W := by
  have h := run_equalIn_fv W n m hn hm
  rw [fv_wl, fv_wl] at h ⊢
  rw [run_neq_struct, h]
  by_cases e : n = m <;> simp [e]

theorem run_eqGuard_fv (op : BinOp) (x y : Operand) (n m : Nat) (W : World) : (eqGuard op 24 x y (fv n) (fv m)).run Tryd.prog W = .ok () W := by
  rw [fv_fcs, fv_fcs]
  go_simp

end Go.Proofs.YtbofhoonlmikcaaDoor.Sc

end
section
namespace Go.Proofs.YtbofhoonlmikcaaDoor.Sc
open Go.RowKit Go.Lib

set_option maxHeartbeats 8000000 in
set_option maxRecDepth 100000 in
theorem words_any (w : World) (l : List UInt8) (hl : l.length = 32) : Calls Tryd.prog 46 #[.agg (l.map bv).toArray] w fun e w' => e = .returned (fv (valB l)) ∧ Below w.heap.size w w' := by
  have HL := Lib.hid hl
  clear hl
  go_enter Tryd.func46, Tryd.ntmps46
  go_wp2_with (first | ((with_reducible refine here_load (d := some 6) ?_); refine wpList_load_blk rfl _ _ rfl w.heap.size rfl _ _ _ (((Blk.new w _ _).alloc _).alloc _) Tryd.underlying30 rfl (b32_info HL.out) ?_))
  go_loopw [7] (fun i wr => ∃ k y0 y1 y2 y3 : Nat, k ≤ 32 ∧ i = .int .i64 (k : Int) ∧ Hid (y0 = wdB l k 0 ∧ y1 = wdB l k 1 ∧ y2 = wdB l k 2 ∧ y3 = wdB l k 3) ∧ Below w.heap.size w wr ∧ Blk wr (w.heap.size + 2) 24 #[.int .u64 (y3 : Int), .int .u64 (y2 : Int), .int .u64 (y1 : Int), .int .u64 (y0 : Int)] ∧ Blk wr (w.heap.size + 1) 24 #[.int .u64 0, .int .u64 0, .int .u64 0, .int .u64 0]) (fun i _ => 32 - (intOf i).toNat)
  case atStart => exact ⟨0, 0, 0, 0, 0, by omega, rfl, Lib.hid ⟨(wdB_zero l 0).symm, (wdB_zero l 1).symm, (wdB_zero l 2).symm, (wdB_zero l 3).symm⟩, below_alloc3 w _ _ _, blk_new3 w _ _ _ _, (blk_new2 w _ _ _).alloc _⟩
  case round =>
    obtain ⟨k, y0, y1, y2, y3, hk, rfl, HY, hb, hP, hR⟩ := hrel
    have q3 : wr.cell? ⟨w.heap.size + 1 + 1, 0, none⟩ = some (.int .u64 (y3 : Int)) := hP.cell 0
    have q2 : wr.cell? ⟨w.heap.size + 1 + 1, 1, none⟩ = some (.int .u64 (y2 : Int)) := hP.cell 1
    have q1 : wr.cell? ⟨w.heap.size + 1 + 1, 2, none⟩ = some (.int .u64 (y1 : Int)) := hP.cell 2
    have q0 : wr.cell? ⟨w.heap.size + 1 + 1, 3, none⟩ = some (.int .u64 (y0 : Int)) := hP.cell 3
    have ff : ∀ j, wr.frozen? ⟨w.heap.size + 1 + 1, j, none⟩ = false := fun j => hP.frozen j
    by_cases hlt : k < 32
    · obtain ⟨c, hc⟩ : ∃ c, l[k]? = some c := ⟨l[k]'(by rw [HL.out]; exact hlt), List.getElem?_eq_getElem _⟩
      have HC := Lib.hid hc
      obtain ⟨m, hm⟩ : ∃ m, m = c.toNat := ⟨_, rfl⟩
      have hm8 : m < 256 := by rw [hm]; exact c.toNat_lt
      have hI : ∀ W, (Instr.index 30 (.agg (l.map bv).toArray) (.int .i64 (k : Int))).run Tryd.prog W = .ok (.int .u8 (m : Int)) W := fun W => by
        rw [run_index_b32 W l k c hc hlt, hm]; rfl
      have HM := Lib.hid hm
      have HR := Lib.hid (And.intro hb (And.intro hP hR))
      clear hb hP hR hc hk hm
      rcases (show k = 0 ∨ k = 1 ∨ k = 2 ∨ k = 3 ∨ k = 4 ∨ k = 5 ∨ k = 6 ∨ k = 7 ∨ k = 8 ∨ k = 9 ∨ k = 10 ∨ k = 11 ∨ k = 12 ∨ k = 13 ∨ k = 14 ∨ k = 15 ∨ k = 16 ∨ k = 17 ∨ k = 18 ∨ k = 19 ∨ k = 20 ∨ k = 21 ∨ k = 22 ∨ k = 23 ∨ k = 24 ∨ k = 25 ∨ k = 26 ∨ k = 27 ∨ k = 28 ∨ k = 29 ∨ k = 30 ∨ k = 31 by omega) with rfl | rfl | rfl | rfl | rfl | rfl | rfl | rfl | rfl | rfl | rfl | rfl | rfl | rfl | rfl | rfl | rfl | rfl | rfl | rfl | rfl | rfl | rfl | rfl | rfl | rfl | rfl | rfl | rfl | rfl | rfl | rfl
      all_goals
        simp only [Int.cast_ofNat_Int] at hI
      all_goals
        first
        | ((have hy : y0 < 72057594037927936 := by rw [HY.out.1]; exact wdB_lt l _ 0 (by decide)); (have ho := or_add y0 m hy hm8); go_wp2; (refine ⟨⟨_, y0 * 256 + m, y1, y2, y3, by decide, rfl, Lib.hid ⟨by rw [HY.out.1, HM.out]; exact (wdB_step l _ 0 c HC.out (by decide)).symm, by rw [HY.out.2.1]; exact (wdB_same l _ 1 (by decide)).symm, by rw [HY.out.2.2.1]; exact (wdB_same l _ 2 (by decide)).symm, by rw [HY.out.2.2.2]; exact (wdB_same l _ 3 (by decide)).symm⟩, HR.out.1.setCell (by show w.heap.size ≤ w.heap.size + 1 + 1; omega) _, Blk.eq_ (HR.out.2.1.set_ 3 _) (by rw [show ((y0 * 256 + m : Nat) : Int) = (y0 : Int) * 256 + (m : Int) by omega]; rfl), HR.out.2.2.far (by show w.heap.size + 1 ≠ w.heap.size + 1 + 1; omega) _⟩, by simp [intOf]⟩))
        | ((have hy : y1 < 72057594037927936 := by rw [HY.out.2.1]; exact wdB_lt l _ 1 (by decide)); (have ho := or_add y1 m hy hm8); go_wp2; (refine ⟨⟨_, y0, y1 * 256 + m, y2, y3, by decide, rfl, Lib.hid ⟨by rw [HY.out.1]; exact (wdB_same l _ 0 (by decide)).symm, by rw [HY.out.2.1, HM.out]; exact (wdB_step l _ 1 c HC.out (by decide)).symm, by rw [HY.out.2.2.1]; exact (wdB_same l _ 2 (by decide)).symm, by rw [HY.out.2.2.2]; exact (wdB_same l _ 3 (by decide)).symm⟩, HR.out.1.setCell (by show w.heap.size ≤ w.heap.size + 1 + 1; omega) _, Blk.eq_ (HR.out.2.1.set_ 2 _) (by rw [show ((y1 * 256 + m : Nat) : Int) = (y1 : Int) * 256 + (m : Int) by omega]; rfl), HR.out.2.2.far (by show w.heap.size + 1 ≠ w.heap.size + 1 + 1; omega) _⟩, by simp [intOf]⟩))
        | ((have hy : y2 < 72057594037927936 := by rw [HY.out.2.2.1]; exact wdB_lt l _ 2 (by decide)); (have ho := or_add y2 m hy hm8); go_wp2; (refine ⟨⟨_, y0, y1, y2 * 256 + m, y3, by decide, rfl, Lib.hid ⟨by rw [HY.out.1]; exact (wdB_same l _ 0 (by decide)).symm, by rw [HY.out.2.1]; exact (wdB_same l _ 1 (by decide)).symm, by rw [HY.out.2.2.1, HM.out]; exact (wdB_step l _ 2 c HC.out (by decide)).symm, by rw [HY.out.2.2.2]; exact (wdB_same l _ 3 (by decide)).symm⟩, HR.out.1.setCell (by show w.heap.size ≤ w.heap.size + 1 + 1; omega) _, Blk.eq_ (HR.out.2.1.set_ 1 _) (by rw [show ((y2 * 256 + m : Nat) : Int) = (y2 : Int) * 256 + (m : Int) by omega]; rfl), HR.out.2.2.far (by show w.heap.size + 1 ≠ w.heap.size + 1 + 1; omega) _⟩, by simp [intOf]⟩))
        | ((have hy : y3 < 72057594037927936 := by rw [HY.out.2.2.2]; exact wdB_lt l _ 3 (by decide)); (have ho := or_add y3 m hy hm8); go_wp2; (refine ⟨⟨_, y0, y1, y2, y3 * 256 + m, by decide, rfl, Lib.hid ⟨by rw [HY.out.1]; exact (wdB_same l _ 0 (by decide)).symm, by rw [HY.out.2.1]; exact (wdB_same l _ 1 (by decide)).symm, by rw [HY.out.2.2.1]; exact (wdB_same l _ 2 (by decide)).symm, by rw [HY.out.2.2.2, HM.out]; exact (wdB_step l _ 3 c HC.out (by decide)).symm⟩, HR.out.1.setCell (by show w.heap.size ≤ w.heap.size + 1 + 1; omega) _, Blk.eq_ (HR.out.2.1.set_ 0 _) (by rw [show ((y3 * 256 + m : Nat) : Int) = (y3 : Int) * 256 + (m : Int) by omega]; rfl), HR.out.2.2.far (by show w.heap.size + 1 ≠ w.heap.size + 1 + 1; omega) _⟩, by simp [intOf]⟩))
    · have p1 : ¬ (k : Int) < 32 := by omega
      obtain rfl : k = 32 := by omega
      have b0 : y0 < 18446744073709551616 := by rw [HY.out.1]; exact wdB_lt8 l _ _
      have b1 : y1 < 18446744073709551616 := by rw [HY.out.2.1]; exact wdB_lt8 l _ _
      have b2 : y2 < 18446744073709551616 := by rw [HY.out.2.2.1]; exact wdB_lt8 l _ _
      have b3 : y3 < 18446744073709551616 := by rw [HY.out.2.2.2]; exact wdB_lt8 l _ _
      obtain ⟨z, hz⟩ : ∃ z, z = y3 + 18446744073709551616 * y2 + 340282366920938463463374607431768211456 * y1 + 6277101735386680763835789423207666416102355444464034512896 * y0 := ⟨_, rfl⟩
      have fz := fv_mk y3 y2 y1 y0 b3 b2 b1 b0
      rw [← hz] at fz
      have hzv : valB l = z := by rw [wdB_all l HL.out, hz, HY.out.1, HY.out.2.1, HY.out.2.2.1, HY.out.2.2.2]
      have HZ := Lib.hid hzv
      have FZ := Lib.hid fz.symm
      have HP := Lib.hid hP
      have HR := Lib.hid hR
      clear HY b0 b1 b2 b3 hz fz hzv q0 q1 q2 q3 ff hP hR
      go_wp2_with (first | ((with_reducible refine here_load (d := some 25) ?_); refine wpList_load_fv rfl _ _ rfl (w.heap.size + 2) rfl (z) _ _ _ (HP.out) (FZ.out) Tryd.underlying24 rfl (by kernel_rfl) ?_) | ((with_reducible refine here_store ?_); refine wpList_store_blk rfl _ _ _ rfl (w.heap.size + 1) (fcs (z)) rfl rfl _ _ (HR.out) (by kernel_rfl) (by rfl) (fcs_one _) ?_; intro vz hLz hqz hKz))
      exact bodyPost_ret (results_cell_row rfl _ _ (w.heap.size + 1) _ _ (0, 0) _ rfl hLz Tryd.underlying24 rfl (by kernel_rfl)) rfl ⟨by rw [HZ.out]; rfl, hb.trans (hqz _ (by omega))⟩
/-- what Read answers -/
def readS (l : List UInt8) : Nat × Bool := if valB l < pM then (valB l, true) else (0, false)
set_option maxHeartbeats 2000000 in
set_option maxRecDepth 100000 in
theorem read_any (w : World) (l : List UInt8) (hl : l.length = 32) : Calls Tryd.prog 28 #[.agg (l.map bv).toArray] w fun e w' => e = .returned (.tuple #[fv (readS l).1, .bool (readS l).2]) ∧ Below w.heap.size w w' := by
  obtain ⟨z, hz⟩ : ∃ z, z = valB l := ⟨_, rfl⟩
  have hzl : z < 115792089237316195423570985008687907853269984665640564039457584007913129639936 := by rw [hz]; exact valB_lt32 l hl
  obtain ⟨n, hn⟩ : ∃ n, n = z % pM := ⟨_, rfl⟩
  have hnl : n < 115792089237316195423570985008687907853269984665640564039457584007913129639936 := by rw [hn]; exact mod_lt z
  obtain ⟨b, hbd⟩ : ∃ b, b = decide (n ≠ z) := ⟨_, rfl⟩
  have eb : ∀ W, (binOp .neq 24 (fv n) (fv z)).run Tryd.prog W = .ok (.bool b) W := fun W => by rw [hbd]; exact run_neq_fv W n z hnl hzl
  have cw : ∀ w, Calls Tryd.prog 46 #[.agg (l.map bv).toArray] w fun e w' => e = .returned (fv z) ∧ Below w.heap.size w w' := by
    intro w; rw [hz]; exact words_any w l hl
  have cn : ∀ w, Calls Tryd.prog 36 #[fv z] w fun e w' => e = .returned (fv n) ∧ Below w.heap.size w w' := by
    intro w; rw [hn]; exact norm_any w z hzl
  have hS : readS l = if b = true then (0, false) else (z, true) := by
    unfold readS
    rw [← hz, hbd, hn]
    by_cases h : z < pM
    · rw [if_pos h, Nat.mod_eq_of_lt h]; simp
    · have h2 : z % pM ≠ z := fun e => h (by rw [← e]; exact mod_lt_p z)
      rw [if_neg h]; simp [h2]
  have HS := Lib.hid hS
  have HL := Lib.hid hl
  clear hl hz hzl hn hnl hbd hS
  go_enter Tryd.func28, Tryd.ntmps28
  go_wp2_with (first | ((with_reducible refine here_load (d := some 5) ?_); refine wpList_load_blk rfl _ _ rfl w.heap.size rfl _ _ _ ((Blk.new w _ _).alloc _) Tryd.underlying30 rfl (b32_info HL.out) ?_))
  refine (cw _).mono ?_
  rintro e w1 ⟨rfl, k1⟩
  have BR := Gr.blk k1 (blk_new2 w _ _ _)
  have sz := BR.lt
  have hB := Below.gr (below_alloc2 w _ _) k1
  clear k1 cw
  go_wp2_with (first | ((with_reducible refine here_store ?_); refine wpList_store_blk rfl _ _ _ rfl (w1.heap.size) (fcs (z)) rfl rfl _ _ (Blk.new w1 _ _) (by kernel_rfl) (by rfl) (fcs_one _) ?_; intro w2 hL2 hq2 hK2; have CR := hK2 _ (by omega) _ _ (BR.alloc _); have hB2 := (hB.alloc (by omega) _).trans (hq2 _ (by omega))))
  refine wp_region_G (fun _ => false) (by kernel_rfl) ?_
  try simp only [Act.put]
  refine wpAnyG_take 0 rfl (by kernel_rfl) (fun _ _ _ h => h) (YieldsG.loadF (by rfl) _ _ rfl (w1.heap.size) rfl (z) _ _ (hL2) (fv_fcs _) Tryd.underlying24 rfl (by kernel_rfl)) ?_
  try simp only [Act.put, List.setIfInBounds_toArray, List.set_cons_zero, List.set_cons_succ]
  refine wpAnyG_take 1 rfl (by kernel_rfl) (fun _ _ _ h => h) (YieldsG.call (v := fv n) (by rfl) 36 _ (fun w9 => by go_simp; try (first | with_reducible rfl | rfl)) (fun w9 h9 => cn w9)) ?_
  try simp only [Act.put, List.setIfInBounds_toArray, List.set_cons_zero, List.set_cons_succ]
  refine wpAnyG_take 2 rfl (by kernel_rfl) (fun _ _ _ h => h) (YieldsG.loadF (by rfl) _ _ rfl (w1.heap.size) rfl (z) _ _ (hL2) (fv_fcs _) Tryd.underlying24 rfl (by kernel_rfl)) ?_
  try simp only [Act.put, List.setIfInBounds_toArray, List.set_cons_zero, List.set_cons_succ]
  refine wpAnyG_take 3 rfl (by kernel_rfl) (fun _ _ _ h => h) (YieldsG.pure (v := .bool b) (by rfl) (fun w9 h9 => by go_simp; rw [run_eqGuard_fv]; simp only [Result.andThen_ok])) ?_
  try simp only [Act.put, List.setIfInBounds_toArray, List.set_cons_zero, List.set_cons_succ]
  refine wpAnyG_done (by kernel_rfl) (fun u hu => ?_)
  have hbu := Below.gr hB2 hu
  have BRu := Gr.blk hu CR
  have BP := Gr.blk hu hL2
  clear hu hB2 CR hL2 eb cn
  cases b
  · have HT : Hid (readS l = (z, true)) := Lib.hid (by rw [HS.out]; rfl)
    clear HS
    go_wp2_with (first | ((with_reducible refine here_load (d := some 12) ?_); refine wpList_load_fv rfl _ _ rfl (w1.heap.size) rfl (z) _ _ _ (BP) (fv_fcs _) Tryd.underlying24 rfl (by kernel_rfl) ?_) | ((with_reducible refine here_store ?_); refine wpList_store_blk rfl _ _ _ rfl (w.heap.size + 1) (fcs (z)) rfl rfl _ _ (BRu) (by kernel_rfl) (by rfl) (fcs_one _) ?_; intro vz hLz hqz hKz))
    exact bodyPost_ret (res_cell_tmp rfl _ _ (w.heap.size + 1) _ _ _ _ rfl hLz rfl Tryd.underlying24 rfl (by kernel_rfl)) rfl ⟨by rw [HT.out]; rfl, hbu.trans (hqz _ (by omega))⟩
  · have HT : Hid (readS l = (0, false)) := Lib.hid (by rw [HS.out]; rfl)
    clear HS
    go_wp2_with (first | ((with_reducible refine here_store ?_); refine wpList_store_blk rfl _ _ _ rfl (w.heap.size + 1) _ rfl rfl _ _ (BRu) (by kernel_rfl) (by rfl) (by simp [Value.oneCell']) ?_; intro vz hLz hqz hKz))
    exact bodyPost_ret (res_cell_tmp rfl _ _ (w.heap.size + 1) _ _ _ _ rfl hLz rfl Tryd.underlying24 rfl (by kernel_rfl)) rfl ⟨by rw [HT.out]; rfl, hbu.trans (hqz _ (by omega))⟩
set_option maxHeartbeats 2000000 in
set_option maxRecDepth 100000 in
theorem reduceB_any (w : World) (l : List UInt8) (hl : l.length = 32) : Calls Tryd.prog 23 #[.agg (l.map bv).toArray] w fun e w' => e = .returned (fv (valB l % pM)) ∧ Below w.heap.size w w' := by
  obtain ⟨z, hz⟩ : ∃ z, z = valB l := ⟨_, rfl⟩
  have hzl : z < 115792089237316195423570985008687907853269984665640564039457584007913129639936 := by rw [hz]; exact valB_lt32 l hl
  obtain ⟨n, hn⟩ : ∃ n, n = z % pM := ⟨_, rfl⟩
  have cw : ∀ w, Calls Tryd.prog 46 #[.agg (l.map bv).toArray] w fun e w' => e = .returned (fv z) ∧ Below w.heap.size w w' := by
    intro w; rw [hz]; exact words_any w l hl
  have cn : ∀ w, Calls Tryd.prog 36 #[fv z] w fun e w' => e = .returned (fv n) ∧ Below w.heap.size w w' := by
    intro w; rw [hn]; exact norm_any w z hzl
  rw [← hz, ← hn]
  have HL := Lib.hid hl
  clear hl hz hzl hn
  go_enter Tryd.func23, Tryd.ntmps23
  go_wp2_with (first | ((with_reducible refine here_load (d := some 3) ?_); refine wpList_load_blk rfl _ _ rfl w.heap.size rfl _ _ _ ((Blk.new w _ _).alloc _) Tryd.underlying30 rfl (b32_info HL.out) ?_))
  refine (cw _).mono ?_
  rintro e w1 ⟨rfl, k1⟩
  go_wp2_with fail
  refine (cn _).mono ?_
  rintro e w2 ⟨rfl, k2⟩
  have BR := Gr.blk k2 (Gr.blk k1 (blk_new2 w _ _ _))
  have hB := Below.gr (Below.gr (below_alloc2 w _ _) k1) k2
  clear k1 k2 cw cn
  go_wp2_with (first | ((with_reducible refine here_store ?_); refine wpList_store_blk rfl _ _ _ rfl (w.heap.size + 1) (fcs (n)) rfl rfl _ _ (BR) (by kernel_rfl) (by rfl) (fcs_one _) ?_; intro vz hLz hqz hKz))
  exact bodyPost_ret (results_cell_row rfl _ _ (w.heap.size + 1) _ _ (0, 0) _ rfl hLz Tryd.underlying24 rfl (by kernel_rfl)) rfl ⟨rfl, hB.trans (hqz _ (by omega))⟩

end Go.Proofs.YtbofhoonlmikcaaDoor.Sc

end
section
namespace Go.Proofs.YtbofhoonlmikcaaDoor.Cu
open Go.RowKit Go.Proofs.YtbofhoonlmikcaaDoor Go.Proofs.YtbofhoonlmikcaaDoor.Sy

/-- the name of that tag -/
def auxNm : ByteArray := ⟨#[66, 73, 80, 48, 51, 52, 48, 47, 97, 117, 120]⟩
/-- the name of that tag -/
def nonceNm : ByteArray := ⟨#[66, 73, 80, 48, 51, 52, 48, 47, 110, 111, 110, 99, 101]⟩
/-- the name of that tag -/
def challengeNm : ByteArray := ⟨#[66, 73, 80, 48, 51, 52, 48, 47, 99, 104, 97, 108, 108, 101, 110, 103, 101]⟩
theorem texts_blk {w : World} {g : Nat} {t : TypeId} {ts : List Sh.Tx} (hb : Blk w g t (ts.map Sh.Tx.val).toArray) (hok : ∀ x ∈ ts, x.ok w) : Sh.Texts w (some ⟨g, 0, none⟩) ts := fun _ =>
  ⟨g, 0, rfl, hb.lt, fun j y hy => by
    rw [Nat.zero_add]
    refine ⟨(hb.cell j).trans ?_, hok y (List.mem_of_getElem? hy)⟩
    rw [List.getElem?_toArray, List.getElem?_map, hy]
    rfl⟩
/-- a tagged digest of texts whose slices lie in one block -/
theorem tag_c (w : World) (nm : ByteArray) (hnm : nm.size ≤ 1000000000) (g : Nat) (t : TypeId) (ts : List Sh.Tx) (n ct : Nat) (X : List UInt8) (hX : Sh.cat ts = X) (hn : ts.length = n) (hb : Blk w g t (ts.map Sh.Tx.val).toArray) (hok : ∀ x ∈ ts, x.ok w) (hl : X.length ≤ 1000000000) (hn2 : n ≤ 1000000000) (ht : Sh.TabAt w 0) :
    Calls Tryd.prog 22 #[.string nm, .slice (some ⟨g, 0, none⟩) n ct] w (Gets w (.agg ((Sh.taggedS nm.data.toList X).map bv).toArray)) := by
  subst hX hn
  exact Sh.tagged_any w nm _ ts ct (texts_blk hb hok) ht hnm hl hn2
theorem ok_key {w : World} {g : Nat} {t : TypeId} {l : List UInt8} (hb : Blk w g t (l.map bv).toArray) (hl : l.length = 32) : (Sh.Tx.mk (some ⟨g, 0, none⟩) l 32).ok w := ⟨Sh.Src.of_blk hb, by show l.length ≤ 32; omega, by show 32 ≤ 9223372036854775807; omega⟩
theorem val_key {g : Nat} {l : List UInt8} (hl : l.length = 32) : (Sh.Tx.mk (some ⟨g, 0, none⟩) l 32).val = .slice (some ⟨g, 0, none⟩) 32 32 := by
  unfold Sh.Tx.val
  rw [hl]
theorem ok3 {w : World} {a b c : Sh.Tx} (ha : a.ok w) (hb : b.ok w) (hc : c.ok w) : ∀ x ∈ [a, b, c], x.ok w := fun x hx => by
  simp only [List.mem_cons, List.not_mem_nil, or_false] at hx
  rcases hx with rfl | rfl | rfl <;> assumption
/-- two arrays of 32 bytes and a text that came in -/
theorem tag3_c (w : World) (nm : ByteArray) (hnm : nm.size ≤ 1000000000) (g g1 g2 : Nat) (t t1 t2 : TypeId) (x y m : List UInt8) (A : Option Addr) (c : Nat) (hx : x.length = 32) (hy : y.length = 32) (n : Nat) (hn : m.length = n) (hm : n ≤ 999999900) (hc : n ≤ c) (hc2 : c ≤ 9223372036854775807)
    (h1 : Blk w g1 t1 (x.map bv).toArray) (h2 : Blk w g2 t2 (y.map bv).toArray) (hs : Sh.Src w A m) (hb : Blk w g t #[.slice (some ⟨g1, 0, none⟩) 32 32, .slice (some ⟨g2, 0, none⟩) 32 32, .slice A n c]) (ht : Sh.TabAt w 0) :
    Calls Tryd.prog 22 #[.string nm, .slice (some ⟨g, 0, none⟩) 3 3] w (Gets w (.agg ((Sh.taggedS nm.data.toList (x ++ y ++ m)).map bv).toArray)) := by
  subst hn
  refine tag_c w nm hnm g t [⟨some ⟨g1, 0, none⟩, x, 32⟩, ⟨some ⟨g2, 0, none⟩, y, 32⟩, ⟨A, m, c⟩] 3 3 (x ++ y ++ m) (by simp [Sh.cat]) rfl ?_ (ok3 (ok_key h1 hx) (ok_key h2 hy) ⟨hs, hc, hc2⟩) (by rw [List.length_append, List.length_append, hx, hy]; omega) (by decide) ht
  rw [List.map_cons, List.map_cons, List.map_cons, List.map_nil, val_key hx, val_key hy]
  exact hb
/-- what a signature has to answer -/
def chalS (x key m : List UInt8) : Nat := valB (Sh.taggedS challengeNm.data.toList (x ++ key ++ m)) % Sc.pM
theorem tagS_length (nm m : List UInt8) : (Sh.taggedS nm m).length = 32 := Sh.sum_length _
set_option maxHeartbeats 4000000 in
set_option maxRecDepth 100000 in
theorem challenge_any (w : World) (x key : List UInt8) (hx : x.length = 32) (hkey : key.length = 32) (A : Option Addr) (m : List UInt8) (n c : Nat) (hn : m.length = n) (hm : n ≤ 999999900) (hc : n ≤ c) (hc2 : c ≤ 9223372036854775807) (hs : Sh.Src w A m) (ht : Sh.TabAt w 0) : Calls Tryd.prog 13 #[.agg (x.map bv).toArray, .agg (key.map bv).toArray, .slice A n c] w (Gets w (fv (chalS x key m))) := by
  refine Sy.enter (args := [.agg (x.map bv).toArray, .agg (key.map bv).toArray, .slice A n c]) Tryd.func13 rfl kL ?_
  refine sC ?_
  refine sM 31 (x.map bv).toArray (fun g0 => ?_)
  refine sM 31 (key.map bv).toArray (fun g1 => ?_)
  refine sM 24 (fcs 0) (fun g2 => ?_)
  refine sH (fun j => j == 6) ?_
  refine sZ 0 rfl (.slice (some ⟨g0, 0, none⟩) 32 32) <| sZ 1 rfl (.slice (some ⟨g1, 0, none⟩) 32 32) <| sZ 2 rfl (.slice A n c) ?_
  refine Sy.makeD 3 rfl kR kR 25 #[.slice (some ⟨g0, 0, none⟩) 32 32, .slice (some ⟨g1, 0, none⟩) 32 32, .slice A n c] (fun g => .slice (some ⟨g, 0, none⟩) 3 3) kF (fun g3 => ?_)
  refine sD 4 rfl (.agg ((Sh.taggedS challengeNm.data.toList (x ++ key ++ m)).map bv).toArray) (qG 22 #[.string challengeNm, .slice (some ⟨g3, 0, none⟩) 3 3] (fun w hw => tag3_c w challengeNm (by decide) g3 g0 g1 _ _ _ x key m A c hx hkey n hn hm hc hc2 (hw.get (i := 0) rfl) (hw.get (i := 1) rfl) (hs.below hw.below) (hw.get (i := 3) rfl) (ht.below hw.below ht.lt))) <| sD 5 rfl (fv (valB (Sh.taggedS challengeNm.data.toList (x ++ key ++ m)) % Sc.pM)) (qF 23 #[.agg ((Sh.taggedS challengeNm.data.toList (x ++ key ++ m)).map bv).toArray] (fun w => Sc.reduceB_any w (Sh.taggedS challengeNm.data.toList (x ++ key ++ m)) (tagS_length _ _))) <| sX 6 rfl 2 g2 24 (fcs 0) (fcs (valB (Sh.taggedS challengeNm.data.toList (x ++ key ++ m)) % Sc.pM)) (wS 0 24 (fcs (valB (Sh.taggedS challengeNm.data.toList (x ++ key ++ m)) % Sc.pM)) rfl) ?_
  refine sI ?_
  refine Sy.ret ?_
  exact rC (v := fv (valB (Sh.taggedS challengeNm.data.toList (x ++ key ++ m)) % Sc.pM)) 24 g2 2 (fcs (valB (Sh.taggedS challengeNm.data.toList (x ++ key ++ m)) % Sc.pM)) rfl Tryd.underlying24
end Go.Proofs.YtbofhoonlmikcaaDoor.Cu

end
