/-
  Texts of ours, put together: CrvU, CrvF, CrvG, CrvH, ScBase, ScOps, CurveAlive, CurveBackL, SigA, ScEq, ScB32, SigB, SymX, SigC, ScProd.
-/
import Derived.Test.YtfhcpdbahbbmaaaGreatDoorBS4
set_option linter.unusedVariables false
set_option linter.unusedSimpArgs false
section
namespace Go.Proofs.YtfhcpdbahbbmaaaGreatDoor.Cu
open Go.RowKit Go.Proofs.YtfhcpdbahbbmaaaGreatDoor Go.Proofs.YtfhcpdbahbbmaaaGreatDoor.Sy

theorem one_part {w : World} {g : Nat} {vs : List Value} (h : w.rangeAt g 0 vs) : ∀ j, j < 1 → w.rangeAt g (0 + j * 13) vs := fun j hj => by
 obtain rfl : j = 0 := by omega
 exact h
def pX : Pt → Nat
 | none => 0
 | some (x, _) => x.val
def pY : Pt → Nat
 | none => 0
 | some (_, y) => y.val
def pI : Pt → Bool
 | none => true
 | some _ => false
theorem ptv_parts : ∀ P : Pt, ptv P = pv (pX P) (pY P) (pI P)
 | none => rfl
 | some (_, _) => rfl
theorem pX_lt : ∀ P : Pt, pX P < K4
 | none => by show 0 < _; decide
 | some (x, _) => lt4 x
theorem pY_lt : ∀ P : Pt, pY P < K4
 | none => by show 0 < _; decide
 | some (_, y) => lt4 y
theorem dec_parts : ∀ {P : Pt}, Ec.On P → dec (pX P) (pY P) (pI P) = P
 | none, _ => dec_zero
 | some (x, y), h => dec_fin x y h
set_option maxHeartbeats 4000000 in
set_option maxRecDepth 100000 in
theorem mul_any (w : World) (k x y : Nat) (i : Bool) (hk : k < K4) (hx : x < K4) (hy : y < K4) : Calls Tryz.prog 93 #[fv k, pv x y i] w (Gets w (ptv (Ec.nm finv (k % Sc.pM) (dec x y i)))) := by
 obtain ⟨R, hR⟩ : ∃ R, R = Ec.sumL finv (fun t => Ec.nm finv ((fun _ : Nat => (⟨k, x, y, i⟩ : Trm)) t).kn ((fun _ : Nat => (⟨k, x, y, i⟩ : Trm)) t).pt) (List.range 1) := ⟨_, rfl⟩
 have e : Ec.nm finv (k % Sc.pM) (dec x y i) = R := by rw [hR]; exact (Ec.zero_add (inv := finv) _).symm
 rw [e, ptv_parts]
 refine Sy.enter (args := [fv k, pv x y i]) Tryz.func93 rfl kL ?_
 refine sC ?_
 refine sM 24 (fcs k) (fun g0 => ?_)
 refine sM 71 (pcs x y i) (fun g1 => ?_)
 refine sM 71 (pcs 0 0 false) (fun g2 => ?_)
 refine sA ?_
 refine sS (fv k) (qL 0 g0 0 4 24 24 (fcs k) rfl Tryz.underlying24) <| sS (pv x y i) (qL 1 g1 0 9 71 71 (pcs x y i) rfl Tryz.underlying71) <| sP (trv k x y i) ?_
 refine Sy.make kR 176 (trcs k x y i) (fun g => .slice (some ⟨g, 0, none⟩) 1 1) kF (fun g3 => ?_)
 refine sS (pv (pX R) (pY R) (pI R)) (qG 143 #[.slice (some ⟨g3, 0, none⟩) 1 1] (fun w hw => by rw [← ptv_parts, hR]; exact multi_any w _ g3 0 1 1 (fun _ => ⟨k, x, y, i⟩) (Nat.le_refl _) (by decide) (fun _ => ⟨hk, hx, hy⟩) (fun _ => ⟨rfl, (hw.get (i := 3) rfl).lt, one_part (blk_range (hw.get (i := 3) rfl) kR)⟩))) <| sW 2 g2 71 (pcs 0 0 false) (pcs (pX R) (pY R) (pI R)) (wS 0 71 (pcs (pX R) (pY R) (pI R)) rfl) ?_
 refine sG <| Sy.ret ?_
 exact rC (v := pv (pX R) (pY R) (pI R)) 71 g2 2 (pcs (pX R) (pY R) (pI R)) rfl Tryz.underlying71
end Go.Proofs.YtfhcpdbahbbmaaaGreatDoor.Cu

end
section
namespace Go.Proofs.YtfhcpdbahbbmaaaGreatDoor.Cu
open Go.RowKit Go.Proofs.YtfhcpdbahbbmaaaGreatDoor Go.Proofs.YtfhcpdbahbbmaaaGreatDoor.Sy

def encS : Pt → List UInt8
 | none => List.replicate 33 0
 | some (x, y) => (if y.val % 2 = 1 then 3 else 2) :: bytesS x.val
theorem encS_length : ∀ P, (encS P).length = 33
 | none => rfl
 | some (x, y) => by simp [encS, bytesS_length]
theorem val_neg' (y : Fp) (h : y ≠ 0) : (-y).val % 2 ≠ y.val % 2 := by
 have hs : y + -y = 0 := by grobner
 have h1 := Ec.val_of_sum hs h
 have h2 : pM % 2 = 1 := by decide +kernel
 omega
theorem lift_x (x y : Fp) (h : y * y = x * x * x + 7) : liftP (bytesS x.val) = if y.val % 2 = 1 then some (x, -y) else some (x, y) := by
 have hv : valB (bytesS x.val) = x.val := valB_bytesS _ (lt4 x)
 have hc : cubeN x.val = mulP y.val y.val := by
  rw [cubeN_val, ← h]
  rfl
 obtain ⟨s, hs, hsn⟩ := sqrt_sq y.val
 have hb : liftB (bytesS x.val) = true := by
  unfold liftB
  rw [hv, hc, hs]
  simp [x.isLt]
 obtain ⟨u, r, e1, e2, e3, e4, e5⟩ := lift_yes hb
 rw [hv] at e1
 have eu : u = x := Fin.ext e1
 subst eu
 rw [hv, hc, hs] at e2
 have e2 : r.val = s := e2
 rw [e3]
 have hy := no_two u y h
 rcases hsn with q | q
 ·have er : r = y := Fin.ext (by rw [e2, q, Nat.mod_eq_of_lt y.isLt])
  subst er
  rw [if_neg (by omega)]
 ·have er : r = -y := Fin.ext (by rw [e2, q, val_neg])
  subst er
  have := val_neg' y hy
  rw [if_pos (by omega)]
theorem list32 (m : List UInt8) (h : m.length = 32) : ∃ a0 a1 a2 a3 a4 a5 a6 a7 a8 a9 a10 a11 a12 a13 a14 a15 a16 a17 a18 a19 a20 a21 a22 a23 a24 a25 a26 a27 a28 a29 a30 a31 : UInt8, m = [a0, a1, a2, a3, a4, a5, a6, a7, a8, a9, a10, a11, a12, a13, a14, a15, a16, a17, a18, a19, a20, a21, a22, a23, a24, a25, a26, a27, a28, a29, a30, a31] := by
 match m, h with
 | [a0, a1, a2, a3, a4, a5, a6, a7, a8, a9, a10, a11, a12, a13, a14, a15, a16, a17, a18, a19, a20, a21, a22, a23, a24, a25, a26, a27, a28, a29, a30, a31], _ => exact ⟨a0, a1, a2, a3, a4, a5, a6, a7, a8, a9, a10, a11, a12, a13, a14, a15, a16, a17, a18, a19, a20, a21, a22, a23, a24, a25, a26, a27, a28, a29, a30, a31,  rfl⟩
theorem eql_u8 (w : World) (F : Slots) (o : Oper) (x y : Operand) (a : UInt8) (k : Nat) (hk : k < 256) {yt : TypeId} (ho : o.op = .binOp .eql 5 x y yt) (hx : evF F x = bv a) (hy : evF F y = .int .u8 k) : (execOp (evF F) o).run Tryz.prog w = .ok (.value (.bool (decide (a = UInt8.ofNat k)))) w := by
 have h1 := Tryz.underlying5
 have e : ((a.toNat : Int) == (k : Int)) = decide (a = UInt8.ofNat k) := by
  rw [Bool.eq_iff_iff]
  simp
  constructor
  ·intro h
   have : a.toNat = k := by omega
   exact UInt8.toNat_inj.1 (by rw [this, UInt8.toNat_ofNat']; omega)
  ·rintro rfl
   rw [UInt8.toNat_ofNat']
   omega
 unfold execOp
 simp only [ho, hx, hy, bv]
 simp [eqGuard, binOp, Op.intCmp, e]
end Go.Proofs.YtfhcpdbahbbmaaaGreatDoor.Cu

end
section
namespace Go.Proofs.YtfhcpdbahbbmaaaGreatDoor.Cu
open Go.RowKit Go.Proofs.YtfhcpdbahbbmaaaGreatDoor Go.Proofs.YtfhcpdbahbbmaaaGreatDoor.Sy
set_option maxRecDepth 100000
set_option maxHeartbeats 4000000

theorem enc_none (w : World) (x y : Nat) (i : Bool) (hx : x < K4) (hy : y < K4) (h : dec x y i = none) : Calls Tryz.prog 92 #[pv x y i] w (Gets w (.agg ((encS none).map bv).toArray)) := by
 refine Sy.enter (args := [pv x y i]) Tryz.func92 rfl kL ?_
 refine sC ?_
 refine sM 71 (pcs x y i) (fun g0 => ?_)
 refine Sy.make kR 139 (Zl 33).toArray ptr kF (fun g1 => ?_)
 refine sA ?_
 refine Sy.make kR 139 (Zl 33).toArray ptr kF (fun g2 => ?_)
 refine sA ?_
 refine sS (pv x y i) (qL 0 g0 0 9 71 71 (pcs x y i) rfl Tryz.underlying71) <| sS (pv 0 0 true) (qF 139 #[pv x y i] (fun w => by have hrr := right_c w x y i lK lK; rw [h] at hrr; exact hrr)) <| sW 0 g0 71 (pcs x y i) (pcs 0 0 true) (wS 0 71 (pcs 0 0 true) rfl) ?_
 refine sG <| Sy.seq <| Sy.seq ?_
 refine Sy.regionD (fun j => false) kR ?_
 refine sD 0 rfl (pv 0 0 true) (qL 0 g0 0 9 71 71 (pcs 0 0 true) rfl Tryz.underlying71) <| sD 1 rfl (pv 0 0 true) (qF 140 #[] (zero_c)) <| sD 2 rfl (.bool true) (Quiet.pure (fun w => eql_pt w _ _ _ _ 0 0 true 0 0 true rfl rfl rfl (by decide) (by decide) (by decide) (by decide))) ?_
 refine sI ?_
 refine sT <| sC ?_
 refine sS (.agg ((Zl 33) : List Value).toArray) (Quiet.load 2 g2 0 33 139 139 (Zl 33).toArray _ _ rfl kR kR Tryz.underlying139 rfl kR _ kR kL) ?_
 refine Sy.write kR 1 g1 139 (Zl 33).toArray (Zl 33).toArray kR (Writes.store 0 139 (Zl 33).toArray _ _ rfl kR kR kR kL kR kR) ?_
 refine sG <| Sy.ret <| Sy.then_ret ?_
 rw [show (.agg ((encS none).map bv).toArray : Value) = .agg ((Zl 33) : List Value).toArray from by kernel_rfl]
 exact Sy.ret1 (v := .agg ((Zl 33) : List Value).toArray) rfl (.inl (Res.cell (ty' := 139) g1 1 (Zl 33).toArray _ kR kR Tryz.underlying139 rfl kR kR))
theorem enc_some (w : World) (x y : Nat) (i : Bool) (hx : x < K4) (hy : y < K4) (u v : Fp) (h : dec x y i = some (u, v)) : Calls Tryz.prog 92 #[pv x y i] w (Gets w (.agg ((encS (some (u, v))).map bv).toArray)) := by
 obtain ⟨a0, a1, a2, a3, a4, a5, a6, a7, a8, a9, a10, a11, a12, a13, a14, a15, a16, a17, a18, a19, a20, a21, a22, a23, a24, a25, a26, a27, a28, a29, a30, a31, hm⟩ := list32 (bytesS u.val) (bytesS_length _)
 have cB : ∀ w, Calls Tryz.prog 142 #[fv u.val] w (Gets w (.agg ((bv a0 :: bv a1 :: [bv a2, bv a3, bv a4, bv a5, bv a6, bv a7, bv a8, bv a9, bv a10, bv a11, bv a12, bv a13, bv a14, bv a15, bv a16, bv a17, bv a18, bv a19, bv a20, bv a21, bv a22, bv a23, bv a24, bv a25, bv a26, bv a27, bv a28, bv a29, bv a30, bv a31]) : List Value).toArray)) := fun w => by
  have hh := bytes_any w u.val (lt4 u)
  rw [Nat.mod_eq_of_lt u.isLt, hm] at hh
  exact hh
 refine Sy.enter (args := [pv x y i]) Tryz.func92 rfl kL ?_
 refine sC ?_
 refine sM 71 (pcs x y i) (fun g0 => ?_)
 refine Sy.make kR 139 (Zl 33).toArray ptr kF (fun g1 => ?_)
 refine sA ?_
 refine Sy.make kR 139 (Zl 33).toArray ptr kF (fun g2 => ?_)
 refine sA ?_
 refine sS (pv x y i) (qL 0 g0 0 9 71 71 (pcs x y i) rfl Tryz.underlying71) <| sS (pv u.val v.val false) (qF 139 #[pv x y i] (fun w => by have hrr := right_c w x y i lK lK; rw [h] at hrr; exact hrr)) <| sW 0 g0 71 (pcs x y i) (pcs u.val v.val false) (wS 0 71 (pcs u.val v.val false) rfl) ?_
 refine sG <| Sy.seq <| Sy.seq ?_
 refine Sy.regionD (fun j => false) kR ?_
 refine sD 0 rfl (pv u.val v.val false) (qL 0 g0 0 9 71 71 (pcs u.val v.val false) rfl Tryz.underlying71) <| sD 1 rfl (pv 0 0 true) (qF 140 #[] (zero_c)) <| sD 2 rfl (.bool false) (Quiet.pure (fun w => eql_pt_ne w _ _ _ _ _ _ _ _ _ _ rfl rfl rfl lK lK lK lK (by decide))) ?_
 refine sI ?_
 refine sU <| Sy.skip <| sB ?_
 refine sP (.pointer (some ⟨g2, 0, none⟩)) ?_
 refine Sy.write kR 2 g2 139 (Zl 33).toArray (.int .u8 2 :: Zl 32).toArray kR (wO 0 5 (.int .u8 2) rfl) ?_
 refine sG <| Sy.seq <| sC ?_
 refine sP (.pointer (some ⟨g0, 4, none⟩)) <| sS (fv v.val) (qL 0 g0 4 4 71 69 (pcs u.val v.val false) rfl Tryz.underlying69) ?_
 obtain ⟨b1, hb1⟩ : ∃ z : Bool, z = decide (v.val % pM % 2 = 1) := ⟨_, rfl⟩
 refine sS (.bool b1) (qF 141 #[fv v.val] (fun w => by rw [hb1]; exact odd_any w v.val lK)) ?_
 refine sG ?_
 cases b1
 ·refine sU <| Sy.skip <| sB ?_
  refine sP (.pointer (some ⟨g0, 0, none⟩)) <| sS (fv u.val) (qL 0 g0 0 4 71 69 (pcs u.val v.val false) rfl Tryz.underlying69) <| sS (.agg ((bv a0 :: bv a1 :: [bv a2, bv a3, bv a4, bv a5, bv a6, bv a7, bv a8, bv a9, bv a10, bv a11, bv a12, bv a13, bv a14, bv a15, bv a16, bv a17, bv a18, bv a19, bv a20, bv a21, bv a22, bv a23, bv a24, bv a25, bv a26, bv a27, bv a28, bv a29, bv a30, bv a31]) : List Value).toArray) (qF 142 #[fv u.val] (cB)) ?_
  refine Sy.make kR 30 (Zl 32).toArray ptr kF (fun g3 => ?_)
  refine Sy.write kR 3 g3 30 (Zl 32).toArray (bv a0 :: bv a1 :: [bv a2, bv a3, bv a4, bv a5, bv a6, bv a7, bv a8, bv a9, bv a10, bv a11, bv a12, bv a13, bv a14, bv a15, bv a16, bv a17, bv a18, bv a19, bv a20, bv a21, bv a22, bv a23, bv a24, bv a25, bv a26, bv a27, bv a28, bv a29, bv a30, bv a31]).toArray kR (Writes.store 0 30 (bv a0 :: bv a1 :: [bv a2, bv a3, bv a4, bv a5, bv a6, bv a7, bv a8, bv a9, bv a10, bv a11, bv a12, bv a13, bv a14, bv a15, bv a16, bv a17, bv a18, bv a19, bv a20, bv a21, bv a22, bv a23, bv a24, bv a25, bv a26, bv a27, bv a28, bv a29, bv a30, bv a31]).toArray _ _ rfl kR kR kR kL kR kR) ?_
  refine sH (fun j => j == 2) ?_
  refine sZ 0 rfl (.slice (some ⟨g2, 1, none⟩) 32 32) <| sZ 1 rfl (.slice (some ⟨g3, 0, none⟩) 32 32) ?_
  refine Sy.writeVD 2 rfl kR (by rfl) kR 2 g2 139 (.int .u8 2 :: Zl 32).toArray (.int .u8 2 :: bv a0 :: bv a1 :: [bv a2, bv a3, bv a4, bv a5, bv a6, bv a7, bv a8, bv a9, bv a10, bv a11, bv a12, bv a13, bv a14, bv a15, bv a16, bv a17, bv a18, bv a19, bv a20, bv a21, bv a22, bv a23, bv a24, bv a25, bv a26, bv a27, bv a28, bv a29, bv a30, bv a31]).toArray (.int .i64 32) kR (WritesV.copy _ _ 25 25 _ rfl Tryz.underlying25 kR 2 g2 1 32 32 139 (.int .u8 2 :: Zl 32).toArray (.int .u8 2 :: bv a0 :: bv a1 :: [bv a2, bv a3, bv a4, bv a5, bv a6, bv a7, bv a8, bv a9, bv a10, bv a11, bv a12, bv a13, bv a14, bv a15, bv a16, bv a17, bv a18, bv a19, bv a20, bv a21, bv a22, bv a23, bv a24, bv a25, bv a26, bv a27, bv a28, bv a29, bv a30, bv a31]).toArray kR kR 3 g3 0 32 32 30 (bv a0 :: bv a1 :: [bv a2, bv a3, bv a4, bv a5, bv a6, bv a7, bv a8, bv a9, bv a10, bv a11, bv a12, bv a13, bv a14, bv a15, bv a16, bv a17, bv a18, bv a19, bv a20, bv a21, bv a22, bv a23, bv a24, bv a25, bv a26, bv a27, bv a28, bv a29, bv a30, bv a31]).toArray kR kR (bv a0 :: bv a1 :: [bv a2, bv a3, bv a4, bv a5, bv a6, bv a7, bv a8, bv a9, bv a10, bv a11, bv a12, bv a13, bv a14, bv a15, bv a16, bv a17, bv a18, bv a19, bv a20, bv a21, bv a22, bv a23, bv a24, bv a25, bv a26, bv a27, bv a28, bv a29, bv a30, bv a31]) kR kR (all_one _ kR) kL kR) ?_
  refine sE ?_
  refine sB ?_
  refine sS (.agg ((.int .u8 2 :: bv a0 :: bv a1 :: [bv a2, bv a3, bv a4, bv a5, bv a6, bv a7, bv a8, bv a9, bv a10, bv a11, bv a12, bv a13, bv a14, bv a15, bv a16, bv a17, bv a18, bv a19, bv a20, bv a21, bv a22, bv a23, bv a24, bv a25, bv a26, bv a27, bv a28, bv a29, bv a30, bv a31]) : List Value).toArray) (Quiet.load 2 g2 0 33 139 139 (.int .u8 2 :: bv a0 :: bv a1 :: [bv a2, bv a3, bv a4, bv a5, bv a6, bv a7, bv a8, bv a9, bv a10, bv a11, bv a12, bv a13, bv a14, bv a15, bv a16, bv a17, bv a18, bv a19, bv a20, bv a21, bv a22, bv a23, bv a24, bv a25, bv a26, bv a27, bv a28, bv a29, bv a30, bv a31]).toArray _ _ rfl kR kR Tryz.underlying139 rfl kR _ kR kL) ?_
  refine Sy.write kR 1 g1 139 (Zl 33).toArray (.int .u8 2 :: bv a0 :: bv a1 :: [bv a2, bv a3, bv a4, bv a5, bv a6, bv a7, bv a8, bv a9, bv a10, bv a11, bv a12, bv a13, bv a14, bv a15, bv a16, bv a17, bv a18, bv a19, bv a20, bv a21, bv a22, bv a23, bv a24, bv a25, bv a26, bv a27, bv a28, bv a29, bv a30, bv a31]).toArray kR (Writes.store 0 139 (.int .u8 2 :: bv a0 :: bv a1 :: [bv a2, bv a3, bv a4, bv a5, bv a6, bv a7, bv a8, bv a9, bv a10, bv a11, bv a12, bv a13, bv a14, bv a15, bv a16, bv a17, bv a18, bv a19, bv a20, bv a21, bv a22, bv a23, bv a24, bv a25, bv a26, bv a27, bv a28, bv a29, bv a30, bv a31]).toArray _ _ rfl kR kR kR kL kR kR) ?_
  refine sG <| Sy.ret ?_
  rw [show (.agg ((encS (some (u, v))).map bv).toArray : Value) = .agg ((.int .u8 2 :: bv a0 :: bv a1 :: [bv a2, bv a3, bv a4, bv a5, bv a6, bv a7, bv a8, bv a9, bv a10, bv a11, bv a12, bv a13, bv a14, bv a15, bv a16, bv a17, bv a18, bv a19, bv a20, bv a21, bv a22, bv a23, bv a24, bv a25, bv a26, bv a27, bv a28, bv a29, bv a30, bv a31]) : List Value).toArray from by
   have e : encS (some (u, v)) = (if v.val % 2 = 1 then 3 else 2) :: bytesS u.val := rfl
   rw [e, hm, if_neg (by have q := hb1.symm; rw [Nat.mod_eq_of_lt v.isLt] at q; exact of_decide_eq_false q)]
   rfl]
  exact Sy.ret1 (v := .agg ((.int .u8 2 :: bv a0 :: bv a1 :: [bv a2, bv a3, bv a4, bv a5, bv a6, bv a7, bv a8, bv a9, bv a10, bv a11, bv a12, bv a13, bv a14, bv a15, bv a16, bv a17, bv a18, bv a19, bv a20, bv a21, bv a22, bv a23, bv a24, bv a25, bv a26, bv a27, bv a28, bv a29, bv a30, bv a31]) : List Value).toArray) rfl (.inl (Res.cell (ty' := 139) g1 1 (.int .u8 2 :: bv a0 :: bv a1 :: [bv a2, bv a3, bv a4, bv a5, bv a6, bv a7, bv a8, bv a9, bv a10, bv a11, bv a12, bv a13, bv a14, bv a15, bv a16, bv a17, bv a18, bv a19, bv a20, bv a21, bv a22, bv a23, bv a24, bv a25, bv a26, bv a27, bv a28, bv a29, bv a30, bv a31]).toArray _ kR kR Tryz.underlying139 rfl kR kR))
 ·refine sT <| Sy.region ?_
  refine sP (.pointer (some ⟨g2, 0, none⟩)) ?_
  refine Sy.write kR 2 g2 139 (.int .u8 2 :: Zl 32).toArray (.int .u8 3 :: Zl 32).toArray kR (wO 0 5 (.int .u8 3) rfl) ?_
  refine sA ?_
  refine sP (.pointer (some ⟨g0, 0, none⟩)) <| sS (fv u.val) (qL 0 g0 0 4 71 69 (pcs u.val v.val false) rfl Tryz.underlying69) <| sS (.agg ((bv a0 :: bv a1 :: [bv a2, bv a3, bv a4, bv a5, bv a6, bv a7, bv a8, bv a9, bv a10, bv a11, bv a12, bv a13, bv a14, bv a15, bv a16, bv a17, bv a18, bv a19, bv a20, bv a21, bv a22, bv a23, bv a24, bv a25, bv a26, bv a27, bv a28, bv a29, bv a30, bv a31]) : List Value).toArray) (qF 142 #[fv u.val] (cB)) ?_
  refine Sy.make kR 30 (Zl 32).toArray ptr kF (fun g4 => ?_)
  refine Sy.write kR 3 g4 30 (Zl 32).toArray (bv a0 :: bv a1 :: [bv a2, bv a3, bv a4, bv a5, bv a6, bv a7, bv a8, bv a9, bv a10, bv a11, bv a12, bv a13, bv a14, bv a15, bv a16, bv a17, bv a18, bv a19, bv a20, bv a21, bv a22, bv a23, bv a24, bv a25, bv a26, bv a27, bv a28, bv a29, bv a30, bv a31]).toArray kR (Writes.store 0 30 (bv a0 :: bv a1 :: [bv a2, bv a3, bv a4, bv a5, bv a6, bv a7, bv a8, bv a9, bv a10, bv a11, bv a12, bv a13, bv a14, bv a15, bv a16, bv a17, bv a18, bv a19, bv a20, bv a21, bv a22, bv a23, bv a24, bv a25, bv a26, bv a27, bv a28, bv a29, bv a30, bv a31]).toArray _ _ rfl kR kR kR kL kR kR) ?_
  refine sH (fun j => j == 2) ?_
  refine sZ 0 rfl (.slice (some ⟨g2, 1, none⟩) 32 32) <| sZ 1 rfl (.slice (some ⟨g4, 0, none⟩) 32 32) ?_
  refine Sy.writeVD 2 rfl kR (by rfl) kR 2 g2 139 (.int .u8 3 :: Zl 32).toArray (.int .u8 3 :: bv a0 :: bv a1 :: [bv a2, bv a3, bv a4, bv a5, bv a6, bv a7, bv a8, bv a9, bv a10, bv a11, bv a12, bv a13, bv a14, bv a15, bv a16, bv a17, bv a18, bv a19, bv a20, bv a21, bv a22, bv a23, bv a24, bv a25, bv a26, bv a27, bv a28, bv a29, bv a30, bv a31]).toArray (.int .i64 32) kR (WritesV.copy _ _ 25 25 _ rfl Tryz.underlying25 kR 2 g2 1 32 32 139 (.int .u8 3 :: Zl 32).toArray (.int .u8 3 :: bv a0 :: bv a1 :: [bv a2, bv a3, bv a4, bv a5, bv a6, bv a7, bv a8, bv a9, bv a10, bv a11, bv a12, bv a13, bv a14, bv a15, bv a16, bv a17, bv a18, bv a19, bv a20, bv a21, bv a22, bv a23, bv a24, bv a25, bv a26, bv a27, bv a28, bv a29, bv a30, bv a31]).toArray kR kR 3 g4 0 32 32 30 (bv a0 :: bv a1 :: [bv a2, bv a3, bv a4, bv a5, bv a6, bv a7, bv a8, bv a9, bv a10, bv a11, bv a12, bv a13, bv a14, bv a15, bv a16, bv a17, bv a18, bv a19, bv a20, bv a21, bv a22, bv a23, bv a24, bv a25, bv a26, bv a27, bv a28, bv a29, bv a30, bv a31]).toArray kR kR (bv a0 :: bv a1 :: [bv a2, bv a3, bv a4, bv a5, bv a6, bv a7, bv a8, bv a9, bv a10, bv a11, bv a12, bv a13, bv a14, bv a15, bv a16, bv a17, bv a18, bv a19, bv a20, bv a21, bv a22, bv a23, bv a24, bv a25, bv a26, bv a27, bv a28, bv a29, bv a30, bv a31]) kR kR (all_one _ kR) kL kR) ?_
  refine sE ?_
  refine sB ?_
  refine sS (.agg ((.int .u8 3 :: bv a0 :: bv a1 :: [bv a2, bv a3, bv a4, bv a5, bv a6, bv a7, bv a8, bv a9, bv a10, bv a11, bv a12, bv a13, bv a14, bv a15, bv a16, bv a17, bv a18, bv a19, bv a20, bv a21, bv a22, bv a23, bv a24, bv a25, bv a26, bv a27, bv a28, bv a29, bv a30, bv a31]) : List Value).toArray) (Quiet.load 2 g2 0 33 139 139 (.int .u8 3 :: bv a0 :: bv a1 :: [bv a2, bv a3, bv a4, bv a5, bv a6, bv a7, bv a8, bv a9, bv a10, bv a11, bv a12, bv a13, bv a14, bv a15, bv a16, bv a17, bv a18, bv a19, bv a20, bv a21, bv a22, bv a23, bv a24, bv a25, bv a26, bv a27, bv a28, bv a29, bv a30, bv a31]).toArray _ _ rfl kR kR Tryz.underlying139 rfl kR _ kR kL) ?_
  refine Sy.write kR 1 g1 139 (Zl 33).toArray (.int .u8 3 :: bv a0 :: bv a1 :: [bv a2, bv a3, bv a4, bv a5, bv a6, bv a7, bv a8, bv a9, bv a10, bv a11, bv a12, bv a13, bv a14, bv a15, bv a16, bv a17, bv a18, bv a19, bv a20, bv a21, bv a22, bv a23, bv a24, bv a25, bv a26, bv a27, bv a28, bv a29, bv a30, bv a31]).toArray kR (Writes.store 0 139 (.int .u8 3 :: bv a0 :: bv a1 :: [bv a2, bv a3, bv a4, bv a5, bv a6, bv a7, bv a8, bv a9, bv a10, bv a11, bv a12, bv a13, bv a14, bv a15, bv a16, bv a17, bv a18, bv a19, bv a20, bv a21, bv a22, bv a23, bv a24, bv a25, bv a26, bv a27, bv a28, bv a29, bv a30, bv a31]).toArray _ _ rfl kR kR kR kL kR kR) ?_
  refine sG <| Sy.ret ?_
  rw [show (.agg ((encS (some (u, v))).map bv).toArray : Value) = .agg ((.int .u8 3 :: bv a0 :: bv a1 :: [bv a2, bv a3, bv a4, bv a5, bv a6, bv a7, bv a8, bv a9, bv a10, bv a11, bv a12, bv a13, bv a14, bv a15, bv a16, bv a17, bv a18, bv a19, bv a20, bv a21, bv a22, bv a23, bv a24, bv a25, bv a26, bv a27, bv a28, bv a29, bv a30, bv a31]) : List Value).toArray from by
   have e : encS (some (u, v)) = (if v.val % 2 = 1 then 3 else 2) :: bytesS u.val := rfl
   rw [e, hm, if_pos (by have q := hb1.symm; rw [Nat.mod_eq_of_lt v.isLt] at q; exact of_decide_eq_true q)]
   rfl]
  exact Sy.ret1 (v := .agg ((.int .u8 3 :: bv a0 :: bv a1 :: [bv a2, bv a3, bv a4, bv a5, bv a6, bv a7, bv a8, bv a9, bv a10, bv a11, bv a12, bv a13, bv a14, bv a15, bv a16, bv a17, bv a18, bv a19, bv a20, bv a21, bv a22, bv a23, bv a24, bv a25, bv a26, bv a27, bv a28, bv a29, bv a30, bv a31]) : List Value).toArray) rfl (.inl (Res.cell (ty' := 139) g1 1 (.int .u8 3 :: bv a0 :: bv a1 :: [bv a2, bv a3, bv a4, bv a5, bv a6, bv a7, bv a8, bv a9, bv a10, bv a11, bv a12, bv a13, bv a14, bv a15, bv a16, bv a17, bv a18, bv a19, bv a20, bv a21, bv a22, bv a23, bv a24, bv a25, bv a26, bv a27, bv a28, bv a29, bv a30, bv a31]).toArray _ kR kR Tryz.underlying139 rfl kR kR))
theorem enc_any (w : World) (x y : Nat) (i : Bool) (hx : x < K4) (hy : y < K4) : Calls Tryz.prog 92 #[pv x y i] w (Gets w (.agg ((encS (dec x y i)).map bv).toArray)) := by
 rcases h : dec x y i with _ | ⟨u, v⟩
 ·exact enc_none w x y i hx hy h
 ·exact enc_some w x y i hx hy u v h
end Go.Proofs.YtfhcpdbahbbmaaaGreatDoor.Cu

end
section
namespace Go.Proofs.YtfhcpdbahbbmaaaGreatDoor.Cu
open Go.RowKit Go.Proofs.YtfhcpdbahbbmaaaGreatDoor Go.Proofs.YtfhcpdbahbbmaaaGreatDoor.Sy
set_option maxRecDepth 100000
set_option maxHeartbeats 4000000

end Go.Proofs.YtfhcpdbahbbmaaaGreatDoor.Cu

end
section
namespace Go.Proofs.YtfhcpdbahbbmaaaGreatDoor.Sc
open Go.RowKit Go.Lib

theorem gap_any (w : World) : Calls Tryz.prog 149 #[] w fun e w' => e = .returned (fv 432420386565659656852420866394968145599) ∧ Below w.heap.size w w' := by
 go_enter Tryz.func149, Tryz.ntmps149
 go_wp2
 exact bodyPost_ret (results_cell_row rfl _ _ w.heap.size _ _ (0, 0) _ rfl (heap_alloc_new w _) Tryz.underlying24 rfl kR) rfl ⟨rfl, (Below.refl _ _).alloc (Nat.le_refl _) _⟩
set_option maxHeartbeats 8000000 in
set_option maxRecDepth 100000 in
theorem plus_any (w : World) (x y : Nat) (hx : x < (2^256)) (hy : y < (2^256)) : Calls Tryz.prog 147 #[fv x, fv y] w fun e w' => (∃ s k : Nat, s < (2^256) ∧ k ≤ 1 ∧ s + (2^256) * k = x + y ∧ e = .returned (.tuple #[fv s, .int .u64 (k : Int)])) ∧ Below w.heap.size w w' := by
 obtain ⟨x0, x1, x2, x3, a0, a1, a2, a3, ex, fx⟩ := words_of x hx
 obtain ⟨y0, y1, y2, y3, b0, b1, b2, b3, ey, fy⟩ := words_of y hy
 rw [fx, fy]
 obtain ⟨s0, c0, d0, k0, e0, r0⟩ := add0_ex x0 y0 a0 b0
 obtain ⟨s1, c1, d1, k1, e1, r1⟩ := addc_ex x1 y1 c0 a1 b1 k0
 obtain ⟨s2, c2, d2, k2, e2, r2⟩ := addc_ex x2 y2 c1 a2 b2 k1
 obtain ⟨s3, c3, d3, k3, e3, r3⟩ := addc_ex x3 y3 c2 a3 b3 k2
 have fin : s0 + 18446744073709551616 * s1 + 340282366920938463463374607431768211456 * s2 + 6277101735386680763835789423207666416102355444464034512896 * s3 + (2^256) * c3 = x + y := by omega
 have hs := Lib.hid (fv_mk s0 s1 s2 s3 d0 d1 d2 d3)
 have hlt := Lib.hid (fv_lt s0 s1 s2 s3 d0 d1 d2 d3)
 have HF := Lib.hid fin
 have HK := Lib.hid k3
 clear ex ey fx fy e0 e1 e2 e3 a0 a1 a2 a3 b0 b1 b2 b3 d0 d1 d2 d3 k0 k1 k2 k3 fin hx hy
 go_enter Tryz.func147, Tryz.ntmps147
 go_wp2_with fail
 go_loopw [5, 7] (fun bo i wr => Below w.heap.size w wr ∧ Blk wr w.heap.size 24 #[.int .u64 (x0 : Int), .int .u64 (x1 : Int), .int .u64 (x2 : Int), .int .u64 (x3 : Int)] ∧ Blk wr (w.heap.size + 1) 24 #[.int .u64 (y0 : Int), .int .u64 (y1 : Int), .int .u64 (y2 : Int), .int .u64 (y3 : Int)] ∧ Hid ((i = .int .i64 0 ∧ bo = .int .u64 0 ∧ Blk wr (w.heap.size + 2) 24 #[.int .u64 0, .int .u64 0, .int .u64 0, .int .u64 0]) ∨ (i = .int .i64 1 ∧ bo = .int .u64 (c0 : Int) ∧ Blk wr (w.heap.size + 2) 24 #[.int .u64 (s0 : Int), .int .u64 0, .int .u64 0, .int .u64 0]) ∨ (i = .int .i64 2 ∧ bo = .int .u64 (c1 : Int) ∧ Blk wr (w.heap.size + 2) 24 #[.int .u64 (s0 : Int), .int .u64 (s1 : Int), .int .u64 0, .int .u64 0]) ∨ (i = .int .i64 3 ∧ bo = .int .u64 (c2 : Int) ∧ Blk wr (w.heap.size + 2) 24 #[.int .u64 (s0 : Int), .int .u64 (s1 : Int), .int .u64 (s2 : Int), .int .u64 0]) ∨ (i = .int .i64 4 ∧ bo = .int .u64 (c3 : Int) ∧ Blk wr (w.heap.size + 2) 24 #[.int .u64 (s0 : Int), .int .u64 (s1 : Int), .int .u64 (s2 : Int), .int .u64 (s3 : Int)]))) (fun _ i _ => 4 - (intOf i).toNat)
 case atStart => exact ⟨below_alloc3 w _ _ _, ((Blk.new w _ _).alloc _).alloc _, (blk_new2 w _ _ _).alloc _, Lib.hid (.inl ⟨rfl, rfl, blk_new3 w _ _ _ _⟩)⟩
 case round =>
  obtain ⟨hb, BX, BY, HI⟩ := hrel
  have lX := BX.lt
  have lY := BY.lt
  rcases HI.out with ⟨rfl, rfl, BW⟩ | ⟨rfl, rfl, BW⟩ | ⟨rfl, rfl, BW⟩ | ⟨rfl, rfl, BW⟩ | ⟨rfl, rfl, BW⟩
  ·clear HI
   have px : wr.cell? ⟨w.heap.size, 0, none⟩ = some (.int .u64 (x0 : Int)) := BX.cell 0
   have py : wr.cell? ⟨w.heap.size + 1, 0, none⟩ = some (.int .u64 (y0 : Int)) := BY.cell 0
   go_wp2
   refine wp_region_G (fun j => j == 13) kR ?_
   try simp only [Act.put]
   refine tk 0 rfl ?_
   try simp only [Act.put, aA, aZ, aS]
   refine tk 1 rfl ?_
   try simp only [Act.put, aA, aZ, aS]
   refine tk 2 rfl ?_
   try simp only [Act.put, aA, aZ, aS]
   refine tkw 3 rfl (YieldsG.pure (v := .int .u64 (x0 : Int)) (by rfl) (fun w9 h9 => by have hz := (Below.cell (p := ⟨w.heap.size, 0, none⟩) h9 lX).trans px; go_simp; first | done | simp [hz])) ?_
   try simp only [Act.put, aA, aZ, aS]
   refine tk 4 rfl ?_
   try simp only [Act.put, aA, aZ, aS]
   refine tk 5 rfl ?_
   try simp only [Act.put, aA, aZ, aS]
   refine tkw 6 rfl (YieldsG.pure (v := .int .u64 (y0 : Int)) (by rfl) (fun w9 h9 => by have hz := (Below.cell (p := ⟨w.heap.size + 1, 0, none⟩) h9 lY).trans py; go_simp; first | done | simp [hz])) ?_
   try simp only [Act.put, aA, aZ, aS]
   refine tk 7 rfl ?_
   try simp only [Act.put, aA, aZ, aS]
   refine tkw 8 rfl (YieldsG.pure (v := .tuple #[.int .u64 (s0 : Int), .int .u64 (c0 : Int)]) (by rfl) (fun w9 h9 => by go_simp)) ?_
   try simp only [Act.put, aA, aZ, aS]
   refine tk 9 rfl ?_
   try simp only [Act.put, aA, aZ, aS]
   refine tk 10 rfl ?_
   try simp only [Act.put, aA, aZ, aS]
   refine wpAnyG_takeA 11 rfl kR (fun _ _ _ h => h) (fun _ => YieldsG.pure (by rfl) (fun w9 _ => by go_simp; try with_reducible rfl)) ?_
   try simp only [Act.put, aA, aZ, aS]
   refine tk 12 rfl ?_
   try simp only [Act.put, aA, aZ, aS]
   refine wpAnyG_sole 13 rfl kR (by rfl) (fun u hu K hK => ?_)
   have BX := Gr.blk hu BX
   have BY := Gr.blk hu BY
   have BW := Gr.blk hu BW
   have hb := Below.gr hb hu
   have pc : u.cell? ⟨w.heap.size + 2, 0, none⟩ = some (.int .u64 0) := BW.cell 0
   have pf := BW.frozen 0
   clear hu px py
   go_simp
   refine hK _ _ (fun e => by cases e) ?_
   clear hK K
   have hb := hb.setCell (p := ⟨w.heap.size + 2, 0, none⟩) (by show w.heap.size ≤ w.heap.size + 2; omega) (.int .u64 (s0 : Int))
   have BX := BX.far (p := ⟨w.heap.size + 2, 0, none⟩) (by show w.heap.size ≠ w.heap.size + 2; omega) (.int .u64 (s0 : Int))
   have BY := BY.far (p := ⟨w.heap.size + 2, 0, none⟩) (by show w.heap.size + 1 ≠ w.heap.size + 2; omega) (.int .u64 (s0 : Int))
   have BW := BW.set_ 0 (.int .u64 (s0 : Int))
   refine wpAnyG_takeA 14 rfl kR (fun _ _ _ h => h) (fun _ => YieldsG.pure (by rfl) (fun w9 _ => by go_simp; try with_reducible rfl)) ?_
   try simp only [Act.put, aA, aZ, aS]
   refine wpAnyG_done kR (fun v hv => ?_)
   have hb := Below.gr hb hv
   have BX := Gr.blk hv BX
   have BY := Gr.blk hv BY
   have BW := Gr.blk hv BW
   clear hv pc pf
   go_wp2
   refine ⟨⟨hb, BX, BY, Lib.hid (.inr (.inl (⟨rfl, rfl, BW⟩)))⟩, by decide⟩
  ·clear HI
   have px : wr.cell? ⟨w.heap.size, 1, none⟩ = some (.int .u64 (x1 : Int)) := BX.cell 1
   have py : wr.cell? ⟨w.heap.size + 1, 1, none⟩ = some (.int .u64 (y1 : Int)) := BY.cell 1
   go_wp2
   refine wp_region_G (fun j => j == 13) kR ?_
   try simp only [Act.put]
   refine tk 0 rfl ?_
   try simp only [Act.put, aA, aZ, aS]
   refine tk 1 rfl ?_
   try simp only [Act.put, aA, aZ, aS]
   refine tk 2 rfl ?_
   try simp only [Act.put, aA, aZ, aS]
   refine tkw 3 rfl (YieldsG.pure (v := .int .u64 (x1 : Int)) (by rfl) (fun w9 h9 => by have hz := (Below.cell (p := ⟨w.heap.size, 1, none⟩) h9 lX).trans px; go_simp; first | done | simp [hz])) ?_
   try simp only [Act.put, aA, aZ, aS]
   refine tk 4 rfl ?_
   try simp only [Act.put, aA, aZ, aS]
   refine tk 5 rfl ?_
   try simp only [Act.put, aA, aZ, aS]
   refine tkw 6 rfl (YieldsG.pure (v := .int .u64 (y1 : Int)) (by rfl) (fun w9 h9 => by have hz := (Below.cell (p := ⟨w.heap.size + 1, 1, none⟩) h9 lY).trans py; go_simp; first | done | simp [hz])) ?_
   try simp only [Act.put, aA, aZ, aS]
   refine tk 7 rfl ?_
   try simp only [Act.put, aA, aZ, aS]
   refine tkw 8 rfl (YieldsG.pure (v := .tuple #[.int .u64 (s1 : Int), .int .u64 (c1 : Int)]) (by rfl) (fun w9 h9 => by go_simp)) ?_
   try simp only [Act.put, aA, aZ, aS]
   refine tk 9 rfl ?_
   try simp only [Act.put, aA, aZ, aS]
   refine tk 10 rfl ?_
   try simp only [Act.put, aA, aZ, aS]
   refine wpAnyG_takeA 11 rfl kR (fun _ _ _ h => h) (fun _ => YieldsG.pure (by rfl) (fun w9 _ => by go_simp; try with_reducible rfl)) ?_
   try simp only [Act.put, aA, aZ, aS]
   refine tk 12 rfl ?_
   try simp only [Act.put, aA, aZ, aS]
   refine wpAnyG_sole 13 rfl kR (by rfl) (fun u hu K hK => ?_)
   have BX := Gr.blk hu BX
   have BY := Gr.blk hu BY
   have BW := Gr.blk hu BW
   have hb := Below.gr hb hu
   have pc : u.cell? ⟨w.heap.size + 2, 1, none⟩ = some (.int .u64 0) := BW.cell 1
   have pf := BW.frozen 1
   clear hu px py
   go_simp
   refine hK _ _ (fun e => by cases e) ?_
   clear hK K
   have hb := hb.setCell (p := ⟨w.heap.size + 2, 1, none⟩) (by show w.heap.size ≤ w.heap.size + 2; omega) (.int .u64 (s1 : Int))
   have BX := BX.far (p := ⟨w.heap.size + 2, 1, none⟩) (by show w.heap.size ≠ w.heap.size + 2; omega) (.int .u64 (s1 : Int))
   have BY := BY.far (p := ⟨w.heap.size + 2, 1, none⟩) (by show w.heap.size + 1 ≠ w.heap.size + 2; omega) (.int .u64 (s1 : Int))
   have BW := BW.set_ 1 (.int .u64 (s1 : Int))
   refine wpAnyG_takeA 14 rfl kR (fun _ _ _ h => h) (fun _ => YieldsG.pure (by rfl) (fun w9 _ => by go_simp; try with_reducible rfl)) ?_
   try simp only [Act.put, aA, aZ, aS]
   refine wpAnyG_done kR (fun v hv => ?_)
   have hb := Below.gr hb hv
   have BX := Gr.blk hv BX
   have BY := Gr.blk hv BY
   have BW := Gr.blk hv BW
   clear hv pc pf
   go_wp2
   refine ⟨⟨hb, BX, BY, Lib.hid (.inr (.inr (.inl (⟨rfl, rfl, BW⟩))))⟩, by decide⟩
  ·clear HI
   have px : wr.cell? ⟨w.heap.size, 2, none⟩ = some (.int .u64 (x2 : Int)) := BX.cell 2
   have py : wr.cell? ⟨w.heap.size + 1, 2, none⟩ = some (.int .u64 (y2 : Int)) := BY.cell 2
   go_wp2
   refine wp_region_G (fun j => j == 13) kR ?_
   try simp only [Act.put]
   refine tk 0 rfl ?_
   try simp only [Act.put, aA, aZ, aS]
   refine tk 1 rfl ?_
   try simp only [Act.put, aA, aZ, aS]
   refine tk 2 rfl ?_
   try simp only [Act.put, aA, aZ, aS]
   refine tkw 3 rfl (YieldsG.pure (v := .int .u64 (x2 : Int)) (by rfl) (fun w9 h9 => by have hz := (Below.cell (p := ⟨w.heap.size, 2, none⟩) h9 lX).trans px; go_simp; first | done | simp [hz])) ?_
   try simp only [Act.put, aA, aZ, aS]
   refine tk 4 rfl ?_
   try simp only [Act.put, aA, aZ, aS]
   refine tk 5 rfl ?_
   try simp only [Act.put, aA, aZ, aS]
   refine tkw 6 rfl (YieldsG.pure (v := .int .u64 (y2 : Int)) (by rfl) (fun w9 h9 => by have hz := (Below.cell (p := ⟨w.heap.size + 1, 2, none⟩) h9 lY).trans py; go_simp; first | done | simp [hz])) ?_
   try simp only [Act.put, aA, aZ, aS]
   refine tk 7 rfl ?_
   try simp only [Act.put, aA, aZ, aS]
   refine tkw 8 rfl (YieldsG.pure (v := .tuple #[.int .u64 (s2 : Int), .int .u64 (c2 : Int)]) (by rfl) (fun w9 h9 => by go_simp)) ?_
   try simp only [Act.put, aA, aZ, aS]
   refine tk 9 rfl ?_
   try simp only [Act.put, aA, aZ, aS]
   refine tk 10 rfl ?_
   try simp only [Act.put, aA, aZ, aS]
   refine wpAnyG_takeA 11 rfl kR (fun _ _ _ h => h) (fun _ => YieldsG.pure (by rfl) (fun w9 _ => by go_simp; try with_reducible rfl)) ?_
   try simp only [Act.put, aA, aZ, aS]
   refine tk 12 rfl ?_
   try simp only [Act.put, aA, aZ, aS]
   refine wpAnyG_sole 13 rfl kR (by rfl) (fun u hu K hK => ?_)
   have BX := Gr.blk hu BX
   have BY := Gr.blk hu BY
   have BW := Gr.blk hu BW
   have hb := Below.gr hb hu
   have pc : u.cell? ⟨w.heap.size + 2, 2, none⟩ = some (.int .u64 0) := BW.cell 2
   have pf := BW.frozen 2
   clear hu px py
   go_simp
   refine hK _ _ (fun e => by cases e) ?_
   clear hK K
   have hb := hb.setCell (p := ⟨w.heap.size + 2, 2, none⟩) (by show w.heap.size ≤ w.heap.size + 2; omega) (.int .u64 (s2 : Int))
   have BX := BX.far (p := ⟨w.heap.size + 2, 2, none⟩) (by show w.heap.size ≠ w.heap.size + 2; omega) (.int .u64 (s2 : Int))
   have BY := BY.far (p := ⟨w.heap.size + 2, 2, none⟩) (by show w.heap.size + 1 ≠ w.heap.size + 2; omega) (.int .u64 (s2 : Int))
   have BW := BW.set_ 2 (.int .u64 (s2 : Int))
   refine wpAnyG_takeA 14 rfl kR (fun _ _ _ h => h) (fun _ => YieldsG.pure (by rfl) (fun w9 _ => by go_simp; try with_reducible rfl)) ?_
   try simp only [Act.put, aA, aZ, aS]
   refine wpAnyG_done kR (fun v hv => ?_)
   have hb := Below.gr hb hv
   have BX := Gr.blk hv BX
   have BY := Gr.blk hv BY
   have BW := Gr.blk hv BW
   clear hv pc pf
   go_wp2
   refine ⟨⟨hb, BX, BY, Lib.hid (.inr (.inr (.inr (.inl (⟨rfl, rfl, BW⟩)))))⟩, by decide⟩
  ·clear HI
   have px : wr.cell? ⟨w.heap.size, 3, none⟩ = some (.int .u64 (x3 : Int)) := BX.cell 3
   have py : wr.cell? ⟨w.heap.size + 1, 3, none⟩ = some (.int .u64 (y3 : Int)) := BY.cell 3
   go_wp2
   refine wp_region_G (fun j => j == 13) kR ?_
   try simp only [Act.put]
   refine tk 0 rfl ?_
   try simp only [Act.put, aA, aZ, aS]
   refine tk 1 rfl ?_
   try simp only [Act.put, aA, aZ, aS]
   refine tk 2 rfl ?_
   try simp only [Act.put, aA, aZ, aS]
   refine tkw 3 rfl (YieldsG.pure (v := .int .u64 (x3 : Int)) (by rfl) (fun w9 h9 => by have hz := (Below.cell (p := ⟨w.heap.size, 3, none⟩) h9 lX).trans px; go_simp; first | done | simp [hz])) ?_
   try simp only [Act.put, aA, aZ, aS]
   refine tk 4 rfl ?_
   try simp only [Act.put, aA, aZ, aS]
   refine tk 5 rfl ?_
   try simp only [Act.put, aA, aZ, aS]
   refine tkw 6 rfl (YieldsG.pure (v := .int .u64 (y3 : Int)) (by rfl) (fun w9 h9 => by have hz := (Below.cell (p := ⟨w.heap.size + 1, 3, none⟩) h9 lY).trans py; go_simp; first | done | simp [hz])) ?_
   try simp only [Act.put, aA, aZ, aS]
   refine tk 7 rfl ?_
   try simp only [Act.put, aA, aZ, aS]
   refine tkw 8 rfl (YieldsG.pure (v := .tuple #[.int .u64 (s3 : Int), .int .u64 (c3 : Int)]) (by rfl) (fun w9 h9 => by go_simp)) ?_
   try simp only [Act.put, aA, aZ, aS]
   refine tk 9 rfl ?_
   try simp only [Act.put, aA, aZ, aS]
   refine tk 10 rfl ?_
   try simp only [Act.put, aA, aZ, aS]
   refine wpAnyG_takeA 11 rfl kR (fun _ _ _ h => h) (fun _ => YieldsG.pure (by rfl) (fun w9 _ => by go_simp; try with_reducible rfl)) ?_
   try simp only [Act.put, aA, aZ, aS]
   refine tk 12 rfl ?_
   try simp only [Act.put, aA, aZ, aS]
   refine wpAnyG_sole 13 rfl kR (by rfl) (fun u hu K hK => ?_)
   have BX := Gr.blk hu BX
   have BY := Gr.blk hu BY
   have BW := Gr.blk hu BW
   have hb := Below.gr hb hu
   have pc : u.cell? ⟨w.heap.size + 2, 3, none⟩ = some (.int .u64 0) := BW.cell 3
   have pf := BW.frozen 3
   clear hu px py
   go_simp
   refine hK _ _ (fun e => by cases e) ?_
   clear hK K
   have hb := hb.setCell (p := ⟨w.heap.size + 2, 3, none⟩) (by show w.heap.size ≤ w.heap.size + 2; omega) (.int .u64 (s3 : Int))
   have BX := BX.far (p := ⟨w.heap.size + 2, 3, none⟩) (by show w.heap.size ≠ w.heap.size + 2; omega) (.int .u64 (s3 : Int))
   have BY := BY.far (p := ⟨w.heap.size + 2, 3, none⟩) (by show w.heap.size + 1 ≠ w.heap.size + 2; omega) (.int .u64 (s3 : Int))
   have BW := BW.set_ 3 (.int .u64 (s3 : Int))
   refine wpAnyG_takeA 14 rfl kR (fun _ _ _ h => h) (fun _ => YieldsG.pure (by rfl) (fun w9 _ => by go_simp; try with_reducible rfl)) ?_
   try simp only [Act.put, aA, aZ, aS]
   refine wpAnyG_done kR (fun v hv => ?_)
   have hb := Below.gr hb hv
   have BX := Gr.blk hv BX
   have BY := Gr.blk hv BY
   have BW := Gr.blk hv BW
   clear hv pc pf
   go_wp2
   refine ⟨⟨hb, BX, BY, Lib.hid (.inr (.inr (.inr (.inr (⟨rfl, rfl, BW⟩)))))⟩, by decide⟩
  ·clear HI
   obtain ⟨s, hsd⟩ : ∃ s, s = s0 + 18446744073709551616 * s1 + 340282366920938463463374607431768211456 * s2 + 6277101735386680763835789423207666416102355444464034512896 * s3 := ⟨_, rfl⟩
   have hf := hs.out
   have hl := hlt.out
   have hn := HF.out
   rw [← hsd] at hf hl hn
   have BS := BW.eq_ (fcs_words hf.symm).symm
   have HS := Lib.hid (And.intro hl hn)
   clear hf hl hn hsd
   go_wp2_with (first | ((with_reducible refine here_load (d := some 24) ?_); refine wpList_load_fv rfl _ _ rfl (w.heap.size + 2) rfl (s) _ _ _ (BS) (fv_fcs s) Tryz.underlying24 rfl kR ?_) | ((with_reducible refine here_store ?_); refine wpList_store_blk rfl _ _ _ rfl (w.heap.size + 2) (fcs (s)) rfl rfl _ _ (BS) kR (by rfl) (fcs_one _) ?_; intro w9 hL9 hB9 hK9))
   exact bodyPost_ret (res_cell_tmp rfl _ _ (w.heap.size + 2) _ _ _ _ rfl hL9 rfl Tryz.underlying24 rfl kR) rfl ⟨⟨s, c3, HS.out.1, HK.out, HS.out.2, rfl⟩, hb.trans (hB9 _ (by omega))⟩

end Go.Proofs.YtfhcpdbahbbmaaaGreatDoor.Sc

end
section
namespace Go.Proofs.YtfhcpdbahbbmaaaGreatDoor.Sc
open Go.RowKit Go.Lib
set_option maxRecDepth 100000

theorem plus_fv (w : World) (x y s k : Nat) (hx : x < (2^256)) (hy : y < (2^256)) (hs : s < (2^256)) (he : s + (2^256) * k = x + y) :
  Calls Tryz.prog 147 #[fv x, fv y] w fun e w' => e = .returned (.tuple #[fv s, .int .u64 (k : Int)]) ∧ Below w.heap.size w w' := by
 refine (plus_any w x y hx hy).mono ?_
 rintro e w' ⟨⟨s', k', hs', hk', he', rfl⟩, hb⟩
 obtain rfl : k' = k := by omega
 obtain rfl : s' = s := by omega
 exact ⟨rfl, hb⟩
set_option maxHeartbeats 1000000 in
theorem addF_any (w : World) (x y : Nat) (hx : x < (2^256)) (hy : y < (2^256)) : Calls Tryz.prog 97 #[fv x, fv y] w fun e w' => e = .returned (fv (addP x y)) ∧ Below w.heap.size w w' := by
 obtain ⟨p, hp⟩ : ∃ p, p = x % pM := ⟨_, rfl⟩
 obtain ⟨q, hq⟩ : ∃ q, q = y % pM := ⟨_, rfl⟩
 obtain ⟨z, hz⟩ : ∃ z, z = addP x y := ⟨_, rfl⟩
 have lp : p < 115792089237316195423570985008687907852837564279074904382605163141518161494337 := by rw [hp]; exact mod_lt_p x
 have lq : q < 115792089237316195423570985008687907852837564279074904382605163141518161494337 := by rw [hq]; exact mod_lt_p y
 have hzs : z = (p + q) % pM := by rw [hz, addP, hp, hq, ← Nat.add_mod]
 obtain ⟨s, k, hs, hk, he⟩ : ∃ s k : Nat, s < (2^256) ∧ k ≤ 1 ∧ s + (2^256) * k = p + q := ⟨(p + q) % (2^256), (p + q) / (2^256), by omega, by omega, by omega⟩
 have cx : ∀ w, Calls Tryz.prog 128 #[fv x] w fun e w' => e = .returned (fv p) ∧ Below w.heap.size w w' := by
  intro w; rw [hp]; exact norm_any w x hx
 have cy : ∀ w, Calls Tryz.prog 128 #[fv y] w fun e w' => e = .returned (fv q) ∧ Below w.heap.size w w' := by
  intro w; rw [hq]; exact norm_any w y hy
 have cp := fun w => plus_fv w p q s k (by omega) (by omega) hs he
 have cr := fun w => reduce_at w s k z k rfl hs hk (by omega) (by rw [hzs, ← he])
 rw [← hz]
 obtain ⟨x0, x1, x2, x3, fx⟩ := words_fv x hx
 obtain ⟨y0, y1, y2, y3, fy⟩ := words_fv y hy
 have FX := Lib.hid fx
 have FY := Lib.hid fy
 rw [fx, fy]
 clear fx fy hx hy hp hq hz lp lq hzs hs hk he
 go_enter Tryz.func97, Tryz.ntmps97
 go_wp2
 refine wp_region_G (fun j => j == 8) kR ?_
 try simp only [Act.put]
 refine tkw 0 rfl (YieldsG.loadF (by rfl) _ _ rfl (w.heap.size) rfl (x) _ _ (((Blk.new w _ _).alloc _).alloc _) (FX.out) Tryz.underlying24 rfl kR) ?_
 try simp only [Act.put, aA, aZ, aS]
 refine tkw 1 rfl (YieldsG.call (v := fv p) (by rfl) 128 _ (fun w9 => by go_simp; try (first | with_reducible rfl | rfl)) (fun w9 h9 => cx w9)) ?_
 try simp only [Act.put, aA, aZ, aS]
 refine tkw 2 rfl (YieldsG.loadF (by rfl) _ _ rfl (w.heap.size + 1) rfl (y) _ _ ((blk_new2 w _ _ _).alloc _) (FY.out) Tryz.underlying24 rfl kR) ?_
 try simp only [Act.put, aA, aZ, aS]
 refine tkw 3 rfl (YieldsG.call (v := fv q) (by rfl) 128 _ (fun w9 => by go_simp; try (first | with_reducible rfl | rfl)) (fun w9 h9 => cy w9)) ?_
 try simp only [Act.put, aA, aZ, aS]
 refine tkw 4 rfl (YieldsG.call (v := .tuple #[fv s, .int .u64 (k : Int)]) (by rfl) 147 _ (fun w9 => by go_simp; try (first | with_reducible rfl | rfl)) (fun w9 h9 => cp w9)) ?_
 try simp only [Act.put, aA, aZ, aS]
 refine tk 5 rfl ?_
 try simp only [Act.put, aA, aZ, aS]
 refine tk 6 rfl ?_
 try simp only [Act.put, aA, aZ, aS]
 refine tkw 7 rfl (YieldsG.call (v := fv z) (by rfl) 146 _ (fun w9 => by go_simp; try (first | with_reducible rfl | rfl)) (fun w9 h9 => cr w9)) ?_
 try simp only [Act.put, aA, aZ, aS]
 refine wpAnyG_store 8 rfl kR (by rfl) _ _ _ rfl (w.heap.size + 2) (fcs (z)) rfl rfl _ _ (blk_new3 w _ _ _ _) kR (by rfl) (fcs_one _) rfl (fun w6 h6 w7 hB7 hL7 => ?_)
 try simp only [Act.put]
 refine wpAnyG_done kR (fun w8 h8 => ?_)
 have hfin := Gr.blk h8 hL7
 have hb9 := (Below.gr (below_alloc3 w _ _ _) h6).trans ((hB7 _ (by omega)).trans (Below.mono h8 (by have := hL7.lt; omega)))
 go_wp2
 exact bodyPost_ret (results_cell_row rfl _ _ (w.heap.size + 2) _ _ (0, 0) _ rfl hfin Tryz.underlying24 rfl kR) rfl ⟨rfl, hb9⟩
set_option maxHeartbeats 1000000 in
theorem negF_any (w : World) (x : Nat) (hx : x < (2^256)) : Calls Tryz.prog 95 #[fv x] w fun e w' => e = .returned (fv (negP x)) ∧ Below w.heap.size w w' := by
 obtain ⟨o, ho⟩ : ∃ o, o = 115792089237316195423570985008687907852837564279074904382605163141518161494337 := ⟨_, rfl⟩
 obtain ⟨p, hp⟩ : ∃ p, p = x % pM := ⟨_, rfl⟩
 obtain ⟨z, hz⟩ : ∃ z, z = negP x := ⟨_, rfl⟩
 have lp : p < 115792089237316195423570985008687907852837564279074904382605163141518161494337 := by rw [hp]; exact mod_lt_p x
 obtain ⟨s, hs⟩ : ∃ s, s = o - p := ⟨_, rfl⟩
 have hzs : z = s % pM := by rw [hz, negP, hs, ho, hp]; rfl
 have co := fun w => order_at w o ho
 have cx : ∀ w, Calls Tryz.prog 128 #[fv x] w fun e w' => e = .returned (fv p) ∧ Below w.heap.size w w' := by
  intro w; rw [hp]; exact norm_any w x hx
 have cm := fun w => minus_fv w o p s 0 (by omega) (by omega) (by omega) (by omega)
 have cz : ∀ w, Calls Tryz.prog 128 #[fv s] w fun e w' => e = .returned (fv z) ∧ Below w.heap.size w w' := by
  intro w; rw [hzs]; exact norm_any w s (by omega)
 obtain ⟨x0, x1, x2, x3, fx⟩ := words_fv x hx
 have FX := Lib.hid fx
 rw [fx, ← hz]
 clear fx hx ho hp hz lp hs hzs
 go_enter Tryz.func95, Tryz.ntmps95
 go_wp2
 refine wp_region_G (fun j => j == 8) kR ?_
 try simp only [Act.put]
 refine tkw 0 rfl (YieldsG.call (v := fv o) (by rfl) 145 _ (fun w9 => by go_simp; try (first | with_reducible rfl | rfl)) (fun w9 h9 => co w9)) ?_
 try simp only [Act.put, aA, aZ, aS]
 refine tkw 1 rfl (YieldsG.loadF (by rfl) _ _ rfl (w.heap.size) rfl (x) _ _ ((Blk.new w _ _).alloc _) (FX.out) Tryz.underlying24 rfl kR) ?_
 try simp only [Act.put, aA, aZ, aS]
 refine tkw 2 rfl (YieldsG.call (v := fv p) (by rfl) 128 _ (fun w9 => by go_simp; try (first | with_reducible rfl | rfl)) (fun w9 h9 => cx w9)) ?_
 try simp only [Act.put, aA, aZ, aS]
 refine tkw 3 rfl (YieldsG.call (v := .tuple #[fv s, .int .u64 ((0 : Nat) : Int)]) (by rfl) 144 _ (fun w9 => by go_simp; try (first | with_reducible rfl | rfl)) (fun w9 h9 => cm w9)) ?_
 try simp only [Act.put, aA, aZ, aS]
 refine tk 4 rfl ?_
 try simp only [Act.put, aA, aZ, aS]
 refine tk 5 rfl ?_
 try simp only [Act.put, aA, aZ, aS]
 refine wpAnyG_takeA 6 rfl kR (fun _ _ _ h => h) (fun _ => YieldsG.pure (by rfl) (fun w9 _ => by go_simp; try with_reducible rfl)) ?_
 try simp only [Act.put, aA, aZ, aS]
 refine wpAnyG_sole 7 rfl kR (by rfl) (fun w3 h3 K hK => ?_)
 go_simp
 refine hK _ _ (fun _ => gr_alloc _ _) ?_
 clear hK K
 try simp only [Act.put, aA, aZ, aS]
 refine wpAnyG_store 8 rfl kR (by rfl) _ _ _ rfl (w3.heap.size) (fcs (s)) rfl rfl _ _ (Blk.new w3 _ _) kR (by rfl) (fcs_one _) rfl (fun w6 h6 w7 hB7 hL7 => ?_)
 try simp only [Act.put]
 refine wpAnyG_takeA 9 rfl kR (fun _ _ _ h => h) (fun _ => YieldsG.pure (by rfl) (fun w9 _ => by go_simp; try with_reducible rfl)) ?_
 try simp only [Act.put, aA, aZ, aS]
 refine wpAnyG_done kR (fun w8 h8 => ?_)
 have BS := Gr.blk h8 hL7
 have hsz : w.heap.size + 2 ≤ w3.heap.size := by have := h3.size; simp at this; omega
 have BR : Blk w8 (w.heap.size + 1) 24 _ := Gr.blk h8 (Blk.below (B := w3.heap.size) (Gr.blk h6 (Blk.alloc (Gr.blk h3 (blk_new2 w _ _ _)) _)) (hB7 _ (Nat.le_refl _)) (by omega))
 have hB : Below w.heap.size w w8 := Below.gr ((Below.gr ((Below.gr (below_alloc2 w _ _) h3).alloc (by omega) _) h6).trans (hB7 _ (by omega))) h8
 clear h3 h6 hB7 hL7 h8 cm co cx
 go_wp2_with (first | ((with_reducible refine here_load (d := some 12) ?_); refine wpList_load_fv rfl _ _ rfl (w3.heap.size) rfl (s) _ _ _ (BS) (fv_fcs s) Tryz.underlying24 rfl kR ?_))
 refine (cz _).mono ?_
 rintro e w9 ⟨rfl, hb⟩
 have BR9 := Gr.blk hb BR
 have hB9 := Below.gr hB hb
 go_wp2_with (first | ((with_reducible refine here_store ?_); refine wpList_store_blk rfl _ _ _ rfl (w.heap.size + 1) (fcs (z)) rfl rfl _ _ (BR9) kR (by rfl) (fcs_one _) ?_; intro wz hL hBz hKz))
 exact bodyPost_ret (results_cell_row rfl _ _ (w.heap.size + 1) _ _ (0, 0) _ rfl hL Tryz.underlying24 rfl kR) rfl ⟨rfl, hB9.trans (hBz _ (by omega))⟩
end Go.Proofs.YtfhcpdbahbbmaaaGreatDoor.Sc

end
section
namespace Go.Proofs.YtfhcpdbahbbmaaaGreatDoor.Cu
open Go.RowKit Go.Proofs.YtfhcpdbahbbmaaaGreatDoor Go.Proofs.YtfhcpdbahbbmaaaGreatDoor.Sy

theorem eql_bool_same (w : World) (F : Slots) (o : Oper) (x y : Operand) (b : Bool) {yt : TypeId} (ho : o.op = .binOp .eql 4 x y yt) (hx : evF F x = .bool b) (hy : evF F y = .bool b) : (execOp (evF F) o).run Tryz.prog w = .ok (.value (.bool true)) w := by
 unfold execOp
 simp only [ho, hx, hy]
 cases b <;> kernel_rfl
end Go.Proofs.YtfhcpdbahbbmaaaGreatDoor.Cu

end
section
namespace Go.Proofs.YtfhcpdbahbbmaaaGreatDoor.Cu
open Go.RowKit Go.Proofs.YtfhcpdbahbbmaaaGreatDoor Go.Proofs.YtfhcpdbahbbmaaaGreatDoor.Sy

theorem setAll_all : ∀ (vs : List Value) (o : Nat) (cs : Array Value), o + vs.length = cs.size → setAll cs o vs = (cs.toList.take o ++ vs).toArray
 | [], o, cs, h => by
  rw [List.append_nil, List.take_of_length_le (by simp at h ⊢; omega)]
  simp [setAll]
 | v :: r, o, cs, h => by
  have hlt : o < cs.size := by simp at h; omega
  rw [setAll, setAll_all r (o + 1) _ (by simp at h ⊢; omega)]
  congr 1
  rw [Array.toList_setIfInBounds, List.take_set, List.take_succ_eq_append_getElem (by simpa using hlt), List.set_append_right _ _ (by rw [List.length_take]; exact Nat.min_le_left _ _)]
  have : (cs.toList.take o).length = o := by simp; omega
  simp [this]
theorem key_set (cs : Array Value) (l : List UInt8) (h : l.length = cs.size) : setAll cs 0 (l.map bv).toArray.toList = (l.map bv).toArray := by
 have := setAll_all (l.map bv) 0 cs (by simp; omega)
 simpa using this
theorem key_sz (l : List UInt8) {n : Nat} (h : l.length = n) : (l.map bv).toArray.size = n := by simp; omega
theorem key_one (l : List UInt8) : (l.map bv).toArray.all (·.oneCell') = true := by simp [bv, Value.oneCell']
end Go.Proofs.YtfhcpdbahbbmaaaGreatDoor.Cu

end
section
namespace Go.Proofs.YtfhcpdbahbbmaaaGreatDoor.Cu
open Go.RowKit Go.Proofs.YtfhcpdbahbbmaaaGreatDoor Go.Proofs.YtfhcpdbahbbmaaaGreatDoor.Sy
set_option maxRecDepth 100000
set_option maxHeartbeats 4000000

def evP (k : Nat) : Pt := Ec.nm finv (k % Sc.pM) bP
theorem evP_on (k : Nat) : Ec.On (evP k) := bP_on.nm fld _
def evX : Pt → List UInt8
 | none => List.replicate 32 0
 | some (x, _) => bytesS x.val
theorem evX_length : ∀ P : Pt, (evX P).length = 32
 | none => rfl
 | some (x, _) => bytesS_length _
def evD (k : Nat) : Nat := match evP k with
 | none => 0
 | some (_, y) => if y.val % 2 = 1 then Sc.negP k else k
theorem base_mul (w : World) (k : Nat) (hk : k < K4) : Calls Tryz.prog 93 #[fv k, pv gx.val gy.val false] w (Gets w (ptv (evP k))) := by
 have h := mul_any w k gx.val gy.val false hk (lt4 _) (lt4 _)
 rw [show dec gx.val gy.val false = bP from dec_fin gx gy bP_on] at h
 exact h
theorem enc_pt (w : World) (u v : Fp) (h : v * v = u * u * u + 7) : Calls Tryz.prog 92 #[pv u.val v.val false] w (Gets w (.agg ((encS (some (u, v))).map bv).toArray)) := by
 have q := enc_any w u.val v.val false (lt4 _) (lt4 _)
 rw [dec_fin u v h] at q
 exact q
theorem even_none (w : World) (k : Nat) (hk : k < K4) (h : evP k = none) : Calls Tryz.prog 39 #[fv k] w (Gets w (.tuple #[fv 0, .agg ((evX none).map bv).toArray, .bool false])) := by
 have cM : ∀ w, Calls Tryz.prog 93 #[fv k, pv gx.val gy.val false] w (Gets w (pv 0 0 true)) := fun w => by have q := base_mul w k hk; rw [h] at q; exact q
 have cE : ∀ w, Calls Tryz.prog 92 #[pv 0 0 true] w (Gets w (.agg (Zl 33).toArray)) := fun w => by have q := enc_any w 0 0 true (by decide) (by decide); rw [dec_zero] at q; exact q
 refine Sy.enter (args := [fv k]) Tryz.func39 rfl kL ?_
 refine sC ?_
 refine sM 24 (fcs k) (fun g0 => ?_)
 refine sM 24 (fcs 0) (fun g1 => ?_)
 refine sM 31 (Zl 32).toArray (fun g2 => ?_)
 refine sP (.bool false) ?_
 refine sH (fun j => j == 5) ?_
 refine sD 0 rfl (fv k) (qL 0 g0 0 4 24 24 (fcs k) rfl Tryz.underlying24) <| sD 1 rfl (pv gx.val gy.val false) (qF 94 #[] (base_c)) <| sD 2 rfl (pv 0 0 true) (qF 93 #[fv k, pv gx.val gy.val false] (cM)) <| sD 3 rfl (.agg ((Zl 33) : List Value).toArray) (qF 92 #[pv 0 0 true] (cE)) ?_
 refine Sy.makeD 4 rfl kR kR 139 (Zl 33).toArray ptr kF (fun g3 => ?_)
 refine Sy.writeD 5 rfl kR (by rfl) kR 3 g3 139 (Zl 33).toArray (Zl 33).toArray kR (Writes.store 0 139 (Zl 33).toArray _ _ rfl kR kR kR kL kR kR) ?_
 refine sI ?_
 refine Sy.seq <| sC ?_
 refine sP (.pointer (some ⟨g3, 0, none⟩)) <| sS (.int .u8 0) (Quiet.cell 3 g3 0 139 5 (Zl 33).toArray _ _ rfl kR kR Tryz.underlying5 rfl _ kR) ?_
 refine sG <| Sy.block <| sC ?_
 refine sP (.bool true) <| sP (.bool true) ?_
 refine sG <| sT <| sC ?_
 refine sP (fv 0) <| sP (.agg ((Zl 32) : List Value).toArray) <| sW 1 g1 24 (fcs 0) (fcs 0) (wS 0 24 (fcs 0) rfl) <| sW 2 g2 31 (Zl 32).toArray (Zl 32).toArray (wS 0 31 (Zl 32).toArray rfl) <| sP (.bool false) ?_
 refine sG <| Sy.ret <| Sy.in_ret <| Sy.then_ret ?_
 rw [show (.tuple #[fv 0, .agg ((evX none).map bv).toArray, .bool false] : Value) = .tuple #[fv 0, .agg ((Zl 32) : List Value).toArray, .bool false] from by kernel_rfl]
 exact Sy.ret3 (v := fv 0) (u := .agg ((Zl 32) : List Value).toArray) (x := .bool false) rfl (.inl (Res.cell (ty' := 24) g1 1 (fcs 0) _ kR kR Tryz.underlying24 rfl kR kR)) (.inl (Res.cell (ty' := 31) g2 2 (Zl 32).toArray _ kR kR Tryz.underlying31 rfl kR kR)) (.inl (show _ = _ by kernel_rfl))
theorem even_2 (w : World) (k : Nat) (hk : k < K4) (u v : Fp) (h : evP k = some (u, v)) (ho : v * v = u * u * u + 7) (hv : v.val % 2 = 0) : Calls Tryz.prog 39 #[fv k] w (Gets w (.tuple #[fv k, .agg ((evX (some (u, v))).map bv).toArray, .bool true])) := by
 obtain ⟨a0, a1, a2, a3, a4, a5, a6, a7, a8, a9, a10, a11, a12, a13, a14, a15, a16, a17, a18, a19, a20, a21, a22, a23, a24, a25, a26, a27, a28, a29, a30, a31, hm⟩ := list32 (bytesS u.val) (bytesS_length _)
 have cM : ∀ w, Calls Tryz.prog 93 #[fv k, pv gx.val gy.val false] w (Gets w (pv u.val v.val false)) := fun w => by have q := base_mul w k hk; rw [h] at q; exact q
 have cE : ∀ w, Calls Tryz.prog 92 #[pv u.val v.val false] w (Gets w (.agg ((.int .u8 2 :: bv a0 :: bv a1 :: [bv a2, bv a3, bv a4, bv a5, bv a6, bv a7, bv a8, bv a9, bv a10, bv a11, bv a12, bv a13, bv a14, bv a15, bv a16, bv a17, bv a18, bv a19, bv a20, bv a21, bv a22, bv a23, bv a24, bv a25, bv a26, bv a27, bv a28, bv a29, bv a30, bv a31]) : List Value).toArray)) := fun w => by
  have q := enc_pt w u v ho
  rw [show encS (some (u, v)) = 2 :: bytesS u.val from by show (if v.val % 2 = 1 then (3 : UInt8) else 2) :: bytesS u.val = _; rw [if_neg (by omega)], hm] at q
  exact q
 refine Sy.enter (args := [fv k]) Tryz.func39 rfl kL ?_
 refine sC ?_
 refine sM 24 (fcs k) (fun g0 => ?_)
 refine sM 24 (fcs 0) (fun g1 => ?_)
 refine sM 31 (Zl 32).toArray (fun g2 => ?_)
 refine sP (.bool false) ?_
 refine sH (fun j => j == 5) ?_
 refine sD 0 rfl (fv k) (qL 0 g0 0 4 24 24 (fcs k) rfl Tryz.underlying24) <| sD 1 rfl (pv gx.val gy.val false) (qF 94 #[] (base_c)) <| sD 2 rfl (pv u.val v.val false) (qF 93 #[fv k, pv gx.val gy.val false] (cM)) <| sD 3 rfl (.agg ((.int .u8 2 :: bv a0 :: bv a1 :: [bv a2, bv a3, bv a4, bv a5, bv a6, bv a7, bv a8, bv a9, bv a10, bv a11, bv a12, bv a13, bv a14, bv a15, bv a16, bv a17, bv a18, bv a19, bv a20, bv a21, bv a22, bv a23, bv a24, bv a25, bv a26, bv a27, bv a28, bv a29, bv a30, bv a31]) : List Value).toArray) (qF 92 #[pv u.val v.val false] (cE)) ?_
 refine Sy.makeD 4 rfl kR kR 139 (Zl 33).toArray ptr kF (fun g3 => ?_)
 refine Sy.writeD 5 rfl kR (by rfl) kR 3 g3 139 (Zl 33).toArray (.int .u8 2 :: bv a0 :: bv a1 :: [bv a2, bv a3, bv a4, bv a5, bv a6, bv a7, bv a8, bv a9, bv a10, bv a11, bv a12, bv a13, bv a14, bv a15, bv a16, bv a17, bv a18, bv a19, bv a20, bv a21, bv a22, bv a23, bv a24, bv a25, bv a26, bv a27, bv a28, bv a29, bv a30, bv a31]).toArray kR (Writes.store 0 139 (.int .u8 2 :: bv a0 :: bv a1 :: [bv a2, bv a3, bv a4, bv a5, bv a6, bv a7, bv a8, bv a9, bv a10, bv a11, bv a12, bv a13, bv a14, bv a15, bv a16, bv a17, bv a18, bv a19, bv a20, bv a21, bv a22, bv a23, bv a24, bv a25, bv a26, bv a27, bv a28, bv a29, bv a30, bv a31]).toArray _ _ rfl kR kR kR kL kR kR) ?_
 refine sI ?_
 refine Sy.seq <| sC ?_
 refine sP (.pointer (some ⟨g3, 0, none⟩)) <| sS (.int .u8 2) (Quiet.cell 3 g3 0 139 5 (.int .u8 2 :: bv a0 :: bv a1 :: [bv a2, bv a3, bv a4, bv a5, bv a6, bv a7, bv a8, bv a9, bv a10, bv a11, bv a12, bv a13, bv a14, bv a15, bv a16, bv a17, bv a18, bv a19, bv a20, bv a21, bv a22, bv a23, bv a24, bv a25, bv a26, bv a27, bv a28, bv a29, bv a30, bv a31]).toArray _ _ rfl kR kR Tryz.underlying5 rfl _ kR) ?_
 refine sG <| Sy.block <| sC ?_
 refine sP (.bool false) <| sP (.bool false) ?_
 refine sG <| sU <| sC ?_
 refine sP (.bool false) <| sP (.bool false) ?_
 refine sG <| sU <| Sy.skip <| Sy.in_ ?_
 refine sR (fun j => j == 4 || j == 5) ?_
 refine sD 0 rfl (fv k) (qL 0 g0 0 4 24 24 (fcs k) rfl Tryz.underlying24) ?_
 refine Sy.joinD (fun gq => [(0, fv k), (1, .pointer (some ⟨g0, 0, none⟩)), (2, .pointer (some ⟨g1, 0, none⟩)), (3, .pointer (some ⟨g2, 0, none⟩)), (4, .bool false), (5, .pointer (some ⟨g3, 0, none⟩)), (6, fv k), (7, pv gx.val gy.val false), (8, pv u.val v.val false), (9, .agg ((.int .u8 2 :: bv a0 :: bv a1 :: [bv a2, bv a3, bv a4, bv a5, bv a6, bv a7, bv a8, bv a9, bv a10, bv a11, bv a12, bv a13, bv a14, bv a15, bv a16, bv a17, bv a18, bv a19, bv a20, bv a21, bv a22, bv a23, bv a24, bv a25, bv a26, bv a27, bv a28, bv a29, bv a30, bv a31]) : List Value).toArray), (10, .pointer (some ⟨g3, 0, none⟩)), (11, .int .u8 2), (12, .bool false), (13, .bool false), (16, .bool false), (17, .bool false), (20, fv k), (21, .slice (some ⟨g3, 1, none⟩) 32 32), (22, .pointer (some ⟨g3, 1, none⟩)), (23, .agg ((bv a0 :: bv a1 :: [bv a2, bv a3, bv a4, bv a5, bv a6, bv a7, bv a8, bv a9, bv a10, bv a11, bv a12, bv a13, bv a14, bv a15, bv a16, bv a17, bv a18, bv a19, bv a20, bv a21, bv a22, bv a23, bv a24, bv a25, bv a26, bv a27, bv a28, bv a29, bv a30, bv a31]) : List Value).toArray)]) (fun gq => [(g0, 24, (fcs k)), (g1, 24, (fcs k)), (g2, 31, (Zl 32).toArray), (g3, 139, (.int .u8 2 :: bv a0 :: bv a1 :: [bv a2, bv a3, bv a4, bv a5, bv a6, bv a7, bv a8, bv a9, bv a10, bv a11, bv a12, bv a13, bv a14, bv a15, bv a16, bv a17, bv a18, bv a19, bv a20, bv a21, bv a22, bv a23, bv a24, bv a25, bv a26, bv a27, bv a28, bv a29, bv a30, bv a31]).toArray)]) 2 #[true, true, true, true, true, false, false] (fun gq => ?_) (fun fin => ?_)
 ·refine sX 5 rfl 2 g2 31 (Zl 32).toArray (bv a0 :: bv a1 :: [bv a2, bv a3, bv a4, bv a5, bv a6, bv a7, bv a8, bv a9, bv a10, bv a11, bv a12, bv a13, bv a14, bv a15, bv a16, bv a17, bv a18, bv a19, bv a20, bv a21, bv a22, bv a23, bv a24, bv a25, bv a26, bv a27, bv a28, bv a29, bv a30, bv a31]).toArray (wS 0 31 (bv a0 :: bv a1 :: [bv a2, bv a3, bv a4, bv a5, bv a6, bv a7, bv a8, bv a9, bv a10, bv a11, bv a12, bv a13, bv a14, bv a15, bv a16, bv a17, bv a18, bv a19, bv a20, bv a21, bv a22, bv a23, bv a24, bv a25, bv a26, bv a27, bv a28, bv a29, bv a30, bv a31]).toArray rfl) ?_
  refine Sy.anyOf [6] kR (by decide) (Sy.each1 ?_)
  refine Sy.oneQuiet rfl kR (.bool true) qP ?_
  refine sI ?_
  refine Sy.ret ?_
  rw [show (.tuple #[fv k, .agg ((evX (some (u, v))).map bv).toArray, .bool true] : Value) = .tuple #[fv k, .agg ((bv a0 :: bv a1 :: [bv a2, bv a3, bv a4, bv a5, bv a6, bv a7, bv a8, bv a9, bv a10, bv a11, bv a12, bv a13, bv a14, bv a15, bv a16, bv a17, bv a18, bv a19, bv a20, bv a21, bv a22, bv a23, bv a24, bv a25, bv a26, bv a27, bv a28, bv a29, bv a30, bv a31]) : List Value).toArray, .bool true] from by rw [show evX (some (u, v)) = bytesS u.val from rfl, hm]; rfl]
  exact Sy.ret3 (v := fv k) (u := .agg ((bv a0 :: bv a1 :: [bv a2, bv a3, bv a4, bv a5, bv a6, bv a7, bv a8, bv a9, bv a10, bv a11, bv a12, bv a13, bv a14, bv a15, bv a16, bv a17, bv a18, bv a19, bv a20, bv a21, bv a22, bv a23, bv a24, bv a25, bv a26, bv a27, bv a28, bv a29, bv a30, bv a31]) : List Value).toArray) (x := .bool true) rfl (.inl (Res.cell (ty' := 24) g1 1 (fcs k) _ kR kR Tryz.underlying24 rfl kR kR)) (.inl (Res.cell (ty' := 31) g2 2 (bv a0 :: bv a1 :: [bv a2, bv a3, bv a4, bv a5, bv a6, bv a7, bv a8, bv a9, bv a10, bv a11, bv a12, bv a13, bv a14, bv a15, bv a16, bv a17, bv a18, bv a19, bv a20, bv a21, bv a22, bv a23, bv a24, bv a25, bv a26, bv a27, bv a28, bv a29, bv a30, bv a31]).toArray _ kR kR Tryz.underlying31 rfl kR kR)) (.inl (show _ = _ by kernel_rfl))
 ·refine Sy.anyOf [1, 4] kR (by decide) (Sy.each2 ?_ ?_)
  ·refine Sy.oneQuiet rfl kR (.slice (some ⟨g3, 1, none⟩) 32 32) qP ?_
   refine Sy.anyOf [2, 4] kR (by decide) (Sy.each2 ?_ ?_)
   ·refine Sy.oneQuiet rfl kR (.pointer (some ⟨g3, 1, none⟩)) qP ?_
    refine Sy.anyOf [3, 4] kR (by decide) (Sy.each2 ?_ ?_)
    ·refine Sy.oneQuiet rfl kR (.agg ((bv a0 :: bv a1 :: [bv a2, bv a3, bv a4, bv a5, bv a6, bv a7, bv a8, bv a9, bv a10, bv a11, bv a12, bv a13, bv a14, bv a15, bv a16, bv a17, bv a18, bv a19, bv a20, bv a21, bv a22, bv a23, bv a24, bv a25, bv a26, bv a27, bv a28, bv a29, bv a30, bv a31]) : List Value).toArray) (Quiet.load 3 g3 1 32 139 31 (.int .u8 2 :: bv a0 :: bv a1 :: [bv a2, bv a3, bv a4, bv a5, bv a6, bv a7, bv a8, bv a9, bv a10, bv a11, bv a12, bv a13, bv a14, bv a15, bv a16, bv a17, bv a18, bv a19, bv a20, bv a21, bv a22, bv a23, bv a24, bv a25, bv a26, bv a27, bv a28, bv a29, bv a30, bv a31]).toArray _ _ rfl kR kR Tryz.underlying31 rfl kR _ kR kL) ?_
     refine Sy.anyOf [4] kR (by decide) (Sy.each1 ?_)
     ·refine Sy.oneWrite rfl (by rfl) kR 1 g1 24 (fcs 0) (fcs k) kR (wS 0 24 (fcs k) rfl) ?_
      exact Sy.leafI fin (fun i => 0) kR (all_cons kR (all_cons kR (all_cons kR (all_cons kR (all_cons kR (all_cons kR (all_cons kR (all_cons kR (all_cons kR (all_cons kR (all_cons kR (all_cons kR (all_cons kR (all_cons kR (all_cons kR (all_cons kR (all_cons kR (all_cons kR (all_cons kR (all_cons kR all_nil)))))))))))))))))))) kR
    ·refine Sy.oneWrite rfl (by rfl) kR 1 g1 24 (fcs 0) (fcs k) kR (wS 0 24 (fcs k) rfl) ?_
     refine Sy.anyOf [3] kR (by decide) (Sy.each1 ?_)
     ·refine Sy.oneQuiet rfl kR (.agg ((bv a0 :: bv a1 :: [bv a2, bv a3, bv a4, bv a5, bv a6, bv a7, bv a8, bv a9, bv a10, bv a11, bv a12, bv a13, bv a14, bv a15, bv a16, bv a17, bv a18, bv a19, bv a20, bv a21, bv a22, bv a23, bv a24, bv a25, bv a26, bv a27, bv a28, bv a29, bv a30, bv a31]) : List Value).toArray) (Quiet.load 3 g3 1 32 139 31 (.int .u8 2 :: bv a0 :: bv a1 :: [bv a2, bv a3, bv a4, bv a5, bv a6, bv a7, bv a8, bv a9, bv a10, bv a11, bv a12, bv a13, bv a14, bv a15, bv a16, bv a17, bv a18, bv a19, bv a20, bv a21, bv a22, bv a23, bv a24, bv a25, bv a26, bv a27, bv a28, bv a29, bv a30, bv a31]).toArray _ _ rfl kR kR Tryz.underlying31 rfl kR _ kR kL) ?_
      exact Sy.leafI fin (fun i => 0) kR (all_cons kR (all_cons kR (all_cons kR (all_cons kR (all_cons kR (all_cons kR (all_cons kR (all_cons kR (all_cons kR (all_cons kR (all_cons kR (all_cons kR (all_cons kR (all_cons kR (all_cons kR (all_cons kR (all_cons kR (all_cons kR (all_cons kR (all_cons kR all_nil)))))))))))))))))))) kR
   ·refine Sy.oneWrite rfl (by rfl) kR 1 g1 24 (fcs 0) (fcs k) kR (wS 0 24 (fcs k) rfl) ?_
    refine Sy.anyOf [2] kR (by decide) (Sy.each1 ?_)
    ·refine Sy.oneQuiet rfl kR (.pointer (some ⟨g3, 1, none⟩)) qP ?_
     refine Sy.anyOf [3] kR (by decide) (Sy.each1 ?_)
     ·refine Sy.oneQuiet rfl kR (.agg ((bv a0 :: bv a1 :: [bv a2, bv a3, bv a4, bv a5, bv a6, bv a7, bv a8, bv a9, bv a10, bv a11, bv a12, bv a13, bv a14, bv a15, bv a16, bv a17, bv a18, bv a19, bv a20, bv a21, bv a22, bv a23, bv a24, bv a25, bv a26, bv a27, bv a28, bv a29, bv a30, bv a31]) : List Value).toArray) (Quiet.load 3 g3 1 32 139 31 (.int .u8 2 :: bv a0 :: bv a1 :: [bv a2, bv a3, bv a4, bv a5, bv a6, bv a7, bv a8, bv a9, bv a10, bv a11, bv a12, bv a13, bv a14, bv a15, bv a16, bv a17, bv a18, bv a19, bv a20, bv a21, bv a22, bv a23, bv a24, bv a25, bv a26, bv a27, bv a28, bv a29, bv a30, bv a31]).toArray _ _ rfl kR kR Tryz.underlying31 rfl kR _ kR kL) ?_
      exact Sy.leafI fin (fun i => 0) kR (all_cons kR (all_cons kR (all_cons kR (all_cons kR (all_cons kR (all_cons kR (all_cons kR (all_cons kR (all_cons kR (all_cons kR (all_cons kR (all_cons kR (all_cons kR (all_cons kR (all_cons kR (all_cons kR (all_cons kR (all_cons kR (all_cons kR (all_cons kR all_nil)))))))))))))))))))) kR
  ·refine Sy.oneWrite rfl (by rfl) kR 1 g1 24 (fcs 0) (fcs k) kR (wS 0 24 (fcs k) rfl) ?_
   refine Sy.anyOf [1] kR (by decide) (Sy.each1 ?_)
   ·refine Sy.oneQuiet rfl kR (.slice (some ⟨g3, 1, none⟩) 32 32) qP ?_
    refine Sy.anyOf [2] kR (by decide) (Sy.each1 ?_)
    ·refine Sy.oneQuiet rfl kR (.pointer (some ⟨g3, 1, none⟩)) qP ?_
     refine Sy.anyOf [3] kR (by decide) (Sy.each1 ?_)
     ·refine Sy.oneQuiet rfl kR (.agg ((bv a0 :: bv a1 :: [bv a2, bv a3, bv a4, bv a5, bv a6, bv a7, bv a8, bv a9, bv a10, bv a11, bv a12, bv a13, bv a14, bv a15, bv a16, bv a17, bv a18, bv a19, bv a20, bv a21, bv a22, bv a23, bv a24, bv a25, bv a26, bv a27, bv a28, bv a29, bv a30, bv a31]) : List Value).toArray) (Quiet.load 3 g3 1 32 139 31 (.int .u8 2 :: bv a0 :: bv a1 :: [bv a2, bv a3, bv a4, bv a5, bv a6, bv a7, bv a8, bv a9, bv a10, bv a11, bv a12, bv a13, bv a14, bv a15, bv a16, bv a17, bv a18, bv a19, bv a20, bv a21, bv a22, bv a23, bv a24, bv a25, bv a26, bv a27, bv a28, bv a29, bv a30, bv a31]).toArray _ _ rfl kR kR Tryz.underlying31 rfl kR _ kR kL) ?_
      exact Sy.leafI fin (fun i => 0) kR (all_cons kR (all_cons kR (all_cons kR (all_cons kR (all_cons kR (all_cons kR (all_cons kR (all_cons kR (all_cons kR (all_cons kR (all_cons kR (all_cons kR (all_cons kR (all_cons kR (all_cons kR (all_cons kR (all_cons kR (all_cons kR (all_cons kR (all_cons kR all_nil)))))))))))))))))))) kR
theorem even_3 (w : World) (k : Nat) (hk : k < K4) (u v : Fp) (h : evP k = some (u, v)) (ho : v * v = u * u * u + 7) (hv : v.val % 2 = 1) : Calls Tryz.prog 39 #[fv k] w (Gets w (.tuple #[fv (Sc.negP k), .agg ((evX (some (u, v))).map bv).toArray, .bool true])) := by
 obtain ⟨a0, a1, a2, a3, a4, a5, a6, a7, a8, a9, a10, a11, a12, a13, a14, a15, a16, a17, a18, a19, a20, a21, a22, a23, a24, a25, a26, a27, a28, a29, a30, a31, hm⟩ := list32 (bytesS u.val) (bytesS_length _)
 have cM : ∀ w, Calls Tryz.prog 93 #[fv k, pv gx.val gy.val false] w (Gets w (pv u.val v.val false)) := fun w => by have q := base_mul w k hk; rw [h] at q; exact q
 have cE : ∀ w, Calls Tryz.prog 92 #[pv u.val v.val false] w (Gets w (.agg ((.int .u8 3 :: bv a0 :: bv a1 :: [bv a2, bv a3, bv a4, bv a5, bv a6, bv a7, bv a8, bv a9, bv a10, bv a11, bv a12, bv a13, bv a14, bv a15, bv a16, bv a17, bv a18, bv a19, bv a20, bv a21, bv a22, bv a23, bv a24, bv a25, bv a26, bv a27, bv a28, bv a29, bv a30, bv a31]) : List Value).toArray)) := fun w => by
  have q := enc_pt w u v ho
  rw [show encS (some (u, v)) = 3 :: bytesS u.val from by show (if v.val % 2 = 1 then (3 : UInt8) else 2) :: bytesS u.val = _; rw [if_pos (by omega)], hm] at q
  exact q
 refine Sy.enter (args := [fv k]) Tryz.func39 rfl kL ?_
 refine sC ?_
 refine sM 24 (fcs k) (fun g0 => ?_)
 refine sM 24 (fcs 0) (fun g1 => ?_)
 refine sM 31 (Zl 32).toArray (fun g2 => ?_)
 refine sP (.bool false) ?_
 refine sH (fun j => j == 5) ?_
 refine sD 0 rfl (fv k) (qL 0 g0 0 4 24 24 (fcs k) rfl Tryz.underlying24) <| sD 1 rfl (pv gx.val gy.val false) (qF 94 #[] (base_c)) <| sD 2 rfl (pv u.val v.val false) (qF 93 #[fv k, pv gx.val gy.val false] (cM)) <| sD 3 rfl (.agg ((.int .u8 3 :: bv a0 :: bv a1 :: [bv a2, bv a3, bv a4, bv a5, bv a6, bv a7, bv a8, bv a9, bv a10, bv a11, bv a12, bv a13, bv a14, bv a15, bv a16, bv a17, bv a18, bv a19, bv a20, bv a21, bv a22, bv a23, bv a24, bv a25, bv a26, bv a27, bv a28, bv a29, bv a30, bv a31]) : List Value).toArray) (qF 92 #[pv u.val v.val false] (cE)) ?_
 refine Sy.makeD 4 rfl kR kR 139 (Zl 33).toArray ptr kF (fun g3 => ?_)
 refine Sy.writeD 5 rfl kR (by rfl) kR 3 g3 139 (Zl 33).toArray (.int .u8 3 :: bv a0 :: bv a1 :: [bv a2, bv a3, bv a4, bv a5, bv a6, bv a7, bv a8, bv a9, bv a10, bv a11, bv a12, bv a13, bv a14, bv a15, bv a16, bv a17, bv a18, bv a19, bv a20, bv a21, bv a22, bv a23, bv a24, bv a25, bv a26, bv a27, bv a28, bv a29, bv a30, bv a31]).toArray kR (Writes.store 0 139 (.int .u8 3 :: bv a0 :: bv a1 :: [bv a2, bv a3, bv a4, bv a5, bv a6, bv a7, bv a8, bv a9, bv a10, bv a11, bv a12, bv a13, bv a14, bv a15, bv a16, bv a17, bv a18, bv a19, bv a20, bv a21, bv a22, bv a23, bv a24, bv a25, bv a26, bv a27, bv a28, bv a29, bv a30, bv a31]).toArray _ _ rfl kR kR kR kL kR kR) ?_
 refine sI ?_
 refine Sy.seq <| sC ?_
 refine sP (.pointer (some ⟨g3, 0, none⟩)) <| sS (.int .u8 3) (Quiet.cell 3 g3 0 139 5 (.int .u8 3 :: bv a0 :: bv a1 :: [bv a2, bv a3, bv a4, bv a5, bv a6, bv a7, bv a8, bv a9, bv a10, bv a11, bv a12, bv a13, bv a14, bv a15, bv a16, bv a17, bv a18, bv a19, bv a20, bv a21, bv a22, bv a23, bv a24, bv a25, bv a26, bv a27, bv a28, bv a29, bv a30, bv a31]).toArray _ _ rfl kR kR Tryz.underlying5 rfl _ kR) ?_
 refine sG <| Sy.block <| sC ?_
 refine sP (.bool false) <| sP (.bool false) ?_
 refine sG <| sU <| sC ?_
 refine sP (.bool true) <| sP (.bool true) ?_
 refine sG <| sT <| Sy.region ?_
 refine sS (fv k) (qL 0 g0 0 4 24 24 (fcs k) rfl Tryz.underlying24) <| sS (fv (Sc.negP k)) (qF 95 #[fv k] (fun w => Sc.negF_any w k hk)) <| sW 0 g0 24 (fcs k) (fcs (Sc.negP k)) (wS 0 24 (fcs (Sc.negP k)) rfl) ?_
 refine Sy.nil <| Sy.in_ ?_
 refine sR (fun j => j == 4 || j == 5) ?_
 refine sD 0 rfl (fv (Sc.negP k)) (qL 0 g0 0 4 24 24 (fcs (Sc.negP k)) rfl Tryz.underlying24) ?_
 refine Sy.joinD (fun gq => [(0, fv k), (1, .pointer (some ⟨g0, 0, none⟩)), (2, .pointer (some ⟨g1, 0, none⟩)), (3, .pointer (some ⟨g2, 0, none⟩)), (4, .bool false), (5, .pointer (some ⟨g3, 0, none⟩)), (6, fv k), (7, pv gx.val gy.val false), (8, pv u.val v.val false), (9, .agg ((.int .u8 3 :: bv a0 :: bv a1 :: [bv a2, bv a3, bv a4, bv a5, bv a6, bv a7, bv a8, bv a9, bv a10, bv a11, bv a12, bv a13, bv a14, bv a15, bv a16, bv a17, bv a18, bv a19, bv a20, bv a21, bv a22, bv a23, bv a24, bv a25, bv a26, bv a27, bv a28, bv a29, bv a30, bv a31]) : List Value).toArray), (10, .pointer (some ⟨g3, 0, none⟩)), (11, .int .u8 3), (12, .bool false), (13, .bool false), (16, .bool true), (17, .bool true), (18, fv k), (19, fv (Sc.negP k)), (20, fv (Sc.negP k)), (21, .slice (some ⟨g3, 1, none⟩) 32 32), (22, .pointer (some ⟨g3, 1, none⟩)), (23, .agg ((bv a0 :: bv a1 :: [bv a2, bv a3, bv a4, bv a5, bv a6, bv a7, bv a8, bv a9, bv a10, bv a11, bv a12, bv a13, bv a14, bv a15, bv a16, bv a17, bv a18, bv a19, bv a20, bv a21, bv a22, bv a23, bv a24, bv a25, bv a26, bv a27, bv a28, bv a29, bv a30, bv a31]) : List Value).toArray)]) (fun gq => [(g0, 24, (fcs (Sc.negP k))), (g1, 24, (fcs (Sc.negP k))), (g2, 31, (Zl 32).toArray), (g3, 139, (.int .u8 3 :: bv a0 :: bv a1 :: [bv a2, bv a3, bv a4, bv a5, bv a6, bv a7, bv a8, bv a9, bv a10, bv a11, bv a12, bv a13, bv a14, bv a15, bv a16, bv a17, bv a18, bv a19, bv a20, bv a21, bv a22, bv a23, bv a24, bv a25, bv a26, bv a27, bv a28, bv a29, bv a30, bv a31]).toArray)]) 2 #[true, true, true, true, true, false, false] (fun gq => ?_) (fun fin => ?_)
 ·refine sX 5 rfl 2 g2 31 (Zl 32).toArray (bv a0 :: bv a1 :: [bv a2, bv a3, bv a4, bv a5, bv a6, bv a7, bv a8, bv a9, bv a10, bv a11, bv a12, bv a13, bv a14, bv a15, bv a16, bv a17, bv a18, bv a19, bv a20, bv a21, bv a22, bv a23, bv a24, bv a25, bv a26, bv a27, bv a28, bv a29, bv a30, bv a31]).toArray (wS 0 31 (bv a0 :: bv a1 :: [bv a2, bv a3, bv a4, bv a5, bv a6, bv a7, bv a8, bv a9, bv a10, bv a11, bv a12, bv a13, bv a14, bv a15, bv a16, bv a17, bv a18, bv a19, bv a20, bv a21, bv a22, bv a23, bv a24, bv a25, bv a26, bv a27, bv a28, bv a29, bv a30, bv a31]).toArray rfl) ?_
  refine Sy.anyOf [6] kR (by decide) (Sy.each1 ?_)
  refine Sy.oneQuiet rfl kR (.bool true) qP ?_
  refine sI ?_
  refine Sy.ret ?_
  rw [show (.tuple #[fv (Sc.negP k), .agg ((evX (some (u, v))).map bv).toArray, .bool true] : Value) = .tuple #[fv (Sc.negP k), .agg ((bv a0 :: bv a1 :: [bv a2, bv a3, bv a4, bv a5, bv a6, bv a7, bv a8, bv a9, bv a10, bv a11, bv a12, bv a13, bv a14, bv a15, bv a16, bv a17, bv a18, bv a19, bv a20, bv a21, bv a22, bv a23, bv a24, bv a25, bv a26, bv a27, bv a28, bv a29, bv a30, bv a31]) : List Value).toArray, .bool true] from by rw [show evX (some (u, v)) = bytesS u.val from rfl, hm]; rfl]
  exact Sy.ret3 (v := fv (Sc.negP k)) (u := .agg ((bv a0 :: bv a1 :: [bv a2, bv a3, bv a4, bv a5, bv a6, bv a7, bv a8, bv a9, bv a10, bv a11, bv a12, bv a13, bv a14, bv a15, bv a16, bv a17, bv a18, bv a19, bv a20, bv a21, bv a22, bv a23, bv a24, bv a25, bv a26, bv a27, bv a28, bv a29, bv a30, bv a31]) : List Value).toArray) (x := .bool true) rfl (.inl (Res.cell (ty' := 24) g1 1 (fcs (Sc.negP k)) _ kR kR Tryz.underlying24 rfl kR kR)) (.inl (Res.cell (ty' := 31) g2 2 (bv a0 :: bv a1 :: [bv a2, bv a3, bv a4, bv a5, bv a6, bv a7, bv a8, bv a9, bv a10, bv a11, bv a12, bv a13, bv a14, bv a15, bv a16, bv a17, bv a18, bv a19, bv a20, bv a21, bv a22, bv a23, bv a24, bv a25, bv a26, bv a27, bv a28, bv a29, bv a30, bv a31]).toArray _ kR kR Tryz.underlying31 rfl kR kR)) (.inl (show _ = _ by kernel_rfl))
 ·refine Sy.anyOf [1, 4] kR (by decide) (Sy.each2 ?_ ?_)
  ·refine Sy.oneQuiet rfl kR (.slice (some ⟨g3, 1, none⟩) 32 32) qP ?_
   refine Sy.anyOf [2, 4] kR (by decide) (Sy.each2 ?_ ?_)
   ·refine Sy.oneQuiet rfl kR (.pointer (some ⟨g3, 1, none⟩)) qP ?_
    refine Sy.anyOf [3, 4] kR (by decide) (Sy.each2 ?_ ?_)
    ·refine Sy.oneQuiet rfl kR (.agg ((bv a0 :: bv a1 :: [bv a2, bv a3, bv a4, bv a5, bv a6, bv a7, bv a8, bv a9, bv a10, bv a11, bv a12, bv a13, bv a14, bv a15, bv a16, bv a17, bv a18, bv a19, bv a20, bv a21, bv a22, bv a23, bv a24, bv a25, bv a26, bv a27, bv a28, bv a29, bv a30, bv a31]) : List Value).toArray) (Quiet.load 3 g3 1 32 139 31 (.int .u8 3 :: bv a0 :: bv a1 :: [bv a2, bv a3, bv a4, bv a5, bv a6, bv a7, bv a8, bv a9, bv a10, bv a11, bv a12, bv a13, bv a14, bv a15, bv a16, bv a17, bv a18, bv a19, bv a20, bv a21, bv a22, bv a23, bv a24, bv a25, bv a26, bv a27, bv a28, bv a29, bv a30, bv a31]).toArray _ _ rfl kR kR Tryz.underlying31 rfl kR _ kR kL) ?_
     refine Sy.anyOf [4] kR (by decide) (Sy.each1 ?_)
     ·refine Sy.oneWrite rfl (by rfl) kR 1 g1 24 (fcs 0) (fcs (Sc.negP k)) kR (wS 0 24 (fcs (Sc.negP k)) rfl) ?_
      exact Sy.leafI fin (fun i => 0) kR (all_cons kR (all_cons kR (all_cons kR (all_cons kR (all_cons kR (all_cons kR (all_cons kR (all_cons kR (all_cons kR (all_cons kR (all_cons kR (all_cons kR (all_cons kR (all_cons kR (all_cons kR (all_cons kR (all_cons kR (all_cons kR (all_cons kR (all_cons kR (all_cons kR (all_cons kR all_nil)))))))))))))))))))))) kR
    ·refine Sy.oneWrite rfl (by rfl) kR 1 g1 24 (fcs 0) (fcs (Sc.negP k)) kR (wS 0 24 (fcs (Sc.negP k)) rfl) ?_
     refine Sy.anyOf [3] kR (by decide) (Sy.each1 ?_)
     ·refine Sy.oneQuiet rfl kR (.agg ((bv a0 :: bv a1 :: [bv a2, bv a3, bv a4, bv a5, bv a6, bv a7, bv a8, bv a9, bv a10, bv a11, bv a12, bv a13, bv a14, bv a15, bv a16, bv a17, bv a18, bv a19, bv a20, bv a21, bv a22, bv a23, bv a24, bv a25, bv a26, bv a27, bv a28, bv a29, bv a30, bv a31]) : List Value).toArray) (Quiet.load 3 g3 1 32 139 31 (.int .u8 3 :: bv a0 :: bv a1 :: [bv a2, bv a3, bv a4, bv a5, bv a6, bv a7, bv a8, bv a9, bv a10, bv a11, bv a12, bv a13, bv a14, bv a15, bv a16, bv a17, bv a18, bv a19, bv a20, bv a21, bv a22, bv a23, bv a24, bv a25, bv a26, bv a27, bv a28, bv a29, bv a30, bv a31]).toArray _ _ rfl kR kR Tryz.underlying31 rfl kR _ kR kL) ?_
      exact Sy.leafI fin (fun i => 0) kR (all_cons kR (all_cons kR (all_cons kR (all_cons kR (all_cons kR (all_cons kR (all_cons kR (all_cons kR (all_cons kR (all_cons kR (all_cons kR (all_cons kR (all_cons kR (all_cons kR (all_cons kR (all_cons kR (all_cons kR (all_cons kR (all_cons kR (all_cons kR (all_cons kR (all_cons kR all_nil)))))))))))))))))))))) kR
   ·refine Sy.oneWrite rfl (by rfl) kR 1 g1 24 (fcs 0) (fcs (Sc.negP k)) kR (wS 0 24 (fcs (Sc.negP k)) rfl) ?_
    refine Sy.anyOf [2] kR (by decide) (Sy.each1 ?_)
    ·refine Sy.oneQuiet rfl kR (.pointer (some ⟨g3, 1, none⟩)) qP ?_
     refine Sy.anyOf [3] kR (by decide) (Sy.each1 ?_)
     ·refine Sy.oneQuiet rfl kR (.agg ((bv a0 :: bv a1 :: [bv a2, bv a3, bv a4, bv a5, bv a6, bv a7, bv a8, bv a9, bv a10, bv a11, bv a12, bv a13, bv a14, bv a15, bv a16, bv a17, bv a18, bv a19, bv a20, bv a21, bv a22, bv a23, bv a24, bv a25, bv a26, bv a27, bv a28, bv a29, bv a30, bv a31]) : List Value).toArray) (Quiet.load 3 g3 1 32 139 31 (.int .u8 3 :: bv a0 :: bv a1 :: [bv a2, bv a3, bv a4, bv a5, bv a6, bv a7, bv a8, bv a9, bv a10, bv a11, bv a12, bv a13, bv a14, bv a15, bv a16, bv a17, bv a18, bv a19, bv a20, bv a21, bv a22, bv a23, bv a24, bv a25, bv a26, bv a27, bv a28, bv a29, bv a30, bv a31]).toArray _ _ rfl kR kR Tryz.underlying31 rfl kR _ kR kL) ?_
      exact Sy.leafI fin (fun i => 0) kR (all_cons kR (all_cons kR (all_cons kR (all_cons kR (all_cons kR (all_cons kR (all_cons kR (all_cons kR (all_cons kR (all_cons kR (all_cons kR (all_cons kR (all_cons kR (all_cons kR (all_cons kR (all_cons kR (all_cons kR (all_cons kR (all_cons kR (all_cons kR (all_cons kR (all_cons kR all_nil)))))))))))))))))))))) kR
  ·refine Sy.oneWrite rfl (by rfl) kR 1 g1 24 (fcs 0) (fcs (Sc.negP k)) kR (wS 0 24 (fcs (Sc.negP k)) rfl) ?_
   refine Sy.anyOf [1] kR (by decide) (Sy.each1 ?_)
   ·refine Sy.oneQuiet rfl kR (.slice (some ⟨g3, 1, none⟩) 32 32) qP ?_
    refine Sy.anyOf [2] kR (by decide) (Sy.each1 ?_)
    ·refine Sy.oneQuiet rfl kR (.pointer (some ⟨g3, 1, none⟩)) qP ?_
     refine Sy.anyOf [3] kR (by decide) (Sy.each1 ?_)
     ·refine Sy.oneQuiet rfl kR (.agg ((bv a0 :: bv a1 :: [bv a2, bv a3, bv a4, bv a5, bv a6, bv a7, bv a8, bv a9, bv a10, bv a11, bv a12, bv a13, bv a14, bv a15, bv a16, bv a17, bv a18, bv a19, bv a20, bv a21, bv a22, bv a23, bv a24, bv a25, bv a26, bv a27, bv a28, bv a29, bv a30, bv a31]) : List Value).toArray) (Quiet.load 3 g3 1 32 139 31 (.int .u8 3 :: bv a0 :: bv a1 :: [bv a2, bv a3, bv a4, bv a5, bv a6, bv a7, bv a8, bv a9, bv a10, bv a11, bv a12, bv a13, bv a14, bv a15, bv a16, bv a17, bv a18, bv a19, bv a20, bv a21, bv a22, bv a23, bv a24, bv a25, bv a26, bv a27, bv a28, bv a29, bv a30, bv a31]).toArray _ _ rfl kR kR Tryz.underlying31 rfl kR _ kR kL) ?_
      exact Sy.leafI fin (fun i => 0) kR (all_cons kR (all_cons kR (all_cons kR (all_cons kR (all_cons kR (all_cons kR (all_cons kR (all_cons kR (all_cons kR (all_cons kR (all_cons kR (all_cons kR (all_cons kR (all_cons kR (all_cons kR (all_cons kR (all_cons kR (all_cons kR (all_cons kR (all_cons kR (all_cons kR (all_cons kR all_nil)))))))))))))))))))))) kR
theorem even_any (w : World) (k : Nat) (hk : k < K4) : Calls Tryz.prog 39 #[fv k] w (Gets w (.tuple #[fv (evD k), .agg ((evX (evP k)).map bv).toArray, .bool (evP k).isSome])) := by
 have ho := evP_on k
 unfold evD
 rcases h : evP k with _ | ⟨u, v⟩
 ·exact even_none w k hk h
 ·rw [h] at ho
  rcases Nat.mod_two_eq_zero_or_one v.val with hv | hv
  ·have q := even_2 w k hk u v h ho hv
   show Calls _ _ _ _ (Gets w (.tuple #[fv (if v.val % 2 = 1 then Sc.negP k else k), _, _]))
   rw [if_neg (by omega)]
   exact q
  ·have q := even_3 w k hk u v h ho hv
   show Calls _ _ _ _ (Gets w (.tuple #[fv (if v.val % 2 = 1 then Sc.negP k else k), _, _]))
   rw [if_pos (by omega)]
   exact q
theorem public_any (w : World) (k : Nat) (hk : k < K4) : Calls Tryz.prog 13 #[fv k] w (Gets w (.tuple #[.agg ((evX (evP k)).map bv).toArray, .bool (evP k).isSome])) := by
 refine Sy.enter (args := [fv k]) Tryz.func13 rfl kL ?_
 refine sC ?_
 refine sM 24 (fcs k) (fun g0 => ?_)
 refine sM 31 (Zl 32).toArray (fun g1 => ?_)
 refine sP (.bool false) ?_
 refine sA ?_
 refine sS (fv k) (qL 0 g0 0 4 24 24 (fcs k) rfl Tryz.underlying24) <| sS (.tuple #[fv (evD k), .agg ((evX (evP k)).map bv).toArray, .bool ((evP k).isSome)]) (qF 39 #[fv k] (fun w => even_any w k hk)) <| sP (.tuple #[fv (evD k), .agg ((evX (evP k)).map bv).toArray, .bool ((evP k).isSome)]) <| sP (fv (evD k)) <| sP (.agg ((evX (evP k)).map bv).toArray) <| sP (.bool ((evP k).isSome)) ?_
 refine sM 24 (fcs 0) (fun g2 => ?_)
 refine sM 31 (Zl 32).toArray (fun g3 => ?_)
 refine sW 2 g2 24 (fcs 0) (fcs (evD k)) (wS 0 24 (fcs (evD k)) rfl) <| sW 3 g3 31 (Zl 32).toArray ((evX (evP k)).map bv).toArray (Writes.store 0 31 ((evX (evP k)).map bv).toArray _ _ rfl kR kR (by rw [key_sz (evX (evP k)) (evX_length _)]; kernel_rfl) (by rw [key_sz (evX (evP k)) (evX_length _)]; exact Nat.le_of_ble_eq_true kR) (key_one _) (key_set _ _ (by rw [(evX_length _)]; kernel_rfl))) <| sP (.bool ((evP k).isSome)) ?_
 refine sA ?_
 refine sS (.agg ((evX (evP k)).map bv).toArray) (Quiet.load 3 g3 0 32 31 31 ((evX (evP k)).map bv).toArray _ _ rfl kR kR Tryz.underlying31 rfl kR _ (key_whole (evX (evP k)) (evX_length _)) (key_size (evX (evP k)) (evX_length _))) <| sP (.bool ((evP k).isSome)) <| sW 1 g1 31 (Zl 32).toArray ((evX (evP k)).map bv).toArray (Writes.store 0 31 ((evX (evP k)).map bv).toArray _ _ rfl kR kR (by rw [key_sz (evX (evP k)) (evX_length _)]; kernel_rfl) (by rw [key_sz (evX (evP k)) (evX_length _)]; exact Nat.le_of_ble_eq_true kR) (key_one _) (key_set _ _ (by rw [(evX_length _)]; kernel_rfl))) <| sP (.bool ((evP k).isSome)) ?_
 refine sG <| Sy.ret ?_
 exact Sy.ret2 (v := .agg ((evX (evP k)).map bv).toArray) (u := .bool ((evP k).isSome)) rfl (.inl (Res.cell (ty' := 31) g1 1 ((evX (evP k)).map bv).toArray _ kR kR Tryz.underlying31 rfl (by rw [key_sz (evX (evP k)) (evX_length _)]; kernel_rfl) kR)) (.inl (show _ = _ by kernel_rfl))
end Go.Proofs.YtfhcpdbahbbmaaaGreatDoor.Cu

end
section
namespace Go.Proofs.YtfhcpdbahbbmaaaGreatDoor.Sc
open Go.RowKit Go.Lib

theorem run_equalIn_fv (W : World) (n m : Nat) (hn : n < (2^256)) (hm : m < (2^256)) : (Op.equalIn 10000 24 (fv n) (fv m)).run Tryz.prog W = .ok (decide (n = m)) W := by
 rw [fv_wl, fv_wl]
 have h := run_equalIn_words W 9998 24 22 4 Tryz.underlying24 Tryz.underlying22 (fun W => by kernel_rfl) (wl n) (wl m) rfl rfl
 rw [wl_beq hn hm] at h
 exact h
theorem run_neq_fv (W : World) (n m : Nat) (hn : n < (2^256)) (hm : m < (2^256)) : (binOp .neq 24 (fv n) (fv m)).run Tryz.prog W = .ok (.bool (decide (n ≠ m))) W := by
 have h := run_equalIn_fv W n m hn hm
 rw [fv_wl, fv_wl] at h ⊢
 rw [run_neq_struct, h]
 by_cases e : n = m <;> simp [e]

theorem run_eqGuard_fv (op : BinOp) (x y : Operand) (n m : Nat) (W : World) : (eqGuard op 24 x y (fv n) (fv m)).run Tryz.prog W = .ok () W := by
 rw [fv_fcs, fv_fcs]
 go_simp

end Go.Proofs.YtfhcpdbahbbmaaaGreatDoor.Sc

end
section
namespace Go.Proofs.YtfhcpdbahbbmaaaGreatDoor.Sc
open Go.RowKit Go.Lib

set_option maxHeartbeats 8000000 in
set_option maxRecDepth 100000 in
theorem words_any (w : World) (l : List UInt8) (hl : l.length = 32) : Calls Tryz.prog 155 #[.agg (l.map bv).toArray] w fun e w' => e = .returned (fv (valB l)) ∧ Below w.heap.size w w' := by
 have HL := Lib.hid hl
 clear hl
 go_enter Tryz.func155, Tryz.ntmps155
 go_wp2_with (first | ((with_reducible refine here_load (d := some 6) ?_); refine wpList_load_blk rfl _ _ rfl w.heap.size rfl _ _ _ (((Blk.new w _ _).alloc _).alloc _) Tryz.underlying30 rfl (b32_info HL.out) ?_))
 go_loopw [7] (fun i wr => ∃ k y0 y1 y2 y3 : Nat, k ≤ 32 ∧ i = .int .i64 (k : Int) ∧ Hid (y0 = wdB l k 0 ∧ y1 = wdB l k 1 ∧ y2 = wdB l k 2 ∧ y3 = wdB l k 3) ∧ Below w.heap.size w wr ∧ Blk wr (w.heap.size + 2) 24 #[.int .u64 (y3 : Int), .int .u64 (y2 : Int), .int .u64 (y1 : Int), .int .u64 (y0 : Int)] ∧ Blk wr (w.heap.size + 1) 24 #[.int .u64 0, .int .u64 0, .int .u64 0, .int .u64 0]) (fun i _ => 32 - (intOf i).toNat)
 case atStart => exact ⟨0, 0, 0, 0, 0, by omega, rfl, Lib.hid ⟨(wdB_zero l 0).symm, (wdB_zero l 1).symm, (wdB_zero l 2).symm, (wdB_zero l 3).symm⟩, below_alloc3 w _ _ _, blk_new3 w _ _ _ _, (blk_new2 w _ _ _).alloc _⟩
 case round =>
  obtain ⟨k, y0, y1, y2, y3, hk, rfl, HY, hb, hP, hR⟩ := hrel
  have q3 : wr.cell? ⟨w.heap.size + 1 + 1, 0, none⟩ = some (.int .u64 (y3 : Int)) := hP.cell 0
  have q2 : wr.cell? ⟨w.heap.size + 1 + 1, 1, none⟩ = some (.int .u64 (y2 : Int)) := hP.cell 1
  have q1 : wr.cell? ⟨w.heap.size + 1 + 1, 2, none⟩ = some (.int .u64 (y1 : Int)) := hP.cell 2
  have q0 : wr.cell? ⟨w.heap.size + 1 + 1, 3, none⟩ = some (.int .u64 (y0 : Int)) := hP.cell 3
  have ff : ∀ j, wr.frozen? ⟨w.heap.size + 1 + 1, j, none⟩ = false := fun j => hP.frozen j
  by_cases hlt : k < 32
  ·obtain ⟨c, hc⟩ : ∃ c, l[k]? = some c := ⟨l[k]'(by rw [HL.out]; exact hlt), List.getElem?_eq_getElem _⟩
   have HC := Lib.hid hc
   obtain ⟨m, hm⟩ : ∃ m, m = c.toNat := ⟨_, rfl⟩
   have hm8 : m < 256 := by rw [hm]; exact c.toNat_lt
   have hI : ∀ W, (Instr.index 30 (.agg (l.map bv).toArray) (.int .i64 (k : Int))).run Tryz.prog W = .ok (.int .u8 (m : Int)) W := fun W => by
    rw [run_index_b32 W l k c hc hlt, hm]; rfl
   have HM := Lib.hid hm
   have HR := Lib.hid (And.intro hb (And.intro hP hR))
   clear hb hP hR hc hk hm
   rcases (show k = 0 ∨ k = 1 ∨ k = 2 ∨ k = 3 ∨ k = 4 ∨ k = 5 ∨ k = 6 ∨ k = 7 ∨ k = 8 ∨ k = 9 ∨ k = 10 ∨ k = 11 ∨ k = 12 ∨ k = 13 ∨ k = 14 ∨ k = 15 ∨ k = 16 ∨ k = 17 ∨ k = 18 ∨ k = 19 ∨ k = 20 ∨ k = 21 ∨ k = 22 ∨ k = 23 ∨ k = 24 ∨ k = 25 ∨ k = 26 ∨ k = 27 ∨ k = 28 ∨ k = 29 ∨ k = 30 ∨ k = 31 by omega) with rfl | rfl | rfl | rfl | rfl | rfl | rfl | rfl | rfl | rfl | rfl | rfl | rfl | rfl | rfl | rfl | rfl | rfl | rfl | rfl | rfl | rfl | rfl | rfl | rfl | rfl | rfl | rfl | rfl | rfl | rfl | rfl
   all_goals
    simp only [Int.cast_ofNat_Int] at hI
   all_goals
    first
    | ((have hy : y0 < 72057594037927936 := by rw [HY.out.1]; exact wdB_lt l _ 0 (by decide)); (have ho := or_add y0 m hy hm8); go_wp2; (refine ⟨⟨_, y0 * 256 + m, y1, y2, y3, by decide, rfl, Lib.hid ⟨by rw [HY.out.1, HM.out]; exact (wdB_step l _ 0 c HC.out (by decide)).symm, by rw [HY.out.2.1]; exact (wdB_same l _ 1 (by decide)).symm, by rw [HY.out.2.2.1]; exact (wdB_same l _ 2 (by decide)).symm, by rw [HY.out.2.2.2]; exact (wdB_same l _ 3 (by decide)).symm⟩, HR.out.1.setCell (by show w.heap.size ≤ w.heap.size + 1 + 1; omega) _, Blk.eq_ (HR.out.2.1.set_ 3 _) (by rw [show ((y0 * 256 + m : Nat) : Int) = (y0 : Int) * 256 + (m : Int) by omega]; rfl), HR.out.2.2.far (by show w.heap.size + 1 ≠ w.heap.size + 1 + 1; omega) _⟩, by simp [intOf]⟩))
    | ((have hy : y1 < 72057594037927936 := by rw [HY.out.2.1]; exact wdB_lt l _ 1 (by decide)); (have ho := or_add y1 m hy hm8); go_wp2; (refine ⟨⟨_, y0, y1 * 256 + m, y2, y3, by decide, rfl, Lib.hid ⟨by rw [HY.out.1]; exact (wdB_same l _ 0 (by decide)).symm, by rw [HY.out.2.1, HM.out]; exact (wdB_step l _ 1 c HC.out (by decide)).symm, by rw [HY.out.2.2.1]; exact (wdB_same l _ 2 (by decide)).symm, by rw [HY.out.2.2.2]; exact (wdB_same l _ 3 (by decide)).symm⟩, HR.out.1.setCell (by show w.heap.size ≤ w.heap.size + 1 + 1; omega) _, Blk.eq_ (HR.out.2.1.set_ 2 _) (by rw [show ((y1 * 256 + m : Nat) : Int) = (y1 : Int) * 256 + (m : Int) by omega]; rfl), HR.out.2.2.far (by show w.heap.size + 1 ≠ w.heap.size + 1 + 1; omega) _⟩, by simp [intOf]⟩))
    | ((have hy : y2 < 72057594037927936 := by rw [HY.out.2.2.1]; exact wdB_lt l _ 2 (by decide)); (have ho := or_add y2 m hy hm8); go_wp2; (refine ⟨⟨_, y0, y1, y2 * 256 + m, y3, by decide, rfl, Lib.hid ⟨by rw [HY.out.1]; exact (wdB_same l _ 0 (by decide)).symm, by rw [HY.out.2.1]; exact (wdB_same l _ 1 (by decide)).symm, by rw [HY.out.2.2.1, HM.out]; exact (wdB_step l _ 2 c HC.out (by decide)).symm, by rw [HY.out.2.2.2]; exact (wdB_same l _ 3 (by decide)).symm⟩, HR.out.1.setCell (by show w.heap.size ≤ w.heap.size + 1 + 1; omega) _, Blk.eq_ (HR.out.2.1.set_ 1 _) (by rw [show ((y2 * 256 + m : Nat) : Int) = (y2 : Int) * 256 + (m : Int) by omega]; rfl), HR.out.2.2.far (by show w.heap.size + 1 ≠ w.heap.size + 1 + 1; omega) _⟩, by simp [intOf]⟩))
    | ((have hy : y3 < 72057594037927936 := by rw [HY.out.2.2.2]; exact wdB_lt l _ 3 (by decide)); (have ho := or_add y3 m hy hm8); go_wp2; (refine ⟨⟨_, y0, y1, y2, y3 * 256 + m, by decide, rfl, Lib.hid ⟨by rw [HY.out.1]; exact (wdB_same l _ 0 (by decide)).symm, by rw [HY.out.2.1]; exact (wdB_same l _ 1 (by decide)).symm, by rw [HY.out.2.2.1]; exact (wdB_same l _ 2 (by decide)).symm, by rw [HY.out.2.2.2, HM.out]; exact (wdB_step l _ 3 c HC.out (by decide)).symm⟩, HR.out.1.setCell (by show w.heap.size ≤ w.heap.size + 1 + 1; omega) _, Blk.eq_ (HR.out.2.1.set_ 0 _) (by rw [show ((y3 * 256 + m : Nat) : Int) = (y3 : Int) * 256 + (m : Int) by omega]; rfl), HR.out.2.2.far (by show w.heap.size + 1 ≠ w.heap.size + 1 + 1; omega) _⟩, by simp [intOf]⟩))
  ·have p1 : ¬ (k : Int) < 32 := by omega
   obtain rfl : k = 32 := by omega
   have b0 : y0 < 18446744073709551616 := by rw [HY.out.1]; exact wdB_lt8 l _ _
   have b1 : y1 < 18446744073709551616 := by rw [HY.out.2.1]; exact wdB_lt8 l _ _
   have b2 : y2 < 18446744073709551616 := by rw [HY.out.2.2.1]; exact wdB_lt8 l _ _
   have b3 : y3 < 18446744073709551616 := by rw [HY.out.2.2.2]; exact wdB_lt8 l _ _
   obtain ⟨z, hz⟩ : ∃ z, z = y3 + 18446744073709551616 * y2 + 340282366920938463463374607431768211456 * y1 + 6277101735386680763835789423207666416102355444464034512896 * y0 := ⟨_, rfl⟩
   have fz := fv_mk y3 y2 y1 y0 b3 b2 b1 b0
   rw [← hz] at fz
   have hzv : valB l = z := by rw [wdB_all l HL.out, hz, HY.out.1, HY.out.2.1, HY.out.2.2.1, HY.out.2.2.2]
   have HZ := Lib.hid hzv
   have FZ := Lib.hid fz.symm
   have HP := Lib.hid hP
   have HR := Lib.hid hR
   clear HY b0 b1 b2 b3 hz fz hzv q0 q1 q2 q3 ff hP hR
   go_wp2_with (first | ((with_reducible refine here_load (d := some 25) ?_); refine wpList_load_fv rfl _ _ rfl (w.heap.size + 2) rfl (z) _ _ _ (HP.out) (FZ.out) Tryz.underlying24 rfl (by kernel_rfl) ?_) | ((with_reducible refine here_store ?_); refine wpList_store_blk rfl _ _ _ rfl (w.heap.size + 1) (fcs (z)) rfl rfl _ _ (HR.out) (by kernel_rfl) (by rfl) (fcs_one _) ?_; intro vz hLz hqz hKz))
   exact bodyPost_ret (results_cell_row rfl _ _ (w.heap.size + 1) _ _ (0, 0) _ rfl hLz Tryz.underlying24 rfl (by kernel_rfl)) rfl ⟨by rw [HZ.out]; rfl, hb.trans (hqz _ (by omega))⟩
def readS (l : List UInt8) : Nat × Bool := if valB l < pM then (valB l, true) else (0, false)
set_option maxHeartbeats 2000000 in
set_option maxRecDepth 100000 in
theorem read_any (w : World) (l : List UInt8) (hl : l.length = 32) : Calls Tryz.prog 137 #[.agg (l.map bv).toArray] w fun e w' => e = .returned (.tuple #[fv (readS l).1, .bool (readS l).2]) ∧ Below w.heap.size w w' := by
 obtain ⟨z, hz⟩ : ∃ z, z = valB l := ⟨_, rfl⟩
 have hzl : z < (2^256) := by rw [hz]; exact valB_lt32 l hl
 obtain ⟨n, hn⟩ : ∃ n, n = z % pM := ⟨_, rfl⟩
 have hnl : n < (2^256) := by rw [hn]; exact mod_lt z
 obtain ⟨b, hbd⟩ : ∃ b, b = decide (n ≠ z) := ⟨_, rfl⟩
 have eb : ∀ W, (binOp .neq 24 (fv n) (fv z)).run Tryz.prog W = .ok (.bool b) W := fun W => by rw [hbd]; exact run_neq_fv W n z hnl hzl
 have cw : ∀ w, Calls Tryz.prog 155 #[.agg (l.map bv).toArray] w fun e w' => e = .returned (fv z) ∧ Below w.heap.size w w' := by
  intro w; rw [hz]; exact words_any w l hl
 have cn : ∀ w, Calls Tryz.prog 128 #[fv z] w fun e w' => e = .returned (fv n) ∧ Below w.heap.size w w' := by
  intro w; rw [hn]; exact norm_any w z hzl
 have hS : readS l = if b = true then (0, false) else (z, true) := by
  unfold readS
  rw [← hz, hbd, hn]
  by_cases h : z < pM
  ·rw [if_pos h, Nat.mod_eq_of_lt h]; simp
  ·have h2 : z % pM ≠ z := fun e => h (by rw [← e]; exact mod_lt_p z)
   rw [if_neg h]; simp [h2]
 have HS := Lib.hid hS
 have HL := Lib.hid hl
 clear hl hz hzl hn hnl hbd hS
 go_enter Tryz.func137, Tryz.ntmps137
 go_wp2_with (first | ((with_reducible refine here_load (d := some 5) ?_); refine wpList_load_blk rfl _ _ rfl w.heap.size rfl _ _ _ ((Blk.new w _ _).alloc _) Tryz.underlying30 rfl (b32_info HL.out) ?_))
 refine (cw _).mono ?_
 rintro e w1 ⟨rfl, k1⟩
 have BR := Gr.blk k1 (blk_new2 w _ _ _)
 have sz := BR.lt
 have hB := Below.gr (below_alloc2 w _ _) k1
 clear k1 cw
 go_wp2_with (first | ((with_reducible refine here_store ?_); refine wpList_store_blk rfl _ _ _ rfl (w1.heap.size) (fcs (z)) rfl rfl _ _ (Blk.new w1 _ _) (by kernel_rfl) (by rfl) (fcs_one _) ?_; intro w2 hL2 hq2 hK2; have CR := hK2 _ (by omega) _ _ (BR.alloc _); have hB2 := (hB.alloc (by omega) _).trans (hq2 _ (by omega))))
 refine wp_region_G (fun _ => false) (by kernel_rfl) ?_
 try simp only [Act.put]
 refine tkw 0 rfl (YieldsG.loadF (by rfl) _ _ rfl (w1.heap.size) rfl (z) _ _ (hL2) (fv_fcs _) Tryz.underlying24 rfl (by kernel_rfl)) ?_
 try simp only [Act.put, aA, aZ, aS]
 refine tkw 1 rfl (YieldsG.call (v := fv n) (by rfl) 128 _ (fun w9 => by go_simp; try (first | with_reducible rfl | rfl)) (fun w9 h9 => cn w9)) ?_
 try simp only [Act.put, aA, aZ, aS]
 refine tkw 2 rfl (YieldsG.loadF (by rfl) _ _ rfl (w1.heap.size) rfl (z) _ _ (hL2) (fv_fcs _) Tryz.underlying24 rfl (by kernel_rfl)) ?_
 try simp only [Act.put, aA, aZ, aS]
 refine tkw 3 rfl (YieldsG.pure (v := .bool b) (by rfl) (fun w9 h9 => by go_simp; rw [run_eqGuard_fv]; simp only [Result.andThen_ok])) ?_
 try simp only [Act.put, aA, aZ, aS]
 refine wpAnyG_done (by kernel_rfl) (fun u hu => ?_)
 have hbu := Below.gr hB2 hu
 have BRu := Gr.blk hu CR
 have BP := Gr.blk hu hL2
 clear hu hB2 CR hL2 eb cn
 cases b
 ·have HT : Hid (readS l = (z, true)) := Lib.hid (by rw [HS.out]; rfl)
  clear HS
  go_wp2_with (first | ((with_reducible refine here_load (d := some 12) ?_); refine wpList_load_fv rfl _ _ rfl (w1.heap.size) rfl (z) _ _ _ (BP) (fv_fcs _) Tryz.underlying24 rfl (by kernel_rfl) ?_) | ((with_reducible refine here_store ?_); refine wpList_store_blk rfl _ _ _ rfl (w.heap.size + 1) (fcs (z)) rfl rfl _ _ (BRu) (by kernel_rfl) (by rfl) (fcs_one _) ?_; intro vz hLz hqz hKz))
  exact bodyPost_ret (res_cell_tmp rfl _ _ (w.heap.size + 1) _ _ _ _ rfl hLz rfl Tryz.underlying24 rfl (by kernel_rfl)) rfl ⟨by rw [HT.out]; rfl, hbu.trans (hqz _ (by omega))⟩
 ·have HT : Hid (readS l = (0, false)) := Lib.hid (by rw [HS.out]; rfl)
  clear HS
  go_wp2_with (first | ((with_reducible refine here_store ?_); refine wpList_store_blk rfl _ _ _ rfl (w.heap.size + 1) _ rfl rfl _ _ (BRu) (by kernel_rfl) (by rfl) (by simp [Value.oneCell']) ?_; intro vz hLz hqz hKz))
  exact bodyPost_ret (res_cell_tmp rfl _ _ (w.heap.size + 1) _ _ _ _ rfl hLz rfl Tryz.underlying24 rfl (by kernel_rfl)) rfl ⟨by rw [HT.out]; rfl, hbu.trans (hqz _ (by omega))⟩
set_option maxHeartbeats 2000000 in
set_option maxRecDepth 100000 in
theorem reduceB_any (w : World) (l : List UInt8) (hl : l.length = 32) : Calls Tryz.prog 101 #[.agg (l.map bv).toArray] w fun e w' => e = .returned (fv (valB l % pM)) ∧ Below w.heap.size w w' := by
 obtain ⟨z, hz⟩ : ∃ z, z = valB l := ⟨_, rfl⟩
 have hzl : z < (2^256) := by rw [hz]; exact valB_lt32 l hl
 obtain ⟨n, hn⟩ : ∃ n, n = z % pM := ⟨_, rfl⟩
 have cw : ∀ w, Calls Tryz.prog 155 #[.agg (l.map bv).toArray] w fun e w' => e = .returned (fv z) ∧ Below w.heap.size w w' := by
  intro w; rw [hz]; exact words_any w l hl
 have cn : ∀ w, Calls Tryz.prog 128 #[fv z] w fun e w' => e = .returned (fv n) ∧ Below w.heap.size w w' := by
  intro w; rw [hn]; exact norm_any w z hzl
 rw [← hz, ← hn]
 have HL := Lib.hid hl
 clear hl hz hzl hn
 go_enter Tryz.func101, Tryz.ntmps101
 go_wp2_with (first | ((with_reducible refine here_load (d := some 3) ?_); refine wpList_load_blk rfl _ _ rfl w.heap.size rfl _ _ _ ((Blk.new w _ _).alloc _) Tryz.underlying30 rfl (b32_info HL.out) ?_))
 refine (cw _).mono ?_
 rintro e w1 ⟨rfl, k1⟩
 go_wp2_with fail
 refine (cn _).mono ?_
 rintro e w2 ⟨rfl, k2⟩
 have BR := Gr.blk k2 (Gr.blk k1 (blk_new2 w _ _ _))
 have hB := Below.gr (Below.gr (below_alloc2 w _ _) k1) k2
 clear k1 k2 cw cn
 go_wp2_with (first | ((with_reducible refine here_store ?_); refine wpList_store_blk rfl _ _ _ rfl (w.heap.size + 1) (fcs (n)) rfl rfl _ _ (BR) (by kernel_rfl) (by rfl) (fcs_one _) ?_; intro vz hLz hqz hKz))
 exact bodyPost_ret (results_cell_row rfl _ _ (w.heap.size + 1) _ _ (0, 0) _ rfl hLz Tryz.underlying24 rfl (by kernel_rfl)) rfl ⟨rfl, hB.trans (hqz _ (by omega))⟩

end Go.Proofs.YtfhcpdbahbbmaaaGreatDoor.Sc

end
section
namespace Go.Proofs.YtfhcpdbahbbmaaaGreatDoor.Cu
open Go.RowKit Go.Proofs.YtfhcpdbahbbmaaaGreatDoor Go.Proofs.YtfhcpdbahbbmaaaGreatDoor.Sy

def auxNm : ByteArray := ⟨#[66, 73, 80, 48, 51, 52, 48, 47, 97, 117, 120]⟩
def nonceNm : ByteArray := ⟨#[66, 73, 80, 48, 51, 52, 48, 47, 110, 111, 110, 99, 101]⟩
def challengeNm : ByteArray := ⟨#[66, 73, 80, 48, 51, 52, 48, 47, 99, 104, 97, 108, 108, 101, 110, 103, 101]⟩
theorem texts_blk {w : World} {g : Nat} {t : TypeId} {ts : List Sh.Tx} (hb : Blk w g t (ts.map Sh.Tx.val).toArray) (hok : ∀ x ∈ ts, x.ok w) : Sh.Texts w (some ⟨g, 0, none⟩) ts := fun _ =>
 ⟨g, 0, rfl, hb.lt, fun j y hy => by
  rw [Nat.zero_add]
  refine ⟨(hb.cell j).trans ?_, hok y (List.mem_of_getElem? hy)⟩
  rw [List.getElem?_toArray, List.getElem?_map, hy]
  rfl⟩
theorem tag_c (w : World) (nm : ByteArray) (hnm : nm.size ≤ 1000000000) (g : Nat) (t : TypeId) (ts : List Sh.Tx) (n ct : Nat) (X : List UInt8) (hX : Sh.cat ts = X) (hn : ts.length = n) (hb : Blk w g t (ts.map Sh.Tx.val).toArray) (hok : ∀ x ∈ ts, x.ok w) (hl : X.length ≤ 1000000000) (hn2 : n ≤ 1000000000) (ht : Sh.TabAt w 1) :
  Calls Tryz.prog 100 #[.string nm, .slice (some ⟨g, 0, none⟩) n ct] w (Gets w (.agg ((Sh.taggedS nm.data.toList X).map bv).toArray)) := by
 subst hX hn
 exact Sh.tagged_any w nm _ ts ct (texts_blk hb hok) ht hnm hl hn2
theorem ok_key {w : World} {g : Nat} {t : TypeId} {l : List UInt8} (hb : Blk w g t (l.map bv).toArray) (hl : l.length = 32) : (Sh.Tx.mk (some ⟨g, 0, none⟩) l 32).ok w := ⟨Sh.Src.of_blk hb, by show l.length ≤ 32; omega, by show 32 ≤ 9223372036854775807; omega⟩
theorem val_key {g : Nat} {l : List UInt8} (hl : l.length = 32) : (Sh.Tx.mk (some ⟨g, 0, none⟩) l 32).val = .slice (some ⟨g, 0, none⟩) 32 32 := by
 unfold Sh.Tx.val
 rw [hl]
theorem ok3 {w : World} {a b c : Sh.Tx} (ha : a.ok w) (hb : b.ok w) (hc : c.ok w) : ∀ x ∈ [a, b, c], x.ok w := fun x hx => by
 simp only [List.mem_cons, List.not_mem_nil, or_false] at hx
 rcases hx with rfl | rfl | rfl <;> assumption
theorem tag3_c (w : World) (nm : ByteArray) (hnm : nm.size ≤ 1000000000) (g g1 g2 : Nat) (t t1 t2 : TypeId) (x y m : List UInt8) (A : Option Addr) (c : Nat) (hx : x.length = 32) (hy : y.length = 32) (n : Nat) (hn : m.length = n) (hm : n ≤ 999999900) (hc : n ≤ c) (hc2 : c ≤ 9223372036854775807)
  (h1 : Blk w g1 t1 (x.map bv).toArray) (h2 : Blk w g2 t2 (y.map bv).toArray) (hs : Sh.Src w A m) (hb : Blk w g t #[.slice (some ⟨g1, 0, none⟩) 32 32, .slice (some ⟨g2, 0, none⟩) 32 32, .slice A n c]) (ht : Sh.TabAt w 1) :
  Calls Tryz.prog 100 #[.string nm, .slice (some ⟨g, 0, none⟩) 3 3] w (Gets w (.agg ((Sh.taggedS nm.data.toList (x ++ y ++ m)).map bv).toArray)) := by
 subst hn
 refine tag_c w nm hnm g t [⟨some ⟨g1, 0, none⟩, x, 32⟩, ⟨some ⟨g2, 0, none⟩, y, 32⟩, ⟨A, m, c⟩] 3 3 (x ++ y ++ m) (by simp [Sh.cat]) rfl ?_ (ok3 (ok_key h1 hx) (ok_key h2 hy) ⟨hs, hc, hc2⟩) (by rw [List.length_append, List.length_append, hx, hy]; omega) (by decide) ht
 rw [List.map_cons, List.map_cons, List.map_cons, List.map_nil, val_key hx, val_key hy]
 exact hb
def chalS (x key m : List UInt8) : Nat := valB (Sh.taggedS challengeNm.data.toList (x ++ key ++ m)) % Sc.pM
theorem tagS_length (nm m : List UInt8) : (Sh.taggedS nm m).length = 32 := Sh.sum_length _
set_option maxHeartbeats 4000000 in
set_option maxRecDepth 100000 in
theorem challenge_any (w : World) (x key : List UInt8) (hx : x.length = 32) (hkey : key.length = 32) (A : Option Addr) (m : List UInt8) (n c : Nat) (hn : m.length = n) (hm : n ≤ 999999900) (hc : n ≤ c) (hc2 : c ≤ 9223372036854775807) (hs : Sh.Src w A m) (ht : Sh.TabAt w 1) : Calls Tryz.prog 96 #[.agg (x.map bv).toArray, .agg (key.map bv).toArray, .slice A n c] w (Gets w (fv (chalS x key m))) := by
 refine Sy.enter (args := [.agg (x.map bv).toArray, .agg (key.map bv).toArray, .slice A n c]) Tryz.func96 rfl kL ?_
 refine sC ?_
 refine sM 31 (x.map bv).toArray (fun g0 => ?_)
 refine sM 31 (key.map bv).toArray (fun g1 => ?_)
 refine sM 24 (fcs 0) (fun g2 => ?_)
 refine sH (fun j => j == 6) ?_
 refine sZ 0 rfl (.slice (some ⟨g0, 0, none⟩) 32 32) <| sZ 1 rfl (.slice (some ⟨g1, 0, none⟩) 32 32) <| sZ 2 rfl (.slice A n c) ?_
 refine Sy.makeD 3 rfl kR kR 25 #[.slice (some ⟨g0, 0, none⟩) 32 32, .slice (some ⟨g1, 0, none⟩) 32 32, .slice A n c] (fun g => .slice (some ⟨g, 0, none⟩) 3 3) kF (fun g3 => ?_)
 refine sD 4 rfl (.agg ((Sh.taggedS challengeNm.data.toList (x ++ key ++ m)).map bv).toArray) (qG 100 #[.string challengeNm, .slice (some ⟨g3, 0, none⟩) 3 3] (fun w hw => tag3_c w challengeNm (by decide) g3 g0 g1 _ _ _ x key m A c hx hkey n hn hm hc hc2 (hw.get (i := 0) rfl) (hw.get (i := 1) rfl) (hs.below hw.below) (hw.get (i := 3) rfl) (ht.below hw.below ht.lt))) <| sD 5 rfl (fv (valB (Sh.taggedS challengeNm.data.toList (x ++ key ++ m)) % Sc.pM)) (qF 101 #[.agg ((Sh.taggedS challengeNm.data.toList (x ++ key ++ m)).map bv).toArray] (fun w => Sc.reduceB_any w (Sh.taggedS challengeNm.data.toList (x ++ key ++ m)) (tagS_length _ _))) <| sX 6 rfl 2 g2 24 (fcs 0) (fcs (valB (Sh.taggedS challengeNm.data.toList (x ++ key ++ m)) % Sc.pM)) (wS 0 24 (fcs (valB (Sh.taggedS challengeNm.data.toList (x ++ key ++ m)) % Sc.pM)) rfl) ?_
 refine sI ?_
 refine Sy.ret ?_
 exact rC (v := fv (valB (Sh.taggedS challengeNm.data.toList (x ++ key ++ m)) % Sc.pM)) 24 g2 2 (fcs (valB (Sh.taggedS challengeNm.data.toList (x ++ key ++ m)) % Sc.pM)) rfl Tryz.underlying24
end Go.Proofs.YtfhcpdbahbbmaaaGreatDoor.Cu

end
section
namespace Go.Proofs.YtfhcpdbahbbmaaaGreatDoor.Sy
open Go.RowKit Go.Proofs.YtfhcpdbahbbmaaaGreatDoor

section
variable {P : Program} {w0 : Base} {n : Nat} {Q : Exit → Act → World → Prop} {F : Slots} {L : Blocks}
end
theorem brw_at {l : List UInt8} {n : Nat} (h : l.length = n) (sp : List Value) {k o : Nat} (hk : k < n) (ho : o = k) : ((l.map bv ++ sp).toArray)[o]? = some (bv (l.getD k 0)) := by
 subst h ho
 rw [List.getElem?_toArray, List.getElem?_append_left (by rw [List.length_map]; exact hk), List.getElem?_map, List.getD_eq_getElem?_getD, List.getElem?_eq_getElem hk]
 rfl
theorem brw_fit {l : List UInt8} {n : Nat} (h : l.length = n) (sp : List Value) {k o : Nat} (hk : k < n) (ho : o = k) : o < ((l.map bv ++ sp).toArray).size := by
 subst h ho
 simp only [List.size_toArray, List.length_append, List.length_map]
 omega
theorem brw_set {l : List UInt8} {n : Nat} (h : l.length = n) (sp : List Value) (u : UInt8) {k o : Nat} (hk : k < n) (ho : o = k) : ((l.map bv ++ sp).toArray).setIfInBounds o (bv u) = ((l.set k u).map bv ++ sp).toArray := by
 subst h ho
 rw [List.setIfInBounds_toArray, List.set_append_left _ _ (by rw [List.length_map]; exact hk), List.map_set]
def mixL (a b : List UInt8) (k : Nat) : List UInt8 := a.take k ++ b.drop k
theorem mixL_len {a b : List UInt8} {n : Nat} (ha : a.length = n) (hb : b.length = n) {k : Nat} (hk : k ≤ n) : (mixL a b k).length = n := by
 unfold mixL
 rw [List.length_append, List.length_take, List.length_drop]
 omega
theorem mixL_all {a b : List UInt8} {n : Nat} (ha : a.length = n) (hb : b.length = n) : mixL a b n = a := by
 unfold mixL
 rw [List.take_of_length_le (by omega), List.drop_of_length_le (by omega), List.append_nil]
theorem mixL_get {a b : List UInt8} {n k : Nat} (ha : a.length = n) (hb : b.length = n) (hk : k < n) : (mixL a b k).getD k 0 = b.getD k 0 := by
 unfold mixL
 rw [List.getD_eq_getElem?_getD, List.getD_eq_getElem?_getD, List.getElem?_append_right (by rw [List.length_take]; omega), List.getElem?_drop, List.length_take]
 congr 2
 omega
theorem mixL_succ {a b : List UInt8} {n k : Nat} (ha : a.length = n) (hb : b.length = n) (hk : k < n) : (mixL a b k).set k (a.getD k 0) = mixL a b (k + 1) := by
 have h1 : k < a.length := by omega
 have h2 : k < b.length := by omega
 unfold mixL
 rw [List.set_append_right _ _ (by rw [List.length_take]; omega), List.length_take, show k - min k a.length = 0 by omega, List.take_succ_eq_append_getElem h1, List.drop_eq_getElem_cons h2, List.set_cons_zero, List.append_assoc, List.getD_eq_getElem?_getD, List.getElem?_eq_getElem h1]
 rfl
theorem key_sym {l : List UInt8} {n : Nat} (h : l.length = n) {k o : Nat} (hk : k < n) (ho : o = k) : ((l.map bv).toArray)[o]? = some (bv (l.getD k 0)) := by
 subst h ho
 rw [List.getElem?_toArray, List.getElem?_map, List.getD_eq_getElem?_getD, List.getElem?_eq_getElem hk]
 rfl
theorem key_fits {l : List UInt8} {n : Nat} (h : l.length = n) {k o : Nat} (hk : k < n) (ho : o = k) : o < ((l.map bv).toArray).size := by
 subst h ho
 rw [List.size_toArray, List.length_map]
 exact hk
theorem key_sets {l : List UInt8} (u : UInt8) {k o : Nat} (ho : o = k) : ((l.map bv).toArray).setIfInBounds o (bv u) = ((l.set k u).map bv).toArray := by
 subst ho
 rw [List.setIfInBounds_toArray, List.map_set]
end Go.Proofs.YtfhcpdbahbbmaaaGreatDoor.Sy

end
section
namespace Go.Proofs.YtfhcpdbahbbmaaaGreatDoor.Cu
open Go.RowKit Go.Proofs.YtfhcpdbahbbmaaaGreatDoor Go.Proofs.YtfhcpdbahbbmaaaGreatDoor.Sy

theorem xor_bv (w : World) (F : Slots) (o : Oper) (x y : Operand) (a b : UInt8) {yt : TypeId} (ho : o.op = .binOp .xor 5 x y yt) (hx : evF F x = bv a) (hy : evF F y = bv b) : (execOp (evF F) o).run Tryz.prog w = .ok (.value (bv (a ^^^ b))) w := by
 have h1 : (eqGuard .xor 5 x y (bv a) (bv b)).run Tryz.prog w = .ok () w := by
  unfold bv
  go_simp
 have h2 : (binOp .xor 5 (bv a) (bv b)).run Tryz.prog w = .ok (bv (a ^^^ b)) w := by
  have e := u8_xor_nat a.toNat b.toNat a.toNat_lt b.toNat_lt
  unfold bv
  rw [UInt8.toNat_xor]
  go_simp
 unfold execOp
 simp only [ho, hx, hy, Sem.run_bind, h1, h2, Result.andThen_ok, Sem.run_pure]
def auxM : List UInt8 := Sh.taggedS auxNm.data.toList (List.replicate 32 0)
def xorS (l m : List UInt8) : List UInt8 := List.zipWith (· ^^^ ·) l m
def nonceS (d : Nat) (key m : List UInt8) : Nat := valB (Sh.taggedS nonceNm.data.toList (xorS (bytesS (d % Sc.pM)) auxM ++ key ++ m)) % Sc.pM
theorem tag1_c (w : World) (nm : ByteArray) (hnm : nm.size ≤ 1000000000) (g g1 : Nat) (t t1 : TypeId) (x : List UInt8) (hx : x.length = 32) (h1 : Blk w g1 t1 (x.map bv).toArray) (hb : Blk w g t #[.slice (some ⟨g1, 0, none⟩) 32 32]) (ht : Sh.TabAt w 1) :
  Calls Tryz.prog 100 #[.string nm, .slice (some ⟨g, 0, none⟩) 1 1] w (Gets w (.agg ((Sh.taggedS nm.data.toList x).map bv).toArray)) := by
 refine tag_c w nm hnm g t [⟨some ⟨g1, 0, none⟩, x, 32⟩] 1 1 x (by simp [Sh.cat]) rfl ?_ (fun y hy => by rw [List.mem_singleton.1 hy]; exact ok_key h1 hx) (by rw [hx]; decide) (by decide) ht
 rw [List.map_cons, List.map_nil, val_key hx]
 exact hb
theorem xorS_len {a b : List UInt8} {n : Nat} (ha : a.length = n) (hb : b.length = n) : (xorS a b).length = n := by
 unfold xorS
 rw [List.length_zipWith, ha, hb, Nat.min_self]
theorem xorS_get {a b : List UInt8} {n k : Nat} (ha : a.length = n) (hb : b.length = n) (hk : k < n) : (xorS a b).getD k 0 = a.getD k 0 ^^^ b.getD k 0 := by
 have h1 : k < a.length := by omega
 have h2 : k < b.length := by omega
 unfold xorS
 rw [List.getD_eq_getElem?_getD, List.getD_eq_getElem?_getD, List.getD_eq_getElem?_getD, List.getElem?_zipWith, List.getElem?_eq_getElem h1, List.getElem?_eq_getElem h2]
 rfl
theorem xor_step {a b : List UInt8} {n k : Nat} (ha : a.length = n) (hb : b.length = n) (hk : k < n) : (mixL (xorS a b) a k).set k (a.getD k 0 ^^^ b.getD k 0) = mixL (xorS a b) a (k + 1) := by
 rw [← xorS_get ha hb hk]
 exact mixL_succ (xorS_len ha hb) ha hk
theorem auxM_len : auxM.length = 32 := tagS_length _ _
set_option maxHeartbeats 4000000 in
set_option maxRecDepth 100000 in
theorem nonce_any (w : World) (d : Nat) (hd : d < K4) (key : List UInt8) (hkey : key.length = 32) (A : Option Addr) (m : List UInt8) (n c : Nat) (hn : m.length = n) (hm : n ≤ 999999900) (hc : n ≤ c) (hc2 : c ≤ 9223372036854775807) (hs : Sh.Src w A m) (ht : Sh.TabAt w 1) : Calls Tryz.prog 41 #[fv d, .agg (key.map bv).toArray, .slice A n c] w (Gets w (fv (nonceS d key m))) := by
 refine Sy.enter (args := [fv d, .agg (key.map bv).toArray, .slice A n c]) Tryz.func41 rfl kL ?_
 refine sC ?_
 refine sM 24 (fcs d) (fun g0 => ?_)
 refine sM 31 (key.map bv).toArray (fun g1 => ?_)
 refine sM 24 (fcs 0) (fun g2 => ?_)
 refine sA ?_
 refine Sy.make kR 30 ((List.replicate 32 (0 : UInt8)).map bv).toArray ptr kF (fun g3 => ?_)
 refine sA ?_
 refine sP (.slice (some ⟨g3, 0, none⟩) 32 32) ?_
 refine Sy.make kR 25 #[.slice (some ⟨g3, 0, none⟩) 32 32] (fun g => .slice (some ⟨g, 0, none⟩) 1 1) kF (fun g4 => ?_)
 refine sS (.agg (auxM.map bv).toArray) (qG 100 #[.string auxNm, .slice (some ⟨g4, 0, none⟩) 1 1] (fun w hw => tag1_c w auxNm (by decide) g4 g3 _ _ (List.replicate 32 (0 : UInt8)) rfl (hw.get (i := 3) rfl) (hw.get (i := 4) rfl) (ht.below hw.below ht.lt))) ?_
 refine sM 47 (Zl 32).toArray (fun g5 => ?_)
 refine sW 5 g5 47 (Zl 32).toArray (auxM.map bv).toArray (Writes.store 0 47 (auxM.map bv).toArray _ _ rfl kR kR (by rw [key_sz auxM auxM_len]; kernel_rfl) (by rw [key_sz auxM auxM_len]; exact Nat.le_of_ble_eq_true kR) (key_one _) (key_set _ _ (by rw [auxM_len]; kernel_rfl))) ?_
 refine sA ?_
 refine sS (fv d) (qL 0 g0 0 4 24 24 (fcs d) rfl Tryz.underlying24) <| sS (.agg ((bytesS (d % Sc.pM)).map bv).toArray) (qF 91 #[fv d] (fun w => Sc.bytes_any w d hd)) ?_
 refine Sy.make kR 30 ((List.replicate 32 (0 : UInt8)).map bv).toArray ptr kF (fun g6 => ?_)
 refine Sy.write kR 6 g6 30 ((List.replicate 32 (0 : UInt8)).map bv).toArray ((bytesS (d % Sc.pM)).map bv).toArray kR (Writes.store 0 30 ((bytesS (d % Sc.pM)).map bv).toArray _ _ rfl kR kR (by rw [key_sz (bytesS (d % Sc.pM)) (bytesS_length _)]; kernel_rfl) (by rw [key_sz (bytesS (d % Sc.pM)) (bytesS_length _)]; exact Nat.le_of_ble_eq_true kR) (key_one _) (key_set _ _ (by rw [(bytesS_length _)]; kernel_rfl))) ?_
 refine sG <| Sy.seq <| sC ?_
 refine sP (.int .i64 0) ?_
 refine sG <| Sy.block ?_
 refine Sy.loopK 32 (fun k1 => [(2, .slice A n c), (4, .pointer (some ⟨g1, 0, none⟩)), (6, .pointer (some ⟨g2, 0, none⟩)), (8, .pointer (some ⟨g5, 0, none⟩)), (9, .pointer (some ⟨g6, 0, none⟩)), (16, .int .i64 ((k1 : Nat) : Int))]) (fun k1 => [(g0, 24, (fcs d)), (g1, 31, (key.map bv).toArray), (g2, 24, (fcs 0)), (g3, 30, ((List.replicate 32 (0 : UInt8)).map bv).toArray), (g4, 25, #[.slice (some ⟨g3, 0, none⟩) 32 32]), (g5, 47, (auxM.map bv).toArray), (g6, 30, ((mixL (xorS (bytesS (d % Sc.pM)) auxM) (bytesS (d % Sc.pM)) k1).map bv).toArray)]) [true, true, true, true, true, true, true] (M := [(g0, 24, (fcs d)), (g1, 31, (key.map bv).toArray), (g2, 24, (fcs 0)), (g3, 30, ((List.replicate 32 (0 : UInt8)).map bv).toArray), (g4, 25, #[.slice (some ⟨g3, 0, none⟩) 32 32]), (g5, 47, (auxM.map bv).toArray), (g6, 30, ((bytesS (d % Sc.pM)).map bv).toArray)]) (all_cons kR (all_cons kR (all_cons kR (all_cons kR (all_cons kR (all_cons kR all_nil)))))) kR (bcons rfl (bcons rfl (bcons rfl (bcons rfl (bcons rfl (bcons rfl (bcons rfl rfl))))))) (fun k1 hk1 => ?_)
 refine sC ?_
 obtain ⟨b1, hb1⟩ : ∃ z : Bool, z = decide (k1 < 32) := ⟨_, rfl⟩
 refine sS (.bool b1) (Quiet.pure (exec_int .lss _ _ _ .i64 _ _ _ rfl rfl rfl (int_lss _ _ _ _ _ (by rw [hb1]; exact decide_eq_decide.2 (by omega))))) ?_
 refine sG <| Sy.seq ?_
 cases b1
 ·have lb1 : ¬ (k1 < 32) := of_decide_eq_false hb1.symm
  refine sU <| Sy.exit <| Sy.then_exit <| Sy.then_exit ?_
  obtain rfl : k1 = 32 := by omega
  refine Sy.in_exit ?_
  refine sR (fun j => j == 6) ?_
  refine sZ 0 rfl (.slice (some ⟨g6, 0, none⟩) 32 32) <| sZ 1 rfl (.slice (some ⟨g1, 0, none⟩) 32 32) <| sZ 2 rfl (.slice A n c) ?_
  refine Sy.makeD 3 rfl kR kR 25 #[.slice (some ⟨g6, 0, none⟩) 32 32, .slice (some ⟨g1, 0, none⟩) 32 32, .slice A n c] (fun g => .slice (some ⟨g, 0, none⟩) 3 3) kF (fun g7 => ?_)
  refine sD 4 rfl (.agg ((Sh.taggedS nonceNm.data.toList ((mixL (xorS (bytesS (d % Sc.pM)) auxM) (bytesS (d % Sc.pM)) 32) ++ key ++ m)).map bv).toArray) (qG 100 #[.string nonceNm, .slice (some ⟨g7, 0, none⟩) 3 3] (fun w hw => tag3_c w nonceNm (by decide) g7 g6 g1 _ _ _ (mixL (xorS (bytesS (d % Sc.pM)) auxM) (bytesS (d % Sc.pM)) 32) key m A c (mixL_len (xorS_len (bytesS_length _) auxM_len) (bytesS_length _) (by omega)) hkey n hn hm hc hc2 (hw.get (i := 6) rfl) (hw.get (i := 1) rfl) (hs.below hw.below) (hw.get (i := 7) rfl) (ht.below hw.below ht.lt))) <| sD 5 rfl (fv (valB (Sh.taggedS nonceNm.data.toList ((mixL (xorS (bytesS (d % Sc.pM)) auxM) (bytesS (d % Sc.pM)) 32) ++ key ++ m)) % Sc.pM)) (qF 101 #[.agg ((Sh.taggedS nonceNm.data.toList ((mixL (xorS (bytesS (d % Sc.pM)) auxM) (bytesS (d % Sc.pM)) 32) ++ key ++ m)).map bv).toArray] (fun w => Sc.reduceB_any w (Sh.taggedS nonceNm.data.toList ((mixL (xorS (bytesS (d % Sc.pM)) auxM) (bytesS (d % Sc.pM)) 32) ++ key ++ m)) (tagS_length _ _))) <| sX 6 rfl 2 g2 24 (fcs 0) (fcs (valB (Sh.taggedS nonceNm.data.toList ((mixL (xorS (bytesS (d % Sc.pM)) auxM) (bytesS (d % Sc.pM)) 32) ++ key ++ m)) % Sc.pM)) (wS 0 24 (fcs (valB (Sh.taggedS nonceNm.data.toList ((mixL (xorS (bytesS (d % Sc.pM)) auxM) (bytesS (d % Sc.pM)) 32) ++ key ++ m)) % Sc.pM)) rfl) ?_
  refine sI ?_
  refine Sy.ret ?_
  rw [show (fv (nonceS d key m) : Value) = fv (valB (Sh.taggedS nonceNm.data.toList ((mixL (xorS (bytesS (d % Sc.pM)) auxM) (bytesS (d % Sc.pM)) 32) ++ key ++ m)) % Sc.pM) from by unfold nonceS; rw [mixL_all (xorS_len (bytesS_length _) auxM_len) (bytesS_length _)]]
  exact rC (v := fv (valB (Sh.taggedS nonceNm.data.toList ((mixL (xorS (bytesS (d % Sc.pM)) auxM) (bytesS (d % Sc.pM)) 32) ++ key ++ m)) % Sc.pM)) 24 g2 2 (fcs (valB (Sh.taggedS nonceNm.data.toList ((mixL (xorS (bytesS (d % Sc.pM)) auxM) (bytesS (d % Sc.pM)) 32) ++ key ++ m)) % Sc.pM)) rfl Tryz.underlying24
 ·have lb1 : k1 < 32 := of_decide_eq_true hb1.symm
  refine sT <| Sy.skip <| Sy.then_ <| Sy.seq <| Sy.block <| sC ?_
  refine sP (.int .i64 ((k1 : Nat) : Int)) <| sP (.int .i64 ((k1 : Nat) : Int)) ?_
  refine sG ?_
  refine Sy.regionD (fun j => j == 8) kR ?_
  refine sZ 0 rfl (.int .i64 ((k1 : Nat) : Int)) <| sD 1 rfl (.pointer (some ⟨g6, 0 + k1 * 1, none⟩)) (Quiet.pure (exec_atA 30 _ _ _ g6 0 _ k1 1 .i64 rfl rfl rfl Tryz.underlying30 kF (by omega))) <| sD 2 rfl (bv ((bytesS (d % Sc.pM)).getD k1 0)) (Quiet.cell 6 g6 (0 + k1 * 1) 30 5 ((mixL (xorS (bytesS (d % Sc.pM)) auxM) (bytesS (d % Sc.pM)) k1).map bv).toArray _ _ rfl kR kR Tryz.underlying5 rfl _ ((key_sym (mixL_len (xorS_len (bytesS_length _) auxM_len) (bytesS_length _) (by omega)) (k := k1) (by omega) (by omega)).trans (congrArg (fun z => some (bv z)) (mixL_get (xorS_len (bytesS_length _) auxM_len) (bytesS_length _) (by omega))))) <| sZ 3 rfl (.int .i64 ((k1 : Nat) : Int)) <| sD 4 rfl (.pointer (some ⟨g5, 0 + k1 * 1, none⟩)) (Quiet.pure (exec_atA 47 _ _ _ g5 0 _ k1 1 .i64 rfl rfl rfl Tryz.underlying47 kF (by omega))) <| sD 5 rfl (bv (auxM.getD k1 0)) (Quiet.cell 5 g5 (0 + k1 * 1) 47 5 (auxM.map bv).toArray _ _ rfl kR kR Tryz.underlying5 rfl _ (key_sym auxM_len (k := k1) (by omega) (by omega))) <| sD 6 rfl (bv (((bytesS (d % Sc.pM)).getD k1 0) ^^^ (auxM.getD k1 0))) (Quiet.pure (fun w => xor_bv w _ _ _ _ ((bytesS (d % Sc.pM)).getD k1 0) (auxM.getD k1 0) rfl rfl rfl)) <| sD 7 rfl (.pointer (some ⟨g6, 0 + k1 * 1, none⟩)) (Quiet.pure (exec_atA 30 _ _ _ g6 0 _ k1 1 .i64 rfl rfl rfl Tryz.underlying30 kF (by omega))) ?_
  refine Sy.writeD 8 rfl kR (by rfl) kR 6 g6 30 ((mixL (xorS (bytesS (d % Sc.pM)) auxM) (bytesS (d % Sc.pM)) k1).map bv).toArray (((mixL (xorS (bytesS (d % Sc.pM)) auxM) (bytesS (d % Sc.pM)) k1).set k1 (((bytesS (d % Sc.pM)).getD k1 0) ^^^ (auxM.getD k1 0))).map bv).toArray kR (Writes.one (0 + k1 * 1) 5 (bv (((bytesS (d % Sc.pM)).getD k1 0) ^^^ (auxM.getD k1 0))) _ _ rfl kR kR kR rfl rfl (key_fits (mixL_len (xorS_len (bytesS_length _) auxM_len) (bytesS_length _) (by omega)) (k := k1) (by omega) (by omega)) (key_sets _ (by omega))) ?_
  refine sE ?_
  refine Sy.in_ <| Sy.then_ <| Sy.region ?_
  refine sS (.int .i64 ((k1 + 1 : Nat) : Int)) (Quiet.pure (exec_int .add _ _ _ .i64 _ _ _ rfl rfl rfl (int_add _ _ _ _ _ ((wrap_i64 (by omega) (by omega)).trans (by omega))))) <| sP (.int .i64 ((k1 + 1 : Nat) : Int)) ?_
  refine Sy.nil ?_
  exact Sy.againK [true, true, true, true, true, true, true] (M := [(g0, 24, (fcs d)), (g1, 31, (key.map bv).toArray), (g2, 24, (fcs 0)), (g3, 30, ((List.replicate 32 (0 : UInt8)).map bv).toArray), (g4, 25, #[.slice (some ⟨g3, 0, none⟩) 32 32]), (g5, 47, (auxM.map bv).toArray), (g6, 30, (((mixL (xorS (bytesS (d % Sc.pM)) auxM) (bytesS (d % Sc.pM)) k1).set k1 (((bytesS (d % Sc.pM)).getD k1 0) ^^^ (auxM.getD k1 0))).map bv).toArray)]) (by omega) (all_cons kR (all_cons kR (all_cons kR (all_cons kR (all_cons kR (all_cons kR all_nil)))))) kR (bcons rfl (bcons rfl (bcons rfl (bcons rfl (bcons rfl (bcons rfl (bcons (beq (congrArg (fun l : List UInt8 => (l.map bv).toArray) (xor_step (bytesS_length _) auxM_len (by omega)))) rfl)))))))
end Go.Proofs.YtfhcpdbahbbmaaaGreatDoor.Cu

end
section
namespace Go.Proofs.YtfhcpdbahbbmaaaGreatDoor.Sc
open Go.RowKit Go.Lib

def v8P (a b c d e f g h : Nat) : Nat := a + 18446744073709551616 * b + 340282366920938463463374607431768211456 * c + 6277101735386680763835789423207666416102355444464034512896 * d + (2^256) * e + 2135987035920910082395021706169552114602704522356652769947041607822219725780640550022962086936576 * f + 39402006196394479212279040100143613805079739270465446667948293404245721771497210611414266254884915640806627990306816 * g + 726838724295606890549323807888004534353641360687318060281490199180639288113397923326191050713763565560762521606266177933534601628614656 * h
theorem step_ex (v m x y : Nat) (hv : v < 18446744073709551616) (hm : m < 18446744073709551616) (hx : x < 18446744073709551616) (hy : y < 18446744073709551616) : ∃ lo hi : Nat, lo < 18446744073709551616 ∧ hi < 18446744073709551616 ∧ lo + 18446744073709551616 * hi = v * m + x + y := by
 have h : v * m ≤ 18446744073709551615 * 18446744073709551615 := Nat.mul_le_mul (by omega) (by omega)
 exact ⟨(v * m + x + y) % 18446744073709551616, (v * m + x + y) / 18446744073709551616, by omega, by omega, by omega⟩
set_option maxHeartbeats 1000000 in
theorem step_at (w : World) (v m x y lo hi : Nat) (hv : v < 18446744073709551616) (hm : m < 18446744073709551616) (hx : x < 18446744073709551616) (hy : y < 18446744073709551616) (hlo : lo < 18446744073709551616) (he : lo + 18446744073709551616 * hi = v * m + x + y) :
  Calls Tryz.prog 181 #[.int .u64 (v : Int), .int .u64 (m : Int), .int .u64 (x : Int), .int .u64 (y : Int)] w fun e w' => e = .returned (.tuple #[.int .u64 (lo : Int), .int .u64 (hi : Int)]) ∧ w' = w := by
 have h : v * m ≤ 18446744073709551615 * 18446744073709551615 := Nat.mul_le_mul (by omega) (by omega)
 obtain ⟨p, q, bq, bp, hpq⟩ := mul_ex v m hv hm
 obtain ⟨s, k, bs, bk, hsk, ra⟩ := add0_ex q x bq hx
 obtain ⟨t, l, bt, bl, htl, rb⟩ := add0_ex s y bs hy
 have hsum : p + k + l < 18446744073709551616 := by omega
 have hsum1 : p + k < 18446744073709551616 := by omega
 obtain rfl : t = lo := by omega
 have HI : Hid (hi = p + k + l) := Lib.hid (by omega)
 have cm := fun w => mul64_at w v m p q hv hm bq hpq
 clear h hpq hsk htl he hlo bs bq bp
 go_enter Tryz.func181, Tryz.ntmps181
 go_wp2_with fail
 refine (cm _).mono ?_
 rintro e w1 ⟨rfl, rfl⟩
 go_wp2
 go_ret2
 exact ⟨by rw [HI.out]; rfl, rfl⟩
theorem below5P (w : World) (a b c d e : Obj) : Below w.heap.size w (((((w.alloc a).alloc b).alloc c).alloc d).alloc e) := ((below_alloc3 w a b c).alloc (by simp <;> omega) _).alloc (by simp <;> omega) _
theorem blk5P (w : World) (a b c d : Obj) (t : TypeId) (cs : Array Value) : Blk (((((w.alloc a).alloc b).alloc c).alloc d).alloc (.cells cs t)) (w.heap.size + 4) t cs := by
 have h := Blk.new ((((w.alloc a).alloc b).alloc c).alloc d) t cs
 have e : ((((w.alloc a).alloc b).alloc c).alloc d).heap.size = w.heap.size + 4 := by simp
 rwa [e] at h

set_option maxHeartbeats 100000000 in
set_option maxRecDepth 100000 in
theorem product_any (w : World) (x y lo hi : Nat) (hx : x < (2^256)) (hy : y < (2^256)) (hlo : lo < (2^256)) (_ : hi < (2^256)) (he : lo + (2^256) * hi = x * y) : Calls Tryz.prog 148 #[fv x, fv y] w fun e w' => e = .returned (.tuple #[fv lo, fv hi]) ∧ Below w.heap.size w w' := by
 obtain ⟨x0, x1, x2, x3, a0, a1, a2, a3, ex, fx⟩ := words_of x hx
 obtain ⟨y0, y1, y2, y3, b0, b1, b2, b3, ey, fy⟩ := words_of y hy
 obtain ⟨t00, ht00⟩ : ∃ t, t = x0 * y0 := ⟨_, rfl⟩
 obtain ⟨t01, ht01⟩ : ∃ t, t = x0 * y1 := ⟨_, rfl⟩
 obtain ⟨t02, ht02⟩ : ∃ t, t = x0 * y2 := ⟨_, rfl⟩
 obtain ⟨t03, ht03⟩ : ∃ t, t = x0 * y3 := ⟨_, rfl⟩
 obtain ⟨t10, ht10⟩ : ∃ t, t = x1 * y0 := ⟨_, rfl⟩
 obtain ⟨t11, ht11⟩ : ∃ t, t = x1 * y1 := ⟨_, rfl⟩
 obtain ⟨t12, ht12⟩ : ∃ t, t = x1 * y2 := ⟨_, rfl⟩
 obtain ⟨t13, ht13⟩ : ∃ t, t = x1 * y3 := ⟨_, rfl⟩
 obtain ⟨t20, ht20⟩ : ∃ t, t = x2 * y0 := ⟨_, rfl⟩
 obtain ⟨t21, ht21⟩ : ∃ t, t = x2 * y1 := ⟨_, rfl⟩
 obtain ⟨t22, ht22⟩ : ∃ t, t = x2 * y2 := ⟨_, rfl⟩
 obtain ⟨t23, ht23⟩ : ∃ t, t = x2 * y3 := ⟨_, rfl⟩
 obtain ⟨t30, ht30⟩ : ∃ t, t = x3 * y0 := ⟨_, rfl⟩
 obtain ⟨t31, ht31⟩ : ∃ t, t = x3 * y1 := ⟨_, rfl⟩
 obtain ⟨t32, ht32⟩ : ∃ t, t = x3 * y2 := ⟨_, rfl⟩
 obtain ⟨t33, ht33⟩ : ∃ t, t = x3 * y3 := ⟨_, rfl⟩
 have m1 : x * y = x0 * y + 18446744073709551616 * (x1 * y) + 340282366920938463463374607431768211456 * (x2 * y) + 6277101735386680763835789423207666416102355444464034512896 * (x3 * y) := by
  conv => lhs; rw [ex]
  exact row_mul x0 x1 x2 x3 y
 have n0 : x0 * y = x0 * y0 + 18446744073709551616 * (x0 * y1) + 340282366920938463463374607431768211456 * (x0 * y2) + 6277101735386680763835789423207666416102355444464034512896 * (x0 * y3) := by
  conv => lhs; rw [ey]
  exact col_mul x0 y0 y1 y2 y3
 have n1 : x1 * y = x1 * y0 + 18446744073709551616 * (x1 * y1) + 340282366920938463463374607431768211456 * (x1 * y2) + 6277101735386680763835789423207666416102355444464034512896 * (x1 * y3) := by
  conv => lhs; rw [ey]
  exact col_mul x1 y0 y1 y2 y3
 have n2 : x2 * y = x2 * y0 + 18446744073709551616 * (x2 * y1) + 340282366920938463463374607431768211456 * (x2 * y2) + 6277101735386680763835789423207666416102355444464034512896 * (x2 * y3) := by
  conv => lhs; rw [ey]
  exact col_mul x2 y0 y1 y2 y3
 have n3 : x3 * y = x3 * y0 + 18446744073709551616 * (x3 * y1) + 340282366920938463463374607431768211456 * (x3 * y2) + 6277101735386680763835789423207666416102355444464034512896 * (x3 * y3) := by
  conv => lhs; rw [ey]
  exact col_mul x3 y0 y1 y2 y3
 have hxy : 0 + 1 * t00 + 18446744073709551616 * t01 + 340282366920938463463374607431768211456 * t02 + 6277101735386680763835789423207666416102355444464034512896 * t03 + 18446744073709551616 * t10 + 340282366920938463463374607431768211456 * t11 + 6277101735386680763835789423207666416102355444464034512896 * t12 + (2^256) * t13 + 340282366920938463463374607431768211456 * t20 + 6277101735386680763835789423207666416102355444464034512896 * t21 + (2^256) * t22 + 2135987035920910082395021706169552114602704522356652769947041607822219725780640550022962086936576 * t23 + 6277101735386680763835789423207666416102355444464034512896 * t30 + (2^256) * t31 + 2135987035920910082395021706169552114602704522356652769947041607822219725780640550022962086936576 * t32 + 39402006196394479212279040100143613805079739270465446667948293404245721771497210611414266254884915640806627990306816 * t33 = x * y := by
  rw [m1, n0, n1, n2, n3]
  simp only [ht00, ht01, ht02, ht03, ht10, ht11, ht12, ht13, ht20, ht21, ht22, ht23, ht30, ht31, ht32, ht33]
  omega
 clear m1 n0 n1 n2 n3
 have cF : ∀ (r0 r1 r2 r3 r4 r5 r6 r7 : Nat), (r0 < 18446744073709551616 ∧ r1 < 18446744073709551616 ∧ r2 < 18446744073709551616 ∧ r3 < 18446744073709551616 ∧ r4 < 18446744073709551616 ∧ r5 < 18446744073709551616 ∧ r6 < 18446744073709551616 ∧ r7 < 18446744073709551616) → v8P r0 r1 r2 r3 r4 r5 r6 r7 = 0 + 1 * t00 + 18446744073709551616 * t01 + 340282366920938463463374607431768211456 * t02 + 6277101735386680763835789423207666416102355444464034512896 * t03 + 18446744073709551616 * t10 + 340282366920938463463374607431768211456 * t11 + 6277101735386680763835789423207666416102355444464034512896 * t12 + (2^256) * t13 + 340282366920938463463374607431768211456 * t20 + 6277101735386680763835789423207666416102355444464034512896 * t21 + (2^256) * t22 + 2135987035920910082395021706169552114602704522356652769947041607822219725780640550022962086936576 * t23 + 6277101735386680763835789423207666416102355444464034512896 * t30 + (2^256) * t31 + 2135987035920910082395021706169552114602704522356652769947041607822219725780640550022962086936576 * t32 + 39402006196394479212279040100143613805079739270465446667948293404245721771497210611414266254884915640806627990306816 * t33 → fv lo = .agg #[.int .u64 (r0 : Int), .int .u64 (r1 : Int), .int .u64 (r2 : Int), .int .u64 (r3 : Int)] ∧ fv hi = .agg #[.int .u64 (r4 : Int), .int .u64 (r5 : Int), .int .u64 (r6 : Int), .int .u64 (r7 : Int)] := by
  intro r0 r1 r2 r3 r4 r5 r6 r7 hlt hv
  obtain ⟨l0, l1, l2, l3, l4, l5, l6, l7⟩ := hlt
  rw [hxy, ← he] at hv
  simp only [v8P] at hv
  have e1 : lo = r0 + 18446744073709551616 * r1 + 340282366920938463463374607431768211456 * r2 + 6277101735386680763835789423207666416102355444464034512896 * r3 := by omega
  have e2 : hi = r4 + 18446744073709551616 * r5 + 340282366920938463463374607431768211456 * r6 + 6277101735386680763835789423207666416102355444464034512896 * r7 := by omega
  rw [e1, e2]
  exact ⟨(fv_mk r0 r1 r2 r3 l0 l1 l2 l3).symm, (fv_mk r4 r5 r6 r7 l4 l5 l6 l7).symm⟩
 have HT := Lib.hid (And.intro (And.intro a0 (And.intro a1 (And.intro a2 a3))) (And.intro (And.intro b0 (And.intro b1 (And.intro b2 b3))) (And.intro ht00 (And.intro ht01 (And.intro ht02 (And.intro ht03 (And.intro ht10 (And.intro ht11 (And.intro ht12 (And.intro ht13 (And.intro ht20 (And.intro ht21 (And.intro ht22 (And.intro ht23 (And.intro ht30 (And.intro ht31 (And.intro ht32 (And.intro ht33 trivial))))))))))))))))))
 rw [fx, fy]
 clear fx fy ex ey hx hy he hlo hxy a0 a1 a2 a3 b0 b1 b2 b3 ht00 ht01 ht02 ht03 ht10 ht11 ht12 ht13 ht20 ht21 ht22 ht23 ht30 ht31 ht32 ht33
 go_enter Tryz.func148, Tryz.ntmps148
 go_wp2_with fail
 have ix0 : ∀ W, (Instr.index 24 (.agg #[.int .u64 (x0 : Int), .int .u64 (x1 : Int), .int .u64 (x2 : Int), .int .u64 (x3 : Int)]) (.int .i64 0)).run Tryz.prog W = .ok (.int .u64 (x0 : Int)) W := fun W => by kernel_rfl
 have ix1 : ∀ W, (Instr.index 24 (.agg #[.int .u64 (x0 : Int), .int .u64 (x1 : Int), .int .u64 (x2 : Int), .int .u64 (x3 : Int)]) (.int .i64 1)).run Tryz.prog W = .ok (.int .u64 (x1 : Int)) W := fun W => by kernel_rfl
 have ix2 : ∀ W, (Instr.index 24 (.agg #[.int .u64 (x0 : Int), .int .u64 (x1 : Int), .int .u64 (x2 : Int), .int .u64 (x3 : Int)]) (.int .i64 2)).run Tryz.prog W = .ok (.int .u64 (x2 : Int)) W := fun W => by kernel_rfl
 have ix3 : ∀ W, (Instr.index 24 (.agg #[.int .u64 (x0 : Int), .int .u64 (x1 : Int), .int .u64 (x2 : Int), .int .u64 (x3 : Int)]) (.int .i64 3)).run Tryz.prog W = .ok (.int .u64 (x3 : Int)) W := fun W => by kernel_rfl
 have iy0 : ∀ W, (Instr.index 24 (.agg #[.int .u64 (y0 : Int), .int .u64 (y1 : Int), .int .u64 (y2 : Int), .int .u64 (y3 : Int)]) (.int .i64 0)).run Tryz.prog W = .ok (.int .u64 (y0 : Int)) W := fun W => by kernel_rfl
 have iy1 : ∀ W, (Instr.index 24 (.agg #[.int .u64 (y0 : Int), .int .u64 (y1 : Int), .int .u64 (y2 : Int), .int .u64 (y3 : Int)]) (.int .i64 1)).run Tryz.prog W = .ok (.int .u64 (y1 : Int)) W := fun W => by kernel_rfl
 have iy2 : ∀ W, (Instr.index 24 (.agg #[.int .u64 (y0 : Int), .int .u64 (y1 : Int), .int .u64 (y2 : Int), .int .u64 (y3 : Int)]) (.int .i64 2)).run Tryz.prog W = .ok (.int .u64 (y2 : Int)) W := fun W => by kernel_rfl
 have iy3 : ∀ W, (Instr.index 24 (.agg #[.int .u64 (y0 : Int), .int .u64 (y1 : Int), .int .u64 (y2 : Int), .int .u64 (y3 : Int)]) (.int .i64 3)).run Tryz.prog W = .ok (.int .u64 (y3 : Int)) W := fun W => by kernel_rfl
 go_loopw [13] (fun i wr => Below w.heap.size w wr ∧ Blk wr (w.heap.size + 1) 24 #[.int .u64 (y0 : Int), .int .u64 (y1 : Int), .int .u64 (y2 : Int), .int .u64 (y3 : Int)] ∧ Blk wr (w.heap.size + 2) 24 #[.int .u64 0, .int .u64 0, .int .u64 0, .int .u64 0] ∧ Blk wr (w.heap.size + 3) 24 #[.int .u64 0, .int .u64 0, .int .u64 0, .int .u64 0] ∧ Hid ((i = .int .i64 0 ∧ Blk wr (w.heap.size + 4) 194 #[.int .u64 0, .int .u64 0, .int .u64 0, .int .u64 0, .int .u64 0, .int .u64 0, .int .u64 0, .int .u64 0] ∧ (True) ∧ v8P 0 0 0 0 0 0 0 0 = 0) ∨ (i = .int .i64 1 ∧ ∃ r0 r1 r2 r3 r4 : Nat, Blk wr (w.heap.size + 4) 194 #[.int .u64 (r0 : Int), .int .u64 (r1 : Int), .int .u64 (r2 : Int), .int .u64 (r3 : Int), .int .u64 (r4 : Int), .int .u64 0, .int .u64 0, .int .u64 0] ∧ (r0 < 18446744073709551616 ∧ r1 < 18446744073709551616 ∧ r2 < 18446744073709551616 ∧ r3 < 18446744073709551616 ∧ r4 < 18446744073709551616) ∧ v8P r0 r1 r2 r3 r4 0 0 0 = 0 + 1 * t00 + 18446744073709551616 * t01 + 340282366920938463463374607431768211456 * t02 + 6277101735386680763835789423207666416102355444464034512896 * t03) ∨ (i = .int .i64 2 ∧ ∃ r0 r1 r2 r3 r4 r5 : Nat, Blk wr (w.heap.size + 4) 194 #[.int .u64 (r0 : Int), .int .u64 (r1 : Int), .int .u64 (r2 : Int), .int .u64 (r3 : Int), .int .u64 (r4 : Int), .int .u64 (r5 : Int), .int .u64 0, .int .u64 0] ∧ (r0 < 18446744073709551616 ∧ r1 < 18446744073709551616 ∧ r2 < 18446744073709551616 ∧ r3 < 18446744073709551616 ∧ r4 < 18446744073709551616 ∧ r5 < 18446744073709551616) ∧ v8P r0 r1 r2 r3 r4 r5 0 0 = 0 + 1 * t00 + 18446744073709551616 * t01 + 340282366920938463463374607431768211456 * t02 + 6277101735386680763835789423207666416102355444464034512896 * t03 + 18446744073709551616 * t10 + 340282366920938463463374607431768211456 * t11 + 6277101735386680763835789423207666416102355444464034512896 * t12 + (2^256) * t13) ∨ (i = .int .i64 3 ∧ ∃ r0 r1 r2 r3 r4 r5 r6 : Nat, Blk wr (w.heap.size + 4) 194 #[.int .u64 (r0 : Int), .int .u64 (r1 : Int), .int .u64 (r2 : Int), .int .u64 (r3 : Int), .int .u64 (r4 : Int), .int .u64 (r5 : Int), .int .u64 (r6 : Int), .int .u64 0] ∧ (r0 < 18446744073709551616 ∧ r1 < 18446744073709551616 ∧ r2 < 18446744073709551616 ∧ r3 < 18446744073709551616 ∧ r4 < 18446744073709551616 ∧ r5 < 18446744073709551616 ∧ r6 < 18446744073709551616) ∧ v8P r0 r1 r2 r3 r4 r5 r6 0 = 0 + 1 * t00 + 18446744073709551616 * t01 + 340282366920938463463374607431768211456 * t02 + 6277101735386680763835789423207666416102355444464034512896 * t03 + 18446744073709551616 * t10 + 340282366920938463463374607431768211456 * t11 + 6277101735386680763835789423207666416102355444464034512896 * t12 + (2^256) * t13 + 340282366920938463463374607431768211456 * t20 + 6277101735386680763835789423207666416102355444464034512896 * t21 + (2^256) * t22 + 2135987035920910082395021706169552114602704522356652769947041607822219725780640550022962086936576 * t23) ∨ (i = .int .i64 4 ∧ ∃ r0 r1 r2 r3 r4 r5 r6 r7 : Nat, Blk wr (w.heap.size + 4) 194 #[.int .u64 (r0 : Int), .int .u64 (r1 : Int), .int .u64 (r2 : Int), .int .u64 (r3 : Int), .int .u64 (r4 : Int), .int .u64 (r5 : Int), .int .u64 (r6 : Int), .int .u64 (r7 : Int)] ∧ (r0 < 18446744073709551616 ∧ r1 < 18446744073709551616 ∧ r2 < 18446744073709551616 ∧ r3 < 18446744073709551616 ∧ r4 < 18446744073709551616 ∧ r5 < 18446744073709551616 ∧ r6 < 18446744073709551616 ∧ r7 < 18446744073709551616) ∧ v8P r0 r1 r2 r3 r4 r5 r6 r7 = 0 + 1 * t00 + 18446744073709551616 * t01 + 340282366920938463463374607431768211456 * t02 + 6277101735386680763835789423207666416102355444464034512896 * t03 + 18446744073709551616 * t10 + 340282366920938463463374607431768211456 * t11 + 6277101735386680763835789423207666416102355444464034512896 * t12 + (2^256) * t13 + 340282366920938463463374607431768211456 * t20 + 6277101735386680763835789423207666416102355444464034512896 * t21 + (2^256) * t22 + 2135987035920910082395021706169552114602704522356652769947041607822219725780640550022962086936576 * t23 + 6277101735386680763835789423207666416102355444464034512896 * t30 + (2^256) * t31 + 2135987035920910082395021706169552114602704522356652769947041607822219725780640550022962086936576 * t32 + 39402006196394479212279040100143613805079739270465446667948293404245721771497210611414266254884915640806627990306816 * t33))) (fun i _ => 4 - (intOf i).toNat)
 case atStart => exact ⟨below5P w _ _ _ _ _, (((blk_new2 w _ _ _).alloc _).alloc _).alloc _, ((blk_new3 w _ _ _ _).alloc _).alloc _, (blk_new4 w _ _ _ _ _).alloc _, Lib.hid (.inl ⟨rfl, blk5P w _ _ _ _ _ _, trivial, by simp only [v8P]⟩)⟩
 case round =>
  obtain ⟨hb, BY, BL, BH, HI⟩ := hrel
  rcases HI.out with ⟨rfl, X⟩ | ⟨rfl, X⟩ | ⟨rfl, X⟩ | ⟨rfl, X⟩ | ⟨rfl, X⟩
  ·clear HI
   obtain ⟨BW, hlt, hval⟩ := X
   have HL := Lib.hid (And.intro hlt hval)
   clear hlt hval
   go_wp2_with (first | ((with_reducible refine here_load (d := some 17) ?_); refine wpList_load_blk rfl _ _ rfl (w.heap.size + 1) rfl _ _ _ BY Tryz.underlying24 rfl (by kernel_rfl) ?_))
   obtain ⟨hlt, hval⟩ := HL.out
   go_loopw [9, 18] (fun cv j wr => Below w.heap.size w wr ∧ Blk wr (w.heap.size + 1) 24 #[.int .u64 (y0 : Int), .int .u64 (y1 : Int), .int .u64 (y2 : Int), .int .u64 (y3 : Int)] ∧ Blk wr (w.heap.size + 2) 24 #[.int .u64 0, .int .u64 0, .int .u64 0, .int .u64 0] ∧ Blk wr (w.heap.size + 3) 24 #[.int .u64 0, .int .u64 0, .int .u64 0, .int .u64 0] ∧ Hid ((j = .int .i64 0 ∧ ∃ r0 r1 r2 r3 c : Nat, cv = .int .u64 (c : Int) ∧ Blk wr (w.heap.size + 4) 194 #[.int .u64 (r0 : Int), .int .u64 (r1 : Int), .int .u64 (r2 : Int), .int .u64 (r3 : Int), .int .u64 0, .int .u64 0, .int .u64 0, .int .u64 0] ∧ (r0 < 18446744073709551616 ∧ r1 < 18446744073709551616 ∧ r2 < 18446744073709551616 ∧ r3 < 18446744073709551616) ∧ c = 0 ∧ v8P r0 r1 r2 r3 0 0 0 0 + 1 * c = 0) ∨ (j = .int .i64 1 ∧ ∃ r0 r1 r2 r3 c : Nat, cv = .int .u64 (c : Int) ∧ Blk wr (w.heap.size + 4) 194 #[.int .u64 (r0 : Int), .int .u64 (r1 : Int), .int .u64 (r2 : Int), .int .u64 (r3 : Int), .int .u64 0, .int .u64 0, .int .u64 0, .int .u64 0] ∧ (r0 < 18446744073709551616 ∧ r1 < 18446744073709551616 ∧ r2 < 18446744073709551616 ∧ r3 < 18446744073709551616) ∧ c < 18446744073709551616 ∧ v8P r0 r1 r2 r3 0 0 0 0 + 18446744073709551616 * c = 0 + 1 * t00) ∨ (j = .int .i64 2 ∧ ∃ r0 r1 r2 r3 c : Nat, cv = .int .u64 (c : Int) ∧ Blk wr (w.heap.size + 4) 194 #[.int .u64 (r0 : Int), .int .u64 (r1 : Int), .int .u64 (r2 : Int), .int .u64 (r3 : Int), .int .u64 0, .int .u64 0, .int .u64 0, .int .u64 0] ∧ (r0 < 18446744073709551616 ∧ r1 < 18446744073709551616 ∧ r2 < 18446744073709551616 ∧ r3 < 18446744073709551616) ∧ c < 18446744073709551616 ∧ v8P r0 r1 r2 r3 0 0 0 0 + 340282366920938463463374607431768211456 * c = 0 + 1 * t00 + 18446744073709551616 * t01) ∨ (j = .int .i64 3 ∧ ∃ r0 r1 r2 r3 c : Nat, cv = .int .u64 (c : Int) ∧ Blk wr (w.heap.size + 4) 194 #[.int .u64 (r0 : Int), .int .u64 (r1 : Int), .int .u64 (r2 : Int), .int .u64 (r3 : Int), .int .u64 0, .int .u64 0, .int .u64 0, .int .u64 0] ∧ (r0 < 18446744073709551616 ∧ r1 < 18446744073709551616 ∧ r2 < 18446744073709551616 ∧ r3 < 18446744073709551616) ∧ c < 18446744073709551616 ∧ v8P r0 r1 r2 r3 0 0 0 0 + 6277101735386680763835789423207666416102355444464034512896 * c = 0 + 1 * t00 + 18446744073709551616 * t01 + 340282366920938463463374607431768211456 * t02) ∨ (j = .int .i64 4 ∧ ∃ r0 r1 r2 r3 c : Nat, cv = .int .u64 (c : Int) ∧ Blk wr (w.heap.size + 4) 194 #[.int .u64 (r0 : Int), .int .u64 (r1 : Int), .int .u64 (r2 : Int), .int .u64 (r3 : Int), .int .u64 0, .int .u64 0, .int .u64 0, .int .u64 0] ∧ (r0 < 18446744073709551616 ∧ r1 < 18446744073709551616 ∧ r2 < 18446744073709551616 ∧ r3 < 18446744073709551616) ∧ c < 18446744073709551616 ∧ v8P r0 r1 r2 r3 0 0 0 0 + (2^256) * c = 0 + 1 * t00 + 18446744073709551616 * t01 + 340282366920938463463374607431768211456 * t02 + 6277101735386680763835789423207666416102355444464034512896 * t03))) (fun _ j _ => 4 - (intOf j).toNat)
   case atStart => exact ⟨hb, BY, BL, BH, Lib.hid (.inl ⟨rfl, 0, 0, 0, 0, 0, rfl, BW, ⟨by omega, by omega, by omega, by omega⟩, rfl, by omega⟩)⟩
   case round =>
    clear hb BY BL BH BW hlt hval HL
    obtain ⟨hb, BY, BL, BH, HI⟩ := hrel
    rcases HI.out with ⟨rfl, X⟩ | ⟨rfl, X⟩ | ⟨rfl, X⟩ | ⟨rfl, X⟩ | ⟨rfl, X⟩
    ·clear HI
     obtain ⟨r0, r1, r2, r3, c, rfl, BW, ⟨b0, b1, b2, b3⟩, hc, hval⟩ := X
     have hc1 : c < 18446744073709551616 := by omega
     obtain ⟨yy, cc, bY, bC, hml⟩ := step_ex x0 y0 r0 c HT.out.1.1 HT.out.2.1.1 b0 hc1
     have cs := fun w => step_at w x0 y0 r0 c yy cc HT.out.1.1 HT.out.2.1.1 b0 hc1 bY hml
     rw [← HT.out.2.2.1] at hml
     have hnew : v8P yy r1 r2 r3 0 0 0 0 + 18446744073709551616 * cc = 0 + 1 * t00 := by
      simp only [v8P] at hval ⊢
      omega
     have HN := Lib.hid (And.intro hnew (And.intro (And.intro b0 (And.intro b1 (And.intro b2 b3))) (And.intro bY bC)))
     have pa : wr.cell? ⟨w.heap.size + 4, 0, none⟩ = some (.int .u64 (r0 : Int)) := BW.cell 0
     have pf := BW.frozen 0
     clear hval hnew hml bY bC hc hc1 b0 b1 b2 b3
     go_wp2_with fail
     refine (cs _).mono ?_
     rintro e u ⟨rfl, rfl⟩
     go_wp2
     obtain ⟨hnew, ⟨b0, b1, b2, b3⟩, bY, bC⟩ := HN.out
     refine ⟨⟨(hb.setCell (by show w.heap.size ≤ w.heap.size + 4; omega) _), (BY.far (by show w.heap.size + 1 ≠ w.heap.size + 4; omega) _), (BL.far (by show w.heap.size + 2 ≠ w.heap.size + 4; omega) _), (BH.far (by show w.heap.size + 3 ≠ w.heap.size + 4; omega) _), Lib.hid (.inr (.inl (⟨rfl, yy, r1, r2, r3, cc, rfl, BW.set_ 0 _, ⟨bY, b1, b2, b3⟩, bC, hnew⟩)))⟩, by decide⟩
    ·clear HI
     obtain ⟨r0, r1, r2, r3, c, rfl, BW, ⟨b0, b1, b2, b3⟩, hc, hval⟩ := X
     have hc1 : c < 18446744073709551616 := by omega
     obtain ⟨yy, cc, bY, bC, hml⟩ := step_ex x0 y1 r1 c HT.out.1.1 HT.out.2.1.2.1 b1 hc1
     have cs := fun w => step_at w x0 y1 r1 c yy cc HT.out.1.1 HT.out.2.1.2.1 b1 hc1 bY hml
     rw [← HT.out.2.2.2.1] at hml
     have hnew : v8P r0 yy r2 r3 0 0 0 0 + 340282366920938463463374607431768211456 * cc = 0 + 1 * t00 + 18446744073709551616 * t01 := by
      simp only [v8P] at hval ⊢
      omega
     have HN := Lib.hid (And.intro hnew (And.intro (And.intro b0 (And.intro b1 (And.intro b2 b3))) (And.intro bY bC)))
     have pa : wr.cell? ⟨w.heap.size + 4, 1, none⟩ = some (.int .u64 (r1 : Int)) := BW.cell 1
     have pf := BW.frozen 1
     clear hval hnew hml bY bC hc hc1 b0 b1 b2 b3
     go_wp2_with fail
     refine (cs _).mono ?_
     rintro e u ⟨rfl, rfl⟩
     go_wp2
     obtain ⟨hnew, ⟨b0, b1, b2, b3⟩, bY, bC⟩ := HN.out
     refine ⟨⟨(hb.setCell (by show w.heap.size ≤ w.heap.size + 4; omega) _), (BY.far (by show w.heap.size + 1 ≠ w.heap.size + 4; omega) _), (BL.far (by show w.heap.size + 2 ≠ w.heap.size + 4; omega) _), (BH.far (by show w.heap.size + 3 ≠ w.heap.size + 4; omega) _), Lib.hid (.inr (.inr (.inl (⟨rfl, r0, yy, r2, r3, cc, rfl, BW.set_ 1 _, ⟨b0, bY, b2, b3⟩, bC, hnew⟩))))⟩, by decide⟩
    ·clear HI
     obtain ⟨r0, r1, r2, r3, c, rfl, BW, ⟨b0, b1, b2, b3⟩, hc, hval⟩ := X
     have hc1 : c < 18446744073709551616 := by omega
     obtain ⟨yy, cc, bY, bC, hml⟩ := step_ex x0 y2 r2 c HT.out.1.1 HT.out.2.1.2.2.1 b2 hc1
     have cs := fun w => step_at w x0 y2 r2 c yy cc HT.out.1.1 HT.out.2.1.2.2.1 b2 hc1 bY hml
     rw [← HT.out.2.2.2.2.1] at hml
     have hnew : v8P r0 r1 yy r3 0 0 0 0 + 6277101735386680763835789423207666416102355444464034512896 * cc = 0 + 1 * t00 + 18446744073709551616 * t01 + 340282366920938463463374607431768211456 * t02 := by
      simp only [v8P] at hval ⊢
      omega
     have HN := Lib.hid (And.intro hnew (And.intro (And.intro b0 (And.intro b1 (And.intro b2 b3))) (And.intro bY bC)))
     have pa : wr.cell? ⟨w.heap.size + 4, 2, none⟩ = some (.int .u64 (r2 : Int)) := BW.cell 2
     have pf := BW.frozen 2
     clear hval hnew hml bY bC hc hc1 b0 b1 b2 b3
     go_wp2_with fail
     refine (cs _).mono ?_
     rintro e u ⟨rfl, rfl⟩
     go_wp2
     obtain ⟨hnew, ⟨b0, b1, b2, b3⟩, bY, bC⟩ := HN.out
     refine ⟨⟨(hb.setCell (by show w.heap.size ≤ w.heap.size + 4; omega) _), (BY.far (by show w.heap.size + 1 ≠ w.heap.size + 4; omega) _), (BL.far (by show w.heap.size + 2 ≠ w.heap.size + 4; omega) _), (BH.far (by show w.heap.size + 3 ≠ w.heap.size + 4; omega) _), Lib.hid (.inr (.inr (.inr (.inl (⟨rfl, r0, r1, yy, r3, cc, rfl, BW.set_ 2 _, ⟨b0, b1, bY, b3⟩, bC, hnew⟩)))))⟩, by decide⟩
    ·clear HI
     obtain ⟨r0, r1, r2, r3, c, rfl, BW, ⟨b0, b1, b2, b3⟩, hc, hval⟩ := X
     have hc1 : c < 18446744073709551616 := by omega
     obtain ⟨yy, cc, bY, bC, hml⟩ := step_ex x0 y3 r3 c HT.out.1.1 HT.out.2.1.2.2.2 b3 hc1
     have cs := fun w => step_at w x0 y3 r3 c yy cc HT.out.1.1 HT.out.2.1.2.2.2 b3 hc1 bY hml
     rw [← HT.out.2.2.2.2.2.1] at hml
     have hnew : v8P r0 r1 r2 yy 0 0 0 0 + (2^256) * cc = 0 + 1 * t00 + 18446744073709551616 * t01 + 340282366920938463463374607431768211456 * t02 + 6277101735386680763835789423207666416102355444464034512896 * t03 := by
      simp only [v8P] at hval ⊢
      omega
     have HN := Lib.hid (And.intro hnew (And.intro (And.intro b0 (And.intro b1 (And.intro b2 b3))) (And.intro bY bC)))
     have pa : wr.cell? ⟨w.heap.size + 4, 3, none⟩ = some (.int .u64 (r3 : Int)) := BW.cell 3
     have pf := BW.frozen 3
     clear hval hnew hml bY bC hc hc1 b0 b1 b2 b3
     go_wp2_with fail
     refine (cs _).mono ?_
     rintro e u ⟨rfl, rfl⟩
     go_wp2
     obtain ⟨hnew, ⟨b0, b1, b2, b3⟩, bY, bC⟩ := HN.out
     refine ⟨⟨(hb.setCell (by show w.heap.size ≤ w.heap.size + 4; omega) _), (BY.far (by show w.heap.size + 1 ≠ w.heap.size + 4; omega) _), (BL.far (by show w.heap.size + 2 ≠ w.heap.size + 4; omega) _), (BH.far (by show w.heap.size + 3 ≠ w.heap.size + 4; omega) _), Lib.hid (.inr (.inr (.inr (.inr (⟨rfl, r0, r1, r2, yy, cc, rfl, BW.set_ 3 _, ⟨b0, b1, b2, bY⟩, bC, hnew⟩)))))⟩, by decide⟩
    ·clear HI
     obtain ⟨r0, r1, r2, r3, c, rfl, BW, ⟨b0, b1, b2, b3⟩, hc, hval⟩ := X
     have HV := Lib.hid (And.intro hval hc)
     have HB := Lib.hid (And.intro b0 (And.intro b1 (And.intro b2 b3)))
     have pa : wr.cell? ⟨w.heap.size + 4, 4, none⟩ = some (.int .u64 0) := BW.cell 4
     have pf := BW.frozen 4
     clear hval hc b0 b1 b2 b3
     go_wp2
     obtain ⟨b0, b1, b2, b3⟩ := HB.out
     refine ⟨⟨(hb.setCell (by show w.heap.size ≤ w.heap.size + 4; omega) _), (BY.far (by show w.heap.size + 1 ≠ w.heap.size + 4; omega) _), (BL.far (by show w.heap.size + 2 ≠ w.heap.size + 4; omega) _), (BH.far (by show w.heap.size + 3 ≠ w.heap.size + 4; omega) _), Lib.hid (.inr (.inl (⟨rfl, r0, r1, r2, r3, c, BW.set_ 4 _, ⟨b0, b1, b2, b3, HV.out.2⟩, by have := HV.out.1; simp only [v8P] at this ⊢; omega⟩)))⟩, by decide⟩
  ·clear HI
   obtain ⟨r0, r1, r2, r3, r4, BW, hlt, hval⟩ := X
   have HL := Lib.hid (And.intro hlt hval)
   clear hlt hval
   go_wp2_with (first | ((with_reducible refine here_load (d := some 17) ?_); refine wpList_load_blk rfl _ _ rfl (w.heap.size + 1) rfl _ _ _ BY Tryz.underlying24 rfl (by kernel_rfl) ?_))
   obtain ⟨hlt, hval⟩ := HL.out
   go_loopw [9, 18] (fun cv j wr => Below w.heap.size w wr ∧ Blk wr (w.heap.size + 1) 24 #[.int .u64 (y0 : Int), .int .u64 (y1 : Int), .int .u64 (y2 : Int), .int .u64 (y3 : Int)] ∧ Blk wr (w.heap.size + 2) 24 #[.int .u64 0, .int .u64 0, .int .u64 0, .int .u64 0] ∧ Blk wr (w.heap.size + 3) 24 #[.int .u64 0, .int .u64 0, .int .u64 0, .int .u64 0] ∧ Hid ((j = .int .i64 0 ∧ ∃ r0 r1 r2 r3 r4 c : Nat, cv = .int .u64 (c : Int) ∧ Blk wr (w.heap.size + 4) 194 #[.int .u64 (r0 : Int), .int .u64 (r1 : Int), .int .u64 (r2 : Int), .int .u64 (r3 : Int), .int .u64 (r4 : Int), .int .u64 0, .int .u64 0, .int .u64 0] ∧ (r0 < 18446744073709551616 ∧ r1 < 18446744073709551616 ∧ r2 < 18446744073709551616 ∧ r3 < 18446744073709551616 ∧ r4 < 18446744073709551616) ∧ c = 0 ∧ v8P r0 r1 r2 r3 r4 0 0 0 + 18446744073709551616 * c = 0 + 1 * t00 + 18446744073709551616 * t01 + 340282366920938463463374607431768211456 * t02 + 6277101735386680763835789423207666416102355444464034512896 * t03) ∨ (j = .int .i64 1 ∧ ∃ r0 r1 r2 r3 r4 c : Nat, cv = .int .u64 (c : Int) ∧ Blk wr (w.heap.size + 4) 194 #[.int .u64 (r0 : Int), .int .u64 (r1 : Int), .int .u64 (r2 : Int), .int .u64 (r3 : Int), .int .u64 (r4 : Int), .int .u64 0, .int .u64 0, .int .u64 0] ∧ (r0 < 18446744073709551616 ∧ r1 < 18446744073709551616 ∧ r2 < 18446744073709551616 ∧ r3 < 18446744073709551616 ∧ r4 < 18446744073709551616) ∧ c < 18446744073709551616 ∧ v8P r0 r1 r2 r3 r4 0 0 0 + 340282366920938463463374607431768211456 * c = 0 + 1 * t00 + 18446744073709551616 * t01 + 340282366920938463463374607431768211456 * t02 + 6277101735386680763835789423207666416102355444464034512896 * t03 + 18446744073709551616 * t10) ∨ (j = .int .i64 2 ∧ ∃ r0 r1 r2 r3 r4 c : Nat, cv = .int .u64 (c : Int) ∧ Blk wr (w.heap.size + 4) 194 #[.int .u64 (r0 : Int), .int .u64 (r1 : Int), .int .u64 (r2 : Int), .int .u64 (r3 : Int), .int .u64 (r4 : Int), .int .u64 0, .int .u64 0, .int .u64 0] ∧ (r0 < 18446744073709551616 ∧ r1 < 18446744073709551616 ∧ r2 < 18446744073709551616 ∧ r3 < 18446744073709551616 ∧ r4 < 18446744073709551616) ∧ c < 18446744073709551616 ∧ v8P r0 r1 r2 r3 r4 0 0 0 + 6277101735386680763835789423207666416102355444464034512896 * c = 0 + 1 * t00 + 18446744073709551616 * t01 + 340282366920938463463374607431768211456 * t02 + 6277101735386680763835789423207666416102355444464034512896 * t03 + 18446744073709551616 * t10 + 340282366920938463463374607431768211456 * t11) ∨ (j = .int .i64 3 ∧ ∃ r0 r1 r2 r3 r4 c : Nat, cv = .int .u64 (c : Int) ∧ Blk wr (w.heap.size + 4) 194 #[.int .u64 (r0 : Int), .int .u64 (r1 : Int), .int .u64 (r2 : Int), .int .u64 (r3 : Int), .int .u64 (r4 : Int), .int .u64 0, .int .u64 0, .int .u64 0] ∧ (r0 < 18446744073709551616 ∧ r1 < 18446744073709551616 ∧ r2 < 18446744073709551616 ∧ r3 < 18446744073709551616 ∧ r4 < 18446744073709551616) ∧ c < 18446744073709551616 ∧ v8P r0 r1 r2 r3 r4 0 0 0 + (2^256) * c = 0 + 1 * t00 + 18446744073709551616 * t01 + 340282366920938463463374607431768211456 * t02 + 6277101735386680763835789423207666416102355444464034512896 * t03 + 18446744073709551616 * t10 + 340282366920938463463374607431768211456 * t11 + 6277101735386680763835789423207666416102355444464034512896 * t12) ∨ (j = .int .i64 4 ∧ ∃ r0 r1 r2 r3 r4 c : Nat, cv = .int .u64 (c : Int) ∧ Blk wr (w.heap.size + 4) 194 #[.int .u64 (r0 : Int), .int .u64 (r1 : Int), .int .u64 (r2 : Int), .int .u64 (r3 : Int), .int .u64 (r4 : Int), .int .u64 0, .int .u64 0, .int .u64 0] ∧ (r0 < 18446744073709551616 ∧ r1 < 18446744073709551616 ∧ r2 < 18446744073709551616 ∧ r3 < 18446744073709551616 ∧ r4 < 18446744073709551616) ∧ c < 18446744073709551616 ∧ v8P r0 r1 r2 r3 r4 0 0 0 + 2135987035920910082395021706169552114602704522356652769947041607822219725780640550022962086936576 * c = 0 + 1 * t00 + 18446744073709551616 * t01 + 340282366920938463463374607431768211456 * t02 + 6277101735386680763835789423207666416102355444464034512896 * t03 + 18446744073709551616 * t10 + 340282366920938463463374607431768211456 * t11 + 6277101735386680763835789423207666416102355444464034512896 * t12 + (2^256) * t13))) (fun _ j _ => 4 - (intOf j).toNat)
   case atStart => exact ⟨hb, BY, BL, BH, Lib.hid (.inl ⟨rfl, r0, r1, r2, r3, r4, 0, rfl, BW, hlt, rfl, by omega⟩)⟩
   case round =>
    clear hb BY BL BH BW hlt hval HL
    obtain ⟨hb, BY, BL, BH, HI⟩ := hrel
    rcases HI.out with ⟨rfl, X⟩ | ⟨rfl, X⟩ | ⟨rfl, X⟩ | ⟨rfl, X⟩ | ⟨rfl, X⟩
    ·clear HI
     obtain ⟨r0, r1, r2, r3, r4, c, rfl, BW, ⟨b0, b1, b2, b3, b4⟩, hc, hval⟩ := X
     have hc1 : c < 18446744073709551616 := by omega
     obtain ⟨yy, cc, bY, bC, hml⟩ := step_ex x1 y0 r1 c HT.out.1.2.1 HT.out.2.1.1 b1 hc1
     have cs := fun w => step_at w x1 y0 r1 c yy cc HT.out.1.2.1 HT.out.2.1.1 b1 hc1 bY hml
     rw [← HT.out.2.2.2.2.2.2.1] at hml
     have hnew : v8P r0 yy r2 r3 r4 0 0 0 + 340282366920938463463374607431768211456 * cc = 0 + 1 * t00 + 18446744073709551616 * t01 + 340282366920938463463374607431768211456 * t02 + 6277101735386680763835789423207666416102355444464034512896 * t03 + 18446744073709551616 * t10 := by
      simp only [v8P] at hval ⊢
      omega
     have HN := Lib.hid (And.intro hnew (And.intro (And.intro b0 (And.intro b1 (And.intro b2 (And.intro b3 b4)))) (And.intro bY bC)))
     have pa : wr.cell? ⟨w.heap.size + 4, 1, none⟩ = some (.int .u64 (r1 : Int)) := BW.cell 1
     have pf := BW.frozen 1
     clear hval hnew hml bY bC hc hc1 b0 b1 b2 b3 b4
     go_wp2_with fail
     refine (cs _).mono ?_
     rintro e u ⟨rfl, rfl⟩
     go_wp2
     obtain ⟨hnew, ⟨b0, b1, b2, b3, b4⟩, bY, bC⟩ := HN.out
     refine ⟨⟨(hb.setCell (by show w.heap.size ≤ w.heap.size + 4; omega) _), (BY.far (by show w.heap.size + 1 ≠ w.heap.size + 4; omega) _), (BL.far (by show w.heap.size + 2 ≠ w.heap.size + 4; omega) _), (BH.far (by show w.heap.size + 3 ≠ w.heap.size + 4; omega) _), Lib.hid (.inr (.inl (⟨rfl, r0, yy, r2, r3, r4, cc, rfl, BW.set_ 1 _, ⟨b0, bY, b2, b3, b4⟩, bC, hnew⟩)))⟩, by decide⟩
    ·clear HI
     obtain ⟨r0, r1, r2, r3, r4, c, rfl, BW, ⟨b0, b1, b2, b3, b4⟩, hc, hval⟩ := X
     have hc1 : c < 18446744073709551616 := by omega
     obtain ⟨yy, cc, bY, bC, hml⟩ := step_ex x1 y1 r2 c HT.out.1.2.1 HT.out.2.1.2.1 b2 hc1
     have cs := fun w => step_at w x1 y1 r2 c yy cc HT.out.1.2.1 HT.out.2.1.2.1 b2 hc1 bY hml
     rw [← HT.out.2.2.2.2.2.2.2.1] at hml
     have hnew : v8P r0 r1 yy r3 r4 0 0 0 + 6277101735386680763835789423207666416102355444464034512896 * cc = 0 + 1 * t00 + 18446744073709551616 * t01 + 340282366920938463463374607431768211456 * t02 + 6277101735386680763835789423207666416102355444464034512896 * t03 + 18446744073709551616 * t10 + 340282366920938463463374607431768211456 * t11 := by
      simp only [v8P] at hval ⊢
      omega
     have HN := Lib.hid (And.intro hnew (And.intro (And.intro b0 (And.intro b1 (And.intro b2 (And.intro b3 b4)))) (And.intro bY bC)))
     have pa : wr.cell? ⟨w.heap.size + 4, 2, none⟩ = some (.int .u64 (r2 : Int)) := BW.cell 2
     have pf := BW.frozen 2
     clear hval hnew hml bY bC hc hc1 b0 b1 b2 b3 b4
     go_wp2_with fail
     refine (cs _).mono ?_
     rintro e u ⟨rfl, rfl⟩
     go_wp2
     obtain ⟨hnew, ⟨b0, b1, b2, b3, b4⟩, bY, bC⟩ := HN.out
     refine ⟨⟨(hb.setCell (by show w.heap.size ≤ w.heap.size + 4; omega) _), (BY.far (by show w.heap.size + 1 ≠ w.heap.size + 4; omega) _), (BL.far (by show w.heap.size + 2 ≠ w.heap.size + 4; omega) _), (BH.far (by show w.heap.size + 3 ≠ w.heap.size + 4; omega) _), Lib.hid (.inr (.inr (.inl (⟨rfl, r0, r1, yy, r3, r4, cc, rfl, BW.set_ 2 _, ⟨b0, b1, bY, b3, b4⟩, bC, hnew⟩))))⟩, by decide⟩
    ·clear HI
     obtain ⟨r0, r1, r2, r3, r4, c, rfl, BW, ⟨b0, b1, b2, b3, b4⟩, hc, hval⟩ := X
     have hc1 : c < 18446744073709551616 := by omega
     obtain ⟨yy, cc, bY, bC, hml⟩ := step_ex x1 y2 r3 c HT.out.1.2.1 HT.out.2.1.2.2.1 b3 hc1
     have cs := fun w => step_at w x1 y2 r3 c yy cc HT.out.1.2.1 HT.out.2.1.2.2.1 b3 hc1 bY hml
     rw [← HT.out.2.2.2.2.2.2.2.2.1] at hml
     have hnew : v8P r0 r1 r2 yy r4 0 0 0 + (2^256) * cc = 0 + 1 * t00 + 18446744073709551616 * t01 + 340282366920938463463374607431768211456 * t02 + 6277101735386680763835789423207666416102355444464034512896 * t03 + 18446744073709551616 * t10 + 340282366920938463463374607431768211456 * t11 + 6277101735386680763835789423207666416102355444464034512896 * t12 := by
      simp only [v8P] at hval ⊢
      omega
     have HN := Lib.hid (And.intro hnew (And.intro (And.intro b0 (And.intro b1 (And.intro b2 (And.intro b3 b4)))) (And.intro bY bC)))
     have pa : wr.cell? ⟨w.heap.size + 4, 3, none⟩ = some (.int .u64 (r3 : Int)) := BW.cell 3
     have pf := BW.frozen 3
     clear hval hnew hml bY bC hc hc1 b0 b1 b2 b3 b4
     go_wp2_with fail
     refine (cs _).mono ?_
     rintro e u ⟨rfl, rfl⟩
     go_wp2
     obtain ⟨hnew, ⟨b0, b1, b2, b3, b4⟩, bY, bC⟩ := HN.out
     refine ⟨⟨(hb.setCell (by show w.heap.size ≤ w.heap.size + 4; omega) _), (BY.far (by show w.heap.size + 1 ≠ w.heap.size + 4; omega) _), (BL.far (by show w.heap.size + 2 ≠ w.heap.size + 4; omega) _), (BH.far (by show w.heap.size + 3 ≠ w.heap.size + 4; omega) _), Lib.hid (.inr (.inr (.inr (.inl (⟨rfl, r0, r1, r2, yy, r4, cc, rfl, BW.set_ 3 _, ⟨b0, b1, b2, bY, b4⟩, bC, hnew⟩)))))⟩, by decide⟩
    ·clear HI
     obtain ⟨r0, r1, r2, r3, r4, c, rfl, BW, ⟨b0, b1, b2, b3, b4⟩, hc, hval⟩ := X
     have hc1 : c < 18446744073709551616 := by omega
     obtain ⟨yy, cc, bY, bC, hml⟩ := step_ex x1 y3 r4 c HT.out.1.2.1 HT.out.2.1.2.2.2 b4 hc1
     have cs := fun w => step_at w x1 y3 r4 c yy cc HT.out.1.2.1 HT.out.2.1.2.2.2 b4 hc1 bY hml
     rw [← HT.out.2.2.2.2.2.2.2.2.2.1] at hml
     have hnew : v8P r0 r1 r2 r3 yy 0 0 0 + 2135987035920910082395021706169552114602704522356652769947041607822219725780640550022962086936576 * cc = 0 + 1 * t00 + 18446744073709551616 * t01 + 340282366920938463463374607431768211456 * t02 + 6277101735386680763835789423207666416102355444464034512896 * t03 + 18446744073709551616 * t10 + 340282366920938463463374607431768211456 * t11 + 6277101735386680763835789423207666416102355444464034512896 * t12 + (2^256) * t13 := by
      simp only [v8P] at hval ⊢
      omega
     have HN := Lib.hid (And.intro hnew (And.intro (And.intro b0 (And.intro b1 (And.intro b2 (And.intro b3 b4)))) (And.intro bY bC)))
     have pa : wr.cell? ⟨w.heap.size + 4, 4, none⟩ = some (.int .u64 (r4 : Int)) := BW.cell 4
     have pf := BW.frozen 4
     clear hval hnew hml bY bC hc hc1 b0 b1 b2 b3 b4
     go_wp2_with fail
     refine (cs _).mono ?_
     rintro e u ⟨rfl, rfl⟩
     go_wp2
     obtain ⟨hnew, ⟨b0, b1, b2, b3, b4⟩, bY, bC⟩ := HN.out
     refine ⟨⟨(hb.setCell (by show w.heap.size ≤ w.heap.size + 4; omega) _), (BY.far (by show w.heap.size + 1 ≠ w.heap.size + 4; omega) _), (BL.far (by show w.heap.size + 2 ≠ w.heap.size + 4; omega) _), (BH.far (by show w.heap.size + 3 ≠ w.heap.size + 4; omega) _), Lib.hid (.inr (.inr (.inr (.inr (⟨rfl, r0, r1, r2, r3, yy, cc, rfl, BW.set_ 4 _, ⟨b0, b1, b2, b3, bY⟩, bC, hnew⟩)))))⟩, by decide⟩
    ·clear HI
     obtain ⟨r0, r1, r2, r3, r4, c, rfl, BW, ⟨b0, b1, b2, b3, b4⟩, hc, hval⟩ := X
     have HV := Lib.hid (And.intro hval hc)
     have HB := Lib.hid (And.intro b0 (And.intro b1 (And.intro b2 (And.intro b3 b4))))
     have pa : wr.cell? ⟨w.heap.size + 4, 5, none⟩ = some (.int .u64 0) := BW.cell 5
     have pf := BW.frozen 5
     clear hval hc b0 b1 b2 b3 b4
     go_wp2
     obtain ⟨b0, b1, b2, b3, b4⟩ := HB.out
     refine ⟨⟨(hb.setCell (by show w.heap.size ≤ w.heap.size + 4; omega) _), (BY.far (by show w.heap.size + 1 ≠ w.heap.size + 4; omega) _), (BL.far (by show w.heap.size + 2 ≠ w.heap.size + 4; omega) _), (BH.far (by show w.heap.size + 3 ≠ w.heap.size + 4; omega) _), Lib.hid (.inr (.inr (.inl (⟨rfl, r0, r1, r2, r3, r4, c, BW.set_ 5 _, ⟨b0, b1, b2, b3, b4, HV.out.2⟩, by have := HV.out.1; simp only [v8P] at this ⊢; omega⟩))))⟩, by decide⟩
  ·clear HI
   obtain ⟨r0, r1, r2, r3, r4, r5, BW, hlt, hval⟩ := X
   have HL := Lib.hid (And.intro hlt hval)
   clear hlt hval
   go_wp2_with (first | ((with_reducible refine here_load (d := some 17) ?_); refine wpList_load_blk rfl _ _ rfl (w.heap.size + 1) rfl _ _ _ BY Tryz.underlying24 rfl (by kernel_rfl) ?_))
   obtain ⟨hlt, hval⟩ := HL.out
   go_loopw [9, 18] (fun cv j wr => Below w.heap.size w wr ∧ Blk wr (w.heap.size + 1) 24 #[.int .u64 (y0 : Int), .int .u64 (y1 : Int), .int .u64 (y2 : Int), .int .u64 (y3 : Int)] ∧ Blk wr (w.heap.size + 2) 24 #[.int .u64 0, .int .u64 0, .int .u64 0, .int .u64 0] ∧ Blk wr (w.heap.size + 3) 24 #[.int .u64 0, .int .u64 0, .int .u64 0, .int .u64 0] ∧ Hid ((j = .int .i64 0 ∧ ∃ r0 r1 r2 r3 r4 r5 c : Nat, cv = .int .u64 (c : Int) ∧ Blk wr (w.heap.size + 4) 194 #[.int .u64 (r0 : Int), .int .u64 (r1 : Int), .int .u64 (r2 : Int), .int .u64 (r3 : Int), .int .u64 (r4 : Int), .int .u64 (r5 : Int), .int .u64 0, .int .u64 0] ∧ (r0 < 18446744073709551616 ∧ r1 < 18446744073709551616 ∧ r2 < 18446744073709551616 ∧ r3 < 18446744073709551616 ∧ r4 < 18446744073709551616 ∧ r5 < 18446744073709551616) ∧ c = 0 ∧ v8P r0 r1 r2 r3 r4 r5 0 0 + 340282366920938463463374607431768211456 * c = 0 + 1 * t00 + 18446744073709551616 * t01 + 340282366920938463463374607431768211456 * t02 + 6277101735386680763835789423207666416102355444464034512896 * t03 + 18446744073709551616 * t10 + 340282366920938463463374607431768211456 * t11 + 6277101735386680763835789423207666416102355444464034512896 * t12 + (2^256) * t13) ∨ (j = .int .i64 1 ∧ ∃ r0 r1 r2 r3 r4 r5 c : Nat, cv = .int .u64 (c : Int) ∧ Blk wr (w.heap.size + 4) 194 #[.int .u64 (r0 : Int), .int .u64 (r1 : Int), .int .u64 (r2 : Int), .int .u64 (r3 : Int), .int .u64 (r4 : Int), .int .u64 (r5 : Int), .int .u64 0, .int .u64 0] ∧ (r0 < 18446744073709551616 ∧ r1 < 18446744073709551616 ∧ r2 < 18446744073709551616 ∧ r3 < 18446744073709551616 ∧ r4 < 18446744073709551616 ∧ r5 < 18446744073709551616) ∧ c < 18446744073709551616 ∧ v8P r0 r1 r2 r3 r4 r5 0 0 + 6277101735386680763835789423207666416102355444464034512896 * c = 0 + 1 * t00 + 18446744073709551616 * t01 + 340282366920938463463374607431768211456 * t02 + 6277101735386680763835789423207666416102355444464034512896 * t03 + 18446744073709551616 * t10 + 340282366920938463463374607431768211456 * t11 + 6277101735386680763835789423207666416102355444464034512896 * t12 + (2^256) * t13 + 340282366920938463463374607431768211456 * t20) ∨ (j = .int .i64 2 ∧ ∃ r0 r1 r2 r3 r4 r5 c : Nat, cv = .int .u64 (c : Int) ∧ Blk wr (w.heap.size + 4) 194 #[.int .u64 (r0 : Int), .int .u64 (r1 : Int), .int .u64 (r2 : Int), .int .u64 (r3 : Int), .int .u64 (r4 : Int), .int .u64 (r5 : Int), .int .u64 0, .int .u64 0] ∧ (r0 < 18446744073709551616 ∧ r1 < 18446744073709551616 ∧ r2 < 18446744073709551616 ∧ r3 < 18446744073709551616 ∧ r4 < 18446744073709551616 ∧ r5 < 18446744073709551616) ∧ c < 18446744073709551616 ∧ v8P r0 r1 r2 r3 r4 r5 0 0 + (2^256) * c = 0 + 1 * t00 + 18446744073709551616 * t01 + 340282366920938463463374607431768211456 * t02 + 6277101735386680763835789423207666416102355444464034512896 * t03 + 18446744073709551616 * t10 + 340282366920938463463374607431768211456 * t11 + 6277101735386680763835789423207666416102355444464034512896 * t12 + (2^256) * t13 + 340282366920938463463374607431768211456 * t20 + 6277101735386680763835789423207666416102355444464034512896 * t21) ∨ (j = .int .i64 3 ∧ ∃ r0 r1 r2 r3 r4 r5 c : Nat, cv = .int .u64 (c : Int) ∧ Blk wr (w.heap.size + 4) 194 #[.int .u64 (r0 : Int), .int .u64 (r1 : Int), .int .u64 (r2 : Int), .int .u64 (r3 : Int), .int .u64 (r4 : Int), .int .u64 (r5 : Int), .int .u64 0, .int .u64 0] ∧ (r0 < 18446744073709551616 ∧ r1 < 18446744073709551616 ∧ r2 < 18446744073709551616 ∧ r3 < 18446744073709551616 ∧ r4 < 18446744073709551616 ∧ r5 < 18446744073709551616) ∧ c < 18446744073709551616 ∧ v8P r0 r1 r2 r3 r4 r5 0 0 + 2135987035920910082395021706169552114602704522356652769947041607822219725780640550022962086936576 * c = 0 + 1 * t00 + 18446744073709551616 * t01 + 340282366920938463463374607431768211456 * t02 + 6277101735386680763835789423207666416102355444464034512896 * t03 + 18446744073709551616 * t10 + 340282366920938463463374607431768211456 * t11 + 6277101735386680763835789423207666416102355444464034512896 * t12 + (2^256) * t13 + 340282366920938463463374607431768211456 * t20 + 6277101735386680763835789423207666416102355444464034512896 * t21 + (2^256) * t22) ∨ (j = .int .i64 4 ∧ ∃ r0 r1 r2 r3 r4 r5 c : Nat, cv = .int .u64 (c : Int) ∧ Blk wr (w.heap.size + 4) 194 #[.int .u64 (r0 : Int), .int .u64 (r1 : Int), .int .u64 (r2 : Int), .int .u64 (r3 : Int), .int .u64 (r4 : Int), .int .u64 (r5 : Int), .int .u64 0, .int .u64 0] ∧ (r0 < 18446744073709551616 ∧ r1 < 18446744073709551616 ∧ r2 < 18446744073709551616 ∧ r3 < 18446744073709551616 ∧ r4 < 18446744073709551616 ∧ r5 < 18446744073709551616) ∧ c < 18446744073709551616 ∧ v8P r0 r1 r2 r3 r4 r5 0 0 + 39402006196394479212279040100143613805079739270465446667948293404245721771497210611414266254884915640806627990306816 * c = 0 + 1 * t00 + 18446744073709551616 * t01 + 340282366920938463463374607431768211456 * t02 + 6277101735386680763835789423207666416102355444464034512896 * t03 + 18446744073709551616 * t10 + 340282366920938463463374607431768211456 * t11 + 6277101735386680763835789423207666416102355444464034512896 * t12 + (2^256) * t13 + 340282366920938463463374607431768211456 * t20 + 6277101735386680763835789423207666416102355444464034512896 * t21 + (2^256) * t22 + 2135987035920910082395021706169552114602704522356652769947041607822219725780640550022962086936576 * t23))) (fun _ j _ => 4 - (intOf j).toNat)
   case atStart => exact ⟨hb, BY, BL, BH, Lib.hid (.inl ⟨rfl, r0, r1, r2, r3, r4, r5, 0, rfl, BW, hlt, rfl, by omega⟩)⟩
   case round =>
    clear hb BY BL BH BW hlt hval HL
    obtain ⟨hb, BY, BL, BH, HI⟩ := hrel
    rcases HI.out with ⟨rfl, X⟩ | ⟨rfl, X⟩ | ⟨rfl, X⟩ | ⟨rfl, X⟩ | ⟨rfl, X⟩
    ·clear HI
     obtain ⟨r0, r1, r2, r3, r4, r5, c, rfl, BW, ⟨b0, b1, b2, b3, b4, b5⟩, hc, hval⟩ := X
     have hc1 : c < 18446744073709551616 := by omega
     obtain ⟨yy, cc, bY, bC, hml⟩ := step_ex x2 y0 r2 c HT.out.1.2.2.1 HT.out.2.1.1 b2 hc1
     have cs := fun w => step_at w x2 y0 r2 c yy cc HT.out.1.2.2.1 HT.out.2.1.1 b2 hc1 bY hml
     rw [← HT.out.2.2.2.2.2.2.2.2.2.2.1] at hml
     have hnew : v8P r0 r1 yy r3 r4 r5 0 0 + 6277101735386680763835789423207666416102355444464034512896 * cc = 0 + 1 * t00 + 18446744073709551616 * t01 + 340282366920938463463374607431768211456 * t02 + 6277101735386680763835789423207666416102355444464034512896 * t03 + 18446744073709551616 * t10 + 340282366920938463463374607431768211456 * t11 + 6277101735386680763835789423207666416102355444464034512896 * t12 + (2^256) * t13 + 340282366920938463463374607431768211456 * t20 := by
      simp only [v8P] at hval ⊢
      omega
     have HN := Lib.hid (And.intro hnew (And.intro (And.intro b0 (And.intro b1 (And.intro b2 (And.intro b3 (And.intro b4 b5))))) (And.intro bY bC)))
     have pa : wr.cell? ⟨w.heap.size + 4, 2, none⟩ = some (.int .u64 (r2 : Int)) := BW.cell 2
     have pf := BW.frozen 2
     clear hval hnew hml bY bC hc hc1 b0 b1 b2 b3 b4 b5
     go_wp2_with fail
     refine (cs _).mono ?_
     rintro e u ⟨rfl, rfl⟩
     go_wp2
     obtain ⟨hnew, ⟨b0, b1, b2, b3, b4, b5⟩, bY, bC⟩ := HN.out
     refine ⟨⟨(hb.setCell (by show w.heap.size ≤ w.heap.size + 4; omega) _), (BY.far (by show w.heap.size + 1 ≠ w.heap.size + 4; omega) _), (BL.far (by show w.heap.size + 2 ≠ w.heap.size + 4; omega) _), (BH.far (by show w.heap.size + 3 ≠ w.heap.size + 4; omega) _), Lib.hid (.inr (.inl (⟨rfl, r0, r1, yy, r3, r4, r5, cc, rfl, BW.set_ 2 _, ⟨b0, b1, bY, b3, b4, b5⟩, bC, hnew⟩)))⟩, by decide⟩
    ·clear HI
     obtain ⟨r0, r1, r2, r3, r4, r5, c, rfl, BW, ⟨b0, b1, b2, b3, b4, b5⟩, hc, hval⟩ := X
     have hc1 : c < 18446744073709551616 := by omega
     obtain ⟨yy, cc, bY, bC, hml⟩ := step_ex x2 y1 r3 c HT.out.1.2.2.1 HT.out.2.1.2.1 b3 hc1
     have cs := fun w => step_at w x2 y1 r3 c yy cc HT.out.1.2.2.1 HT.out.2.1.2.1 b3 hc1 bY hml
     rw [← HT.out.2.2.2.2.2.2.2.2.2.2.2.1] at hml
     have hnew : v8P r0 r1 r2 yy r4 r5 0 0 + (2^256) * cc = 0 + 1 * t00 + 18446744073709551616 * t01 + 340282366920938463463374607431768211456 * t02 + 6277101735386680763835789423207666416102355444464034512896 * t03 + 18446744073709551616 * t10 + 340282366920938463463374607431768211456 * t11 + 6277101735386680763835789423207666416102355444464034512896 * t12 + (2^256) * t13 + 340282366920938463463374607431768211456 * t20 + 6277101735386680763835789423207666416102355444464034512896 * t21 := by
      simp only [v8P] at hval ⊢
      omega
     have HN := Lib.hid (And.intro hnew (And.intro (And.intro b0 (And.intro b1 (And.intro b2 (And.intro b3 (And.intro b4 b5))))) (And.intro bY bC)))
     have pa : wr.cell? ⟨w.heap.size + 4, 3, none⟩ = some (.int .u64 (r3 : Int)) := BW.cell 3
     have pf := BW.frozen 3
     clear hval hnew hml bY bC hc hc1 b0 b1 b2 b3 b4 b5
     go_wp2_with fail
     refine (cs _).mono ?_
     rintro e u ⟨rfl, rfl⟩
     go_wp2
     obtain ⟨hnew, ⟨b0, b1, b2, b3, b4, b5⟩, bY, bC⟩ := HN.out
     refine ⟨⟨(hb.setCell (by show w.heap.size ≤ w.heap.size + 4; omega) _), (BY.far (by show w.heap.size + 1 ≠ w.heap.size + 4; omega) _), (BL.far (by show w.heap.size + 2 ≠ w.heap.size + 4; omega) _), (BH.far (by show w.heap.size + 3 ≠ w.heap.size + 4; omega) _), Lib.hid (.inr (.inr (.inl (⟨rfl, r0, r1, r2, yy, r4, r5, cc, rfl, BW.set_ 3 _, ⟨b0, b1, b2, bY, b4, b5⟩, bC, hnew⟩))))⟩, by decide⟩
    ·clear HI
     obtain ⟨r0, r1, r2, r3, r4, r5, c, rfl, BW, ⟨b0, b1, b2, b3, b4, b5⟩, hc, hval⟩ := X
     have hc1 : c < 18446744073709551616 := by omega
     obtain ⟨yy, cc, bY, bC, hml⟩ := step_ex x2 y2 r4 c HT.out.1.2.2.1 HT.out.2.1.2.2.1 b4 hc1
     have cs := fun w => step_at w x2 y2 r4 c yy cc HT.out.1.2.2.1 HT.out.2.1.2.2.1 b4 hc1 bY hml
     rw [← HT.out.2.2.2.2.2.2.2.2.2.2.2.2.1] at hml
     have hnew : v8P r0 r1 r2 r3 yy r5 0 0 + 2135987035920910082395021706169552114602704522356652769947041607822219725780640550022962086936576 * cc = 0 + 1 * t00 + 18446744073709551616 * t01 + 340282366920938463463374607431768211456 * t02 + 6277101735386680763835789423207666416102355444464034512896 * t03 + 18446744073709551616 * t10 + 340282366920938463463374607431768211456 * t11 + 6277101735386680763835789423207666416102355444464034512896 * t12 + (2^256) * t13 + 340282366920938463463374607431768211456 * t20 + 6277101735386680763835789423207666416102355444464034512896 * t21 + (2^256) * t22 := by
      simp only [v8P] at hval ⊢
      omega
     have HN := Lib.hid (And.intro hnew (And.intro (And.intro b0 (And.intro b1 (And.intro b2 (And.intro b3 (And.intro b4 b5))))) (And.intro bY bC)))
     have pa : wr.cell? ⟨w.heap.size + 4, 4, none⟩ = some (.int .u64 (r4 : Int)) := BW.cell 4
     have pf := BW.frozen 4
     clear hval hnew hml bY bC hc hc1 b0 b1 b2 b3 b4 b5
     go_wp2_with fail
     refine (cs _).mono ?_
     rintro e u ⟨rfl, rfl⟩
     go_wp2
     obtain ⟨hnew, ⟨b0, b1, b2, b3, b4, b5⟩, bY, bC⟩ := HN.out
     refine ⟨⟨(hb.setCell (by show w.heap.size ≤ w.heap.size + 4; omega) _), (BY.far (by show w.heap.size + 1 ≠ w.heap.size + 4; omega) _), (BL.far (by show w.heap.size + 2 ≠ w.heap.size + 4; omega) _), (BH.far (by show w.heap.size + 3 ≠ w.heap.size + 4; omega) _), Lib.hid (.inr (.inr (.inr (.inl (⟨rfl, r0, r1, r2, r3, yy, r5, cc, rfl, BW.set_ 4 _, ⟨b0, b1, b2, b3, bY, b5⟩, bC, hnew⟩)))))⟩, by decide⟩
    ·clear HI
     obtain ⟨r0, r1, r2, r3, r4, r5, c, rfl, BW, ⟨b0, b1, b2, b3, b4, b5⟩, hc, hval⟩ := X
     have hc1 : c < 18446744073709551616 := by omega
     obtain ⟨yy, cc, bY, bC, hml⟩ := step_ex x2 y3 r5 c HT.out.1.2.2.1 HT.out.2.1.2.2.2 b5 hc1
     have cs := fun w => step_at w x2 y3 r5 c yy cc HT.out.1.2.2.1 HT.out.2.1.2.2.2 b5 hc1 bY hml
     rw [← HT.out.2.2.2.2.2.2.2.2.2.2.2.2.2.1] at hml
     have hnew : v8P r0 r1 r2 r3 r4 yy 0 0 + 39402006196394479212279040100143613805079739270465446667948293404245721771497210611414266254884915640806627990306816 * cc = 0 + 1 * t00 + 18446744073709551616 * t01 + 340282366920938463463374607431768211456 * t02 + 6277101735386680763835789423207666416102355444464034512896 * t03 + 18446744073709551616 * t10 + 340282366920938463463374607431768211456 * t11 + 6277101735386680763835789423207666416102355444464034512896 * t12 + (2^256) * t13 + 340282366920938463463374607431768211456 * t20 + 6277101735386680763835789423207666416102355444464034512896 * t21 + (2^256) * t22 + 2135987035920910082395021706169552114602704522356652769947041607822219725780640550022962086936576 * t23 := by
      simp only [v8P] at hval ⊢
      omega
     have HN := Lib.hid (And.intro hnew (And.intro (And.intro b0 (And.intro b1 (And.intro b2 (And.intro b3 (And.intro b4 b5))))) (And.intro bY bC)))
     have pa : wr.cell? ⟨w.heap.size + 4, 5, none⟩ = some (.int .u64 (r5 : Int)) := BW.cell 5
     have pf := BW.frozen 5
     clear hval hnew hml bY bC hc hc1 b0 b1 b2 b3 b4 b5
     go_wp2_with fail
     refine (cs _).mono ?_
     rintro e u ⟨rfl, rfl⟩
     go_wp2
     obtain ⟨hnew, ⟨b0, b1, b2, b3, b4, b5⟩, bY, bC⟩ := HN.out
     refine ⟨⟨(hb.setCell (by show w.heap.size ≤ w.heap.size + 4; omega) _), (BY.far (by show w.heap.size + 1 ≠ w.heap.size + 4; omega) _), (BL.far (by show w.heap.size + 2 ≠ w.heap.size + 4; omega) _), (BH.far (by show w.heap.size + 3 ≠ w.heap.size + 4; omega) _), Lib.hid (.inr (.inr (.inr (.inr (⟨rfl, r0, r1, r2, r3, r4, yy, cc, rfl, BW.set_ 5 _, ⟨b0, b1, b2, b3, b4, bY⟩, bC, hnew⟩)))))⟩, by decide⟩
    ·clear HI
     obtain ⟨r0, r1, r2, r3, r4, r5, c, rfl, BW, ⟨b0, b1, b2, b3, b4, b5⟩, hc, hval⟩ := X
     have HV := Lib.hid (And.intro hval hc)
     have HB := Lib.hid (And.intro b0 (And.intro b1 (And.intro b2 (And.intro b3 (And.intro b4 b5)))))
     have pa : wr.cell? ⟨w.heap.size + 4, 6, none⟩ = some (.int .u64 0) := BW.cell 6
     have pf := BW.frozen 6
     clear hval hc b0 b1 b2 b3 b4 b5
     go_wp2
     obtain ⟨b0, b1, b2, b3, b4, b5⟩ := HB.out
     refine ⟨⟨(hb.setCell (by show w.heap.size ≤ w.heap.size + 4; omega) _), (BY.far (by show w.heap.size + 1 ≠ w.heap.size + 4; omega) _), (BL.far (by show w.heap.size + 2 ≠ w.heap.size + 4; omega) _), (BH.far (by show w.heap.size + 3 ≠ w.heap.size + 4; omega) _), Lib.hid (.inr (.inr (.inr (.inl (⟨rfl, r0, r1, r2, r3, r4, r5, c, BW.set_ 6 _, ⟨b0, b1, b2, b3, b4, b5, HV.out.2⟩, by have := HV.out.1; simp only [v8P] at this ⊢; omega⟩)))))⟩, by decide⟩
  ·clear HI
   obtain ⟨r0, r1, r2, r3, r4, r5, r6, BW, hlt, hval⟩ := X
   have HL := Lib.hid (And.intro hlt hval)
   clear hlt hval
   go_wp2_with (first | ((with_reducible refine here_load (d := some 17) ?_); refine wpList_load_blk rfl _ _ rfl (w.heap.size + 1) rfl _ _ _ BY Tryz.underlying24 rfl (by kernel_rfl) ?_))
   obtain ⟨hlt, hval⟩ := HL.out
   go_loopw [9, 18] (fun cv j wr => Below w.heap.size w wr ∧ Blk wr (w.heap.size + 1) 24 #[.int .u64 (y0 : Int), .int .u64 (y1 : Int), .int .u64 (y2 : Int), .int .u64 (y3 : Int)] ∧ Blk wr (w.heap.size + 2) 24 #[.int .u64 0, .int .u64 0, .int .u64 0, .int .u64 0] ∧ Blk wr (w.heap.size + 3) 24 #[.int .u64 0, .int .u64 0, .int .u64 0, .int .u64 0] ∧ Hid ((j = .int .i64 0 ∧ ∃ r0 r1 r2 r3 r4 r5 r6 c : Nat, cv = .int .u64 (c : Int) ∧ Blk wr (w.heap.size + 4) 194 #[.int .u64 (r0 : Int), .int .u64 (r1 : Int), .int .u64 (r2 : Int), .int .u64 (r3 : Int), .int .u64 (r4 : Int), .int .u64 (r5 : Int), .int .u64 (r6 : Int), .int .u64 0] ∧ (r0 < 18446744073709551616 ∧ r1 < 18446744073709551616 ∧ r2 < 18446744073709551616 ∧ r3 < 18446744073709551616 ∧ r4 < 18446744073709551616 ∧ r5 < 18446744073709551616 ∧ r6 < 18446744073709551616) ∧ c = 0 ∧ v8P r0 r1 r2 r3 r4 r5 r6 0 + 6277101735386680763835789423207666416102355444464034512896 * c = 0 + 1 * t00 + 18446744073709551616 * t01 + 340282366920938463463374607431768211456 * t02 + 6277101735386680763835789423207666416102355444464034512896 * t03 + 18446744073709551616 * t10 + 340282366920938463463374607431768211456 * t11 + 6277101735386680763835789423207666416102355444464034512896 * t12 + (2^256) * t13 + 340282366920938463463374607431768211456 * t20 + 6277101735386680763835789423207666416102355444464034512896 * t21 + (2^256) * t22 + 2135987035920910082395021706169552114602704522356652769947041607822219725780640550022962086936576 * t23) ∨ (j = .int .i64 1 ∧ ∃ r0 r1 r2 r3 r4 r5 r6 c : Nat, cv = .int .u64 (c : Int) ∧ Blk wr (w.heap.size + 4) 194 #[.int .u64 (r0 : Int), .int .u64 (r1 : Int), .int .u64 (r2 : Int), .int .u64 (r3 : Int), .int .u64 (r4 : Int), .int .u64 (r5 : Int), .int .u64 (r6 : Int), .int .u64 0] ∧ (r0 < 18446744073709551616 ∧ r1 < 18446744073709551616 ∧ r2 < 18446744073709551616 ∧ r3 < 18446744073709551616 ∧ r4 < 18446744073709551616 ∧ r5 < 18446744073709551616 ∧ r6 < 18446744073709551616) ∧ c < 18446744073709551616 ∧ v8P r0 r1 r2 r3 r4 r5 r6 0 + (2^256) * c = 0 + 1 * t00 + 18446744073709551616 * t01 + 340282366920938463463374607431768211456 * t02 + 6277101735386680763835789423207666416102355444464034512896 * t03 + 18446744073709551616 * t10 + 340282366920938463463374607431768211456 * t11 + 6277101735386680763835789423207666416102355444464034512896 * t12 + (2^256) * t13 + 340282366920938463463374607431768211456 * t20 + 6277101735386680763835789423207666416102355444464034512896 * t21 + (2^256) * t22 + 2135987035920910082395021706169552114602704522356652769947041607822219725780640550022962086936576 * t23 + 6277101735386680763835789423207666416102355444464034512896 * t30) ∨ (j = .int .i64 2 ∧ ∃ r0 r1 r2 r3 r4 r5 r6 c : Nat, cv = .int .u64 (c : Int) ∧ Blk wr (w.heap.size + 4) 194 #[.int .u64 (r0 : Int), .int .u64 (r1 : Int), .int .u64 (r2 : Int), .int .u64 (r3 : Int), .int .u64 (r4 : Int), .int .u64 (r5 : Int), .int .u64 (r6 : Int), .int .u64 0] ∧ (r0 < 18446744073709551616 ∧ r1 < 18446744073709551616 ∧ r2 < 18446744073709551616 ∧ r3 < 18446744073709551616 ∧ r4 < 18446744073709551616 ∧ r5 < 18446744073709551616 ∧ r6 < 18446744073709551616) ∧ c < 18446744073709551616 ∧ v8P r0 r1 r2 r3 r4 r5 r6 0 + 2135987035920910082395021706169552114602704522356652769947041607822219725780640550022962086936576 * c = 0 + 1 * t00 + 18446744073709551616 * t01 + 340282366920938463463374607431768211456 * t02 + 6277101735386680763835789423207666416102355444464034512896 * t03 + 18446744073709551616 * t10 + 340282366920938463463374607431768211456 * t11 + 6277101735386680763835789423207666416102355444464034512896 * t12 + (2^256) * t13 + 340282366920938463463374607431768211456 * t20 + 6277101735386680763835789423207666416102355444464034512896 * t21 + (2^256) * t22 + 2135987035920910082395021706169552114602704522356652769947041607822219725780640550022962086936576 * t23 + 6277101735386680763835789423207666416102355444464034512896 * t30 + (2^256) * t31) ∨ (j = .int .i64 3 ∧ ∃ r0 r1 r2 r3 r4 r5 r6 c : Nat, cv = .int .u64 (c : Int) ∧ Blk wr (w.heap.size + 4) 194 #[.int .u64 (r0 : Int), .int .u64 (r1 : Int), .int .u64 (r2 : Int), .int .u64 (r3 : Int), .int .u64 (r4 : Int), .int .u64 (r5 : Int), .int .u64 (r6 : Int), .int .u64 0] ∧ (r0 < 18446744073709551616 ∧ r1 < 18446744073709551616 ∧ r2 < 18446744073709551616 ∧ r3 < 18446744073709551616 ∧ r4 < 18446744073709551616 ∧ r5 < 18446744073709551616 ∧ r6 < 18446744073709551616) ∧ c < 18446744073709551616 ∧ v8P r0 r1 r2 r3 r4 r5 r6 0 + 39402006196394479212279040100143613805079739270465446667948293404245721771497210611414266254884915640806627990306816 * c = 0 + 1 * t00 + 18446744073709551616 * t01 + 340282366920938463463374607431768211456 * t02 + 6277101735386680763835789423207666416102355444464034512896 * t03 + 18446744073709551616 * t10 + 340282366920938463463374607431768211456 * t11 + 6277101735386680763835789423207666416102355444464034512896 * t12 + (2^256) * t13 + 340282366920938463463374607431768211456 * t20 + 6277101735386680763835789423207666416102355444464034512896 * t21 + (2^256) * t22 + 2135987035920910082395021706169552114602704522356652769947041607822219725780640550022962086936576 * t23 + 6277101735386680763835789423207666416102355444464034512896 * t30 + (2^256) * t31 + 2135987035920910082395021706169552114602704522356652769947041607822219725780640550022962086936576 * t32) ∨ (j = .int .i64 4 ∧ ∃ r0 r1 r2 r3 r4 r5 r6 c : Nat, cv = .int .u64 (c : Int) ∧ Blk wr (w.heap.size + 4) 194 #[.int .u64 (r0 : Int), .int .u64 (r1 : Int), .int .u64 (r2 : Int), .int .u64 (r3 : Int), .int .u64 (r4 : Int), .int .u64 (r5 : Int), .int .u64 (r6 : Int), .int .u64 0] ∧ (r0 < 18446744073709551616 ∧ r1 < 18446744073709551616 ∧ r2 < 18446744073709551616 ∧ r3 < 18446744073709551616 ∧ r4 < 18446744073709551616 ∧ r5 < 18446744073709551616 ∧ r6 < 18446744073709551616) ∧ c < 18446744073709551616 ∧ v8P r0 r1 r2 r3 r4 r5 r6 0 + 726838724295606890549323807888004534353641360687318060281490199180639288113397923326191050713763565560762521606266177933534601628614656 * c = 0 + 1 * t00 + 18446744073709551616 * t01 + 340282366920938463463374607431768211456 * t02 + 6277101735386680763835789423207666416102355444464034512896 * t03 + 18446744073709551616 * t10 + 340282366920938463463374607431768211456 * t11 + 6277101735386680763835789423207666416102355444464034512896 * t12 + (2^256) * t13 + 340282366920938463463374607431768211456 * t20 + 6277101735386680763835789423207666416102355444464034512896 * t21 + (2^256) * t22 + 2135987035920910082395021706169552114602704522356652769947041607822219725780640550022962086936576 * t23 + 6277101735386680763835789423207666416102355444464034512896 * t30 + (2^256) * t31 + 2135987035920910082395021706169552114602704522356652769947041607822219725780640550022962086936576 * t32 + 39402006196394479212279040100143613805079739270465446667948293404245721771497210611414266254884915640806627990306816 * t33))) (fun _ j _ => 4 - (intOf j).toNat)
   case atStart => exact ⟨hb, BY, BL, BH, Lib.hid (.inl ⟨rfl, r0, r1, r2, r3, r4, r5, r6, 0, rfl, BW, hlt, rfl, by omega⟩)⟩
   case round =>
    clear hb BY BL BH BW hlt hval HL
    obtain ⟨hb, BY, BL, BH, HI⟩ := hrel
    rcases HI.out with ⟨rfl, X⟩ | ⟨rfl, X⟩ | ⟨rfl, X⟩ | ⟨rfl, X⟩ | ⟨rfl, X⟩
    ·clear HI
     obtain ⟨r0, r1, r2, r3, r4, r5, r6, c, rfl, BW, ⟨b0, b1, b2, b3, b4, b5, b6⟩, hc, hval⟩ := X
     have hc1 : c < 18446744073709551616 := by omega
     obtain ⟨yy, cc, bY, bC, hml⟩ := step_ex x3 y0 r3 c HT.out.1.2.2.2 HT.out.2.1.1 b3 hc1
     have cs := fun w => step_at w x3 y0 r3 c yy cc HT.out.1.2.2.2 HT.out.2.1.1 b3 hc1 bY hml
     rw [← HT.out.2.2.2.2.2.2.2.2.2.2.2.2.2.2.1] at hml
     have hnew : v8P r0 r1 r2 yy r4 r5 r6 0 + (2^256) * cc = 0 + 1 * t00 + 18446744073709551616 * t01 + 340282366920938463463374607431768211456 * t02 + 6277101735386680763835789423207666416102355444464034512896 * t03 + 18446744073709551616 * t10 + 340282366920938463463374607431768211456 * t11 + 6277101735386680763835789423207666416102355444464034512896 * t12 + (2^256) * t13 + 340282366920938463463374607431768211456 * t20 + 6277101735386680763835789423207666416102355444464034512896 * t21 + (2^256) * t22 + 2135987035920910082395021706169552114602704522356652769947041607822219725780640550022962086936576 * t23 + 6277101735386680763835789423207666416102355444464034512896 * t30 := by
      simp only [v8P] at hval ⊢
      omega
     have HN := Lib.hid (And.intro hnew (And.intro (And.intro b0 (And.intro b1 (And.intro b2 (And.intro b3 (And.intro b4 (And.intro b5 b6)))))) (And.intro bY bC)))
     have pa : wr.cell? ⟨w.heap.size + 4, 3, none⟩ = some (.int .u64 (r3 : Int)) := BW.cell 3
     have pf := BW.frozen 3
     clear hval hnew hml bY bC hc hc1 b0 b1 b2 b3 b4 b5 b6
     go_wp2_with fail
     refine (cs _).mono ?_
     rintro e u ⟨rfl, rfl⟩
     go_wp2
     obtain ⟨hnew, ⟨b0, b1, b2, b3, b4, b5, b6⟩, bY, bC⟩ := HN.out
     refine ⟨⟨(hb.setCell (by show w.heap.size ≤ w.heap.size + 4; omega) _), (BY.far (by show w.heap.size + 1 ≠ w.heap.size + 4; omega) _), (BL.far (by show w.heap.size + 2 ≠ w.heap.size + 4; omega) _), (BH.far (by show w.heap.size + 3 ≠ w.heap.size + 4; omega) _), Lib.hid (.inr (.inl (⟨rfl, r0, r1, r2, yy, r4, r5, r6, cc, rfl, BW.set_ 3 _, ⟨b0, b1, b2, bY, b4, b5, b6⟩, bC, hnew⟩)))⟩, by decide⟩
    ·clear HI
     obtain ⟨r0, r1, r2, r3, r4, r5, r6, c, rfl, BW, ⟨b0, b1, b2, b3, b4, b5, b6⟩, hc, hval⟩ := X
     have hc1 : c < 18446744073709551616 := by omega
     obtain ⟨yy, cc, bY, bC, hml⟩ := step_ex x3 y1 r4 c HT.out.1.2.2.2 HT.out.2.1.2.1 b4 hc1
     have cs := fun w => step_at w x3 y1 r4 c yy cc HT.out.1.2.2.2 HT.out.2.1.2.1 b4 hc1 bY hml
     rw [← HT.out.2.2.2.2.2.2.2.2.2.2.2.2.2.2.2.1] at hml
     have hnew : v8P r0 r1 r2 r3 yy r5 r6 0 + 2135987035920910082395021706169552114602704522356652769947041607822219725780640550022962086936576 * cc = 0 + 1 * t00 + 18446744073709551616 * t01 + 340282366920938463463374607431768211456 * t02 + 6277101735386680763835789423207666416102355444464034512896 * t03 + 18446744073709551616 * t10 + 340282366920938463463374607431768211456 * t11 + 6277101735386680763835789423207666416102355444464034512896 * t12 + (2^256) * t13 + 340282366920938463463374607431768211456 * t20 + 6277101735386680763835789423207666416102355444464034512896 * t21 + (2^256) * t22 + 2135987035920910082395021706169552114602704522356652769947041607822219725780640550022962086936576 * t23 + 6277101735386680763835789423207666416102355444464034512896 * t30 + (2^256) * t31 := by
      simp only [v8P] at hval ⊢
      omega
     have HN := Lib.hid (And.intro hnew (And.intro (And.intro b0 (And.intro b1 (And.intro b2 (And.intro b3 (And.intro b4 (And.intro b5 b6)))))) (And.intro bY bC)))
     have pa : wr.cell? ⟨w.heap.size + 4, 4, none⟩ = some (.int .u64 (r4 : Int)) := BW.cell 4
     have pf := BW.frozen 4
     clear hval hnew hml bY bC hc hc1 b0 b1 b2 b3 b4 b5 b6
     go_wp2_with fail
     refine (cs _).mono ?_
     rintro e u ⟨rfl, rfl⟩
     go_wp2
     obtain ⟨hnew, ⟨b0, b1, b2, b3, b4, b5, b6⟩, bY, bC⟩ := HN.out
     refine ⟨⟨(hb.setCell (by show w.heap.size ≤ w.heap.size + 4; omega) _), (BY.far (by show w.heap.size + 1 ≠ w.heap.size + 4; omega) _), (BL.far (by show w.heap.size + 2 ≠ w.heap.size + 4; omega) _), (BH.far (by show w.heap.size + 3 ≠ w.heap.size + 4; omega) _), Lib.hid (.inr (.inr (.inl (⟨rfl, r0, r1, r2, r3, yy, r5, r6, cc, rfl, BW.set_ 4 _, ⟨b0, b1, b2, b3, bY, b5, b6⟩, bC, hnew⟩))))⟩, by decide⟩
    ·clear HI
     obtain ⟨r0, r1, r2, r3, r4, r5, r6, c, rfl, BW, ⟨b0, b1, b2, b3, b4, b5, b6⟩, hc, hval⟩ := X
     have hc1 : c < 18446744073709551616 := by omega
     obtain ⟨yy, cc, bY, bC, hml⟩ := step_ex x3 y2 r5 c HT.out.1.2.2.2 HT.out.2.1.2.2.1 b5 hc1
     have cs := fun w => step_at w x3 y2 r5 c yy cc HT.out.1.2.2.2 HT.out.2.1.2.2.1 b5 hc1 bY hml
     rw [← HT.out.2.2.2.2.2.2.2.2.2.2.2.2.2.2.2.2.1] at hml
     have hnew : v8P r0 r1 r2 r3 r4 yy r6 0 + 39402006196394479212279040100143613805079739270465446667948293404245721771497210611414266254884915640806627990306816 * cc = 0 + 1 * t00 + 18446744073709551616 * t01 + 340282366920938463463374607431768211456 * t02 + 6277101735386680763835789423207666416102355444464034512896 * t03 + 18446744073709551616 * t10 + 340282366920938463463374607431768211456 * t11 + 6277101735386680763835789423207666416102355444464034512896 * t12 + (2^256) * t13 + 340282366920938463463374607431768211456 * t20 + 6277101735386680763835789423207666416102355444464034512896 * t21 + (2^256) * t22 + 2135987035920910082395021706169552114602704522356652769947041607822219725780640550022962086936576 * t23 + 6277101735386680763835789423207666416102355444464034512896 * t30 + (2^256) * t31 + 2135987035920910082395021706169552114602704522356652769947041607822219725780640550022962086936576 * t32 := by
      simp only [v8P] at hval ⊢
      omega
     have HN := Lib.hid (And.intro hnew (And.intro (And.intro b0 (And.intro b1 (And.intro b2 (And.intro b3 (And.intro b4 (And.intro b5 b6)))))) (And.intro bY bC)))
     have pa : wr.cell? ⟨w.heap.size + 4, 5, none⟩ = some (.int .u64 (r5 : Int)) := BW.cell 5
     have pf := BW.frozen 5
     clear hval hnew hml bY bC hc hc1 b0 b1 b2 b3 b4 b5 b6
     go_wp2_with fail
     refine (cs _).mono ?_
     rintro e u ⟨rfl, rfl⟩
     go_wp2
     obtain ⟨hnew, ⟨b0, b1, b2, b3, b4, b5, b6⟩, bY, bC⟩ := HN.out
     refine ⟨⟨(hb.setCell (by show w.heap.size ≤ w.heap.size + 4; omega) _), (BY.far (by show w.heap.size + 1 ≠ w.heap.size + 4; omega) _), (BL.far (by show w.heap.size + 2 ≠ w.heap.size + 4; omega) _), (BH.far (by show w.heap.size + 3 ≠ w.heap.size + 4; omega) _), Lib.hid (.inr (.inr (.inr (.inl (⟨rfl, r0, r1, r2, r3, r4, yy, r6, cc, rfl, BW.set_ 5 _, ⟨b0, b1, b2, b3, b4, bY, b6⟩, bC, hnew⟩)))))⟩, by decide⟩
    ·clear HI
     obtain ⟨r0, r1, r2, r3, r4, r5, r6, c, rfl, BW, ⟨b0, b1, b2, b3, b4, b5, b6⟩, hc, hval⟩ := X
     have hc1 : c < 18446744073709551616 := by omega
     obtain ⟨yy, cc, bY, bC, hml⟩ := step_ex x3 y3 r6 c HT.out.1.2.2.2 HT.out.2.1.2.2.2 b6 hc1
     have cs := fun w => step_at w x3 y3 r6 c yy cc HT.out.1.2.2.2 HT.out.2.1.2.2.2 b6 hc1 bY hml
     rw [← HT.out.2.2.2.2.2.2.2.2.2.2.2.2.2.2.2.2.2.1] at hml
     have hnew : v8P r0 r1 r2 r3 r4 r5 yy 0 + 726838724295606890549323807888004534353641360687318060281490199180639288113397923326191050713763565560762521606266177933534601628614656 * cc = 0 + 1 * t00 + 18446744073709551616 * t01 + 340282366920938463463374607431768211456 * t02 + 6277101735386680763835789423207666416102355444464034512896 * t03 + 18446744073709551616 * t10 + 340282366920938463463374607431768211456 * t11 + 6277101735386680763835789423207666416102355444464034512896 * t12 + (2^256) * t13 + 340282366920938463463374607431768211456 * t20 + 6277101735386680763835789423207666416102355444464034512896 * t21 + (2^256) * t22 + 2135987035920910082395021706169552114602704522356652769947041607822219725780640550022962086936576 * t23 + 6277101735386680763835789423207666416102355444464034512896 * t30 + (2^256) * t31 + 2135987035920910082395021706169552114602704522356652769947041607822219725780640550022962086936576 * t32 + 39402006196394479212279040100143613805079739270465446667948293404245721771497210611414266254884915640806627990306816 * t33 := by
      simp only [v8P] at hval ⊢
      omega
     have HN := Lib.hid (And.intro hnew (And.intro (And.intro b0 (And.intro b1 (And.intro b2 (And.intro b3 (And.intro b4 (And.intro b5 b6)))))) (And.intro bY bC)))
     have pa : wr.cell? ⟨w.heap.size + 4, 6, none⟩ = some (.int .u64 (r6 : Int)) := BW.cell 6
     have pf := BW.frozen 6
     clear hval hnew hml bY bC hc hc1 b0 b1 b2 b3 b4 b5 b6
     go_wp2_with fail
     refine (cs _).mono ?_
     rintro e u ⟨rfl, rfl⟩
     go_wp2
     obtain ⟨hnew, ⟨b0, b1, b2, b3, b4, b5, b6⟩, bY, bC⟩ := HN.out
     refine ⟨⟨(hb.setCell (by show w.heap.size ≤ w.heap.size + 4; omega) _), (BY.far (by show w.heap.size + 1 ≠ w.heap.size + 4; omega) _), (BL.far (by show w.heap.size + 2 ≠ w.heap.size + 4; omega) _), (BH.far (by show w.heap.size + 3 ≠ w.heap.size + 4; omega) _), Lib.hid (.inr (.inr (.inr (.inr (⟨rfl, r0, r1, r2, r3, r4, r5, yy, cc, rfl, BW.set_ 6 _, ⟨b0, b1, b2, b3, b4, b5, bY⟩, bC, hnew⟩)))))⟩, by decide⟩
    ·clear HI
     obtain ⟨r0, r1, r2, r3, r4, r5, r6, c, rfl, BW, ⟨b0, b1, b2, b3, b4, b5, b6⟩, hc, hval⟩ := X
     have HV := Lib.hid (And.intro hval hc)
     have HB := Lib.hid (And.intro b0 (And.intro b1 (And.intro b2 (And.intro b3 (And.intro b4 (And.intro b5 b6))))))
     have pa : wr.cell? ⟨w.heap.size + 4, 7, none⟩ = some (.int .u64 0) := BW.cell 7
     have pf := BW.frozen 7
     clear hval hc b0 b1 b2 b3 b4 b5 b6
     go_wp2
     obtain ⟨b0, b1, b2, b3, b4, b5, b6⟩ := HB.out
     refine ⟨⟨(hb.setCell (by show w.heap.size ≤ w.heap.size + 4; omega) _), (BY.far (by show w.heap.size + 1 ≠ w.heap.size + 4; omega) _), (BL.far (by show w.heap.size + 2 ≠ w.heap.size + 4; omega) _), (BH.far (by show w.heap.size + 3 ≠ w.heap.size + 4; omega) _), Lib.hid (.inr (.inr (.inr (.inr (⟨rfl, r0, r1, r2, r3, r4, r5, r6, c, BW.set_ 7 _, ⟨b0, b1, b2, b3, b4, b5, b6, HV.out.2⟩, by have := HV.out.1; simp only [v8P] at this ⊢; omega⟩)))))⟩, by decide⟩
  ·clear HI
   obtain ⟨r0, r1, r2, r3, r4, r5, r6, r7, BW, hlt, hval⟩ := X
   have cf := Lib.hid (cF r0 r1 r2 r3 r4 r5 r6 r7 hlt hval)
   have lW := BW.lt
   have q0 : wr.cell? ⟨w.heap.size + 4, 0, none⟩ = some (.int .u64 (r0 : Int)) := BW.cell 0
   have q1 : wr.cell? ⟨w.heap.size + 4, 1, none⟩ = some (.int .u64 (r1 : Int)) := BW.cell 1
   have q2 : wr.cell? ⟨w.heap.size + 4, 2, none⟩ = some (.int .u64 (r2 : Int)) := BW.cell 2
   have q3 : wr.cell? ⟨w.heap.size + 4, 3, none⟩ = some (.int .u64 (r3 : Int)) := BW.cell 3
   have q4 : wr.cell? ⟨w.heap.size + 4, 4, none⟩ = some (.int .u64 (r4 : Int)) := BW.cell 4
   have q5 : wr.cell? ⟨w.heap.size + 4, 5, none⟩ = some (.int .u64 (r5 : Int)) := BW.cell 5
   have q6 : wr.cell? ⟨w.heap.size + 4, 6, none⟩ = some (.int .u64 (r6 : Int)) := BW.cell 6
   have q7 : wr.cell? ⟨w.heap.size + 4, 7, none⟩ = some (.int .u64 (r7 : Int)) := BW.cell 7
   obtain ⟨V, hV⟩ : ∃ V : List (Nat × Obj), V = [(w.heap.size + 2, .cells #[.int .u64 (r0 : Int), .int .u64 (r1 : Int), .int .u64 (r2 : Int), .int .u64 (r3 : Int)] 24), (w.heap.size + 3, .cells #[.int .u64 (r4 : Int), .int .u64 (r5 : Int), .int .u64 (r6 : Int), .int .u64 (r7 : Int)] 24)] := ⟨_, rfl⟩
   have hf : V.all (fun x => x.1 != w.heap.size + 4) = true := by rw [hV]; simp
   have hm1 : (w.heap.size + 2, Obj.cells #[.int .u64 (r0 : Int), .int .u64 (r1 : Int), .int .u64 (r2 : Int), .int .u64 (r3 : Int)] 24) ∈ V := by rw [hV]; simp
   have hm2 : (w.heap.size + 3, Obj.cells #[.int .u64 (r4 : Int), .int .u64 (r5 : Int), .int .u64 (r6 : Int), .int .u64 (r7 : Int)] 24) ∈ V := by rw [hV]; simp
   have hv1 : ∀ o, (w.heap.size + 2, o) ∈ V → o = Obj.cells #[.int .u64 (r0 : Int), .int .u64 (r1 : Int), .int .u64 (r2 : Int), .int .u64 (r3 : Int)] 24 := by rw [hV]; intro o h; simpa using h
   have hv2 : ∀ o, (w.heap.size + 3, o) ∈ V → o = Obj.cells #[.int .u64 (r4 : Int), .int .u64 (r5 : Int), .int .u64 (r6 : Int), .int .u64 (r7 : Int)] 24 := by rw [hV]; intro o h; simpa using h
   have hs1 : ∀ o, (w.heap.size + 2, o) ∈ V → ∃ c : Array Value, o = .cells c 24 ∧ c.size = 4 := fun o h => ⟨_, hv1 o h, rfl⟩
   have hs2 : ∀ o, (w.heap.size + 3, o) ∈ V → ∃ c : Array Value, o = .cells c 24 ∧ c.size = 4 := fun o h => ⟨_, hv2 o h, rfl⟩
   have hbe : ∀ x ∈ V, w.heap.size ≤ x.1 := by rw [hV]; intro x h; simp at h; rcases h with rfl | rfl <;> simp
   clear cF hlt hval BY hV HT ix0 ix1 ix2 ix3 iy0 iy1 iy2 iy3 BW
   go_wp2
   refine wp_region_V V (by kernel_rfl) ?_
   try simp only [Act.put]
   refine wpAnyV_take 0 rfl (by kernel_rfl) (fun _ _ _ h => h) (YieldsV.pure (by rfl) (fun w9 _ => by go_simp; try with_reducible rfl)) ?_
   try simp only [Act.put, aA, aZ, aS]
   refine wpAnyV_take 1 rfl (by kernel_rfl) (fun _ _ _ h => h) (YieldsV.pure (v := .int .u64 (r0 : Int)) (by rfl) (fun w9 h9 => by have hz := (GrV.cell (p := ⟨w.heap.size + 4, 0, none⟩) h9 lW hf).trans q0; go_simp; first | done | simp [hz])) ?_
   try simp only [Act.put, aA, aZ, aS]
   refine wpAnyV_take 2 rfl (by kernel_rfl) (fun _ _ _ h => h) (YieldsV.pure (by rfl) (fun w9 _ => by go_simp; try with_reducible rfl)) ?_
   try simp only [Act.put, aA, aZ, aS]
   refine wpAnyV_take 3 rfl (by kernel_rfl) (fun _ _ _ h => h) (YieldsV.pure (v := .int .u64 (r1 : Int)) (by rfl) (fun w9 h9 => by have hz := (GrV.cell (p := ⟨w.heap.size + 4, 1, none⟩) h9 lW hf).trans q1; go_simp; first | done | simp [hz])) ?_
   try simp only [Act.put, aA, aZ, aS]
   refine wpAnyV_take 4 rfl (by kernel_rfl) (fun _ _ _ h => h) (YieldsV.pure (by rfl) (fun w9 _ => by go_simp; try with_reducible rfl)) ?_
   try simp only [Act.put, aA, aZ, aS]
   refine wpAnyV_take 5 rfl (by kernel_rfl) (fun _ _ _ h => h) (YieldsV.pure (v := .int .u64 (r2 : Int)) (by rfl) (fun w9 h9 => by have hz := (GrV.cell (p := ⟨w.heap.size + 4, 2, none⟩) h9 lW hf).trans q2; go_simp; first | done | simp [hz])) ?_
   try simp only [Act.put, aA, aZ, aS]
   refine wpAnyV_take 6 rfl (by kernel_rfl) (fun _ _ _ h => h) (YieldsV.pure (by rfl) (fun w9 _ => by go_simp; try with_reducible rfl)) ?_
   try simp only [Act.put, aA, aZ, aS]
   refine wpAnyV_take 7 rfl (by kernel_rfl) (fun _ _ _ h => h) (YieldsV.pure (v := .int .u64 (r3 : Int)) (by rfl) (fun w9 h9 => by have hz := (GrV.cell (p := ⟨w.heap.size + 4, 3, none⟩) h9 lW hf).trans q3; go_simp; first | done | simp [hz])) ?_
   try simp only [Act.put, aA, aZ, aS]
   refine wpAnyV_take 8 rfl (by kernel_rfl) (fun _ _ _ h => h) (YieldsV.pure (by rfl) (fun w9 _ => by go_simp; try with_reducible rfl)) ?_
   try simp only [Act.put, aA, aZ, aS]
   refine wpAnyV_take 9 rfl (by kernel_rfl) (fun _ _ _ h => h) (YieldsV.pure (by rfl) (fun w9 _ => by go_simp; try with_reducible rfl)) ?_
   try simp only [Act.put, aA, aZ, aS]
   refine wpAnyV_take 10 rfl (by kernel_rfl) (fun _ _ _ h => h) (YieldsV.pure (v := .int .u64 (r4 : Int)) (by rfl) (fun w9 h9 => by have hz := (GrV.cell (p := ⟨w.heap.size + 4, 4, none⟩) h9 lW hf).trans q4; go_simp; first | done | simp [hz])) ?_
   try simp only [Act.put, aA, aZ, aS]
   refine wpAnyV_take 11 rfl (by kernel_rfl) (fun _ _ _ h => h) (YieldsV.pure (by rfl) (fun w9 _ => by go_simp; try with_reducible rfl)) ?_
   try simp only [Act.put, aA, aZ, aS]
   refine wpAnyV_take 12 rfl (by kernel_rfl) (fun _ _ _ h => h) (YieldsV.pure (v := .int .u64 (r5 : Int)) (by rfl) (fun w9 h9 => by have hz := (GrV.cell (p := ⟨w.heap.size + 4, 5, none⟩) h9 lW hf).trans q5; go_simp; first | done | simp [hz])) ?_
   try simp only [Act.put, aA, aZ, aS]
   refine wpAnyV_take 13 rfl (by kernel_rfl) (fun _ _ _ h => h) (YieldsV.pure (by rfl) (fun w9 _ => by go_simp; try with_reducible rfl)) ?_
   try simp only [Act.put, aA, aZ, aS]
   refine wpAnyV_take 14 rfl (by kernel_rfl) (fun _ _ _ h => h) (YieldsV.pure (v := .int .u64 (r6 : Int)) (by rfl) (fun w9 h9 => by have hz := (GrV.cell (p := ⟨w.heap.size + 4, 6, none⟩) h9 lW hf).trans q6; go_simp; first | done | simp [hz])) ?_
   try simp only [Act.put, aA, aZ, aS]
   refine wpAnyV_take 15 rfl (by kernel_rfl) (fun _ _ _ h => h) (YieldsV.pure (by rfl) (fun w9 _ => by go_simp; try with_reducible rfl)) ?_
   try simp only [Act.put, aA, aZ, aS]
   refine wpAnyV_take 16 rfl (by kernel_rfl) (fun _ _ _ h => h) (YieldsV.pure (v := .int .u64 (r7 : Int)) (by rfl) (fun w9 h9 => by have hz := (GrV.cell (p := ⟨w.heap.size + 4, 7, none⟩) h9 lW hf).trans q7; go_simp; first | done | simp [hz])) ?_
   try simp only [Act.put, aA, aZ, aS]
   refine wpAnyV_take 17 rfl (by kernel_rfl) (fun _ _ _ h => h) (YieldsV.pure (by rfl) (fun w9 _ => by go_simp; try with_reducible rfl)) ?_
   try simp only [Act.put, aA, aZ, aS]
   refine wpAnyV_store 18 rfl (by kernel_rfl) (by rfl) _ _ _ rfl (w.heap.size + 2) (#[.int .u64 (r0 : Int), .int .u64 (r1 : Int), .int .u64 (r2 : Int), .int .u64 (r3 : Int)]) rfl rfl _ hm1 (fun w1 h1 => h1.some (n := 4) BL rfl hs1) (by kernel_rfl) (by simp [Value.oneCell']) (fun u1 g1 v1 hB1 hL1 => ?_)
   try simp only [Act.put]
   refine wpAnyV_store 19 rfl (by kernel_rfl) (by rfl) _ _ _ rfl (w.heap.size + 3) (#[.int .u64 (r4 : Int), .int .u64 (r5 : Int), .int .u64 (r6 : Int), .int .u64 (r7 : Int)]) rfl rfl _ hm2 (fun w1 h1 => ((g1.trans hB1).trans h1).some (n := 4) BH rfl hs2) (by kernel_rfl) (by simp [Value.oneCell']) (fun u2 g2 v2 hB2 hL2 => ?_)
   try simp only [Act.put]
   refine wpAnyV_done (by kernel_rfl) (fun v hv => ?_)
   have f1 := GrV.done ((g2.trans hB2).trans hv) hL1 hv1
   have f2 := hv.done hL2 hv2
   have hbz := hb.trans ((((g1.trans hB1).trans g2).trans hB2).trans hv |>.below hb.size hbe)
   clear hv g1 g2 hB1 hB2
   go_wp2
   exact bodyPost_ret (res_two_cells rfl _ _ (w.heap.size + 2) (w.heap.size + 3) _ _ _ _ _ _ rfl f1 rfl f2 Tryz.underlying24 rfl (by kernel_rfl) Tryz.underlying24 rfl (by kernel_rfl)) rfl ⟨by rw [cf.out.1, cf.out.2], hbz⟩
end Go.Proofs.YtfhcpdbahbbmaaaGreatDoor.Sc

end
