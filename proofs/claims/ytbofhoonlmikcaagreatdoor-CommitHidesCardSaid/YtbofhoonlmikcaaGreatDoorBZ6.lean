/-
  Texts of ours, put together: CrvV, ScBase, ScOps, ScEq, CrvF, CrvG, EqB, CurveAlive, ComV, RefNumber, CrvE, CrvH, CurveBackL, GenM, GenP, GenR, ScFold, ScRefAdd, ScRefMul, CrvY.
-/
import Derived.Test.YtbofhoonlmikcaaGreatDoorBZ5
set_option linter.unusedVariables false
set_option linter.unusedSimpArgs false
section
namespace Go.Proofs.YtbofhoonlmikcaaGreatDoor.Cu
open Go.RowKit Go.Proofs.YtbofhoonlmikcaaGreatDoor Go.Proofs.YtbofhoonlmikcaaGreatDoor.Sy
set_option maxRecDepth 100000
set_option maxHeartbeats 4000000

def bt (j : Nat) : Nat := 9223372036854775808 / 2 ^ j
theorem bt_next (j : Nat) : bt j / 2 = bt (j + 1) := by unfold bt; rw [Nat.div_div_eq_div_mul, Nat.pow_succ]
theorem bt_le (j : Nat) : bt j < 18446744073709551616 := Nat.lt_of_le_of_lt (Nat.div_le_self _ _) (by decide)
theorem bt_is {j : Nat} (h : j < 64) : bt j = 2 ^ (63 - j) := by
  unfold bt
  rw [show (9223372036854775808 : Nat) = 2 ^ (63 - j) * 2 ^ j by rw [← Nat.pow_add, show 63 - j + j = 63 by omega], Nat.mul_div_cancel _ (Nat.two_pow_pos j)]
theorem bt_pos (j : Nat) : 0 < bt j ↔ j < 64 := by
  constructor
  · intro h
    rcases Nat.lt_or_ge j 64 with hl | hl
    · exact hl
    · exfalso
      unfold bt at h
      rw [Nat.div_eq_of_lt (Nat.lt_of_lt_of_le (show 9223372036854775808 < 2 ^ 64 by decide) (Nat.pow_le_pow_right (by decide) hl))] at h
      omega
  · intro h
    rw [bt_is h]
    exact Nat.two_pow_pos _
theorem and_bt (z j : Nat) (hj : j < 64) : (z &&& bt j ≠ 0) ↔ z / 2 ^ (63 - j) % 2 = 1 := by
  rw [bt_is hj]
  have e : z.testBit (63 - j) = decide (z / 2 ^ (63 - j) % 2 = 1) := Nat.testBit_eq_decide_div_mod_eq
  generalize 63 - j = i at e ⊢
  by_cases h : z / 2 ^ i % 2 = 1
  · refine ⟨fun _ => h, fun _ h0 => ?_⟩
    have h1 := congrArg (fun t => t.testBit i) h0
    simp [Nat.testBit_and, Nat.testBit_two_pow_self, e, h] at h1
  · refine ⟨fun h0 => (h0 (Nat.eq_of_testBit_eq fun k => ?_)).elim, fun h0 => (h h0).elim⟩
    rw [Nat.testBit_and, Nat.zero_testBit, Nat.testBit_two_pow]
    by_cases hk : i = k
    · subst hk
      simp [e, h]
    · simp [hk]
theorem exec_and (F : Slots) (o : Oper) (t : TypeId) (x y : Operand) {yt : TypeId} (z b : Nat) (hz : z < 18446744073709551616) (hb : b < 18446744073709551616) (ho : o.op = .binOp .and t x y yt) (hx : evF F x = qv z) (hy : evF F y = .int .u64 (b : Int)) (w : World) : (execOp (evF F) o).run Tryz.prog w = .ok (.value (.int .u64 ((z &&& b : Nat) : Int))) w :=
  exec_int .and t x y .u64 (z : Int) (b : Int) _ ho hx hy (int_and t .u64 _ _ _ (by
    have e : ((BitVec.ofInt IntKind.u64.bits (z : Int) &&& BitVec.ofInt IntKind.u64.bits (b : Int)).toNat) = z &&& b := by
      show ((BitVec.ofInt 64 (z : Int) &&& BitVec.ofInt 64 (b : Int)).toNat) = _
      rw [BitVec.toNat_and, BitVec.ofInt_natCast, BitVec.ofInt_natCast, BitVec.toNat_ofNat, BitVec.toNat_ofNat, Nat.mod_eq_of_lt (by omega), Nat.mod_eq_of_lt (by omega)]
    rw [e]
    have h : z &&& b ≤ z := Nat.and_le_left
    exact wrap_u64 (by omega) (by omega))) w
def bitJ (m : Nat) (x y : Fp) : Nat → J
  | 0 => ⟨0, 0, 0⟩
  | t + 1 => if m / 2 ^ (255 - t) % 2 = 1 then plusR (dblR (bitJ m x y t)) x y else dblR (bitJ m x y t)
theorem bitJ_yes {m : Nat} {x y : Fp} {t : Nat} (h : m / 2 ^ (255 - t) % 2 = 1) : bitJ m x y (t + 1) = plusR (dblR (bitJ m x y t)) x y := if_pos h
theorem bitJ_no {m : Nat} {x y : Fp} {t : Nat} (h : ¬ m / 2 ^ (255 - t) % 2 = 1) : bitJ m x y (t + 1) = dblR (bitJ m x y t) := if_neg h
theorem bitJ_rep {m : Nat} (hm : m < 2 ^ 256) {x y : Fp} (h : y * y = x * x * x + 7) : ∀ t, t ≤ 256 → Ec.Rep (bitJ m x y t) (Ec.nm finv (m / 2 ^ (256 - t)) (some (x, y)))
  | 0, _ => by
    rw [Nat.sub_zero, Nat.div_eq_of_lt hm]
    rfl
  | t + 1, ht => by
    have hP : Ec.On (some (x, y)) := h
    have h1 := bitJ_rep hm h t (by omega)
    have hS := hP.nm fld (m / 2 ^ (256 - t))
    have h2 := dblR_rep hS h1
    have e := Ec.bit_step fld hP m (2 ^ (255 - t))
    rw [← Nat.pow_succ', show (255 - t).succ = 256 - t by omega] at e
    rw [show 256 - (t + 1) = 255 - t by omega, ← e]
    by_cases hb : m / 2 ^ (255 - t) % 2 = 1
    · rw [bitJ_yes hb, hb, Ec.nm_one]
      exact plusR_rep (Ec.On.add fld hS hS) h h2
    · rw [bitJ_no hb, show m / 2 ^ (255 - t) % 2 = 0 by omega, show Ec.nm finv 0 (some (x, y)) = none from rfl, Ec.add_zero]
      exact h2
theorem word_bit (m i j : Nat) (hj : j < 64) : m / 2 ^ (64 * i) % 18446744073709551616 / 2 ^ (63 - j) % 2 = m / 2 ^ (64 * i + (63 - j)) % 2 := by
  rw [Nat.pow_add, ← Nat.div_div_eq_div_mul, show (18446744073709551616 : Nat) = 2 ^ (63 - j) * 2 ^ (j + 1) by rw [← Nat.pow_add, show 63 - j + (j + 1) = 64 by omega], Nat.mod_mul_right_div_self, Nat.pow_succ', Nat.mod_mul_right_mod]
theorem word_bit0 (m j : Nat) (hj : j < 64) : m % 18446744073709551616 / 2 ^ (63 - j) % 2 = m / 2 ^ (64 * 0 + (63 - j)) % 2 := by
  have q := word_bit m 0 j hj
  rw [Nat.mul_zero, Nat.pow_zero, Nat.div_one] at q
  exact q
def modN : Array Value := #[.int .u64 13822214165235122497, .int .u64 13451932020343611451, .int .u64 18446744073709551614, .int .u64 18446744073709551615, .int .u64 4624529908474429119, .int .u64 4994812053365940164, .int .u64 1]
theorem mulRe_none (w : World) (k x y : Nat) (i : Bool) (hk : k < K4) (hx : x < K4) (hy : y < K4) (h : dec x y i = none) : Calls Tryz.prog 42 #[fv k, pv x y i] w (Gets w (ptv none)) := by
  refine Sy.enter (args := [fv k, pv x y i]) Tryz.func42 rfl kL ?_
  refine sC ?_
  refine sM 24 (fcs k) (fun g0 => ?_)
  refine sM 52 (pcs x y i) (fun g1 => ?_)
  refine sM 52 (pcs 0 0 false) (fun g2 => ?_)
  refine sA ?_
  refine sS (pv x y i) (qL 1 g1 0 9 52 52 (pcs x y i) rfl Tryz.underlying52) <| sS (pv 0 0 true) (qF 88 #[pv x y i] (fun w => by have hrr := taken_c w x y i hx hy; rw [h] at hrr; exact hrr)) <| sW 1 g1 52 (pcs x y i) (pcs 0 0 true) (wS 0 52 (pcs 0 0 true) rfl) ?_
  refine sG ?_
  refine Sy.seq ?_
  refine sC ?_
  refine sP (.pointer (some ⟨g1, 8, none⟩)) <| sS (.bool true) (qC 1 g1 8 52 4 (pcs 0 0 true) rfl Tryz.underlying4) ?_
  refine sG ?_
  refine sT ?_
  refine sC ?_
  refine sS (pv 0 0 true) (qL 1 g1 0 9 52 52 (pcs 0 0 true) rfl Tryz.underlying52) <| sW 2 g2 52 (pcs 0 0 false) (pcs 0 0 true) (wS 0 52 (pcs 0 0 true) rfl) ?_
  refine sG ?_
  refine Sy.ret ?_
  refine Sy.then_ret ?_
  rw [show (ptv none : Value) = pv 0 0 true from rfl]
  exact rC (v := pv 0 0 true) 52 g2 2 (pcs 0 0 true) rfl Tryz.underlying52
theorem mulRe_some (w : World) (k x y : Nat) (i : Bool) (hk : k < K4) (hx : x < K4) (hy : y < K4) (u v : Fp) (h : dec x y i = some (u, v)) (ho : v * v = u * u * u + 7) : Calls Tryz.prog 42 #[fv k, pv x y i] w (Gets w (ptv (Ec.nm finv (k % Sc.pM) (some (u, v))))) := by
  obtain ⟨m, hm⟩ : ∃ m, m = k % Sc.pM := ⟨_, rfl⟩
  obtain ⟨Q, hQ⟩ : ∃ Q, Q = ptJ (bitJ m u v 256) := ⟨_, rfl⟩
  have hml : m < K4 := by rw [hm]; exact Sc.mod_lt k
  have hn : Ec.nm finv (k % Sc.pM) (some (u, v)) = Q := by
    have q := bitJ_rep (m := m) hml ho 256 (Nat.le_refl _)
    rw [Nat.sub_self, Nat.pow_zero, Nat.div_one] at q
    rw [← hm, hQ]
    exact (ptJ_rep q).symm
  rw [hn]
  refine Sy.enter (args := [fv k, pv x y i]) Tryz.func42 rfl kL ?_
  refine sC ?_
  refine sM 24 (fcs k) (fun g0 => ?_)
  refine sM 52 (pcs x y i) (fun g1 => ?_)
  refine sM 52 (pcs 0 0 false) (fun g2 => ?_)
  refine sA ?_
  refine sS (pv x y i) (qL 1 g1 0 9 52 52 (pcs x y i) rfl Tryz.underlying52) <| sS (pv u.val v.val false) (qF 88 #[pv x y i] (fun w => by have hrr := taken_c w x y i hx hy; rw [h] at hrr; exact hrr)) <| sW 1 g1 52 (pcs x y i) (pcs u.val v.val false) (wS 0 52 (pcs u.val v.val false) rfl) ?_
  refine sG ?_
  refine Sy.seq ?_
  refine sC ?_
  refine sP (.pointer (some ⟨g1, 8, none⟩)) <| sS (.bool false) (qC 1 g1 8 52 4 (pcs u.val v.val false) rfl Tryz.underlying4) ?_
  refine sG ?_
  refine sU ?_
  refine Sy.skip ?_
  refine sR (fun j => j == 5) ?_
  refine sD 0 rfl (.agg modN) (qF 76 #[] (Sc.refN_any)) <| sD 1 rfl (fv k) (qL 0 g0 0 4 24 24 (fcs k) rfl Tryz.underlying24) <| sD 2 rfl (fv k) (qF 77 #[fv k] (fun w => Sc.refOf_any w k lK)) <| sD 3 rfl (fv m) (qF 89 #[.agg modN, fv k] (fun w => by rw [hm]; exact Sc.normR_any w k hk)) ?_
  refine sO 4 rfl 89 (fcs 0) (fun g3 => ?_)
  refine sX 5 rfl 3 g3 89 (fcs 0) (fcs m) (wS 0 89 (fcs m) rfl) ?_
  refine sE ?_
  refine sB ?_
  refine sP (.pointer (some ⟨g1, 0, none⟩)) <| sS (fv u.val) (qL 1 g1 0 4 52 50 (pcs u.val v.val false) rfl Tryz.underlying50) <| sS (fv u.val) (qF 90 #[fv u.val] (fun w => refOf_any w u.val lK)) ?_
  refine sM 89 (fcs 0) (fun g4 => ?_)
  refine sW 4 g4 89 (fcs 0) (fcs u.val) (wS 0 89 (fcs u.val) rfl) ?_
  refine sA ?_
  refine sP (.pointer (some ⟨g1, 4, none⟩)) <| sS (fv v.val) (qL 1 g1 4 4 52 50 (pcs u.val v.val false) rfl Tryz.underlying50) <| sS (fv v.val) (qF 90 #[fv v.val] (fun w => refOf_any w v.val lK)) ?_
  refine sM 89 (fcs 0) (fun g5 => ?_)
  refine sW 5 g5 89 (fcs 0) (fcs v.val) (wS 0 89 (fcs v.val) rfl) ?_
  refine sA ?_
  refine sP (tv 0 0 0) ?_
  refine sM 127 (tcs 0 0 0) (fun g6 => ?_)
  refine sW 6 g6 127 (tcs 0 0 0) (tcs 0 0 0) (wS 0 127 (tcs 0 0 0) rfl) ?_
  refine sG ?_
  refine Sy.seq ?_
  refine sC ?_
  refine sP (.int .i64 3) ?_
  refine sG ?_
  refine Sy.block ?_
  refine Sy.loopN 5 ?_
  refine Sy.tidyR (G := [(4, .pointer (some ⟨g2, 0, none⟩)), (5, .pointer (some ⟨g3, 0, none⟩)), (6, .pointer (some ⟨g4, 0, none⟩)), (7, .pointer (some ⟨g5, 0, none⟩)), (8, .pointer (some ⟨g6, 0, none⟩)), (9, .int .i64 3)]) (M := [(g2, 52, (pcs 0 0 false)), (g3, 89, (fcs m)), (g4, 89, (fcs u.val)), (g5, 89, (fcs v.val)), (g6, 127, (tcs 0 0 0))]) [false, false, true, true, true, true, true] kR (all_cons kR (all_cons kR (all_cons kR (all_cons kR (all_cons kR (all_cons kR all_nil)))))) ?_
  refine Sy.round ?_
  refine Sy.seq ?_
  refine sC ?_
  refine sP (.int .i64 3) <| sP (.bool true) ?_
  refine sG ?_
  refine sT ?_
  refine Sy.skip ?_
  refine Sy.then_ ?_
  refine Sy.seq ?_
  refine Sy.block ?_
  refine sC ?_
  refine sP (.int .u64 9223372036854775808) ?_
  refine sG ?_
  refine Sy.block ?_
  refine Sy.loopK 64 (fun k2x0 => [(4, .pointer (some ⟨g2, 0, none⟩)), (5, .pointer (some ⟨g3, 0, none⟩)), (6, .pointer (some ⟨g4, 0, none⟩)), (7, .pointer (some ⟨g5, 0, none⟩)), (8, .pointer (some ⟨g6, 0, none⟩)), (9, .int .i64 3), (10, .int .u64 ((bt k2x0 : Nat) : Int))]) (fun k2x0 => [(g2, 52, (pcs 0 0 false)), (g3, 89, (fcs m)), (g4, 89, (fcs u.val)), (g5, 89, (fcs v.val)), (g6, 127, (tcs ((bitJ m u v (0 + k2x0)).x.val) ((bitJ m u v (0 + k2x0)).y.val) ((bitJ m u v (0 + k2x0)).z.val)))]) [true, true, true, true, true] (M := [(g2, 52, (pcs 0 0 false)), (g3, 89, (fcs m)), (g4, 89, (fcs u.val)), (g5, 89, (fcs v.val)), (g6, 127, (tcs 0 0 0))]) (all_cons kR (all_cons kR (all_cons kR (all_cons kR (all_cons kR (all_cons kR (all_cons kR all_nil))))))) kR (bcons rfl (bcons rfl (bcons rfl (bcons rfl (bcons rfl rfl))))) (fun k2x0 hk2x0 => ?_)
  refine Sy.seq ?_
  refine sC ?_
  refine sP (.int .u64 ((bt k2x0 : Nat) : Int)) ?_
  obtain ⟨b1, hb1⟩ : ∃ z : Bool, z = decide (k2x0 < 64) := ⟨_, rfl⟩
  refine sS (.bool b1) (Quiet.pure (exec_int .gtr _ _ _ .u64 _ _ _ rfl rfl rfl (int_gtr _ _ _ _ _ (by rw [hb1]; exact decide_eq_decide.2 (by rw [← bt_pos]; omega))))) ?_
  refine sG ?_
  cases b1
  · have lb1 : ¬ (k2x0 < 64) := of_decide_eq_false hb1.symm
    refine sU ?_
    refine Sy.exit ?_
    refine Sy.then_exit ?_
    refine Sy.then_exit ?_
    obtain rfl : k2x0 = 64 := by omega
    refine Sy.in_exit ?_
    refine Sy.in_ ?_
    refine Sy.then_ ?_
    refine Sy.region ?_
    refine sP (.int .i64 3) <| sP (.int .i64 2) <| sP (.int .i64 2) ?_
    refine Sy.nil ?_
    refine Sy.again ?_
    refine Sy.tidyR (G := [(4, .pointer (some ⟨g2, 0, none⟩)), (5, .pointer (some ⟨g3, 0, none⟩)), (6, .pointer (some ⟨g4, 0, none⟩)), (7, .pointer (some ⟨g5, 0, none⟩)), (8, .pointer (some ⟨g6, 0, none⟩)), (9, .int .i64 2)]) (M := [(g2, 52, (pcs 0 0 false)), (g3, 89, (fcs m)), (g4, 89, (fcs u.val)), (g5, 89, (fcs v.val)), (g6, 127, (tcs ((bitJ m u v (0 + 64)).x.val) ((bitJ m u v (0 + 64)).y.val) ((bitJ m u v (0 + 64)).z.val)))]) [true, true, true, true, true] kR (all_cons kR (all_cons kR (all_cons kR (all_cons kR (all_cons kR (all_cons kR all_nil)))))) ?_
    refine Sy.round ?_
    refine Sy.seq ?_
    refine sC ?_
    refine sP (.int .i64 2) <| sP (.bool true) ?_
    refine sG ?_
    refine sT ?_
    refine Sy.skip ?_
    refine Sy.then_ ?_
    refine Sy.seq ?_
    refine Sy.block ?_
    refine sC ?_
    refine sP (.int .u64 9223372036854775808) ?_
    refine sG ?_
    refine Sy.block ?_
    refine Sy.loopK 64 (fun k2x1 => [(4, .pointer (some ⟨g2, 0, none⟩)), (5, .pointer (some ⟨g3, 0, none⟩)), (6, .pointer (some ⟨g4, 0, none⟩)), (7, .pointer (some ⟨g5, 0, none⟩)), (8, .pointer (some ⟨g6, 0, none⟩)), (9, .int .i64 2), (10, .int .u64 ((bt k2x1 : Nat) : Int))]) (fun k2x1 => [(g2, 52, (pcs 0 0 false)), (g3, 89, (fcs m)), (g4, 89, (fcs u.val)), (g5, 89, (fcs v.val)), (g6, 127, (tcs ((bitJ m u v (64 + k2x1)).x.val) ((bitJ m u v (64 + k2x1)).y.val) ((bitJ m u v (64 + k2x1)).z.val)))]) [true, true, true, true, true] (M := [(g2, 52, (pcs 0 0 false)), (g3, 89, (fcs m)), (g4, 89, (fcs u.val)), (g5, 89, (fcs v.val)), (g6, 127, (tcs ((bitJ m u v (0 + 64)).x.val) ((bitJ m u v (0 + 64)).y.val) ((bitJ m u v (0 + 64)).z.val)))]) (all_cons kR (all_cons kR (all_cons kR (all_cons kR (all_cons kR (all_cons kR (all_cons kR all_nil))))))) kR (bcons rfl (bcons rfl (bcons rfl (bcons rfl (bcons rfl rfl))))) (fun k2x1 hk2x1 => ?_)
    refine Sy.seq ?_
    refine sC ?_
    refine sP (.int .u64 ((bt k2x1 : Nat) : Int)) ?_
    obtain ⟨b2, hb2⟩ : ∃ z : Bool, z = decide (k2x1 < 64) := ⟨_, rfl⟩
    refine sS (.bool b2) (Quiet.pure (exec_int .gtr _ _ _ .u64 _ _ _ rfl rfl rfl (int_gtr _ _ _ _ _ (by rw [hb2]; exact decide_eq_decide.2 (by rw [← bt_pos]; omega))))) ?_
    refine sG ?_
    cases b2
    · have lb2 : ¬ (k2x1 < 64) := of_decide_eq_false hb2.symm
      refine sU ?_
      refine Sy.exit ?_
      refine Sy.then_exit ?_
      refine Sy.then_exit ?_
      obtain rfl : k2x1 = 64 := by omega
      refine Sy.in_exit ?_
      refine Sy.in_ ?_
      refine Sy.then_ ?_
      refine Sy.region ?_
      refine sP (.int .i64 2) <| sP (.int .i64 1) <| sP (.int .i64 1) ?_
      refine Sy.nil ?_
      refine Sy.again ?_
      refine Sy.tidyR (G := [(4, .pointer (some ⟨g2, 0, none⟩)), (5, .pointer (some ⟨g3, 0, none⟩)), (6, .pointer (some ⟨g4, 0, none⟩)), (7, .pointer (some ⟨g5, 0, none⟩)), (8, .pointer (some ⟨g6, 0, none⟩)), (9, .int .i64 1)]) (M := [(g2, 52, (pcs 0 0 false)), (g3, 89, (fcs m)), (g4, 89, (fcs u.val)), (g5, 89, (fcs v.val)), (g6, 127, (tcs ((bitJ m u v (64 + 64)).x.val) ((bitJ m u v (64 + 64)).y.val) ((bitJ m u v (64 + 64)).z.val)))]) [true, true, true, true, true] kR (all_cons kR (all_cons kR (all_cons kR (all_cons kR (all_cons kR (all_cons kR all_nil)))))) ?_
      refine Sy.round ?_
      refine Sy.seq ?_
      refine sC ?_
      refine sP (.int .i64 1) <| sP (.bool true) ?_
      refine sG ?_
      refine sT ?_
      refine Sy.skip ?_
      refine Sy.then_ ?_
      refine Sy.seq ?_
      refine Sy.block ?_
      refine sC ?_
      refine sP (.int .u64 9223372036854775808) ?_
      refine sG ?_
      refine Sy.block ?_
      refine Sy.loopK 64 (fun k2x2 => [(4, .pointer (some ⟨g2, 0, none⟩)), (5, .pointer (some ⟨g3, 0, none⟩)), (6, .pointer (some ⟨g4, 0, none⟩)), (7, .pointer (some ⟨g5, 0, none⟩)), (8, .pointer (some ⟨g6, 0, none⟩)), (9, .int .i64 1), (10, .int .u64 ((bt k2x2 : Nat) : Int))]) (fun k2x2 => [(g2, 52, (pcs 0 0 false)), (g3, 89, (fcs m)), (g4, 89, (fcs u.val)), (g5, 89, (fcs v.val)), (g6, 127, (tcs ((bitJ m u v (128 + k2x2)).x.val) ((bitJ m u v (128 + k2x2)).y.val) ((bitJ m u v (128 + k2x2)).z.val)))]) [true, true, true, true, true] (M := [(g2, 52, (pcs 0 0 false)), (g3, 89, (fcs m)), (g4, 89, (fcs u.val)), (g5, 89, (fcs v.val)), (g6, 127, (tcs ((bitJ m u v (64 + 64)).x.val) ((bitJ m u v (64 + 64)).y.val) ((bitJ m u v (64 + 64)).z.val)))]) (all_cons kR (all_cons kR (all_cons kR (all_cons kR (all_cons kR (all_cons kR (all_cons kR all_nil))))))) kR (bcons rfl (bcons rfl (bcons rfl (bcons rfl (bcons rfl rfl))))) (fun k2x2 hk2x2 => ?_)
      refine Sy.seq ?_
      refine sC ?_
      refine sP (.int .u64 ((bt k2x2 : Nat) : Int)) ?_
      obtain ⟨b3, hb3⟩ : ∃ z : Bool, z = decide (k2x2 < 64) := ⟨_, rfl⟩
      refine sS (.bool b3) (Quiet.pure (exec_int .gtr _ _ _ .u64 _ _ _ rfl rfl rfl (int_gtr _ _ _ _ _ (by rw [hb3]; exact decide_eq_decide.2 (by rw [← bt_pos]; omega))))) ?_
      refine sG ?_
      cases b3
      · have lb3 : ¬ (k2x2 < 64) := of_decide_eq_false hb3.symm
        refine sU ?_
        refine Sy.exit ?_
        refine Sy.then_exit ?_
        refine Sy.then_exit ?_
        obtain rfl : k2x2 = 64 := by omega
        refine Sy.in_exit ?_
        refine Sy.in_ ?_
        refine Sy.then_ ?_
        refine Sy.region ?_
        refine sP (.int .i64 1) <| sP (.int .i64 0) <| sP (.int .i64 0) ?_
        refine Sy.nil ?_
        refine Sy.again ?_
        refine Sy.tidyR (G := [(4, .pointer (some ⟨g2, 0, none⟩)), (5, .pointer (some ⟨g3, 0, none⟩)), (6, .pointer (some ⟨g4, 0, none⟩)), (7, .pointer (some ⟨g5, 0, none⟩)), (8, .pointer (some ⟨g6, 0, none⟩)), (9, .int .i64 0)]) (M := [(g2, 52, (pcs 0 0 false)), (g3, 89, (fcs m)), (g4, 89, (fcs u.val)), (g5, 89, (fcs v.val)), (g6, 127, (tcs ((bitJ m u v (128 + 64)).x.val) ((bitJ m u v (128 + 64)).y.val) ((bitJ m u v (128 + 64)).z.val)))]) [true, true, true, true, true] kR (all_cons kR (all_cons kR (all_cons kR (all_cons kR (all_cons kR (all_cons kR all_nil)))))) ?_
        refine Sy.round ?_
        refine Sy.seq ?_
        refine sC ?_
        refine sP (.int .i64 0) <| sP (.bool true) ?_
        refine sG ?_
        refine sT ?_
        refine Sy.skip ?_
        refine Sy.then_ ?_
        refine Sy.seq ?_
        refine Sy.block ?_
        refine sC ?_
        refine sP (.int .u64 9223372036854775808) ?_
        refine sG ?_
        refine Sy.block ?_
        refine Sy.loopK 64 (fun k2x3 => [(4, .pointer (some ⟨g2, 0, none⟩)), (5, .pointer (some ⟨g3, 0, none⟩)), (6, .pointer (some ⟨g4, 0, none⟩)), (7, .pointer (some ⟨g5, 0, none⟩)), (8, .pointer (some ⟨g6, 0, none⟩)), (9, .int .i64 0), (10, .int .u64 ((bt k2x3 : Nat) : Int))]) (fun k2x3 => [(g2, 52, (pcs 0 0 false)), (g3, 89, (fcs m)), (g4, 89, (fcs u.val)), (g5, 89, (fcs v.val)), (g6, 127, (tcs ((bitJ m u v (192 + k2x3)).x.val) ((bitJ m u v (192 + k2x3)).y.val) ((bitJ m u v (192 + k2x3)).z.val)))]) [true, true, true, true, true] (M := [(g2, 52, (pcs 0 0 false)), (g3, 89, (fcs m)), (g4, 89, (fcs u.val)), (g5, 89, (fcs v.val)), (g6, 127, (tcs ((bitJ m u v (128 + 64)).x.val) ((bitJ m u v (128 + 64)).y.val) ((bitJ m u v (128 + 64)).z.val)))]) (all_cons kR (all_cons kR (all_cons kR (all_cons kR (all_cons kR (all_cons kR (all_cons kR all_nil))))))) kR (bcons rfl (bcons rfl (bcons rfl (bcons rfl (bcons rfl rfl))))) (fun k2x3 hk2x3 => ?_)
        refine Sy.seq ?_
        refine sC ?_
        refine sP (.int .u64 ((bt k2x3 : Nat) : Int)) ?_
        obtain ⟨b4, hb4⟩ : ∃ z : Bool, z = decide (k2x3 < 64) := ⟨_, rfl⟩
        refine sS (.bool b4) (Quiet.pure (exec_int .gtr _ _ _ .u64 _ _ _ rfl rfl rfl (int_gtr _ _ _ _ _ (by rw [hb4]; exact decide_eq_decide.2 (by rw [← bt_pos]; omega))))) ?_
        refine sG ?_
        cases b4
        · have lb4 : ¬ (k2x3 < 64) := of_decide_eq_false hb4.symm
          refine sU ?_
          refine Sy.exit ?_
          refine Sy.then_exit ?_
          refine Sy.then_exit ?_
          obtain rfl : k2x3 = 64 := by omega
          refine Sy.in_exit ?_
          refine Sy.in_ ?_
          refine Sy.then_ ?_
          refine Sy.region ?_
          refine sP (.int .i64 0) <| sP (.int .i64 (-1)) <| sP (.int .i64 (-1)) ?_
          refine Sy.nil ?_
          refine Sy.again ?_
          refine Sy.tidyR (G := [(4, .pointer (some ⟨g2, 0, none⟩)), (5, .pointer (some ⟨g3, 0, none⟩)), (6, .pointer (some ⟨g4, 0, none⟩)), (7, .pointer (some ⟨g5, 0, none⟩)), (8, .pointer (some ⟨g6, 0, none⟩)), (9, .int .i64 (-1))]) (M := [(g2, 52, (pcs 0 0 false)), (g3, 89, (fcs m)), (g4, 89, (fcs u.val)), (g5, 89, (fcs v.val)), (g6, 127, (tcs ((bitJ m u v (192 + 64)).x.val) ((bitJ m u v (192 + 64)).y.val) ((bitJ m u v (192 + 64)).z.val)))]) [true, true, true, true, true] kR (all_cons kR (all_cons kR (all_cons kR (all_cons kR (all_cons kR (all_cons kR all_nil)))))) ?_
          refine Sy.round ?_
          refine Sy.seq ?_
          refine sC ?_
          refine sP (.int .i64 (-1)) <| sP (.bool false) ?_
          refine sG ?_
          refine sU ?_
          refine Sy.exit ?_
          refine Sy.then_exit ?_
          refine Sy.then_exit ?_
          refine Sy.in_exit ?_
          refine Sy.then_ ?_
          refine Sy.seq ?_
          refine sC ?_
          refine sP (.pointer (some ⟨g6, 8, none⟩)) <| sS (fv ((bitJ m u v (192 + 64)).z.val)) (qL 4 g6 8 4 127 89 (tcs ((bitJ m u v (192 + 64)).x.val) ((bitJ m u v (192 + 64)).y.val) ((bitJ m u v (192 + 64)).z.val)) rfl Tryz.underlying89) <| sP (fv 0) ?_
          obtain ⟨b5, hb5⟩ : ∃ z : Bool, z = decide ((bitJ m u v (192 + 64)).z.val = 0) := ⟨_, rfl⟩
          refine sS (.bool b5) (Quiet.pure (fun w => by rw [hb5]; exact eql_num w _ _ _ _ _ _ rfl rfl rfl lK lK)) ?_
          refine sG ?_
          cases b5
          · have eb5 : (bitJ m u v (192 + 64)).z ≠ (0 : Fp) := fun e => of_decide_eq_false hb5.symm (congrArg Fin.val e)
            refine sU ?_
            refine Sy.skip ?_
            refine sR (fun j => j == 5) ?_
            refine sD 0 rfl (.agg modcs) (qF 56 #[] (refP_any)) <| sZ 1 rfl (.pointer (some ⟨g6, 8, none⟩)) <| sD 2 rfl (fv ((bitJ m u v (192 + 64)).z.val)) (qL 4 g6 8 4 127 89 (tcs ((bitJ m u v (192 + 64)).x.val) ((bitJ m u v (192 + 64)).y.val) ((bitJ m u v (192 + 64)).z.val)) rfl Tryz.underlying89) ?_
            obtain ⟨z1, hz1⟩ : ∃ z : Fp, z = finv (bitJ m u v (192 + 64)).z := ⟨_, rfl⟩
            refine sD 3 rfl (fv z1.val) (qF 93 #[.agg modcs, fv ((bitJ m u v (192 + 64)).z.val)] (fun w => by rw [hz1]; exact refinv_c w (bitJ m u v (192 + 64)).z)) ?_
            refine sO 4 rfl 89 (fcs 0) (fun g7 => ?_)
            refine sX 5 rfl 5 g7 89 (fcs 0) (fcs z1.val) (wS 0 89 (fcs z1.val) rfl) ?_
            refine sE ?_
            refine sB ?_
            refine sS (fv z1.val) (qL 5 g7 0 4 89 89 (fcs z1.val) rfl Tryz.underlying89) <| sS (fv z1.val) (qL 5 g7 0 4 89 89 (fcs z1.val) rfl Tryz.underlying89) ?_
            obtain ⟨z2, hz2⟩ : ∃ z : Fp, z = z1 * z1 := ⟨_, rfl⟩
            refine sS (fv z2.val) (qF 94 #[fv z1.val, fv z1.val] (fun w => by rw [hz2]; exact mulR_c w z1 z1)) ?_
            refine sM 89 (fcs 0) (fun g8 => ?_)
            refine sW 6 g8 89 (fcs 0) (fcs z2.val) (wS 0 89 (fcs z2.val) rfl) ?_
            refine sH (fun j => j == 11) ?_
            refine sZ 0 rfl (.pointer (some ⟨g6, 0, none⟩)) <| sD 1 rfl (fv ((bitJ m u v (192 + 64)).x.val)) (qL 4 g6 0 4 127 89 (tcs ((bitJ m u v (192 + 64)).x.val) ((bitJ m u v (192 + 64)).y.val) ((bitJ m u v (192 + 64)).z.val)) rfl Tryz.underlying89) <| sD 2 rfl (fv z2.val) (qL 6 g8 0 4 89 89 (fcs z2.val) rfl Tryz.underlying89) ?_
            obtain ⟨z3, hz3⟩ : ∃ z : Fp, z = (bitJ m u v (192 + 64)).x * z2 := ⟨_, rfl⟩
            refine sD 3 rfl (fv z3.val) (qF 94 #[fv ((bitJ m u v (192 + 64)).x.val), fv z2.val] (fun w => by rw [hz3]; exact mulR_c w (bitJ m u v (192 + 64)).x z2)) <| sZ 4 rfl (.pointer (some ⟨g6, 4, none⟩)) <| sD 5 rfl (fv ((bitJ m u v (192 + 64)).y.val)) (qL 4 g6 4 4 127 89 (tcs ((bitJ m u v (192 + 64)).x.val) ((bitJ m u v (192 + 64)).y.val) ((bitJ m u v (192 + 64)).z.val)) rfl Tryz.underlying89) <| sD 6 rfl (fv z2.val) (qL 6 g8 0 4 89 89 (fcs z2.val) rfl Tryz.underlying89) <| sD 7 rfl (fv z1.val) (qL 5 g7 0 4 89 89 (fcs z1.val) rfl Tryz.underlying89) ?_
            obtain ⟨z4, hz4⟩ : ∃ z : Fp, z = z2 * z1 := ⟨_, rfl⟩
            refine sD 8 rfl (fv z4.val) (qF 94 #[fv z2.val, fv z1.val] (fun w => by rw [hz4]; exact mulR_c w z2 z1)) ?_
            obtain ⟨z5, hz5⟩ : ∃ z : Fp, z = (bitJ m u v (192 + 64)).y * z4 := ⟨_, rfl⟩
            refine sD 9 rfl (fv z5.val) (qF 94 #[fv ((bitJ m u v (192 + 64)).y.val), fv z4.val] (fun w => by rw [hz5]; exact mulR_c w (bitJ m u v (192 + 64)).y z4)) <| sD 10 rfl (pv z3.val z5.val false) (qF 95 #[fv z3.val, fv z5.val] (fun w => pointR_c w z3.val z5.val lK lK)) <| sX 11 rfl 0 g2 52 (pcs 0 0 false) (pcs z3.val z5.val false) (wS 0 52 (pcs z3.val z5.val false) rfl) ?_
            refine sI ?_
            refine Sy.ret ?_
            rw [show (ptv Q : Value) = pv z3.val z5.val false from by rw [hQ]; unfold ptJ; rw [if_neg eb5]; unfold ptv; simp only [hz5, hz4, hz3, hz2, hz1]]
            exact rC (v := pv z3.val z5.val false) 52 g2 0 (pcs z3.val z5.val false) rfl Tryz.underlying52
          · have eb5 : (bitJ m u v (192 + 64)).z = (0 : Fp) := Fin.ext (of_decide_eq_true hb5.symm)
            refine sT ?_
            refine sC ?_
            refine sS (pv 0 0 true) (qF 62 #[] (zeroR_c)) <| sW 0 g2 52 (pcs 0 0 false) (pcs 0 0 true) (wS 0 52 (pcs 0 0 true) rfl) ?_
            refine sG ?_
            refine Sy.ret ?_
            refine Sy.then_ret ?_
            rw [show (ptv Q : Value) = pv 0 0 true from by rw [hQ]; unfold ptJ; rw [if_pos eb5]; rfl]
            exact rC (v := pv 0 0 true) 52 g2 0 (pcs 0 0 true) rfl Tryz.underlying52
        · have lb4 : k2x3 < 64 := of_decide_eq_true hb4.symm
          refine sT ?_
          refine Sy.skip ?_
          refine Sy.then_ ?_
          refine Sy.seq ?_
          refine Sy.block ?_
          refine sC ?_
          refine sS (tv ((bitJ m u v (192 + k2x3)).x.val) ((bitJ m u v (192 + k2x3)).y.val) ((bitJ m u v (192 + k2x3)).z.val)) (qL 4 g6 0 12 127 127 (tcs ((bitJ m u v (192 + k2x3)).x.val) ((bitJ m u v (192 + k2x3)).y.val) ((bitJ m u v (192 + k2x3)).z.val)) rfl Tryz.underlying127) ?_
          obtain ⟨j1, hj1⟩ : ∃ z : J, z = dblR (bitJ m u v (192 + k2x3)) := ⟨_, rfl⟩
          refine sS (tv j1.x.val j1.y.val j1.z.val) (qF 91 #[tv ((bitJ m u v (192 + k2x3)).x.val) ((bitJ m u v (192 + k2x3)).y.val) ((bitJ m u v (192 + k2x3)).z.val)] (fun w => by rw [hj1]; exact twiceR_c w (bitJ m u v (192 + k2x3)))) <| sW 4 g6 127 (tcs ((bitJ m u v (192 + k2x3)).x.val) ((bitJ m u v (192 + k2x3)).y.val) ((bitJ m u v (192 + k2x3)).z.val)) (tcs j1.x.val j1.y.val j1.z.val) (wS 0 127 (tcs j1.x.val j1.y.val j1.z.val) rfl) ?_
          refine sA ?_
          refine sP (.int .i64 0) <| sP (.pointer (some ⟨g3, 0, none⟩)) <| sS (qv (m % 18446744073709551616)) (qC 1 g3 0 89 22 (fcs m) rfl Tryz.underlying22) <| sP (.int .u64 ((bt k2x3 : Nat) : Int)) <| sS (.int .u64 (((m % 18446744073709551616) &&& bt k2x3 : Nat) : Int)) (Quiet.pure (exec_and _ _ _ _ _ (m % 18446744073709551616) (bt k2x3) (Nat.mod_lt _ (by decide)) (bt_le _) rfl rfl rfl)) ?_
          obtain ⟨b6, hb6⟩ : ∃ z : Bool, z = decide ((m % 18446744073709551616) &&& bt k2x3 ≠ 0) := ⟨_, rfl⟩
          refine sS (.bool b6) (Quiet.pure (exec_int .neq _ _ _ .u64 _ _ _ rfl rfl rfl (int_neq _ _ _ _ _ (by rw [hb6]; exact decide_eq_decide.2 (by omega))))) ?_
          refine sG ?_
          cases b6
          · have lb6 : ¬ ((m % 18446744073709551616) &&& bt k2x3 ≠ 0) := of_decide_eq_false hb6.symm
            have fb6 : ¬ m / 2 ^ (255 - (192 + k2x3)) % 2 = 1 := by
              have q := and_bt (m % 18446744073709551616) k2x3 (by omega)
              have q2 := word_bit0 m k2x3 (by omega)
              rw [show 64 * 0 + (63 - k2x3) = 255 - (192 + k2x3) by omega] at q2
              rw [← q2]
              exact fun t => lb6 (q.2 t)
            refine sU ?_
            refine Sy.skip ?_
            refine Sy.in_ ?_
            refine Sy.then_ ?_
            refine Sy.region ?_
            refine sP (.int .u64 ((bt k2x3 : Nat) : Int)) <| sS (.int .u64 ((bt (k2x3 + 1) : Nat) : Int)) (Quiet.pure (exec_int .quo _ _ _ .u64 _ _ _ rfl rfl rfl (int_quo _ _ _ _ _ (by decide) (by rw [← bt_next]; have := bt_le k2x3; rw [show ((bt k2x3 : Nat) : Int).tdiv 2 = ((bt k2x3 / 2 : Nat) : Int) from rfl]; exact wrap_u64 (by omega) (by omega))))) <| sP (.int .u64 ((bt (k2x3 + 1) : Nat) : Int)) ?_
            refine Sy.nil ?_
            exact Sy.againK [true, true, true, true, true] (M := [(g2, 52, (pcs 0 0 false)), (g3, 89, (fcs m)), (g4, 89, (fcs u.val)), (g5, 89, (fcs v.val)), (g6, 127, (tcs j1.x.val j1.y.val j1.z.val))]) (by omega) (all_cons kR (all_cons kR (all_cons kR (all_cons kR (all_cons kR (all_cons kR (all_cons kR all_nil))))))) kR (bcons rfl (bcons rfl (bcons rfl (bcons rfl (bcons (beq (by rw [hj1, ← bitJ_no fb6]; rfl)) rfl)))))
          · have lb6 : (m % 18446744073709551616) &&& bt k2x3 ≠ 0 := of_decide_eq_true hb6.symm
            have fb6 :  m / 2 ^ (255 - (192 + k2x3)) % 2 = 1 := by
              have q := and_bt (m % 18446744073709551616) k2x3 (by omega)
              have q2 := word_bit0 m k2x3 (by omega)
              rw [show 64 * 0 + (63 - k2x3) = 255 - (192 + k2x3) by omega] at q2
              rw [← q2]
              exact q.1 lb6
            refine sT ?_
            refine Sy.region ?_
            refine sS (tv j1.x.val j1.y.val j1.z.val) (qL 4 g6 0 12 127 127 (tcs j1.x.val j1.y.val j1.z.val) rfl Tryz.underlying127) <| sS (fv u.val) (qL 2 g4 0 4 89 89 (fcs u.val) rfl Tryz.underlying89) <| sS (fv v.val) (qL 3 g5 0 4 89 89 (fcs v.val) rfl Tryz.underlying89) ?_
            obtain ⟨j2, hj2⟩ : ∃ z : J, z = plusR j1 u v := ⟨_, rfl⟩
            refine sS (tv j2.x.val j2.y.val j2.z.val) (qF 92 #[tv j1.x.val j1.y.val j1.z.val, fv u.val, fv v.val] (fun w => by rw [hj2]; exact plusR_c w j1 u v)) <| sW 4 g6 127 (tcs j1.x.val j1.y.val j1.z.val) (tcs j2.x.val j2.y.val j2.z.val) (wS 0 127 (tcs j2.x.val j2.y.val j2.z.val) rfl) ?_
            refine Sy.nil ?_
            refine Sy.in_ ?_
            refine Sy.then_ ?_
            refine Sy.region ?_
            refine sP (.int .u64 ((bt k2x3 : Nat) : Int)) <| sS (.int .u64 ((bt (k2x3 + 1) : Nat) : Int)) (Quiet.pure (exec_int .quo _ _ _ .u64 _ _ _ rfl rfl rfl (int_quo _ _ _ _ _ (by decide) (by rw [← bt_next]; have := bt_le k2x3; rw [show ((bt k2x3 : Nat) : Int).tdiv 2 = ((bt k2x3 / 2 : Nat) : Int) from rfl]; exact wrap_u64 (by omega) (by omega))))) <| sP (.int .u64 ((bt (k2x3 + 1) : Nat) : Int)) ?_
            refine Sy.nil ?_
            exact Sy.againK [true, true, true, true, true] (M := [(g2, 52, (pcs 0 0 false)), (g3, 89, (fcs m)), (g4, 89, (fcs u.val)), (g5, 89, (fcs v.val)), (g6, 127, (tcs j2.x.val j2.y.val j2.z.val))]) (by omega) (all_cons kR (all_cons kR (all_cons kR (all_cons kR (all_cons kR (all_cons kR (all_cons kR all_nil))))))) kR (bcons rfl (bcons rfl (bcons rfl (bcons rfl (bcons (beq (by rw [hj2, hj1, ← bitJ_yes fb6]; rfl)) rfl)))))
      · have lb3 : k2x2 < 64 := of_decide_eq_true hb3.symm
        refine sT ?_
        refine Sy.skip ?_
        refine Sy.then_ ?_
        refine Sy.seq ?_
        refine Sy.block ?_
        refine sC ?_
        refine sS (tv ((bitJ m u v (128 + k2x2)).x.val) ((bitJ m u v (128 + k2x2)).y.val) ((bitJ m u v (128 + k2x2)).z.val)) (qL 4 g6 0 12 127 127 (tcs ((bitJ m u v (128 + k2x2)).x.val) ((bitJ m u v (128 + k2x2)).y.val) ((bitJ m u v (128 + k2x2)).z.val)) rfl Tryz.underlying127) ?_
        obtain ⟨j3, hj3⟩ : ∃ z : J, z = dblR (bitJ m u v (128 + k2x2)) := ⟨_, rfl⟩
        refine sS (tv j3.x.val j3.y.val j3.z.val) (qF 91 #[tv ((bitJ m u v (128 + k2x2)).x.val) ((bitJ m u v (128 + k2x2)).y.val) ((bitJ m u v (128 + k2x2)).z.val)] (fun w => by rw [hj3]; exact twiceR_c w (bitJ m u v (128 + k2x2)))) <| sW 4 g6 127 (tcs ((bitJ m u v (128 + k2x2)).x.val) ((bitJ m u v (128 + k2x2)).y.val) ((bitJ m u v (128 + k2x2)).z.val)) (tcs j3.x.val j3.y.val j3.z.val) (wS 0 127 (tcs j3.x.val j3.y.val j3.z.val) rfl) ?_
        refine sA ?_
        refine sP (.int .i64 1) <| sP (.pointer (some ⟨g3, 1, none⟩)) <| sS (qv (m / 18446744073709551616 % 18446744073709551616)) (qC 1 g3 1 89 22 (fcs m) rfl Tryz.underlying22) <| sP (.int .u64 ((bt k2x2 : Nat) : Int)) <| sS (.int .u64 (((m / 18446744073709551616 % 18446744073709551616) &&& bt k2x2 : Nat) : Int)) (Quiet.pure (exec_and _ _ _ _ _ (m / 18446744073709551616 % 18446744073709551616) (bt k2x2) (Nat.mod_lt _ (by decide)) (bt_le _) rfl rfl rfl)) ?_
        obtain ⟨b7, hb7⟩ : ∃ z : Bool, z = decide ((m / 18446744073709551616 % 18446744073709551616) &&& bt k2x2 ≠ 0) := ⟨_, rfl⟩
        refine sS (.bool b7) (Quiet.pure (exec_int .neq _ _ _ .u64 _ _ _ rfl rfl rfl (int_neq _ _ _ _ _ (by rw [hb7]; exact decide_eq_decide.2 (by omega))))) ?_
        refine sG ?_
        cases b7
        · have lb7 : ¬ ((m / 18446744073709551616 % 18446744073709551616) &&& bt k2x2 ≠ 0) := of_decide_eq_false hb7.symm
          have fb7 : ¬ m / 2 ^ (255 - (128 + k2x2)) % 2 = 1 := by
            have q := and_bt (m / 18446744073709551616 % 18446744073709551616) k2x2 (by omega)
            have q2 := word_bit m 1 k2x2 (by omega)
            rw [show 64 * 1 + (63 - k2x2) = 255 - (128 + k2x2) by omega] at q2
            rw [← q2]
            exact fun t => lb7 (q.2 t)
          refine sU ?_
          refine Sy.skip ?_
          refine Sy.in_ ?_
          refine Sy.then_ ?_
          refine Sy.region ?_
          refine sP (.int .u64 ((bt k2x2 : Nat) : Int)) <| sS (.int .u64 ((bt (k2x2 + 1) : Nat) : Int)) (Quiet.pure (exec_int .quo _ _ _ .u64 _ _ _ rfl rfl rfl (int_quo _ _ _ _ _ (by decide) (by rw [← bt_next]; have := bt_le k2x2; rw [show ((bt k2x2 : Nat) : Int).tdiv 2 = ((bt k2x2 / 2 : Nat) : Int) from rfl]; exact wrap_u64 (by omega) (by omega))))) <| sP (.int .u64 ((bt (k2x2 + 1) : Nat) : Int)) ?_
          refine Sy.nil ?_
          exact Sy.againK [true, true, true, true, true] (M := [(g2, 52, (pcs 0 0 false)), (g3, 89, (fcs m)), (g4, 89, (fcs u.val)), (g5, 89, (fcs v.val)), (g6, 127, (tcs j3.x.val j3.y.val j3.z.val))]) (by omega) (all_cons kR (all_cons kR (all_cons kR (all_cons kR (all_cons kR (all_cons kR (all_cons kR all_nil))))))) kR (bcons rfl (bcons rfl (bcons rfl (bcons rfl (bcons (beq (by rw [hj3, ← bitJ_no fb7]; rfl)) rfl)))))
        · have lb7 : (m / 18446744073709551616 % 18446744073709551616) &&& bt k2x2 ≠ 0 := of_decide_eq_true hb7.symm
          have fb7 :  m / 2 ^ (255 - (128 + k2x2)) % 2 = 1 := by
            have q := and_bt (m / 18446744073709551616 % 18446744073709551616) k2x2 (by omega)
            have q2 := word_bit m 1 k2x2 (by omega)
            rw [show 64 * 1 + (63 - k2x2) = 255 - (128 + k2x2) by omega] at q2
            rw [← q2]
            exact q.1 lb7
          refine sT ?_
          refine Sy.region ?_
          refine sS (tv j3.x.val j3.y.val j3.z.val) (qL 4 g6 0 12 127 127 (tcs j3.x.val j3.y.val j3.z.val) rfl Tryz.underlying127) <| sS (fv u.val) (qL 2 g4 0 4 89 89 (fcs u.val) rfl Tryz.underlying89) <| sS (fv v.val) (qL 3 g5 0 4 89 89 (fcs v.val) rfl Tryz.underlying89) ?_
          obtain ⟨j4, hj4⟩ : ∃ z : J, z = plusR j3 u v := ⟨_, rfl⟩
          refine sS (tv j4.x.val j4.y.val j4.z.val) (qF 92 #[tv j3.x.val j3.y.val j3.z.val, fv u.val, fv v.val] (fun w => by rw [hj4]; exact plusR_c w j3 u v)) <| sW 4 g6 127 (tcs j3.x.val j3.y.val j3.z.val) (tcs j4.x.val j4.y.val j4.z.val) (wS 0 127 (tcs j4.x.val j4.y.val j4.z.val) rfl) ?_
          refine Sy.nil ?_
          refine Sy.in_ ?_
          refine Sy.then_ ?_
          refine Sy.region ?_
          refine sP (.int .u64 ((bt k2x2 : Nat) : Int)) <| sS (.int .u64 ((bt (k2x2 + 1) : Nat) : Int)) (Quiet.pure (exec_int .quo _ _ _ .u64 _ _ _ rfl rfl rfl (int_quo _ _ _ _ _ (by decide) (by rw [← bt_next]; have := bt_le k2x2; rw [show ((bt k2x2 : Nat) : Int).tdiv 2 = ((bt k2x2 / 2 : Nat) : Int) from rfl]; exact wrap_u64 (by omega) (by omega))))) <| sP (.int .u64 ((bt (k2x2 + 1) : Nat) : Int)) ?_
          refine Sy.nil ?_
          exact Sy.againK [true, true, true, true, true] (M := [(g2, 52, (pcs 0 0 false)), (g3, 89, (fcs m)), (g4, 89, (fcs u.val)), (g5, 89, (fcs v.val)), (g6, 127, (tcs j4.x.val j4.y.val j4.z.val))]) (by omega) (all_cons kR (all_cons kR (all_cons kR (all_cons kR (all_cons kR (all_cons kR (all_cons kR all_nil))))))) kR (bcons rfl (bcons rfl (bcons rfl (bcons rfl (bcons (beq (by rw [hj4, hj3, ← bitJ_yes fb7]; rfl)) rfl)))))
    · have lb2 : k2x1 < 64 := of_decide_eq_true hb2.symm
      refine sT ?_
      refine Sy.skip ?_
      refine Sy.then_ ?_
      refine Sy.seq ?_
      refine Sy.block ?_
      refine sC ?_
      refine sS (tv ((bitJ m u v (64 + k2x1)).x.val) ((bitJ m u v (64 + k2x1)).y.val) ((bitJ m u v (64 + k2x1)).z.val)) (qL 4 g6 0 12 127 127 (tcs ((bitJ m u v (64 + k2x1)).x.val) ((bitJ m u v (64 + k2x1)).y.val) ((bitJ m u v (64 + k2x1)).z.val)) rfl Tryz.underlying127) ?_
      obtain ⟨j5, hj5⟩ : ∃ z : J, z = dblR (bitJ m u v (64 + k2x1)) := ⟨_, rfl⟩
      refine sS (tv j5.x.val j5.y.val j5.z.val) (qF 91 #[tv ((bitJ m u v (64 + k2x1)).x.val) ((bitJ m u v (64 + k2x1)).y.val) ((bitJ m u v (64 + k2x1)).z.val)] (fun w => by rw [hj5]; exact twiceR_c w (bitJ m u v (64 + k2x1)))) <| sW 4 g6 127 (tcs ((bitJ m u v (64 + k2x1)).x.val) ((bitJ m u v (64 + k2x1)).y.val) ((bitJ m u v (64 + k2x1)).z.val)) (tcs j5.x.val j5.y.val j5.z.val) (wS 0 127 (tcs j5.x.val j5.y.val j5.z.val) rfl) ?_
      refine sA ?_
      refine sP (.int .i64 2) <| sP (.pointer (some ⟨g3, 2, none⟩)) <| sS (qv (m / 340282366920938463463374607431768211456 % 18446744073709551616)) (qC 1 g3 2 89 22 (fcs m) rfl Tryz.underlying22) <| sP (.int .u64 ((bt k2x1 : Nat) : Int)) <| sS (.int .u64 (((m / 340282366920938463463374607431768211456 % 18446744073709551616) &&& bt k2x1 : Nat) : Int)) (Quiet.pure (exec_and _ _ _ _ _ (m / 340282366920938463463374607431768211456 % 18446744073709551616) (bt k2x1) (Nat.mod_lt _ (by decide)) (bt_le _) rfl rfl rfl)) ?_
      obtain ⟨b8, hb8⟩ : ∃ z : Bool, z = decide ((m / 340282366920938463463374607431768211456 % 18446744073709551616) &&& bt k2x1 ≠ 0) := ⟨_, rfl⟩
      refine sS (.bool b8) (Quiet.pure (exec_int .neq _ _ _ .u64 _ _ _ rfl rfl rfl (int_neq _ _ _ _ _ (by rw [hb8]; exact decide_eq_decide.2 (by omega))))) ?_
      refine sG ?_
      cases b8
      · have lb8 : ¬ ((m / 340282366920938463463374607431768211456 % 18446744073709551616) &&& bt k2x1 ≠ 0) := of_decide_eq_false hb8.symm
        have fb8 : ¬ m / 2 ^ (255 - (64 + k2x1)) % 2 = 1 := by
          have q := and_bt (m / 340282366920938463463374607431768211456 % 18446744073709551616) k2x1 (by omega)
          have q2 := word_bit m 2 k2x1 (by omega)
          rw [show 64 * 2 + (63 - k2x1) = 255 - (64 + k2x1) by omega] at q2
          rw [← q2]
          exact fun t => lb8 (q.2 t)
        refine sU ?_
        refine Sy.skip ?_
        refine Sy.in_ ?_
        refine Sy.then_ ?_
        refine Sy.region ?_
        refine sP (.int .u64 ((bt k2x1 : Nat) : Int)) <| sS (.int .u64 ((bt (k2x1 + 1) : Nat) : Int)) (Quiet.pure (exec_int .quo _ _ _ .u64 _ _ _ rfl rfl rfl (int_quo _ _ _ _ _ (by decide) (by rw [← bt_next]; have := bt_le k2x1; rw [show ((bt k2x1 : Nat) : Int).tdiv 2 = ((bt k2x1 / 2 : Nat) : Int) from rfl]; exact wrap_u64 (by omega) (by omega))))) <| sP (.int .u64 ((bt (k2x1 + 1) : Nat) : Int)) ?_
        refine Sy.nil ?_
        exact Sy.againK [true, true, true, true, true] (M := [(g2, 52, (pcs 0 0 false)), (g3, 89, (fcs m)), (g4, 89, (fcs u.val)), (g5, 89, (fcs v.val)), (g6, 127, (tcs j5.x.val j5.y.val j5.z.val))]) (by omega) (all_cons kR (all_cons kR (all_cons kR (all_cons kR (all_cons kR (all_cons kR (all_cons kR all_nil))))))) kR (bcons rfl (bcons rfl (bcons rfl (bcons rfl (bcons (beq (by rw [hj5, ← bitJ_no fb8]; rfl)) rfl)))))
      · have lb8 : (m / 340282366920938463463374607431768211456 % 18446744073709551616) &&& bt k2x1 ≠ 0 := of_decide_eq_true hb8.symm
        have fb8 :  m / 2 ^ (255 - (64 + k2x1)) % 2 = 1 := by
          have q := and_bt (m / 340282366920938463463374607431768211456 % 18446744073709551616) k2x1 (by omega)
          have q2 := word_bit m 2 k2x1 (by omega)
          rw [show 64 * 2 + (63 - k2x1) = 255 - (64 + k2x1) by omega] at q2
          rw [← q2]
          exact q.1 lb8
        refine sT ?_
        refine Sy.region ?_
        refine sS (tv j5.x.val j5.y.val j5.z.val) (qL 4 g6 0 12 127 127 (tcs j5.x.val j5.y.val j5.z.val) rfl Tryz.underlying127) <| sS (fv u.val) (qL 2 g4 0 4 89 89 (fcs u.val) rfl Tryz.underlying89) <| sS (fv v.val) (qL 3 g5 0 4 89 89 (fcs v.val) rfl Tryz.underlying89) ?_
        obtain ⟨j6, hj6⟩ : ∃ z : J, z = plusR j5 u v := ⟨_, rfl⟩
        refine sS (tv j6.x.val j6.y.val j6.z.val) (qF 92 #[tv j5.x.val j5.y.val j5.z.val, fv u.val, fv v.val] (fun w => by rw [hj6]; exact plusR_c w j5 u v)) <| sW 4 g6 127 (tcs j5.x.val j5.y.val j5.z.val) (tcs j6.x.val j6.y.val j6.z.val) (wS 0 127 (tcs j6.x.val j6.y.val j6.z.val) rfl) ?_
        refine Sy.nil ?_
        refine Sy.in_ ?_
        refine Sy.then_ ?_
        refine Sy.region ?_
        refine sP (.int .u64 ((bt k2x1 : Nat) : Int)) <| sS (.int .u64 ((bt (k2x1 + 1) : Nat) : Int)) (Quiet.pure (exec_int .quo _ _ _ .u64 _ _ _ rfl rfl rfl (int_quo _ _ _ _ _ (by decide) (by rw [← bt_next]; have := bt_le k2x1; rw [show ((bt k2x1 : Nat) : Int).tdiv 2 = ((bt k2x1 / 2 : Nat) : Int) from rfl]; exact wrap_u64 (by omega) (by omega))))) <| sP (.int .u64 ((bt (k2x1 + 1) : Nat) : Int)) ?_
        refine Sy.nil ?_
        exact Sy.againK [true, true, true, true, true] (M := [(g2, 52, (pcs 0 0 false)), (g3, 89, (fcs m)), (g4, 89, (fcs u.val)), (g5, 89, (fcs v.val)), (g6, 127, (tcs j6.x.val j6.y.val j6.z.val))]) (by omega) (all_cons kR (all_cons kR (all_cons kR (all_cons kR (all_cons kR (all_cons kR (all_cons kR all_nil))))))) kR (bcons rfl (bcons rfl (bcons rfl (bcons rfl (bcons (beq (by rw [hj6, hj5, ← bitJ_yes fb8]; rfl)) rfl)))))
  · have lb1 : k2x0 < 64 := of_decide_eq_true hb1.symm
    refine sT ?_
    refine Sy.skip ?_
    refine Sy.then_ ?_
    refine Sy.seq ?_
    refine Sy.block ?_
    refine sC ?_
    refine sS (tv ((bitJ m u v (0 + k2x0)).x.val) ((bitJ m u v (0 + k2x0)).y.val) ((bitJ m u v (0 + k2x0)).z.val)) (qL 4 g6 0 12 127 127 (tcs ((bitJ m u v (0 + k2x0)).x.val) ((bitJ m u v (0 + k2x0)).y.val) ((bitJ m u v (0 + k2x0)).z.val)) rfl Tryz.underlying127) ?_
    obtain ⟨j7, hj7⟩ : ∃ z : J, z = dblR (bitJ m u v (0 + k2x0)) := ⟨_, rfl⟩
    refine sS (tv j7.x.val j7.y.val j7.z.val) (qF 91 #[tv ((bitJ m u v (0 + k2x0)).x.val) ((bitJ m u v (0 + k2x0)).y.val) ((bitJ m u v (0 + k2x0)).z.val)] (fun w => by rw [hj7]; exact twiceR_c w (bitJ m u v (0 + k2x0)))) <| sW 4 g6 127 (tcs ((bitJ m u v (0 + k2x0)).x.val) ((bitJ m u v (0 + k2x0)).y.val) ((bitJ m u v (0 + k2x0)).z.val)) (tcs j7.x.val j7.y.val j7.z.val) (wS 0 127 (tcs j7.x.val j7.y.val j7.z.val) rfl) ?_
    refine sA ?_
    refine sP (.int .i64 3) <| sP (.pointer (some ⟨g3, 3, none⟩)) <| sS (qv (m / 6277101735386680763835789423207666416102355444464034512896 % 18446744073709551616)) (qC 1 g3 3 89 22 (fcs m) rfl Tryz.underlying22) <| sP (.int .u64 ((bt k2x0 : Nat) : Int)) <| sS (.int .u64 (((m / 6277101735386680763835789423207666416102355444464034512896 % 18446744073709551616) &&& bt k2x0 : Nat) : Int)) (Quiet.pure (exec_and _ _ _ _ _ (m / 6277101735386680763835789423207666416102355444464034512896 % 18446744073709551616) (bt k2x0) (Nat.mod_lt _ (by decide)) (bt_le _) rfl rfl rfl)) ?_
    obtain ⟨b9, hb9⟩ : ∃ z : Bool, z = decide ((m / 6277101735386680763835789423207666416102355444464034512896 % 18446744073709551616) &&& bt k2x0 ≠ 0) := ⟨_, rfl⟩
    refine sS (.bool b9) (Quiet.pure (exec_int .neq _ _ _ .u64 _ _ _ rfl rfl rfl (int_neq _ _ _ _ _ (by rw [hb9]; exact decide_eq_decide.2 (by omega))))) ?_
    refine sG ?_
    cases b9
    · have lb9 : ¬ ((m / 6277101735386680763835789423207666416102355444464034512896 % 18446744073709551616) &&& bt k2x0 ≠ 0) := of_decide_eq_false hb9.symm
      have fb9 : ¬ m / 2 ^ (255 - (0 + k2x0)) % 2 = 1 := by
        have q := and_bt (m / 6277101735386680763835789423207666416102355444464034512896 % 18446744073709551616) k2x0 (by omega)
        have q2 := word_bit m 3 k2x0 (by omega)
        rw [show 64 * 3 + (63 - k2x0) = 255 - (0 + k2x0) by omega] at q2
        rw [← q2]
        exact fun t => lb9 (q.2 t)
      refine sU ?_
      refine Sy.skip ?_
      refine Sy.in_ ?_
      refine Sy.then_ ?_
      refine Sy.region ?_
      refine sP (.int .u64 ((bt k2x0 : Nat) : Int)) <| sS (.int .u64 ((bt (k2x0 + 1) : Nat) : Int)) (Quiet.pure (exec_int .quo _ _ _ .u64 _ _ _ rfl rfl rfl (int_quo _ _ _ _ _ (by decide) (by rw [← bt_next]; have := bt_le k2x0; rw [show ((bt k2x0 : Nat) : Int).tdiv 2 = ((bt k2x0 / 2 : Nat) : Int) from rfl]; exact wrap_u64 (by omega) (by omega))))) <| sP (.int .u64 ((bt (k2x0 + 1) : Nat) : Int)) ?_
      refine Sy.nil ?_
      exact Sy.againK [true, true, true, true, true] (M := [(g2, 52, (pcs 0 0 false)), (g3, 89, (fcs m)), (g4, 89, (fcs u.val)), (g5, 89, (fcs v.val)), (g6, 127, (tcs j7.x.val j7.y.val j7.z.val))]) (by omega) (all_cons kR (all_cons kR (all_cons kR (all_cons kR (all_cons kR (all_cons kR (all_cons kR all_nil))))))) kR (bcons rfl (bcons rfl (bcons rfl (bcons rfl (bcons (beq (by rw [hj7, ← bitJ_no fb9]; rfl)) rfl)))))
    · have lb9 : (m / 6277101735386680763835789423207666416102355444464034512896 % 18446744073709551616) &&& bt k2x0 ≠ 0 := of_decide_eq_true hb9.symm
      have fb9 :  m / 2 ^ (255 - (0 + k2x0)) % 2 = 1 := by
        have q := and_bt (m / 6277101735386680763835789423207666416102355444464034512896 % 18446744073709551616) k2x0 (by omega)
        have q2 := word_bit m 3 k2x0 (by omega)
        rw [show 64 * 3 + (63 - k2x0) = 255 - (0 + k2x0) by omega] at q2
        rw [← q2]
        exact q.1 lb9
      refine sT ?_
      refine Sy.region ?_
      refine sS (tv j7.x.val j7.y.val j7.z.val) (qL 4 g6 0 12 127 127 (tcs j7.x.val j7.y.val j7.z.val) rfl Tryz.underlying127) <| sS (fv u.val) (qL 2 g4 0 4 89 89 (fcs u.val) rfl Tryz.underlying89) <| sS (fv v.val) (qL 3 g5 0 4 89 89 (fcs v.val) rfl Tryz.underlying89) ?_
      obtain ⟨j8, hj8⟩ : ∃ z : J, z = plusR j7 u v := ⟨_, rfl⟩
      refine sS (tv j8.x.val j8.y.val j8.z.val) (qF 92 #[tv j7.x.val j7.y.val j7.z.val, fv u.val, fv v.val] (fun w => by rw [hj8]; exact plusR_c w j7 u v)) <| sW 4 g6 127 (tcs j7.x.val j7.y.val j7.z.val) (tcs j8.x.val j8.y.val j8.z.val) (wS 0 127 (tcs j8.x.val j8.y.val j8.z.val) rfl) ?_
      refine Sy.nil ?_
      refine Sy.in_ ?_
      refine Sy.then_ ?_
      refine Sy.region ?_
      refine sP (.int .u64 ((bt k2x0 : Nat) : Int)) <| sS (.int .u64 ((bt (k2x0 + 1) : Nat) : Int)) (Quiet.pure (exec_int .quo _ _ _ .u64 _ _ _ rfl rfl rfl (int_quo _ _ _ _ _ (by decide) (by rw [← bt_next]; have := bt_le k2x0; rw [show ((bt k2x0 : Nat) : Int).tdiv 2 = ((bt k2x0 / 2 : Nat) : Int) from rfl]; exact wrap_u64 (by omega) (by omega))))) <| sP (.int .u64 ((bt (k2x0 + 1) : Nat) : Int)) ?_
      refine Sy.nil ?_
      exact Sy.againK [true, true, true, true, true] (M := [(g2, 52, (pcs 0 0 false)), (g3, 89, (fcs m)), (g4, 89, (fcs u.val)), (g5, 89, (fcs v.val)), (g6, 127, (tcs j8.x.val j8.y.val j8.z.val))]) (by omega) (all_cons kR (all_cons kR (all_cons kR (all_cons kR (all_cons kR (all_cons kR (all_cons kR all_nil))))))) kR (bcons rfl (bcons rfl (bcons rfl (bcons rfl (bcons (beq (by rw [hj8, hj7, ← bitJ_yes fb9]; rfl)) rfl)))))
theorem mulRe_any (w : World) (k x y : Nat) (i : Bool) (hk : k < K4) (hx : x < K4) (hy : y < K4) : Calls Tryz.prog 42 #[fv k, pv x y i] w (Gets w (ptv (Ec.nm finv (k % Sc.pM) (dec x y i)))) := by
  have o1 := dec_on x y i
  rcases h : dec x y i with _ | ⟨u, v⟩
  · rw [Ec.nm_none]
    exact mulRe_none w k x y i hk hx hy h
  · rw [h] at o1
    exact mulRe_some w k x y i hk hx hy u v h o1
end Go.Proofs.YtbofhoonlmikcaaGreatDoor.Cu

end
section
namespace Go.Proofs.YtbofhoonlmikcaaGreatDoor.Sc
open Go.RowKit Go.Lib

end Go.Proofs.YtbofhoonlmikcaaGreatDoor.Sc

end
section
namespace Go.Proofs.YtbofhoonlmikcaaGreatDoor.Sc
open Go.RowKit Go.Lib
set_option maxRecDepth 100000

theorem of_any (w : World) (n : Nat) (hn : n < 18446744073709551616) : Calls Tryz.prog 66 #[.int .u64 (n : Int)] w fun e w' => e = .returned (fv n) ∧ Below w.heap.size w w' := by
  rw [fv_small n hn]
  go_enter Tryz.func66, Tryz.ntmps66
  go_wp2
  exact bodyPost_ret (results_cell_row rfl _ _ w.heap.size _ _ (0, 0) _ rfl (heap_alloc_new w _) Tryz.underlying24 rfl kR) rfl ⟨rfl, (Below.refl _ _).alloc (Nat.le_refl _) _⟩
end Go.Proofs.YtbofhoonlmikcaaGreatDoor.Sc

end
section
namespace Go.Proofs.YtbofhoonlmikcaaGreatDoor.Sc
open Go.RowKit Go.Lib

theorem run_equalIn_fv (W : World) (n m : Nat) (hn : n < 115792089237316195423570985008687907853269984665640564039457584007913129639936) (hm : m < 115792089237316195423570985008687907853269984665640564039457584007913129639936) : (Op.equalIn 10000 24 (fv n) (fv m)).run Tryz.prog W = .ok (decide (n = m)) W := by
  rw [fv_wl, fv_wl]
  have h := run_equalIn_words W 9998 24 22 4 Tryz.underlying24 Tryz.underlying22 (fun W => by kernel_rfl) (wl n) (wl m) rfl rfl
  rw [wl_beq hn hm] at h
  exact h
theorem run_eql_fv (W : World) (n m : Nat) (hn : n < 115792089237316195423570985008687907853269984665640564039457584007913129639936) (hm : m < 115792089237316195423570985008687907853269984665640564039457584007913129639936) : (binOp .eql 24 (fv n) (fv m)).run Tryz.prog W = .ok (.bool (decide (n = m))) W := by
  have h := run_equalIn_fv W n m hn hm
  rw [fv_wl, fv_wl] at h ⊢
  rw [run_eql_struct, h]
  rfl
theorem run_neq_fv (W : World) (n m : Nat) (hn : n < 115792089237316195423570985008687907853269984665640564039457584007913129639936) (hm : m < 115792089237316195423570985008687907853269984665640564039457584007913129639936) : (binOp .neq 24 (fv n) (fv m)).run Tryz.prog W = .ok (.bool (decide (n ≠ m))) W := by
  have h := run_equalIn_fv W n m hn hm
  rw [fv_wl, fv_wl] at h ⊢
  rw [run_neq_struct, h]
  by_cases e : n = m <;> simp [e]

theorem run_eqGuard_fv (op : BinOp) (x y : Operand) (n m : Nat) (W : World) : (eqGuard op 24 x y (fv n) (fv m)).run Tryz.prog W = .ok () W := by
  rw [fv_fcs, fv_fcs]
  go_simp

end Go.Proofs.YtbofhoonlmikcaaGreatDoor.Sc

end
section
namespace Go.Proofs.YtbofhoonlmikcaaGreatDoor.Cu
open Go.RowKit Go.Proofs.YtbofhoonlmikcaaGreatDoor Go.Proofs.YtbofhoonlmikcaaGreatDoor.Sy

theorem liftP_on (l : List UInt8) : Ec.On (liftP l) := by
  cases h : liftB l
  · rw [lift_no h]; trivial
  · obtain ⟨u, y, _, _, e, ho, _⟩ := lift_yes h
    rw [e]; exact ho
theorem list32 (m : List UInt8) (h : m.length = 32) : ∃ a0 a1 a2 a3 a4 a5 a6 a7 a8 a9 a10 a11 a12 a13 a14 a15 a16 a17 a18 a19 a20 a21 a22 a23 a24 a25 a26 a27 a28 a29 a30 a31 : UInt8, m = [a0, a1, a2, a3, a4, a5, a6, a7, a8, a9, a10, a11, a12, a13, a14, a15, a16, a17, a18, a19, a20, a21, a22, a23, a24, a25, a26, a27, a28, a29, a30, a31] := by
  match m, h with
  | [a0, a1, a2, a3, a4, a5, a6, a7, a8, a9, a10, a11, a12, a13, a14, a15, a16, a17, a18, a19, a20, a21, a22, a23, a24, a25, a26, a27, a28, a29, a30, a31], _ => exact ⟨a0, a1, a2, a3, a4, a5, a6, a7, a8, a9, a10, a11, a12, a13, a14, a15, a16, a17, a18, a19, a20, a21, a22, a23, a24, a25, a26, a27, a28, a29, a30, a31,  rfl⟩
end Go.Proofs.YtbofhoonlmikcaaGreatDoor.Cu

end
section
namespace Go.Proofs.YtbofhoonlmikcaaGreatDoor.Cu
open Go.RowKit Go.Proofs.YtbofhoonlmikcaaGreatDoor Go.Proofs.YtbofhoonlmikcaaGreatDoor.Sy
set_option maxRecDepth 100000
set_option maxHeartbeats 4000000

end Go.Proofs.YtbofhoonlmikcaaGreatDoor.Cu

end
section
namespace Go.Proofs.YtbofhoonlmikcaaGreatDoor.Cu
open Go.RowKit Go.Proofs.YtbofhoonlmikcaaGreatDoor Go.Proofs.YtbofhoonlmikcaaGreatDoor.Sy

theorem eql_digest (w : World) (F : Slots) (o : Oper) (x y : Operand) (a b : List UInt8) (ha : a.length = 32) (hb : b.length = 32) {yt : TypeId} (ho : o.op = .binOp .eql 47 x y yt) (hx : evF F x = .agg (a.map bv).toArray) (hy : evF F y = .agg (b.map bv).toArray) : (execOp (evF F) o).run Tryz.prog w = .ok (.value (.bool (decide (a = b)))) w := by
  have h1 : (eqGuard .eql 47 x y (.agg (a.map bv).toArray) (.agg (b.map bv).toArray)).run Tryz.prog w = .ok () w := by go_simp
  have h2 : (binOp .eql 47 (.agg (a.map bv).toArray) (.agg (b.map bv).toArray)).run Tryz.prog w = .ok (.bool (decide (a = b))) w := by
    have h := run_equalIn_bytes (P := Tryz.prog) w 9998 47 5 32 Tryz.underlying47 Tryz.underlying5 (fun W => by kernel_rfl) a b ha hb
    rw [run_eql_struct, show (10000 : Nat) = 9998 + 2 from rfl, show (Op.equalIn (9998 + 2) 47 (.agg (a.map bv).toArray) (.agg (b.map bv).toArray)).run Tryz.prog w = _ from h]
    by_cases e : a = b <;> simp [e]
  unfold execOp
  simp only [ho, hx, hy, Sem.run_bind, h1, h2, Result.andThen_ok, Sem.run_pure]
theorem neq_digest (w : World) (F : Slots) (o : Oper) (x y : Operand) (a b : List UInt8) (ha : a.length = 32) (hb : b.length = 32) {yt : TypeId} (ho : o.op = .binOp .neq 47 x y yt) (hx : evF F x = .agg (a.map bv).toArray) (hy : evF F y = .agg (b.map bv).toArray) : (execOp (evF F) o).run Tryz.prog w = .ok (.value (.bool (decide (a ≠ b)))) w := by
  have h1 : (eqGuard .neq 47 x y (.agg (a.map bv).toArray) (.agg (b.map bv).toArray)).run Tryz.prog w = .ok () w := by go_simp
  have h2 : (binOp .neq 47 (.agg (a.map bv).toArray) (.agg (b.map bv).toArray)).run Tryz.prog w = .ok (.bool (decide (a ≠ b))) w := by
    have h := run_equalIn_bytes (P := Tryz.prog) w 9998 47 5 32 Tryz.underlying47 Tryz.underlying5 (fun W => by kernel_rfl) a b ha hb
    rw [run_neq_struct, show (10000 : Nat) = 9998 + 2 from rfl, show (Op.equalIn (9998 + 2) 47 (.agg (a.map bv).toArray) (.agg (b.map bv).toArray)).run Tryz.prog w = _ from h]
    by_cases e : a = b <;> simp [e]
  unfold execOp
  simp only [ho, hx, hy, Sem.run_bind, h1, h2, Result.andThen_ok, Sem.run_pure]
end Go.Proofs.YtbofhoonlmikcaaGreatDoor.Cu

end
section
namespace Go.Proofs.YtbofhoonlmikcaaGreatDoor.Cu
open Go.RowKit Go.Proofs.YtbofhoonlmikcaaGreatDoor Go.Proofs.YtbofhoonlmikcaaGreatDoor.Sy

theorem eql_bool_same (w : World) (F : Slots) (o : Oper) (x y : Operand) (b : Bool) {yt : TypeId} (ho : o.op = .binOp .eql 4 x y yt) (hx : evF F x = .bool b) (hy : evF F y = .bool b) : (execOp (evF F) o).run Tryz.prog w = .ok (.value (.bool true)) w := by
  unfold execOp
  simp only [ho, hx, hy]
  cases b <;> kernel_rfl
theorem eql_pt_same (w : World) (F : Slots) (o : Oper) (x y : Operand) (a b : Nat) (i : Bool) {yt : TypeId} (ho : o.op = .binOp .eql 52 x y yt) (hx : evF F x = pv a b i) (hy : evF F y = pv a b i) (ha : a < K4) (hb : b < K4) : (execOp (evF F) o).run Tryz.prog w = .ok (.value (.bool true)) w := by
  have h := eql_pt w F o x y a b i a b i ho hx hy ha hb ha hb
  have e : sameB a b i a b i = true := by
    unfold sameB
    simp
  rwa [e] at h
end Go.Proofs.YtbofhoonlmikcaaGreatDoor.Cu

end
section
namespace Go.Proofs.YtbofhoonlmikcaaGreatDoor.Cu
open Go.RowKit Go.Proofs.YtbofhoonlmikcaaGreatDoor Go.Proofs.YtbofhoonlmikcaaGreatDoor.Sy
set_option maxRecDepth 100000
set_option maxHeartbeats 4000000

theorem small_lt {v : Nat} (h : v < 18446744073709551616) : v < K4 := Nat.lt_trans h (by decide)
def l32 (f : Nat → UInt8) : List UInt8 := [f 0, f 1, f 2, f 3, f 4, f 5, f 6, f 7, f 8, f 9, f 10, f 11, f 12, f 13, f 14, f 15, f 16, f 17, f 18, f 19, f 20, f 21, f 22, f 23, f 24, f 25, f 26, f 27, f 28, f 29, f 30, f 31]
theorem lP {n : Nat} (h : n < K4 := by first | assumption | exact small_lt (by assumption) | exact pX_lt _ | exact pY_lt _ | exact lt4 _ | exact Sc.mod_lt _ | decide +kernel) : n < K4 := h
theorem l32_len (f : Nat → UInt8) : (l32 f).length = 32 := rfl
theorem l32_of (l : List UInt8) (h : l.length = 32) : ∃ f, l = l32 f := by
  obtain ⟨a0, a1, a2, a3, a4, a5, a6, a7, a8, a9, a10, a11, a12, a13, a14, a15, a16, a17, a18, a19, a20, a21, a22, a23, a24, a25, a26, a27, a28, a29, a30, a31, rfl⟩ := list32 l h
  exact ⟨fun j => ([a0, a1, a2, a3, a4, a5, a6, a7, a8, a9, a10, a11, a12, a13, a14, a15, a16, a17, a18, a19, a20, a21, a22, a23, a24, a25, a26, a27, a28, a29, a30, a31]).getD j 0, rfl⟩
def tml (k x y : Nat) (i : Bool) : List Value := fws k ++ (fws x ++ (fws y ++ [Value.bool i]))
theorem neq_pt (w : World) (F : Slots) (o : Oper) (x y : Operand) (a b : Nat) (i : Bool) (c d : Nat) (j : Bool) {yt : TypeId} (ho : o.op = .binOp .neq 52 x y yt) (hx : evF F x = pv a b i) (hy : evF F y = pv c d j) (ha : a < K4) (hb : b < K4) (hc : c < K4) (hd : d < K4) : (execOp (evF F) o).run Tryz.prog w = .ok (.value (.bool (!sameB a b i c d j))) w := by
  have h1 := run_eqGuard_pv .neq x y a b i c d j w
  have h2 := run_eql_pv w a b i c d j ha hb hc hd
  have h3 : (binOp .neq 52 (pv a b i) (pv c d j)).run Tryz.prog w = .ok (.bool (!sameB a b i c d j)) w := by
    unfold pv at h2 ⊢
    rw [run_eql_struct] at h2
    rw [run_neq_struct]
    generalize (Op.equalIn 10000 52 (Value.agg (pcs a b i)) (Value.agg (pcs c d j))).run Tryz.prog w = r at h2 ⊢
    revert h2
    cases r <;> simp <;> intros <;> simp_all
  unfold execOp
  simp only [ho, hx, hy, Sem.run_bind, h1, h3, Result.andThen_ok, Sem.run_pure]
theorem sameB_self (a b : Nat) (i : Bool) : sameB a b i a b i = true := by
  unfold sameB
  simp
theorem eql_sc (w : World) (F : Slots) (o : Oper) (x y : Operand) (n m : Nat) {yt : TypeId} (ho : o.op = .binOp .eql 24 x y yt) (hx : evF F x = fv n) (hy : evF F y = fv m) (hn : n < K4) (hm : m < K4) : (execOp (evF F) o).run Tryz.prog w = .ok (.value (.bool (decide (n = m)))) w := by
  have h1 := Sc.run_eqGuard_fv .eql x y n m w
  have h2 := Sc.run_eql_fv w n m hn hm
  unfold execOp
  simp only [ho, hx, hy, Sem.run_bind, h1, h2, Result.andThen_ok, Sem.run_pure]
theorem neq_sc (w : World) (F : Slots) (o : Oper) (x y : Operand) (n m : Nat) {yt : TypeId} (ho : o.op = .binOp .neq 24 x y yt) (hx : evF F x = fv n) (hy : evF F y = fv m) (hn : n < K4) (hm : m < K4) : (execOp (evF F) o).run Tryz.prog w = .ok (.value (.bool (!decide (n = m)))) w := by
  have h1 := Sc.run_eqGuard_fv .neq x y n m w
  have h2 := Sc.run_neq_fv w n m hn hm
  rw [decide_not] at h2
  unfold execOp
  simp only [ho, hx, hy, Sem.run_bind, h1, h2, Result.andThen_ok, Sem.run_pure]
theorem nne_digest (w : World) (F : Slots) (o : Oper) (x y : Operand) (a b : List UInt8) (ha : a.length = 32) (hb : b.length = 32) {yt : TypeId} (ho : o.op = .binOp .neq 47 x y yt) (hx : evF F x = .agg (a.map bv).toArray) (hy : evF F y = .agg (b.map bv).toArray) : (execOp (evF F) o).run Tryz.prog w = .ok (.value (.bool (!decide (a = b)))) w := by
  have h := neq_digest w F o x y a b ha hb ho hx hy
  rwa [decide_not] at h
theorem multi2 {w : World} {g k x y l u v : Nat} {i j : Bool} {t : TypeId} {P Q R : Pt} (hk : k < K4) (hx : x < K4) (hy : y < K4) (hl : l < K4) (hu : u < K4) (hv : v < K4) (h1 : dec x y i = P) (h2 : dec u v j = Q) (hb : Blk w g t (tml k x y i ++ (tml l u v j)).toArray) (hR : Ec.add finv (Ec.nm finv (k % Sc.pM) P) (Ec.nm finv (l % Sc.pM) Q) = R) :
    Calls Tryz.prog 65 #[.slice (some ⟨g, 0, none⟩) 2 2] w (Gets w (pv (pX R) (pY R) (pI R))) := by
  have hr : w.rangeAt g 0 (tml k x y i ++ tml l u v j) := blk_range hb (by rw [List.drop_zero]; exact List.take_of_length_le (Nat.le_refl _))
  have h := multi_any w (some ⟨g, 0, none⟩) g 0 2 2 (fun j' => if j' = 0 then ⟨k, x, y, i⟩ else ⟨l, u, v, j⟩) (Nat.le_refl _) (by decide) (fun j' => by
    show Trm.ok (if j' = 0 then _ else _)
    split
    · exact ⟨hk, hx, hy⟩
    · exact ⟨hl, hu, hv⟩) (fun _ => ⟨rfl, hb.lt, fun j' hj => by
    rcases j' with _ | _ | j'
    · exact range_left hr
    · exact range_right hr rfl
    · omega⟩)
  have e0 : Ec.sumL finv (fun t => Ec.nm finv ((fun j' => if j' = 0 then (⟨k, x, y, i⟩ : Trm) else ⟨l, u, v, j⟩) t).kn ((fun j' => if j' = 0 then (⟨k, x, y, i⟩ : Trm) else ⟨l, u, v, j⟩) t).pt) (List.range 2) = R := by
    show Ec.add finv (Ec.add finv none (Ec.nm finv (k % Sc.pM) (dec x y i))) (Ec.nm finv (l % Sc.pM) (dec u v j)) = _
    rw [Ec.zero_add, h1, h2, hR]
  rw [e0, ptv_parts] at h
  exact h
theorem mulR_of {P R : Pt} {k a b : Nat} {i : Bool} (hk : k < K4) (ha : a < K4) (hb : b < K4) (h1 : dec a b i = P) (he : Ec.nm finv (k % Sc.pM) P = R) (w : World) : Calls Tryz.prog 42 #[fv k, pv a b i] w (Gets w (pv (pX R) (pY R) (pI R))) := by
  have h := mulRe_any w k a b i hk ha hb
  rw [h1, he, ptv_parts] at h
  exact h
theorem mul_of7 {P R : Pt} {k a b : Nat} {i : Bool} (hk : k < K4) (ha : a < K4) (hb : b < K4) (h1 : dec a b i = P) (he : Ec.nm finv (k % Sc.pM) P = R) (w : World) : Calls Tryz.prog 70 #[fv k, pv a b i] w (Gets w (pv (pX R) (pY R) (pI R))) := by
  have h := mul_any w k a b i hk ha hb
  rw [h1, he, ptv_parts] at h
  exact h
theorem addR_of {P Q R : Pt} {a b c d : Nat} {i j : Bool} (ha : a < K4) (hb : b < K4) (hc : c < K4) (hd : d < K4) (h1 : dec a b i = P) (h2 : dec c d j = Q) (he : Ec.add finv P Q = R) (w : World) : Calls Tryz.prog 58 #[pv a b i, pv c d j] w (Gets w (pv (pX R) (pY R) (pI R))) := by
  have h := addRe_any w a b i c d j ha hb hc hd
  rw [h1, h2, he, ptv_parts] at h
  exact h
theorem valP_zero (v : Nat) (P : Pt) : valP v P 0 = Ec.nm finv (v % Sc.pM) P := by
  unfold valP
  rw [zero_pM]
  exact Ec.add_zero _
theorem val_any (w : World) (v : Nat) (hv : v < 18446744073709551616) (x y : Nat) (i : Bool) (hx : x < K4) (hy : y < K4) (k : Nat) (hk : k < K4) : Calls Tryz.prog 25 #[.int .u64 ((v : Nat) : Int), pv x y i, fv k] w (Gets w (ptv (valP v (dec x y i) k))) := by
  refine Sy.enter (args := [.int .u64 ((v : Nat) : Int), pv x y i, fv k]) Tryz.func25 rfl kL ?_
  refine sC ?_
  refine sM 52 (pcs x y i) (fun g0 => ?_)
  refine sM 24 (fcs k) (fun g1 => ?_)
  refine sM 52 (pcs 0 0 false) (fun g2 => ?_)
  refine sH (fun j => j == 9) ?_
  refine sZ 0 rfl (.int .u64 ((v : Nat) : Int)) <| sD 1 rfl (fv v) (qF 66 #[.int .u64 ((v : Nat) : Int)] (fun w => Sc.of_any w v hv)) <| sD 2 rfl (pv x y i) (qL 0 g0 0 9 52 52 (pcs x y i) rfl Tryz.underlying52) <| sZ 3 rfl (trv v x y i) <| sD 4 rfl (fv k) (qL 1 g1 0 4 24 24 (fcs k) rfl Tryz.underlying24) <| sD 5 rfl (pv (pX bP) (pY bP) (pI bP)) (qF 67 #[] (fun w => by rw [← ptv_parts]; exact base_c w)) <| sZ 6 rfl (trv k (pX bP) (pY bP) (pI bP)) ?_
  refine Sy.makeD 7 rfl kR kR 105 (tml v x y i ++ (tml k (pX bP) (pY bP) (pI bP))).toArray (fun g => .slice (some ⟨g, 0, none⟩) 2 2) kF (fun g3 => ?_)
  obtain ⟨R1, hR1⟩ : ∃ P : Pt, P = Ec.add finv (Ec.nm finv (v % Sc.pM) (dec x y i)) (Ec.nm finv (k % Sc.pM) bP) := ⟨_, rfl⟩
  have oR1 : Ec.On R1 := by rw [hR1]; exact Ec.On.add fld ((dec_on _ _ _).nm fld _) (bP_on.nm fld _)
  refine sD 8 rfl (pv (pX R1) (pY R1) (pI R1)) (qG 65 #[.slice (some ⟨g3, 0, none⟩) 2 2] (fun w hw => multi2 lP lP lP lP lP lP rfl (dec_parts bP_on)  (hw.get (i := 3) rfl) hR1.symm)) <| sX 9 rfl 2 g2 52 (pcs 0 0 false) (pcs (pX R1) (pY R1) (pI R1)) (wS 0 52 (pcs (pX R1) (pY R1) (pI R1)) rfl) ?_
  refine sI ?_
  refine Sy.ret ?_
  rw [show (ptv (valP v (dec x y i) k) : Value) = pv (pX R1) (pY R1) (pI R1) from by rw [← ptv_parts, hR1]; rfl]
  exact rC (v := pv (pX R1) (pY R1) (pI R1)) 52 g2 2 (pcs (pX R1) (pY R1) (pI R1)) rfl Tryz.underlying52
theorem valR_any (w : World) (v : Nat) (hv : v < 18446744073709551616) (x y : Nat) (i : Bool) (hx : x < K4) (hy : y < K4) (k : Nat) (hk : k < K4) : Calls Tryz.prog 26 #[.int .u64 ((v : Nat) : Int), pv x y i, fv k] w (Gets w (ptv (valP v (dec x y i) k))) := by
  refine Sy.enter (args := [.int .u64 ((v : Nat) : Int), pv x y i, fv k]) Tryz.func26 rfl kL ?_
  refine sC ?_
  refine sM 52 (pcs x y i) (fun g0 => ?_)
  refine sM 24 (fcs k) (fun g1 => ?_)
  refine sM 52 (pcs 0 0 false) (fun g2 => ?_)
  refine sH (fun j => j == 8) ?_
  refine sZ 0 rfl (.int .u64 ((v : Nat) : Int)) <| sD 1 rfl (fv v) (Quiet.pure (fun w => by rw [fv_small v hv]; kernel_rfl)) <| sD 2 rfl (pv x y i) (qL 0 g0 0 9 52 52 (pcs x y i) rfl Tryz.underlying52) ?_
  obtain ⟨R1, hR1⟩ : ∃ P : Pt, P = Ec.nm finv (v % Sc.pM) (dec x y i) := ⟨_, rfl⟩
  have oR1 : Ec.On R1 := by rw [hR1]; exact (dec_on _ _ _).nm fld _
  refine sD 3 rfl (pv (pX R1) (pY R1) (pI R1)) (qF 42 #[fv v, pv x y i] (mulR_of lP lP lP rfl hR1.symm)) <| sD 4 rfl (fv k) (qL 1 g1 0 4 24 24 (fcs k) rfl Tryz.underlying24) <| sD 5 rfl (pv (pX bP) (pY bP) (pI bP)) (qF 43 #[] (fun w => by rw [← ptv_parts]; exact baseR_c w)) ?_
  obtain ⟨R2, hR2⟩ : ∃ P : Pt, P = Ec.nm finv (k % Sc.pM) bP := ⟨_, rfl⟩
  have oR2 : Ec.On R2 := by rw [hR2]; exact bP_on.nm fld _
  refine sD 6 rfl (pv (pX R2) (pY R2) (pI R2)) (qF 42 #[fv k, pv (pX bP) (pY bP) (pI bP)] (mulR_of lP lP lP (dec_parts bP_on) hR2.symm)) ?_
  obtain ⟨R3, hR3⟩ : ∃ P : Pt, P = Ec.add finv R1 R2 := ⟨_, rfl⟩
  have oR3 : Ec.On R3 := by rw [hR3]; exact Ec.On.add fld oR1 oR2
  refine sD 7 rfl (pv (pX R3) (pY R3) (pI R3)) (qF 58 #[pv (pX R1) (pY R1) (pI R1), pv (pX R2) (pY R2) (pI R2)] (addR_of lP lP lP lP (dec_parts oR1) (dec_parts oR2)  hR3.symm)) <| sX 8 rfl 2 g2 52 (pcs 0 0 false) (pcs (pX R3) (pY R3) (pI R3)) (wS 0 52 (pcs (pX R3) (pY R3) (pI R3)) rfl) ?_
  refine sI ?_
  refine Sy.ret ?_
  rw [show (ptv (valP v (dec x y i) k) : Value) = pv (pX R3) (pY R3) (pI R3) from by rw [← ptv_parts, hR3, hR2, hR1]; rfl]
  exact rC (v := pv (pX R3) (pY R3) (pI R3)) 52 g2 2 (pcs (pX R3) (pY R3) (pI R3)) rfl Tryz.underlying52
theorem val_of {P R : Pt} {v x y k : Nat} {i : Bool} (hv : v < 18446744073709551616) (hx : x < K4) (hy : y < K4) (hk : k < K4) (h1 : dec x y i = P) (hR : valP v P k = R) (w : World) : Calls Tryz.prog 25 #[.int .u64 ((v : Nat) : Int), pv x y i, fv k] w (Gets w (pv (pX R) (pY R) (pI R))) := by
  have h := val_any w v hv x y i hx hy k hk
  rw [h1, hR, ptv_parts] at h
  exact h
theorem valR_of {P R : Pt} {v x y k : Nat} {i : Bool} (hv : v < 18446744073709551616) (hx : x < K4) (hy : y < K4) (hk : k < K4) (h1 : dec x y i = P) (hR : valP v P k = R) (w : World) : Calls Tryz.prog 26 #[.int .u64 ((v : Nat) : Int), pv x y i, fv k] w (Gets w (pv (pX R) (pY R) (pI R))) := by
  have h := valR_any w v hv x y i hx hy k hk
  rw [h1, hR, ptv_parts] at h
  exact h
theorem alive7 (w : World)  : Calls Tryz.prog 22 #[] w (Gets w (.bool true)) := by
  obtain ⟨R3, hR3⟩ : ∃ P : Pt, P = Ec.nm finv (3 % Sc.pM) bP := ⟨_, rfl⟩
  refine Sy.enter (args := []) Tryz.func22 rfl kL ?_
  refine sC ?_
  refine sP (.bool false) ?_
  refine sA ?_
  refine sS (pv (pX bP) (pY bP) (pI bP)) (qF 43 #[] (fun w => by rw [← ptv_parts]; exact baseR_c w)) ?_
  refine sM 52 (pcs 0 0 false) (fun g0 => ?_)
  refine sW 0 g0 52 (pcs 0 0 false) (pcs (pX bP) (pY bP) (pI bP)) (wS 0 52 (pcs (pX bP) (pY bP) (pI bP)) rfl) ?_
  refine sH (fun j => false) ?_
  refine sD 0 rfl (pv (pX bP) (pY bP) (pI bP)) (qL 0 g0 0 9 52 52 (pcs (pX bP) (pY bP) (pI bP)) rfl Tryz.underlying52) <| sZ 1 rfl (fv 0) <| sD 2 rfl (pv (pX bP) (pY bP) (pI bP)) (qF 25 #[.int .u64 1, pv (pX bP) (pY bP) (pI bP), fv 0] (fun w => by have q := val_of (v := 1) (k := 0) (by decide) (pX_lt bP) (pY_lt bP) (by decide) (dec_parts bP_on) valP_base1 w; exact q)) <| sD 3 rfl (pv (pX bP) (pY bP) (pI bP)) (qL 0 g0 0 9 52 52 (pcs (pX bP) (pY bP) (pI bP)) rfl Tryz.underlying52) <| sD 4 rfl (.bool true) (Quiet.pure (fun w => eql_pt_same w _ _ _ _ _ _ _ rfl rfl rfl lP lP)) <| sZ 5 rfl (.bool true) <| sD 6 rfl (pv (pX bP) (pY bP) (pI bP)) (qL 0 g0 0 9 52 52 (pcs (pX bP) (pY bP) (pI bP)) rfl Tryz.underlying52) <| sZ 7 rfl (fv 0) ?_
  refine sD 8 rfl (pv 0 0 true) (qF 25 #[.int .u64 0, pv (pX bP) (pY bP) (pI bP), fv 0] (fun w => by have q := val_of (v := 0) (k := 0) (by decide) (pX_lt bP) (pY_lt bP) (by decide) (dec_parts bP_on) valP_base0 w; exact q)) <| sD 9 rfl (pv 0 0 true) (qF 62 #[] (zeroR_c)) <| sD 10 rfl (.bool true) (Quiet.pure (fun w => eql_pt_same w _ _ _ _ _ _ _ rfl rfl rfl lP lP)) <| sZ 11 rfl (.bool true) <| sZ 12 rfl (.bool true) <| sD 13 rfl (pv (pX bP) (pY bP) (pI bP)) (qL 0 g0 0 9 52 52 (pcs (pX bP) (pY bP) (pI bP)) rfl Tryz.underlying52) <| sZ 14 rfl (fv 1) <| sD 15 rfl (pv (pX R3) (pY R3) (pI R3)) (qF 25 #[.int .u64 2, pv (pX bP) (pY bP) (pI bP), fv 1] (fun w => by have q := val_of (v := 2) (k := 1) (by decide) (pX_lt bP) (pY_lt bP) (by decide) (dec_parts bP_on) (valP_base2.trans hR3.symm) w; exact q)) ?_
  refine sZ 16 rfl (fv 3) <| sD 17 rfl (pv (pX bP) (pY bP) (pI bP)) (qL 0 g0 0 9 52 52 (pcs (pX bP) (pY bP) (pI bP)) rfl Tryz.underlying52) <| sD 18 rfl (pv (pX R3) (pY R3) (pI R3)) (qF 42 #[fv 3, pv (pX bP) (pY bP) (pI bP)] (fun w => mulR_of (k := 3) (by decide) (pX_lt bP) (pY_lt bP) (dec_parts bP_on) hR3.symm w)) <| sD 19 rfl (.bool true) (Quiet.pure (fun w => eql_pt_same w _ _ _ _ _ _ _ rfl rfl rfl lP lP)) <| sZ 20 rfl (.bool true) <| sZ 21 rfl (.bool true) ?_
  refine sI ?_
  refine Sy.ret ?_
  exact rV (.bool true) rfl
end Go.Proofs.YtbofhoonlmikcaaGreatDoor.Cu

end
section
namespace Go.Proofs.YtbofhoonlmikcaaGreatDoor
open Go.RowKit Go.Lib

set_option maxHeartbeats 8000000 in
set_option maxRecDepth 100000 in
theorem numberR_any (w : World) (g cap : Nat) (l : List UInt8) (hl : l.length = 32) (hg : g < w.heap.size) (hcell : ∀ j u, l[j]? = some u → w.cell? ⟨g, j, none⟩ = some (bv u)) (_ : 32 ≤ cap) (_ : cap ≤ 9223372036854775807) : Calls Tryz.prog 54 #[.slice (some ⟨g, 0, none⟩) 32 cap] w fun e w' => e = .returned (fv (valB l)) ∧ Below w.heap.size w w' := by
  have HL := Lib.hid hl
  have HG := Lib.hid hcell
  clear hl hcell
  go_enter Tryz.func54, Tryz.ntmps54
  go_wp2_with fail
  go_loopw [4] (fun i wr => ∃ k y0 y1 y2 y3 : Nat, k ≤ 32 ∧ i = .int .i64 (k : Int) ∧ Hid (y0 = wdB l k 0 ∧ y1 = wdB l k 1 ∧ y2 = wdB l k 2 ∧ y3 = wdB l k 3) ∧ Below w.heap.size w wr ∧ Blk wr (w.heap.size + 1) 89 #[.int .u64 (y3 : Int), .int .u64 (y2 : Int), .int .u64 (y1 : Int), .int .u64 (y0 : Int)] ∧ Blk wr w.heap.size 89 #[.int .u64 0, .int .u64 0, .int .u64 0, .int .u64 0]) (fun i _ => 32 - (intOf i).toNat)
  case atStart => exact ⟨0, 0, 0, 0, 0, by omega, rfl, Lib.hid ⟨(wdB_zero l 0).symm, (wdB_zero l 1).symm, (wdB_zero l 2).symm, (wdB_zero l 3).symm⟩, below_alloc2 w _ _, blk_new2 w _ _ _, (Blk.new w _ _).alloc _⟩
  case round =>
    obtain ⟨k, y0, y1, y2, y3, hk, rfl, HY, hb, hP, hR⟩ := hrel
    have q3 : wr.cell? ⟨w.heap.size + 1, 0, none⟩ = some (.int .u64 (y3 : Int)) := hP.cell 0
    have q2 : wr.cell? ⟨w.heap.size + 1, 1, none⟩ = some (.int .u64 (y2 : Int)) := hP.cell 1
    have q1 : wr.cell? ⟨w.heap.size + 1, 2, none⟩ = some (.int .u64 (y1 : Int)) := hP.cell 2
    have q0 : wr.cell? ⟨w.heap.size + 1, 3, none⟩ = some (.int .u64 (y0 : Int)) := hP.cell 3
    have ff : ∀ j, wr.frozen? ⟨w.heap.size + 1, j, none⟩ = false := fun j => hP.frozen j
    by_cases hlt : k < 32
    · obtain ⟨c, hc⟩ : ∃ c, l[k]? = some c := ⟨l[k]'(by rw [HL.out]; exact hlt), List.getElem?_eq_getElem _⟩
      have HC := Lib.hid hc
      obtain ⟨m, hm⟩ : ∃ m, m = c.toNat := ⟨_, rfl⟩
      have hm8 : m < 256 := by rw [hm]; exact c.toNat_lt
      have hI : wr.cell? ⟨g, k, none⟩ = some (.int .u8 (m : Int)) := by
        rw [hm]
        exact (hb.cell (p := ⟨g, k, none⟩) hg).trans (HG.out k c hc)
      have HM := Lib.hid hm
      have HR := Lib.hid (And.intro hb (And.intro hP hR))
      clear hb hP hR hc hk hm
      rcases (show k = 0 ∨ k = 1 ∨ k = 2 ∨ k = 3 ∨ k = 4 ∨ k = 5 ∨ k = 6 ∨ k = 7 ∨ k = 8 ∨ k = 9 ∨ k = 10 ∨ k = 11 ∨ k = 12 ∨ k = 13 ∨ k = 14 ∨ k = 15 ∨ k = 16 ∨ k = 17 ∨ k = 18 ∨ k = 19 ∨ k = 20 ∨ k = 21 ∨ k = 22 ∨ k = 23 ∨ k = 24 ∨ k = 25 ∨ k = 26 ∨ k = 27 ∨ k = 28 ∨ k = 29 ∨ k = 30 ∨ k = 31 by omega) with rfl | rfl | rfl | rfl | rfl | rfl | rfl | rfl | rfl | rfl | rfl | rfl | rfl | rfl | rfl | rfl | rfl | rfl | rfl | rfl | rfl | rfl | rfl | rfl | rfl | rfl | rfl | rfl | rfl | rfl | rfl | rfl
      all_goals
        first
        | ((have hy : y0 < 72057594037927936 := by rw [HY.out.1]; exact wdB_lt l _ 0 (by decide)); go_wp2; go_region; all_goals go_wp2; all_goals (refine ⟨⟨_, y0 * 256 + m, y1, y2, y3, by decide, rfl, Lib.hid ⟨by rw [HY.out.1, HM.out]; exact (wdB_step l _ 0 c HC.out (by decide)).symm, by rw [HY.out.2.1]; exact (wdB_same l _ 1 (by decide)).symm, by rw [HY.out.2.2.1]; exact (wdB_same l _ 2 (by decide)).symm, by rw [HY.out.2.2.2]; exact (wdB_same l _ 3 (by decide)).symm⟩, (HR.out.1.setCell (by show w.heap.size ≤ w.heap.size + 1; omega) _).drew, Blk.drew (Blk.eq_ (HR.out.2.1.set_ 3 _) (by rw [show ((y0 * 256 + m : Nat) : Int) = (y0 : Int) * 256 + (m : Int) by omega]; rfl)), Blk.drew (HR.out.2.2.far (by show w.heap.size ≠ w.heap.size + 1; omega) _)⟩, by simp [intOf]⟩))
        | ((have hy : y1 < 72057594037927936 := by rw [HY.out.2.1]; exact wdB_lt l _ 1 (by decide)); go_wp2; go_region; all_goals go_wp2; all_goals (refine ⟨⟨_, y0, y1 * 256 + m, y2, y3, by decide, rfl, Lib.hid ⟨by rw [HY.out.1]; exact (wdB_same l _ 0 (by decide)).symm, by rw [HY.out.2.1, HM.out]; exact (wdB_step l _ 1 c HC.out (by decide)).symm, by rw [HY.out.2.2.1]; exact (wdB_same l _ 2 (by decide)).symm, by rw [HY.out.2.2.2]; exact (wdB_same l _ 3 (by decide)).symm⟩, (HR.out.1.setCell (by show w.heap.size ≤ w.heap.size + 1; omega) _).drew, Blk.drew (Blk.eq_ (HR.out.2.1.set_ 2 _) (by rw [show ((y1 * 256 + m : Nat) : Int) = (y1 : Int) * 256 + (m : Int) by omega]; rfl)), Blk.drew (HR.out.2.2.far (by show w.heap.size ≠ w.heap.size + 1; omega) _)⟩, by simp [intOf]⟩))
        | ((have hy : y2 < 72057594037927936 := by rw [HY.out.2.2.1]; exact wdB_lt l _ 2 (by decide)); go_wp2; go_region; all_goals go_wp2; all_goals (refine ⟨⟨_, y0, y1, y2 * 256 + m, y3, by decide, rfl, Lib.hid ⟨by rw [HY.out.1]; exact (wdB_same l _ 0 (by decide)).symm, by rw [HY.out.2.1]; exact (wdB_same l _ 1 (by decide)).symm, by rw [HY.out.2.2.1, HM.out]; exact (wdB_step l _ 2 c HC.out (by decide)).symm, by rw [HY.out.2.2.2]; exact (wdB_same l _ 3 (by decide)).symm⟩, (HR.out.1.setCell (by show w.heap.size ≤ w.heap.size + 1; omega) _).drew, Blk.drew (Blk.eq_ (HR.out.2.1.set_ 1 _) (by rw [show ((y2 * 256 + m : Nat) : Int) = (y2 : Int) * 256 + (m : Int) by omega]; rfl)), Blk.drew (HR.out.2.2.far (by show w.heap.size ≠ w.heap.size + 1; omega) _)⟩, by simp [intOf]⟩))
        | ((have hy : y3 < 72057594037927936 := by rw [HY.out.2.2.2]; exact wdB_lt l _ 3 (by decide)); go_wp2; go_region; all_goals go_wp2; all_goals (refine ⟨⟨_, y0, y1, y2, y3 * 256 + m, by decide, rfl, Lib.hid ⟨by rw [HY.out.1]; exact (wdB_same l _ 0 (by decide)).symm, by rw [HY.out.2.1]; exact (wdB_same l _ 1 (by decide)).symm, by rw [HY.out.2.2.1]; exact (wdB_same l _ 2 (by decide)).symm, by rw [HY.out.2.2.2, HM.out]; exact (wdB_step l _ 3 c HC.out (by decide)).symm⟩, (HR.out.1.setCell (by show w.heap.size ≤ w.heap.size + 1; omega) _).drew, Blk.drew (Blk.eq_ (HR.out.2.1.set_ 0 _) (by rw [show ((y3 * 256 + m : Nat) : Int) = (y3 : Int) * 256 + (m : Int) by omega]; rfl)), Blk.drew (HR.out.2.2.far (by show w.heap.size ≠ w.heap.size + 1; omega) _)⟩, by simp [intOf]⟩))
    · have p1 : ¬ (k : Int) < 32 := by omega
      obtain rfl : k = 32 := by omega
      have b0 : y0 < 18446744073709551616 := by rw [HY.out.1]; exact wdB_lt8 l _ _
      have b1 : y1 < 18446744073709551616 := by rw [HY.out.2.1]; exact wdB_lt8 l _ _
      have b2 : y2 < 18446744073709551616 := by rw [HY.out.2.2.1]; exact wdB_lt8 l _ _
      have b3 : y3 < 18446744073709551616 := by rw [HY.out.2.2.2]; exact wdB_lt8 l _ _
      obtain ⟨z, hz⟩ : ∃ z, z = y3 + 18446744073709551616 * y2 + 340282366920938463463374607431768211456 * y1 + 6277101735386680763835789423207666416102355444464034512896 * y0 := ⟨_, rfl⟩
      have fz := fv_mk y3 y2 y1 y0 b3 b2 b1 b0
      rw [← hz] at fz
      have hzv : valB l = z := by rw [wdB_all l HL.out, hz, HY.out.1, HY.out.2.1, HY.out.2.2.1, HY.out.2.2.2]
      have HZ := Lib.hid hzv
      have FZ := Lib.hid fz.symm
      have HP := Lib.hid hP
      have HR := Lib.hid hR
      clear HY b0 b1 b2 b3 hz fz hzv q0 q1 q2 q3 ff hP hR
      go_wp2_with (first | ((with_reducible refine here_load (d := some 31) ?_); refine wpList_load_fv rfl _ _ rfl (w.heap.size + 1) rfl (z) _ _ _ (HP.out) (FZ.out) Tryz.underlying89 rfl (by kernel_rfl) ?_) | ((with_reducible refine here_store ?_); refine wpList_store_blk rfl _ _ _ rfl (w.heap.size) (fcs (z)) rfl rfl _ _ (HR.out) (by kernel_rfl) (by rfl) (fcs_one _) ?_; intro vz hLz hqz hKz))
      exact bodyPost_ret (results_cell_row rfl _ _ w.heap.size _ _ (0, 0) _ rfl hLz Tryz.underlying89 rfl (by kernel_rfl)) rfl ⟨by rw [HZ.out]; rfl, hb.trans (hqz _ (by omega))⟩
end Go.Proofs.YtbofhoonlmikcaaGreatDoor

end
section
namespace Go.Proofs.YtbofhoonlmikcaaGreatDoor.Cu
open Go.RowKit Go.Proofs.YtbofhoonlmikcaaGreatDoor Go.Proofs.YtbofhoonlmikcaaGreatDoor.Sy

set_option maxHeartbeats 4000000 in
set_option maxRecDepth 100000 in
theorem liftR_any (w : World) (l : List UInt8) (hl : l.length = 32) : Calls Tryz.prog 53 #[.agg (l.map bv).toArray] w (Gets w (.tuple #[ptv (liftP l), .bool (liftB l)])) := by
  have hv := valB_lt32 l hl
  refine Sy.enter (args := [.agg (l.map bv).toArray]) Tryz.func53 rfl kL ?_
  refine sC ?_
  refine sM 31 (l.map bv).toArray (fun g0 => ?_)
  refine sM 52 (pcs 0 0 false) (fun g1 => ?_)
  refine sP (.bool false) ?_
  refine sA ?_
  refine sP (.slice none 0 0) ?_
  refine sG ?_
  refine Sy.seq ?_
  refine sC ?_
  refine sP (.int .i64 0) ?_
  refine sG ?_
  refine Sy.block ?_
  refine Sy.loopN 33 ?_
  refine Sy.tidyR (G := [(1, .pointer (some ⟨g0, 0, none⟩)), (2, .pointer (some ⟨g1, 0, none⟩)), (4, .slice none 0 0), (5, .int .i64 0)]) (M := [(g0, 31, (l.map bv).toArray), (g1, 52, (pcs 0 0 false))]) [true, true] kR (all_cons kR (all_cons kR (all_cons kR (all_cons kR all_nil)))) ?_
  refine Sy.round ?_
  refine Sy.seq ?_
  refine sC ?_
  refine sP (.int .i64 0) <| sP (.bool true) ?_
  refine sG ?_
  refine sT ?_
  refine Sy.skip ?_
  refine Sy.then_ ?_
  refine Sy.seq ?_
  refine Sy.block ?_
  refine Sy.region ?_
  refine sP (.slice none 0 0) <| sP (.int .i64 0) <| sP (.pointer (some ⟨g0, 0, none⟩)) <| sS (bv (l.getD 0 0)) (Quiet.cell 0 g0 0 31 5 (l.map bv).toArray _ _ rfl kR kR Tryz.underlying5 rfl _ (key_at l hl 0 (by decide))) ?_
  refine Sy.make kR 5 #[bv (l.getD 0 0)] (fun g => .slice (some ⟨g, 0, none⟩) 1 1) kF (fun g2 => ?_)
  refine Sy.appendNil kR 25 5 _ _ Tryz.underlying25 info_u8 rfl rfl rfl rfl _ _ rfl kR 2 g2 0 1 1 5 #[bv (l.getD 0 0)] [bv (l.getD 0 0)] kR kR kR rfl (by decide) (by intro u hu; simp only [List.mem_cons, List.not_mem_nil, or_false] at hu; subst hu; rfl) (by decide) (fun q1 c1 s1 e1 m1 => ?_)
  refine sP (.slice (some ⟨q1, 0, none⟩) 1 c1) ?_
  refine Sy.nil ?_
  refine Sy.in_ ?_
  refine Sy.then_ ?_
  refine Sy.region ?_
  refine sP (.int .i64 0) <| sP (.int .i64 1) <| sP (.int .i64 1) ?_
  refine Sy.nil ?_
  refine Sy.again ?_
  refine Sy.tidyR (G := [(1, .pointer (some ⟨g0, 0, none⟩)), (2, .pointer (some ⟨g1, 0, none⟩)), (4, .slice (some ⟨q1, 0, none⟩) 1 c1), (5, .int .i64 1)]) (M := [(g0, 31, (l.map bv).toArray), (g1, 52, (pcs 0 0 false)), (q1, 5, ([bv (l.getD 0 0)] ++ s1).toArray)]) [true, true, false, true] kR (all_cons kR (all_cons kR (all_cons kR (all_cons kR all_nil)))) ?_
  refine Sy.round ?_
  refine Sy.seq ?_
  refine sC ?_
  refine sP (.int .i64 1) <| sP (.bool true) ?_
  refine sG ?_
  refine sT ?_
  refine Sy.skip ?_
  refine Sy.then_ ?_
  refine Sy.seq ?_
  refine Sy.block ?_
  refine Sy.region ?_
  refine sP (.slice (some ⟨q1, 0, none⟩) 1 c1) <| sP (.int .i64 1) <| sP (.pointer (some ⟨g0, 1, none⟩)) <| sS (bv (l.getD 1 0)) (Quiet.cell 0 g0 1 31 5 (l.map bv).toArray _ _ rfl kR kR Tryz.underlying5 rfl _ (key_at l hl 1 (by decide))) ?_
  refine Sy.make kR 5 #[bv (l.getD 1 0)] (fun g => .slice (some ⟨g, 0, none⟩) 1 1) kF (fun g3 => ?_)
  refine Sy.append kR 25 5 _ _ Tryz.underlying25 info_u8 rfl rfl rfl rfl _ _ rfl 2 q1 1 c1 ([bv (l.getD 0 0)] ++ s1).toArray [bv (l.getD 0 0)] kR kR kR rfl (by rw [← e1]; simp only [List.size_toArray, List.length_append, List.length_cons, List.length_nil]; omega) m1 3 g3 0 1 1 5 #[bv (l.getD 1 0)] [bv (l.getD 1 0)] kR kR kR rfl (by intro u hu; simp only [List.mem_cons, List.not_mem_nil, or_false] at hu; subst hu; rfl) (by decide) (fun q2 c2 s2 e2 m2 => ?_)
  refine sP (.slice (some ⟨q2, 0, none⟩) 2 c2) ?_
  refine Sy.nil ?_
  refine Sy.in_ ?_
  refine Sy.then_ ?_
  refine Sy.region ?_
  refine sP (.int .i64 1) <| sP (.int .i64 2) <| sP (.int .i64 2) ?_
  refine Sy.nil ?_
  refine Sy.again ?_
  refine Sy.tidyR (G := [(1, .pointer (some ⟨g0, 0, none⟩)), (2, .pointer (some ⟨g1, 0, none⟩)), (4, .slice (some ⟨q2, 0, none⟩) 2 c2), (5, .int .i64 2)]) (M := [(g0, 31, (l.map bv).toArray), (g1, 52, (pcs 0 0 false)), (q2, 5, ([bv (l.getD 0 0), bv (l.getD 1 0)] ++ s2).toArray)]) [true, true, true, false] kR (all_cons kR (all_cons kR (all_cons kR (all_cons kR all_nil)))) ?_
  refine Sy.round ?_
  refine Sy.seq ?_
  refine sC ?_
  refine sP (.int .i64 2) <| sP (.bool true) ?_
  refine sG ?_
  refine sT ?_
  refine Sy.skip ?_
  refine Sy.then_ ?_
  refine Sy.seq ?_
  refine Sy.block ?_
  refine Sy.region ?_
  refine sP (.slice (some ⟨q2, 0, none⟩) 2 c2) <| sP (.int .i64 2) <| sP (.pointer (some ⟨g0, 2, none⟩)) <| sS (bv (l.getD 2 0)) (Quiet.cell 0 g0 2 31 5 (l.map bv).toArray _ _ rfl kR kR Tryz.underlying5 rfl _ (key_at l hl 2 (by decide))) ?_
  refine Sy.make kR 5 #[bv (l.getD 2 0)] (fun g => .slice (some ⟨g, 0, none⟩) 1 1) kF (fun g4 => ?_)
  refine Sy.append kR 25 5 _ _ Tryz.underlying25 info_u8 rfl rfl rfl rfl _ _ rfl 2 q2 2 c2 ([bv (l.getD 0 0), bv (l.getD 1 0)] ++ s2).toArray [bv (l.getD 0 0), bv (l.getD 1 0)] kR kR kR rfl (by rw [← e2]; simp only [List.size_toArray, List.length_append, List.length_cons, List.length_nil]; omega) m2 3 g4 0 1 1 5 #[bv (l.getD 2 0)] [bv (l.getD 2 0)] kR kR kR rfl (by intro u hu; simp only [List.mem_cons, List.not_mem_nil, or_false] at hu; subst hu; rfl) (by decide) (fun q3 c3 s3 e3 m3 => ?_)
  refine sP (.slice (some ⟨q3, 0, none⟩) 3 c3) ?_
  refine Sy.nil ?_
  refine Sy.in_ ?_
  refine Sy.then_ ?_
  refine Sy.region ?_
  refine sP (.int .i64 2) <| sP (.int .i64 3) <| sP (.int .i64 3) ?_
  refine Sy.nil ?_
  refine Sy.again ?_
  refine Sy.tidyR (G := [(1, .pointer (some ⟨g0, 0, none⟩)), (2, .pointer (some ⟨g1, 0, none⟩)), (4, .slice (some ⟨q3, 0, none⟩) 3 c3), (5, .int .i64 3)]) (M := [(g0, 31, (l.map bv).toArray), (g1, 52, (pcs 0 0 false)), (q3, 5, ([bv (l.getD 0 0), bv (l.getD 1 0), bv (l.getD 2 0)] ++ s3).toArray)]) [true, true, true, false] kR (all_cons kR (all_cons kR (all_cons kR (all_cons kR all_nil)))) ?_
  refine Sy.round ?_
  refine Sy.seq ?_
  refine sC ?_
  refine sP (.int .i64 3) <| sP (.bool true) ?_
  refine sG ?_
  refine sT ?_
  refine Sy.skip ?_
  refine Sy.then_ ?_
  refine Sy.seq ?_
  refine Sy.block ?_
  refine Sy.region ?_
  refine sP (.slice (some ⟨q3, 0, none⟩) 3 c3) <| sP (.int .i64 3) <| sP (.pointer (some ⟨g0, 3, none⟩)) <| sS (bv (l.getD 3 0)) (Quiet.cell 0 g0 3 31 5 (l.map bv).toArray _ _ rfl kR kR Tryz.underlying5 rfl _ (key_at l hl 3 (by decide))) ?_
  refine Sy.make kR 5 #[bv (l.getD 3 0)] (fun g => .slice (some ⟨g, 0, none⟩) 1 1) kF (fun g5 => ?_)
  refine Sy.append kR 25 5 _ _ Tryz.underlying25 info_u8 rfl rfl rfl rfl _ _ rfl 2 q3 3 c3 ([bv (l.getD 0 0), bv (l.getD 1 0), bv (l.getD 2 0)] ++ s3).toArray [bv (l.getD 0 0), bv (l.getD 1 0), bv (l.getD 2 0)] kR kR kR rfl (by rw [← e3]; simp only [List.size_toArray, List.length_append, List.length_cons, List.length_nil]; omega) m3 3 g5 0 1 1 5 #[bv (l.getD 3 0)] [bv (l.getD 3 0)] kR kR kR rfl (by intro u hu; simp only [List.mem_cons, List.not_mem_nil, or_false] at hu; subst hu; rfl) (by decide) (fun q4 c4 s4 e4 m4 => ?_)
  refine sP (.slice (some ⟨q4, 0, none⟩) 4 c4) ?_
  refine Sy.nil ?_
  refine Sy.in_ ?_
  refine Sy.then_ ?_
  refine Sy.region ?_
  refine sP (.int .i64 3) <| sP (.int .i64 4) <| sP (.int .i64 4) ?_
  refine Sy.nil ?_
  refine Sy.again ?_
  refine Sy.tidyR (G := [(1, .pointer (some ⟨g0, 0, none⟩)), (2, .pointer (some ⟨g1, 0, none⟩)), (4, .slice (some ⟨q4, 0, none⟩) 4 c4), (5, .int .i64 4)]) (M := [(g0, 31, (l.map bv).toArray), (g1, 52, (pcs 0 0 false)), (q4, 5, ([bv (l.getD 0 0), bv (l.getD 1 0), bv (l.getD 2 0), bv (l.getD 3 0)] ++ s4).toArray)]) [true, true, true, false] kR (all_cons kR (all_cons kR (all_cons kR (all_cons kR all_nil)))) ?_
  refine Sy.round ?_
  refine Sy.seq ?_
  refine sC ?_
  refine sP (.int .i64 4) <| sP (.bool true) ?_
  refine sG ?_
  refine sT ?_
  refine Sy.skip ?_
  refine Sy.then_ ?_
  refine Sy.seq ?_
  refine Sy.block ?_
  refine Sy.region ?_
  refine sP (.slice (some ⟨q4, 0, none⟩) 4 c4) <| sP (.int .i64 4) <| sP (.pointer (some ⟨g0, 4, none⟩)) <| sS (bv (l.getD 4 0)) (Quiet.cell 0 g0 4 31 5 (l.map bv).toArray _ _ rfl kR kR Tryz.underlying5 rfl _ (key_at l hl 4 (by decide))) ?_
  refine Sy.make kR 5 #[bv (l.getD 4 0)] (fun g => .slice (some ⟨g, 0, none⟩) 1 1) kF (fun g6 => ?_)
  refine Sy.append kR 25 5 _ _ Tryz.underlying25 info_u8 rfl rfl rfl rfl _ _ rfl 2 q4 4 c4 ([bv (l.getD 0 0), bv (l.getD 1 0), bv (l.getD 2 0), bv (l.getD 3 0)] ++ s4).toArray [bv (l.getD 0 0), bv (l.getD 1 0), bv (l.getD 2 0), bv (l.getD 3 0)] kR kR kR rfl (by rw [← e4]; simp only [List.size_toArray, List.length_append, List.length_cons, List.length_nil]; omega) m4 3 g6 0 1 1 5 #[bv (l.getD 4 0)] [bv (l.getD 4 0)] kR kR kR rfl (by intro u hu; simp only [List.mem_cons, List.not_mem_nil, or_false] at hu; subst hu; rfl) (by decide) (fun q5 c5 s5 e5 m5 => ?_)
  refine sP (.slice (some ⟨q5, 0, none⟩) 5 c5) ?_
  refine Sy.nil ?_
  refine Sy.in_ ?_
  refine Sy.then_ ?_
  refine Sy.region ?_
  refine sP (.int .i64 4) <| sP (.int .i64 5) <| sP (.int .i64 5) ?_
  refine Sy.nil ?_
  refine Sy.again ?_
  refine Sy.tidyR (G := [(1, .pointer (some ⟨g0, 0, none⟩)), (2, .pointer (some ⟨g1, 0, none⟩)), (4, .slice (some ⟨q5, 0, none⟩) 5 c5), (5, .int .i64 5)]) (M := [(g0, 31, (l.map bv).toArray), (g1, 52, (pcs 0 0 false)), (q5, 5, ([bv (l.getD 0 0), bv (l.getD 1 0), bv (l.getD 2 0), bv (l.getD 3 0), bv (l.getD 4 0)] ++ s5).toArray)]) [true, true, true, false] kR (all_cons kR (all_cons kR (all_cons kR (all_cons kR all_nil)))) ?_
  refine Sy.round ?_
  refine Sy.seq ?_
  refine sC ?_
  refine sP (.int .i64 5) <| sP (.bool true) ?_
  refine sG ?_
  refine sT ?_
  refine Sy.skip ?_
  refine Sy.then_ ?_
  refine Sy.seq ?_
  refine Sy.block ?_
  refine Sy.region ?_
  refine sP (.slice (some ⟨q5, 0, none⟩) 5 c5) <| sP (.int .i64 5) <| sP (.pointer (some ⟨g0, 5, none⟩)) <| sS (bv (l.getD 5 0)) (Quiet.cell 0 g0 5 31 5 (l.map bv).toArray _ _ rfl kR kR Tryz.underlying5 rfl _ (key_at l hl 5 (by decide))) ?_
  refine Sy.make kR 5 #[bv (l.getD 5 0)] (fun g => .slice (some ⟨g, 0, none⟩) 1 1) kF (fun g7 => ?_)
  refine Sy.append kR 25 5 _ _ Tryz.underlying25 info_u8 rfl rfl rfl rfl _ _ rfl 2 q5 5 c5 ([bv (l.getD 0 0), bv (l.getD 1 0), bv (l.getD 2 0), bv (l.getD 3 0), bv (l.getD 4 0)] ++ s5).toArray [bv (l.getD 0 0), bv (l.getD 1 0), bv (l.getD 2 0), bv (l.getD 3 0), bv (l.getD 4 0)] kR kR kR rfl (by rw [← e5]; simp only [List.size_toArray, List.length_append, List.length_cons, List.length_nil]; omega) m5 3 g7 0 1 1 5 #[bv (l.getD 5 0)] [bv (l.getD 5 0)] kR kR kR rfl (by intro u hu; simp only [List.mem_cons, List.not_mem_nil, or_false] at hu; subst hu; rfl) (by decide) (fun q6 c6 s6 e6 m6 => ?_)
  refine sP (.slice (some ⟨q6, 0, none⟩) 6 c6) ?_
  refine Sy.nil ?_
  refine Sy.in_ ?_
  refine Sy.then_ ?_
  refine Sy.region ?_
  refine sP (.int .i64 5) <| sP (.int .i64 6) <| sP (.int .i64 6) ?_
  refine Sy.nil ?_
  refine Sy.again ?_
  refine Sy.tidyR (G := [(1, .pointer (some ⟨g0, 0, none⟩)), (2, .pointer (some ⟨g1, 0, none⟩)), (4, .slice (some ⟨q6, 0, none⟩) 6 c6), (5, .int .i64 6)]) (M := [(g0, 31, (l.map bv).toArray), (g1, 52, (pcs 0 0 false)), (q6, 5, ([bv (l.getD 0 0), bv (l.getD 1 0), bv (l.getD 2 0), bv (l.getD 3 0), bv (l.getD 4 0), bv (l.getD 5 0)] ++ s6).toArray)]) [true, true, true, false] kR (all_cons kR (all_cons kR (all_cons kR (all_cons kR all_nil)))) ?_
  refine Sy.round ?_
  refine Sy.seq ?_
  refine sC ?_
  refine sP (.int .i64 6) <| sP (.bool true) ?_
  refine sG ?_
  refine sT ?_
  refine Sy.skip ?_
  refine Sy.then_ ?_
  refine Sy.seq ?_
  refine Sy.block ?_
  refine Sy.region ?_
  refine sP (.slice (some ⟨q6, 0, none⟩) 6 c6) <| sP (.int .i64 6) <| sP (.pointer (some ⟨g0, 6, none⟩)) <| sS (bv (l.getD 6 0)) (Quiet.cell 0 g0 6 31 5 (l.map bv).toArray _ _ rfl kR kR Tryz.underlying5 rfl _ (key_at l hl 6 (by decide))) ?_
  refine Sy.make kR 5 #[bv (l.getD 6 0)] (fun g => .slice (some ⟨g, 0, none⟩) 1 1) kF (fun g8 => ?_)
  refine Sy.append kR 25 5 _ _ Tryz.underlying25 info_u8 rfl rfl rfl rfl _ _ rfl 2 q6 6 c6 ([bv (l.getD 0 0), bv (l.getD 1 0), bv (l.getD 2 0), bv (l.getD 3 0), bv (l.getD 4 0), bv (l.getD 5 0)] ++ s6).toArray [bv (l.getD 0 0), bv (l.getD 1 0), bv (l.getD 2 0), bv (l.getD 3 0), bv (l.getD 4 0), bv (l.getD 5 0)] kR kR kR rfl (by rw [← e6]; simp only [List.size_toArray, List.length_append, List.length_cons, List.length_nil]; omega) m6 3 g8 0 1 1 5 #[bv (l.getD 6 0)] [bv (l.getD 6 0)] kR kR kR rfl (by intro u hu; simp only [List.mem_cons, List.not_mem_nil, or_false] at hu; subst hu; rfl) (by decide) (fun q7 c7 s7 e7 m7 => ?_)
  refine sP (.slice (some ⟨q7, 0, none⟩) 7 c7) ?_
  refine Sy.nil ?_
  refine Sy.in_ ?_
  refine Sy.then_ ?_
  refine Sy.region ?_
  refine sP (.int .i64 6) <| sP (.int .i64 7) <| sP (.int .i64 7) ?_
  refine Sy.nil ?_
  refine Sy.again ?_
  refine Sy.tidyR (G := [(1, .pointer (some ⟨g0, 0, none⟩)), (2, .pointer (some ⟨g1, 0, none⟩)), (4, .slice (some ⟨q7, 0, none⟩) 7 c7), (5, .int .i64 7)]) (M := [(g0, 31, (l.map bv).toArray), (g1, 52, (pcs 0 0 false)), (q7, 5, ([bv (l.getD 0 0), bv (l.getD 1 0), bv (l.getD 2 0), bv (l.getD 3 0), bv (l.getD 4 0), bv (l.getD 5 0), bv (l.getD 6 0)] ++ s7).toArray)]) [true, true, true, false] kR (all_cons kR (all_cons kR (all_cons kR (all_cons kR all_nil)))) ?_
  refine Sy.round ?_
  refine Sy.seq ?_
  refine sC ?_
  refine sP (.int .i64 7) <| sP (.bool true) ?_
  refine sG ?_
  refine sT ?_
  refine Sy.skip ?_
  refine Sy.then_ ?_
  refine Sy.seq ?_
  refine Sy.block ?_
  refine Sy.region ?_
  refine sP (.slice (some ⟨q7, 0, none⟩) 7 c7) <| sP (.int .i64 7) <| sP (.pointer (some ⟨g0, 7, none⟩)) <| sS (bv (l.getD 7 0)) (Quiet.cell 0 g0 7 31 5 (l.map bv).toArray _ _ rfl kR kR Tryz.underlying5 rfl _ (key_at l hl 7 (by decide))) ?_
  refine Sy.make kR 5 #[bv (l.getD 7 0)] (fun g => .slice (some ⟨g, 0, none⟩) 1 1) kF (fun g9 => ?_)
  refine Sy.append kR 25 5 _ _ Tryz.underlying25 info_u8 rfl rfl rfl rfl _ _ rfl 2 q7 7 c7 ([bv (l.getD 0 0), bv (l.getD 1 0), bv (l.getD 2 0), bv (l.getD 3 0), bv (l.getD 4 0), bv (l.getD 5 0), bv (l.getD 6 0)] ++ s7).toArray [bv (l.getD 0 0), bv (l.getD 1 0), bv (l.getD 2 0), bv (l.getD 3 0), bv (l.getD 4 0), bv (l.getD 5 0), bv (l.getD 6 0)] kR kR kR rfl (by rw [← e7]; simp only [List.size_toArray, List.length_append, List.length_cons, List.length_nil]; omega) m7 3 g9 0 1 1 5 #[bv (l.getD 7 0)] [bv (l.getD 7 0)] kR kR kR rfl (by intro u hu; simp only [List.mem_cons, List.not_mem_nil, or_false] at hu; subst hu; rfl) (by decide) (fun q8 c8 s8 e8 m8 => ?_)
  refine sP (.slice (some ⟨q8, 0, none⟩) 8 c8) ?_
  refine Sy.nil ?_
  refine Sy.in_ ?_
  refine Sy.then_ ?_
  refine Sy.region ?_
  refine sP (.int .i64 7) <| sP (.int .i64 8) <| sP (.int .i64 8) ?_
  refine Sy.nil ?_
  refine Sy.again ?_
  refine Sy.tidyR (G := [(1, .pointer (some ⟨g0, 0, none⟩)), (2, .pointer (some ⟨g1, 0, none⟩)), (4, .slice (some ⟨q8, 0, none⟩) 8 c8), (5, .int .i64 8)]) (M := [(g0, 31, (l.map bv).toArray), (g1, 52, (pcs 0 0 false)), (q8, 5, ([bv (l.getD 0 0), bv (l.getD 1 0), bv (l.getD 2 0), bv (l.getD 3 0), bv (l.getD 4 0), bv (l.getD 5 0), bv (l.getD 6 0), bv (l.getD 7 0)] ++ s8).toArray)]) [true, true, true, false] kR (all_cons kR (all_cons kR (all_cons kR (all_cons kR all_nil)))) ?_
  refine Sy.round ?_
  refine Sy.seq ?_
  refine sC ?_
  refine sP (.int .i64 8) <| sP (.bool true) ?_
  refine sG ?_
  refine sT ?_
  refine Sy.skip ?_
  refine Sy.then_ ?_
  refine Sy.seq ?_
  refine Sy.block ?_
  refine Sy.region ?_
  refine sP (.slice (some ⟨q8, 0, none⟩) 8 c8) <| sP (.int .i64 8) <| sP (.pointer (some ⟨g0, 8, none⟩)) <| sS (bv (l.getD 8 0)) (Quiet.cell 0 g0 8 31 5 (l.map bv).toArray _ _ rfl kR kR Tryz.underlying5 rfl _ (key_at l hl 8 (by decide))) ?_
  refine Sy.make kR 5 #[bv (l.getD 8 0)] (fun g => .slice (some ⟨g, 0, none⟩) 1 1) kF (fun g10 => ?_)
  refine Sy.append kR 25 5 _ _ Tryz.underlying25 info_u8 rfl rfl rfl rfl _ _ rfl 2 q8 8 c8 ([bv (l.getD 0 0), bv (l.getD 1 0), bv (l.getD 2 0), bv (l.getD 3 0), bv (l.getD 4 0), bv (l.getD 5 0), bv (l.getD 6 0), bv (l.getD 7 0)] ++ s8).toArray [bv (l.getD 0 0), bv (l.getD 1 0), bv (l.getD 2 0), bv (l.getD 3 0), bv (l.getD 4 0), bv (l.getD 5 0), bv (l.getD 6 0), bv (l.getD 7 0)] kR kR kR rfl (by rw [← e8]; simp only [List.size_toArray, List.length_append, List.length_cons, List.length_nil]; omega) m8 3 g10 0 1 1 5 #[bv (l.getD 8 0)] [bv (l.getD 8 0)] kR kR kR rfl (by intro u hu; simp only [List.mem_cons, List.not_mem_nil, or_false] at hu; subst hu; rfl) (by decide) (fun q9 c9 s9 e9 m9 => ?_)
  refine sP (.slice (some ⟨q9, 0, none⟩) 9 c9) ?_
  refine Sy.nil ?_
  refine Sy.in_ ?_
  refine Sy.then_ ?_
  refine Sy.region ?_
  refine sP (.int .i64 8) <| sP (.int .i64 9) <| sP (.int .i64 9) ?_
  refine Sy.nil ?_
  refine Sy.again ?_
  refine Sy.tidyR (G := [(1, .pointer (some ⟨g0, 0, none⟩)), (2, .pointer (some ⟨g1, 0, none⟩)), (4, .slice (some ⟨q9, 0, none⟩) 9 c9), (5, .int .i64 9)]) (M := [(g0, 31, (l.map bv).toArray), (g1, 52, (pcs 0 0 false)), (q9, 5, ([bv (l.getD 0 0), bv (l.getD 1 0), bv (l.getD 2 0), bv (l.getD 3 0), bv (l.getD 4 0), bv (l.getD 5 0), bv (l.getD 6 0), bv (l.getD 7 0), bv (l.getD 8 0)] ++ s9).toArray)]) [true, true, true, false] kR (all_cons kR (all_cons kR (all_cons kR (all_cons kR all_nil)))) ?_
  refine Sy.round ?_
  refine Sy.seq ?_
  refine sC ?_
  refine sP (.int .i64 9) <| sP (.bool true) ?_
  refine sG ?_
  refine sT ?_
  refine Sy.skip ?_
  refine Sy.then_ ?_
  refine Sy.seq ?_
  refine Sy.block ?_
  refine Sy.region ?_
  refine sP (.slice (some ⟨q9, 0, none⟩) 9 c9) <| sP (.int .i64 9) <| sP (.pointer (some ⟨g0, 9, none⟩)) <| sS (bv (l.getD 9 0)) (Quiet.cell 0 g0 9 31 5 (l.map bv).toArray _ _ rfl kR kR Tryz.underlying5 rfl _ (key_at l hl 9 (by decide))) ?_
  refine Sy.make kR 5 #[bv (l.getD 9 0)] (fun g => .slice (some ⟨g, 0, none⟩) 1 1) kF (fun g11 => ?_)
  refine Sy.append kR 25 5 _ _ Tryz.underlying25 info_u8 rfl rfl rfl rfl _ _ rfl 2 q9 9 c9 ([bv (l.getD 0 0), bv (l.getD 1 0), bv (l.getD 2 0), bv (l.getD 3 0), bv (l.getD 4 0), bv (l.getD 5 0), bv (l.getD 6 0), bv (l.getD 7 0), bv (l.getD 8 0)] ++ s9).toArray [bv (l.getD 0 0), bv (l.getD 1 0), bv (l.getD 2 0), bv (l.getD 3 0), bv (l.getD 4 0), bv (l.getD 5 0), bv (l.getD 6 0), bv (l.getD 7 0), bv (l.getD 8 0)] kR kR kR rfl (by rw [← e9]; simp only [List.size_toArray, List.length_append, List.length_cons, List.length_nil]; omega) m9 3 g11 0 1 1 5 #[bv (l.getD 9 0)] [bv (l.getD 9 0)] kR kR kR rfl (by intro u hu; simp only [List.mem_cons, List.not_mem_nil, or_false] at hu; subst hu; rfl) (by decide) (fun q10 c10 s10 e10 m10 => ?_)
  refine sP (.slice (some ⟨q10, 0, none⟩) 10 c10) ?_
  refine Sy.nil ?_
  refine Sy.in_ ?_
  refine Sy.then_ ?_
  refine Sy.region ?_
  refine sP (.int .i64 9) <| sP (.int .i64 10) <| sP (.int .i64 10) ?_
  refine Sy.nil ?_
  refine Sy.again ?_
  refine Sy.tidyR (G := [(1, .pointer (some ⟨g0, 0, none⟩)), (2, .pointer (some ⟨g1, 0, none⟩)), (4, .slice (some ⟨q10, 0, none⟩) 10 c10), (5, .int .i64 10)]) (M := [(g0, 31, (l.map bv).toArray), (g1, 52, (pcs 0 0 false)), (q10, 5, ([bv (l.getD 0 0), bv (l.getD 1 0), bv (l.getD 2 0), bv (l.getD 3 0), bv (l.getD 4 0), bv (l.getD 5 0), bv (l.getD 6 0), bv (l.getD 7 0), bv (l.getD 8 0), bv (l.getD 9 0)] ++ s10).toArray)]) [true, true, true, false] kR (all_cons kR (all_cons kR (all_cons kR (all_cons kR all_nil)))) ?_
  refine Sy.round ?_
  refine Sy.seq ?_
  refine sC ?_
  refine sP (.int .i64 10) <| sP (.bool true) ?_
  refine sG ?_
  refine sT ?_
  refine Sy.skip ?_
  refine Sy.then_ ?_
  refine Sy.seq ?_
  refine Sy.block ?_
  refine Sy.region ?_
  refine sP (.slice (some ⟨q10, 0, none⟩) 10 c10) <| sP (.int .i64 10) <| sP (.pointer (some ⟨g0, 10, none⟩)) <| sS (bv (l.getD 10 0)) (Quiet.cell 0 g0 10 31 5 (l.map bv).toArray _ _ rfl kR kR Tryz.underlying5 rfl _ (key_at l hl 10 (by decide))) ?_
  refine Sy.make kR 5 #[bv (l.getD 10 0)] (fun g => .slice (some ⟨g, 0, none⟩) 1 1) kF (fun g12 => ?_)
  refine Sy.append kR 25 5 _ _ Tryz.underlying25 info_u8 rfl rfl rfl rfl _ _ rfl 2 q10 10 c10 ([bv (l.getD 0 0), bv (l.getD 1 0), bv (l.getD 2 0), bv (l.getD 3 0), bv (l.getD 4 0), bv (l.getD 5 0), bv (l.getD 6 0), bv (l.getD 7 0), bv (l.getD 8 0), bv (l.getD 9 0)] ++ s10).toArray [bv (l.getD 0 0), bv (l.getD 1 0), bv (l.getD 2 0), bv (l.getD 3 0), bv (l.getD 4 0), bv (l.getD 5 0), bv (l.getD 6 0), bv (l.getD 7 0), bv (l.getD 8 0), bv (l.getD 9 0)] kR kR kR rfl (by rw [← e10]; simp only [List.size_toArray, List.length_append, List.length_cons, List.length_nil]; omega) m10 3 g12 0 1 1 5 #[bv (l.getD 10 0)] [bv (l.getD 10 0)] kR kR kR rfl (by intro u hu; simp only [List.mem_cons, List.not_mem_nil, or_false] at hu; subst hu; rfl) (by decide) (fun q11 c11 s11 e11 m11 => ?_)
  refine sP (.slice (some ⟨q11, 0, none⟩) 11 c11) ?_
  refine Sy.nil ?_
  refine Sy.in_ ?_
  refine Sy.then_ ?_
  refine Sy.region ?_
  refine sP (.int .i64 10) <| sP (.int .i64 11) <| sP (.int .i64 11) ?_
  refine Sy.nil ?_
  refine Sy.again ?_
  refine Sy.tidyR (G := [(1, .pointer (some ⟨g0, 0, none⟩)), (2, .pointer (some ⟨g1, 0, none⟩)), (4, .slice (some ⟨q11, 0, none⟩) 11 c11), (5, .int .i64 11)]) (M := [(g0, 31, (l.map bv).toArray), (g1, 52, (pcs 0 0 false)), (q11, 5, ([bv (l.getD 0 0), bv (l.getD 1 0), bv (l.getD 2 0), bv (l.getD 3 0), bv (l.getD 4 0), bv (l.getD 5 0), bv (l.getD 6 0), bv (l.getD 7 0), bv (l.getD 8 0), bv (l.getD 9 0), bv (l.getD 10 0)] ++ s11).toArray)]) [true, true, true, false] kR (all_cons kR (all_cons kR (all_cons kR (all_cons kR all_nil)))) ?_
  refine Sy.round ?_
  refine Sy.seq ?_
  refine sC ?_
  refine sP (.int .i64 11) <| sP (.bool true) ?_
  refine sG ?_
  refine sT ?_
  refine Sy.skip ?_
  refine Sy.then_ ?_
  refine Sy.seq ?_
  refine Sy.block ?_
  refine Sy.region ?_
  refine sP (.slice (some ⟨q11, 0, none⟩) 11 c11) <| sP (.int .i64 11) <| sP (.pointer (some ⟨g0, 11, none⟩)) <| sS (bv (l.getD 11 0)) (Quiet.cell 0 g0 11 31 5 (l.map bv).toArray _ _ rfl kR kR Tryz.underlying5 rfl _ (key_at l hl 11 (by decide))) ?_
  refine Sy.make kR 5 #[bv (l.getD 11 0)] (fun g => .slice (some ⟨g, 0, none⟩) 1 1) kF (fun g13 => ?_)
  refine Sy.append kR 25 5 _ _ Tryz.underlying25 info_u8 rfl rfl rfl rfl _ _ rfl 2 q11 11 c11 ([bv (l.getD 0 0), bv (l.getD 1 0), bv (l.getD 2 0), bv (l.getD 3 0), bv (l.getD 4 0), bv (l.getD 5 0), bv (l.getD 6 0), bv (l.getD 7 0), bv (l.getD 8 0), bv (l.getD 9 0), bv (l.getD 10 0)] ++ s11).toArray [bv (l.getD 0 0), bv (l.getD 1 0), bv (l.getD 2 0), bv (l.getD 3 0), bv (l.getD 4 0), bv (l.getD 5 0), bv (l.getD 6 0), bv (l.getD 7 0), bv (l.getD 8 0), bv (l.getD 9 0), bv (l.getD 10 0)] kR kR kR rfl (by rw [← e11]; simp only [List.size_toArray, List.length_append, List.length_cons, List.length_nil]; omega) m11 3 g13 0 1 1 5 #[bv (l.getD 11 0)] [bv (l.getD 11 0)] kR kR kR rfl (by intro u hu; simp only [List.mem_cons, List.not_mem_nil, or_false] at hu; subst hu; rfl) (by decide) (fun q12 c12 s12 e12 m12 => ?_)
  refine sP (.slice (some ⟨q12, 0, none⟩) 12 c12) ?_
  refine Sy.nil ?_
  refine Sy.in_ ?_
  refine Sy.then_ ?_
  refine Sy.region ?_
  refine sP (.int .i64 11) <| sP (.int .i64 12) <| sP (.int .i64 12) ?_
  refine Sy.nil ?_
  refine Sy.again ?_
  refine Sy.tidyR (G := [(1, .pointer (some ⟨g0, 0, none⟩)), (2, .pointer (some ⟨g1, 0, none⟩)), (4, .slice (some ⟨q12, 0, none⟩) 12 c12), (5, .int .i64 12)]) (M := [(g0, 31, (l.map bv).toArray), (g1, 52, (pcs 0 0 false)), (q12, 5, ([bv (l.getD 0 0), bv (l.getD 1 0), bv (l.getD 2 0), bv (l.getD 3 0), bv (l.getD 4 0), bv (l.getD 5 0), bv (l.getD 6 0), bv (l.getD 7 0), bv (l.getD 8 0), bv (l.getD 9 0), bv (l.getD 10 0), bv (l.getD 11 0)] ++ s12).toArray)]) [true, true, true, false] kR (all_cons kR (all_cons kR (all_cons kR (all_cons kR all_nil)))) ?_
  refine Sy.round ?_
  refine Sy.seq ?_
  refine sC ?_
  refine sP (.int .i64 12) <| sP (.bool true) ?_
  refine sG ?_
  refine sT ?_
  refine Sy.skip ?_
  refine Sy.then_ ?_
  refine Sy.seq ?_
  refine Sy.block ?_
  refine Sy.region ?_
  refine sP (.slice (some ⟨q12, 0, none⟩) 12 c12) <| sP (.int .i64 12) <| sP (.pointer (some ⟨g0, 12, none⟩)) <| sS (bv (l.getD 12 0)) (Quiet.cell 0 g0 12 31 5 (l.map bv).toArray _ _ rfl kR kR Tryz.underlying5 rfl _ (key_at l hl 12 (by decide))) ?_
  refine Sy.make kR 5 #[bv (l.getD 12 0)] (fun g => .slice (some ⟨g, 0, none⟩) 1 1) kF (fun g14 => ?_)
  refine Sy.append kR 25 5 _ _ Tryz.underlying25 info_u8 rfl rfl rfl rfl _ _ rfl 2 q12 12 c12 ([bv (l.getD 0 0), bv (l.getD 1 0), bv (l.getD 2 0), bv (l.getD 3 0), bv (l.getD 4 0), bv (l.getD 5 0), bv (l.getD 6 0), bv (l.getD 7 0), bv (l.getD 8 0), bv (l.getD 9 0), bv (l.getD 10 0), bv (l.getD 11 0)] ++ s12).toArray [bv (l.getD 0 0), bv (l.getD 1 0), bv (l.getD 2 0), bv (l.getD 3 0), bv (l.getD 4 0), bv (l.getD 5 0), bv (l.getD 6 0), bv (l.getD 7 0), bv (l.getD 8 0), bv (l.getD 9 0), bv (l.getD 10 0), bv (l.getD 11 0)] kR kR kR rfl (by rw [← e12]; simp only [List.size_toArray, List.length_append, List.length_cons, List.length_nil]; omega) m12 3 g14 0 1 1 5 #[bv (l.getD 12 0)] [bv (l.getD 12 0)] kR kR kR rfl (by intro u hu; simp only [List.mem_cons, List.not_mem_nil, or_false] at hu; subst hu; rfl) (by decide) (fun q13 c13 s13 e13 m13 => ?_)
  refine sP (.slice (some ⟨q13, 0, none⟩) 13 c13) ?_
  refine Sy.nil ?_
  refine Sy.in_ ?_
  refine Sy.then_ ?_
  refine Sy.region ?_
  refine sP (.int .i64 12) <| sP (.int .i64 13) <| sP (.int .i64 13) ?_
  refine Sy.nil ?_
  refine Sy.again ?_
  refine Sy.tidyR (G := [(1, .pointer (some ⟨g0, 0, none⟩)), (2, .pointer (some ⟨g1, 0, none⟩)), (4, .slice (some ⟨q13, 0, none⟩) 13 c13), (5, .int .i64 13)]) (M := [(g0, 31, (l.map bv).toArray), (g1, 52, (pcs 0 0 false)), (q13, 5, ([bv (l.getD 0 0), bv (l.getD 1 0), bv (l.getD 2 0), bv (l.getD 3 0), bv (l.getD 4 0), bv (l.getD 5 0), bv (l.getD 6 0), bv (l.getD 7 0), bv (l.getD 8 0), bv (l.getD 9 0), bv (l.getD 10 0), bv (l.getD 11 0), bv (l.getD 12 0)] ++ s13).toArray)]) [true, true, true, false] kR (all_cons kR (all_cons kR (all_cons kR (all_cons kR all_nil)))) ?_
  refine Sy.round ?_
  refine Sy.seq ?_
  refine sC ?_
  refine sP (.int .i64 13) <| sP (.bool true) ?_
  refine sG ?_
  refine sT ?_
  refine Sy.skip ?_
  refine Sy.then_ ?_
  refine Sy.seq ?_
  refine Sy.block ?_
  refine Sy.region ?_
  refine sP (.slice (some ⟨q13, 0, none⟩) 13 c13) <| sP (.int .i64 13) <| sP (.pointer (some ⟨g0, 13, none⟩)) <| sS (bv (l.getD 13 0)) (Quiet.cell 0 g0 13 31 5 (l.map bv).toArray _ _ rfl kR kR Tryz.underlying5 rfl _ (key_at l hl 13 (by decide))) ?_
  refine Sy.make kR 5 #[bv (l.getD 13 0)] (fun g => .slice (some ⟨g, 0, none⟩) 1 1) kF (fun g15 => ?_)
  refine Sy.append kR 25 5 _ _ Tryz.underlying25 info_u8 rfl rfl rfl rfl _ _ rfl 2 q13 13 c13 ([bv (l.getD 0 0), bv (l.getD 1 0), bv (l.getD 2 0), bv (l.getD 3 0), bv (l.getD 4 0), bv (l.getD 5 0), bv (l.getD 6 0), bv (l.getD 7 0), bv (l.getD 8 0), bv (l.getD 9 0), bv (l.getD 10 0), bv (l.getD 11 0), bv (l.getD 12 0)] ++ s13).toArray [bv (l.getD 0 0), bv (l.getD 1 0), bv (l.getD 2 0), bv (l.getD 3 0), bv (l.getD 4 0), bv (l.getD 5 0), bv (l.getD 6 0), bv (l.getD 7 0), bv (l.getD 8 0), bv (l.getD 9 0), bv (l.getD 10 0), bv (l.getD 11 0), bv (l.getD 12 0)] kR kR kR rfl (by rw [← e13]; simp only [List.size_toArray, List.length_append, List.length_cons, List.length_nil]; omega) m13 3 g15 0 1 1 5 #[bv (l.getD 13 0)] [bv (l.getD 13 0)] kR kR kR rfl (by intro u hu; simp only [List.mem_cons, List.not_mem_nil, or_false] at hu; subst hu; rfl) (by decide) (fun q14 c14 s14 e14 m14 => ?_)
  refine sP (.slice (some ⟨q14, 0, none⟩) 14 c14) ?_
  refine Sy.nil ?_
  refine Sy.in_ ?_
  refine Sy.then_ ?_
  refine Sy.region ?_
  refine sP (.int .i64 13) <| sP (.int .i64 14) <| sP (.int .i64 14) ?_
  refine Sy.nil ?_
  refine Sy.again ?_
  refine Sy.tidyR (G := [(1, .pointer (some ⟨g0, 0, none⟩)), (2, .pointer (some ⟨g1, 0, none⟩)), (4, .slice (some ⟨q14, 0, none⟩) 14 c14), (5, .int .i64 14)]) (M := [(g0, 31, (l.map bv).toArray), (g1, 52, (pcs 0 0 false)), (q14, 5, ([bv (l.getD 0 0), bv (l.getD 1 0), bv (l.getD 2 0), bv (l.getD 3 0), bv (l.getD 4 0), bv (l.getD 5 0), bv (l.getD 6 0), bv (l.getD 7 0), bv (l.getD 8 0), bv (l.getD 9 0), bv (l.getD 10 0), bv (l.getD 11 0), bv (l.getD 12 0), bv (l.getD 13 0)] ++ s14).toArray)]) [true, true, true, false] kR (all_cons kR (all_cons kR (all_cons kR (all_cons kR all_nil)))) ?_
  refine Sy.round ?_
  refine Sy.seq ?_
  refine sC ?_
  refine sP (.int .i64 14) <| sP (.bool true) ?_
  refine sG ?_
  refine sT ?_
  refine Sy.skip ?_
  refine Sy.then_ ?_
  refine Sy.seq ?_
  refine Sy.block ?_
  refine Sy.region ?_
  refine sP (.slice (some ⟨q14, 0, none⟩) 14 c14) <| sP (.int .i64 14) <| sP (.pointer (some ⟨g0, 14, none⟩)) <| sS (bv (l.getD 14 0)) (Quiet.cell 0 g0 14 31 5 (l.map bv).toArray _ _ rfl kR kR Tryz.underlying5 rfl _ (key_at l hl 14 (by decide))) ?_
  refine Sy.make kR 5 #[bv (l.getD 14 0)] (fun g => .slice (some ⟨g, 0, none⟩) 1 1) kF (fun g16 => ?_)
  refine Sy.append kR 25 5 _ _ Tryz.underlying25 info_u8 rfl rfl rfl rfl _ _ rfl 2 q14 14 c14 ([bv (l.getD 0 0), bv (l.getD 1 0), bv (l.getD 2 0), bv (l.getD 3 0), bv (l.getD 4 0), bv (l.getD 5 0), bv (l.getD 6 0), bv (l.getD 7 0), bv (l.getD 8 0), bv (l.getD 9 0), bv (l.getD 10 0), bv (l.getD 11 0), bv (l.getD 12 0), bv (l.getD 13 0)] ++ s14).toArray [bv (l.getD 0 0), bv (l.getD 1 0), bv (l.getD 2 0), bv (l.getD 3 0), bv (l.getD 4 0), bv (l.getD 5 0), bv (l.getD 6 0), bv (l.getD 7 0), bv (l.getD 8 0), bv (l.getD 9 0), bv (l.getD 10 0), bv (l.getD 11 0), bv (l.getD 12 0), bv (l.getD 13 0)] kR kR kR rfl (by rw [← e14]; simp only [List.size_toArray, List.length_append, List.length_cons, List.length_nil]; omega) m14 3 g16 0 1 1 5 #[bv (l.getD 14 0)] [bv (l.getD 14 0)] kR kR kR rfl (by intro u hu; simp only [List.mem_cons, List.not_mem_nil, or_false] at hu; subst hu; rfl) (by decide) (fun q15 c15 s15 e15 m15 => ?_)
  refine sP (.slice (some ⟨q15, 0, none⟩) 15 c15) ?_
  refine Sy.nil ?_
  refine Sy.in_ ?_
  refine Sy.then_ ?_
  refine Sy.region ?_
  refine sP (.int .i64 14) <| sP (.int .i64 15) <| sP (.int .i64 15) ?_
  refine Sy.nil ?_
  refine Sy.again ?_
  refine Sy.tidyR (G := [(1, .pointer (some ⟨g0, 0, none⟩)), (2, .pointer (some ⟨g1, 0, none⟩)), (4, .slice (some ⟨q15, 0, none⟩) 15 c15), (5, .int .i64 15)]) (M := [(g0, 31, (l.map bv).toArray), (g1, 52, (pcs 0 0 false)), (q15, 5, ([bv (l.getD 0 0), bv (l.getD 1 0), bv (l.getD 2 0), bv (l.getD 3 0), bv (l.getD 4 0), bv (l.getD 5 0), bv (l.getD 6 0), bv (l.getD 7 0), bv (l.getD 8 0), bv (l.getD 9 0), bv (l.getD 10 0), bv (l.getD 11 0), bv (l.getD 12 0), bv (l.getD 13 0), bv (l.getD 14 0)] ++ s15).toArray)]) [true, true, true, false] kR (all_cons kR (all_cons kR (all_cons kR (all_cons kR all_nil)))) ?_
  refine Sy.round ?_
  refine Sy.seq ?_
  refine sC ?_
  refine sP (.int .i64 15) <| sP (.bool true) ?_
  refine sG ?_
  refine sT ?_
  refine Sy.skip ?_
  refine Sy.then_ ?_
  refine Sy.seq ?_
  refine Sy.block ?_
  refine Sy.region ?_
  refine sP (.slice (some ⟨q15, 0, none⟩) 15 c15) <| sP (.int .i64 15) <| sP (.pointer (some ⟨g0, 15, none⟩)) <| sS (bv (l.getD 15 0)) (Quiet.cell 0 g0 15 31 5 (l.map bv).toArray _ _ rfl kR kR Tryz.underlying5 rfl _ (key_at l hl 15 (by decide))) ?_
  refine Sy.make kR 5 #[bv (l.getD 15 0)] (fun g => .slice (some ⟨g, 0, none⟩) 1 1) kF (fun g17 => ?_)
  refine Sy.append kR 25 5 _ _ Tryz.underlying25 info_u8 rfl rfl rfl rfl _ _ rfl 2 q15 15 c15 ([bv (l.getD 0 0), bv (l.getD 1 0), bv (l.getD 2 0), bv (l.getD 3 0), bv (l.getD 4 0), bv (l.getD 5 0), bv (l.getD 6 0), bv (l.getD 7 0), bv (l.getD 8 0), bv (l.getD 9 0), bv (l.getD 10 0), bv (l.getD 11 0), bv (l.getD 12 0), bv (l.getD 13 0), bv (l.getD 14 0)] ++ s15).toArray [bv (l.getD 0 0), bv (l.getD 1 0), bv (l.getD 2 0), bv (l.getD 3 0), bv (l.getD 4 0), bv (l.getD 5 0), bv (l.getD 6 0), bv (l.getD 7 0), bv (l.getD 8 0), bv (l.getD 9 0), bv (l.getD 10 0), bv (l.getD 11 0), bv (l.getD 12 0), bv (l.getD 13 0), bv (l.getD 14 0)] kR kR kR rfl (by rw [← e15]; simp only [List.size_toArray, List.length_append, List.length_cons, List.length_nil]; omega) m15 3 g17 0 1 1 5 #[bv (l.getD 15 0)] [bv (l.getD 15 0)] kR kR kR rfl (by intro u hu; simp only [List.mem_cons, List.not_mem_nil, or_false] at hu; subst hu; rfl) (by decide) (fun q16 c16 s16 e16 m16 => ?_)
  refine sP (.slice (some ⟨q16, 0, none⟩) 16 c16) ?_
  refine Sy.nil ?_
  refine Sy.in_ ?_
  refine Sy.then_ ?_
  refine Sy.region ?_
  refine sP (.int .i64 15) <| sP (.int .i64 16) <| sP (.int .i64 16) ?_
  refine Sy.nil ?_
  refine Sy.again ?_
  refine Sy.tidyR (G := [(1, .pointer (some ⟨g0, 0, none⟩)), (2, .pointer (some ⟨g1, 0, none⟩)), (4, .slice (some ⟨q16, 0, none⟩) 16 c16), (5, .int .i64 16)]) (M := [(g0, 31, (l.map bv).toArray), (g1, 52, (pcs 0 0 false)), (q16, 5, ([bv (l.getD 0 0), bv (l.getD 1 0), bv (l.getD 2 0), bv (l.getD 3 0), bv (l.getD 4 0), bv (l.getD 5 0), bv (l.getD 6 0), bv (l.getD 7 0), bv (l.getD 8 0), bv (l.getD 9 0), bv (l.getD 10 0), bv (l.getD 11 0), bv (l.getD 12 0), bv (l.getD 13 0), bv (l.getD 14 0), bv (l.getD 15 0)] ++ s16).toArray)]) [true, true, true, false] kR (all_cons kR (all_cons kR (all_cons kR (all_cons kR all_nil)))) ?_
  refine Sy.round ?_
  refine Sy.seq ?_
  refine sC ?_
  refine sP (.int .i64 16) <| sP (.bool true) ?_
  refine sG ?_
  refine sT ?_
  refine Sy.skip ?_
  refine Sy.then_ ?_
  refine Sy.seq ?_
  refine Sy.block ?_
  refine Sy.region ?_
  refine sP (.slice (some ⟨q16, 0, none⟩) 16 c16) <| sP (.int .i64 16) <| sP (.pointer (some ⟨g0, 16, none⟩)) <| sS (bv (l.getD 16 0)) (Quiet.cell 0 g0 16 31 5 (l.map bv).toArray _ _ rfl kR kR Tryz.underlying5 rfl _ (key_at l hl 16 (by decide))) ?_
  refine Sy.make kR 5 #[bv (l.getD 16 0)] (fun g => .slice (some ⟨g, 0, none⟩) 1 1) kF (fun g18 => ?_)
  refine Sy.append kR 25 5 _ _ Tryz.underlying25 info_u8 rfl rfl rfl rfl _ _ rfl 2 q16 16 c16 ([bv (l.getD 0 0), bv (l.getD 1 0), bv (l.getD 2 0), bv (l.getD 3 0), bv (l.getD 4 0), bv (l.getD 5 0), bv (l.getD 6 0), bv (l.getD 7 0), bv (l.getD 8 0), bv (l.getD 9 0), bv (l.getD 10 0), bv (l.getD 11 0), bv (l.getD 12 0), bv (l.getD 13 0), bv (l.getD 14 0), bv (l.getD 15 0)] ++ s16).toArray [bv (l.getD 0 0), bv (l.getD 1 0), bv (l.getD 2 0), bv (l.getD 3 0), bv (l.getD 4 0), bv (l.getD 5 0), bv (l.getD 6 0), bv (l.getD 7 0), bv (l.getD 8 0), bv (l.getD 9 0), bv (l.getD 10 0), bv (l.getD 11 0), bv (l.getD 12 0), bv (l.getD 13 0), bv (l.getD 14 0), bv (l.getD 15 0)] kR kR kR rfl (by rw [← e16]; simp only [List.size_toArray, List.length_append, List.length_cons, List.length_nil]; omega) m16 3 g18 0 1 1 5 #[bv (l.getD 16 0)] [bv (l.getD 16 0)] kR kR kR rfl (by intro u hu; simp only [List.mem_cons, List.not_mem_nil, or_false] at hu; subst hu; rfl) (by decide) (fun q17 c17 s17 e17 m17 => ?_)
  refine sP (.slice (some ⟨q17, 0, none⟩) 17 c17) ?_
  refine Sy.nil ?_
  refine Sy.in_ ?_
  refine Sy.then_ ?_
  refine Sy.region ?_
  refine sP (.int .i64 16) <| sP (.int .i64 17) <| sP (.int .i64 17) ?_
  refine Sy.nil ?_
  refine Sy.again ?_
  refine Sy.tidyR (G := [(1, .pointer (some ⟨g0, 0, none⟩)), (2, .pointer (some ⟨g1, 0, none⟩)), (4, .slice (some ⟨q17, 0, none⟩) 17 c17), (5, .int .i64 17)]) (M := [(g0, 31, (l.map bv).toArray), (g1, 52, (pcs 0 0 false)), (q17, 5, ([bv (l.getD 0 0), bv (l.getD 1 0), bv (l.getD 2 0), bv (l.getD 3 0), bv (l.getD 4 0), bv (l.getD 5 0), bv (l.getD 6 0), bv (l.getD 7 0), bv (l.getD 8 0), bv (l.getD 9 0), bv (l.getD 10 0), bv (l.getD 11 0), bv (l.getD 12 0), bv (l.getD 13 0), bv (l.getD 14 0), bv (l.getD 15 0), bv (l.getD 16 0)] ++ s17).toArray)]) [true, true, true, false] kR (all_cons kR (all_cons kR (all_cons kR (all_cons kR all_nil)))) ?_
  refine Sy.round ?_
  refine Sy.seq ?_
  refine sC ?_
  refine sP (.int .i64 17) <| sP (.bool true) ?_
  refine sG ?_
  refine sT ?_
  refine Sy.skip ?_
  refine Sy.then_ ?_
  refine Sy.seq ?_
  refine Sy.block ?_
  refine Sy.region ?_
  refine sP (.slice (some ⟨q17, 0, none⟩) 17 c17) <| sP (.int .i64 17) <| sP (.pointer (some ⟨g0, 17, none⟩)) <| sS (bv (l.getD 17 0)) (Quiet.cell 0 g0 17 31 5 (l.map bv).toArray _ _ rfl kR kR Tryz.underlying5 rfl _ (key_at l hl 17 (by decide))) ?_
  refine Sy.make kR 5 #[bv (l.getD 17 0)] (fun g => .slice (some ⟨g, 0, none⟩) 1 1) kF (fun g19 => ?_)
  refine Sy.append kR 25 5 _ _ Tryz.underlying25 info_u8 rfl rfl rfl rfl _ _ rfl 2 q17 17 c17 ([bv (l.getD 0 0), bv (l.getD 1 0), bv (l.getD 2 0), bv (l.getD 3 0), bv (l.getD 4 0), bv (l.getD 5 0), bv (l.getD 6 0), bv (l.getD 7 0), bv (l.getD 8 0), bv (l.getD 9 0), bv (l.getD 10 0), bv (l.getD 11 0), bv (l.getD 12 0), bv (l.getD 13 0), bv (l.getD 14 0), bv (l.getD 15 0), bv (l.getD 16 0)] ++ s17).toArray [bv (l.getD 0 0), bv (l.getD 1 0), bv (l.getD 2 0), bv (l.getD 3 0), bv (l.getD 4 0), bv (l.getD 5 0), bv (l.getD 6 0), bv (l.getD 7 0), bv (l.getD 8 0), bv (l.getD 9 0), bv (l.getD 10 0), bv (l.getD 11 0), bv (l.getD 12 0), bv (l.getD 13 0), bv (l.getD 14 0), bv (l.getD 15 0), bv (l.getD 16 0)] kR kR kR rfl (by rw [← e17]; simp only [List.size_toArray, List.length_append, List.length_cons, List.length_nil]; omega) m17 3 g19 0 1 1 5 #[bv (l.getD 17 0)] [bv (l.getD 17 0)] kR kR kR rfl (by intro u hu; simp only [List.mem_cons, List.not_mem_nil, or_false] at hu; subst hu; rfl) (by decide) (fun q18 c18 s18 e18 m18 => ?_)
  refine sP (.slice (some ⟨q18, 0, none⟩) 18 c18) ?_
  refine Sy.nil ?_
  refine Sy.in_ ?_
  refine Sy.then_ ?_
  refine Sy.region ?_
  refine sP (.int .i64 17) <| sP (.int .i64 18) <| sP (.int .i64 18) ?_
  refine Sy.nil ?_
  refine Sy.again ?_
  refine Sy.tidyR (G := [(1, .pointer (some ⟨g0, 0, none⟩)), (2, .pointer (some ⟨g1, 0, none⟩)), (4, .slice (some ⟨q18, 0, none⟩) 18 c18), (5, .int .i64 18)]) (M := [(g0, 31, (l.map bv).toArray), (g1, 52, (pcs 0 0 false)), (q18, 5, ([bv (l.getD 0 0), bv (l.getD 1 0), bv (l.getD 2 0), bv (l.getD 3 0), bv (l.getD 4 0), bv (l.getD 5 0), bv (l.getD 6 0), bv (l.getD 7 0), bv (l.getD 8 0), bv (l.getD 9 0), bv (l.getD 10 0), bv (l.getD 11 0), bv (l.getD 12 0), bv (l.getD 13 0), bv (l.getD 14 0), bv (l.getD 15 0), bv (l.getD 16 0), bv (l.getD 17 0)] ++ s18).toArray)]) [true, true, true, false] kR (all_cons kR (all_cons kR (all_cons kR (all_cons kR all_nil)))) ?_
  refine Sy.round ?_
  refine Sy.seq ?_
  refine sC ?_
  refine sP (.int .i64 18) <| sP (.bool true) ?_
  refine sG ?_
  refine sT ?_
  refine Sy.skip ?_
  refine Sy.then_ ?_
  refine Sy.seq ?_
  refine Sy.block ?_
  refine Sy.region ?_
  refine sP (.slice (some ⟨q18, 0, none⟩) 18 c18) <| sP (.int .i64 18) <| sP (.pointer (some ⟨g0, 18, none⟩)) <| sS (bv (l.getD 18 0)) (Quiet.cell 0 g0 18 31 5 (l.map bv).toArray _ _ rfl kR kR Tryz.underlying5 rfl _ (key_at l hl 18 (by decide))) ?_
  refine Sy.make kR 5 #[bv (l.getD 18 0)] (fun g => .slice (some ⟨g, 0, none⟩) 1 1) kF (fun g20 => ?_)
  refine Sy.append kR 25 5 _ _ Tryz.underlying25 info_u8 rfl rfl rfl rfl _ _ rfl 2 q18 18 c18 ([bv (l.getD 0 0), bv (l.getD 1 0), bv (l.getD 2 0), bv (l.getD 3 0), bv (l.getD 4 0), bv (l.getD 5 0), bv (l.getD 6 0), bv (l.getD 7 0), bv (l.getD 8 0), bv (l.getD 9 0), bv (l.getD 10 0), bv (l.getD 11 0), bv (l.getD 12 0), bv (l.getD 13 0), bv (l.getD 14 0), bv (l.getD 15 0), bv (l.getD 16 0), bv (l.getD 17 0)] ++ s18).toArray [bv (l.getD 0 0), bv (l.getD 1 0), bv (l.getD 2 0), bv (l.getD 3 0), bv (l.getD 4 0), bv (l.getD 5 0), bv (l.getD 6 0), bv (l.getD 7 0), bv (l.getD 8 0), bv (l.getD 9 0), bv (l.getD 10 0), bv (l.getD 11 0), bv (l.getD 12 0), bv (l.getD 13 0), bv (l.getD 14 0), bv (l.getD 15 0), bv (l.getD 16 0), bv (l.getD 17 0)] kR kR kR rfl (by rw [← e18]; simp only [List.size_toArray, List.length_append, List.length_cons, List.length_nil]; omega) m18 3 g20 0 1 1 5 #[bv (l.getD 18 0)] [bv (l.getD 18 0)] kR kR kR rfl (by intro u hu; simp only [List.mem_cons, List.not_mem_nil, or_false] at hu; subst hu; rfl) (by decide) (fun q19 c19 s19 e19 m19 => ?_)
  refine sP (.slice (some ⟨q19, 0, none⟩) 19 c19) ?_
  refine Sy.nil ?_
  refine Sy.in_ ?_
  refine Sy.then_ ?_
  refine Sy.region ?_
  refine sP (.int .i64 18) <| sP (.int .i64 19) <| sP (.int .i64 19) ?_
  refine Sy.nil ?_
  refine Sy.again ?_
  refine Sy.tidyR (G := [(1, .pointer (some ⟨g0, 0, none⟩)), (2, .pointer (some ⟨g1, 0, none⟩)), (4, .slice (some ⟨q19, 0, none⟩) 19 c19), (5, .int .i64 19)]) (M := [(g0, 31, (l.map bv).toArray), (g1, 52, (pcs 0 0 false)), (q19, 5, ([bv (l.getD 0 0), bv (l.getD 1 0), bv (l.getD 2 0), bv (l.getD 3 0), bv (l.getD 4 0), bv (l.getD 5 0), bv (l.getD 6 0), bv (l.getD 7 0), bv (l.getD 8 0), bv (l.getD 9 0), bv (l.getD 10 0), bv (l.getD 11 0), bv (l.getD 12 0), bv (l.getD 13 0), bv (l.getD 14 0), bv (l.getD 15 0), bv (l.getD 16 0), bv (l.getD 17 0), bv (l.getD 18 0)] ++ s19).toArray)]) [true, true, true, false] kR (all_cons kR (all_cons kR (all_cons kR (all_cons kR all_nil)))) ?_
  refine Sy.round ?_
  refine Sy.seq ?_
  refine sC ?_
  refine sP (.int .i64 19) <| sP (.bool true) ?_
  refine sG ?_
  refine sT ?_
  refine Sy.skip ?_
  refine Sy.then_ ?_
  refine Sy.seq ?_
  refine Sy.block ?_
  refine Sy.region ?_
  refine sP (.slice (some ⟨q19, 0, none⟩) 19 c19) <| sP (.int .i64 19) <| sP (.pointer (some ⟨g0, 19, none⟩)) <| sS (bv (l.getD 19 0)) (Quiet.cell 0 g0 19 31 5 (l.map bv).toArray _ _ rfl kR kR Tryz.underlying5 rfl _ (key_at l hl 19 (by decide))) ?_
  refine Sy.make kR 5 #[bv (l.getD 19 0)] (fun g => .slice (some ⟨g, 0, none⟩) 1 1) kF (fun g21 => ?_)
  refine Sy.append kR 25 5 _ _ Tryz.underlying25 info_u8 rfl rfl rfl rfl _ _ rfl 2 q19 19 c19 ([bv (l.getD 0 0), bv (l.getD 1 0), bv (l.getD 2 0), bv (l.getD 3 0), bv (l.getD 4 0), bv (l.getD 5 0), bv (l.getD 6 0), bv (l.getD 7 0), bv (l.getD 8 0), bv (l.getD 9 0), bv (l.getD 10 0), bv (l.getD 11 0), bv (l.getD 12 0), bv (l.getD 13 0), bv (l.getD 14 0), bv (l.getD 15 0), bv (l.getD 16 0), bv (l.getD 17 0), bv (l.getD 18 0)] ++ s19).toArray [bv (l.getD 0 0), bv (l.getD 1 0), bv (l.getD 2 0), bv (l.getD 3 0), bv (l.getD 4 0), bv (l.getD 5 0), bv (l.getD 6 0), bv (l.getD 7 0), bv (l.getD 8 0), bv (l.getD 9 0), bv (l.getD 10 0), bv (l.getD 11 0), bv (l.getD 12 0), bv (l.getD 13 0), bv (l.getD 14 0), bv (l.getD 15 0), bv (l.getD 16 0), bv (l.getD 17 0), bv (l.getD 18 0)] kR kR kR rfl (by rw [← e19]; simp only [List.size_toArray, List.length_append, List.length_cons, List.length_nil]; omega) m19 3 g21 0 1 1 5 #[bv (l.getD 19 0)] [bv (l.getD 19 0)] kR kR kR rfl (by intro u hu; simp only [List.mem_cons, List.not_mem_nil, or_false] at hu; subst hu; rfl) (by decide) (fun q20 c20 s20 e20 m20 => ?_)
  refine sP (.slice (some ⟨q20, 0, none⟩) 20 c20) ?_
  refine Sy.nil ?_
  refine Sy.in_ ?_
  refine Sy.then_ ?_
  refine Sy.region ?_
  refine sP (.int .i64 19) <| sP (.int .i64 20) <| sP (.int .i64 20) ?_
  refine Sy.nil ?_
  refine Sy.again ?_
  refine Sy.tidyR (G := [(1, .pointer (some ⟨g0, 0, none⟩)), (2, .pointer (some ⟨g1, 0, none⟩)), (4, .slice (some ⟨q20, 0, none⟩) 20 c20), (5, .int .i64 20)]) (M := [(g0, 31, (l.map bv).toArray), (g1, 52, (pcs 0 0 false)), (q20, 5, ([bv (l.getD 0 0), bv (l.getD 1 0), bv (l.getD 2 0), bv (l.getD 3 0), bv (l.getD 4 0), bv (l.getD 5 0), bv (l.getD 6 0), bv (l.getD 7 0), bv (l.getD 8 0), bv (l.getD 9 0), bv (l.getD 10 0), bv (l.getD 11 0), bv (l.getD 12 0), bv (l.getD 13 0), bv (l.getD 14 0), bv (l.getD 15 0), bv (l.getD 16 0), bv (l.getD 17 0), bv (l.getD 18 0), bv (l.getD 19 0)] ++ s20).toArray)]) [true, true, true, false] kR (all_cons kR (all_cons kR (all_cons kR (all_cons kR all_nil)))) ?_
  refine Sy.round ?_
  refine Sy.seq ?_
  refine sC ?_
  refine sP (.int .i64 20) <| sP (.bool true) ?_
  refine sG ?_
  refine sT ?_
  refine Sy.skip ?_
  refine Sy.then_ ?_
  refine Sy.seq ?_
  refine Sy.block ?_
  refine Sy.region ?_
  refine sP (.slice (some ⟨q20, 0, none⟩) 20 c20) <| sP (.int .i64 20) <| sP (.pointer (some ⟨g0, 20, none⟩)) <| sS (bv (l.getD 20 0)) (Quiet.cell 0 g0 20 31 5 (l.map bv).toArray _ _ rfl kR kR Tryz.underlying5 rfl _ (key_at l hl 20 (by decide))) ?_
  refine Sy.make kR 5 #[bv (l.getD 20 0)] (fun g => .slice (some ⟨g, 0, none⟩) 1 1) kF (fun g22 => ?_)
  refine Sy.append kR 25 5 _ _ Tryz.underlying25 info_u8 rfl rfl rfl rfl _ _ rfl 2 q20 20 c20 ([bv (l.getD 0 0), bv (l.getD 1 0), bv (l.getD 2 0), bv (l.getD 3 0), bv (l.getD 4 0), bv (l.getD 5 0), bv (l.getD 6 0), bv (l.getD 7 0), bv (l.getD 8 0), bv (l.getD 9 0), bv (l.getD 10 0), bv (l.getD 11 0), bv (l.getD 12 0), bv (l.getD 13 0), bv (l.getD 14 0), bv (l.getD 15 0), bv (l.getD 16 0), bv (l.getD 17 0), bv (l.getD 18 0), bv (l.getD 19 0)] ++ s20).toArray [bv (l.getD 0 0), bv (l.getD 1 0), bv (l.getD 2 0), bv (l.getD 3 0), bv (l.getD 4 0), bv (l.getD 5 0), bv (l.getD 6 0), bv (l.getD 7 0), bv (l.getD 8 0), bv (l.getD 9 0), bv (l.getD 10 0), bv (l.getD 11 0), bv (l.getD 12 0), bv (l.getD 13 0), bv (l.getD 14 0), bv (l.getD 15 0), bv (l.getD 16 0), bv (l.getD 17 0), bv (l.getD 18 0), bv (l.getD 19 0)] kR kR kR rfl (by rw [← e20]; simp only [List.size_toArray, List.length_append, List.length_cons, List.length_nil]; omega) m20 3 g22 0 1 1 5 #[bv (l.getD 20 0)] [bv (l.getD 20 0)] kR kR kR rfl (by intro u hu; simp only [List.mem_cons, List.not_mem_nil, or_false] at hu; subst hu; rfl) (by decide) (fun q21 c21 s21 e21 m21 => ?_)
  refine sP (.slice (some ⟨q21, 0, none⟩) 21 c21) ?_
  refine Sy.nil ?_
  refine Sy.in_ ?_
  refine Sy.then_ ?_
  refine Sy.region ?_
  refine sP (.int .i64 20) <| sP (.int .i64 21) <| sP (.int .i64 21) ?_
  refine Sy.nil ?_
  refine Sy.again ?_
  refine Sy.tidyR (G := [(1, .pointer (some ⟨g0, 0, none⟩)), (2, .pointer (some ⟨g1, 0, none⟩)), (4, .slice (some ⟨q21, 0, none⟩) 21 c21), (5, .int .i64 21)]) (M := [(g0, 31, (l.map bv).toArray), (g1, 52, (pcs 0 0 false)), (q21, 5, ([bv (l.getD 0 0), bv (l.getD 1 0), bv (l.getD 2 0), bv (l.getD 3 0), bv (l.getD 4 0), bv (l.getD 5 0), bv (l.getD 6 0), bv (l.getD 7 0), bv (l.getD 8 0), bv (l.getD 9 0), bv (l.getD 10 0), bv (l.getD 11 0), bv (l.getD 12 0), bv (l.getD 13 0), bv (l.getD 14 0), bv (l.getD 15 0), bv (l.getD 16 0), bv (l.getD 17 0), bv (l.getD 18 0), bv (l.getD 19 0), bv (l.getD 20 0)] ++ s21).toArray)]) [true, true, true, false] kR (all_cons kR (all_cons kR (all_cons kR (all_cons kR all_nil)))) ?_
  refine Sy.round ?_
  refine Sy.seq ?_
  refine sC ?_
  refine sP (.int .i64 21) <| sP (.bool true) ?_
  refine sG ?_
  refine sT ?_
  refine Sy.skip ?_
  refine Sy.then_ ?_
  refine Sy.seq ?_
  refine Sy.block ?_
  refine Sy.region ?_
  refine sP (.slice (some ⟨q21, 0, none⟩) 21 c21) <| sP (.int .i64 21) <| sP (.pointer (some ⟨g0, 21, none⟩)) <| sS (bv (l.getD 21 0)) (Quiet.cell 0 g0 21 31 5 (l.map bv).toArray _ _ rfl kR kR Tryz.underlying5 rfl _ (key_at l hl 21 (by decide))) ?_
  refine Sy.make kR 5 #[bv (l.getD 21 0)] (fun g => .slice (some ⟨g, 0, none⟩) 1 1) kF (fun g23 => ?_)
  refine Sy.append kR 25 5 _ _ Tryz.underlying25 info_u8 rfl rfl rfl rfl _ _ rfl 2 q21 21 c21 ([bv (l.getD 0 0), bv (l.getD 1 0), bv (l.getD 2 0), bv (l.getD 3 0), bv (l.getD 4 0), bv (l.getD 5 0), bv (l.getD 6 0), bv (l.getD 7 0), bv (l.getD 8 0), bv (l.getD 9 0), bv (l.getD 10 0), bv (l.getD 11 0), bv (l.getD 12 0), bv (l.getD 13 0), bv (l.getD 14 0), bv (l.getD 15 0), bv (l.getD 16 0), bv (l.getD 17 0), bv (l.getD 18 0), bv (l.getD 19 0), bv (l.getD 20 0)] ++ s21).toArray [bv (l.getD 0 0), bv (l.getD 1 0), bv (l.getD 2 0), bv (l.getD 3 0), bv (l.getD 4 0), bv (l.getD 5 0), bv (l.getD 6 0), bv (l.getD 7 0), bv (l.getD 8 0), bv (l.getD 9 0), bv (l.getD 10 0), bv (l.getD 11 0), bv (l.getD 12 0), bv (l.getD 13 0), bv (l.getD 14 0), bv (l.getD 15 0), bv (l.getD 16 0), bv (l.getD 17 0), bv (l.getD 18 0), bv (l.getD 19 0), bv (l.getD 20 0)] kR kR kR rfl (by rw [← e21]; simp only [List.size_toArray, List.length_append, List.length_cons, List.length_nil]; omega) m21 3 g23 0 1 1 5 #[bv (l.getD 21 0)] [bv (l.getD 21 0)] kR kR kR rfl (by intro u hu; simp only [List.mem_cons, List.not_mem_nil, or_false] at hu; subst hu; rfl) (by decide) (fun q22 c22 s22 e22 m22 => ?_)
  refine sP (.slice (some ⟨q22, 0, none⟩) 22 c22) ?_
  refine Sy.nil ?_
  refine Sy.in_ ?_
  refine Sy.then_ ?_
  refine Sy.region ?_
  refine sP (.int .i64 21) <| sP (.int .i64 22) <| sP (.int .i64 22) ?_
  refine Sy.nil ?_
  refine Sy.again ?_
  refine Sy.tidyR (G := [(1, .pointer (some ⟨g0, 0, none⟩)), (2, .pointer (some ⟨g1, 0, none⟩)), (4, .slice (some ⟨q22, 0, none⟩) 22 c22), (5, .int .i64 22)]) (M := [(g0, 31, (l.map bv).toArray), (g1, 52, (pcs 0 0 false)), (q22, 5, ([bv (l.getD 0 0), bv (l.getD 1 0), bv (l.getD 2 0), bv (l.getD 3 0), bv (l.getD 4 0), bv (l.getD 5 0), bv (l.getD 6 0), bv (l.getD 7 0), bv (l.getD 8 0), bv (l.getD 9 0), bv (l.getD 10 0), bv (l.getD 11 0), bv (l.getD 12 0), bv (l.getD 13 0), bv (l.getD 14 0), bv (l.getD 15 0), bv (l.getD 16 0), bv (l.getD 17 0), bv (l.getD 18 0), bv (l.getD 19 0), bv (l.getD 20 0), bv (l.getD 21 0)] ++ s22).toArray)]) [true, true, true, false] kR (all_cons kR (all_cons kR (all_cons kR (all_cons kR all_nil)))) ?_
  refine Sy.round ?_
  refine Sy.seq ?_
  refine sC ?_
  refine sP (.int .i64 22) <| sP (.bool true) ?_
  refine sG ?_
  refine sT ?_
  refine Sy.skip ?_
  refine Sy.then_ ?_
  refine Sy.seq ?_
  refine Sy.block ?_
  refine Sy.region ?_
  refine sP (.slice (some ⟨q22, 0, none⟩) 22 c22) <| sP (.int .i64 22) <| sP (.pointer (some ⟨g0, 22, none⟩)) <| sS (bv (l.getD 22 0)) (Quiet.cell 0 g0 22 31 5 (l.map bv).toArray _ _ rfl kR kR Tryz.underlying5 rfl _ (key_at l hl 22 (by decide))) ?_
  refine Sy.make kR 5 #[bv (l.getD 22 0)] (fun g => .slice (some ⟨g, 0, none⟩) 1 1) kF (fun g24 => ?_)
  refine Sy.append kR 25 5 _ _ Tryz.underlying25 info_u8 rfl rfl rfl rfl _ _ rfl 2 q22 22 c22 ([bv (l.getD 0 0), bv (l.getD 1 0), bv (l.getD 2 0), bv (l.getD 3 0), bv (l.getD 4 0), bv (l.getD 5 0), bv (l.getD 6 0), bv (l.getD 7 0), bv (l.getD 8 0), bv (l.getD 9 0), bv (l.getD 10 0), bv (l.getD 11 0), bv (l.getD 12 0), bv (l.getD 13 0), bv (l.getD 14 0), bv (l.getD 15 0), bv (l.getD 16 0), bv (l.getD 17 0), bv (l.getD 18 0), bv (l.getD 19 0), bv (l.getD 20 0), bv (l.getD 21 0)] ++ s22).toArray [bv (l.getD 0 0), bv (l.getD 1 0), bv (l.getD 2 0), bv (l.getD 3 0), bv (l.getD 4 0), bv (l.getD 5 0), bv (l.getD 6 0), bv (l.getD 7 0), bv (l.getD 8 0), bv (l.getD 9 0), bv (l.getD 10 0), bv (l.getD 11 0), bv (l.getD 12 0), bv (l.getD 13 0), bv (l.getD 14 0), bv (l.getD 15 0), bv (l.getD 16 0), bv (l.getD 17 0), bv (l.getD 18 0), bv (l.getD 19 0), bv (l.getD 20 0), bv (l.getD 21 0)] kR kR kR rfl (by rw [← e22]; simp only [List.size_toArray, List.length_append, List.length_cons, List.length_nil]; omega) m22 3 g24 0 1 1 5 #[bv (l.getD 22 0)] [bv (l.getD 22 0)] kR kR kR rfl (by intro u hu; simp only [List.mem_cons, List.not_mem_nil, or_false] at hu; subst hu; rfl) (by decide) (fun q23 c23 s23 e23 m23 => ?_)
  refine sP (.slice (some ⟨q23, 0, none⟩) 23 c23) ?_
  refine Sy.nil ?_
  refine Sy.in_ ?_
  refine Sy.then_ ?_
  refine Sy.region ?_
  refine sP (.int .i64 22) <| sP (.int .i64 23) <| sP (.int .i64 23) ?_
  refine Sy.nil ?_
  refine Sy.again ?_
  refine Sy.tidyR (G := [(1, .pointer (some ⟨g0, 0, none⟩)), (2, .pointer (some ⟨g1, 0, none⟩)), (4, .slice (some ⟨q23, 0, none⟩) 23 c23), (5, .int .i64 23)]) (M := [(g0, 31, (l.map bv).toArray), (g1, 52, (pcs 0 0 false)), (q23, 5, ([bv (l.getD 0 0), bv (l.getD 1 0), bv (l.getD 2 0), bv (l.getD 3 0), bv (l.getD 4 0), bv (l.getD 5 0), bv (l.getD 6 0), bv (l.getD 7 0), bv (l.getD 8 0), bv (l.getD 9 0), bv (l.getD 10 0), bv (l.getD 11 0), bv (l.getD 12 0), bv (l.getD 13 0), bv (l.getD 14 0), bv (l.getD 15 0), bv (l.getD 16 0), bv (l.getD 17 0), bv (l.getD 18 0), bv (l.getD 19 0), bv (l.getD 20 0), bv (l.getD 21 0), bv (l.getD 22 0)] ++ s23).toArray)]) [true, true, true, false] kR (all_cons kR (all_cons kR (all_cons kR (all_cons kR all_nil)))) ?_
  refine Sy.round ?_
  refine Sy.seq ?_
  refine sC ?_
  refine sP (.int .i64 23) <| sP (.bool true) ?_
  refine sG ?_
  refine sT ?_
  refine Sy.skip ?_
  refine Sy.then_ ?_
  refine Sy.seq ?_
  refine Sy.block ?_
  refine Sy.region ?_
  refine sP (.slice (some ⟨q23, 0, none⟩) 23 c23) <| sP (.int .i64 23) <| sP (.pointer (some ⟨g0, 23, none⟩)) <| sS (bv (l.getD 23 0)) (Quiet.cell 0 g0 23 31 5 (l.map bv).toArray _ _ rfl kR kR Tryz.underlying5 rfl _ (key_at l hl 23 (by decide))) ?_
  refine Sy.make kR 5 #[bv (l.getD 23 0)] (fun g => .slice (some ⟨g, 0, none⟩) 1 1) kF (fun g25 => ?_)
  refine Sy.append kR 25 5 _ _ Tryz.underlying25 info_u8 rfl rfl rfl rfl _ _ rfl 2 q23 23 c23 ([bv (l.getD 0 0), bv (l.getD 1 0), bv (l.getD 2 0), bv (l.getD 3 0), bv (l.getD 4 0), bv (l.getD 5 0), bv (l.getD 6 0), bv (l.getD 7 0), bv (l.getD 8 0), bv (l.getD 9 0), bv (l.getD 10 0), bv (l.getD 11 0), bv (l.getD 12 0), bv (l.getD 13 0), bv (l.getD 14 0), bv (l.getD 15 0), bv (l.getD 16 0), bv (l.getD 17 0), bv (l.getD 18 0), bv (l.getD 19 0), bv (l.getD 20 0), bv (l.getD 21 0), bv (l.getD 22 0)] ++ s23).toArray [bv (l.getD 0 0), bv (l.getD 1 0), bv (l.getD 2 0), bv (l.getD 3 0), bv (l.getD 4 0), bv (l.getD 5 0), bv (l.getD 6 0), bv (l.getD 7 0), bv (l.getD 8 0), bv (l.getD 9 0), bv (l.getD 10 0), bv (l.getD 11 0), bv (l.getD 12 0), bv (l.getD 13 0), bv (l.getD 14 0), bv (l.getD 15 0), bv (l.getD 16 0), bv (l.getD 17 0), bv (l.getD 18 0), bv (l.getD 19 0), bv (l.getD 20 0), bv (l.getD 21 0), bv (l.getD 22 0)] kR kR kR rfl (by rw [← e23]; simp only [List.size_toArray, List.length_append, List.length_cons, List.length_nil]; omega) m23 3 g25 0 1 1 5 #[bv (l.getD 23 0)] [bv (l.getD 23 0)] kR kR kR rfl (by intro u hu; simp only [List.mem_cons, List.not_mem_nil, or_false] at hu; subst hu; rfl) (by decide) (fun q24 c24 s24 e24 m24 => ?_)
  refine sP (.slice (some ⟨q24, 0, none⟩) 24 c24) ?_
  refine Sy.nil ?_
  refine Sy.in_ ?_
  refine Sy.then_ ?_
  refine Sy.region ?_
  refine sP (.int .i64 23) <| sP (.int .i64 24) <| sP (.int .i64 24) ?_
  refine Sy.nil ?_
  refine Sy.again ?_
  refine Sy.tidyR (G := [(1, .pointer (some ⟨g0, 0, none⟩)), (2, .pointer (some ⟨g1, 0, none⟩)), (4, .slice (some ⟨q24, 0, none⟩) 24 c24), (5, .int .i64 24)]) (M := [(g0, 31, (l.map bv).toArray), (g1, 52, (pcs 0 0 false)), (q24, 5, ([bv (l.getD 0 0), bv (l.getD 1 0), bv (l.getD 2 0), bv (l.getD 3 0), bv (l.getD 4 0), bv (l.getD 5 0), bv (l.getD 6 0), bv (l.getD 7 0), bv (l.getD 8 0), bv (l.getD 9 0), bv (l.getD 10 0), bv (l.getD 11 0), bv (l.getD 12 0), bv (l.getD 13 0), bv (l.getD 14 0), bv (l.getD 15 0), bv (l.getD 16 0), bv (l.getD 17 0), bv (l.getD 18 0), bv (l.getD 19 0), bv (l.getD 20 0), bv (l.getD 21 0), bv (l.getD 22 0), bv (l.getD 23 0)] ++ s24).toArray)]) [true, true, true, false] kR (all_cons kR (all_cons kR (all_cons kR (all_cons kR all_nil)))) ?_
  refine Sy.round ?_
  refine Sy.seq ?_
  refine sC ?_
  refine sP (.int .i64 24) <| sP (.bool true) ?_
  refine sG ?_
  refine sT ?_
  refine Sy.skip ?_
  refine Sy.then_ ?_
  refine Sy.seq ?_
  refine Sy.block ?_
  refine Sy.region ?_
  refine sP (.slice (some ⟨q24, 0, none⟩) 24 c24) <| sP (.int .i64 24) <| sP (.pointer (some ⟨g0, 24, none⟩)) <| sS (bv (l.getD 24 0)) (Quiet.cell 0 g0 24 31 5 (l.map bv).toArray _ _ rfl kR kR Tryz.underlying5 rfl _ (key_at l hl 24 (by decide))) ?_
  refine Sy.make kR 5 #[bv (l.getD 24 0)] (fun g => .slice (some ⟨g, 0, none⟩) 1 1) kF (fun g26 => ?_)
  refine Sy.append kR 25 5 _ _ Tryz.underlying25 info_u8 rfl rfl rfl rfl _ _ rfl 2 q24 24 c24 ([bv (l.getD 0 0), bv (l.getD 1 0), bv (l.getD 2 0), bv (l.getD 3 0), bv (l.getD 4 0), bv (l.getD 5 0), bv (l.getD 6 0), bv (l.getD 7 0), bv (l.getD 8 0), bv (l.getD 9 0), bv (l.getD 10 0), bv (l.getD 11 0), bv (l.getD 12 0), bv (l.getD 13 0), bv (l.getD 14 0), bv (l.getD 15 0), bv (l.getD 16 0), bv (l.getD 17 0), bv (l.getD 18 0), bv (l.getD 19 0), bv (l.getD 20 0), bv (l.getD 21 0), bv (l.getD 22 0), bv (l.getD 23 0)] ++ s24).toArray [bv (l.getD 0 0), bv (l.getD 1 0), bv (l.getD 2 0), bv (l.getD 3 0), bv (l.getD 4 0), bv (l.getD 5 0), bv (l.getD 6 0), bv (l.getD 7 0), bv (l.getD 8 0), bv (l.getD 9 0), bv (l.getD 10 0), bv (l.getD 11 0), bv (l.getD 12 0), bv (l.getD 13 0), bv (l.getD 14 0), bv (l.getD 15 0), bv (l.getD 16 0), bv (l.getD 17 0), bv (l.getD 18 0), bv (l.getD 19 0), bv (l.getD 20 0), bv (l.getD 21 0), bv (l.getD 22 0), bv (l.getD 23 0)] kR kR kR rfl (by rw [← e24]; simp only [List.size_toArray, List.length_append, List.length_cons, List.length_nil]; omega) m24 3 g26 0 1 1 5 #[bv (l.getD 24 0)] [bv (l.getD 24 0)] kR kR kR rfl (by intro u hu; simp only [List.mem_cons, List.not_mem_nil, or_false] at hu; subst hu; rfl) (by decide) (fun q25 c25 s25 e25 m25 => ?_)
  refine sP (.slice (some ⟨q25, 0, none⟩) 25 c25) ?_
  refine Sy.nil ?_
  refine Sy.in_ ?_
  refine Sy.then_ ?_
  refine Sy.region ?_
  refine sP (.int .i64 24) <| sP (.int .i64 25) <| sP (.int .i64 25) ?_
  refine Sy.nil ?_
  refine Sy.again ?_
  refine Sy.tidyR (G := [(1, .pointer (some ⟨g0, 0, none⟩)), (2, .pointer (some ⟨g1, 0, none⟩)), (4, .slice (some ⟨q25, 0, none⟩) 25 c25), (5, .int .i64 25)]) (M := [(g0, 31, (l.map bv).toArray), (g1, 52, (pcs 0 0 false)), (q25, 5, ([bv (l.getD 0 0), bv (l.getD 1 0), bv (l.getD 2 0), bv (l.getD 3 0), bv (l.getD 4 0), bv (l.getD 5 0), bv (l.getD 6 0), bv (l.getD 7 0), bv (l.getD 8 0), bv (l.getD 9 0), bv (l.getD 10 0), bv (l.getD 11 0), bv (l.getD 12 0), bv (l.getD 13 0), bv (l.getD 14 0), bv (l.getD 15 0), bv (l.getD 16 0), bv (l.getD 17 0), bv (l.getD 18 0), bv (l.getD 19 0), bv (l.getD 20 0), bv (l.getD 21 0), bv (l.getD 22 0), bv (l.getD 23 0), bv (l.getD 24 0)] ++ s25).toArray)]) [true, true, true, false] kR (all_cons kR (all_cons kR (all_cons kR (all_cons kR all_nil)))) ?_
  refine Sy.round ?_
  refine Sy.seq ?_
  refine sC ?_
  refine sP (.int .i64 25) <| sP (.bool true) ?_
  refine sG ?_
  refine sT ?_
  refine Sy.skip ?_
  refine Sy.then_ ?_
  refine Sy.seq ?_
  refine Sy.block ?_
  refine Sy.region ?_
  refine sP (.slice (some ⟨q25, 0, none⟩) 25 c25) <| sP (.int .i64 25) <| sP (.pointer (some ⟨g0, 25, none⟩)) <| sS (bv (l.getD 25 0)) (Quiet.cell 0 g0 25 31 5 (l.map bv).toArray _ _ rfl kR kR Tryz.underlying5 rfl _ (key_at l hl 25 (by decide))) ?_
  refine Sy.make kR 5 #[bv (l.getD 25 0)] (fun g => .slice (some ⟨g, 0, none⟩) 1 1) kF (fun g27 => ?_)
  refine Sy.append kR 25 5 _ _ Tryz.underlying25 info_u8 rfl rfl rfl rfl _ _ rfl 2 q25 25 c25 ([bv (l.getD 0 0), bv (l.getD 1 0), bv (l.getD 2 0), bv (l.getD 3 0), bv (l.getD 4 0), bv (l.getD 5 0), bv (l.getD 6 0), bv (l.getD 7 0), bv (l.getD 8 0), bv (l.getD 9 0), bv (l.getD 10 0), bv (l.getD 11 0), bv (l.getD 12 0), bv (l.getD 13 0), bv (l.getD 14 0), bv (l.getD 15 0), bv (l.getD 16 0), bv (l.getD 17 0), bv (l.getD 18 0), bv (l.getD 19 0), bv (l.getD 20 0), bv (l.getD 21 0), bv (l.getD 22 0), bv (l.getD 23 0), bv (l.getD 24 0)] ++ s25).toArray [bv (l.getD 0 0), bv (l.getD 1 0), bv (l.getD 2 0), bv (l.getD 3 0), bv (l.getD 4 0), bv (l.getD 5 0), bv (l.getD 6 0), bv (l.getD 7 0), bv (l.getD 8 0), bv (l.getD 9 0), bv (l.getD 10 0), bv (l.getD 11 0), bv (l.getD 12 0), bv (l.getD 13 0), bv (l.getD 14 0), bv (l.getD 15 0), bv (l.getD 16 0), bv (l.getD 17 0), bv (l.getD 18 0), bv (l.getD 19 0), bv (l.getD 20 0), bv (l.getD 21 0), bv (l.getD 22 0), bv (l.getD 23 0), bv (l.getD 24 0)] kR kR kR rfl (by rw [← e25]; simp only [List.size_toArray, List.length_append, List.length_cons, List.length_nil]; omega) m25 3 g27 0 1 1 5 #[bv (l.getD 25 0)] [bv (l.getD 25 0)] kR kR kR rfl (by intro u hu; simp only [List.mem_cons, List.not_mem_nil, or_false] at hu; subst hu; rfl) (by decide) (fun q26 c26 s26 e26 m26 => ?_)
  refine sP (.slice (some ⟨q26, 0, none⟩) 26 c26) ?_
  refine Sy.nil ?_
  refine Sy.in_ ?_
  refine Sy.then_ ?_
  refine Sy.region ?_
  refine sP (.int .i64 25) <| sP (.int .i64 26) <| sP (.int .i64 26) ?_
  refine Sy.nil ?_
  refine Sy.again ?_
  refine Sy.tidyR (G := [(1, .pointer (some ⟨g0, 0, none⟩)), (2, .pointer (some ⟨g1, 0, none⟩)), (4, .slice (some ⟨q26, 0, none⟩) 26 c26), (5, .int .i64 26)]) (M := [(g0, 31, (l.map bv).toArray), (g1, 52, (pcs 0 0 false)), (q26, 5, ([bv (l.getD 0 0), bv (l.getD 1 0), bv (l.getD 2 0), bv (l.getD 3 0), bv (l.getD 4 0), bv (l.getD 5 0), bv (l.getD 6 0), bv (l.getD 7 0), bv (l.getD 8 0), bv (l.getD 9 0), bv (l.getD 10 0), bv (l.getD 11 0), bv (l.getD 12 0), bv (l.getD 13 0), bv (l.getD 14 0), bv (l.getD 15 0), bv (l.getD 16 0), bv (l.getD 17 0), bv (l.getD 18 0), bv (l.getD 19 0), bv (l.getD 20 0), bv (l.getD 21 0), bv (l.getD 22 0), bv (l.getD 23 0), bv (l.getD 24 0), bv (l.getD 25 0)] ++ s26).toArray)]) [true, true, true, false] kR (all_cons kR (all_cons kR (all_cons kR (all_cons kR all_nil)))) ?_
  refine Sy.round ?_
  refine Sy.seq ?_
  refine sC ?_
  refine sP (.int .i64 26) <| sP (.bool true) ?_
  refine sG ?_
  refine sT ?_
  refine Sy.skip ?_
  refine Sy.then_ ?_
  refine Sy.seq ?_
  refine Sy.block ?_
  refine Sy.region ?_
  refine sP (.slice (some ⟨q26, 0, none⟩) 26 c26) <| sP (.int .i64 26) <| sP (.pointer (some ⟨g0, 26, none⟩)) <| sS (bv (l.getD 26 0)) (Quiet.cell 0 g0 26 31 5 (l.map bv).toArray _ _ rfl kR kR Tryz.underlying5 rfl _ (key_at l hl 26 (by decide))) ?_
  refine Sy.make kR 5 #[bv (l.getD 26 0)] (fun g => .slice (some ⟨g, 0, none⟩) 1 1) kF (fun g28 => ?_)
  refine Sy.append kR 25 5 _ _ Tryz.underlying25 info_u8 rfl rfl rfl rfl _ _ rfl 2 q26 26 c26 ([bv (l.getD 0 0), bv (l.getD 1 0), bv (l.getD 2 0), bv (l.getD 3 0), bv (l.getD 4 0), bv (l.getD 5 0), bv (l.getD 6 0), bv (l.getD 7 0), bv (l.getD 8 0), bv (l.getD 9 0), bv (l.getD 10 0), bv (l.getD 11 0), bv (l.getD 12 0), bv (l.getD 13 0), bv (l.getD 14 0), bv (l.getD 15 0), bv (l.getD 16 0), bv (l.getD 17 0), bv (l.getD 18 0), bv (l.getD 19 0), bv (l.getD 20 0), bv (l.getD 21 0), bv (l.getD 22 0), bv (l.getD 23 0), bv (l.getD 24 0), bv (l.getD 25 0)] ++ s26).toArray [bv (l.getD 0 0), bv (l.getD 1 0), bv (l.getD 2 0), bv (l.getD 3 0), bv (l.getD 4 0), bv (l.getD 5 0), bv (l.getD 6 0), bv (l.getD 7 0), bv (l.getD 8 0), bv (l.getD 9 0), bv (l.getD 10 0), bv (l.getD 11 0), bv (l.getD 12 0), bv (l.getD 13 0), bv (l.getD 14 0), bv (l.getD 15 0), bv (l.getD 16 0), bv (l.getD 17 0), bv (l.getD 18 0), bv (l.getD 19 0), bv (l.getD 20 0), bv (l.getD 21 0), bv (l.getD 22 0), bv (l.getD 23 0), bv (l.getD 24 0), bv (l.getD 25 0)] kR kR kR rfl (by rw [← e26]; simp only [List.size_toArray, List.length_append, List.length_cons, List.length_nil]; omega) m26 3 g28 0 1 1 5 #[bv (l.getD 26 0)] [bv (l.getD 26 0)] kR kR kR rfl (by intro u hu; simp only [List.mem_cons, List.not_mem_nil, or_false] at hu; subst hu; rfl) (by decide) (fun q27 c27 s27 e27 m27 => ?_)
  refine sP (.slice (some ⟨q27, 0, none⟩) 27 c27) ?_
  refine Sy.nil ?_
  refine Sy.in_ ?_
  refine Sy.then_ ?_
  refine Sy.region ?_
  refine sP (.int .i64 26) <| sP (.int .i64 27) <| sP (.int .i64 27) ?_
  refine Sy.nil ?_
  refine Sy.again ?_
  refine Sy.tidyR (G := [(1, .pointer (some ⟨g0, 0, none⟩)), (2, .pointer (some ⟨g1, 0, none⟩)), (4, .slice (some ⟨q27, 0, none⟩) 27 c27), (5, .int .i64 27)]) (M := [(g0, 31, (l.map bv).toArray), (g1, 52, (pcs 0 0 false)), (q27, 5, ([bv (l.getD 0 0), bv (l.getD 1 0), bv (l.getD 2 0), bv (l.getD 3 0), bv (l.getD 4 0), bv (l.getD 5 0), bv (l.getD 6 0), bv (l.getD 7 0), bv (l.getD 8 0), bv (l.getD 9 0), bv (l.getD 10 0), bv (l.getD 11 0), bv (l.getD 12 0), bv (l.getD 13 0), bv (l.getD 14 0), bv (l.getD 15 0), bv (l.getD 16 0), bv (l.getD 17 0), bv (l.getD 18 0), bv (l.getD 19 0), bv (l.getD 20 0), bv (l.getD 21 0), bv (l.getD 22 0), bv (l.getD 23 0), bv (l.getD 24 0), bv (l.getD 25 0), bv (l.getD 26 0)] ++ s27).toArray)]) [true, true, true, false] kR (all_cons kR (all_cons kR (all_cons kR (all_cons kR all_nil)))) ?_
  refine Sy.round ?_
  refine Sy.seq ?_
  refine sC ?_
  refine sP (.int .i64 27) <| sP (.bool true) ?_
  refine sG ?_
  refine sT ?_
  refine Sy.skip ?_
  refine Sy.then_ ?_
  refine Sy.seq ?_
  refine Sy.block ?_
  refine Sy.region ?_
  refine sP (.slice (some ⟨q27, 0, none⟩) 27 c27) <| sP (.int .i64 27) <| sP (.pointer (some ⟨g0, 27, none⟩)) <| sS (bv (l.getD 27 0)) (Quiet.cell 0 g0 27 31 5 (l.map bv).toArray _ _ rfl kR kR Tryz.underlying5 rfl _ (key_at l hl 27 (by decide))) ?_
  refine Sy.make kR 5 #[bv (l.getD 27 0)] (fun g => .slice (some ⟨g, 0, none⟩) 1 1) kF (fun g29 => ?_)
  refine Sy.append kR 25 5 _ _ Tryz.underlying25 info_u8 rfl rfl rfl rfl _ _ rfl 2 q27 27 c27 ([bv (l.getD 0 0), bv (l.getD 1 0), bv (l.getD 2 0), bv (l.getD 3 0), bv (l.getD 4 0), bv (l.getD 5 0), bv (l.getD 6 0), bv (l.getD 7 0), bv (l.getD 8 0), bv (l.getD 9 0), bv (l.getD 10 0), bv (l.getD 11 0), bv (l.getD 12 0), bv (l.getD 13 0), bv (l.getD 14 0), bv (l.getD 15 0), bv (l.getD 16 0), bv (l.getD 17 0), bv (l.getD 18 0), bv (l.getD 19 0), bv (l.getD 20 0), bv (l.getD 21 0), bv (l.getD 22 0), bv (l.getD 23 0), bv (l.getD 24 0), bv (l.getD 25 0), bv (l.getD 26 0)] ++ s27).toArray [bv (l.getD 0 0), bv (l.getD 1 0), bv (l.getD 2 0), bv (l.getD 3 0), bv (l.getD 4 0), bv (l.getD 5 0), bv (l.getD 6 0), bv (l.getD 7 0), bv (l.getD 8 0), bv (l.getD 9 0), bv (l.getD 10 0), bv (l.getD 11 0), bv (l.getD 12 0), bv (l.getD 13 0), bv (l.getD 14 0), bv (l.getD 15 0), bv (l.getD 16 0), bv (l.getD 17 0), bv (l.getD 18 0), bv (l.getD 19 0), bv (l.getD 20 0), bv (l.getD 21 0), bv (l.getD 22 0), bv (l.getD 23 0), bv (l.getD 24 0), bv (l.getD 25 0), bv (l.getD 26 0)] kR kR kR rfl (by rw [← e27]; simp only [List.size_toArray, List.length_append, List.length_cons, List.length_nil]; omega) m27 3 g29 0 1 1 5 #[bv (l.getD 27 0)] [bv (l.getD 27 0)] kR kR kR rfl (by intro u hu; simp only [List.mem_cons, List.not_mem_nil, or_false] at hu; subst hu; rfl) (by decide) (fun q28 c28 s28 e28 m28 => ?_)
  refine sP (.slice (some ⟨q28, 0, none⟩) 28 c28) ?_
  refine Sy.nil ?_
  refine Sy.in_ ?_
  refine Sy.then_ ?_
  refine Sy.region ?_
  refine sP (.int .i64 27) <| sP (.int .i64 28) <| sP (.int .i64 28) ?_
  refine Sy.nil ?_
  refine Sy.again ?_
  refine Sy.tidyR (G := [(1, .pointer (some ⟨g0, 0, none⟩)), (2, .pointer (some ⟨g1, 0, none⟩)), (4, .slice (some ⟨q28, 0, none⟩) 28 c28), (5, .int .i64 28)]) (M := [(g0, 31, (l.map bv).toArray), (g1, 52, (pcs 0 0 false)), (q28, 5, ([bv (l.getD 0 0), bv (l.getD 1 0), bv (l.getD 2 0), bv (l.getD 3 0), bv (l.getD 4 0), bv (l.getD 5 0), bv (l.getD 6 0), bv (l.getD 7 0), bv (l.getD 8 0), bv (l.getD 9 0), bv (l.getD 10 0), bv (l.getD 11 0), bv (l.getD 12 0), bv (l.getD 13 0), bv (l.getD 14 0), bv (l.getD 15 0), bv (l.getD 16 0), bv (l.getD 17 0), bv (l.getD 18 0), bv (l.getD 19 0), bv (l.getD 20 0), bv (l.getD 21 0), bv (l.getD 22 0), bv (l.getD 23 0), bv (l.getD 24 0), bv (l.getD 25 0), bv (l.getD 26 0), bv (l.getD 27 0)] ++ s28).toArray)]) [true, true, true, false] kR (all_cons kR (all_cons kR (all_cons kR (all_cons kR all_nil)))) ?_
  refine Sy.round ?_
  refine Sy.seq ?_
  refine sC ?_
  refine sP (.int .i64 28) <| sP (.bool true) ?_
  refine sG ?_
  refine sT ?_
  refine Sy.skip ?_
  refine Sy.then_ ?_
  refine Sy.seq ?_
  refine Sy.block ?_
  refine Sy.region ?_
  refine sP (.slice (some ⟨q28, 0, none⟩) 28 c28) <| sP (.int .i64 28) <| sP (.pointer (some ⟨g0, 28, none⟩)) <| sS (bv (l.getD 28 0)) (Quiet.cell 0 g0 28 31 5 (l.map bv).toArray _ _ rfl kR kR Tryz.underlying5 rfl _ (key_at l hl 28 (by decide))) ?_
  refine Sy.make kR 5 #[bv (l.getD 28 0)] (fun g => .slice (some ⟨g, 0, none⟩) 1 1) kF (fun g30 => ?_)
  refine Sy.append kR 25 5 _ _ Tryz.underlying25 info_u8 rfl rfl rfl rfl _ _ rfl 2 q28 28 c28 ([bv (l.getD 0 0), bv (l.getD 1 0), bv (l.getD 2 0), bv (l.getD 3 0), bv (l.getD 4 0), bv (l.getD 5 0), bv (l.getD 6 0), bv (l.getD 7 0), bv (l.getD 8 0), bv (l.getD 9 0), bv (l.getD 10 0), bv (l.getD 11 0), bv (l.getD 12 0), bv (l.getD 13 0), bv (l.getD 14 0), bv (l.getD 15 0), bv (l.getD 16 0), bv (l.getD 17 0), bv (l.getD 18 0), bv (l.getD 19 0), bv (l.getD 20 0), bv (l.getD 21 0), bv (l.getD 22 0), bv (l.getD 23 0), bv (l.getD 24 0), bv (l.getD 25 0), bv (l.getD 26 0), bv (l.getD 27 0)] ++ s28).toArray [bv (l.getD 0 0), bv (l.getD 1 0), bv (l.getD 2 0), bv (l.getD 3 0), bv (l.getD 4 0), bv (l.getD 5 0), bv (l.getD 6 0), bv (l.getD 7 0), bv (l.getD 8 0), bv (l.getD 9 0), bv (l.getD 10 0), bv (l.getD 11 0), bv (l.getD 12 0), bv (l.getD 13 0), bv (l.getD 14 0), bv (l.getD 15 0), bv (l.getD 16 0), bv (l.getD 17 0), bv (l.getD 18 0), bv (l.getD 19 0), bv (l.getD 20 0), bv (l.getD 21 0), bv (l.getD 22 0), bv (l.getD 23 0), bv (l.getD 24 0), bv (l.getD 25 0), bv (l.getD 26 0), bv (l.getD 27 0)] kR kR kR rfl (by rw [← e28]; simp only [List.size_toArray, List.length_append, List.length_cons, List.length_nil]; omega) m28 3 g30 0 1 1 5 #[bv (l.getD 28 0)] [bv (l.getD 28 0)] kR kR kR rfl (by intro u hu; simp only [List.mem_cons, List.not_mem_nil, or_false] at hu; subst hu; rfl) (by decide) (fun q29 c29 s29 e29 m29 => ?_)
  refine sP (.slice (some ⟨q29, 0, none⟩) 29 c29) ?_
  refine Sy.nil ?_
  refine Sy.in_ ?_
  refine Sy.then_ ?_
  refine Sy.region ?_
  refine sP (.int .i64 28) <| sP (.int .i64 29) <| sP (.int .i64 29) ?_
  refine Sy.nil ?_
  refine Sy.again ?_
  refine Sy.tidyR (G := [(1, .pointer (some ⟨g0, 0, none⟩)), (2, .pointer (some ⟨g1, 0, none⟩)), (4, .slice (some ⟨q29, 0, none⟩) 29 c29), (5, .int .i64 29)]) (M := [(g0, 31, (l.map bv).toArray), (g1, 52, (pcs 0 0 false)), (q29, 5, ([bv (l.getD 0 0), bv (l.getD 1 0), bv (l.getD 2 0), bv (l.getD 3 0), bv (l.getD 4 0), bv (l.getD 5 0), bv (l.getD 6 0), bv (l.getD 7 0), bv (l.getD 8 0), bv (l.getD 9 0), bv (l.getD 10 0), bv (l.getD 11 0), bv (l.getD 12 0), bv (l.getD 13 0), bv (l.getD 14 0), bv (l.getD 15 0), bv (l.getD 16 0), bv (l.getD 17 0), bv (l.getD 18 0), bv (l.getD 19 0), bv (l.getD 20 0), bv (l.getD 21 0), bv (l.getD 22 0), bv (l.getD 23 0), bv (l.getD 24 0), bv (l.getD 25 0), bv (l.getD 26 0), bv (l.getD 27 0), bv (l.getD 28 0)] ++ s29).toArray)]) [true, true, true, false] kR (all_cons kR (all_cons kR (all_cons kR (all_cons kR all_nil)))) ?_
  refine Sy.round ?_
  refine Sy.seq ?_
  refine sC ?_
  refine sP (.int .i64 29) <| sP (.bool true) ?_
  refine sG ?_
  refine sT ?_
  refine Sy.skip ?_
  refine Sy.then_ ?_
  refine Sy.seq ?_
  refine Sy.block ?_
  refine Sy.region ?_
  refine sP (.slice (some ⟨q29, 0, none⟩) 29 c29) <| sP (.int .i64 29) <| sP (.pointer (some ⟨g0, 29, none⟩)) <| sS (bv (l.getD 29 0)) (Quiet.cell 0 g0 29 31 5 (l.map bv).toArray _ _ rfl kR kR Tryz.underlying5 rfl _ (key_at l hl 29 (by decide))) ?_
  refine Sy.make kR 5 #[bv (l.getD 29 0)] (fun g => .slice (some ⟨g, 0, none⟩) 1 1) kF (fun g31 => ?_)
  refine Sy.append kR 25 5 _ _ Tryz.underlying25 info_u8 rfl rfl rfl rfl _ _ rfl 2 q29 29 c29 ([bv (l.getD 0 0), bv (l.getD 1 0), bv (l.getD 2 0), bv (l.getD 3 0), bv (l.getD 4 0), bv (l.getD 5 0), bv (l.getD 6 0), bv (l.getD 7 0), bv (l.getD 8 0), bv (l.getD 9 0), bv (l.getD 10 0), bv (l.getD 11 0), bv (l.getD 12 0), bv (l.getD 13 0), bv (l.getD 14 0), bv (l.getD 15 0), bv (l.getD 16 0), bv (l.getD 17 0), bv (l.getD 18 0), bv (l.getD 19 0), bv (l.getD 20 0), bv (l.getD 21 0), bv (l.getD 22 0), bv (l.getD 23 0), bv (l.getD 24 0), bv (l.getD 25 0), bv (l.getD 26 0), bv (l.getD 27 0), bv (l.getD 28 0)] ++ s29).toArray [bv (l.getD 0 0), bv (l.getD 1 0), bv (l.getD 2 0), bv (l.getD 3 0), bv (l.getD 4 0), bv (l.getD 5 0), bv (l.getD 6 0), bv (l.getD 7 0), bv (l.getD 8 0), bv (l.getD 9 0), bv (l.getD 10 0), bv (l.getD 11 0), bv (l.getD 12 0), bv (l.getD 13 0), bv (l.getD 14 0), bv (l.getD 15 0), bv (l.getD 16 0), bv (l.getD 17 0), bv (l.getD 18 0), bv (l.getD 19 0), bv (l.getD 20 0), bv (l.getD 21 0), bv (l.getD 22 0), bv (l.getD 23 0), bv (l.getD 24 0), bv (l.getD 25 0), bv (l.getD 26 0), bv (l.getD 27 0), bv (l.getD 28 0)] kR kR kR rfl (by rw [← e29]; simp only [List.size_toArray, List.length_append, List.length_cons, List.length_nil]; omega) m29 3 g31 0 1 1 5 #[bv (l.getD 29 0)] [bv (l.getD 29 0)] kR kR kR rfl (by intro u hu; simp only [List.mem_cons, List.not_mem_nil, or_false] at hu; subst hu; rfl) (by decide) (fun q30 c30 s30 e30 m30 => ?_)
  refine sP (.slice (some ⟨q30, 0, none⟩) 30 c30) ?_
  refine Sy.nil ?_
  refine Sy.in_ ?_
  refine Sy.then_ ?_
  refine Sy.region ?_
  refine sP (.int .i64 29) <| sP (.int .i64 30) <| sP (.int .i64 30) ?_
  refine Sy.nil ?_
  refine Sy.again ?_
  refine Sy.tidyR (G := [(1, .pointer (some ⟨g0, 0, none⟩)), (2, .pointer (some ⟨g1, 0, none⟩)), (4, .slice (some ⟨q30, 0, none⟩) 30 c30), (5, .int .i64 30)]) (M := [(g0, 31, (l.map bv).toArray), (g1, 52, (pcs 0 0 false)), (q30, 5, ([bv (l.getD 0 0), bv (l.getD 1 0), bv (l.getD 2 0), bv (l.getD 3 0), bv (l.getD 4 0), bv (l.getD 5 0), bv (l.getD 6 0), bv (l.getD 7 0), bv (l.getD 8 0), bv (l.getD 9 0), bv (l.getD 10 0), bv (l.getD 11 0), bv (l.getD 12 0), bv (l.getD 13 0), bv (l.getD 14 0), bv (l.getD 15 0), bv (l.getD 16 0), bv (l.getD 17 0), bv (l.getD 18 0), bv (l.getD 19 0), bv (l.getD 20 0), bv (l.getD 21 0), bv (l.getD 22 0), bv (l.getD 23 0), bv (l.getD 24 0), bv (l.getD 25 0), bv (l.getD 26 0), bv (l.getD 27 0), bv (l.getD 28 0), bv (l.getD 29 0)] ++ s30).toArray)]) [true, true, true, false] kR (all_cons kR (all_cons kR (all_cons kR (all_cons kR all_nil)))) ?_
  refine Sy.round ?_
  refine Sy.seq ?_
  refine sC ?_
  refine sP (.int .i64 30) <| sP (.bool true) ?_
  refine sG ?_
  refine sT ?_
  refine Sy.skip ?_
  refine Sy.then_ ?_
  refine Sy.seq ?_
  refine Sy.block ?_
  refine Sy.region ?_
  refine sP (.slice (some ⟨q30, 0, none⟩) 30 c30) <| sP (.int .i64 30) <| sP (.pointer (some ⟨g0, 30, none⟩)) <| sS (bv (l.getD 30 0)) (Quiet.cell 0 g0 30 31 5 (l.map bv).toArray _ _ rfl kR kR Tryz.underlying5 rfl _ (key_at l hl 30 (by decide))) ?_
  refine Sy.make kR 5 #[bv (l.getD 30 0)] (fun g => .slice (some ⟨g, 0, none⟩) 1 1) kF (fun g32 => ?_)
  refine Sy.append kR 25 5 _ _ Tryz.underlying25 info_u8 rfl rfl rfl rfl _ _ rfl 2 q30 30 c30 ([bv (l.getD 0 0), bv (l.getD 1 0), bv (l.getD 2 0), bv (l.getD 3 0), bv (l.getD 4 0), bv (l.getD 5 0), bv (l.getD 6 0), bv (l.getD 7 0), bv (l.getD 8 0), bv (l.getD 9 0), bv (l.getD 10 0), bv (l.getD 11 0), bv (l.getD 12 0), bv (l.getD 13 0), bv (l.getD 14 0), bv (l.getD 15 0), bv (l.getD 16 0), bv (l.getD 17 0), bv (l.getD 18 0), bv (l.getD 19 0), bv (l.getD 20 0), bv (l.getD 21 0), bv (l.getD 22 0), bv (l.getD 23 0), bv (l.getD 24 0), bv (l.getD 25 0), bv (l.getD 26 0), bv (l.getD 27 0), bv (l.getD 28 0), bv (l.getD 29 0)] ++ s30).toArray [bv (l.getD 0 0), bv (l.getD 1 0), bv (l.getD 2 0), bv (l.getD 3 0), bv (l.getD 4 0), bv (l.getD 5 0), bv (l.getD 6 0), bv (l.getD 7 0), bv (l.getD 8 0), bv (l.getD 9 0), bv (l.getD 10 0), bv (l.getD 11 0), bv (l.getD 12 0), bv (l.getD 13 0), bv (l.getD 14 0), bv (l.getD 15 0), bv (l.getD 16 0), bv (l.getD 17 0), bv (l.getD 18 0), bv (l.getD 19 0), bv (l.getD 20 0), bv (l.getD 21 0), bv (l.getD 22 0), bv (l.getD 23 0), bv (l.getD 24 0), bv (l.getD 25 0), bv (l.getD 26 0), bv (l.getD 27 0), bv (l.getD 28 0), bv (l.getD 29 0)] kR kR kR rfl (by rw [← e30]; simp only [List.size_toArray, List.length_append, List.length_cons, List.length_nil]; omega) m30 3 g32 0 1 1 5 #[bv (l.getD 30 0)] [bv (l.getD 30 0)] kR kR kR rfl (by intro u hu; simp only [List.mem_cons, List.not_mem_nil, or_false] at hu; subst hu; rfl) (by decide) (fun q31 c31 s31 e31 m31 => ?_)
  refine sP (.slice (some ⟨q31, 0, none⟩) 31 c31) ?_
  refine Sy.nil ?_
  refine Sy.in_ ?_
  refine Sy.then_ ?_
  refine Sy.region ?_
  refine sP (.int .i64 30) <| sP (.int .i64 31) <| sP (.int .i64 31) ?_
  refine Sy.nil ?_
  refine Sy.again ?_
  refine Sy.tidyR (G := [(1, .pointer (some ⟨g0, 0, none⟩)), (2, .pointer (some ⟨g1, 0, none⟩)), (4, .slice (some ⟨q31, 0, none⟩) 31 c31), (5, .int .i64 31)]) (M := [(g0, 31, (l.map bv).toArray), (g1, 52, (pcs 0 0 false)), (q31, 5, ([bv (l.getD 0 0), bv (l.getD 1 0), bv (l.getD 2 0), bv (l.getD 3 0), bv (l.getD 4 0), bv (l.getD 5 0), bv (l.getD 6 0), bv (l.getD 7 0), bv (l.getD 8 0), bv (l.getD 9 0), bv (l.getD 10 0), bv (l.getD 11 0), bv (l.getD 12 0), bv (l.getD 13 0), bv (l.getD 14 0), bv (l.getD 15 0), bv (l.getD 16 0), bv (l.getD 17 0), bv (l.getD 18 0), bv (l.getD 19 0), bv (l.getD 20 0), bv (l.getD 21 0), bv (l.getD 22 0), bv (l.getD 23 0), bv (l.getD 24 0), bv (l.getD 25 0), bv (l.getD 26 0), bv (l.getD 27 0), bv (l.getD 28 0), bv (l.getD 29 0), bv (l.getD 30 0)] ++ s31).toArray)]) [true, true, true, false] kR (all_cons kR (all_cons kR (all_cons kR (all_cons kR all_nil)))) ?_
  refine Sy.round ?_
  refine Sy.seq ?_
  refine sC ?_
  refine sP (.int .i64 31) <| sP (.bool true) ?_
  refine sG ?_
  refine sT ?_
  refine Sy.skip ?_
  refine Sy.then_ ?_
  refine Sy.seq ?_
  refine Sy.block ?_
  refine Sy.region ?_
  refine sP (.slice (some ⟨q31, 0, none⟩) 31 c31) <| sP (.int .i64 31) <| sP (.pointer (some ⟨g0, 31, none⟩)) <| sS (bv (l.getD 31 0)) (Quiet.cell 0 g0 31 31 5 (l.map bv).toArray _ _ rfl kR kR Tryz.underlying5 rfl _ (key_at l hl 31 (by decide))) ?_
  refine Sy.make kR 5 #[bv (l.getD 31 0)] (fun g => .slice (some ⟨g, 0, none⟩) 1 1) kF (fun g33 => ?_)
  refine Sy.append kR 25 5 _ _ Tryz.underlying25 info_u8 rfl rfl rfl rfl _ _ rfl 2 q31 31 c31 ([bv (l.getD 0 0), bv (l.getD 1 0), bv (l.getD 2 0), bv (l.getD 3 0), bv (l.getD 4 0), bv (l.getD 5 0), bv (l.getD 6 0), bv (l.getD 7 0), bv (l.getD 8 0), bv (l.getD 9 0), bv (l.getD 10 0), bv (l.getD 11 0), bv (l.getD 12 0), bv (l.getD 13 0), bv (l.getD 14 0), bv (l.getD 15 0), bv (l.getD 16 0), bv (l.getD 17 0), bv (l.getD 18 0), bv (l.getD 19 0), bv (l.getD 20 0), bv (l.getD 21 0), bv (l.getD 22 0), bv (l.getD 23 0), bv (l.getD 24 0), bv (l.getD 25 0), bv (l.getD 26 0), bv (l.getD 27 0), bv (l.getD 28 0), bv (l.getD 29 0), bv (l.getD 30 0)] ++ s31).toArray [bv (l.getD 0 0), bv (l.getD 1 0), bv (l.getD 2 0), bv (l.getD 3 0), bv (l.getD 4 0), bv (l.getD 5 0), bv (l.getD 6 0), bv (l.getD 7 0), bv (l.getD 8 0), bv (l.getD 9 0), bv (l.getD 10 0), bv (l.getD 11 0), bv (l.getD 12 0), bv (l.getD 13 0), bv (l.getD 14 0), bv (l.getD 15 0), bv (l.getD 16 0), bv (l.getD 17 0), bv (l.getD 18 0), bv (l.getD 19 0), bv (l.getD 20 0), bv (l.getD 21 0), bv (l.getD 22 0), bv (l.getD 23 0), bv (l.getD 24 0), bv (l.getD 25 0), bv (l.getD 26 0), bv (l.getD 27 0), bv (l.getD 28 0), bv (l.getD 29 0), bv (l.getD 30 0)] kR kR kR rfl (by rw [← e31]; simp only [List.size_toArray, List.length_append, List.length_cons, List.length_nil]; omega) m31 3 g33 0 1 1 5 #[bv (l.getD 31 0)] [bv (l.getD 31 0)] kR kR kR rfl (by intro u hu; simp only [List.mem_cons, List.not_mem_nil, or_false] at hu; subst hu; rfl) (by decide) (fun q32 c32 s32 e32 m32 => ?_)
  refine sP (.slice (some ⟨q32, 0, none⟩) 32 c32) ?_
  refine Sy.nil ?_
  refine Sy.in_ ?_
  refine Sy.then_ ?_
  refine Sy.region ?_
  refine sP (.int .i64 31) <| sP (.int .i64 32) <| sP (.int .i64 32) ?_
  refine Sy.nil ?_
  refine Sy.again ?_
  refine Sy.tidyR (G := [(1, .pointer (some ⟨g0, 0, none⟩)), (2, .pointer (some ⟨g1, 0, none⟩)), (4, .slice (some ⟨q32, 0, none⟩) 32 c32), (5, .int .i64 32)]) (M := [(g0, 31, (l.map bv).toArray), (g1, 52, (pcs 0 0 false)), (q32, 5, ([bv (l.getD 0 0), bv (l.getD 1 0), bv (l.getD 2 0), bv (l.getD 3 0), bv (l.getD 4 0), bv (l.getD 5 0), bv (l.getD 6 0), bv (l.getD 7 0), bv (l.getD 8 0), bv (l.getD 9 0), bv (l.getD 10 0), bv (l.getD 11 0), bv (l.getD 12 0), bv (l.getD 13 0), bv (l.getD 14 0), bv (l.getD 15 0), bv (l.getD 16 0), bv (l.getD 17 0), bv (l.getD 18 0), bv (l.getD 19 0), bv (l.getD 20 0), bv (l.getD 21 0), bv (l.getD 22 0), bv (l.getD 23 0), bv (l.getD 24 0), bv (l.getD 25 0), bv (l.getD 26 0), bv (l.getD 27 0), bv (l.getD 28 0), bv (l.getD 29 0), bv (l.getD 30 0), bv (l.getD 31 0)] ++ s32).toArray)]) [true, true, true, false] kR (all_cons kR (all_cons kR (all_cons kR (all_cons kR all_nil)))) ?_
  refine Sy.round ?_
  refine Sy.seq ?_
  refine sC ?_
  refine sP (.int .i64 32) <| sP (.bool false) ?_
  refine sG ?_
  refine sU ?_
  refine Sy.exit ?_
  refine Sy.then_exit ?_
  refine Sy.then_exit ?_
  refine Sy.in_exit ?_
  refine sB ?_
  refine sP (.slice (some ⟨q32, 0, none⟩) 32 c32) <| sS (fv (valB l)) (qG 54 #[.slice (some ⟨q32, 0, none⟩) 32 c32] (fun w hw => numberR_any w q32 c32 l hl (hw.get (i := 2) rfl).lt (fun j u hj => by rw [(hw.get (i := 2) (t := 5) (cs := ([bv (l.getD 0 0), bv (l.getD 1 0), bv (l.getD 2 0), bv (l.getD 3 0), bv (l.getD 4 0), bv (l.getD 5 0), bv (l.getD 6 0), bv (l.getD 7 0), bv (l.getD 8 0), bv (l.getD 9 0), bv (l.getD 10 0), bv (l.getD 11 0), bv (l.getD 12 0), bv (l.getD 13 0), bv (l.getD 14 0), bv (l.getD 15 0), bv (l.getD 16 0), bv (l.getD 17 0), bv (l.getD 18 0), bv (l.getD 19 0), bv (l.getD 20 0), bv (l.getD 21 0), bv (l.getD 22 0), bv (l.getD 23 0), bv (l.getD 24 0), bv (l.getD 25 0), bv (l.getD 26 0), bv (l.getD 27 0), bv (l.getD 28 0), bv (l.getD 29 0), bv (l.getD 30 0), bv (l.getD 31 0)] ++ s32).toArray) rfl).cell]; exact own_cells l hl _ j u hj) (by omega) (by simpa [maxLen] using m32))) ?_
  refine sM 89 (fcs 0) (fun g34 => ?_)
  refine sW 3 g34 89 (fcs 0) (fcs (valB l)) (wS 0 89 (fcs (valB l)) rfl) ?_
  refine sA ?_
  refine sS (fv (valB l)) (qL 3 g34 0 4 89 89 (fcs (valB l)) rfl Tryz.underlying89) ?_
  obtain ⟨z1, hz1⟩ : ∃ z : Nat, z = cubeN (valB l) := ⟨_, rfl⟩
  have lz1 : z1 < K4 := by rw [hz1]; exact cubeN_lt _
  refine sS (fv z1) (qF 109 #[fv (valB l)] (fun w => by rw [hz1]; exact cubeR_n w (valB l) lK)) ?_
  obtain ⟨r1, hr1⟩ : ∃ z : Nat, z = (sqrtS z1).1 := ⟨_, rfl⟩
  obtain ⟨k1, hk1⟩ : ∃ z : Bool, z = (sqrtS z1).2 := ⟨_, rfl⟩
  have lr1 : r1 < K4 := by rw [hr1]; exact sqrt_lt _
  refine sS (.tuple #[fv r1, .bool k1]) (qF 108 #[fv z1] (fun w => by rw [hr1, hk1, ← sqrt_is]; exact sqrtR_any w z1 lK)) <| sP (.tuple #[fv r1, .bool k1]) <| sP (fv r1) <| sP (.bool k1) ?_
  refine sM 89 (fcs 0) (fun g35 => ?_)
  refine sW 4 g35 89 (fcs 0) (fcs r1) (wS 0 89 (fcs r1) rfl) <| sP (.bool k1) ?_
  refine sH (fun j => false) ?_
  refine sD 0 rfl (.agg modcs) (qF 56 #[] (refP_any)) <| sD 1 rfl (fv (valB l)) (qL 3 g34 0 4 89 89 (fcs (valB l)) rfl Tryz.underlying89) ?_
  obtain ⟨b1, hb1⟩ : ∃ z : Bool, z = decide ((valB l) < pM) := ⟨_, rfl⟩
  refine sD 2 rfl (.bool b1) (qF 55 #[.agg modcs, fv (valB l)] (fun w => by rw [hb1]; exact rightR_any w (valB l) lK)) <| sZ 3 rfl (.bool b1) ?_
  refine sI ?_
  refine Sy.seq ?_
  refine sC ?_
  refine sP (.bool k1) ?_
  cases k1
  · refine sP (.bool true) <| sP (.bool true) ?_
    refine sN ?_
    refine sN ?_
    refine sP (.bool true) ?_
    refine sG ?_
    refine sT ?_
    refine sC ?_
    refine sS (pv 0 0 true) (qF 62 #[] (zeroR_c)) <| sW 1 g1 52 (pcs 0 0 false) (pcs 0 0 true) (wS 0 52 (pcs 0 0 true) rfl) <| sP (.bool false) ?_
    refine sG ?_
    refine Sy.ret ?_
    refine Sy.then_ret ?_
    rw [show (.tuple #[ptv (liftP l), .bool (liftB l)] : Value) = .tuple #[pv 0 0 true, .bool false] from by
      have hb : liftB l = false := by unfold liftB; rw [← hz1, ← hk1]; simp
      rw [hb, lift_no hb]; rfl]
    exact Sy.ret2 (v := pv 0 0 true) (u := .bool false) rfl (.inl (Res.cell (ty' := 52) g1 1 (pcs 0 0 true) _ kR kR Tryz.underlying52 rfl kR kR)) (.inl (show _ = _ by kernel_rfl))
  · refine sP (.bool false) <| sP (.bool false) <| sP (.bool b1) ?_
    cases b1
    · refine sP (.bool true) <| sP (.bool true) ?_
      refine sG ?_
      refine sT ?_
      refine sC ?_
      refine sS (pv 0 0 true) (qF 62 #[] (zeroR_c)) <| sW 1 g1 52 (pcs 0 0 false) (pcs 0 0 true) (wS 0 52 (pcs 0 0 true) rfl) <| sP (.bool false) ?_
      refine sG ?_
      refine Sy.ret ?_
      refine Sy.then_ret ?_
      rw [show (.tuple #[ptv (liftP l), .bool (liftB l)] : Value) = .tuple #[pv 0 0 true, .bool false] from by
        have hb : liftB l = false := by unfold liftB; rw [← hb1]; simp
        rw [hb, lift_no hb]; rfl]
      exact Sy.ret2 (v := pv 0 0 true) (u := .bool false) rfl (.inl (Res.cell (ty' := 52) g1 1 (pcs 0 0 true) _ kR kR Tryz.underlying52 rfl kR kR)) (.inl (show _ = _ by kernel_rfl))
    · refine sP (.bool false) <| sP (.bool false) ?_
      refine sG ?_
      refine sU ?_
      refine Sy.skip ?_
      refine sB ?_
      refine sS (fv (valB l)) (qL 3 g34 0 4 89 89 (fcs (valB l)) rfl Tryz.underlying89) <| sS (fv r1) (qL 4 g35 0 4 89 89 (fcs r1) rfl Tryz.underlying89) <| sS (pv (valB l) r1 false) (qF 95 #[fv (valB l), fv r1] (fun w => pointR_c w (valB l) r1 lK lK)) <| sW 1 g1 52 (pcs 0 0 false) (pcs (valB l) r1 false) (wS 0 52 (pcs (valB l) r1 false) rfl) <| sP (.bool true) ?_
      refine sG ?_
      refine Sy.ret ?_
      rw [show (.tuple #[ptv (liftP l), .bool (liftB l)] : Value) = .tuple #[pv (valB l) r1 false, .bool true] from by
        have hb : liftB l = true := by unfold liftB; rw [← hz1, ← hk1, ← hb1]; rfl
        obtain ⟨u2, y2, e1, e2, e3, _, _⟩ := lift_yes hb
        rw [hb, e3]
        unfold ptv
        simp only
        rw [e1, e2, ← hz1, ← hr1]]
      exact Sy.ret2 (v := pv (valB l) r1 false) (u := .bool true) rfl (.inl (Res.cell (ty' := 52) g1 1 (pcs (valB l) r1 false) _ kR kR Tryz.underlying52 rfl kR kR)) (.inl (show _ = _ by kernel_rfl))
end Go.Proofs.YtbofhoonlmikcaaGreatDoor.Cu

end
section
namespace Go.Proofs.YtbofhoonlmikcaaGreatDoor.Cu
open Go.RowKit Go.Proofs.YtbofhoonlmikcaaGreatDoor Go.Proofs.YtbofhoonlmikcaaGreatDoor.Sy
set_option maxRecDepth 100000
set_option maxHeartbeats 4000000

end Go.Proofs.YtbofhoonlmikcaaGreatDoor.Cu

end
section
namespace Go.Proofs.YtbofhoonlmikcaaGreatDoor.Cu
open Go.RowKit Go.Proofs.YtbofhoonlmikcaaGreatDoor Go.Proofs.YtbofhoonlmikcaaGreatDoor.Sy

theorem setAll_all : ∀ (vs : List Value) (o : Nat) (cs : Array Value), o + vs.length = cs.size → setAll cs o vs = (cs.toList.take o ++ vs).toArray
  | [], o, cs, h => by
    rw [List.append_nil, List.take_of_length_le (by simp at h ⊢; omega)]
    simp [setAll]
  | v :: r, o, cs, h => by
    have hlt : o < cs.size := by simp at h; omega
    rw [setAll, setAll_all r (o + 1) _ (by simp at h ⊢; omega)]
    congr 1
    rw [Array.toList_setIfInBounds, List.take_set, List.take_succ_eq_append_getElem (by simpa using hlt), List.set_append_right _ _ (by rw [List.length_take]; exact Nat.min_le_left _ _)]
    have : (cs.toList.take o).length = o := by simp; omega
    simp [this]
theorem key_set (cs : Array Value) (l : List UInt8) (h : l.length = cs.size) : setAll cs 0 (l.map bv).toArray.toList = (l.map bv).toArray := by
  have := setAll_all (l.map bv) 0 cs (by simp; omega)
  simpa using this
theorem key_sz (l : List UInt8) {n : Nat} (h : l.length = n) : (l.map bv).toArray.size = n := by simp; omega
theorem key_one (l : List UInt8) : (l.map bv).toArray.all (·.oneCell') = true := by simp [bv, Value.oneCell']
end Go.Proofs.YtbofhoonlmikcaaGreatDoor.Cu

end
section
namespace Go.Proofs.YtbofhoonlmikcaaGreatDoor.Cu
open Go.RowKit Go.Proofs.YtbofhoonlmikcaaGreatDoor Go.Proofs.YtbofhoonlmikcaaGreatDoor.Sy
set_option maxRecDepth 100000

def genNm : ByteArray := ⟨#[116, 111, 108, 108, 104, 111, 117, 115, 101, 47, 103, 101, 110, 101, 114, 97, 116, 111, 114]⟩
def genX (nm : List UInt8) (k : Nat) : List UInt8 := Sh.taggedS genNm.data.toList (nm ++ [UInt8.ofNat k])
theorem genX_length (nm : List UInt8) (k : Nat) : (genX nm k).length = 32 := Sh.sum_length _
def pickP (f : Nat → Bool) (g : Nat → Pt) (d : Pt) (n : Nat) : Pt := ((List.range n).find? f).elim d g
theorem pick_first {f : Nat → Bool} {g : Nat → Pt} {d : Pt} {n k : Nat} (hk : k < n) (h : ∀ j, j < k → f j = false) (hb : f k = true) : pickP f g d n = g k := by
  have e : (List.range n).find? f = some k := by
    rw [List.find?_range_eq_some]
    exact ⟨hb, List.mem_range.2 hk, fun j hj => by rw [h j hj]; rfl⟩
  unfold pickP
  rw [e]
  rfl
theorem pick_none {f : Nat → Bool} {g : Nat → Pt} {d : Pt} {n : Nat} (h : ∀ j, j < n → f j = false) : pickP f g d n = d := by
  have e : (List.range n).find? f = none := by
    rw [List.find?_eq_none]
    intro j hj
    rw [h j (List.mem_range.1 hj)]
    exact fun h => by cases h
  unfold pickP
  rw [e]
  rfl
theorem pick_cases (f : Nat → Bool) (g : Nat → Pt) (d : Pt) (n : Nat) : pickP f g d n = d ∨ ∃ k, f k = true ∧ pickP f g d n = g k := by
  unfold pickP
  cases e : (List.range n).find? f with
  | none => exact .inl rfl
  | some k => exact .inr ⟨k, List.find?_some e, rfl⟩
def genP (nm : List UInt8) : Pt := pickP (fun i => liftB (genX nm i)) (fun i => liftP (genX nm i)) bP 256
theorem gen_first {nm : List UInt8} {k : Nat} (hk : k < 256) (h : ∀ j, j < k → liftB (genX nm j) = false) (hb : liftB (genX nm k) = true) : genP nm = liftP (genX nm k) := pick_first (f := fun i => liftB (genX nm i)) (g := fun i => liftP (genX nm i)) hk h hb
theorem gen_none {nm : List UInt8} (h : ∀ j, j < 256 → liftB (genX nm j) = false) : genP nm = bP := pick_none (f := fun i => liftB (genX nm i)) (g := fun i => liftP (genX nm i)) h
theorem gen_cases (nm : List UInt8) : genP nm = bP ∨ ∃ k, liftB (genX nm k) = true ∧ genP nm = liftP (genX nm k) := pick_cases (fun i => liftB (genX nm i)) (fun i => liftP (genX nm i)) bP 256
theorem genP_on (nm : List UInt8) : Ec.On (genP nm) := by
  rcases gen_cases nm with h | ⟨k, _, h⟩
  · rw [h]; exact bP_on
  · rw [h]; exact liftP_on _
def qX : Pt → Nat
  | none => 0
  | some (x, _) => x.val
def qY : Pt → Nat
  | none => 0
  | some (_, y) => y.val
def qI : Pt → Bool
  | none => true
  | some _ => false
theorem ptv_q : ∀ P : Pt, ptv P = pv (qX P) (qY P) (qI P)
  | none => rfl
  | some (_, _) => rfl
theorem conv_u8 (w : World) (F : Slots) (o : Oper) (x : Operand) (k : Nat) (hk : k < 256) (ho : o.op = .convert 3 5 x) (hx : evF F x = .int .i64 (k : Int)) : (execOp (evF F) o).run Tryz.prog w = .ok (.value (bv (UInt8.ofNat k))) w := by
  have h : (convert 3 5 (.int .i64 (k : Int))).run Tryz.prog w = .ok (bv (UInt8.ofNat k)) w := by
    have e : (UInt8.ofNat k).toNat = k := by rw [UInt8.toNat_ofNat']; omega
    unfold bv
    rw [e]
    go_simp
    exact wrap_u8 (by omega) (by omega)
  unfold execOp
  simp only [ho, hx, Sem.run_bind, h, Result.andThen_ok, Sem.run_pure]
theorem texts_gen {w : World} (nm : List UInt8) (hn : nm.length = 32) (k c g0 g1 : Nat) (t0 t1 : TypeId) (A : Option Addr) (hA : Sh.Src w A nm) (hc : 32 ≤ c) (hc2 : c ≤ 9223372036854775807) (h0 : Blk w g0 t0 #[bv (UInt8.ofNat k)]) (h1 : Blk w g1 t1 #[.slice A 32 c, .slice (some ⟨g0, 0, none⟩) 1 1]) :
    Sh.Texts w (some ⟨g1, 0, none⟩) [⟨A, nm, c⟩, ⟨some ⟨g0, 0, none⟩, [UInt8.ofNat k], 1⟩] := fun _ => by
  refine ⟨g1, 0, rfl, h1.lt, fun j y hy => ?_⟩
  rw [Nat.zero_add]
  rcases j with _ | _ | j
  · cases hy
    refine ⟨(h1.cell 0).trans ?_, hA, by show nm.length ≤ c; omega, hc2⟩
    show some (Value.slice A 32 c) = some (Value.slice A nm.length c)
    rw [hn]
  · cases hy
    exact ⟨h1.cell 1, Sh.Src.of_blk h0, by show 1 ≤ 1; omega, by show 1 ≤ 9223372036854775807; omega⟩
  · cases hy
theorem tag_gen {f : FuncId} {tb : Nat} (nm : List UInt8) (hn : nm.length = 32) (k c g0 g1 : Nat) (t0 t1 : TypeId) (A : Option Addr)
    (hf : ∀ (w : World) (s : ByteArray) (T : Option Addr) (ts : List Sh.Tx) (ct : Nat), Sh.Texts w T ts → Sh.TabAt w tb → s.size ≤ 1000000000 → (Sh.cat ts).length ≤ 1000000000 → ts.length ≤ 1000000000 → Calls Tryz.prog f #[.string s, .slice T ts.length ct] w fun e w' => e = .returned (Sh.dv (Sh.taggedS s.data.toList (Sh.cat ts))) ∧ Below w.heap.size w w')
    (w : World) (hA : Sh.Src w A nm) (hc : 32 ≤ c) (hc2 : c ≤ 9223372036854775807) (h0 : Blk w g0 t0 #[bv (UInt8.ofNat k)]) (h1 : Blk w g1 t1 #[.slice A 32 c, .slice (some ⟨g0, 0, none⟩) 1 1]) (ht : Sh.TabAt w tb) :
    Calls Tryz.prog f #[.string genNm, .slice (some ⟨g1, 0, none⟩) 2 2] w (Gets w (.agg ((genX nm k).map bv).toArray)) := by
  have e : Sh.cat [⟨A, nm, c⟩, ⟨some ⟨g0, 0, none⟩, [UInt8.ofNat k], 1⟩] = nm ++ [UInt8.ofNat k] := by simp [Sh.cat]
  have h := hf w genNm _ _ 2 (texts_gen nm hn k c g0 g1 t0 t1 A hA hc hc2 h0 h1) ht (by decide) (by rw [e, List.length_append, hn]; show 32 + 1 ≤ 1000000000; decide) (by show 2 ≤ 1000000000; decide)
  rw [e] at h
  exact h
theorem all_snoc {nm : List UInt8} {pre : List (Fin 256)} {x : Fin 256} (h : ∀ y ∈ pre, liftB (genX nm y.val) = false) (hx : false = liftB (genX nm x.val)) : ∀ y ∈ pre ++ [x], liftB (genX nm y.val) = false := fun y hy => by
  rcases List.mem_append.1 hy with hy | hy
  · exact h y hy
  · rw [List.mem_singleton.1 hy]; exact hx.symm
theorem all_lt {nm : List UInt8} {k : Nat} (h : ∀ j, j < k → liftB (genX nm j) = false) (hx : false = liftB (genX nm k)) : ∀ j, j < k + 1 → liftB (genX nm j) = false := fun j hj => by
  rcases Nat.lt_or_ge j k with hlt | hge
  · exact h j hlt
  · rw [show j = k by omega]; exact hx.symm
def lastP (nm : List UInt8) (pre : List (Fin 256)) : Pt := match pre.getLast? with
  | some x => liftP (genX nm x.val)
  | none => none
theorem lastP_snoc (nm : List UInt8) (pre : List (Fin 256)) (x : Fin 256) : lastP nm (pre ++ [x]) = liftP (genX nm x.val) := by
  unfold lastP
  rw [List.getLast?_append]
  rfl
def GHx (nm : List UInt8) (pre : List (Fin 256)) : Prop := ∃ init x, pre = init ++ [x] ∧ (∀ y ∈ init, liftB (genX nm y.val) = false) ∧ liftB (genX nm x.val) = true
theorem before_k {nm : List UInt8} {pre : List (Fin 256)} {k : Nat} (hp : pre.map (·.1) = List.range k) (h : ∀ y ∈ pre, liftB (genX nm y.val) = false) : ∀ j, j < k → liftB (genX nm j) = false := fun j hj => by
  have : j ∈ pre.map (·.1) := by rw [hp]; exact List.mem_range.2 hj
  obtain ⟨y, hy, rfl⟩ := List.mem_map.1 this
  exact h y hy
theorem gen_stop {nm : List UInt8} {pre : List (Fin 256)} (hs : ∃ k, k ≤ 256 ∧ pre.map (·.1) = List.range k) (hx : GHx nm pre) : lastP nm pre = genP nm := by
  obtain ⟨k, hk, hp⟩ := hs
  obtain ⟨init, x, rfl, hi, hb⟩ := hx
  have hl : init.length + 1 = k := by
    have := congrArg List.length hp
    simpa using this
  subst hl
  rw [List.range_succ, List.map_append] at hp
  obtain ⟨h1, h2⟩ := List.append_inj hp (by simp)
  have hv : x.val = init.length := by simpa using h2
  rw [lastP_snoc, gen_first x.isLt (fun j hj => before_k h1 hi j (by omega)) hb]
def caE (nm : List UInt8) (x : Fin 256) : Array Value := #[.agg ((genX nm x.val).map bv).toArray]
set_option maxHeartbeats 4000000 in
theorem cand_in (n l Bs n₀ : Nat) (nm : List UInt8) (hnm : nm.length = 32) (hb : Bs < n₀) (htb : 1 < n₀) (J Jx : List (Fin 256) → World → Prop) (W : World) (hnW : n₀ ≤ W.heap.size) (hJ : AbidesFrom W.heap.size J) (hJx : AbidesFrom W.heap.size Jx)
    (hY : ∀ pre x W1, J pre W1 → pre.length < 256 → YieldAt Fence.wide (n - 1) Tryz.prog l (caE nm x) W1 fun e W' => (e = .returned (.bool true) ∧ J (pre ++ [x]) W' ∧ KpL n₀ [] W1 W') ∨ (e = .returned (.bool false) ∧ Jx (pre ++ [x]) W'))
    (hS : Blk W Bs 47 (nm.map bv).toArray) (ht : Sh.TabAt W 1) (h0 : J [] W) :
    CallsIn Fence.wide n Tryz.prog 159 #[.func (.yield l) #[] #[], .pointer (some ⟨Bs, 0, none⟩)] W fun e W' => (∃ v, e = .returned v) ∧ ((∃ ys : List (Fin 256), ys.map (·.1) = List.range 256 ∧ J ys W') ∨ (∃ pre : List (Fin 256), (∃ k, k ≤ 256 ∧ pre.map (·.1) = List.range k) ∧ Jx pre W')) := by
  refine Sy.enterP (args := [.func (.yield l) #[] #[], .pointer (some ⟨Bs, 0, none⟩)]) Tryz.func159 rfl kL ?_
  refine sC ?_
  refine sP (.int .i64 0) ?_
  refine sG ?_
  refine Sy.block ?_
  refine Sy.loopP 256 (fun k1 => [(0, .func (.yield l) #[] #[]), (1, .pointer (some ⟨Bs, 0, none⟩)), (5, .int .i64 ((k1 : Nat) : Int))]) (fun k1 w => ∃ pre : List (Fin 256), pre.map (·.1) = List.range k1 ∧ J pre w ∧ Below n₀ W w) (all_cons kR (all_cons kR (all_cons kR all_nil))) (fun w hg => ⟨[], rfl, abides_gr hJ h0 hg, Below.mono hg hnW⟩) (fun k1 wr hk1 hz => ?_)
  obtain ⟨pre, hpre, hj, hbw⟩ := hz
  have hlen : pre.length = k1 := by have := congrArg List.length hpre; rwa [List.length_map, List.length_range] at this
  have hSr := hS.below hbw hb
  have htr := ht.below hbw htb
  refine sC ?_
  obtain ⟨b1, hb1⟩ : ∃ z : Bool, z = decide (k1 < 256) := ⟨_, rfl⟩
  refine sS (.bool b1) (Quiet.pure (exec_int .lss _ _ _ .i64 _ _ _ rfl rfl rfl (int_lss _ _ _ _ _ (by rw [hb1]; exact decide_eq_decide.2 (by omega))))) ?_
  refine sG ?_
  refine Sy.seq ?_
  cases b1
  · have lb1 : ¬ (k1 < 256) := of_decide_eq_false hb1.symm
    refine sU ?_
    refine Sy.exit ?_
    refine Sy.then_exit ?_
    refine Sy.then_exit ?_
    obtain rfl : k1 = 256 := by omega
    refine Sy.in_exit ?_
    exact Sy.retP rfl (fun v w3 hg => ⟨⟨_, rfl⟩, .inl ⟨pre, hpre, abides_gr hJ hj hg⟩⟩) (.inr rfl)
  · have lb1 : k1 < 256 := of_decide_eq_true hb1.symm
    refine sT ?_
    refine Sy.skip ?_
    refine Sy.then_ ?_
    refine Sy.seq ?_
    have hx : k1 < 256 := by omega
    refine Sy.block ?_
    refine sC ?_
    refine sP (.int .i64 ((k1 : Nat) : Int)) <| sP (.int .i64 ((k1 : Nat) : Int)) ?_
    refine sA ?_
    refine sP (.slice (some ⟨Bs, 0, none⟩) 32 32) <| sP (.int .i64 ((k1 : Nat) : Int)) <| sS (bv (UInt8.ofNat k1)) (Quiet.pure (fun w => conv_u8 w _ _ _ k1 (by omega) rfl rfl)) ?_
    refine Sy.make kR 5 #[bv (UInt8.ofNat k1)] (fun g => .slice (some ⟨g, 0, none⟩) 1 1) kF (fun g0 => ?_)
    refine Sy.make kR 25 #[.slice (some ⟨Bs, 0, none⟩) 32 32, .slice (some ⟨g0, 0, none⟩) 1 1] (fun g => .slice (some ⟨g, 0, none⟩) 2 2) kF (fun g1 => ?_)
    refine sS (.agg ((genX nm k1).map bv).toArray) (qG 86 #[.string genNm, .slice (some ⟨g1, 0, none⟩) 2 2] (fun w hw => tag_gen nm hnm k1 32 g0 g1 _ _ _ Sh.tagged_any w (Sh.Src.of_blk (hSr.below hw.below hSr.lt)) (by decide) (by decide) (hw.get (i := 0) rfl) (hw.get (i := 1) rfl) (htr.below hw.below htr.lt))) ?_
    refine sM 47 (.int .u8 0 :: .int .u8 0 :: [.int .u8 0, .int .u8 0, .int .u8 0, .int .u8 0, .int .u8 0, .int .u8 0, .int .u8 0, .int .u8 0, .int .u8 0, .int .u8 0, .int .u8 0, .int .u8 0, .int .u8 0, .int .u8 0, .int .u8 0, .int .u8 0, .int .u8 0, .int .u8 0, .int .u8 0, .int .u8 0, .int .u8 0, .int .u8 0, .int .u8 0, .int .u8 0, .int .u8 0, .int .u8 0, .int .u8 0, .int .u8 0, .int .u8 0, .int .u8 0]).toArray (fun g2 => ?_)
    refine sW 2 g2 47 (.int .u8 0 :: .int .u8 0 :: [.int .u8 0, .int .u8 0, .int .u8 0, .int .u8 0, .int .u8 0, .int .u8 0, .int .u8 0, .int .u8 0, .int .u8 0, .int .u8 0, .int .u8 0, .int .u8 0, .int .u8 0, .int .u8 0, .int .u8 0, .int .u8 0, .int .u8 0, .int .u8 0, .int .u8 0, .int .u8 0, .int .u8 0, .int .u8 0, .int .u8 0, .int .u8 0, .int .u8 0, .int .u8 0, .int .u8 0, .int .u8 0, .int .u8 0, .int .u8 0]).toArray ((genX nm k1).map bv).toArray (Writes.store 0 47 ((genX nm k1).map bv).toArray _ _ rfl kR kR (by rw [key_sz (genX nm k1) (genX_length nm k1)]; kernel_rfl) (by rw [key_sz (genX nm k1) (genX_length nm k1)]; exact Nat.le_of_ble_eq_true kR) (key_one _) (key_set _ _ (by rw [(genX_length nm k1)]; kernel_rfl))) ?_
    refine sG ?_
    refine Sy.seq ?_
    refine Sy.regionY 2 (by rintro ⟨_, _, ⟨_, hv⟩, _⟩; cases hv) kR ?_
    refine sP (.func (.yield l) #[] #[]) <| sS (.agg ((genX nm k1).map bv).toArray) (Quiet.load 2 g2 0 32 47 47 ((genX nm k1).map bv).toArray _ _ rfl kR kR Tryz.underlying47 rfl kR _ (key_whole (genX nm k1) (genX_length nm k1)) (key_size (genX nm k1) (genX_length nm k1))) ?_
    refine Sy.nil ?_
    refine Sy.yieldX (ro := none) rfl (by rintro ⟨_, _, ⟨_, hv⟩, _⟩; cases hv) kR kR l #[.agg ((genX nm k1).map bv).toArray] kF (fun e W' => (e = .returned (.bool true) ∧ J (pre ++ [⟨k1, hx⟩]) W' ∧ Below n₀ W W') ∨ (e = .returned (.bool false) ∧ Jx (pre ++ [⟨k1, hx⟩]) W')) (fun w hg => yield_mono (hY pre ⟨k1, hx⟩ w (abides_gr hJ hj hg) (by omega)) (fun e w' q => q.imp (fun q => ⟨q.1, q.2.1, (hbw.trans (Below.mono hg (Nat.le_trans hnW hbw.size))).trans q.2.2.1⟩) id)) (fun e w' q => q.elim (fun q => ⟨_, q.1⟩) (fun q => ⟨_, q.1⟩)) rfl (fun w2 b hr => ?_)
    cases b
    · have hx2 := hr.elim (fun q => by cases q.1) (fun q => q.2)
      refine sP (.bool true) ?_
      refine sG ?_
      refine sT ?_
      refine Sy.ret ?_
      refine Sy.in_ret ?_
      refine Sy.then_ret ?_
      refine Sy.then_ret ?_
      refine Sy.in_ret ?_
      exact Sy.retP rfl (fun v w3 hg => ⟨⟨_, rfl⟩, .inr ⟨pre ++ [⟨k1, hx⟩], ⟨k1 + 1, by omega, by rw [List.map_append, hpre, List.range_succ]; rfl⟩, abides_gr hJx hx2 hg⟩⟩) (.inl rfl)
    · clear hbw hj
      obtain ⟨hj, hbw⟩ := hr.elim (fun q => q.2) (fun q => by cases q.1)
      refine sP (.bool false) ?_
      refine sG ?_
      refine sU ?_
      refine Sy.skip ?_
      refine Sy.in_ ?_
      refine Sy.then_ ?_
      refine Sy.region ?_
      refine sS (.int .i64 ((k1 + 1 : Nat) : Int)) (Quiet.pure (exec_int .add _ _ _ .i64 _ _ _ rfl rfl rfl (int_add _ _ _ _ _ ((wrap_i64 (by omega) (by omega)).trans (by omega))))) <| sP (.int .i64 ((k1 + 1 : Nat) : Int)) ?_
      refine Sy.nil ?_
      exact Sy.againP (by omega) (all_cons kR (all_cons kR (all_cons kR all_nil))) (fun w3 hg => ⟨pre ++ [⟨k1, hx⟩], by rw [List.map_append, hpre, List.range_succ]; rfl, abides_gr hJ hj hg, hbw.trans (Below.mono hg (Nat.le_trans hnW hbw.size))⟩)
theorem cand_stops (n Bs : Nat) (nm : List UInt8) (hnm : nm.length = 32) (w0 w : World) (hb : Below w0.heap.size w0 w) (hS : Blk w0 Bs 47 (nm.map bv).toArray) (ht : Sh.TabAt w0 1) :
    SeqStopsK Fence.wide n Tryz.prog 159 #[.pointer (some ⟨Bs, 0, none⟩)] (caE nm) (KpL w0.heap.size []) (fun ys => ys.map (·.1) = List.range 256) (fun pre => ∃ k, k ≤ 256 ∧ pre.map (·.1) = List.range k) 256 w := fun l J Jx W hW hJ hJx hY h0 => by
  have hS1 := hS.below hb hS.lt
  have ht1 := ht.below hb ht.lt
  exact cand_in n l Bs w0.heap.size nm hnm hS.lt ht.lt J Jx W (Nat.le_trans hb.size hW.size) hJ hJx hY (hS1.below hW hS1.lt) (ht1.below hW ht1.lt) h0
set_option maxHeartbeats 1000000 in
theorem cands_any (w : World) (nm : List UInt8) :
    Calls Tryz.prog 116 #[.agg (nm.map bv).toArray] w (GetsN w fun v M => ∃ g1, v = .func (.func 159) #[] #[.pointer (some ⟨g1, 0, none⟩)] ∧ M = [(g1, 47, (nm.map bv).toArray)]) := by
  go_enter Tryz.func116, Tryz.ntmps116
  go_wp2
  go_ret
  refine ⟨_, _, rfl, ⟨_, rfl, rfl⟩, (Below.refl _ _).alloc (Nat.le_refl _) _, fun g t cs hm => ?_, by simp⟩
  simp only [List.mem_singleton, Prod.mk.injEq] at hm
  obtain ⟨rfl, rfl, rfl⟩ := hm
  exact ⟨Nat.le_refl _, Blk.new w _ _⟩
end Go.Proofs.YtbofhoonlmikcaaGreatDoor.Cu

end
section
namespace Go.Proofs.YtbofhoonlmikcaaGreatDoor.Cu
open Go.RowKit Go.Proofs.YtbofhoonlmikcaaGreatDoor Go.Proofs.YtbofhoonlmikcaaGreatDoor.Sy
set_option maxRecDepth 100000
set_option maxHeartbeats 4000000

theorem first_any (w : World) (Bs : Nat) (nm : List UInt8) (hnm : nm.length = 32) (hS : Blk w Bs 47 (nm.map bv).toArray) (ht : Sh.TabAt w 1) : Calls Tryz.prog 115 #[.func (.func 159) #[] #[.pointer (some ⟨Bs, 0, none⟩)]] w (Gets w (ptv (genP nm))) := by
  refine Sy.enterM (args := [.func (.func 159) #[] #[.pointer (some ⟨Bs, 0, none⟩)]]) Tryz.func115 rfl kL ?_
  refine sC ?_
  refine sM 52 (pcs 0 0 false) (fun g0 => ?_)
  refine sG ?_
  refine Sy.seq ?_
  refine sC ?_
  refine sP (.func (.func 159) #[] #[.pointer (some ⟨Bs, 0, none⟩)]) ?_
  refine sG ?_
  refine Sy.block ?_
  refine Sy.rangeF (α := Fin 256) 159 #[.pointer (some ⟨Bs, 0, none⟩)] kR kR (enters_of Tryz.func159 kR rfl) (caE nm) [] (fun ys => ys.map (·.1) = List.range 256) (fun pre => ∃ k, k ≤ 256 ∧ pre.map (·.1) = List.range k) 256 (fun _ => rfl) (by decide) [g0] (fun pre => ∀ y ∈ pre, liftB (genX nm y.val) = false) ((fun _ h => by cases h)) (fun pre => [(g0, 52, (pcs 0 0 false))]) (fun pre => [(g0, 52, (pcs (qX (lastP nm pre)) (qY (lastP nm pre)) (qI (lastP nm pre))))]) (fun pre => GHx nm pre) [true] kR (fun _ => rfl) ?_ ?_ 1 (fun x gs => [(2, .pointer (some ⟨g0, 0, none⟩)), (3, .pointer (some ⟨(gs.getD 0 0), 0, none⟩))]) (fun x gs => [(gs.getD 0 0, 31, ((genX nm x.val).map bv).toArray)]) (fun x gs h => by match gs, h with | [_], _ => rfl) ?_ ?_ ?_ ?_
  · intro w hw
    exact ⟨w, Below.refl _ _, cand_stops 8 Bs nm hnm _ w hw.below hS ht⟩
  · intro p hp pre
    cases hp
  · intro l fz pre x
    refine Sy.regionR (by rintro ⟨_, _, h⟩; exact h) kR ⟨_, rfl⟩ ?_
    refine sM 31 (.int .u8 0 :: .int .u8 0 :: [.int .u8 0, .int .u8 0, .int .u8 0, .int .u8 0, .int .u8 0, .int .u8 0, .int .u8 0, .int .u8 0, .int .u8 0, .int .u8 0, .int .u8 0, .int .u8 0, .int .u8 0, .int .u8 0, .int .u8 0, .int .u8 0, .int .u8 0, .int .u8 0, .int .u8 0, .int .u8 0, .int .u8 0, .int .u8 0, .int .u8 0, .int .u8 0, .int .u8 0, .int .u8 0, .int .u8 0, .int .u8 0, .int .u8 0, .int .u8 0]).toArray (fun g1 => ?_)
    refine sW 1 g1 31 (.int .u8 0 :: .int .u8 0 :: [.int .u8 0, .int .u8 0, .int .u8 0, .int .u8 0, .int .u8 0, .int .u8 0, .int .u8 0, .int .u8 0, .int .u8 0, .int .u8 0, .int .u8 0, .int .u8 0, .int .u8 0, .int .u8 0, .int .u8 0, .int .u8 0, .int .u8 0, .int .u8 0, .int .u8 0, .int .u8 0, .int .u8 0, .int .u8 0, .int .u8 0, .int .u8 0, .int .u8 0, .int .u8 0, .int .u8 0, .int .u8 0, .int .u8 0, .int .u8 0]).toArray ((genX nm x.val).map bv).toArray (Writes.store 0 31 ((genX nm x.val).map bv).toArray _ _ rfl kR kR (by rw [key_sz (genX nm x.val) (genX_length nm x.val)]; kernel_rfl) (by rw [key_sz (genX nm x.val) (genX_length nm x.val)]; exact Nat.le_of_ble_eq_true kR) (key_one _) (key_set _ _ (by rw [(genX_length nm x.val)]; kernel_rfl))) ?_
    refine Sy.nil ?_
    exact Sy.apN [g1] rfl (all_cons kR (all_cons kR all_nil)) [true, true] kR
  · intro l fz pre x gs hgs hlen hH
    obtain ⟨y0, rfl⟩ : ∃ y, gs = [y] := by match gs, hgs with | [y], _ => exact ⟨y, rfl⟩
    refine Sy.block ?_
    refine Sy.seq ?_
    refine Sy.regionR (by rintro ⟨_, _, h⟩; exact h) kR ⟨_, rfl⟩ ?_
    refine sS (.agg ((genX nm x.val).map bv).toArray) (Quiet.load 1 y0 0 32 31 31 ((genX nm x.val).map bv).toArray _ _ rfl kR kR Tryz.underlying31 rfl kR _ (key_whole (genX nm x.val) (genX_length nm x.val)) (key_size (genX nm x.val) (genX_length nm x.val))) ?_
    obtain ⟨b1, hb1⟩ : ∃ z : Bool, z = liftB (genX nm x.val) := ⟨_, rfl⟩
    refine sS (.tuple #[pv (qX (liftP (genX nm x.val))) (qY (liftP (genX nm x.val))) (qI (liftP (genX nm x.val))), .bool b1]) (qF 50 #[.agg ((genX nm x.val).map bv).toArray] (fun w => by rw [← ptv_q, hb1]; exact lift_any w (genX nm x.val) (genX_length _ _))) <| sP (.tuple #[pv (qX (liftP (genX nm x.val))) (qY (liftP (genX nm x.val))) (qI (liftP (genX nm x.val))), .bool b1]) <| sP (pv (qX (liftP (genX nm x.val))) (qY (liftP (genX nm x.val))) (qI (liftP (genX nm x.val)))) <| sP (.bool b1) ?_
    refine sM 52 (pcs 0 0 false) (fun g2 => ?_)
    refine sW 2 g2 52 (pcs 0 0 false) (pcs (qX (liftP (genX nm x.val))) (qY (liftP (genX nm x.val))) (qI (liftP (genX nm x.val)))) (wS 0 52 (pcs (qX (liftP (genX nm x.val))) (qY (liftP (genX nm x.val))) (qI (liftP (genX nm x.val)))) rfl) <| sP (.bool b1) ?_
    refine sG ?_
    refine Sy.seq ?_
    refine Sy.regionR (by rintro ⟨_, _, h⟩; exact h) kR ⟨_, rfl⟩ ?_
    refine sP (.bool b1) ?_
    refine sG ?_
    cases b1
    · refine sU ?_
      refine Sy.skip ?_
      refine Sy.in_ ?_
      exact Sy.bpN [true, false, false] (M := [(g0, 52, (pcs 0 0 false))]) kR (bcons rfl rfl) (all_snoc hH hb1)
    · refine sT ?_
      refine Sy.seq ?_
      refine Sy.regionR (by rintro ⟨_, _, h⟩; exact h) kR ⟨_, rfl⟩ ?_
      refine sS (pv (qX (liftP (genX nm x.val))) (qY (liftP (genX nm x.val))) (qI (liftP (genX nm x.val)))) (qL 2 g2 0 9 52 52 (pcs (qX (liftP (genX nm x.val))) (qY (liftP (genX nm x.val))) (qI (liftP (genX nm x.val)))) rfl Tryz.underlying52) <| sW 0 g0 52 (pcs 0 0 false) (pcs (qX (liftP (genX nm x.val))) (qY (liftP (genX nm x.val))) (qI (liftP (genX nm x.val)))) (wS 0 52 (pcs (qX (liftP (genX nm x.val))) (qY (liftP (genX nm x.val))) (qI (liftP (genX nm x.val)))) rfl) ?_
      refine sG ?_
      refine Sy.ret ?_
      refine Sy.in_ret ?_
      exact Sy.bpR [true, false, false] (M := [(g0, 52, (pcs (qX (liftP (genX nm x.val))) (qY (liftP (genX nm x.val))) (qI (liftP (genX nm x.val)))))]) kR (bcons (beq (by rw [lastP_snoc])) rfl) (⟨pre, x, rfl, hH, hb1.symm⟩)
  · intro D fz xs hS_ hH hD hm
    have hgn := gen_none (before_k hS_ hH)
    refine Sy.in_ ?_
    refine sB ?_
    refine sS (pv (qX bP) (qY bP) (qI bP)) (qF 67 #[] (fun w => by rw [← ptv_q]; exact base_c w)) <| sW 0 g0 52 (pcs 0 0 false) (pcs (qX bP) (qY bP) (qI bP)) (wS 0 52 (pcs (qX bP) (qY bP) (qI bP)) rfl) ?_
    refine sG ?_
    refine Sy.ret ?_
    rw [show (ptv (genP nm) : Value) = pv (qX bP) (qY bP) (qI bP) from by rw [← ptv_q, hgn]]
    exact Sy.retM1 (v := pv (qX bP) (qY bP) (qI bP)) rfl (.inl (Res.cell (ty' := 52) g0 0 (pcs (qX bP) (qY bP) (qI bP)) _ kR kR Tryz.underlying52 rfl kR kR)) hD hm
  · intro D fz pre hS_ hx hD hm
    have hgs := gen_stop hS_ hx
    refine Sy.in_ret ?_
    refine Sy.then_ret ?_
    rw [show (ptv (genP nm) : Value) = pv (qX (lastP nm pre)) (qY (lastP nm pre)) (qI (lastP nm pre)) from by rw [← ptv_q, hgs]]
    exact Sy.retM1 (v := pv (qX (lastP nm pre)) (qY (lastP nm pre)) (qI (lastP nm pre))) rfl (.inl (Res.cell (ty' := 52) g0 0 (pcs (qX (lastP nm pre)) (qY (lastP nm pre)) (qI (lastP nm pre))) _ kR kR Tryz.underlying52 rfl kR kR)) hD hm
theorem gen_any (w : World) (nm : List UInt8) (hnm : nm.length = 32) (ht : Sh.TabAt w 1) : Calls Tryz.prog 63 #[.agg (nm.map bv).toArray] w (Gets w (ptv (genP nm))) := by
  refine Sy.enter (args := [.agg (nm.map bv).toArray]) Tryz.func63 rfl kL ?_
  refine sC ?_
  refine sM 47 (nm.map bv).toArray (fun g0 => ?_)
  refine sM 52 (pcs 0 0 false) (fun g1 => ?_)
  refine sA ?_
  refine sS (.agg (nm.map bv).toArray) (Quiet.load 0 g0 0 32 47 47 (nm.map bv).toArray _ _ rfl kR kR Tryz.underlying47 rfl kR _ (key_whole nm hnm) (key_size nm hnm)) ?_
  refine Sy.callN kR 116 #[.agg (nm.map bv).toArray] kF (fun vq Mq => ∃ g1, vq = .func (.func 159) #[] #[.pointer (some ⟨g1, 0, none⟩)] ∧ Mq = [(g1, 47, (nm.map bv).toArray)]) (fun w _ => cands_any w nm) (fun vq Mq hR0 => ?_)
  obtain ⟨u1, rfl, rfl⟩ := hR0
  refine sS (pv (qX (genP nm)) (qY (genP nm)) (qI (genP nm))) (qG 115 #[.func (.func 159) #[] #[.pointer (some ⟨u1, 0, none⟩)]] (fun w hw => by rw [← ptv_q]; exact first_any w u1 nm hnm (hw.get (i := 2) rfl) (ht.below hw.below ht.lt))) <| sW 1 g1 52 (pcs 0 0 false) (pcs (qX (genP nm)) (qY (genP nm)) (qI (genP nm))) (wS 0 52 (pcs (qX (genP nm)) (qY (genP nm)) (qI (genP nm))) rfl) ?_
  refine sG ?_
  refine Sy.ret ?_
  rw [show (ptv (genP nm) : Value) = pv (qX (genP nm)) (qY (genP nm)) (qI (genP nm)) from ptv_q _]
  exact rC (v := pv (qX (genP nm)) (qY (genP nm)) (qI (genP nm))) 52 g1 1 (pcs (qX (genP nm)) (qY (genP nm)) (qI (genP nm))) rfl Tryz.underlying52
end Go.Proofs.YtbofhoonlmikcaaGreatDoor.Cu

end
section
namespace Go.Proofs.YtbofhoonlmikcaaGreatDoor.Cu
open Go.RowKit Go.Proofs.YtbofhoonlmikcaaGreatDoor Go.Proofs.YtbofhoonlmikcaaGreatDoor.Sy

theorem textN_any (w : World) (nm : List UInt8) (hnm : nm.length = 32) : Calls Tryz.prog 98 #[.agg (nm.map bv).toArray] w (GetsN w (fun vq Mq => ∃ (g : Nat) (sp : List Value) (cap : Nat), vq = .slice (some ⟨g, 0, none⟩) 32 cap ∧ (32 ≤ cap ∧ cap ≤ 9223372036854775807) ∧ Mq = [(g, 5, (nm.map bv ++ sp).toArray)])) := by
  refine (Sh.textR_any w nm hnm).mono ?_
  rintro e w' ⟨g, cap, rfl, ho, hl, hb⟩
  unfold Sh.OwnB at ho
  rw [hnm] at ho
  rcases ho.2 with ⟨h0, _⟩ | ⟨g', cap', cur, hv, hg, hk, q3, q4, q5, q6⟩
  · cases h0
  · cases hv
    have hc : cur = (nm.map bv ++ cur.toList.drop 32).toArray := by
      rw [Nat.mul_one] at q6
      rw [← q6, List.take_append_drop]
    refine ⟨_, [(g, 5, cur)], rfl, ⟨g, cur.toList.drop 32, cap, rfl, ⟨by omega, by simp only [maxLen] at q4; omega⟩, by rw [← hc]⟩, hb, fun g1 t1 cs1 hm => ?_, by simp⟩
    simp only [List.mem_singleton, Prod.mk.injEq] at hm
    obtain ⟨rfl, rfl, rfl⟩ := hm
    exact ⟨hg, hk⟩
theorem src_own {w : World} {g : Nat} {t : TypeId} {m : List UInt8} {sp : List Value} (hb : Blk w g t (m.map bv ++ sp).toArray) : Sh.Src w (some ⟨g, 0, none⟩) m := fun _ => ⟨g, 0, rfl, hb.lt, fun j u hj => by
  rw [Nat.zero_add]
  refine (hb.cell j).trans ?_
  have hl := (List.getElem?_eq_some_iff.1 hj).1
  rw [List.getElem?_toArray, List.getElem?_append_left (by rw [List.length_map]; exact hl), List.getElem?_map, hj]
  rfl⟩
set_option maxHeartbeats 4000000 in
set_option maxRecDepth 100000 in
theorem genR_any (w : World) (nm : List UInt8) (hnm : nm.length = 32) (ht : Sh.TabAt w 0) : Calls Tryz.prog 64 #[.agg (nm.map bv).toArray] w (Gets w (ptv (genP nm))) := by
  refine Sy.enter (args := [.agg (nm.map bv).toArray]) Tryz.func64 rfl kL ?_
  refine sC ?_
  refine sM 47 (nm.map bv).toArray (fun g0 => ?_)
  refine sM 52 (pcs 0 0 false) (fun g1 => ?_)
  refine sG ?_
  refine Sy.seq ?_
  refine sC ?_
  refine sP (.int .i64 0) ?_
  refine sG ?_
  refine Sy.block ?_
  refine Sy.loopH 256 (fun k1 => ∀ j, j < k1 → liftB (genX nm j) = false) (fun k1 => [(1, .pointer (some ⟨g0, 0, none⟩)), (2, .pointer (some ⟨g1, 0, none⟩)), (3, .int .i64 ((k1 : Nat) : Int))]) (fun k1 => [(g0, 47, (nm.map bv).toArray), (g1, 52, (pcs 0 0 false))]) [true, true] (M := [(g0, 47, (nm.map bv).toArray), (g1, 52, (pcs 0 0 false))]) ((fun j hj => absurd hj (Nat.not_lt_zero j))) (all_cons kR (all_cons kR (all_cons kR all_nil))) kR (bcons rfl (bcons rfl rfl)) (fun k1 hk1 hh => ?_)
  refine Sy.seq ?_
  refine sC ?_
  refine sP (.int .i64 ((k1 : Nat) : Int)) ?_
  obtain ⟨b1, hb1⟩ : ∃ z : Bool, z = decide (k1 < 256) := ⟨_, rfl⟩
  refine sS (.bool b1) (Quiet.pure (exec_int .lss _ _ _ .i64 _ _ _ rfl rfl rfl (int_lss _ _ _ _ _ (by rw [hb1]; exact decide_eq_decide.2 (by omega))))) ?_
  refine sG ?_
  cases b1
  · have lb1 : ¬ (k1 < 256) := of_decide_eq_false hb1.symm
    refine sU ?_
    refine Sy.exit ?_
    refine Sy.then_exit ?_
    refine Sy.then_exit ?_
    obtain rfl : k1 = 256 := by omega
    refine Sy.in_exit ?_
    refine sB ?_
    refine sS (pv (qX bP) (qY bP) (qI bP)) (qF 43 #[] (fun w => by rw [← ptv_q]; exact baseR_c w)) <| sW 1 g1 52 (pcs 0 0 false) (pcs (qX bP) (qY bP) (qI bP)) (wS 0 52 (pcs (qX bP) (qY bP) (qI bP)) rfl) ?_
    refine sG ?_
    refine Sy.ret ?_
    rw [show (ptv (genP nm) : Value) = pv (qX bP) (qY bP) (qI bP) from by rw [← ptv_q, gen_none hh]]
    exact rC (v := pv (qX bP) (qY bP) (qI bP)) 52 g1 1 (pcs (qX bP) (qY bP) (qI bP)) rfl Tryz.underlying52
  · have lb1 : k1 < 256 := of_decide_eq_true hb1.symm
    refine sT ?_
    refine Sy.skip ?_
    refine Sy.then_ ?_
    refine Sy.seq ?_
    refine Sy.block ?_
    refine sC ?_
    refine sS (.agg (nm.map bv).toArray) (Quiet.load 0 g0 0 32 47 47 (nm.map bv).toArray _ _ rfl kR kR Tryz.underlying47 rfl kR _ (key_whole nm hnm) (key_size nm hnm)) ?_
    refine Sy.callN kR 98 #[.agg (nm.map bv).toArray] kF (fun vq Mq => ∃ (g : Nat) (sp : List Value) (cap : Nat), vq = .slice (some ⟨g, 0, none⟩) 32 cap ∧ (32 ≤ cap ∧ cap ≤ 9223372036854775807) ∧ Mq = [(g, 5, (nm.map bv ++ sp).toArray)]) (fun w _ => textN_any w nm hnm) (fun vq Mq hR0 => ?_)
    obtain ⟨g9, sp9, cp9, rfl, hcp, rfl⟩ := hR0
    refine sP (.int .i64 ((k1 : Nat) : Int)) <| sS (bv (UInt8.ofNat k1)) (Quiet.pure (fun w => conv_u8 w _ _ _ k1 (by omega) rfl rfl)) ?_
    refine Sy.make kR 5 #[bv (UInt8.ofNat k1)] (fun g => .slice (some ⟨g, 0, none⟩) 1 1) kF (fun g2 => ?_)
    refine Sy.make kR 25 #[.slice (some ⟨g9, 0, none⟩) 32 cp9, .slice (some ⟨g2, 0, none⟩) 1 1] (fun g => .slice (some ⟨g, 0, none⟩) 2 2) kF (fun g3 => ?_)
    refine sS (.agg ((genX nm k1).map bv).toArray) (qG 46 #[.string genNm, .slice (some ⟨g3, 0, none⟩) 2 2] (fun w hw => tag_gen nm hnm k1 cp9 g2 g3 _ _ _ Sh.taggedR_any w (src_own (hw.get (i := 2) rfl)) hcp.1 hcp.2 (hw.get (i := 3) rfl) (hw.get (i := 4) rfl) (ht.below hw.below ht.lt))) ?_
    refine sM 47 (.int .u8 0 :: .int .u8 0 :: [.int .u8 0, .int .u8 0, .int .u8 0, .int .u8 0, .int .u8 0, .int .u8 0, .int .u8 0, .int .u8 0, .int .u8 0, .int .u8 0, .int .u8 0, .int .u8 0, .int .u8 0, .int .u8 0, .int .u8 0, .int .u8 0, .int .u8 0, .int .u8 0, .int .u8 0, .int .u8 0, .int .u8 0, .int .u8 0, .int .u8 0, .int .u8 0, .int .u8 0, .int .u8 0, .int .u8 0, .int .u8 0, .int .u8 0, .int .u8 0]).toArray (fun g4 => ?_)
    refine sW 5 g4 47 (.int .u8 0 :: .int .u8 0 :: [.int .u8 0, .int .u8 0, .int .u8 0, .int .u8 0, .int .u8 0, .int .u8 0, .int .u8 0, .int .u8 0, .int .u8 0, .int .u8 0, .int .u8 0, .int .u8 0, .int .u8 0, .int .u8 0, .int .u8 0, .int .u8 0, .int .u8 0, .int .u8 0, .int .u8 0, .int .u8 0, .int .u8 0, .int .u8 0, .int .u8 0, .int .u8 0, .int .u8 0, .int .u8 0, .int .u8 0, .int .u8 0, .int .u8 0, .int .u8 0]).toArray ((genX nm k1).map bv).toArray (Writes.store 0 47 ((genX nm k1).map bv).toArray _ _ rfl kR kR (by rw [key_sz (genX nm k1) (genX_length nm k1)]; kernel_rfl) (by rw [key_sz (genX nm k1) (genX_length nm k1)]; exact Nat.le_of_ble_eq_true kR) (key_one _) (key_set _ _ (by rw [(genX_length nm k1)]; kernel_rfl))) ?_
    refine sA ?_
    refine sS (.agg ((genX nm k1).map bv).toArray) (Quiet.load 5 g4 0 32 47 47 ((genX nm k1).map bv).toArray _ _ rfl kR kR Tryz.underlying47 rfl kR _ (key_whole (genX nm k1) (genX_length nm k1)) (key_size (genX nm k1) (genX_length nm k1))) ?_
    obtain ⟨b2, hb2⟩ : ∃ z : Bool, z = liftB (genX nm k1) := ⟨_, rfl⟩
    refine sS (.tuple #[pv (qX (liftP (genX nm k1))) (qY (liftP (genX nm k1))) (qI (liftP (genX nm k1))), .bool b2]) (qF 53 #[.agg ((genX nm k1).map bv).toArray] (fun w => by rw [← ptv_q, hb2]; exact liftR_any w (genX nm k1) (genX_length _ _))) <| sP (.tuple #[pv (qX (liftP (genX nm k1))) (qY (liftP (genX nm k1))) (qI (liftP (genX nm k1))), .bool b2]) <| sP (pv (qX (liftP (genX nm k1))) (qY (liftP (genX nm k1))) (qI (liftP (genX nm k1)))) <| sP (.bool b2) ?_
    refine sM 52 (pcs 0 0 false) (fun g5 => ?_)
    refine sW 6 g5 52 (pcs 0 0 false) (pcs (qX (liftP (genX nm k1))) (qY (liftP (genX nm k1))) (qI (liftP (genX nm k1)))) (wS 0 52 (pcs (qX (liftP (genX nm k1))) (qY (liftP (genX nm k1))) (qI (liftP (genX nm k1)))) rfl) <| sP (.bool b2) ?_
    refine sA ?_
    refine sP (.bool b2) ?_
    refine sG ?_
    cases b2
    · refine sU ?_
      refine Sy.skip ?_
      refine Sy.in_ ?_
      refine Sy.then_ ?_
      refine Sy.region ?_
      refine sP (.int .i64 ((k1 : Nat) : Int)) <| sS (.int .i64 ((k1 + 1 : Nat) : Int)) (Quiet.pure (exec_int .add _ _ _ .i64 _ _ _ rfl rfl rfl (int_add _ _ _ _ _ ((wrap_i64 (by omega) (by omega)).trans (by omega))))) <| sP (.int .i64 ((k1 + 1 : Nat) : Int)) ?_
      refine Sy.nil ?_
      exact Sy.againH [true, true, false, false, false, false, false] (M := [(g0, 47, (nm.map bv).toArray), (g1, 52, (pcs 0 0 false))]) (by omega) ((all_lt hh hb2)) (all_cons kR (all_cons kR (all_cons kR all_nil))) kR (bcons rfl (bcons rfl rfl))
    · refine sT ?_
      refine sC ?_
      refine sS (pv (qX (liftP (genX nm k1))) (qY (liftP (genX nm k1))) (qI (liftP (genX nm k1)))) (qL 6 g5 0 9 52 52 (pcs (qX (liftP (genX nm k1))) (qY (liftP (genX nm k1))) (qI (liftP (genX nm k1)))) rfl Tryz.underlying52) <| sW 1 g1 52 (pcs 0 0 false) (pcs (qX (liftP (genX nm k1))) (qY (liftP (genX nm k1))) (qI (liftP (genX nm k1)))) (wS 0 52 (pcs (qX (liftP (genX nm k1))) (qY (liftP (genX nm k1))) (qI (liftP (genX nm k1)))) rfl) ?_
      refine sG ?_
      refine Sy.ret ?_
      refine Sy.in_ret ?_
      refine Sy.then_ret ?_
      refine Sy.then_ret ?_
      refine Sy.in_ret ?_
      refine Sy.then_ret ?_
      rw [show (ptv (genP nm) : Value) = pv (qX (liftP (genX nm k1))) (qY (liftP (genX nm k1))) (qI (liftP (genX nm k1))) from by rw [← ptv_q, gen_first (by omega) hh hb2.symm]]
      exact rC (v := pv (qX (liftP (genX nm k1))) (qY (liftP (genX nm k1))) (qI (liftP (genX nm k1)))) 52 g1 1 (pcs (qX (liftP (genX nm k1))) (qY (liftP (genX nm k1))) (qI (liftP (genX nm k1)))) rfl Tryz.underlying52
end Go.Proofs.YtbofhoonlmikcaaGreatDoor.Cu

end
section
namespace Go.Proofs.YtbofhoonlmikcaaGreatDoor.Sc
open Go.RowKit Go.Lib Go.Proofs.YtbofhoonlmikcaaGreatDoor

end Go.Proofs.YtbofhoonlmikcaaGreatDoor.Sc

end
section
namespace Go.Proofs.YtbofhoonlmikcaaGreatDoor.Sc
open Go.RowKit Go.Lib

section
variable {P : Program} {ops : Array Oper}
end

end Go.Proofs.YtbofhoonlmikcaaGreatDoor.Sc

end
section
namespace Go.Proofs.YtbofhoonlmikcaaGreatDoor.Sc
open Go.RowKit Go.Lib Go.Proofs.YtbofhoonlmikcaaGreatDoor

end Go.Proofs.YtbofhoonlmikcaaGreatDoor.Sc

end
section
namespace Go.Proofs.YtbofhoonlmikcaaGreatDoor.Cu
open Go.RowKit Go.Proofs.YtbofhoonlmikcaaGreatDoor Go.Proofs.YtbofhoonlmikcaaGreatDoor.Sy
set_option maxRecDepth 100000
set_option maxHeartbeats 4000000

section
variable {P : Program} {w0 : Base} {n : Nat} {F : Slots} {L : Blocks}
end
end Go.Proofs.YtbofhoonlmikcaaGreatDoor.Cu

end
