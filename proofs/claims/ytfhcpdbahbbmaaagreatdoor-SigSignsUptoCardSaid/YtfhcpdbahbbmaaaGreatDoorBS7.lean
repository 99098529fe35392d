/-
  Texts of ours, put together: CrvV, ScRefs, SigR, SigK, EqB, SigAlive, ComM, ComV, SigV, SymY, SigS, SymR, StrZ, SigSignsL.
-/
import Derived.Test.YtfhcpdbahbbmaaaGreatDoorBS6
set_option linter.unusedVariables false
set_option linter.unusedSimpArgs false
section
namespace Go.Proofs.YtfhcpdbahbbmaaaGreatDoor.Cu
open Go.RowKit Go.Proofs.YtfhcpdbahbbmaaaGreatDoor Go.Proofs.YtfhcpdbahbbmaaaGreatDoor.Sy
set_option maxRecDepth 100000
set_option maxHeartbeats 4000000

def bt (j : Nat) : Nat := 9223372036854775808 / 2 ^ j
theorem bt_next (j : Nat) : bt j / 2 = bt (j + 1) := by unfold bt; rw [Nat.div_div_eq_div_mul, Nat.pow_succ]
theorem bt_le (j : Nat) : bt j < 18446744073709551616 := Nat.lt_of_le_of_lt (Nat.div_le_self _ _) (by decide)
theorem bt_is {j : Nat} (h : j < 64) : bt j = 2 ^ (63 - j) := by
 unfold bt
 rw [show (9223372036854775808 : Nat) = 2 ^ (63 - j) * 2 ^ j by rw [← Nat.pow_add, show 63 - j + j = 63 by omega], Nat.mul_div_cancel _ (Nat.two_pow_pos j)]
theorem bt_pos (j : Nat) : 0 < bt j ↔ j < 64 := by
 constructor
 ·intro h
  rcases Nat.lt_or_ge j 64 with hl | hl
  ·exact hl
  ·exfalso
   unfold bt at h
   rw [Nat.div_eq_of_lt (Nat.lt_of_lt_of_le (show 9223372036854775808 < 2 ^ 64 by decide) (Nat.pow_le_pow_right (by decide) hl))] at h
   omega
 ·intro h
  rw [bt_is h]
  exact Nat.two_pow_pos _
theorem and_bt (z j : Nat) (hj : j < 64) : (z &&& bt j ≠ 0) ↔ z / 2 ^ (63 - j) % 2 = 1 := by
 rw [bt_is hj]
 have e : z.testBit (63 - j) = decide (z / 2 ^ (63 - j) % 2 = 1) := Nat.testBit_eq_decide_div_mod_eq
 generalize 63 - j = i at e ⊢
 by_cases h : z / 2 ^ i % 2 = 1
 ·refine ⟨fun _ => h, fun _ h0 => ?_⟩
  have h1 := congrArg (fun t => t.testBit i) h0
  simp [Nat.testBit_and, Nat.testBit_two_pow_self, e, h] at h1
 ·refine ⟨fun h0 => (h0 (Nat.eq_of_testBit_eq fun k => ?_)).elim, fun h0 => (h h0).elim⟩
  rw [Nat.testBit_and, Nat.zero_testBit, Nat.testBit_two_pow]
  by_cases hk : i = k
  ·subst hk
   simp [e, h]
  ·simp [hk]
theorem exec_and (F : Slots) (o : Oper) (t : TypeId) (x y : Operand) {yt : TypeId} (z b : Nat) (hz : z < 18446744073709551616) (hb : b < 18446744073709551616) (ho : o.op = .binOp .and t x y yt) (hx : evF F x = qv z) (hy : evF F y = .int .u64 (b : Int)) (w : World) : (execOp (evF F) o).run Tryz.prog w = .ok (.value (.int .u64 ((z &&& b : Nat) : Int))) w :=
 exec_int .and t x y .u64 (z : Int) (b : Int) _ ho hx hy (int_and t .u64 _ _ _ (by
  have e : ((BitVec.ofInt IntKind.u64.bits (z : Int) &&& BitVec.ofInt IntKind.u64.bits (b : Int)).toNat) = z &&& b := by
   show ((BitVec.ofInt 64 (z : Int) &&& BitVec.ofInt 64 (b : Int)).toNat) = _
   rw [BitVec.toNat_and, BitVec.ofInt_natCast, BitVec.ofInt_natCast, BitVec.toNat_ofNat, BitVec.toNat_ofNat, Nat.mod_eq_of_lt (by omega), Nat.mod_eq_of_lt (by omega)]
  rw [e]
  have h : z &&& b ≤ z := Nat.and_le_left
  exact wrap_u64 (by omega) (by omega))) w
def bitJ (m : Nat) (x y : Fp) : Nat → J
 | 0 => ⟨0, 0, 0⟩
 | t + 1 => if m / 2 ^ (255 - t) % 2 = 1 then plusR (dblR (bitJ m x y t)) x y else dblR (bitJ m x y t)
theorem bitJ_yes {m : Nat} {x y : Fp} {t : Nat} (h : m / 2 ^ (255 - t) % 2 = 1) : bitJ m x y (t + 1) = plusR (dblR (bitJ m x y t)) x y := if_pos h
theorem bitJ_no {m : Nat} {x y : Fp} {t : Nat} (h : ¬ m / 2 ^ (255 - t) % 2 = 1) : bitJ m x y (t + 1) = dblR (bitJ m x y t) := if_neg h
theorem bitJ_rep {m : Nat} (hm : m < 2 ^ 256) {x y : Fp} (h : y * y = x * x * x + 7) : ∀ t, t ≤ 256 → Ec.Rep (bitJ m x y t) (Ec.nm finv (m / 2 ^ (256 - t)) (some (x, y)))
 | 0, _ => by
  rw [Nat.sub_zero, Nat.div_eq_of_lt hm]
  rfl
 | t + 1, ht => by
  have hP : Ec.On (some (x, y)) := h
  have h1 := bitJ_rep hm h t (by omega)
  have hS := hP.nm fld (m / 2 ^ (256 - t))
  have h2 := dblR_rep hS h1
  have e := Ec.bit_step fld hP m (2 ^ (255 - t))
  rw [← Nat.pow_succ', show (255 - t).succ = 256 - t by omega] at e
  rw [show 256 - (t + 1) = 255 - t by omega, ← e]
  by_cases hb : m / 2 ^ (255 - t) % 2 = 1
  ·rw [bitJ_yes hb, hb, Ec.nm_one]
   exact plusR_rep (Ec.On.add fld hS hS) h h2
  ·rw [bitJ_no hb, show m / 2 ^ (255 - t) % 2 = 0 by omega, show Ec.nm finv 0 (some (x, y)) = none from rfl, Ec.add_zero]
   exact h2
theorem word_bit (m i j : Nat) (hj : j < 64) : m / 2 ^ (64 * i) % 18446744073709551616 / 2 ^ (63 - j) % 2 = m / 2 ^ (64 * i + (63 - j)) % 2 := by
 rw [Nat.pow_add, ← Nat.div_div_eq_div_mul, show (18446744073709551616 : Nat) = 2 ^ (63 - j) * 2 ^ (j + 1) by rw [← Nat.pow_add, show 63 - j + (j + 1) = 64 by omega], Nat.mod_mul_right_div_self, Nat.pow_succ', Nat.mod_mul_right_mod]
theorem word_bit0 (m j : Nat) (hj : j < 64) : m % 18446744073709551616 / 2 ^ (63 - j) % 2 = m / 2 ^ (64 * 0 + (63 - j)) % 2 := by
 have q := word_bit m 0 j hj
 rw [Nat.mul_zero, Nat.pow_zero, Nat.div_one] at q
 exact q
def modN : Array Value := #[.int .u64 13822214165235122497, .int .u64 13451932020343611451, .int .u64 18446744073709551614, .int .u64 18446744073709551615, .int .u64 4624529908474429119, .int .u64 4994812053365940164, .int .u64 1]
theorem mulRe_none (w : World) (k x y : Nat) (i : Bool) (hk : k < K4) (hx : x < K4) (hy : y < K4) (h : dec x y i = none) : Calls Tryz.prog 30 #[fv k, pv x y i] w (Gets w (ptv none)) := by
 refine Sy.enter (args := [fv k, pv x y i]) Tryz.func30 rfl kL ?_
 refine sC ?_
 refine sM 24 (fcs k) (fun g0 => ?_)
 refine sM 71 (pcs x y i) (fun g1 => ?_)
 refine sM 71 (pcs 0 0 false) (fun g2 => ?_)
 refine sA ?_
 refine sS (pv x y i) (qL 1 g1 0 9 71 71 (pcs x y i) rfl Tryz.underlying71) <| sS (pv 0 0 true) (qF 73 #[pv x y i] (fun w => by have hrr := taken_c w x y i hx hy; rw [h] at hrr; exact hrr)) <| sW 1 g1 71 (pcs x y i) (pcs 0 0 true) (wS 0 71 (pcs 0 0 true) rfl) ?_
 refine sG <| Sy.seq <| sC ?_
 refine sP (.pointer (some ⟨g1, 8, none⟩)) <| sS (.bool true) (qC 1 g1 8 71 4 (pcs 0 0 true) rfl Tryz.underlying4) ?_
 refine sG <| sT <| sC ?_
 refine sS (pv 0 0 true) (qL 1 g1 0 9 71 71 (pcs 0 0 true) rfl Tryz.underlying71) <| sW 2 g2 71 (pcs 0 0 false) (pcs 0 0 true) (wS 0 71 (pcs 0 0 true) rfl) ?_
 refine sG <| Sy.ret <| Sy.then_ret ?_
 rw [show (ptv none : Value) = pv 0 0 true from rfl]
 exact rC (v := pv 0 0 true) 71 g2 2 (pcs 0 0 true) rfl Tryz.underlying71
theorem mulRe_some (w : World) (k x y : Nat) (i : Bool) (hk : k < K4) (hx : x < K4) (hy : y < K4) (u v : Fp) (h : dec x y i = some (u, v)) (ho : v * v = u * u * u + 7) : Calls Tryz.prog 30 #[fv k, pv x y i] w (Gets w (ptv (Ec.nm finv (k % Sc.pM) (some (u, v))))) := by
 obtain ⟨m, hm⟩ : ∃ m, m = k % Sc.pM := ⟨_, rfl⟩
 obtain ⟨Q, hQ⟩ : ∃ Q, Q = ptJ (bitJ m u v 256) := ⟨_, rfl⟩
 have hml : m < K4 := by rw [hm]; exact Sc.mod_lt k
 have hn : Ec.nm finv (k % Sc.pM) (some (u, v)) = Q := by
  have q := bitJ_rep (m := m) hml ho 256 (Nat.le_refl _)
  rw [Nat.sub_self, Nat.pow_zero, Nat.div_one] at q
  rw [← hm, hQ]
  exact (ptJ_rep q).symm
 rw [hn]
 refine Sy.enter (args := [fv k, pv x y i]) Tryz.func30 rfl kL ?_
 refine sC ?_
 refine sM 24 (fcs k) (fun g0 => ?_)
 refine sM 71 (pcs x y i) (fun g1 => ?_)
 refine sM 71 (pcs 0 0 false) (fun g2 => ?_)
 refine sA ?_
 refine sS (pv x y i) (qL 1 g1 0 9 71 71 (pcs x y i) rfl Tryz.underlying71) <| sS (pv u.val v.val false) (qF 73 #[pv x y i] (fun w => by have hrr := taken_c w x y i hx hy; rw [h] at hrr; exact hrr)) <| sW 1 g1 71 (pcs x y i) (pcs u.val v.val false) (wS 0 71 (pcs u.val v.val false) rfl) ?_
 refine sG <| Sy.seq <| sC ?_
 refine sP (.pointer (some ⟨g1, 8, none⟩)) <| sS (.bool false) (qC 1 g1 8 71 4 (pcs u.val v.val false) rfl Tryz.underlying4) ?_
 refine sG <| sU <| Sy.skip ?_
 refine sR (fun j => j == 5) ?_
 refine sD 0 rfl (.agg modN) (qF 75 #[] (Sc.refN_any)) <| sD 1 rfl (fv k) (qL 0 g0 0 4 24 24 (fcs k) rfl Tryz.underlying24) <| sD 2 rfl (fv k) (qF 76 #[fv k] (fun w => Sc.refOf_any w k lK)) <| sD 3 rfl (fv m) (qF 74 #[.agg modN, fv k] (fun w => by rw [hm]; exact Sc.normR_any w k hk)) ?_
 refine sO 4 rfl 97 (fcs 0) (fun g3 => ?_)
 refine sX 5 rfl 3 g3 97 (fcs 0) (fcs m) (wS 0 97 (fcs m) rfl) ?_
 refine sE ?_
 refine sB ?_
 refine sP (.pointer (some ⟨g1, 0, none⟩)) <| sS (fv u.val) (qL 1 g1 0 4 71 69 (pcs u.val v.val false) rfl Tryz.underlying69) <| sS (fv u.val) (qF 77 #[fv u.val] (fun w => refOf_any w u.val lK)) ?_
 refine sM 97 (fcs 0) (fun g4 => ?_)
 refine sW 4 g4 97 (fcs 0) (fcs u.val) (wS 0 97 (fcs u.val) rfl) ?_
 refine sA ?_
 refine sP (.pointer (some ⟨g1, 4, none⟩)) <| sS (fv v.val) (qL 1 g1 4 4 71 69 (pcs u.val v.val false) rfl Tryz.underlying69) <| sS (fv v.val) (qF 77 #[fv v.val] (fun w => refOf_any w v.val lK)) ?_
 refine sM 97 (fcs 0) (fun g5 => ?_)
 refine sW 5 g5 97 (fcs 0) (fcs v.val) (wS 0 97 (fcs v.val) rfl) ?_
 refine sA ?_
 refine sP (tv 0 0 0) ?_
 refine sM 126 (tcs 0 0 0) (fun g6 => ?_)
 refine sW 6 g6 126 (tcs 0 0 0) (tcs 0 0 0) (wS 0 126 (tcs 0 0 0) rfl) ?_
 refine sG <| Sy.seq <| sC ?_
 refine sP (.int .i64 3) ?_
 refine sG <| Sy.block ?_
 refine Sy.loopN 5 ?_
 refine Sy.tidyR (G := [(4, .pointer (some ⟨g2, 0, none⟩)), (5, .pointer (some ⟨g3, 0, none⟩)), (6, .pointer (some ⟨g4, 0, none⟩)), (7, .pointer (some ⟨g5, 0, none⟩)), (8, .pointer (some ⟨g6, 0, none⟩)), (9, .int .i64 3)]) (M := [(g2, 71, (pcs 0 0 false)), (g3, 97, (fcs m)), (g4, 97, (fcs u.val)), (g5, 97, (fcs v.val)), (g6, 126, (tcs 0 0 0))]) [false, false, true, true, true, true, true] kR (all_cons kR (all_cons kR (all_cons kR (all_cons kR (all_cons kR (all_cons kR all_nil)))))) ?_
 refine Sy.round <| Sy.seq <| sC ?_
 refine sP (.int .i64 3) <| sP (.bool true) ?_
 refine sG <| sT <| Sy.skip <| Sy.then_ <| Sy.seq <| Sy.block <| sC ?_
 refine sP (.int .u64 9223372036854775808) ?_
 refine sG <| Sy.block ?_
 refine Sy.loopK 64 (fun k2x0 => [(4, .pointer (some ⟨g2, 0, none⟩)), (5, .pointer (some ⟨g3, 0, none⟩)), (6, .pointer (some ⟨g4, 0, none⟩)), (7, .pointer (some ⟨g5, 0, none⟩)), (8, .pointer (some ⟨g6, 0, none⟩)), (9, .int .i64 3), (10, .int .u64 ((bt k2x0 : Nat) : Int))]) (fun k2x0 => [(g2, 71, (pcs 0 0 false)), (g3, 97, (fcs m)), (g4, 97, (fcs u.val)), (g5, 97, (fcs v.val)), (g6, 126, (tcs ((bitJ m u v (0 + k2x0)).x.val) ((bitJ m u v (0 + k2x0)).y.val) ((bitJ m u v (0 + k2x0)).z.val)))]) [true, true, true, true, true] (M := [(g2, 71, (pcs 0 0 false)), (g3, 97, (fcs m)), (g4, 97, (fcs u.val)), (g5, 97, (fcs v.val)), (g6, 126, (tcs 0 0 0))]) (all_cons kR (all_cons kR (all_cons kR (all_cons kR (all_cons kR (all_cons kR (all_cons kR all_nil))))))) kR (bcons rfl (bcons rfl (bcons rfl (bcons rfl (bcons rfl rfl))))) (fun k2x0 hk2x0 => ?_)
 refine Sy.seq <| sC ?_
 refine sP (.int .u64 ((bt k2x0 : Nat) : Int)) ?_
 obtain ⟨b1, hb1⟩ : ∃ z : Bool, z = decide (k2x0 < 64) := ⟨_, rfl⟩
 refine sS (.bool b1) (Quiet.pure (exec_int .gtr _ _ _ .u64 _ _ _ rfl rfl rfl (int_gtr _ _ _ _ _ (by rw [hb1]; exact decide_eq_decide.2 (by rw [← bt_pos]; omega))))) ?_
 refine sG ?_
 cases b1
 ·have lb1 : ¬ (k2x0 < 64) := of_decide_eq_false hb1.symm
  refine sU <| Sy.exit <| Sy.then_exit <| Sy.then_exit ?_
  obtain rfl : k2x0 = 64 := by omega
  refine Sy.in_exit <| Sy.in_ <| Sy.then_ <| Sy.region ?_
  refine sP (.int .i64 3) <| sP (.int .i64 2) <| sP (.int .i64 2) ?_
  refine Sy.nil <| Sy.again ?_
  refine Sy.tidyR (G := [(4, .pointer (some ⟨g2, 0, none⟩)), (5, .pointer (some ⟨g3, 0, none⟩)), (6, .pointer (some ⟨g4, 0, none⟩)), (7, .pointer (some ⟨g5, 0, none⟩)), (8, .pointer (some ⟨g6, 0, none⟩)), (9, .int .i64 2)]) (M := [(g2, 71, (pcs 0 0 false)), (g3, 97, (fcs m)), (g4, 97, (fcs u.val)), (g5, 97, (fcs v.val)), (g6, 126, (tcs ((bitJ m u v (0 + 64)).x.val) ((bitJ m u v (0 + 64)).y.val) ((bitJ m u v (0 + 64)).z.val)))]) [true, true, true, true, true] kR (all_cons kR (all_cons kR (all_cons kR (all_cons kR (all_cons kR (all_cons kR all_nil)))))) ?_
  refine Sy.round <| Sy.seq <| sC ?_
  refine sP (.int .i64 2) <| sP (.bool true) ?_
  refine sG <| sT <| Sy.skip <| Sy.then_ <| Sy.seq <| Sy.block <| sC ?_
  refine sP (.int .u64 9223372036854775808) ?_
  refine sG <| Sy.block ?_
  refine Sy.loopK 64 (fun k2x1 => [(4, .pointer (some ⟨g2, 0, none⟩)), (5, .pointer (some ⟨g3, 0, none⟩)), (6, .pointer (some ⟨g4, 0, none⟩)), (7, .pointer (some ⟨g5, 0, none⟩)), (8, .pointer (some ⟨g6, 0, none⟩)), (9, .int .i64 2), (10, .int .u64 ((bt k2x1 : Nat) : Int))]) (fun k2x1 => [(g2, 71, (pcs 0 0 false)), (g3, 97, (fcs m)), (g4, 97, (fcs u.val)), (g5, 97, (fcs v.val)), (g6, 126, (tcs ((bitJ m u v (64 + k2x1)).x.val) ((bitJ m u v (64 + k2x1)).y.val) ((bitJ m u v (64 + k2x1)).z.val)))]) [true, true, true, true, true] (M := [(g2, 71, (pcs 0 0 false)), (g3, 97, (fcs m)), (g4, 97, (fcs u.val)), (g5, 97, (fcs v.val)), (g6, 126, (tcs ((bitJ m u v (0 + 64)).x.val) ((bitJ m u v (0 + 64)).y.val) ((bitJ m u v (0 + 64)).z.val)))]) (all_cons kR (all_cons kR (all_cons kR (all_cons kR (all_cons kR (all_cons kR (all_cons kR all_nil))))))) kR (bcons rfl (bcons rfl (bcons rfl (bcons rfl (bcons rfl rfl))))) (fun k2x1 hk2x1 => ?_)
  refine Sy.seq <| sC ?_
  refine sP (.int .u64 ((bt k2x1 : Nat) : Int)) ?_
  obtain ⟨b2, hb2⟩ : ∃ z : Bool, z = decide (k2x1 < 64) := ⟨_, rfl⟩
  refine sS (.bool b2) (Quiet.pure (exec_int .gtr _ _ _ .u64 _ _ _ rfl rfl rfl (int_gtr _ _ _ _ _ (by rw [hb2]; exact decide_eq_decide.2 (by rw [← bt_pos]; omega))))) ?_
  refine sG ?_
  cases b2
  ·have lb2 : ¬ (k2x1 < 64) := of_decide_eq_false hb2.symm
   refine sU <| Sy.exit <| Sy.then_exit <| Sy.then_exit ?_
   obtain rfl : k2x1 = 64 := by omega
   refine Sy.in_exit <| Sy.in_ <| Sy.then_ <| Sy.region ?_
   refine sP (.int .i64 2) <| sP (.int .i64 1) <| sP (.int .i64 1) ?_
   refine Sy.nil <| Sy.again ?_
   refine Sy.tidyR (G := [(4, .pointer (some ⟨g2, 0, none⟩)), (5, .pointer (some ⟨g3, 0, none⟩)), (6, .pointer (some ⟨g4, 0, none⟩)), (7, .pointer (some ⟨g5, 0, none⟩)), (8, .pointer (some ⟨g6, 0, none⟩)), (9, .int .i64 1)]) (M := [(g2, 71, (pcs 0 0 false)), (g3, 97, (fcs m)), (g4, 97, (fcs u.val)), (g5, 97, (fcs v.val)), (g6, 126, (tcs ((bitJ m u v (64 + 64)).x.val) ((bitJ m u v (64 + 64)).y.val) ((bitJ m u v (64 + 64)).z.val)))]) [true, true, true, true, true] kR (all_cons kR (all_cons kR (all_cons kR (all_cons kR (all_cons kR (all_cons kR all_nil)))))) ?_
   refine Sy.round <| Sy.seq <| sC ?_
   refine sP (.int .i64 1) <| sP (.bool true) ?_
   refine sG <| sT <| Sy.skip <| Sy.then_ <| Sy.seq <| Sy.block <| sC ?_
   refine sP (.int .u64 9223372036854775808) ?_
   refine sG <| Sy.block ?_
   refine Sy.loopK 64 (fun k2x2 => [(4, .pointer (some ⟨g2, 0, none⟩)), (5, .pointer (some ⟨g3, 0, none⟩)), (6, .pointer (some ⟨g4, 0, none⟩)), (7, .pointer (some ⟨g5, 0, none⟩)), (8, .pointer (some ⟨g6, 0, none⟩)), (9, .int .i64 1), (10, .int .u64 ((bt k2x2 : Nat) : Int))]) (fun k2x2 => [(g2, 71, (pcs 0 0 false)), (g3, 97, (fcs m)), (g4, 97, (fcs u.val)), (g5, 97, (fcs v.val)), (g6, 126, (tcs ((bitJ m u v (128 + k2x2)).x.val) ((bitJ m u v (128 + k2x2)).y.val) ((bitJ m u v (128 + k2x2)).z.val)))]) [true, true, true, true, true] (M := [(g2, 71, (pcs 0 0 false)), (g3, 97, (fcs m)), (g4, 97, (fcs u.val)), (g5, 97, (fcs v.val)), (g6, 126, (tcs ((bitJ m u v (64 + 64)).x.val) ((bitJ m u v (64 + 64)).y.val) ((bitJ m u v (64 + 64)).z.val)))]) (all_cons kR (all_cons kR (all_cons kR (all_cons kR (all_cons kR (all_cons kR (all_cons kR all_nil))))))) kR (bcons rfl (bcons rfl (bcons rfl (bcons rfl (bcons rfl rfl))))) (fun k2x2 hk2x2 => ?_)
   refine Sy.seq <| sC ?_
   refine sP (.int .u64 ((bt k2x2 : Nat) : Int)) ?_
   obtain ⟨b3, hb3⟩ : ∃ z : Bool, z = decide (k2x2 < 64) := ⟨_, rfl⟩
   refine sS (.bool b3) (Quiet.pure (exec_int .gtr _ _ _ .u64 _ _ _ rfl rfl rfl (int_gtr _ _ _ _ _ (by rw [hb3]; exact decide_eq_decide.2 (by rw [← bt_pos]; omega))))) ?_
   refine sG ?_
   cases b3
   ·have lb3 : ¬ (k2x2 < 64) := of_decide_eq_false hb3.symm
    refine sU <| Sy.exit <| Sy.then_exit <| Sy.then_exit ?_
    obtain rfl : k2x2 = 64 := by omega
    refine Sy.in_exit <| Sy.in_ <| Sy.then_ <| Sy.region ?_
    refine sP (.int .i64 1) <| sP (.int .i64 0) <| sP (.int .i64 0) ?_
    refine Sy.nil <| Sy.again ?_
    refine Sy.tidyR (G := [(4, .pointer (some ⟨g2, 0, none⟩)), (5, .pointer (some ⟨g3, 0, none⟩)), (6, .pointer (some ⟨g4, 0, none⟩)), (7, .pointer (some ⟨g5, 0, none⟩)), (8, .pointer (some ⟨g6, 0, none⟩)), (9, .int .i64 0)]) (M := [(g2, 71, (pcs 0 0 false)), (g3, 97, (fcs m)), (g4, 97, (fcs u.val)), (g5, 97, (fcs v.val)), (g6, 126, (tcs ((bitJ m u v (128 + 64)).x.val) ((bitJ m u v (128 + 64)).y.val) ((bitJ m u v (128 + 64)).z.val)))]) [true, true, true, true, true] kR (all_cons kR (all_cons kR (all_cons kR (all_cons kR (all_cons kR (all_cons kR all_nil)))))) ?_
    refine Sy.round <| Sy.seq <| sC ?_
    refine sP (.int .i64 0) <| sP (.bool true) ?_
    refine sG <| sT <| Sy.skip <| Sy.then_ <| Sy.seq <| Sy.block <| sC ?_
    refine sP (.int .u64 9223372036854775808) ?_
    refine sG <| Sy.block ?_
    refine Sy.loopK 64 (fun k2x3 => [(4, .pointer (some ⟨g2, 0, none⟩)), (5, .pointer (some ⟨g3, 0, none⟩)), (6, .pointer (some ⟨g4, 0, none⟩)), (7, .pointer (some ⟨g5, 0, none⟩)), (8, .pointer (some ⟨g6, 0, none⟩)), (9, .int .i64 0), (10, .int .u64 ((bt k2x3 : Nat) : Int))]) (fun k2x3 => [(g2, 71, (pcs 0 0 false)), (g3, 97, (fcs m)), (g4, 97, (fcs u.val)), (g5, 97, (fcs v.val)), (g6, 126, (tcs ((bitJ m u v (192 + k2x3)).x.val) ((bitJ m u v (192 + k2x3)).y.val) ((bitJ m u v (192 + k2x3)).z.val)))]) [true, true, true, true, true] (M := [(g2, 71, (pcs 0 0 false)), (g3, 97, (fcs m)), (g4, 97, (fcs u.val)), (g5, 97, (fcs v.val)), (g6, 126, (tcs ((bitJ m u v (128 + 64)).x.val) ((bitJ m u v (128 + 64)).y.val) ((bitJ m u v (128 + 64)).z.val)))]) (all_cons kR (all_cons kR (all_cons kR (all_cons kR (all_cons kR (all_cons kR (all_cons kR all_nil))))))) kR (bcons rfl (bcons rfl (bcons rfl (bcons rfl (bcons rfl rfl))))) (fun k2x3 hk2x3 => ?_)
    refine Sy.seq <| sC ?_
    refine sP (.int .u64 ((bt k2x3 : Nat) : Int)) ?_
    obtain ⟨b4, hb4⟩ : ∃ z : Bool, z = decide (k2x3 < 64) := ⟨_, rfl⟩
    refine sS (.bool b4) (Quiet.pure (exec_int .gtr _ _ _ .u64 _ _ _ rfl rfl rfl (int_gtr _ _ _ _ _ (by rw [hb4]; exact decide_eq_decide.2 (by rw [← bt_pos]; omega))))) ?_
    refine sG ?_
    cases b4
    ·have lb4 : ¬ (k2x3 < 64) := of_decide_eq_false hb4.symm
     refine sU <| Sy.exit <| Sy.then_exit <| Sy.then_exit ?_
     obtain rfl : k2x3 = 64 := by omega
     refine Sy.in_exit <| Sy.in_ <| Sy.then_ <| Sy.region ?_
     refine sP (.int .i64 0) <| sP (.int .i64 (-1)) <| sP (.int .i64 (-1)) ?_
     refine Sy.nil <| Sy.again ?_
     refine Sy.tidyR (G := [(4, .pointer (some ⟨g2, 0, none⟩)), (5, .pointer (some ⟨g3, 0, none⟩)), (6, .pointer (some ⟨g4, 0, none⟩)), (7, .pointer (some ⟨g5, 0, none⟩)), (8, .pointer (some ⟨g6, 0, none⟩)), (9, .int .i64 (-1))]) (M := [(g2, 71, (pcs 0 0 false)), (g3, 97, (fcs m)), (g4, 97, (fcs u.val)), (g5, 97, (fcs v.val)), (g6, 126, (tcs ((bitJ m u v (192 + 64)).x.val) ((bitJ m u v (192 + 64)).y.val) ((bitJ m u v (192 + 64)).z.val)))]) [true, true, true, true, true] kR (all_cons kR (all_cons kR (all_cons kR (all_cons kR (all_cons kR (all_cons kR all_nil)))))) ?_
     refine Sy.round <| Sy.seq <| sC ?_
     refine sP (.int .i64 (-1)) <| sP (.bool false) ?_
     refine sG <| sU <| Sy.exit <| Sy.then_exit <| Sy.then_exit <| Sy.in_exit <| Sy.then_ <| Sy.seq <| sC ?_
     refine sP (.pointer (some ⟨g6, 8, none⟩)) <| sS (fv ((bitJ m u v (192 + 64)).z.val)) (qL 4 g6 8 4 126 97 (tcs ((bitJ m u v (192 + 64)).x.val) ((bitJ m u v (192 + 64)).y.val) ((bitJ m u v (192 + 64)).z.val)) rfl Tryz.underlying97) <| sP (fv 0) ?_
     obtain ⟨b5, hb5⟩ : ∃ z : Bool, z = decide ((bitJ m u v (192 + 64)).z.val = 0) := ⟨_, rfl⟩
     refine sS (.bool b5) (Quiet.pure (fun w => by rw [hb5]; exact eql_num w _ _ _ _ _ _ rfl rfl rfl lK lK)) ?_
     refine sG ?_
     cases b5
     ·have eb5 : (bitJ m u v (192 + 64)).z ≠ (0 : Fp) := fun e => of_decide_eq_false hb5.symm (congrArg Fin.val e)
      refine sU <| Sy.skip ?_
      refine sR (fun j => j == 5) ?_
      refine sD 0 rfl (.agg modcs) (qF 54 #[] (refP_any)) <| sZ 1 rfl (.pointer (some ⟨g6, 8, none⟩)) <| sD 2 rfl (fv ((bitJ m u v (192 + 64)).z.val)) (qL 4 g6 8 4 126 97 (tcs ((bitJ m u v (192 + 64)).x.val) ((bitJ m u v (192 + 64)).y.val) ((bitJ m u v (192 + 64)).z.val)) rfl Tryz.underlying97) ?_
      obtain ⟨z1, hz1⟩ : ∃ z : Fp, z = finv (bitJ m u v (192 + 64)).z := ⟨_, rfl⟩
      refine sD 3 rfl (fv z1.val) (qF 81 #[.agg modcs, fv ((bitJ m u v (192 + 64)).z.val)] (fun w => by rw [hz1]; exact refinv_c w (bitJ m u v (192 + 64)).z)) ?_
      refine sO 4 rfl 97 (fcs 0) (fun g7 => ?_)
      refine sX 5 rfl 5 g7 97 (fcs 0) (fcs z1.val) (wS 0 97 (fcs z1.val) rfl) ?_
      refine sE ?_
      refine sB ?_
      refine sS (fv z1.val) (qL 5 g7 0 4 97 97 (fcs z1.val) rfl Tryz.underlying97) <| sS (fv z1.val) (qL 5 g7 0 4 97 97 (fcs z1.val) rfl Tryz.underlying97) ?_
      obtain ⟨z2, hz2⟩ : ∃ z : Fp, z = z1 * z1 := ⟨_, rfl⟩
      refine sS (fv z2.val) (qF 82 #[fv z1.val, fv z1.val] (fun w => by rw [hz2]; exact mulR_c w z1 z1)) ?_
      refine sM 97 (fcs 0) (fun g8 => ?_)
      refine sW 6 g8 97 (fcs 0) (fcs z2.val) (wS 0 97 (fcs z2.val) rfl) ?_
      refine sH (fun j => j == 11) ?_
      refine sZ 0 rfl (.pointer (some ⟨g6, 0, none⟩)) <| sD 1 rfl (fv ((bitJ m u v (192 + 64)).x.val)) (qL 4 g6 0 4 126 97 (tcs ((bitJ m u v (192 + 64)).x.val) ((bitJ m u v (192 + 64)).y.val) ((bitJ m u v (192 + 64)).z.val)) rfl Tryz.underlying97) <| sD 2 rfl (fv z2.val) (qL 6 g8 0 4 97 97 (fcs z2.val) rfl Tryz.underlying97) ?_
      obtain ⟨z3, hz3⟩ : ∃ z : Fp, z = (bitJ m u v (192 + 64)).x * z2 := ⟨_, rfl⟩
      refine sD 3 rfl (fv z3.val) (qF 82 #[fv ((bitJ m u v (192 + 64)).x.val), fv z2.val] (fun w => by rw [hz3]; exact mulR_c w (bitJ m u v (192 + 64)).x z2)) <| sZ 4 rfl (.pointer (some ⟨g6, 4, none⟩)) <| sD 5 rfl (fv ((bitJ m u v (192 + 64)).y.val)) (qL 4 g6 4 4 126 97 (tcs ((bitJ m u v (192 + 64)).x.val) ((bitJ m u v (192 + 64)).y.val) ((bitJ m u v (192 + 64)).z.val)) rfl Tryz.underlying97) <| sD 6 rfl (fv z2.val) (qL 6 g8 0 4 97 97 (fcs z2.val) rfl Tryz.underlying97) <| sD 7 rfl (fv z1.val) (qL 5 g7 0 4 97 97 (fcs z1.val) rfl Tryz.underlying97) ?_
      obtain ⟨z4, hz4⟩ : ∃ z : Fp, z = z2 * z1 := ⟨_, rfl⟩
      refine sD 8 rfl (fv z4.val) (qF 82 #[fv z2.val, fv z1.val] (fun w => by rw [hz4]; exact mulR_c w z2 z1)) ?_
      obtain ⟨z5, hz5⟩ : ∃ z : Fp, z = (bitJ m u v (192 + 64)).y * z4 := ⟨_, rfl⟩
      refine sD 9 rfl (fv z5.val) (qF 82 #[fv ((bitJ m u v (192 + 64)).y.val), fv z4.val] (fun w => by rw [hz5]; exact mulR_c w (bitJ m u v (192 + 64)).y z4)) <| sD 10 rfl (pv z3.val z5.val false) (qF 83 #[fv z3.val, fv z5.val] (fun w => pointR_c w z3.val z5.val lK lK)) <| sX 11 rfl 0 g2 71 (pcs 0 0 false) (pcs z3.val z5.val false) (wS 0 71 (pcs z3.val z5.val false) rfl) ?_
      refine sI ?_
      refine Sy.ret ?_
      rw [show (ptv Q : Value) = pv z3.val z5.val false from by rw [hQ]; unfold ptJ; rw [if_neg eb5]; unfold ptv; simp only [hz5, hz4, hz3, hz2, hz1]]
      exact rC (v := pv z3.val z5.val false) 71 g2 0 (pcs z3.val z5.val false) rfl Tryz.underlying71
     ·have eb5 : (bitJ m u v (192 + 64)).z = (0 : Fp) := Fin.ext (of_decide_eq_true hb5.symm)
      refine sT <| sC ?_
      refine sS (pv 0 0 true) (qF 80 #[] (zeroR_c)) <| sW 0 g2 71 (pcs 0 0 false) (pcs 0 0 true) (wS 0 71 (pcs 0 0 true) rfl) ?_
      refine sG <| Sy.ret <| Sy.then_ret ?_
      rw [show (ptv Q : Value) = pv 0 0 true from by rw [hQ]; unfold ptJ; rw [if_pos eb5]; rfl]
      exact rC (v := pv 0 0 true) 71 g2 0 (pcs 0 0 true) rfl Tryz.underlying71
    ·have lb4 : k2x3 < 64 := of_decide_eq_true hb4.symm
     refine sT <| Sy.skip <| Sy.then_ <| Sy.seq <| Sy.block <| sC ?_
     refine sS (tv ((bitJ m u v (192 + k2x3)).x.val) ((bitJ m u v (192 + k2x3)).y.val) ((bitJ m u v (192 + k2x3)).z.val)) (qL 4 g6 0 12 126 126 (tcs ((bitJ m u v (192 + k2x3)).x.val) ((bitJ m u v (192 + k2x3)).y.val) ((bitJ m u v (192 + k2x3)).z.val)) rfl Tryz.underlying126) ?_
     obtain ⟨j1, hj1⟩ : ∃ z : J, z = dblR (bitJ m u v (192 + k2x3)) := ⟨_, rfl⟩
     refine sS (tv j1.x.val j1.y.val j1.z.val) (qF 78 #[tv ((bitJ m u v (192 + k2x3)).x.val) ((bitJ m u v (192 + k2x3)).y.val) ((bitJ m u v (192 + k2x3)).z.val)] (fun w => by rw [hj1]; exact twiceR_c w (bitJ m u v (192 + k2x3)))) <| sW 4 g6 126 (tcs ((bitJ m u v (192 + k2x3)).x.val) ((bitJ m u v (192 + k2x3)).y.val) ((bitJ m u v (192 + k2x3)).z.val)) (tcs j1.x.val j1.y.val j1.z.val) (wS 0 126 (tcs j1.x.val j1.y.val j1.z.val) rfl) ?_
     refine sA ?_
     refine sP (.int .i64 0) <| sP (.pointer (some ⟨g3, 0, none⟩)) <| sS (qv (m % 18446744073709551616)) (qC 1 g3 0 97 22 (fcs m) rfl Tryz.underlying22) <| sP (.int .u64 ((bt k2x3 : Nat) : Int)) <| sS (.int .u64 (((m % 18446744073709551616) &&& bt k2x3 : Nat) : Int)) (Quiet.pure (exec_and _ _ _ _ _ (m % 18446744073709551616) (bt k2x3) (Nat.mod_lt _ (by decide)) (bt_le _) rfl rfl rfl)) ?_
     obtain ⟨b6, hb6⟩ : ∃ z : Bool, z = decide ((m % 18446744073709551616) &&& bt k2x3 ≠ 0) := ⟨_, rfl⟩
     refine sS (.bool b6) (Quiet.pure (exec_int .neq _ _ _ .u64 _ _ _ rfl rfl rfl (int_neq _ _ _ _ _ (by rw [hb6]; exact decide_eq_decide.2 (by omega))))) ?_
     refine sG ?_
     cases b6
     ·have lb6 : ¬ ((m % 18446744073709551616) &&& bt k2x3 ≠ 0) := of_decide_eq_false hb6.symm
      have fb6 : ¬ m / 2 ^ (255 - (192 + k2x3)) % 2 = 1 := by
       have q := and_bt (m % 18446744073709551616) k2x3 (by omega)
       have q2 := word_bit0 m k2x3 (by omega)
       rw [show 64 * 0 + (63 - k2x3) = 255 - (192 + k2x3) by omega] at q2
       rw [← q2]
       exact fun t => lb6 (q.2 t)
      refine sU <| Sy.skip <| Sy.in_ <| Sy.then_ <| Sy.region ?_
      refine sP (.int .u64 ((bt k2x3 : Nat) : Int)) <| sS (.int .u64 ((bt (k2x3 + 1) : Nat) : Int)) (Quiet.pure (exec_int .quo _ _ _ .u64 _ _ _ rfl rfl rfl (int_quo _ _ _ _ _ (by decide) (by rw [← bt_next]; have := bt_le k2x3; rw [show ((bt k2x3 : Nat) : Int).tdiv 2 = ((bt k2x3 / 2 : Nat) : Int) from rfl]; exact wrap_u64 (by omega) (by omega))))) <| sP (.int .u64 ((bt (k2x3 + 1) : Nat) : Int)) ?_
      refine Sy.nil ?_
      exact Sy.againK [true, true, true, true, true] (M := [(g2, 71, (pcs 0 0 false)), (g3, 97, (fcs m)), (g4, 97, (fcs u.val)), (g5, 97, (fcs v.val)), (g6, 126, (tcs j1.x.val j1.y.val j1.z.val))]) (by omega) (all_cons kR (all_cons kR (all_cons kR (all_cons kR (all_cons kR (all_cons kR (all_cons kR all_nil))))))) kR (bcons rfl (bcons rfl (bcons rfl (bcons rfl (bcons (beq (by rw [hj1, ← bitJ_no fb6]; rfl)) rfl)))))
     ·have lb6 : (m % 18446744073709551616) &&& bt k2x3 ≠ 0 := of_decide_eq_true hb6.symm
      have fb6 :  m / 2 ^ (255 - (192 + k2x3)) % 2 = 1 := by
       have q := and_bt (m % 18446744073709551616) k2x3 (by omega)
       have q2 := word_bit0 m k2x3 (by omega)
       rw [show 64 * 0 + (63 - k2x3) = 255 - (192 + k2x3) by omega] at q2
       rw [← q2]
       exact q.1 lb6
      refine sT <| Sy.region ?_
      refine sS (tv j1.x.val j1.y.val j1.z.val) (qL 4 g6 0 12 126 126 (tcs j1.x.val j1.y.val j1.z.val) rfl Tryz.underlying126) <| sS (fv u.val) (qL 2 g4 0 4 97 97 (fcs u.val) rfl Tryz.underlying97) <| sS (fv v.val) (qL 3 g5 0 4 97 97 (fcs v.val) rfl Tryz.underlying97) ?_
      obtain ⟨j2, hj2⟩ : ∃ z : J, z = plusR j1 u v := ⟨_, rfl⟩
      refine sS (tv j2.x.val j2.y.val j2.z.val) (qF 79 #[tv j1.x.val j1.y.val j1.z.val, fv u.val, fv v.val] (fun w => by rw [hj2]; exact plusR_c w j1 u v)) <| sW 4 g6 126 (tcs j1.x.val j1.y.val j1.z.val) (tcs j2.x.val j2.y.val j2.z.val) (wS 0 126 (tcs j2.x.val j2.y.val j2.z.val) rfl) ?_
      refine Sy.nil <| Sy.in_ <| Sy.then_ <| Sy.region ?_
      refine sP (.int .u64 ((bt k2x3 : Nat) : Int)) <| sS (.int .u64 ((bt (k2x3 + 1) : Nat) : Int)) (Quiet.pure (exec_int .quo _ _ _ .u64 _ _ _ rfl rfl rfl (int_quo _ _ _ _ _ (by decide) (by rw [← bt_next]; have := bt_le k2x3; rw [show ((bt k2x3 : Nat) : Int).tdiv 2 = ((bt k2x3 / 2 : Nat) : Int) from rfl]; exact wrap_u64 (by omega) (by omega))))) <| sP (.int .u64 ((bt (k2x3 + 1) : Nat) : Int)) ?_
      refine Sy.nil ?_
      exact Sy.againK [true, true, true, true, true] (M := [(g2, 71, (pcs 0 0 false)), (g3, 97, (fcs m)), (g4, 97, (fcs u.val)), (g5, 97, (fcs v.val)), (g6, 126, (tcs j2.x.val j2.y.val j2.z.val))]) (by omega) (all_cons kR (all_cons kR (all_cons kR (all_cons kR (all_cons kR (all_cons kR (all_cons kR all_nil))))))) kR (bcons rfl (bcons rfl (bcons rfl (bcons rfl (bcons (beq (by rw [hj2, hj1, ← bitJ_yes fb6]; rfl)) rfl)))))
   ·have lb3 : k2x2 < 64 := of_decide_eq_true hb3.symm
    refine sT <| Sy.skip <| Sy.then_ <| Sy.seq <| Sy.block <| sC ?_
    refine sS (tv ((bitJ m u v (128 + k2x2)).x.val) ((bitJ m u v (128 + k2x2)).y.val) ((bitJ m u v (128 + k2x2)).z.val)) (qL 4 g6 0 12 126 126 (tcs ((bitJ m u v (128 + k2x2)).x.val) ((bitJ m u v (128 + k2x2)).y.val) ((bitJ m u v (128 + k2x2)).z.val)) rfl Tryz.underlying126) ?_
    obtain ⟨j3, hj3⟩ : ∃ z : J, z = dblR (bitJ m u v (128 + k2x2)) := ⟨_, rfl⟩
    refine sS (tv j3.x.val j3.y.val j3.z.val) (qF 78 #[tv ((bitJ m u v (128 + k2x2)).x.val) ((bitJ m u v (128 + k2x2)).y.val) ((bitJ m u v (128 + k2x2)).z.val)] (fun w => by rw [hj3]; exact twiceR_c w (bitJ m u v (128 + k2x2)))) <| sW 4 g6 126 (tcs ((bitJ m u v (128 + k2x2)).x.val) ((bitJ m u v (128 + k2x2)).y.val) ((bitJ m u v (128 + k2x2)).z.val)) (tcs j3.x.val j3.y.val j3.z.val) (wS 0 126 (tcs j3.x.val j3.y.val j3.z.val) rfl) ?_
    refine sA ?_
    refine sP (.int .i64 1) <| sP (.pointer (some ⟨g3, 1, none⟩)) <| sS (qv (m / 18446744073709551616 % 18446744073709551616)) (qC 1 g3 1 97 22 (fcs m) rfl Tryz.underlying22) <| sP (.int .u64 ((bt k2x2 : Nat) : Int)) <| sS (.int .u64 (((m / 18446744073709551616 % 18446744073709551616) &&& bt k2x2 : Nat) : Int)) (Quiet.pure (exec_and _ _ _ _ _ (m / 18446744073709551616 % 18446744073709551616) (bt k2x2) (Nat.mod_lt _ (by decide)) (bt_le _) rfl rfl rfl)) ?_
    obtain ⟨b7, hb7⟩ : ∃ z : Bool, z = decide ((m / 18446744073709551616 % 18446744073709551616) &&& bt k2x2 ≠ 0) := ⟨_, rfl⟩
    refine sS (.bool b7) (Quiet.pure (exec_int .neq _ _ _ .u64 _ _ _ rfl rfl rfl (int_neq _ _ _ _ _ (by rw [hb7]; exact decide_eq_decide.2 (by omega))))) ?_
    refine sG ?_
    cases b7
    ·have lb7 : ¬ ((m / 18446744073709551616 % 18446744073709551616) &&& bt k2x2 ≠ 0) := of_decide_eq_false hb7.symm
     have fb7 : ¬ m / 2 ^ (255 - (128 + k2x2)) % 2 = 1 := by
      have q := and_bt (m / 18446744073709551616 % 18446744073709551616) k2x2 (by omega)
      have q2 := word_bit m 1 k2x2 (by omega)
      rw [show 64 * 1 + (63 - k2x2) = 255 - (128 + k2x2) by omega] at q2
      rw [← q2]
      exact fun t => lb7 (q.2 t)
     refine sU <| Sy.skip <| Sy.in_ <| Sy.then_ <| Sy.region ?_
     refine sP (.int .u64 ((bt k2x2 : Nat) : Int)) <| sS (.int .u64 ((bt (k2x2 + 1) : Nat) : Int)) (Quiet.pure (exec_int .quo _ _ _ .u64 _ _ _ rfl rfl rfl (int_quo _ _ _ _ _ (by decide) (by rw [← bt_next]; have := bt_le k2x2; rw [show ((bt k2x2 : Nat) : Int).tdiv 2 = ((bt k2x2 / 2 : Nat) : Int) from rfl]; exact wrap_u64 (by omega) (by omega))))) <| sP (.int .u64 ((bt (k2x2 + 1) : Nat) : Int)) ?_
     refine Sy.nil ?_
     exact Sy.againK [true, true, true, true, true] (M := [(g2, 71, (pcs 0 0 false)), (g3, 97, (fcs m)), (g4, 97, (fcs u.val)), (g5, 97, (fcs v.val)), (g6, 126, (tcs j3.x.val j3.y.val j3.z.val))]) (by omega) (all_cons kR (all_cons kR (all_cons kR (all_cons kR (all_cons kR (all_cons kR (all_cons kR all_nil))))))) kR (bcons rfl (bcons rfl (bcons rfl (bcons rfl (bcons (beq (by rw [hj3, ← bitJ_no fb7]; rfl)) rfl)))))
    ·have lb7 : (m / 18446744073709551616 % 18446744073709551616) &&& bt k2x2 ≠ 0 := of_decide_eq_true hb7.symm
     have fb7 :  m / 2 ^ (255 - (128 + k2x2)) % 2 = 1 := by
      have q := and_bt (m / 18446744073709551616 % 18446744073709551616) k2x2 (by omega)
      have q2 := word_bit m 1 k2x2 (by omega)
      rw [show 64 * 1 + (63 - k2x2) = 255 - (128 + k2x2) by omega] at q2
      rw [← q2]
      exact q.1 lb7
     refine sT <| Sy.region ?_
     refine sS (tv j3.x.val j3.y.val j3.z.val) (qL 4 g6 0 12 126 126 (tcs j3.x.val j3.y.val j3.z.val) rfl Tryz.underlying126) <| sS (fv u.val) (qL 2 g4 0 4 97 97 (fcs u.val) rfl Tryz.underlying97) <| sS (fv v.val) (qL 3 g5 0 4 97 97 (fcs v.val) rfl Tryz.underlying97) ?_
     obtain ⟨j4, hj4⟩ : ∃ z : J, z = plusR j3 u v := ⟨_, rfl⟩
     refine sS (tv j4.x.val j4.y.val j4.z.val) (qF 79 #[tv j3.x.val j3.y.val j3.z.val, fv u.val, fv v.val] (fun w => by rw [hj4]; exact plusR_c w j3 u v)) <| sW 4 g6 126 (tcs j3.x.val j3.y.val j3.z.val) (tcs j4.x.val j4.y.val j4.z.val) (wS 0 126 (tcs j4.x.val j4.y.val j4.z.val) rfl) ?_
     refine Sy.nil <| Sy.in_ <| Sy.then_ <| Sy.region ?_
     refine sP (.int .u64 ((bt k2x2 : Nat) : Int)) <| sS (.int .u64 ((bt (k2x2 + 1) : Nat) : Int)) (Quiet.pure (exec_int .quo _ _ _ .u64 _ _ _ rfl rfl rfl (int_quo _ _ _ _ _ (by decide) (by rw [← bt_next]; have := bt_le k2x2; rw [show ((bt k2x2 : Nat) : Int).tdiv 2 = ((bt k2x2 / 2 : Nat) : Int) from rfl]; exact wrap_u64 (by omega) (by omega))))) <| sP (.int .u64 ((bt (k2x2 + 1) : Nat) : Int)) ?_
     refine Sy.nil ?_
     exact Sy.againK [true, true, true, true, true] (M := [(g2, 71, (pcs 0 0 false)), (g3, 97, (fcs m)), (g4, 97, (fcs u.val)), (g5, 97, (fcs v.val)), (g6, 126, (tcs j4.x.val j4.y.val j4.z.val))]) (by omega) (all_cons kR (all_cons kR (all_cons kR (all_cons kR (all_cons kR (all_cons kR (all_cons kR all_nil))))))) kR (bcons rfl (bcons rfl (bcons rfl (bcons rfl (bcons (beq (by rw [hj4, hj3, ← bitJ_yes fb7]; rfl)) rfl)))))
  ·have lb2 : k2x1 < 64 := of_decide_eq_true hb2.symm
   refine sT <| Sy.skip <| Sy.then_ <| Sy.seq <| Sy.block <| sC ?_
   refine sS (tv ((bitJ m u v (64 + k2x1)).x.val) ((bitJ m u v (64 + k2x1)).y.val) ((bitJ m u v (64 + k2x1)).z.val)) (qL 4 g6 0 12 126 126 (tcs ((bitJ m u v (64 + k2x1)).x.val) ((bitJ m u v (64 + k2x1)).y.val) ((bitJ m u v (64 + k2x1)).z.val)) rfl Tryz.underlying126) ?_
   obtain ⟨j5, hj5⟩ : ∃ z : J, z = dblR (bitJ m u v (64 + k2x1)) := ⟨_, rfl⟩
   refine sS (tv j5.x.val j5.y.val j5.z.val) (qF 78 #[tv ((bitJ m u v (64 + k2x1)).x.val) ((bitJ m u v (64 + k2x1)).y.val) ((bitJ m u v (64 + k2x1)).z.val)] (fun w => by rw [hj5]; exact twiceR_c w (bitJ m u v (64 + k2x1)))) <| sW 4 g6 126 (tcs ((bitJ m u v (64 + k2x1)).x.val) ((bitJ m u v (64 + k2x1)).y.val) ((bitJ m u v (64 + k2x1)).z.val)) (tcs j5.x.val j5.y.val j5.z.val) (wS 0 126 (tcs j5.x.val j5.y.val j5.z.val) rfl) ?_
   refine sA ?_
   refine sP (.int .i64 2) <| sP (.pointer (some ⟨g3, 2, none⟩)) <| sS (qv (m / 340282366920938463463374607431768211456 % 18446744073709551616)) (qC 1 g3 2 97 22 (fcs m) rfl Tryz.underlying22) <| sP (.int .u64 ((bt k2x1 : Nat) : Int)) <| sS (.int .u64 (((m / 340282366920938463463374607431768211456 % 18446744073709551616) &&& bt k2x1 : Nat) : Int)) (Quiet.pure (exec_and _ _ _ _ _ (m / 340282366920938463463374607431768211456 % 18446744073709551616) (bt k2x1) (Nat.mod_lt _ (by decide)) (bt_le _) rfl rfl rfl)) ?_
   obtain ⟨b8, hb8⟩ : ∃ z : Bool, z = decide ((m / 340282366920938463463374607431768211456 % 18446744073709551616) &&& bt k2x1 ≠ 0) := ⟨_, rfl⟩
   refine sS (.bool b8) (Quiet.pure (exec_int .neq _ _ _ .u64 _ _ _ rfl rfl rfl (int_neq _ _ _ _ _ (by rw [hb8]; exact decide_eq_decide.2 (by omega))))) ?_
   refine sG ?_
   cases b8
   ·have lb8 : ¬ ((m / 340282366920938463463374607431768211456 % 18446744073709551616) &&& bt k2x1 ≠ 0) := of_decide_eq_false hb8.symm
    have fb8 : ¬ m / 2 ^ (255 - (64 + k2x1)) % 2 = 1 := by
     have q := and_bt (m / 340282366920938463463374607431768211456 % 18446744073709551616) k2x1 (by omega)
     have q2 := word_bit m 2 k2x1 (by omega)
     rw [show 64 * 2 + (63 - k2x1) = 255 - (64 + k2x1) by omega] at q2
     rw [← q2]
     exact fun t => lb8 (q.2 t)
    refine sU <| Sy.skip <| Sy.in_ <| Sy.then_ <| Sy.region ?_
    refine sP (.int .u64 ((bt k2x1 : Nat) : Int)) <| sS (.int .u64 ((bt (k2x1 + 1) : Nat) : Int)) (Quiet.pure (exec_int .quo _ _ _ .u64 _ _ _ rfl rfl rfl (int_quo _ _ _ _ _ (by decide) (by rw [← bt_next]; have := bt_le k2x1; rw [show ((bt k2x1 : Nat) : Int).tdiv 2 = ((bt k2x1 / 2 : Nat) : Int) from rfl]; exact wrap_u64 (by omega) (by omega))))) <| sP (.int .u64 ((bt (k2x1 + 1) : Nat) : Int)) ?_
    refine Sy.nil ?_
    exact Sy.againK [true, true, true, true, true] (M := [(g2, 71, (pcs 0 0 false)), (g3, 97, (fcs m)), (g4, 97, (fcs u.val)), (g5, 97, (fcs v.val)), (g6, 126, (tcs j5.x.val j5.y.val j5.z.val))]) (by omega) (all_cons kR (all_cons kR (all_cons kR (all_cons kR (all_cons kR (all_cons kR (all_cons kR all_nil))))))) kR (bcons rfl (bcons rfl (bcons rfl (bcons rfl (bcons (beq (by rw [hj5, ← bitJ_no fb8]; rfl)) rfl)))))
   ·have lb8 : (m / 340282366920938463463374607431768211456 % 18446744073709551616) &&& bt k2x1 ≠ 0 := of_decide_eq_true hb8.symm
    have fb8 :  m / 2 ^ (255 - (64 + k2x1)) % 2 = 1 := by
     have q := and_bt (m / 340282366920938463463374607431768211456 % 18446744073709551616) k2x1 (by omega)
     have q2 := word_bit m 2 k2x1 (by omega)
     rw [show 64 * 2 + (63 - k2x1) = 255 - (64 + k2x1) by omega] at q2
     rw [← q2]
     exact q.1 lb8
    refine sT <| Sy.region ?_
    refine sS (tv j5.x.val j5.y.val j5.z.val) (qL 4 g6 0 12 126 126 (tcs j5.x.val j5.y.val j5.z.val) rfl Tryz.underlying126) <| sS (fv u.val) (qL 2 g4 0 4 97 97 (fcs u.val) rfl Tryz.underlying97) <| sS (fv v.val) (qL 3 g5 0 4 97 97 (fcs v.val) rfl Tryz.underlying97) ?_
    obtain ⟨j6, hj6⟩ : ∃ z : J, z = plusR j5 u v := ⟨_, rfl⟩
    refine sS (tv j6.x.val j6.y.val j6.z.val) (qF 79 #[tv j5.x.val j5.y.val j5.z.val, fv u.val, fv v.val] (fun w => by rw [hj6]; exact plusR_c w j5 u v)) <| sW 4 g6 126 (tcs j5.x.val j5.y.val j5.z.val) (tcs j6.x.val j6.y.val j6.z.val) (wS 0 126 (tcs j6.x.val j6.y.val j6.z.val) rfl) ?_
    refine Sy.nil <| Sy.in_ <| Sy.then_ <| Sy.region ?_
    refine sP (.int .u64 ((bt k2x1 : Nat) : Int)) <| sS (.int .u64 ((bt (k2x1 + 1) : Nat) : Int)) (Quiet.pure (exec_int .quo _ _ _ .u64 _ _ _ rfl rfl rfl (int_quo _ _ _ _ _ (by decide) (by rw [← bt_next]; have := bt_le k2x1; rw [show ((bt k2x1 : Nat) : Int).tdiv 2 = ((bt k2x1 / 2 : Nat) : Int) from rfl]; exact wrap_u64 (by omega) (by omega))))) <| sP (.int .u64 ((bt (k2x1 + 1) : Nat) : Int)) ?_
    refine Sy.nil ?_
    exact Sy.againK [true, true, true, true, true] (M := [(g2, 71, (pcs 0 0 false)), (g3, 97, (fcs m)), (g4, 97, (fcs u.val)), (g5, 97, (fcs v.val)), (g6, 126, (tcs j6.x.val j6.y.val j6.z.val))]) (by omega) (all_cons kR (all_cons kR (all_cons kR (all_cons kR (all_cons kR (all_cons kR (all_cons kR all_nil))))))) kR (bcons rfl (bcons rfl (bcons rfl (bcons rfl (bcons (beq (by rw [hj6, hj5, ← bitJ_yes fb8]; rfl)) rfl)))))
 ·have lb1 : k2x0 < 64 := of_decide_eq_true hb1.symm
  refine sT <| Sy.skip <| Sy.then_ <| Sy.seq <| Sy.block <| sC ?_
  refine sS (tv ((bitJ m u v (0 + k2x0)).x.val) ((bitJ m u v (0 + k2x0)).y.val) ((bitJ m u v (0 + k2x0)).z.val)) (qL 4 g6 0 12 126 126 (tcs ((bitJ m u v (0 + k2x0)).x.val) ((bitJ m u v (0 + k2x0)).y.val) ((bitJ m u v (0 + k2x0)).z.val)) rfl Tryz.underlying126) ?_
  obtain ⟨j7, hj7⟩ : ∃ z : J, z = dblR (bitJ m u v (0 + k2x0)) := ⟨_, rfl⟩
  refine sS (tv j7.x.val j7.y.val j7.z.val) (qF 78 #[tv ((bitJ m u v (0 + k2x0)).x.val) ((bitJ m u v (0 + k2x0)).y.val) ((bitJ m u v (0 + k2x0)).z.val)] (fun w => by rw [hj7]; exact twiceR_c w (bitJ m u v (0 + k2x0)))) <| sW 4 g6 126 (tcs ((bitJ m u v (0 + k2x0)).x.val) ((bitJ m u v (0 + k2x0)).y.val) ((bitJ m u v (0 + k2x0)).z.val)) (tcs j7.x.val j7.y.val j7.z.val) (wS 0 126 (tcs j7.x.val j7.y.val j7.z.val) rfl) ?_
  refine sA ?_
  refine sP (.int .i64 3) <| sP (.pointer (some ⟨g3, 3, none⟩)) <| sS (qv (m / 6277101735386680763835789423207666416102355444464034512896 % 18446744073709551616)) (qC 1 g3 3 97 22 (fcs m) rfl Tryz.underlying22) <| sP (.int .u64 ((bt k2x0 : Nat) : Int)) <| sS (.int .u64 (((m / 6277101735386680763835789423207666416102355444464034512896 % 18446744073709551616) &&& bt k2x0 : Nat) : Int)) (Quiet.pure (exec_and _ _ _ _ _ (m / 6277101735386680763835789423207666416102355444464034512896 % 18446744073709551616) (bt k2x0) (Nat.mod_lt _ (by decide)) (bt_le _) rfl rfl rfl)) ?_
  obtain ⟨b9, hb9⟩ : ∃ z : Bool, z = decide ((m / 6277101735386680763835789423207666416102355444464034512896 % 18446744073709551616) &&& bt k2x0 ≠ 0) := ⟨_, rfl⟩
  refine sS (.bool b9) (Quiet.pure (exec_int .neq _ _ _ .u64 _ _ _ rfl rfl rfl (int_neq _ _ _ _ _ (by rw [hb9]; exact decide_eq_decide.2 (by omega))))) ?_
  refine sG ?_
  cases b9
  ·have lb9 : ¬ ((m / 6277101735386680763835789423207666416102355444464034512896 % 18446744073709551616) &&& bt k2x0 ≠ 0) := of_decide_eq_false hb9.symm
   have fb9 : ¬ m / 2 ^ (255 - (0 + k2x0)) % 2 = 1 := by
    have q := and_bt (m / 6277101735386680763835789423207666416102355444464034512896 % 18446744073709551616) k2x0 (by omega)
    have q2 := word_bit m 3 k2x0 (by omega)
    rw [show 64 * 3 + (63 - k2x0) = 255 - (0 + k2x0) by omega] at q2
    rw [← q2]
    exact fun t => lb9 (q.2 t)
   refine sU <| Sy.skip <| Sy.in_ <| Sy.then_ <| Sy.region ?_
   refine sP (.int .u64 ((bt k2x0 : Nat) : Int)) <| sS (.int .u64 ((bt (k2x0 + 1) : Nat) : Int)) (Quiet.pure (exec_int .quo _ _ _ .u64 _ _ _ rfl rfl rfl (int_quo _ _ _ _ _ (by decide) (by rw [← bt_next]; have := bt_le k2x0; rw [show ((bt k2x0 : Nat) : Int).tdiv 2 = ((bt k2x0 / 2 : Nat) : Int) from rfl]; exact wrap_u64 (by omega) (by omega))))) <| sP (.int .u64 ((bt (k2x0 + 1) : Nat) : Int)) ?_
   refine Sy.nil ?_
   exact Sy.againK [true, true, true, true, true] (M := [(g2, 71, (pcs 0 0 false)), (g3, 97, (fcs m)), (g4, 97, (fcs u.val)), (g5, 97, (fcs v.val)), (g6, 126, (tcs j7.x.val j7.y.val j7.z.val))]) (by omega) (all_cons kR (all_cons kR (all_cons kR (all_cons kR (all_cons kR (all_cons kR (all_cons kR all_nil))))))) kR (bcons rfl (bcons rfl (bcons rfl (bcons rfl (bcons (beq (by rw [hj7, ← bitJ_no fb9]; rfl)) rfl)))))
  ·have lb9 : (m / 6277101735386680763835789423207666416102355444464034512896 % 18446744073709551616) &&& bt k2x0 ≠ 0 := of_decide_eq_true hb9.symm
   have fb9 :  m / 2 ^ (255 - (0 + k2x0)) % 2 = 1 := by
    have q := and_bt (m / 6277101735386680763835789423207666416102355444464034512896 % 18446744073709551616) k2x0 (by omega)
    have q2 := word_bit m 3 k2x0 (by omega)
    rw [show 64 * 3 + (63 - k2x0) = 255 - (0 + k2x0) by omega] at q2
    rw [← q2]
    exact q.1 lb9
   refine sT <| Sy.region ?_
   refine sS (tv j7.x.val j7.y.val j7.z.val) (qL 4 g6 0 12 126 126 (tcs j7.x.val j7.y.val j7.z.val) rfl Tryz.underlying126) <| sS (fv u.val) (qL 2 g4 0 4 97 97 (fcs u.val) rfl Tryz.underlying97) <| sS (fv v.val) (qL 3 g5 0 4 97 97 (fcs v.val) rfl Tryz.underlying97) ?_
   obtain ⟨j8, hj8⟩ : ∃ z : J, z = plusR j7 u v := ⟨_, rfl⟩
   refine sS (tv j8.x.val j8.y.val j8.z.val) (qF 79 #[tv j7.x.val j7.y.val j7.z.val, fv u.val, fv v.val] (fun w => by rw [hj8]; exact plusR_c w j7 u v)) <| sW 4 g6 126 (tcs j7.x.val j7.y.val j7.z.val) (tcs j8.x.val j8.y.val j8.z.val) (wS 0 126 (tcs j8.x.val j8.y.val j8.z.val) rfl) ?_
   refine Sy.nil <| Sy.in_ <| Sy.then_ <| Sy.region ?_
   refine sP (.int .u64 ((bt k2x0 : Nat) : Int)) <| sS (.int .u64 ((bt (k2x0 + 1) : Nat) : Int)) (Quiet.pure (exec_int .quo _ _ _ .u64 _ _ _ rfl rfl rfl (int_quo _ _ _ _ _ (by decide) (by rw [← bt_next]; have := bt_le k2x0; rw [show ((bt k2x0 : Nat) : Int).tdiv 2 = ((bt k2x0 / 2 : Nat) : Int) from rfl]; exact wrap_u64 (by omega) (by omega))))) <| sP (.int .u64 ((bt (k2x0 + 1) : Nat) : Int)) ?_
   refine Sy.nil ?_
   exact Sy.againK [true, true, true, true, true] (M := [(g2, 71, (pcs 0 0 false)), (g3, 97, (fcs m)), (g4, 97, (fcs u.val)), (g5, 97, (fcs v.val)), (g6, 126, (tcs j8.x.val j8.y.val j8.z.val))]) (by omega) (all_cons kR (all_cons kR (all_cons kR (all_cons kR (all_cons kR (all_cons kR (all_cons kR all_nil))))))) kR (bcons rfl (bcons rfl (bcons rfl (bcons rfl (bcons (beq (by rw [hj8, hj7, ← bitJ_yes fb9]; rfl)) rfl)))))
theorem mulRe_any (w : World) (k x y : Nat) (i : Bool) (hk : k < K4) (hx : x < K4) (hy : y < K4) : Calls Tryz.prog 30 #[fv k, pv x y i] w (Gets w (ptv (Ec.nm finv (k % Sc.pM) (dec x y i)))) := by
 have o1 := dec_on x y i
 rcases h : dec x y i with _ | ⟨u, v⟩
 ·rw [Ec.nm_none]
  exact mulRe_none w k x y i hk hx hy h
 ·rw [h] at o1
  exact mulRe_some w k x y i hk hx hy u v h o1
end Go.Proofs.YtfhcpdbahbbmaaaGreatDoor.Cu

end
section
namespace Go.Proofs.YtfhcpdbahbbmaaaGreatDoor.Cu
open Go.RowKit Go.Proofs.YtfhcpdbahbbmaaaGreatDoor Go.Proofs.YtfhcpdbahbbmaaaGreatDoor.Sy
set_option maxRecDepth 100000
set_option maxHeartbeats 4000000

theorem own_cell {w : World} {g : Nat} {t : TypeId} {m : List UInt8} {sp : List Value} (hb : Blk w g t (m.map bv ++ sp).toArray) (j : Nat) (u : UInt8) (hj : m[j]? = some u) : w.cell? ⟨g, j, none⟩ = some (bv u) := by
 refine (hb.cell j).trans ?_
 have hl := (List.getElem?_eq_some_iff.1 hj).1
 rw [List.getElem?_toArray, List.getElem?_append_left (by rw [List.length_map]; exact hl), List.getElem?_map, hj]
 rfl
theorem bytesN2 (w : World) (x : Nat) (hx : x < K4) : Calls Tryz.prog 102 #[fv x] w (GetsN w (fun vq Mq => ∃ (g : Nat) (sp : List Value) (cap : Nat), vq = .slice (some ⟨g, 0, none⟩) 32 cap ∧ (32 ≤ cap ∧ cap ≤ 9223372036854775807) ∧ Mq = [(g, 5, ((bytesS x).map bv ++ sp).toArray)])) := by
 refine (bytesR_any w x hx).mono ?_
 rintro e w' ⟨g, cap, rfl, ho, hl, hb⟩
 rcases ho.2 with ⟨h0, _⟩ | ⟨g', cap', cur, hv, hg, hk, q3, q4, q5, q6⟩
 ·cases h0
 ·cases hv
  have h32 := bytesS_length x
  rw [bytesS_length] at q6
  have hc : cur = ((bytesS x).map bv ++ cur.toList.drop 32).toArray := by
   rw [Nat.mul_one] at q6
   rw [← q6, List.take_append_drop]
  refine ⟨_, [(g, 5, cur)], rfl, ⟨g, cur.toList.drop 32, cap, rfl, ⟨by omega, by simp only [maxLen] at q4; omega⟩, by rw [← hc]⟩, hb, fun g1 t1 cs1 hm => ?_, by simp⟩
  simp only [List.mem_singleton, Prod.mk.injEq] at hm
  obtain ⟨rfl, rfl, rfl⟩ := hm
  exact ⟨by omega, hk⟩
theorem asc_any (w : World) (a b : Nat) (ha : a < K4) (hb : b < K4) : Calls Tryz.prog 47 #[fv a, fv b] w (Gets w (fv ((a + b) % Sc.pM))) := by
 refine Sy.enter (args := [fv a, fv b]) Tryz.func47 rfl kL ?_
 refine sC ?_
 refine sM 24 (fcs a) (fun g0 => ?_)
 refine sM 24 (fcs b) (fun g1 => ?_)
 refine sM 24 (fcs 0) (fun g2 => ?_)
 refine sH (fun j => j == 7) ?_
 refine sD 0 rfl (.agg modN) (qF 75 #[] (Sc.refN_any)) <| sD 1 rfl (fv a) (qL 0 g0 0 4 24 24 (fcs a) rfl Tryz.underlying24) <| sD 2 rfl (fv a) (qF 76 #[fv a] (fun w => Sc.refOf_any w a (by first | assumption | exact Sc.mod_lt _ | exact lt4 _ | exact valB_lt32 _ (by first | assumption | exact bytesS_length _) | decide +kernel))) <| sD 3 rfl (fv b) (qL 1 g1 0 4 24 24 (fcs b) rfl Tryz.underlying24) <| sD 4 rfl (fv b) (qF 76 #[fv b] (fun w => Sc.refOf_any w b (by first | assumption | exact Sc.mod_lt _ | exact lt4 _ | exact valB_lt32 _ (by first | assumption | exact bytesS_length _) | decide +kernel))) <| sD 5 rfl (fv ((a + b) % Sc.pM)) (qF 105 #[.agg modN, fv a, fv b] (fun w => Sc.addR_any w a b ha hb)) <| sD 6 rfl (fv ((a + b) % Sc.pM)) (qF 85 #[fv ((a + b) % Sc.pM)] (fun w => Sc.refSc_any w ((a + b) % Sc.pM) (by first | assumption | exact Sc.mod_lt _ | exact lt4 _ | exact valB_lt32 _ (by first | assumption | exact bytesS_length _) | decide +kernel))) <| sX 7 rfl 2 g2 24 (fcs 0) (fcs ((a + b) % Sc.pM)) (wS 0 24 (fcs ((a + b) % Sc.pM)) rfl) ?_
 refine sI ?_
 refine Sy.ret ?_
 exact rC (v := fv ((a + b) % Sc.pM)) 24 g2 2 (fcs ((a + b) % Sc.pM)) rfl Tryz.underlying24
theorem msc_any (w : World) (a b : Nat) (ha : a < K4) (hb : b < K4) : Calls Tryz.prog 48 #[fv a, fv b] w (Gets w (fv (a * b % Sc.pM))) := by
 refine Sy.enter (args := [fv a, fv b]) Tryz.func48 rfl kL ?_
 refine sC ?_
 refine sM 24 (fcs a) (fun g0 => ?_)
 refine sM 24 (fcs b) (fun g1 => ?_)
 refine sM 24 (fcs 0) (fun g2 => ?_)
 refine sH (fun j => j == 7) ?_
 refine sD 0 rfl (.agg modN) (qF 75 #[] (Sc.refN_any)) <| sD 1 rfl (fv a) (qL 0 g0 0 4 24 24 (fcs a) rfl Tryz.underlying24) <| sD 2 rfl (fv a) (qF 76 #[fv a] (fun w => Sc.refOf_any w a (by first | assumption | exact Sc.mod_lt _ | exact lt4 _ | exact valB_lt32 _ (by first | assumption | exact bytesS_length _) | decide +kernel))) <| sD 3 rfl (fv b) (qL 1 g1 0 4 24 24 (fcs b) rfl Tryz.underlying24) <| sD 4 rfl (fv b) (qF 76 #[fv b] (fun w => Sc.refOf_any w b (by first | assumption | exact Sc.mod_lt _ | exact lt4 _ | exact valB_lt32 _ (by first | assumption | exact bytesS_length _) | decide +kernel))) <| sD 5 rfl (fv (a * b % Sc.pM)) (qF 106 #[.agg modN, fv a, fv b] (fun w => Sc.mulR_any w a b ha hb)) <| sD 6 rfl (fv (a * b % Sc.pM)) (qF 85 #[fv (a * b % Sc.pM)] (fun w => Sc.refSc_any w (a * b % Sc.pM) (by first | assumption | exact Sc.mod_lt _ | exact lt4 _ | exact valB_lt32 _ (by first | assumption | exact bytesS_length _) | decide +kernel))) <| sX 7 rfl 2 g2 24 (fcs 0) (fcs (a * b % Sc.pM)) (wS 0 24 (fcs (a * b % Sc.pM)) rfl) ?_
 refine sI ?_
 refine Sy.ret ?_
 exact rC (v := fv (a * b % Sc.pM)) 24 g2 2 (fcs (a * b % Sc.pM)) rfl Tryz.underlying24
theorem ssc_any (w : World) (a b : Nat) (ha : a < K4) (hb : b < K4) : Calls Tryz.prog 68 #[fv a, fv b] w (Gets w (fv (Sc.subP a b))) := by
 refine Sy.enter (args := [fv a, fv b]) Tryz.func68 rfl kL ?_
 refine sC ?_
 refine sM 24 (fcs a) (fun g0 => ?_)
 refine sM 24 (fcs b) (fun g1 => ?_)
 refine sM 24 (fcs 0) (fun g2 => ?_)
 refine sH (fun j => j == 7) ?_
 refine sD 0 rfl (.agg modN) (qF 75 #[] (Sc.refN_any)) <| sD 1 rfl (fv a) (qL 0 g0 0 4 24 24 (fcs a) rfl Tryz.underlying24) <| sD 2 rfl (fv a) (qF 76 #[fv a] (fun w => Sc.refOf_any w a (by first | assumption | exact Sc.mod_lt _ | exact lt4 _ | exact valB_lt32 _ (by first | assumption | exact bytesS_length _) | decide +kernel))) <| sD 3 rfl (fv b) (qL 1 g1 0 4 24 24 (fcs b) rfl Tryz.underlying24) <| sD 4 rfl (fv b) (qF 76 #[fv b] (fun w => Sc.refOf_any w b (by first | assumption | exact Sc.mod_lt _ | exact lt4 _ | exact valB_lt32 _ (by first | assumption | exact bytesS_length _) | decide +kernel))) <| sD 5 rfl (fv (Sc.subP a b)) (qF 127 #[.agg modN, fv a, fv b] (fun w => Sc.subR_any w a b ha hb)) <| sD 6 rfl (fv (Sc.subP a b)) (qF 85 #[fv (Sc.subP a b)] (fun w => Sc.refSc_any w (Sc.subP a b) (by first | assumption | exact Sc.mod_lt _ | exact lt4 _ | exact valB_lt32 _ (by first | assumption | exact bytesS_length _) | decide +kernel))) <| sX 7 rfl 2 g2 24 (fcs 0) (fcs (Sc.subP a b)) (wS 0 24 (fcs (Sc.subP a b)) rfl) ?_
 refine sI ?_
 refine Sy.ret ?_
 exact rC (v := fv (Sc.subP a b)) 24 g2 2 (fcs (Sc.subP a b)) rfl Tryz.underlying24
theorem nsc_any (w : World) (a : Nat) (ha : a < K4) : Calls Tryz.prog 34 #[fv a] w (Gets w (fv (a % Sc.pM))) := by
 refine Sy.enter (args := [fv a]) Tryz.func34 rfl kL ?_
 refine sC ?_
 refine sM 24 (fcs a) (fun g0 => ?_)
 refine sM 24 (fcs 0) (fun g1 => ?_)
 refine sH (fun j => j == 5) ?_
 refine sD 0 rfl (.agg modN) (qF 75 #[] (Sc.refN_any)) <| sD 1 rfl (fv a) (qL 0 g0 0 4 24 24 (fcs a) rfl Tryz.underlying24) <| sD 2 rfl (fv a) (qF 76 #[fv a] (fun w => Sc.refOf_any w a (by first | assumption | exact Sc.mod_lt _ | exact lt4 _ | exact valB_lt32 _ (by first | assumption | exact bytesS_length _) | decide +kernel))) <| sD 3 rfl (fv (a % Sc.pM)) (qF 74 #[.agg modN, fv a] (fun w => Sc.normR_any w a (by first | assumption | exact Sc.mod_lt _ | exact lt4 _ | exact valB_lt32 _ (by first | assumption | exact bytesS_length _) | decide +kernel))) <| sD 4 rfl (fv (a % Sc.pM)) (qF 85 #[fv (a % Sc.pM)] (fun w => Sc.refSc_any w (a % Sc.pM) (by first | assumption | exact Sc.mod_lt _ | exact lt4 _ | exact valB_lt32 _ (by first | assumption | exact bytesS_length _) | decide +kernel))) <| sX 5 rfl 1 g1 24 (fcs 0) (fcs (a % Sc.pM)) (wS 0 24 (fcs (a % Sc.pM)) rfl) ?_
 refine sI ?_
 refine Sy.ret ?_
 exact rC (v := fv (a % Sc.pM)) 24 g1 1 (fcs (a % Sc.pM)) rfl Tryz.underlying24
theorem rsc_any (w : World) (l : List UInt8) (hl : l.length = 32) : Calls Tryz.prog 104 #[.agg (l.map bv).toArray] w (Gets w (fv (valB l % Sc.pM))) := by
 refine Sy.enter (args := [.agg (l.map bv).toArray]) Tryz.func104 rfl kL ?_
 refine sC ?_
 refine sM 47 (l.map bv).toArray (fun g0 => ?_)
 refine sM 24 (fcs 0) (fun g1 => ?_)
 refine sA ?_
 refine sS (.agg (l.map bv).toArray) (Quiet.load 0 g0 0 32 47 47 (l.map bv).toArray _ _ rfl kR kR Tryz.underlying47 rfl kR _ (key_whole l hl) (key_size l hl)) ?_
 refine Sy.callN kR 72 #[.agg (l.map bv).toArray] kF (fun vq Mq => ∃ (g : Nat) (sp : List Value) (cap : Nat), vq = .slice (some ⟨g, 0, none⟩) 32 cap ∧ (32 ≤ cap ∧ cap ≤ 9223372036854775807) ∧ Mq = [(g, 5, (l.map bv ++ sp).toArray)]) (fun w _ => textN_any w l hl) (fun vq Mq hR0 => ?_)
 obtain ⟨go1, spo1, cpo1, rfl, hcpo1, rfl⟩ := hR0
 refine sS (fv (valB l)) (qG 52 #[.slice (some ⟨go1, 0, none⟩) 32 cpo1] (fun w hw => numberR_any w go1 cpo1 l hl (hw.get (i := 2) rfl).lt (own_cell (hw.get (i := 2) rfl)) hcpo1.1 hcpo1.2)) <| sS (fv (valB l)) (qF 85 #[fv (valB l)] (fun w => Sc.refSc_any w (valB l) (by first | assumption | exact Sc.mod_lt _ | exact lt4 _ | exact valB_lt32 _ (by first | assumption | exact bytesS_length _) | decide +kernel))) <| sS (fv ((valB l) % Sc.pM)) (qF 34 #[fv (valB l)] (fun w => nsc_any w (valB l) (by first | assumption | exact Sc.mod_lt _ | exact lt4 _ | exact valB_lt32 _ (by first | assumption | exact bytesS_length _) | decide +kernel))) <| sW 1 g1 24 (fcs 0) (fcs ((valB l) % Sc.pM)) (wS 0 24 (fcs ((valB l) % Sc.pM)) rfl) ?_
 refine sG <| Sy.ret ?_
 exact rC (v := fv ((valB l) % Sc.pM)) 24 g1 1 (fcs ((valB l) % Sc.pM)) rfl Tryz.underlying24
theorem bscN (w : World) (a : Nat) (ha : a < K4) : Calls Tryz.prog 43 #[fv a] w (GetsN w (fun vq Mq => ∃ (g : Nat) (sp : List Value) (cap : Nat), vq = .slice (some ⟨g, 0, none⟩) 32 cap ∧ (32 ≤ cap ∧ cap ≤ 9223372036854775807) ∧ Mq = [(g, 5, ((bytesS (a % Sc.pM)).map bv ++ sp).toArray)])) := by
 refine Sy.enter (args := [fv a]) Tryz.func43 rfl kL ?_
 refine sC ?_
 refine sM 24 (fcs a) (fun g0 => ?_)
 refine sP (.slice none 0 0) ?_
 refine sA ?_
 refine sS (fv a) (qL 0 g0 0 4 24 24 (fcs a) rfl Tryz.underlying24) <| sS (fv (a % Sc.pM)) (qF 34 #[fv a] (fun w => nsc_any w a (by first | assumption | exact Sc.mod_lt _ | exact lt4 _ | exact valB_lt32 _ (by first | assumption | exact bytesS_length _) | decide +kernel))) <| sS (fv (a % Sc.pM)) (qF 77 #[fv (a % Sc.pM)] (fun w => refOf_any w (a % Sc.pM) (by first | assumption | exact Sc.mod_lt _ | exact lt4 _ | exact valB_lt32 _ (by first | assumption | exact bytesS_length _) | decide +kernel))) ?_
 refine Sy.callN kR 102 #[fv (a % Sc.pM)] kF (fun vq Mq => ∃ (g : Nat) (sp : List Value) (cap : Nat), vq = .slice (some ⟨g, 0, none⟩) 32 cap ∧ (32 ≤ cap ∧ cap ≤ 9223372036854775807) ∧ Mq = [(g, 5, ((bytesS (a % Sc.pM)).map bv ++ sp).toArray)]) (fun w _ => bytesN2 w (a % Sc.pM) (by first | assumption | exact Sc.mod_lt _ | exact lt4 _ | exact valB_lt32 _ (by first | assumption | exact bytesS_length _) | decide +kernel)) (fun vq Mq hR0 => ?_)
 obtain ⟨go1, spo1, cpo1, rfl, hcpo1, rfl⟩ := hR0
 refine sP (.slice (some ⟨go1, 0, none⟩) 32 cpo1) ?_
 refine sG <| Sy.ret ?_
 exact retG 1 (go1, 5, ((bytesS (a % Sc.pM)).map bv ++ spo1).toArray) rfl (v := .slice (some ⟨go1, 0, none⟩) 32 cpo1) (.inl (show _ = _ by kernel_rfl)) kR ⟨go1, spo1, cpo1, rfl, hcpo1, rfl⟩
end Go.Proofs.YtfhcpdbahbbmaaaGreatDoor.Cu

end
section
namespace Go.Proofs.YtfhcpdbahbbmaaaGreatDoor.Cu
open Go.RowKit Go.Proofs.YtfhcpdbahbbmaaaGreatDoor Go.Proofs.YtfhcpdbahbbmaaaGreatDoor.Sy
set_option maxRecDepth 100000
set_option maxHeartbeats 4000000

theorem key_sym {l : List UInt8} {n : Nat} (h : l.length = n) {k o : Nat} (hk : k < n) (ho : o = k) : ((l.map bv).toArray)[o]? = some (bv (l.getD k 0)) := by
 subst h ho
 rw [List.getElem?_toArray, List.getElem?_map, List.getD_eq_getElem?_getD, List.getElem?_eq_getElem hk]
 rfl
theorem red_any (w : World) (nm : ByteArray) (hnm : nm.size ≤ 1000000000) (T : Option Addr) (ts : List Sh.Tx) (n ct : Nat) (hn : ts.length = n) (hn2 : n ≤ 1000000000) (hT : Sh.Texts w T ts) (htr : Sh.TabAt w 0) (hm : (Sh.cat ts).length ≤ 1000000000) : Calls Tryz.prog 45 #[.string nm, .slice T n ct] w (Gets w (fv (valB (Sh.taggedS nm.data.toList (Sh.cat ts)) % Sc.pM))) := by
 refine Sy.enter (args := [.string nm, .slice T n ct]) Tryz.func45 rfl kL ?_
 refine sC ?_
 refine sM 24 (fcs 0) (fun g0 => ?_)
 refine sA ?_
 refine sP (.string nm) <| sP (.slice T n ct) <| sS (.agg ((Sh.taggedS nm.data.toList (Sh.cat ts)).map bv).toArray) (qG 44 #[.string nm, .slice T n ct] (fun w hw => by have q := Sh.taggedR_any w nm T ts ct (hT.below hw.below) (htr.below hw.below htr.lt) hnm hm (by omega); rw [hn] at q; exact q)) <| sS (fv (valB (Sh.taggedS nm.data.toList (Sh.cat ts)) % Sc.pM)) (qF 104 #[.agg ((Sh.taggedS nm.data.toList (Sh.cat ts)).map bv).toArray] (fun w => rsc_any w (Sh.taggedS nm.data.toList (Sh.cat ts)) (tagS_length _ _))) <| sW 0 g0 24 (fcs 0) (fcs (valB (Sh.taggedS nm.data.toList (Sh.cat ts)) % Sc.pM)) (wS 0 24 (fcs (valB (Sh.taggedS nm.data.toList (Sh.cat ts)) % Sc.pM)) rfl) ?_
 refine sG <| Sy.ret ?_
 exact rC (v := fv (valB (Sh.taggedS nm.data.toList (Sh.cat ts)) % Sc.pM)) 24 g0 0 (fcs (valB (Sh.taggedS nm.data.toList (Sh.cat ts)) % Sc.pM)) rfl Tryz.underlying24
theorem xN_any (w : World) (x y : Nat) (i : Bool) (hx : x < K4) (hy : y < K4) : Calls Tryz.prog 46 #[pv x y i] w (GetsN w (fun vq Mq => ∃ (g : Nat) (sp : List Value) (cap : Nat), vq = .slice (some ⟨g, 0, none⟩) 32 cap ∧ (32 ≤ cap ∧ cap ≤ 9223372036854775807) ∧ Mq = [(g, 5, ((bytesS x).map bv ++ sp).toArray)])) := by
 refine Sy.enter (args := [pv x y i]) Tryz.func46 rfl kL ?_
 refine sC ?_
 refine sM 71 (pcs x y i) (fun g0 => ?_)
 refine sP (.slice none 0 0) ?_
 refine sA ?_
 refine sP (.pointer (some ⟨g0, 0, none⟩)) <| sS (fv x) (qL 0 g0 0 4 71 69 (pcs x y i) rfl Tryz.underlying69) <| sS (fv x) (qF 77 #[fv x] (fun w => refOf_any w x (by first | assumption | exact Sc.mod_lt _ | exact lt4 _ | exact valB_lt32 _ (by first | assumption | exact bytesS_length _) | decide +kernel))) ?_
 refine Sy.callN kR 102 #[fv x] kF (fun vq Mq => ∃ (g : Nat) (sp : List Value) (cap : Nat), vq = .slice (some ⟨g, 0, none⟩) 32 cap ∧ (32 ≤ cap ∧ cap ≤ 9223372036854775807) ∧ Mq = [(g, 5, ((bytesS x).map bv ++ sp).toArray)]) (fun w _ => bytesN2 w x (by first | assumption | exact Sc.mod_lt _ | exact lt4 _ | exact valB_lt32 _ (by first | assumption | exact bytesS_length _) | decide +kernel)) (fun vq Mq hR0 => ?_)
 obtain ⟨go1, spo1, cpo1, rfl, hcpo1, rfl⟩ := hR0
 refine sP (.slice (some ⟨go1, 0, none⟩) 32 cpo1) ?_
 refine sG <| Sy.ret ?_
 exact retG 1 (go1, 5, ((bytesS x).map bv ++ spo1).toArray) rfl (v := .slice (some ⟨go1, 0, none⟩) 32 cpo1) (.inl (show _ = _ by kernel_rfl)) kR ⟨go1, spo1, cpo1, rfl, hcpo1, rfl⟩
theorem evenR_1 (w : World) (k x y : Nat) (i : Bool) (hk : k < K4) (hx : x < K4) (hy : y < K4) (hpar : y % 18446744073709551616 % 2 = 1) : Calls Tryz.prog 42 #[fv k, pv x y i] w (Gets w (fv (Sc.subP 0 k))) := by
 refine Sy.enter (args := [fv k, pv x y i]) Tryz.func42 rfl kL ?_
 refine sC ?_
 refine sM 24 (fcs k) (fun g0 => ?_)
 refine sM 71 (pcs x y i) (fun g1 => ?_)
 refine sM 24 (fcs 0) (fun g2 => ?_)
 refine sG <| Sy.seq <| sC ?_
 refine sP (.pointer (some ⟨g1, 4, none⟩)) <| sP (.pointer (some ⟨g1, 4, none⟩)) <| sS (qv (y % 18446744073709551616)) (qC 1 g1 4 71 22 (pcs x y i) rfl Tryz.underlying22) <| sS (.int .u64 1) (Quiet.pure (fun w => (rem2 w _ _ _ _ (y % 18446744073709551616) rfl rfl rfl (Nat.mod_lt _ (by decide))).trans (by rw [hpar]; rfl))) <| sP (.bool true) ?_
 refine sG <| sT <| sC ?_
 refine sP (fv 0) <| sS (fv k) (qL 0 g0 0 4 24 24 (fcs k) rfl Tryz.underlying24) <| sS (fv (Sc.subP 0 k)) (qF 68 #[fv 0, fv k] (fun w => ssc_any w 0 k (by first | assumption | exact pX_lt _ | exact pY_lt _ | exact lt4 _ | exact Sc.mod_lt _ | exact valB_lt32 _ (by assumption) | decide +kernel) (by first | assumption | exact pX_lt _ | exact pY_lt _ | exact lt4 _ | exact Sc.mod_lt _ | exact valB_lt32 _ (by assumption) | decide +kernel))) <| sW 2 g2 24 (fcs 0) (fcs (Sc.subP 0 k)) (wS 0 24 (fcs (Sc.subP 0 k)) rfl) ?_
 refine sG <| Sy.ret <| Sy.then_ret ?_
 exact rC (v := fv (Sc.subP 0 k)) 24 g2 2 (fcs (Sc.subP 0 k)) rfl Tryz.underlying24
theorem evenR_0 (w : World) (k x y : Nat) (i : Bool) (hk : k < K4) (hx : x < K4) (hy : y < K4) (hpar : y % 18446744073709551616 % 2 = 0) : Calls Tryz.prog 42 #[fv k, pv x y i] w (Gets w (fv (k % Sc.pM))) := by
 refine Sy.enter (args := [fv k, pv x y i]) Tryz.func42 rfl kL ?_
 refine sC ?_
 refine sM 24 (fcs k) (fun g0 => ?_)
 refine sM 71 (pcs x y i) (fun g1 => ?_)
 refine sM 24 (fcs 0) (fun g2 => ?_)
 refine sG <| Sy.seq <| sC ?_
 refine sP (.pointer (some ⟨g1, 4, none⟩)) <| sP (.pointer (some ⟨g1, 4, none⟩)) <| sS (qv (y % 18446744073709551616)) (qC 1 g1 4 71 22 (pcs x y i) rfl Tryz.underlying22) <| sS (.int .u64 0) (Quiet.pure (fun w => (rem2 w _ _ _ _ (y % 18446744073709551616) rfl rfl rfl (Nat.mod_lt _ (by decide))).trans (by rw [hpar]; rfl))) <| sP (.bool false) ?_
 refine sG <| sU <| Sy.skip <| sB ?_
 refine sS (fv k) (qL 0 g0 0 4 24 24 (fcs k) rfl Tryz.underlying24) <| sS (fv (k % Sc.pM)) (qF 34 #[fv k] (fun w => nsc_any w k (by first | assumption | exact pX_lt _ | exact pY_lt _ | exact lt4 _ | exact Sc.mod_lt _ | exact valB_lt32 _ (by assumption) | decide +kernel))) <| sW 2 g2 24 (fcs 0) (fcs (k % Sc.pM)) (wS 0 24 (fcs (k % Sc.pM)) rfl) ?_
 refine sG <| Sy.ret ?_
 exact rC (v := fv (k % Sc.pM)) 24 g2 2 (fcs (k % Sc.pM)) rfl Tryz.underlying24
theorem evenR_any (w : World) (k x y : Nat) (i : Bool) (hk : k < K4) (hx : x < K4) (hy : y < K4) : Calls Tryz.prog 42 #[fv k, pv x y i] w (Gets w (fv (evenR k y))) := by
 unfold evenR
 by_cases h : y % 2 = 1
 ·rw [if_pos h]
  exact evenR_1 w k x y i hk hx hy (by omega)
 ·rw [if_neg h]
  exact evenR_0 w k x y i hk hx hy (by omega)
theorem pubR_none (w : World) (k : Nat) (hk : k < K4) (h : evP k = none) : Calls Tryz.prog 14 #[fv k] w (Gets w (.tuple #[.agg ((evX (evP k)).map bv).toArray, .bool (evP k).isSome])) := by
 have cM : ∀ w, Calls Tryz.prog 30 #[fv k, pv gx.val gy.val false] w (Gets w (pv 0 0 true)) := fun w => by
  have q := mulRe_any w k gx.val gy.val false hk (lt4 _) (lt4 _)
  rw [show dec gx.val gy.val false = bP from dec_fin gx gy bP_on, show Ec.nm finv (k % Sc.pM) bP = _ from h] at q
  exact q
 refine Sy.enter (args := [fv k]) Tryz.func14 rfl kL ?_
 refine sC ?_
 refine sM 24 (fcs k) (fun g0 => ?_)
 refine sM 31 (Zl 32).toArray (fun g1 => ?_)
 refine sP (.bool false) ?_
 refine sH (fun j => j == 4) ?_
 refine sD 0 rfl (fv k) (qL 0 g0 0 4 24 24 (fcs k) rfl Tryz.underlying24) <| sD 1 rfl (pv gx.val gy.val false) (qF 31 #[] (baseR_c)) <| sD 2 rfl (pv 0 0 true) (qF 30 #[fv k, pv gx.val gy.val false] (cM)) ?_
 refine sO 3 rfl 71 (pcs 0 0 false) (fun g2 => ?_)
 refine sX 4 rfl 2 g2 71 (pcs 0 0 false) (pcs 0 0 true) (wS 0 71 (pcs 0 0 true) rfl) ?_
 refine sE ?_
 refine sB ?_
 refine sM 31 (Zl 32).toArray (fun g3 => ?_)
 refine sG <| Sy.seq <| sC ?_
 refine sP (.pointer (some ⟨g2, 8, none⟩)) <| sS (.bool true) (qC 2 g2 8 71 4 (pcs 0 0 true) rfl Tryz.underlying4) ?_
 refine sG <| sT <| sC ?_
 refine sS (.agg ((Zl 32) : List Value).toArray) (qL 3 g3 0 32 31 31 (Zl 32).toArray rfl Tryz.underlying31) <| sW 1 g1 31 (Zl 32).toArray (Zl 32).toArray (wS 0 31 (Zl 32).toArray rfl) <| sP (.bool false) ?_
 refine sG <| Sy.ret <| Sy.then_ret ?_
 rw [show (.tuple #[.agg ((evX (evP k)).map bv).toArray, .bool (evP k).isSome] : Value) = .tuple #[.agg ((Zl 32) : List Value).toArray, .bool false] from by rw [h]; kernel_rfl]
 exact Sy.ret2 (v := .agg ((Zl 32) : List Value).toArray) (u := .bool false) rfl (.inl (Res.cell (ty' := 31) g1 1 (Zl 32).toArray _ kR kR Tryz.underlying31 rfl kR kR)) (.inl (show _ = _ by kernel_rfl))
theorem pubR_some (w : World) (k : Nat) (hk : k < K4) (u v : Fp) (h : evP k = some (u, v)) : Calls Tryz.prog 14 #[fv k] w (Gets w (.tuple #[.agg ((evX (evP k)).map bv).toArray, .bool (evP k).isSome])) := by
 have cM : ∀ w, Calls Tryz.prog 30 #[fv k, pv gx.val gy.val false] w (Gets w (pv u.val v.val false)) := fun w => by
  have q := mulRe_any w k gx.val gy.val false hk (lt4 _) (lt4 _)
  rw [show dec gx.val gy.val false = bP from dec_fin gx gy bP_on, show Ec.nm finv (k % Sc.pM) bP = _ from h] at q
  exact q
 refine Sy.enter (args := [fv k]) Tryz.func14 rfl kL ?_
 refine sC ?_
 refine sM 24 (fcs k) (fun g0 => ?_)
 refine sM 31 (Zl 32).toArray (fun g1 => ?_)
 refine sP (.bool false) ?_
 refine sH (fun j => j == 4) ?_
 refine sD 0 rfl (fv k) (qL 0 g0 0 4 24 24 (fcs k) rfl Tryz.underlying24) <| sD 1 rfl (pv gx.val gy.val false) (qF 31 #[] (baseR_c)) <| sD 2 rfl (pv u.val v.val false) (qF 30 #[fv k, pv gx.val gy.val false] (cM)) ?_
 refine sO 3 rfl 71 (pcs 0 0 false) (fun g2 => ?_)
 refine sX 4 rfl 2 g2 71 (pcs 0 0 false) (pcs u.val v.val false) (wS 0 71 (pcs u.val v.val false) rfl) ?_
 refine sE ?_
 refine sB ?_
 refine sM 31 (Zl 32).toArray (fun g3 => ?_)
 refine sG <| Sy.seq <| sC ?_
 refine sP (.pointer (some ⟨g2, 8, none⟩)) <| sS (.bool false) (qC 2 g2 8 71 4 (pcs u.val v.val false) rfl Tryz.underlying4) ?_
 refine sG <| sU <| Sy.skip <| sB ?_
 refine sS (pv u.val v.val false) (qL 2 g2 0 9 71 71 (pcs u.val v.val false) rfl Tryz.underlying71) ?_
 refine Sy.callN kR 46 #[pv u.val v.val false] kF (fun vq Mq => ∃ (g : Nat) (sp : List Value) (cap : Nat), vq = .slice (some ⟨g, 0, none⟩) 32 cap ∧ (32 ≤ cap ∧ cap ≤ 9223372036854775807) ∧ Mq = [(g, 5, ((bytesS u.val).map bv ++ sp).toArray)]) (fun w _ => xN_any w u.val v.val false (by first | assumption | exact pX_lt _ | exact pY_lt _ | exact lt4 _ | exact Sc.mod_lt _ | exact valB_lt32 _ (by assumption) | decide +kernel) (by first | assumption | exact pX_lt _ | exact pY_lt _ | exact lt4 _ | exact Sc.mod_lt _ | exact valB_lt32 _ (by assumption) | decide +kernel)) (fun vq Mq hR0 => ?_)
 obtain ⟨go1, spo1, cpo1, rfl, hcpo1, rfl⟩ := hR0
 refine sP (.slice (some ⟨go1, 0, none⟩) 32 cpo1) ?_
 refine sG <| Sy.seq <| sC ?_
 refine sP (.int .i64 0) ?_
 refine sG <| Sy.block ?_
 refine Sy.loopK 32 (fun k1 => [(2, .pointer (some ⟨g1, 0, none⟩)), (5, .pointer (some ⟨g3, 0, none⟩)), (6, .slice (some ⟨go1, 0, none⟩) 32 cpo1), (7, .int .i64 ((k1 : Nat) : Int))]) (fun k1 => [(g0, 24, (fcs k)), (g1, 31, (Zl 32).toArray), (g2, 71, (pcs u.val v.val false)), (g3, 31, ((mixL (bytesS u.val) (List.replicate 32 (0 : UInt8)) k1).map bv ++ []).toArray), (go1, 5, ((bytesS u.val).map bv ++ spo1).toArray)]) [true, true, true, true, true] (M := [(g0, 24, (fcs k)), (g1, 31, (Zl 32).toArray), (g2, 71, (pcs u.val v.val false)), (g3, 31, (Zl 32).toArray), (go1, 5, ((bytesS u.val).map bv ++ spo1).toArray)]) (all_cons kR (all_cons kR (all_cons kR (all_cons kR all_nil)))) kR (bcons rfl (bcons rfl (bcons rfl (bcons (beq kR) (bcons rfl rfl))))) (fun k1 hk1 => ?_)
 refine Sy.seq <| sC ?_
 refine sP (.int .i64 ((k1 : Nat) : Int)) ?_
 obtain ⟨b1, hb1⟩ : ∃ z : Bool, z = decide (k1 < 32) := ⟨_, rfl⟩
 refine sS (.bool b1) (Quiet.pure (exec_int .lss _ _ _ .i64 _ _ _ rfl rfl rfl (int_lss _ _ _ _ _ (by rw [hb1]; exact decide_eq_decide.2 (by omega))))) ?_
 refine sG ?_
 cases b1
 ·have lb1 : ¬ (k1 < 32) := of_decide_eq_false hb1.symm
  refine sU <| Sy.exit <| Sy.then_exit <| Sy.then_exit ?_
  obtain rfl : k1 = 32 := by omega
  refine Sy.in_exit <| sB ?_
  refine sS (.agg ((mixL (bytesS u.val) (List.replicate 32 (0 : UInt8)) 32).map bv).toArray) (Quiet.load 3 g3 0 32 31 31 ((mixL (bytesS u.val) (List.replicate 32 (0 : UInt8)) 32).map bv ++ []).toArray _ _ rfl kR kR Tryz.underlying31 rfl kR _ (own_agg (mixL_len (bytesS_length _) List.length_replicate (by omega))) (own_sz2 (mixL_len (bytesS_length _) List.length_replicate (by omega)))) <| sW 1 g1 31 (Zl 32).toArray ((mixL (bytesS u.val) (List.replicate 32 (0 : UInt8)) 32).map bv).toArray (Writes.store 0 31 ((mixL (bytesS u.val) (List.replicate 32 (0 : UInt8)) 32).map bv).toArray _ _ rfl kR kR (by rw [key_sz (mixL (bytesS u.val) (List.replicate 32 (0 : UInt8)) 32) (mixL_len (bytesS_length _) List.length_replicate (by omega))]; kernel_rfl) (by rw [key_sz (mixL (bytesS u.val) (List.replicate 32 (0 : UInt8)) 32) (mixL_len (bytesS_length _) List.length_replicate (by omega))]; exact Nat.le_of_ble_eq_true kR) (key_one _) (key_set _ _ (by rw [(mixL_len (bytesS_length _) List.length_replicate (by omega))]; kernel_rfl))) <| sP (.bool true) ?_
  refine sG <| Sy.ret ?_
  rw [show (.tuple #[.agg ((evX (evP k)).map bv).toArray, .bool (evP k).isSome] : Value) = .tuple #[.agg ((mixL (bytesS u.val) (List.replicate 32 (0 : UInt8)) 32).map bv).toArray, .bool true] from by rw [h, mixL_all (bytesS_length _) List.length_replicate]; rfl]
  exact Sy.ret2 (v := .agg ((mixL (bytesS u.val) (List.replicate 32 (0 : UInt8)) 32).map bv).toArray) (u := .bool true) rfl (.inl (Res.cell (ty' := 31) g1 1 ((mixL (bytesS u.val) (List.replicate 32 (0 : UInt8)) 32).map bv).toArray _ kR kR Tryz.underlying31 rfl (by rw [key_sz (mixL (bytesS u.val) (List.replicate 32 (0 : UInt8)) 32) (mixL_len (bytesS_length _) List.length_replicate (by omega))]; kernel_rfl) kR)) (.inl (show _ = _ by kernel_rfl))
 ·have lb1 : k1 < 32 := of_decide_eq_true hb1.symm
  refine sT <| Sy.skip <| Sy.then_ <| Sy.seq <| Sy.block <| Sy.region ?_
  refine sP (.int .i64 ((k1 : Nat) : Int)) <| sP (.slice (some ⟨go1, 0, none⟩) 32 cpo1) <| sP (.int .i64 ((k1 : Nat) : Int)) <| sS (.pointer (some ⟨go1, 0 + k1 * 1, none⟩)) (Quiet.pure (exec_at 25 _ _ _ go1 0 32 cpo1 k1 1 .i64 rfl rfl rfl Tryz.underlying25 kF (by omega))) <| sS (bv ((bytesS u.val).getD k1 0)) (Quiet.cell 4 go1 (0 + k1 * 1) 5 5 ((bytesS u.val).map bv ++ spo1).toArray _ _ rfl kR kR Tryz.underlying5 rfl _ (brw_at (bytesS_length _) _ (k := k1) (by omega) (by omega))) <| sS (.pointer (some ⟨g3, 0 + k1 * 1, none⟩)) (Quiet.pure (exec_atA 31 _ _ _ g3 0 _ k1 1 .i64 rfl rfl rfl Tryz.underlying31 kF (by omega))) <| sW 3 g3 31 ((mixL (bytesS u.val) (List.replicate 32 (0 : UInt8)) k1).map bv ++ []).toArray (((mixL (bytesS u.val) (List.replicate 32 (0 : UInt8)) k1).set k1 ((bytesS u.val).getD k1 0)).map bv ++ []).toArray (Writes.one (0 + k1 * 1) 5 (bv ((bytesS u.val).getD k1 0)) _ _ rfl kR kR kR rfl rfl (brw_fit (mixL_len (bytesS_length _) List.length_replicate (by omega)) _ (k := k1) (by omega) (by omega)) (brw_set (mixL_len (bytesS_length _) List.length_replicate (by omega)) _ _ (by omega) (by omega))) ?_
  refine Sy.nil <| Sy.in_ <| Sy.then_ <| Sy.region ?_
  refine sP (.int .i64 ((k1 : Nat) : Int)) <| sS (.int .i64 ((k1 + 1 : Nat) : Int)) (Quiet.pure (exec_int .add _ _ _ .i64 _ _ _ rfl rfl rfl (int_add _ _ _ _ _ ((wrap_i64 (by omega) (by omega)).trans (by omega))))) <| sP (.int .i64 ((k1 + 1 : Nat) : Int)) ?_
  refine Sy.nil ?_
  exact Sy.againK [true, true, true, true, true] (M := [(g0, 24, (fcs k)), (g1, 31, (Zl 32).toArray), (g2, 71, (pcs u.val v.val false)), (g3, 31, (((mixL (bytesS u.val) (List.replicate 32 (0 : UInt8)) k1).set k1 ((bytesS u.val).getD k1 0)).map bv ++ []).toArray), (go1, 5, ((bytesS u.val).map bv ++ spo1).toArray)]) (by omega) (all_cons kR (all_cons kR (all_cons kR (all_cons kR all_nil)))) kR (bcons rfl (bcons rfl (bcons rfl (bcons (beq (congrArg (fun l : List UInt8 => (l.map bv ++ []).toArray) (mixL_succ (bytesS_length _) List.length_replicate (by omega)))) (bcons rfl rfl)))))
theorem pubR_any (w : World) (k : Nat) (hk : k < K4) : Calls Tryz.prog 14 #[fv k] w (Gets w (.tuple #[.agg ((evX (evP k)).map bv).toArray, .bool (evP k).isSome])) := by
 rcases h : evP k with _ | ⟨u, v⟩
 ·have q := pubR_none w k hk h
  rwa [h] at q
 ·have q := pubR_some w k hk u v h
  rwa [h] at q
end Go.Proofs.YtfhcpdbahbbmaaaGreatDoor.Cu

end
section
namespace Go.Proofs.YtfhcpdbahbbmaaaGreatDoor.Cu
open Go.RowKit Go.Proofs.YtfhcpdbahbbmaaaGreatDoor Go.Proofs.YtfhcpdbahbbmaaaGreatDoor.Sy

theorem evD_some {k : Nat} {x y : Fp} (h : evP k = some (x, y)) : evD k = if y.val % 2 = 1 then Sc.negP k else k := by
 unfold evD
 rw [h]
theorem if_yes {c a b d : Nat} (h : c = 1) (e : a = d) : (if c = 1 then a else b) = d := by rw [if_pos h, e]
theorem signB_of {sec : Nat} {m : List UInt8} {k : Nat} {x y u v : Fp} (hk : nonS sec m = k) (h1 : evP sec = some (x, y)) (h2 : evP k = some (u, v)) : signB sec m = true := by
 unfold signB
 rw [hk, h1, h2]
 rfl
theorem signL_of {sec : Nat} {m X Y : List UInt8} {k d e D z : Nat} (hB : signB sec m = true) (hk : nonS sec m = k) (hd : evD sec = d) (hX : evX (evP k) = X) (hY : evX (evP sec) = Y) (hc : chalS X Y m = e) (hD : evD k = D) (hz : Sc.addP D (Sc.mulP e d) % Sc.pM = z) : signL sec m = X ++ bytesS z := by
 unfold signL
 rw [if_pos hB, hk]
 unfold sigS ansS
 rw [hX, hY, hc, hd, hD, hz]
def k0 : Nat := 13197915491876976259551408334663313131887465579707439106007590226688883891305
set_option maxRecDepth 100000 in
theorem big_3 : 3 % 2 ^ 256 = 3 := by decide +kernel
set_option maxRecDepth 100000 in
theorem chain_3 : gK 3 256 0 0 0 (isK 112711660439710606056748659173929673102114977341539408544630613555209775888121 25583027980570883691656905877401976406448868254816295069919888960541586679410) = true := by decide +kernel
theorem evP_3 : evP 3 = some (fm 112711660439710606056748659173929673102114977341539408544630613555209775888121, fm 25583027980570883691656905877401976406448868254816295069919888960541586679410) := by
 unfold evP
 rw [nm_p bP_on]
 exact gK_some big_3 chain_3
set_option maxRecDepth 100000 in
theorem big_K : k0 % 2 ^ 256 = k0 := by decide +kernel
set_option maxRecDepth 100000 in
theorem chain_K : gK k0 256 0 0 0 (isK 105402166627418795092072804961744245450567089294823101265006251985280030114325 59979214474319322165094783228164233363219353906398054566988269642334758084391) = true := by decide +kernel
theorem evP_K : evP k0 = some (fm 105402166627418795092072804961744245450567089294823101265006251985280030114325, fm 59979214474319322165094783228164233363219353906398054566988269642334758084391) := by
 unfold evP
 rw [nm_p bP_on]
 exact gK_some big_K chain_K
set_option maxRecDepth 100000 in
theorem evD_3 : evD 3 = 3 := by
 unfold evD
 rw [evP_3]
 decide +kernel
theorem evX_3 : evX (evP 3) = bytesS 112711660439710606056748659173929673102114977341539408544630613555209775888121 := by
 rw [evP_3]
 rfl
set_option maxRecDepth 100000 in
theorem odd_K : (fm 59979214474319322165094783228164233363219353906398054566988269642334758084391).val % 2 = 1 := by decide +kernel
set_option maxRecDepth 100000 in
theorem neg_K : Sc.negP k0 = 102594173745439219164019576674024594720950098699367465276597572914829277603032 := by decide +kernel
theorem evD_K : evD k0 = 102594173745439219164019576674024594720950098699367465276597572914829277603032 := (evD_some evP_K).trans (if_yes odd_K neg_K)
theorem evX_K : evX (evP k0) = bytesS 105402166627418795092072804961744245450567089294823101265006251985280030114325 := by
 rw [evP_K]
 rfl
set_option maxRecDepth 100000 in
theorem nonce_3 : nonceS 3 (bytesS 112711660439710606056748659173929673102114977341539408544630613555209775888121) (List.replicate 32 0) = k0 := by decide +kernel
theorem nonS_3 : nonS 3 (List.replicate 32 0) = k0 := by
 unfold nonS
 rw [evD_3, evX_3]
 exact nonce_3
set_option maxRecDepth 100000 in
theorem chal_3 : chalS (bytesS 105402166627418795092072804961744245450567089294823101265006251985280030114325) (bytesS 112711660439710606056748659173929673102114977341539408544630613555209775888121) (List.replicate 32 0) = 48720319366320448218248931228309816100339060958010591740548832691369990260430 := by decide +kernel
theorem signB_3 : signB 3 (List.replicate 32 0) = true := signB_of nonS_3 evP_3 evP_K
set_option maxRecDepth 100000 in
theorem ans_3 : Sc.addP 102594173745439219164019576674024594720950098699367465276597572914829277603032 (Sc.mulP 48720319366320448218248931228309816100339060958010591740548832691369990260430 3) % Sc.pM = 17170953369768172971624400341578227316292153015249431733033744705902925395648 := by decide +kernel
theorem signL_3 : signL 3 (List.replicate 32 0) = bytesS 105402166627418795092072804961744245450567089294823101265006251985280030114325 ++ bytesS 17170953369768172971624400341578227316292153015249431733033744705902925395648 := signL_of signB_3 nonS_3 evD_3 evX_K evX_3 chal_3 evD_K ans_3
end Go.Proofs.YtfhcpdbahbbmaaaGreatDoor.Cu

end
section
namespace Go.Proofs.YtfhcpdbahbbmaaaGreatDoor.Cu
open Go.RowKit Go.Proofs.YtfhcpdbahbbmaaaGreatDoor Go.Proofs.YtfhcpdbahbbmaaaGreatDoor.Sy

theorem eql_sig (w : World) (F : Slots) (o : Oper) (x y : Operand) (a b : List UInt8) (ha : a.length = 64) (hb : b.length = 64) {yt : TypeId} (ho : o.op = .binOp .eql 27 x y yt) (hx : evF F x = .agg (a.map bv).toArray) (hy : evF F y = .agg (b.map bv).toArray) : (execOp (evF F) o).run Tryz.prog w = .ok (.value (.bool (decide (a = b)))) w := by
 have h1 : (eqGuard .eql 27 x y (.agg (a.map bv).toArray) (.agg (b.map bv).toArray)).run Tryz.prog w = .ok () w := by go_simp
 have h2 : (binOp .eql 27 (.agg (a.map bv).toArray) (.agg (b.map bv).toArray)).run Tryz.prog w = .ok (.bool (decide (a = b))) w := by
  have h := run_equalIn_bytes (P := Tryz.prog) w 9998 27 5 64 Tryz.underlying27 Tryz.underlying5 (fun W => by kernel_rfl) a b ha hb
  rw [run_eql_struct, show (10000 : Nat) = 9998 + 2 from rfl, show (Op.equalIn (9998 + 2) 27 (.agg (a.map bv).toArray) (.agg (b.map bv).toArray)).run Tryz.prog w = _ from h]
  by_cases e : a = b <;> simp [e]
 unfold execOp
 simp only [ho, hx, hy, Sem.run_bind, h1, h2, Result.andThen_ok, Sem.run_pure]
theorem eql_key (w : World) (F : Slots) (o : Oper) (x y : Operand) (a b : List UInt8) (ha : a.length = 32) (hb : b.length = 32) {yt : TypeId} (ho : o.op = .binOp .eql 31 x y yt) (hx : evF F x = .agg (a.map bv).toArray) (hy : evF F y = .agg (b.map bv).toArray) : (execOp (evF F) o).run Tryz.prog w = .ok (.value (.bool (decide (a = b)))) w := by
 have h1 : (eqGuard .eql 31 x y (.agg (a.map bv).toArray) (.agg (b.map bv).toArray)).run Tryz.prog w = .ok () w := by go_simp
 have h2 : (binOp .eql 31 (.agg (a.map bv).toArray) (.agg (b.map bv).toArray)).run Tryz.prog w = .ok (.bool (decide (a = b))) w := by
  have h := run_equalIn_bytes (P := Tryz.prog) w 9998 31 5 32 Tryz.underlying31 Tryz.underlying5 (fun W => by kernel_rfl) a b ha hb
  rw [run_eql_struct, show (10000 : Nat) = 9998 + 2 from rfl, show (Op.equalIn (9998 + 2) 31 (.agg (a.map bv).toArray) (.agg (b.map bv).toArray)).run Tryz.prog w = _ from h]
  by_cases e : a = b <;> simp [e]
 unfold execOp
 simp only [ho, hx, hy, Sem.run_bind, h1, h2, Result.andThen_ok, Sem.run_pure]
end Go.Proofs.YtfhcpdbahbbmaaaGreatDoor.Cu

end
section
namespace Go.Proofs.YtfhcpdbahbbmaaaGreatDoor.Cu
open Go.RowKit Go.Proofs.YtfhcpdbahbbmaaaGreatDoor Go.Proofs.YtfhcpdbahbbmaaaGreatDoor.Sy

theorem s_first : (signL 3 (List.replicate 32 (0 : UInt8))).getD 0 0 = UInt8.ofNat 233 := by
 rw [signL_3]
 decide +kernel
theorem s_last : (signL 3 (List.replicate 32 (0 : UInt8))).getD 63 0 = UInt8.ofNat 192 := by
 rw [signL_3]
 decide +kernel
theorem signL_length (sec : Nat) (m : List UInt8) : (signL sec m).length = 64 := by
 unfold signL
 split
 ·exact sigS_length _ _ _ _
 ·rfl
set_option maxHeartbeats 4000000 in
set_option maxRecDepth 100000 in
theorem alive6 (w : World) (ht : Sh.TabAt w 1) : Calls Tryz.prog 15 #[] w (Gets w (.bool true)) := by
 obtain ⟨S, hS⟩ : ∃ S, S = signL 3 (List.replicate 32 (0 : UInt8)) := ⟨_, rfl⟩
 obtain ⟨K, hK⟩ : ∃ K, K = evX (evP 3) := ⟨_, rfl⟩
 have hSl : S.length = 64 := by rw [hS]; exact signL_length _ _
 have hKl : K.length = 32 := by rw [hK]; exact evX_length _
 have h0 : S.getD 0 0 = UInt8.ofNat 233 := by rw [hS]; exact s_first
 have h63 : S.getD 63 0 = UInt8.ofNat 192 := by rw [hS]; exact s_last
 have hv : verB K (List.replicate 32 (0 : UInt8)) S = true := by rw [hS, hK]; exact verB_sig 3 _ signB_3
 have pub : (evP 3).isSome = true := by rw [evP_3]; rfl
 refine Sy.enter (args := []) Tryz.func15 rfl kL ?_
 refine sC ?_
 refine sP (.bool false) ?_
 refine sA ?_
 refine Sy.make kR 5 ((List.replicate 32 (0 : UInt8)).map bv).toArray (fun g => .slice (some ⟨g, 0, none⟩) 32 32) kF (fun g0 => ?_)
 refine sP (.slice (some ⟨g0, 0, none⟩) 32 32) ?_
 refine sA ?_
 refine sP (fv 3) <| sP (.slice (some ⟨g0, 0, none⟩) 32 32) <| sS (.tuple #[.agg (S.map bv).toArray, .bool true]) (qG 11 #[fv 3, .slice (some ⟨g0, 0, none⟩) 32 32] (fun w hw => by have q := Sign_any w 3 (by decide) (some ⟨g0, 0, none⟩) (List.replicate 32 (0 : UInt8)) 32 32 rfl (by decide) (by decide) (by decide) (Sh.Src.of_blk (hw.get (i := 0) rfl)) (ht.below hw.below ht.lt); rw [signB_3, ← hS] at q; exact q)) <| sP (.tuple #[.agg (S.map bv).toArray, .bool true]) <| sP (.agg (S.map bv).toArray) <| sP (.bool true) ?_
 refine sM 27 (Zl 64).toArray (fun g1 => ?_)
 refine sW 1 g1 27 (Zl 64).toArray (S.map bv).toArray (Writes.store 0 27 (S.map bv).toArray _ _ rfl kR kR (by rw [key_sz S hSl]; kernel_rfl) (by rw [key_sz S hSl]; exact Nat.le_of_ble_eq_true kR) (key_one _) (key_set _ _ (by rw [hSl]; kernel_rfl))) <| sP (.bool true) ?_
 refine sA ?_
 refine sP (fv 3) <| sS (.tuple #[.agg (K.map bv).toArray, .bool true]) (qF 13 #[fv 3] (fun w => by have q := public_any w 3 (by decide); rw [pub, ← hK] at q; exact q)) <| sP (.tuple #[.agg (K.map bv).toArray, .bool true]) <| sP (.agg (K.map bv).toArray) <| sP (.bool true) ?_
 refine sM 31 (Zl 32).toArray (fun g2 => ?_)
 refine sW 2 g2 31 (Zl 32).toArray (K.map bv).toArray (Writes.store 0 31 (K.map bv).toArray _ _ rfl kR kR (by rw [key_sz K hKl]; kernel_rfl) (by rw [key_sz K hKl]; exact Nat.le_of_ble_eq_true kR) (key_one _) (key_set _ _ (by rw [hKl]; kernel_rfl))) <| sP (.bool true) ?_
 refine sA ?_
 refine sP (.bool true) <| sP (.bool true) <| sP (.bool true) <| sP (.bool true) <| sP (.bool true) <| sP (.pointer (some ⟨g1, 0, none⟩)) <| sS (bv (S.getD 0 0)) (Quiet.cell 1 g1 0 27 5 (S.map bv).toArray _ _ rfl kR kR Tryz.underlying5 rfl _ (key_at S hSl 0 (by decide))) <| sS (.bool true) (Quiet.pure (fun w => (eql_u8 w _ _ _ _ (S.getD 0 0) 233 (by decide) rfl rfl rfl).trans (by rw [decide_eq_true h0]))) ?_
 refine sP (.bool true) <| sP (.bool true) <| sP (.pointer (some ⟨g1, 63, none⟩)) <| sS (bv (S.getD 63 0)) (Quiet.cell 1 g1 63 27 5 (S.map bv).toArray _ _ rfl kR kR Tryz.underlying5 rfl _ (key_at S hSl 63 (by decide))) <| sS (.bool true) (Quiet.pure (fun w => (eql_u8 w _ _ _ _ (S.getD 63 0) 192 (by decide) rfl rfl rfl).trans (by rw [decide_eq_true h63]))) <| sP (.bool true) <| sP (.bool true) <| sS (.agg (K.map bv).toArray) (Quiet.load 2 g2 0 32 31 31 (K.map bv).toArray _ _ rfl kR kR Tryz.underlying31 rfl kR _ (key_whole K hKl) (key_size K hKl)) ?_
 refine sP (.slice (some ⟨g0, 0, none⟩) 32 32) <| sS (.agg (S.map bv).toArray) (Quiet.load 1 g1 0 64 27 27 (S.map bv).toArray _ _ rfl kR kR Tryz.underlying27 rfl kR _ (key_whole S hSl) (key_size S hSl)) <| sS (.bool true) (qG 49 #[.agg (K.map bv).toArray, .slice (some ⟨g0, 0, none⟩) 32 32, .agg (S.map bv).toArray] (fun w hw => by have q := verify_any w K S hKl hSl (some ⟨g0, 0, none⟩) (List.replicate 32 (0 : UInt8)) 32 32 rfl (by decide) (by decide) (by decide) (Sh.Src.of_blk (hw.get (i := 0) rfl)) (ht.below hw.below ht.lt); rw [hv] at q; exact q)) <| sP (.bool true) <| sP (.bool true) ?_
 refine sG <| Sy.ret ?_
 exact rV (.bool true) rfl
end Go.Proofs.YtfhcpdbahbbmaaaGreatDoor.Cu

end
section
namespace Go.Proofs.YtfhcpdbahbbmaaaGreatDoor.Cu
open Go.RowKit Go.Proofs.YtfhcpdbahbbmaaaGreatDoor Go.Proofs.YtfhcpdbahbbmaaaGreatDoor.Sy

end Go.Proofs.YtfhcpdbahbbmaaaGreatDoor.Cu

end
section
namespace Go.Proofs.YtfhcpdbahbbmaaaGreatDoor.Cu
open Go.RowKit Go.Proofs.YtfhcpdbahbbmaaaGreatDoor Go.Proofs.YtfhcpdbahbbmaaaGreatDoor.Sy
set_option maxRecDepth 100000
set_option maxHeartbeats 4000000

end Go.Proofs.YtfhcpdbahbbmaaaGreatDoor.Cu

end
section
namespace Go.Proofs.YtfhcpdbahbbmaaaGreatDoor.Cu
open Go.RowKit Go.Proofs.YtfhcpdbahbbmaaaGreatDoor Go.Proofs.YtfhcpdbahbbmaaaGreatDoor.Sy

theorem ok_own {w : World} {g : Nat} {t : TypeId} {l : List UInt8} {sp : List Value} {c : Nat} (hb : Blk w g t (l.map bv ++ sp).toArray) (hl : l.length = 32) (hc : 32 ≤ c ∧ c ≤ 9223372036854775807) : (Sh.Tx.mk (some ⟨g, 0, none⟩) l c).ok w := ⟨src_own hb, by show l.length ≤ c; omega, hc.2⟩
theorem val_own {g c : Nat} {l : List UInt8} (hl : l.length = 32) : (Sh.Tx.mk (some ⟨g, 0, none⟩) l c).val = .slice (some ⟨g, 0, none⟩) 32 c := by
 unfold Sh.Tx.val
 rw [hl]
theorem red3_c {w : World} {nm : ByteArray} (hnm : nm.size ≤ 1000000000) {g g1 g2 : Nat} {t t1 t2 : TypeId} {x y m : List UInt8} {A : Option Addr} {c cx cy n : Nat} {sx sy : List Value} (hx : x.length = 32) (hy : y.length = 32) (hn : m.length = n) (hm : n ≤ 999999900) (hc : n ≤ c) (hc2 : c ≤ 9223372036854775807)
  (h1 : Blk w g1 t1 (x.map bv ++ sx).toArray) (c1 : 32 ≤ cx ∧ cx ≤ 9223372036854775807) (h2 : Blk w g2 t2 (y.map bv ++ sy).toArray) (c2 : 32 ≤ cy ∧ cy ≤ 9223372036854775807) (hs : Sh.Src w A m) (hb : Blk w g t #[.slice (some ⟨g1, 0, none⟩) 32 cx, .slice (some ⟨g2, 0, none⟩) 32 cy, .slice A n c]) (ht : Sh.TabAt w 0) :
  Calls Tryz.prog 45 #[.string nm, .slice (some ⟨g, 0, none⟩) 3 3] w (Gets w (fv (valB (Sh.taggedS nm.data.toList (x ++ y ++ m)) % Sc.pM))) := by
 subst hn
 have e : Sh.cat [⟨some ⟨g1, 0, none⟩, x, cx⟩, ⟨some ⟨g2, 0, none⟩, y, cy⟩, ⟨A, m, c⟩] = x ++ y ++ m := by simp [Sh.cat]
 have q := red_any w nm hnm (some ⟨g, 0, none⟩) [⟨some ⟨g1, 0, none⟩, x, cx⟩, ⟨some ⟨g2, 0, none⟩, y, cy⟩, ⟨A, m, c⟩] 3 3 rfl (by decide) (texts_blk (by
  rw [List.map_cons, List.map_cons, List.map_cons, List.map_nil, val_own hx, val_own hy]
  exact hb) (ok3 (ok_own h1 hx c1) (ok_own h2 hy c2) ⟨hs, hc, hc2⟩)) ht (by rw [e, List.length_append, List.length_append, hx, hy]; omega)
 rw [e] at q
 exact q
end Go.Proofs.YtfhcpdbahbbmaaaGreatDoor.Cu

end
section
namespace Go.Proofs.YtfhcpdbahbbmaaaGreatDoor.Sy
open Go.RowKit Go.Proofs.YtfhcpdbahbbmaaaGreatDoor

theorem St.perm {w0 : Base} {w : World} {L M : Blocks} (h : St w0 w L) (p : L.Perm M) : St w0 w M :=
 ⟨h.below, fun g t cs hm => h.blk g t cs (p.mem_iff.2 hm), (p.map _).nodup_iff.1 h.apart, h.size, h.non⟩
theorem perm_at {α : Type _} {l m : List α} (is : List Nat) (hi : is.isPerm (List.range l.length) = true) (hm : is.map (fun i => l[i]?) = m.map some) : l.Perm m := by
 have h1 : (is.map (fun i => l[i]?)).Perm ((List.range l.length).map (fun i => l[i]?)) := (List.isPerm_iff.1 hi).map _
 have h2 : (List.range l.length).map (fun i => l[i]?) = l.map some := by
  refine List.ext_getElem (by simp) fun i h _ => ?_
  simp only [List.getElem_map, List.getElem_range]
  exact List.getElem?_eq_getElem (by simpa using h)
 rw [hm, h2] at h1
 have h3 := h1.filterMap id
 simpa [List.filterMap_map] using h3.symm
section
variable {P : Program} {w0 : Base} {n : Nat} {Q : Exit → Act → World → Prop} {F : Slots} {L : Blocks} {ops : Array Oper} {ex : Nat → Bool} {fuel : Nat} {listed : Array Bool}
theorem oneCallN {i : Nat} {oi : Oper} (hi0 : ops.toList[i]? = some oi) (hg : good ops n F oi = true) (f : FuncId) (args : Array Value) (he : ∀ w, (execOp (evF F) oi).run P w = .ok (.enter f args) w) (R : Value → Blocks → Prop)
  (hc : ∀ w, St w0 w L → Calls P f args w (GetsN w R)) (h : ∀ v M, R v M → wpD P w0 n ops Q ex (putF F oi.dst v) (L ++ M) fuel (listed.setIfInBounds i true)) : wpO P w0 n ops Q ex F L fuel listed i :=
 ⟨oi, by simpa using hi0, (good_spec hg).1, fun a w ha hw w1 h1 K hK => by
  unfold Oper.wp
  rw [good_exec hg ha, he w1]
  refine Calls.mono (hc w1 (hw.gr h1)) fun e w' he' => ?_
  obtain ⟨v, M, rfl, hR, hb, hM, hn⟩ := he'
  exact hK _ _ (fun _ => hb) (h v M hR _ _ (ha.put (good_spec hg).2.2.1 v) ((hw.gr h1).addN hb hM hn))⟩
theorem joinG {T : Type} (FF : T → Slots) (LL : T → Blocks) (H : T → Prop) (fu : Nat) (li : Array Bool) {fuel' : Nat} (h : ∀ x, H x → wpD P w0 n ops Q ex (FF x) (LL x) fu li) (k : (∀ x, H x → wpD P w0 n ops Q ex (FF x) (LL x) fu li) → wpD P w0 n ops Q ex F L fuel' listed) : wpD P w0 n ops Q ex F L fuel' listed := k h
theorem leafP {T : Type} {FF : T → Slots} {LL : T → Blocks} {H : T → Prop} {li : Array Bool} (h : ∀ x, H x → wpD P w0 n ops Q ex (FF x) (LL x) fuel li) (x : T) (hx : H x) (is : List Nat) (hl : listed = li) (hF : ∀ p ∈ FF x, F.lookup p.1 = some p.2) (hi : is.isPerm (List.range L.length) = true) (hm : is.map (fun i => L[i]?) = (LL x).map some) : wpD P w0 n ops Q ex F L fuel listed := fun a w ha hw => by
 subst hl
 exact h x hx a w (ha.all hF) (hw.perm (perm_at is hi hm))
end
end Go.Proofs.YtfhcpdbahbbmaaaGreatDoor.Sy

end
section
namespace Go.Proofs.YtfhcpdbahbbmaaaGreatDoor.Cu
open Go.RowKit Go.Proofs.YtfhcpdbahbbmaaaGreatDoor Go.Proofs.YtfhcpdbahbbmaaaGreatDoor.Sy
set_option maxRecDepth 100000
set_option maxHeartbeats 4000000

theorem own_cap2 {l : List UInt8} {sp : List Value} {c : Nat} (h : l.length = 32) (hs : sp.length + 32 = c) : ((l.map bv ++ sp).toArray).size = c := by
 rw [List.size_toArray, List.length_append, List.length_map]
 omega
theorem le_max {c : Nat} (h : c ≤ 9223372036854775807) : c ≤ maxLen := by
 simp only [maxLen]
 omega
theorem bytesN3 (w : World) (x : Nat) (hx : x < K4) : Calls Tryz.prog 102 #[fv x] w (GetsN w (fun vq Mq => ∃ (g : Nat) (sp : List Value) (cap : Nat), vq = .slice (some ⟨g, 0, none⟩) 32 cap ∧ (32 ≤ cap ∧ cap ≤ 9223372036854775807) ∧ sp.length + 32 = cap ∧ Mq = [(g, 5, ((bytesS x).map bv ++ sp).toArray)])) := by
 refine (bytesR_any w x hx).mono ?_
 rintro e w' ⟨g, cap, rfl, ho, hl, hb⟩
 rcases ho.2 with ⟨h0, _⟩ | ⟨g', cap', cur, hv, hg, hk, q3, q4, q5, q6⟩
 ·cases h0
 ·cases hv
  have h32 := bytesS_length x
  rw [bytesS_length] at q6
  have hc : cur = ((bytesS x).map bv ++ cur.toList.drop 32).toArray := by
   rw [Nat.mul_one] at q6
   rw [← q6, List.take_append_drop]
  refine ⟨_, [(g, 5, cur)], rfl, ⟨g, cur.toList.drop 32, cap, rfl, ⟨by omega, by simp only [maxLen] at q4; omega⟩, by rw [List.length_drop, Array.length_toList]; omega, by rw [← hc]⟩, hb, fun g1 t1 cs1 hm => ?_, by simp⟩
  simp only [List.mem_singleton, Prod.mk.injEq] at hm
  obtain ⟨rfl, rfl, rfl⟩ := hm
  exact ⟨by omega, hk⟩
theorem xN3_any (w : World) (x y : Nat) (i : Bool) (hx : x < K4) (hy : y < K4) : Calls Tryz.prog 46 #[pv x y i] w (GetsN w (fun vq Mq => ∃ (g : Nat) (sp : List Value) (cap : Nat), vq = .slice (some ⟨g, 0, none⟩) 32 cap ∧ (32 ≤ cap ∧ cap ≤ 9223372036854775807) ∧ sp.length + 32 = cap ∧ Mq = [(g, 5, ((bytesS x).map bv ++ sp).toArray)])) := by
 refine Sy.enter (args := [pv x y i]) Tryz.func46 rfl kL ?_
 refine sC ?_
 refine sM 71 (pcs x y i) (fun g0 => ?_)
 refine sP (.slice none 0 0) ?_
 refine sA ?_
 refine sP (.pointer (some ⟨g0, 0, none⟩)) <| sS (fv x) (qL 0 g0 0 4 71 69 (pcs x y i) rfl Tryz.underlying69) <| sS (fv x) (qF 77 #[fv x] (fun w => refOf_any w x (by first | assumption | exact Sc.mod_lt _ | exact lt4 _ | exact valB_lt32 _ (by first | assumption | exact bytesS_length _) | decide +kernel))) ?_
 refine Sy.callN kR 102 #[fv x] kF (fun vq Mq => ∃ (g : Nat) (sp : List Value) (cap : Nat), vq = .slice (some ⟨g, 0, none⟩) 32 cap ∧ (32 ≤ cap ∧ cap ≤ 9223372036854775807) ∧ sp.length + 32 = cap ∧ Mq = [(g, 5, ((bytesS x).map bv ++ sp).toArray)]) (fun w _ => bytesN3 w x (by first | assumption | exact pX_lt _ | exact pY_lt _ | exact lt4 _ | exact Sc.mod_lt _ | exact valB_lt32 _ (by assumption) | decide +kernel)) (fun vq Mq hR0 => ?_)
 obtain ⟨go1, spo1, cpo1, rfl, hcpo1, hszo1, rfl⟩ := hR0
 refine sP (.slice (some ⟨go1, 0, none⟩) 32 cpo1) ?_
 refine sG <| Sy.ret ?_
 exact retG 1 (go1, 5, ((bytesS x).map bv ++ spo1).toArray) rfl (v := .slice (some ⟨go1, 0, none⟩) 32 cpo1) (.inl (show _ = _ by kernel_rfl)) kR ⟨go1, spo1, cpo1, rfl, hcpo1, hszo1, rfl⟩
theorem cat_own (x y : List UInt8) (s : List Value) : x.map bv ++ (y.map bv ++ s) = (x ++ y).map bv ++ s := by
 rw [List.map_append, List.append_assoc]
theorem tag1R_c {w : World} {nm : ByteArray} (hnm : nm.size ≤ 1000000000) {g g1 : Nat} {t t1 : TypeId} {x : List UInt8} (hx : x.length = 32) (h1 : Blk w g1 t1 (x.map bv).toArray) (hb : Blk w g t #[.slice (some ⟨g1, 0, none⟩) 32 32]) (ht : Sh.TabAt w 0) :
  Calls Tryz.prog 44 #[.string nm, .slice (some ⟨g, 0, none⟩) 1 1] w (Gets w (.agg ((Sh.taggedS nm.data.toList x).map bv).toArray)) := by
 have e : Sh.cat [⟨some ⟨g1, 0, none⟩, x, 32⟩] = x := by simp [Sh.cat]
 have q := Sh.taggedR_any w nm (some ⟨g, 0, none⟩) [⟨some ⟨g1, 0, none⟩, x, 32⟩] 1 (texts_blk (by rw [List.map_cons, List.map_nil, val_key hx]; exact hb) (fun y hy => by rw [List.mem_singleton.1 hy]; exact ok_key h1 hx)) ht hnm (by rw [e, hx]; decide) (by show 1 ≤ 1000000000; omega)
 rw [e] at q
 exact q
theorem mulB_c (w : World) (k : Nat) (hk : k < K4) (u v : Fp) (h : evP k = some (u, v)) : Calls Tryz.prog 30 #[fv k, pv gx.val gy.val false] w (Gets w (pv u.val v.val false)) := by
 have q := mulRe_any w k gx.val gy.val false hk (lt4 _) (lt4 _)
 rw [show dec gx.val gy.val false = bP from dec_fin gx gy bP_on, show Ec.nm finv (k % Sc.pM) bP = _ from h] at q
 exact q
theorem sgR_ok (w : World) (k : Nat) (hk : k < K4) (u v : Fp) (h : evP k = some (u, v)) (d : Nat) (hd : evenR k v.val = d) (hd4 : d < K4) (A : Option Addr) (m : List UInt8) (n c : Nat) (hn : m.length = n) (hm : n ≤ 999999900) (hc : n ≤ c) (hc2 : c ≤ 9223372036854775807) (hs : Sh.Src w A m) (htr : Sh.TabAt w 0) (z : Nat) (hz : nonceS d (bytesS u.val) m = z) (hz4 : z < K4) (p q : Fp) (h2 : evP z = some (p, q)) (d2 : Nat) (hd2 : evenR z q.val = d2) (hd24 : d2 < K4) (e : Nat) (he : chalS (bytesS p.val) (bytesS u.val) m = e) (he4 : e < K4) : Calls Tryz.prog 12 #[fv k, .slice A n c] w (Gets w (.tuple #[.agg ((bytesS p.val ++ bytesS ((d2 + e * d % Sc.pM) % Sc.pM % Sc.pM)).map bv).toArray, .bool true])) := by
 have c1 : ∀ w, Calls Tryz.prog 30 #[fv k, pv gx.val gy.val false] w (Gets w (pv u.val v.val false)) := fun w => mulB_c w k hk u v h
 have c2 : ∀ w, Calls Tryz.prog 30 #[fv z, pv gx.val gy.val false] w (Gets w (pv p.val q.val false)) := fun w => mulB_c w z hz4 p q h2
 have hTl : (bytesS (d % Sc.pM)).length = 32 := bytesS_length _
 have hXl : (xorS (bytesS (d % Sc.pM)) auxM).length = 32 := xorS_len hTl auxM_len
 refine Sy.enter (args := [fv k, .slice A n c]) Tryz.func12 rfl kL ?_
 refine sC ?_
 refine sM 24 (fcs k) (fun g0 => ?_)
 refine sM 27 (Zl 64).toArray (fun g1 => ?_)
 refine sP (.bool false) ?_
 refine sA ?_
 refine sM 27 (Zl 64).toArray (fun g2 => ?_)
 refine sH (fun j => j == 4) ?_
 refine sD 0 rfl (fv k) (qL 0 g0 0 4 24 24 (fcs k) rfl Tryz.underlying24) <| sD 1 rfl (pv gx.val gy.val false) (qF 31 #[] (baseR_c)) <| sD 2 rfl (pv u.val v.val false) (qF 30 #[fv k, pv gx.val gy.val false] (c1)) ?_
 refine sO 3 rfl 71 (pcs 0 0 false) (fun g3 => ?_)
 refine sX 4 rfl 3 g3 71 (pcs 0 0 false) (pcs u.val v.val false) (wS 0 71 (pcs u.val v.val false) rfl) ?_
 refine sI ?_
 refine Sy.seq <| sC ?_
 refine sP (.pointer (some ⟨g3, 8, none⟩)) <| sS (.bool false) (qC 3 g3 8 71 4 (pcs u.val v.val false) rfl Tryz.underlying4) ?_
 refine sG <| sU <| Sy.skip <| sB ?_
 refine sS (fv k) (qL 0 g0 0 4 24 24 (fcs k) rfl Tryz.underlying24) <| sS (pv u.val v.val false) (qL 3 g3 0 9 71 71 (pcs u.val v.val false) rfl Tryz.underlying71) <| sS (fv d) (qF 42 #[fv k, pv u.val v.val false] (fun w => by have h := evenR_any w k u.val v.val false hk (lt4 _) (lt4 _); rwa [hd] at h)) ?_
 refine sM 24 (fcs 0) (fun g4 => ?_)
 refine sW 4 g4 24 (fcs 0) (fcs d) (wS 0 24 (fcs d) rfl) ?_
 refine sA ?_
 refine sS (fv d) (qL 4 g4 0 4 24 24 (fcs d) rfl Tryz.underlying24) ?_
 refine Sy.callN kR 43 #[fv d] kF (fun vq Mq => ∃ (g : Nat) (sp : List Value) (cap : Nat), vq = .slice (some ⟨g, 0, none⟩) 32 cap ∧ (32 ≤ cap ∧ cap ≤ 9223372036854775807) ∧ Mq = [(g, 5, ((bytesS (d % Sc.pM)).map bv ++ sp).toArray)]) (fun w _ => bscN w d (by first | assumption | exact pX_lt _ | exact pY_lt _ | exact lt4 _ | exact Sc.mod_lt _ | exact valB_lt32 _ (by assumption) | decide +kernel)) (fun vq Mq hR0 => ?_)
 obtain ⟨go1, spo1, cpo1, rfl, hcpo1, rfl⟩ := hR0
 refine sP (.slice (some ⟨go1, 0, none⟩) 32 cpo1) ?_
 refine sA ?_
 refine Sy.make kR 5 ((List.replicate 32 (0 : UInt8)).map bv).toArray (fun g => .slice (some ⟨g, 0, none⟩) 32 32) kF (fun g5 => ?_)
 refine Sy.make kR 25 #[.slice (some ⟨g5, 0, none⟩) 32 32] (fun g => .slice (some ⟨g, 0, none⟩) 1 1) kF (fun g6 => ?_)
 refine sS (.agg (auxM.map bv).toArray) (qG 44 #[.string auxNm, .slice (some ⟨g6, 0, none⟩) 1 1] (fun w hw => tag1R_c (by decide) List.length_replicate (hw.get (i := 6) rfl) (hw.get (i := 7) rfl) (htr.below hw.below htr.lt))) ?_
 refine sM 47 (Zl 32).toArray (fun g7 => ?_)
 refine sW 8 g7 47 (Zl 32).toArray (auxM.map bv).toArray (Writes.store 0 47 (auxM.map bv).toArray _ _ rfl kR kR (by rw [key_sz auxM auxM_len]; kernel_rfl) (by rw [key_sz auxM auxM_len]; exact Nat.le_of_ble_eq_true kR) (key_one _) (key_set _ _ (by rw [auxM_len]; kernel_rfl))) ?_
 refine sG <| Sy.seq <| sC ?_
 refine sP (.int .i64 0) ?_
 refine sG <| Sy.block ?_
 refine Sy.loopK 32 (fun k1 => [(1, .slice A n c), (2, .pointer (some ⟨g0, 0, none⟩)), (4, .pointer (some ⟨g1, 0, none⟩)), (5, .bool false), (6, .pointer (some ⟨g2, 0, none⟩)), (7, .pointer (some ⟨g3, 0, none⟩)), (8, .pointer (some ⟨g4, 0, none⟩)), (9, .slice (some ⟨go1, 0, none⟩) 32 cpo1), (10, .pointer (some ⟨g7, 0, none⟩)), (11, .int .i64 ((k1 : Nat) : Int))]) (fun k1 => [(g0, 24, (fcs k)), (g1, 27, (Zl 64).toArray), (g2, 27, (Zl 64).toArray), (g3, 71, (pcs u.val v.val false)), (g4, 24, (fcs d)), (go1, 5, ((mixL (xorS (bytesS (d % Sc.pM)) auxM) (bytesS (d % Sc.pM)) k1).map bv ++ spo1).toArray), (g7, 47, (auxM.map bv).toArray)]) [true, true, true, true, true, true, false, false, true] (M := [(g0, 24, (fcs k)), (g1, 27, (Zl 64).toArray), (g2, 27, (Zl 64).toArray), (g3, 71, (pcs u.val v.val false)), (g4, 24, (fcs d)), (go1, 5, ((bytesS (d % Sc.pM)).map bv ++ spo1).toArray), (g7, 47, (auxM.map bv).toArray)]) (all_cons kR (all_cons kR (all_cons kR (all_cons kR (all_cons kR (all_cons kR (all_cons kR (all_cons kR (all_cons kR (all_cons kR all_nil)))))))))) kR (bcons rfl (bcons rfl (bcons rfl (bcons rfl (bcons rfl (bcons rfl (bcons rfl rfl))))))) (fun k1 hk1 => ?_)
 refine Sy.seq <| sC ?_
 refine sP (.int .i64 ((k1 : Nat) : Int)) ?_
 obtain ⟨b1, hb1⟩ : ∃ z : Bool, z = decide (k1 < 32) := ⟨_, rfl⟩
 refine sS (.bool b1) (Quiet.pure (exec_int .lss _ _ _ .i64 _ _ _ rfl rfl rfl (int_lss _ _ _ _ _ (by rw [hb1]; exact decide_eq_decide.2 (by omega))))) ?_
 refine sG ?_
 cases b1
 ·have lb1 : ¬ (k1 < 32) := of_decide_eq_false hb1.symm
  refine sU <| Sy.exit <| Sy.then_exit <| Sy.then_exit ?_
  obtain rfl : k1 = 32 := by omega
  refine Sy.in_exit <| sB ?_
  refine sP (.slice (some ⟨go1, 0, none⟩) 32 cpo1) <| sS (pv u.val v.val false) (qL 3 g3 0 9 71 71 (pcs u.val v.val false) rfl Tryz.underlying71) ?_
  refine Sy.callN kR 46 #[pv u.val v.val false] kF (fun vq Mq => ∃ (g : Nat) (sp : List Value) (cap : Nat), vq = .slice (some ⟨g, 0, none⟩) 32 cap ∧ (32 ≤ cap ∧ cap ≤ 9223372036854775807) ∧ sp.length + 32 = cap ∧ Mq = [(g, 5, ((bytesS u.val).map bv ++ sp).toArray)]) (fun w _ => xN3_any w u.val v.val false (by first | assumption | exact pX_lt _ | exact pY_lt _ | exact lt4 _ | exact Sc.mod_lt _ | exact valB_lt32 _ (by assumption) | decide +kernel) (by first | assumption | exact pX_lt _ | exact pY_lt _ | exact lt4 _ | exact Sc.mod_lt _ | exact valB_lt32 _ (by assumption) | decide +kernel)) (fun vq Mq hR0 => ?_)
  obtain ⟨go2, spo2, cpo2, rfl, hcpo2, hszo2, rfl⟩ := hR0
  refine sP (.slice A n c) ?_
  refine Sy.make kR 25 #[.slice (some ⟨go1, 0, none⟩) 32 cpo1, .slice (some ⟨go2, 0, none⟩) 32 cpo2, .slice A n c] (fun g => .slice (some ⟨g, 0, none⟩) 3 3) kF (fun g8 => ?_)
  refine sS (fv z) (qG 45 #[.string nonceNm, .slice (some ⟨g8, 0, none⟩) 3 3] (fun w hw => by have q := red3_c (nm := nonceNm) (by decide) (mixL_len hXl hTl (by omega)) (bytesS_length u.val) hn hm hc hc2 (hw.get (i := 5) rfl) hcpo1 (hw.get (i := 7) rfl) hcpo2 (hs.below hw.below) (hw.get (i := 8) rfl) (htr.below hw.below htr.lt); rw [mixL_all hXl hTl] at q; rw [← hz]; exact q)) ?_
  refine sM 24 (fcs 0) (fun g9 => ?_)
  refine sW 9 g9 24 (fcs 0) (fcs z) (wS 0 24 (fcs z) rfl) ?_
  refine sH (fun j => j == 4) ?_
  refine sD 0 rfl (fv z) (qL 9 g9 0 4 24 24 (fcs z) rfl Tryz.underlying24) <| sD 1 rfl (pv gx.val gy.val false) (qF 31 #[] (baseR_c)) <| sD 2 rfl (pv p.val q.val false) (qF 30 #[fv z, pv gx.val gy.val false] (c2)) ?_
  refine sO 3 rfl 71 (pcs 0 0 false) (fun g10 => ?_)
  refine sX 4 rfl 10 g10 71 (pcs 0 0 false) (pcs p.val q.val false) (wS 0 71 (pcs p.val q.val false) rfl) ?_
  refine sI ?_
  refine Sy.seq <| sC ?_
  refine sP (.pointer (some ⟨g10, 8, none⟩)) <| sS (.bool false) (qC 10 g10 8 71 4 (pcs p.val q.val false) rfl Tryz.underlying4) ?_
  refine sG <| sU <| Sy.skip <| sB ?_
  refine sS (fv z) (qL 9 g9 0 4 24 24 (fcs z) rfl Tryz.underlying24) <| sS (pv p.val q.val false) (qL 10 g10 0 9 71 71 (pcs p.val q.val false) rfl Tryz.underlying71) <| sS (fv d2) (qF 42 #[fv z, pv p.val q.val false] (fun w => by have h := evenR_any w z p.val q.val false hz4 (lt4 _) (lt4 _); rwa [hd2] at h)) <| sW 9 g9 24 (fcs z) (fcs d2) (wS 0 24 (fcs d2) rfl) ?_
  refine sH (fun j => j == 8) ?_
  refine sD 0 rfl (pv p.val q.val false) (qL 10 g10 0 9 71 71 (pcs p.val q.val false) rfl Tryz.underlying71) <| sD 2 rfl (pv u.val v.val false) (qL 3 g3 0 9 71 71 (pcs u.val v.val false) rfl Tryz.underlying71) <| sZ 4 rfl (.slice A n c) ?_
  refine Sy.joinG (T := (Nat × List Value × Nat) × (Nat × List Value × Nat) × Nat × Nat) (fun xq => [(1, .slice A n c), (2, .pointer (some ⟨g0, 0, none⟩)), (4, .pointer (some ⟨g1, 0, none⟩)), (5, .bool false), (6, .pointer (some ⟨g2, 0, none⟩)), (7, .pointer (some ⟨g3, 0, none⟩)), (8, .pointer (some ⟨g4, 0, none⟩)), (9, .slice (some ⟨go1, 0, none⟩) 32 cpo1), (10, .pointer (some ⟨g7, 0, none⟩)), (11, .int .i64 ((32 : Nat) : Int)), (12, .pointer (some ⟨g9, 0, none⟩)), (13, .pointer (some ⟨g10, 0, none⟩)), (14, .pointer (some ⟨xq.2.2.2, 0, none⟩)), (32, .int .i64 ((32 : Nat) : Int)), (33, .bool false), (47, .slice (some ⟨go1, 0, none⟩) 32 cpo1), (48, pv u.val v.val false), (49, .slice (some ⟨go2, 0, none⟩) 32 cpo2), (50, .slice A n c), (51, .slice (some ⟨g8, 0, none⟩) 3 3), (52, fv z), (53, fv z), (54, pv gx.val gy.val false), (55, pv p.val q.val false), (56, .pointer (some ⟨g10, 8, none⟩)), (57, .bool false), (59, fv z), (60, pv p.val q.val false), (61, fv d2), (62, pv p.val q.val false), (64, pv u.val v.val false), (66, .slice A n c), (68, fv e)]) (fun xq => [(g0, 24, (fcs k)), (g1, 27, (Zl 64).toArray), (g2, 27, (Zl 64).toArray), (g3, 71, (pcs u.val v.val false)), (g4, 24, (fcs d)), (go1, 5, ((mixL (xorS (bytesS (d % Sc.pM)) auxM) (bytesS (d % Sc.pM)) 32).map bv ++ spo1).toArray), (g7, 47, (auxM.map bv).toArray), (go2, 5, ((bytesS u.val).map bv ++ spo2).toArray), (g8, 25, #[.slice (some ⟨go1, 0, none⟩) 32 cpo1, .slice (some ⟨go2, 0, none⟩) 32 cpo2, .slice A n c]), (g9, 24, (fcs d2)), (g10, 71, (pcs p.val q.val false)), (xq.1.1, 5, ((bytesS p.val).map bv ++ xq.1.2.1).toArray), (xq.2.1.1, 5, ((bytesS u.val).map bv ++ xq.2.1.2.1).toArray), (xq.2.2.1, 25, #[.slice (some ⟨xq.1.1, 0, none⟩) 32 xq.1.2.2, .slice (some ⟨xq.2.1.1, 0, none⟩) 32 xq.2.1.2.2, .slice A n c]), (xq.2.2.2, 24, (fcs 0))]) (fun _ => True) 1 #[true, true, true, true, true, true, true, true, false] (fun xq _ => ?_) (fun fin => ?_)
  ·refine sX 8 rfl 14 xq.2.2.2 24 (fcs 0) (fcs e) (wS 0 24 (fcs e) rfl) ?_
   refine sE ?_
   refine sR (fun j => false) ?_
   refine sD 0 rfl (fv d2) (qL 9 g9 0 4 24 24 (fcs d2) rfl Tryz.underlying24) <| sD 1 rfl (fv e) (qL 14 xq.2.2.2 0 4 24 24 (fcs e) rfl Tryz.underlying24) <| sD 2 rfl (fv d) (qL 4 g4 0 4 24 24 (fcs d) rfl Tryz.underlying24) <| sD 3 rfl (fv (e * d % Sc.pM)) (qF 48 #[fv e, fv d] (fun w => msc_any w e d (by first | assumption | exact pX_lt _ | exact pY_lt _ | exact lt4 _ | exact Sc.mod_lt _ | exact valB_lt32 _ (by assumption) | decide +kernel) (by first | assumption | exact pX_lt _ | exact pY_lt _ | exact lt4 _ | exact Sc.mod_lt _ | exact valB_lt32 _ (by assumption) | decide +kernel))) <| sD 4 rfl (fv ((d2 + (e * d % Sc.pM)) % Sc.pM)) (qF 47 #[fv d2, fv (e * d % Sc.pM)] (fun w => asc_any w d2 (e * d % Sc.pM) (by first | assumption | exact pX_lt _ | exact pY_lt _ | exact lt4 _ | exact Sc.mod_lt _ | exact valB_lt32 _ (by assumption) | decide +kernel) (by first | assumption | exact pX_lt _ | exact pY_lt _ | exact lt4 _ | exact Sc.mod_lt _ | exact valB_lt32 _ (by assumption) | decide +kernel))) ?_
   refine Sy.callND 5 rfl kR kR 43 #[fv ((d2 + (e * d % Sc.pM)) % Sc.pM)] kF (fun vq Mq => ∃ (g : Nat) (sp : List Value) (cap : Nat), vq = .slice (some ⟨g, 0, none⟩) 32 cap ∧ (32 ≤ cap ∧ cap ≤ 9223372036854775807) ∧ Mq = [(g, 5, ((bytesS (((d2 + (e * d % Sc.pM)) % Sc.pM) % Sc.pM)).map bv ++ sp).toArray)]) (fun w _ => bscN w ((d2 + (e * d % Sc.pM)) % Sc.pM) (by first | assumption | exact pX_lt _ | exact pY_lt _ | exact lt4 _ | exact Sc.mod_lt _ | exact valB_lt32 _ (by assumption) | decide +kernel)) (fun vq Mq hR0 => ?_)
   obtain ⟨go3, spo3, cpo3, rfl, hcpo3, rfl⟩ := hR0
   refine sZ 6 rfl (.slice (some ⟨go3, 0, none⟩) 32 cpo3) ?_
   refine sE ?_
   refine sB ?_
   refine sS (pv p.val q.val false) (qL 10 g10 0 9 71 71 (pcs p.val q.val false) rfl Tryz.underlying71) ?_
   refine Sy.callN kR 46 #[pv p.val q.val false] kF (fun vq Mq => ∃ (g : Nat) (sp : List Value) (cap : Nat), vq = .slice (some ⟨g, 0, none⟩) 32 cap ∧ (32 ≤ cap ∧ cap ≤ 9223372036854775807) ∧ sp.length + 32 = cap ∧ Mq = [(g, 5, ((bytesS p.val).map bv ++ sp).toArray)]) (fun w _ => xN3_any w p.val q.val false (by first | assumption | exact pX_lt _ | exact pY_lt _ | exact lt4 _ | exact Sc.mod_lt _ | exact valB_lt32 _ (by assumption) | decide +kernel) (by first | assumption | exact pX_lt _ | exact pY_lt _ | exact lt4 _ | exact Sc.mod_lt _ | exact valB_lt32 _ (by assumption) | decide +kernel)) (fun vq Mq hR0 => ?_)
   obtain ⟨go4, spo4, cpo4, rfl, hcpo4, hszo4, rfl⟩ := hR0
   refine sP (.slice (some ⟨go3, 0, none⟩) 32 cpo3) ?_
   refine Sy.append kR 25 5 _ _ Tryz.underlying25 info_u8 rfl rfl rfl rfl _ _ rfl 16 go4 32 cpo4 ((bytesS p.val).map bv ++ spo4).toArray ((bytesS p.val).map bv) kR kR (own_row (bytesS_length _)) (by rw [List.length_map]; exact (bytesS_length _)) (own_cap2 (bytesS_length _) hszo4) (le_max hcpo4.2) 15 go3 0 32 cpo3 5 ((bytesS (((d2 + (e * d % Sc.pM)) % Sc.pM) % Sc.pM)).map bv ++ spo3).toArray ((bytesS (((d2 + (e * d % Sc.pM)) % Sc.pM) % Sc.pM)).map bv) kR kR (own_row (bytesS_length _)) (by rw [List.length_map]; exact (bytesS_length _)) (one_row _) (by decide) (fun q1 c1 s1 e1 m1 => ?_)
   refine sP (.slice (some ⟨q1, 0, none⟩) (32 + 32) c1) ?_
   refine sG <| Sy.seq <| sC ?_
   refine sP (.int .i64 0) ?_
   refine sG <| Sy.block ?_
   refine Sy.loopK 64 (fun k2 => [(4, .pointer (some ⟨g1, 0, none⟩)), (5, .bool false), (6, .pointer (some ⟨g2, 0, none⟩)), (16, .slice (some ⟨q1, 0, none⟩) 64 c1), (17, .int .i64 ((k2 : Nat) : Int))]) (fun k2 => [(g1, 27, (Zl 64).toArray), (g2, 27, ((mixL ((bytesS p.val) ++ (bytesS (((d2 + (e * d % Sc.pM)) % Sc.pM) % Sc.pM))) (List.replicate 64 (0 : UInt8)) k2).map bv).toArray), (q1, 5, (((bytesS p.val) ++ (bytesS (((d2 + (e * d % Sc.pM)) % Sc.pM) % Sc.pM))).map bv ++ s1).toArray)]) [false, true, true, false, false, false, false, false, false, false, false, false, false, false, false, false, true] (M := [(g1, 27, (Zl 64).toArray), (g2, 27, (Zl 64).toArray), (q1, 5, ((bytesS p.val).map bv ++ ((bytesS (((d2 + (e * d % Sc.pM)) % Sc.pM) % Sc.pM)).map bv ++ s1)).toArray)]) (all_cons kR (all_cons kR (all_cons kR (all_cons kR (all_cons kR all_nil))))) kR (bcons rfl (bcons (beq kR) (bcons (beq (congrArg List.toArray (cat_own _ _ _))) rfl))) (fun k2 hk2 => ?_)
   refine Sy.seq <| sC ?_
   refine sP (.int .i64 ((k2 : Nat) : Int)) ?_
   obtain ⟨b2, hb2⟩ : ∃ z : Bool, z = decide (k2 < 64) := ⟨_, rfl⟩
   refine sS (.bool b2) (Quiet.pure (exec_int .lss _ _ _ .i64 _ _ _ rfl rfl rfl (int_lss _ _ _ _ _ (by rw [hb2]; exact decide_eq_decide.2 (by omega))))) ?_
   refine sG ?_
   cases b2
   ·have lb2 : ¬ (k2 < 64) := of_decide_eq_false hb2.symm
    refine sU <| Sy.exit <| Sy.then_exit <| Sy.then_exit ?_
    obtain rfl : k2 = 64 := by omega
    refine Sy.in_exit <| sB ?_
    refine sS (.agg ((mixL ((bytesS p.val) ++ (bytesS (((d2 + (e * d % Sc.pM)) % Sc.pM) % Sc.pM))) (List.replicate 64 (0 : UInt8)) 64).map bv).toArray) (Quiet.load 1 g2 0 64 27 27 ((mixL ((bytesS p.val) ++ (bytesS (((d2 + (e * d % Sc.pM)) % Sc.pM) % Sc.pM))) (List.replicate 64 (0 : UInt8)) 64).map bv).toArray _ _ rfl kR kR Tryz.underlying27 rfl kR _ (key_whole (mixL ((bytesS p.val) ++ (bytesS (((d2 + (e * d % Sc.pM)) % Sc.pM) % Sc.pM))) (List.replicate 64 (0 : UInt8)) 64) (mixL_len (cat_length (bytesS_length _) (bytesS_length _)) List.length_replicate (by omega))) (key_size (mixL ((bytesS p.val) ++ (bytesS (((d2 + (e * d % Sc.pM)) % Sc.pM) % Sc.pM))) (List.replicate 64 (0 : UInt8)) 64) (mixL_len (cat_length (bytesS_length _) (bytesS_length _)) List.length_replicate (by omega)))) <| sW 0 g1 27 (Zl 64).toArray ((mixL ((bytesS p.val) ++ (bytesS (((d2 + (e * d % Sc.pM)) % Sc.pM) % Sc.pM))) (List.replicate 64 (0 : UInt8)) 64).map bv).toArray (Writes.store 0 27 ((mixL ((bytesS p.val) ++ (bytesS (((d2 + (e * d % Sc.pM)) % Sc.pM) % Sc.pM))) (List.replicate 64 (0 : UInt8)) 64).map bv).toArray _ _ rfl kR kR (by rw [key_sz (mixL ((bytesS p.val) ++ (bytesS (((d2 + (e * d % Sc.pM)) % Sc.pM) % Sc.pM))) (List.replicate 64 (0 : UInt8)) 64) (mixL_len (cat_length (bytesS_length _) (bytesS_length _)) List.length_replicate (by omega))]; kernel_rfl) (by rw [key_sz (mixL ((bytesS p.val) ++ (bytesS (((d2 + (e * d % Sc.pM)) % Sc.pM) % Sc.pM))) (List.replicate 64 (0 : UInt8)) 64) (mixL_len (cat_length (bytesS_length _) (bytesS_length _)) List.length_replicate (by omega))]; exact Nat.le_of_ble_eq_true kR) (key_one _) (key_set _ _ (by rw [(mixL_len (cat_length (bytesS_length _) (bytesS_length _)) List.length_replicate (by omega))]; kernel_rfl))) <| sP (.bool true) ?_
    refine sG <| Sy.ret ?_
    rw [show (.tuple #[.agg ((bytesS p.val ++ bytesS ((d2 + e * d % Sc.pM) % Sc.pM % Sc.pM)).map bv).toArray, .bool true] : Value) = .tuple #[.agg ((mixL ((bytesS p.val) ++ (bytesS (((d2 + (e * d % Sc.pM)) % Sc.pM) % Sc.pM))) (List.replicate 64 (0 : UInt8)) 64).map bv).toArray, .bool true] from by rw [mixL_all (cat_length (bytesS_length _) (bytesS_length _)) List.length_replicate]]
    exact Sy.ret2 (v := .agg ((mixL ((bytesS p.val) ++ (bytesS (((d2 + (e * d % Sc.pM)) % Sc.pM) % Sc.pM))) (List.replicate 64 (0 : UInt8)) 64).map bv).toArray) (u := .bool true) rfl (.inl (Res.cell (ty' := 27) g1 0 ((mixL ((bytesS p.val) ++ (bytesS (((d2 + (e * d % Sc.pM)) % Sc.pM) % Sc.pM))) (List.replicate 64 (0 : UInt8)) 64).map bv).toArray _ kR kR Tryz.underlying27 rfl (by rw [key_sz (mixL ((bytesS p.val) ++ (bytesS (((d2 + (e * d % Sc.pM)) % Sc.pM) % Sc.pM))) (List.replicate 64 (0 : UInt8)) 64) (mixL_len (cat_length (bytesS_length _) (bytesS_length _)) List.length_replicate (by omega))]; kernel_rfl) kR)) (.inl (show _ = _ by kernel_rfl))
   ·have lb2 : k2 < 64 := of_decide_eq_true hb2.symm
    refine sT <| Sy.skip <| Sy.then_ <| Sy.seq <| Sy.block <| Sy.region ?_
    refine sP (.int .i64 ((k2 : Nat) : Int)) <| sP (.slice (some ⟨q1, 0, none⟩) 64 c1) <| sP (.int .i64 ((k2 : Nat) : Int)) <| sS (.pointer (some ⟨q1, 0 + k2 * 1, none⟩)) (Quiet.pure (exec_at 25 _ _ _ q1 0 64 c1 k2 1 .i64 rfl rfl rfl Tryz.underlying25 kF (by omega))) <| sS (bv (((bytesS p.val) ++ (bytesS (((d2 + (e * d % Sc.pM)) % Sc.pM) % Sc.pM))).getD k2 0)) (Quiet.cell 2 q1 (0 + k2 * 1) 5 5 (((bytesS p.val) ++ (bytesS (((d2 + (e * d % Sc.pM)) % Sc.pM) % Sc.pM))).map bv ++ s1).toArray _ _ rfl kR kR Tryz.underlying5 rfl _ (brw_at (cat_length (bytesS_length _) (bytesS_length _)) _ (k := k2) (by omega) (by omega))) <| sS (.pointer (some ⟨g2, 0 + k2 * 1, none⟩)) (Quiet.pure (exec_atA 27 _ _ _ g2 0 _ k2 1 .i64 rfl rfl rfl Tryz.underlying27 kF (by omega))) <| sW 1 g2 27 ((mixL ((bytesS p.val) ++ (bytesS (((d2 + (e * d % Sc.pM)) % Sc.pM) % Sc.pM))) (List.replicate 64 (0 : UInt8)) k2).map bv).toArray (((mixL ((bytesS p.val) ++ (bytesS (((d2 + (e * d % Sc.pM)) % Sc.pM) % Sc.pM))) (List.replicate 64 (0 : UInt8)) k2).set k2 (((bytesS p.val) ++ (bytesS (((d2 + (e * d % Sc.pM)) % Sc.pM) % Sc.pM))).getD k2 0)).map bv).toArray (Writes.one (0 + k2 * 1) 5 (bv (((bytesS p.val) ++ (bytesS (((d2 + (e * d % Sc.pM)) % Sc.pM) % Sc.pM))).getD k2 0)) _ _ rfl kR kR kR rfl rfl (key_fits (mixL_len (cat_length (bytesS_length _) (bytesS_length _)) List.length_replicate (by omega)) (k := k2) (by omega) (by omega)) (key_sets _ (by omega))) ?_
    refine Sy.nil <| Sy.in_ <| Sy.then_ <| Sy.region ?_
    refine sP (.int .i64 ((k2 : Nat) : Int)) <| sS (.int .i64 ((k2 + 1 : Nat) : Int)) (Quiet.pure (exec_int .add _ _ _ .i64 _ _ _ rfl rfl rfl (int_add _ _ _ _ _ ((wrap_i64 (by omega) (by omega)).trans (by omega))))) <| sP (.int .i64 ((k2 + 1 : Nat) : Int)) ?_
    refine Sy.nil ?_
    exact Sy.againK [true, true, true] (M := [(g1, 27, (Zl 64).toArray), (g2, 27, (((mixL ((bytesS p.val) ++ (bytesS (((d2 + (e * d % Sc.pM)) % Sc.pM) % Sc.pM))) (List.replicate 64 (0 : UInt8)) k2).set k2 (((bytesS p.val) ++ (bytesS (((d2 + (e * d % Sc.pM)) % Sc.pM) % Sc.pM))).getD k2 0)).map bv).toArray), (q1, 5, (((bytesS p.val) ++ (bytesS (((d2 + (e * d % Sc.pM)) % Sc.pM) % Sc.pM))).map bv ++ s1).toArray)]) (by omega) (all_cons kR (all_cons kR (all_cons kR (all_cons kR (all_cons kR all_nil))))) kR (bcons rfl (bcons (beq (congrArg (fun l : List UInt8 => (l.map bv).toArray) (mixL_succ (cat_length (bytesS_length _) (bytesS_length _)) List.length_replicate (by omega)))) (bcons rfl rfl)))
  ·refine Sy.anyOf [1, 7] kR (by decide) (Sy.each2 ?_ ?_)
   ·refine Sy.oneCallN rfl kR 46 #[pv p.val q.val false] kF (fun vq Mq => ∃ (g : Nat) (sp : List Value) (cap : Nat), vq = .slice (some ⟨g, 0, none⟩) 32 cap ∧ (32 ≤ cap ∧ cap ≤ 9223372036854775807) ∧ sp.length + 32 = cap ∧ Mq = [(g, 5, ((bytesS p.val).map bv ++ sp).toArray)]) (fun w _ => xN3_any w p.val q.val false (by first | assumption | exact pX_lt _ | exact pY_lt _ | exact lt4 _ | exact Sc.mod_lt _ | exact valB_lt32 _ (by assumption) | decide +kernel) (by first | assumption | exact pX_lt _ | exact pY_lt _ | exact lt4 _ | exact Sc.mod_lt _ | exact valB_lt32 _ (by assumption) | decide +kernel)) (fun vq Mq hR0 => ?_)
    obtain ⟨go5, spo5, cpo5, rfl, hcpo5, hszo5, rfl⟩ := hR0
    refine Sy.anyOf [3, 7] kR (by decide) (Sy.each2 ?_ ?_)
    ·refine Sy.oneCallN rfl kR 46 #[pv u.val v.val false] kF (fun vq Mq => ∃ (g : Nat) (sp : List Value) (cap : Nat), vq = .slice (some ⟨g, 0, none⟩) 32 cap ∧ (32 ≤ cap ∧ cap ≤ 9223372036854775807) ∧ sp.length + 32 = cap ∧ Mq = [(g, 5, ((bytesS u.val).map bv ++ sp).toArray)]) (fun w _ => xN3_any w u.val v.val false (by first | assumption | exact pX_lt _ | exact pY_lt _ | exact lt4 _ | exact Sc.mod_lt _ | exact valB_lt32 _ (by assumption) | decide +kernel) (by first | assumption | exact pX_lt _ | exact pY_lt _ | exact lt4 _ | exact Sc.mod_lt _ | exact valB_lt32 _ (by assumption) | decide +kernel)) (fun vq Mq hR0 => ?_)
     obtain ⟨go6, spo6, cpo6, rfl, hcpo6, hszo6, rfl⟩ := hR0
     refine Sy.anyOf [5, 7] kR (by decide) (Sy.each2 ?_ ?_)
     ·refine Sy.oneMake rfl kR 25 #[.slice (some ⟨go5, 0, none⟩) 32 cpo5, .slice (some ⟨go6, 0, none⟩) 32 cpo6, .slice A n c] (fun g => .slice (some ⟨g, 0, none⟩) 3 3) kF (fun g11 => ?_)
      refine Sy.anyOf [6, 7] kR (by decide) (Sy.each2 ?_ ?_)
      ·refine Sy.oneQuiet rfl kR (fv e) (qG 45 #[.string challengeNm, .slice (some ⟨g11, 0, none⟩) 3 3] (fun w hw => by have q := red3_c (nm := challengeNm) (by decide) (bytesS_length p.val) (bytesS_length u.val) hn hm hc hc2 (hw.get (i := 11) rfl) hcpo5 (hw.get (i := 12) rfl) hcpo6 (hs.below hw.below) (hw.get (i := 13) rfl) (htr.below hw.below htr.lt); rw [← he]; exact q)) ?_
       refine Sy.anyOf [7] kR (by decide) (Sy.each1 ?_)
       ·refine Sy.oneMake rfl kR 24 (fcs 0) ptr kF (fun g12 => ?_)
        exact Sy.leafP fin ((go5, spo5, cpo5), (go6, spo6, cpo6), g11, g12) trivial [0, 1, 2, 3, 4, 5, 6, 7, 8, 9, 10, 11, 12, 13, 14] kR (all_cons kR (all_cons kR (all_cons kR (all_cons kR (all_cons kR (all_cons kR (all_cons kR (all_cons kR (all_cons kR (all_cons kR (all_cons kR (all_cons kR (all_cons kR (all_cons kR (all_cons kR (all_cons kR (all_cons kR (all_cons kR (all_cons kR (all_cons kR (all_cons kR (all_cons kR (all_cons kR (all_cons kR (all_cons kR (all_cons kR (all_cons kR (all_cons kR (all_cons kR (all_cons kR (all_cons kR (all_cons kR (all_cons kR all_nil))))))))))))))))))))))))))))))))) kR kR
      ·refine Sy.oneMake rfl kR 24 (fcs 0) ptr kF (fun g13 => ?_)
       refine Sy.anyOf [6] kR (by decide) (Sy.each1 ?_)
       ·refine Sy.oneQuiet rfl kR (fv e) (qG 45 #[.string challengeNm, .slice (some ⟨g11, 0, none⟩) 3 3] (fun w hw => by have q := red3_c (nm := challengeNm) (by decide) (bytesS_length p.val) (bytesS_length u.val) hn hm hc hc2 (hw.get (i := 11) rfl) hcpo5 (hw.get (i := 12) rfl) hcpo6 (hs.below hw.below) (hw.get (i := 13) rfl) (htr.below hw.below htr.lt); rw [← he]; exact q)) ?_
        exact Sy.leafP fin ((go5, spo5, cpo5), (go6, spo6, cpo6), g11, g13) trivial [0, 1, 2, 3, 4, 5, 6, 7, 8, 9, 10, 11, 12, 13, 14] kR (all_cons kR (all_cons kR (all_cons kR (all_cons kR (all_cons kR (all_cons kR (all_cons kR (all_cons kR (all_cons kR (all_cons kR (all_cons kR (all_cons kR (all_cons kR (all_cons kR (all_cons kR (all_cons kR (all_cons kR (all_cons kR (all_cons kR (all_cons kR (all_cons kR (all_cons kR (all_cons kR (all_cons kR (all_cons kR (all_cons kR (all_cons kR (all_cons kR (all_cons kR (all_cons kR (all_cons kR (all_cons kR (all_cons kR all_nil))))))))))))))))))))))))))))))))) kR kR
     ·refine Sy.oneMake rfl kR 24 (fcs 0) ptr kF (fun g14 => ?_)
      refine Sy.anyOf [5] kR (by decide) (Sy.each1 ?_)
      ·refine Sy.oneMake rfl kR 25 #[.slice (some ⟨go5, 0, none⟩) 32 cpo5, .slice (some ⟨go6, 0, none⟩) 32 cpo6, .slice A n c] (fun g => .slice (some ⟨g, 0, none⟩) 3 3) kF (fun g15 => ?_)
       refine Sy.anyOf [6] kR (by decide) (Sy.each1 ?_)
       ·refine Sy.oneQuiet rfl kR (fv e) (qG 45 #[.string challengeNm, .slice (some ⟨g15, 0, none⟩) 3 3] (fun w hw => by have q := red3_c (nm := challengeNm) (by decide) (bytesS_length p.val) (bytesS_length u.val) hn hm hc hc2 (hw.get (i := 11) rfl) hcpo5 (hw.get (i := 12) rfl) hcpo6 (hs.below hw.below) (hw.get (i := 14) rfl) (htr.below hw.below htr.lt); rw [← he]; exact q)) ?_
        exact Sy.leafP fin ((go5, spo5, cpo5), (go6, spo6, cpo6), g15, g14) trivial [0, 1, 2, 3, 4, 5, 6, 7, 8, 9, 10, 11, 12, 14, 13] kR (all_cons kR (all_cons kR (all_cons kR (all_cons kR (all_cons kR (all_cons kR (all_cons kR (all_cons kR (all_cons kR (all_cons kR (all_cons kR (all_cons kR (all_cons kR (all_cons kR (all_cons kR (all_cons kR (all_cons kR (all_cons kR (all_cons kR (all_cons kR (all_cons kR (all_cons kR (all_cons kR (all_cons kR (all_cons kR (all_cons kR (all_cons kR (all_cons kR (all_cons kR (all_cons kR (all_cons kR (all_cons kR (all_cons kR all_nil))))))))))))))))))))))))))))))))) kR kR
    ·refine Sy.oneMake rfl kR 24 (fcs 0) ptr kF (fun g16 => ?_)
     refine Sy.anyOf [3] kR (by decide) (Sy.each1 ?_)
     ·refine Sy.oneCallN rfl kR 46 #[pv u.val v.val false] kF (fun vq Mq => ∃ (g : Nat) (sp : List Value) (cap : Nat), vq = .slice (some ⟨g, 0, none⟩) 32 cap ∧ (32 ≤ cap ∧ cap ≤ 9223372036854775807) ∧ sp.length + 32 = cap ∧ Mq = [(g, 5, ((bytesS u.val).map bv ++ sp).toArray)]) (fun w _ => xN3_any w u.val v.val false (by first | assumption | exact pX_lt _ | exact pY_lt _ | exact lt4 _ | exact Sc.mod_lt _ | exact valB_lt32 _ (by assumption) | decide +kernel) (by first | assumption | exact pX_lt _ | exact pY_lt _ | exact lt4 _ | exact Sc.mod_lt _ | exact valB_lt32 _ (by assumption) | decide +kernel)) (fun vq Mq hR0 => ?_)
      obtain ⟨go7, spo7, cpo7, rfl, hcpo7, hszo7, rfl⟩ := hR0
      refine Sy.anyOf [5] kR (by decide) (Sy.each1 ?_)
      ·refine Sy.oneMake rfl kR 25 #[.slice (some ⟨go5, 0, none⟩) 32 cpo5, .slice (some ⟨go7, 0, none⟩) 32 cpo7, .slice A n c] (fun g => .slice (some ⟨g, 0, none⟩) 3 3) kF (fun g17 => ?_)
       refine Sy.anyOf [6] kR (by decide) (Sy.each1 ?_)
       ·refine Sy.oneQuiet rfl kR (fv e) (qG 45 #[.string challengeNm, .slice (some ⟨g17, 0, none⟩) 3 3] (fun w hw => by have q := red3_c (nm := challengeNm) (by decide) (bytesS_length p.val) (bytesS_length u.val) hn hm hc hc2 (hw.get (i := 11) rfl) hcpo5 (hw.get (i := 13) rfl) hcpo7 (hs.below hw.below) (hw.get (i := 14) rfl) (htr.below hw.below htr.lt); rw [← he]; exact q)) ?_
        exact Sy.leafP fin ((go5, spo5, cpo5), (go7, spo7, cpo7), g17, g16) trivial [0, 1, 2, 3, 4, 5, 6, 7, 8, 9, 10, 11, 13, 14, 12] kR (all_cons kR (all_cons kR (all_cons kR (all_cons kR (all_cons kR (all_cons kR (all_cons kR (all_cons kR (all_cons kR (all_cons kR (all_cons kR (all_cons kR (all_cons kR (all_cons kR (all_cons kR (all_cons kR (all_cons kR (all_cons kR (all_cons kR (all_cons kR (all_cons kR (all_cons kR (all_cons kR (all_cons kR (all_cons kR (all_cons kR (all_cons kR (all_cons kR (all_cons kR (all_cons kR (all_cons kR (all_cons kR (all_cons kR all_nil))))))))))))))))))))))))))))))))) kR kR
   ·refine Sy.oneMake rfl kR 24 (fcs 0) ptr kF (fun g18 => ?_)
    refine Sy.anyOf [1] kR (by decide) (Sy.each1 ?_)
    ·refine Sy.oneCallN rfl kR 46 #[pv p.val q.val false] kF (fun vq Mq => ∃ (g : Nat) (sp : List Value) (cap : Nat), vq = .slice (some ⟨g, 0, none⟩) 32 cap ∧ (32 ≤ cap ∧ cap ≤ 9223372036854775807) ∧ sp.length + 32 = cap ∧ Mq = [(g, 5, ((bytesS p.val).map bv ++ sp).toArray)]) (fun w _ => xN3_any w p.val q.val false (by first | assumption | exact pX_lt _ | exact pY_lt _ | exact lt4 _ | exact Sc.mod_lt _ | exact valB_lt32 _ (by assumption) | decide +kernel) (by first | assumption | exact pX_lt _ | exact pY_lt _ | exact lt4 _ | exact Sc.mod_lt _ | exact valB_lt32 _ (by assumption) | decide +kernel)) (fun vq Mq hR0 => ?_)
     obtain ⟨go8, spo8, cpo8, rfl, hcpo8, hszo8, rfl⟩ := hR0
     refine Sy.anyOf [3] kR (by decide) (Sy.each1 ?_)
     ·refine Sy.oneCallN rfl kR 46 #[pv u.val v.val false] kF (fun vq Mq => ∃ (g : Nat) (sp : List Value) (cap : Nat), vq = .slice (some ⟨g, 0, none⟩) 32 cap ∧ (32 ≤ cap ∧ cap ≤ 9223372036854775807) ∧ sp.length + 32 = cap ∧ Mq = [(g, 5, ((bytesS u.val).map bv ++ sp).toArray)]) (fun w _ => xN3_any w u.val v.val false (by first | assumption | exact pX_lt _ | exact pY_lt _ | exact lt4 _ | exact Sc.mod_lt _ | exact valB_lt32 _ (by assumption) | decide +kernel) (by first | assumption | exact pX_lt _ | exact pY_lt _ | exact lt4 _ | exact Sc.mod_lt _ | exact valB_lt32 _ (by assumption) | decide +kernel)) (fun vq Mq hR0 => ?_)
      obtain ⟨go9, spo9, cpo9, rfl, hcpo9, hszo9, rfl⟩ := hR0
      refine Sy.anyOf [5] kR (by decide) (Sy.each1 ?_)
      ·refine Sy.oneMake rfl kR 25 #[.slice (some ⟨go8, 0, none⟩) 32 cpo8, .slice (some ⟨go9, 0, none⟩) 32 cpo9, .slice A n c] (fun g => .slice (some ⟨g, 0, none⟩) 3 3) kF (fun g19 => ?_)
       refine Sy.anyOf [6] kR (by decide) (Sy.each1 ?_)
       ·refine Sy.oneQuiet rfl kR (fv e) (qG 45 #[.string challengeNm, .slice (some ⟨g19, 0, none⟩) 3 3] (fun w hw => by have q := red3_c (nm := challengeNm) (by decide) (bytesS_length p.val) (bytesS_length u.val) hn hm hc hc2 (hw.get (i := 12) rfl) hcpo8 (hw.get (i := 13) rfl) hcpo9 (hs.below hw.below) (hw.get (i := 14) rfl) (htr.below hw.below htr.lt); rw [← he]; exact q)) ?_
        exact Sy.leafP fin ((go8, spo8, cpo8), (go9, spo9, cpo9), g19, g18) trivial [0, 1, 2, 3, 4, 5, 6, 7, 8, 9, 10, 12, 13, 14, 11] kR (all_cons kR (all_cons kR (all_cons kR (all_cons kR (all_cons kR (all_cons kR (all_cons kR (all_cons kR (all_cons kR (all_cons kR (all_cons kR (all_cons kR (all_cons kR (all_cons kR (all_cons kR (all_cons kR (all_cons kR (all_cons kR (all_cons kR (all_cons kR (all_cons kR (all_cons kR (all_cons kR (all_cons kR (all_cons kR (all_cons kR (all_cons kR (all_cons kR (all_cons kR (all_cons kR (all_cons kR (all_cons kR (all_cons kR all_nil))))))))))))))))))))))))))))))))) kR kR
 ·have lb1 : k1 < 32 := of_decide_eq_true hb1.symm
  refine sT <| Sy.skip <| Sy.then_ <| Sy.seq <| Sy.block ?_
  refine Sy.regionD (fun j => j == 11) kR ?_
  refine sZ 0 rfl (.slice (some ⟨go1, 0, none⟩) 32 cpo1) <| sZ 1 rfl (.int .i64 ((k1 : Nat) : Int)) <| sZ 2 rfl (.slice (some ⟨go1, 0, none⟩) 32 cpo1) <| sZ 3 rfl (.int .i64 ((k1 : Nat) : Int)) <| sD 4 rfl (.pointer (some ⟨go1, 0 + k1 * 1, none⟩)) (Quiet.pure (exec_at 25 _ _ _ go1 0 32 cpo1 k1 1 .i64 rfl rfl rfl Tryz.underlying25 kF (by omega))) <| sD 5 rfl (bv ((bytesS (d % Sc.pM)).getD k1 0)) (Quiet.cell 5 go1 (0 + k1 * 1) 5 5 ((mixL (xorS (bytesS (d % Sc.pM)) auxM) (bytesS (d % Sc.pM)) k1).map bv ++ spo1).toArray _ _ rfl kR kR Tryz.underlying5 rfl _ ((brw_at (mixL_len (xorS_len (bytesS_length _) auxM_len) (bytesS_length _) (by omega)) _ (k := k1) (by omega) (by omega)).trans (congrArg (fun z => some (bv z)) (mixL_get (xorS_len (bytesS_length _) auxM_len) (bytesS_length _) (by omega))))) <| sZ 6 rfl (.int .i64 ((k1 : Nat) : Int)) <| sD 7 rfl (.pointer (some ⟨g7, 0 + k1 * 1, none⟩)) (Quiet.pure (exec_atA 47 _ _ _ g7 0 _ k1 1 .i64 rfl rfl rfl Tryz.underlying47 kF (by omega))) ?_
  refine sD 8 rfl (bv (auxM.getD k1 0)) (Quiet.cell 6 g7 (0 + k1 * 1) 47 5 (auxM.map bv).toArray _ _ rfl kR kR Tryz.underlying5 rfl _ (key_sym auxM_len (k := k1) (by omega) (by omega))) <| sD 9 rfl (bv (((bytesS (d % Sc.pM)).getD k1 0) ^^^ (auxM.getD k1 0))) (Quiet.pure (fun w => xor_bv w _ _ _ _ ((bytesS (d % Sc.pM)).getD k1 0) (auxM.getD k1 0) rfl rfl rfl)) <| sD 10 rfl (.pointer (some ⟨go1, 0 + k1 * 1, none⟩)) (Quiet.pure (exec_at 25 _ _ _ go1 0 32 cpo1 k1 1 .i64 rfl rfl rfl Tryz.underlying25 kF (by omega))) <| sX 11 rfl 5 go1 5 ((mixL (xorS (bytesS (d % Sc.pM)) auxM) (bytesS (d % Sc.pM)) k1).map bv ++ spo1).toArray (((mixL (xorS (bytesS (d % Sc.pM)) auxM) (bytesS (d % Sc.pM)) k1).set k1 (((bytesS (d % Sc.pM)).getD k1 0) ^^^ (auxM.getD k1 0))).map bv ++ spo1).toArray (Writes.one (0 + k1 * 1) 5 (bv (((bytesS (d % Sc.pM)).getD k1 0) ^^^ (auxM.getD k1 0))) _ _ rfl kR kR kR rfl rfl (brw_fit (mixL_len (xorS_len (bytesS_length _) auxM_len) (bytesS_length _) (by omega)) _ (k := k1) (by omega) (by omega)) (brw_set (mixL_len (xorS_len (bytesS_length _) auxM_len) (bytesS_length _) (by omega)) _ _ (by omega) (by omega))) ?_
  refine sE ?_
  refine Sy.in_ <| Sy.then_ <| Sy.region ?_
  refine sP (.int .i64 ((k1 : Nat) : Int)) <| sS (.int .i64 ((k1 + 1 : Nat) : Int)) (Quiet.pure (exec_int .add _ _ _ .i64 _ _ _ rfl rfl rfl (int_add _ _ _ _ _ ((wrap_i64 (by omega) (by omega)).trans (by omega))))) <| sP (.int .i64 ((k1 + 1 : Nat) : Int)) ?_
  refine Sy.nil ?_
  exact Sy.againK [true, true, true, true, true, true, true] (M := [(g0, 24, (fcs k)), (g1, 27, (Zl 64).toArray), (g2, 27, (Zl 64).toArray), (g3, 71, (pcs u.val v.val false)), (g4, 24, (fcs d)), (go1, 5, (((mixL (xorS (bytesS (d % Sc.pM)) auxM) (bytesS (d % Sc.pM)) k1).set k1 (((bytesS (d % Sc.pM)).getD k1 0) ^^^ (auxM.getD k1 0))).map bv ++ spo1).toArray), (g7, 47, (auxM.map bv).toArray)]) (by omega) (all_cons kR (all_cons kR (all_cons kR (all_cons kR (all_cons kR (all_cons kR (all_cons kR (all_cons kR (all_cons kR (all_cons kR all_nil)))))))))) kR (bcons rfl (bcons rfl (bcons rfl (bcons rfl (bcons rfl (bcons (beq (congrArg (fun l : List UInt8 => (l.map bv ++ spo1).toArray) (xor_step (bytesS_length _) auxM_len (by omega)))) (bcons rfl rfl)))))))
theorem mulB_no (w : World) (k : Nat) (hk : k < K4) (h : evP k = none) : Calls Tryz.prog 30 #[fv k, pv gx.val gy.val false] w (Gets w (pv 0 0 true)) := by
 have q := mulRe_any w k gx.val gy.val false hk (lt4 _) (lt4 _)
 rw [show dec gx.val gy.val false = bP from dec_fin gx gy bP_on, show Ec.nm finv (k % Sc.pM) bP = _ from h] at q
 exact q
theorem sgR_none (w : World) (k : Nat) (hk : k < K4) (h : evP k = none) (A : Option Addr) (m : List UInt8) (n c : Nat) (hn : m.length = n) (hm : n ≤ 999999900) (hc : n ≤ c) (hc2 : c ≤ 9223372036854775807) (hs : Sh.Src w A m) (htr : Sh.TabAt w 0) : Calls Tryz.prog 12 #[fv k, .slice A n c] w (Gets w (.tuple #[.agg ((List.replicate 64 (0 : UInt8)).map bv).toArray, .bool false])) := by
 have c1 : ∀ w, Calls Tryz.prog 30 #[fv k, pv gx.val gy.val false] w (Gets w (pv 0 0 true)) := fun w => mulB_no w k hk h
 refine Sy.enter (args := [fv k, .slice A n c]) Tryz.func12 rfl kL ?_
 refine sC ?_
 refine sM 24 (fcs k) (fun g0 => ?_)
 refine sM 27 (Zl 64).toArray (fun g1 => ?_)
 refine sP (.bool false) ?_
 refine sA ?_
 refine sM 27 (Zl 64).toArray (fun g2 => ?_)
 refine sH (fun j => j == 4) ?_
 refine sD 0 rfl (fv k) (qL 0 g0 0 4 24 24 (fcs k) rfl Tryz.underlying24) <| sD 1 rfl (pv gx.val gy.val false) (qF 31 #[] (baseR_c)) <| sD 2 rfl (pv 0 0 true) (qF 30 #[fv k, pv gx.val gy.val false] (c1)) ?_
 refine sO 3 rfl 71 (pcs 0 0 false) (fun g3 => ?_)
 refine sX 4 rfl 3 g3 71 (pcs 0 0 false) (pcs 0 0 true) (wS 0 71 (pcs 0 0 true) rfl) ?_
 refine sI ?_
 refine Sy.seq <| sC ?_
 refine sP (.pointer (some ⟨g3, 8, none⟩)) <| sS (.bool true) (qC 3 g3 8 71 4 (pcs 0 0 true) rfl Tryz.underlying4) ?_
 refine sG <| sT <| sC ?_
 refine sS (.agg ((Zl 64) : List Value).toArray) (qL 2 g2 0 64 27 27 (Zl 64).toArray rfl Tryz.underlying27) <| sW 1 g1 27 (Zl 64).toArray (Zl 64).toArray (wS 0 27 (Zl 64).toArray rfl) <| sP (.bool false) ?_
 refine sG <| Sy.ret <| Sy.then_ret ?_
 rw [show (.tuple #[.agg ((List.replicate 64 (0 : UInt8)).map bv).toArray, .bool false] : Value) = .tuple #[.agg ((Zl 64) : List Value).toArray, .bool false] from by kernel_rfl]
 exact Sy.ret2 (v := .agg ((Zl 64) : List Value).toArray) (u := .bool false) rfl (.inl (Res.cell (ty' := 27) g1 1 (Zl 64).toArray _ kR kR Tryz.underlying27 rfl kR kR)) (.inl (show _ = _ by kernel_rfl))
theorem sgR_no2 (w : World) (k : Nat) (hk : k < K4) (u v : Fp) (h : evP k = some (u, v)) (d : Nat) (hd : evenR k v.val = d) (hd4 : d < K4) (A : Option Addr) (m : List UInt8) (n c : Nat) (hn : m.length = n) (hm : n ≤ 999999900) (hc : n ≤ c) (hc2 : c ≤ 9223372036854775807) (hs : Sh.Src w A m) (htr : Sh.TabAt w 0) (z : Nat) (hz : nonceS d (bytesS u.val) m = z) (hz4 : z < K4) (h2 : evP z = none) : Calls Tryz.prog 12 #[fv k, .slice A n c] w (Gets w (.tuple #[.agg ((List.replicate 64 (0 : UInt8)).map bv).toArray, .bool false])) := by
 have c1 : ∀ w, Calls Tryz.prog 30 #[fv k, pv gx.val gy.val false] w (Gets w (pv u.val v.val false)) := fun w => mulB_c w k hk u v h
 have c2 : ∀ w, Calls Tryz.prog 30 #[fv z, pv gx.val gy.val false] w (Gets w (pv 0 0 true)) := fun w => mulB_no w z hz4 h2
 have hTl : (bytesS (d % Sc.pM)).length = 32 := bytesS_length _
 have hXl : (xorS (bytesS (d % Sc.pM)) auxM).length = 32 := xorS_len hTl auxM_len
 refine Sy.enter (args := [fv k, .slice A n c]) Tryz.func12 rfl kL ?_
 refine sC ?_
 refine sM 24 (fcs k) (fun g0 => ?_)
 refine sM 27 (Zl 64).toArray (fun g1 => ?_)
 refine sP (.bool false) ?_
 refine sA ?_
 refine sM 27 (Zl 64).toArray (fun g2 => ?_)
 refine sH (fun j => j == 4) ?_
 refine sD 0 rfl (fv k) (qL 0 g0 0 4 24 24 (fcs k) rfl Tryz.underlying24) <| sD 1 rfl (pv gx.val gy.val false) (qF 31 #[] (baseR_c)) <| sD 2 rfl (pv u.val v.val false) (qF 30 #[fv k, pv gx.val gy.val false] (c1)) ?_
 refine sO 3 rfl 71 (pcs 0 0 false) (fun g3 => ?_)
 refine sX 4 rfl 3 g3 71 (pcs 0 0 false) (pcs u.val v.val false) (wS 0 71 (pcs u.val v.val false) rfl) ?_
 refine sI ?_
 refine Sy.seq <| sC ?_
 refine sP (.pointer (some ⟨g3, 8, none⟩)) <| sS (.bool false) (qC 3 g3 8 71 4 (pcs u.val v.val false) rfl Tryz.underlying4) ?_
 refine sG <| sU <| Sy.skip <| sB ?_
 refine sS (fv k) (qL 0 g0 0 4 24 24 (fcs k) rfl Tryz.underlying24) <| sS (pv u.val v.val false) (qL 3 g3 0 9 71 71 (pcs u.val v.val false) rfl Tryz.underlying71) <| sS (fv d) (qF 42 #[fv k, pv u.val v.val false] (fun w => by have h := evenR_any w k u.val v.val false hk (lt4 _) (lt4 _); rwa [hd] at h)) ?_
 refine sM 24 (fcs 0) (fun g4 => ?_)
 refine sW 4 g4 24 (fcs 0) (fcs d) (wS 0 24 (fcs d) rfl) ?_
 refine sA ?_
 refine sS (fv d) (qL 4 g4 0 4 24 24 (fcs d) rfl Tryz.underlying24) ?_
 refine Sy.callN kR 43 #[fv d] kF (fun vq Mq => ∃ (g : Nat) (sp : List Value) (cap : Nat), vq = .slice (some ⟨g, 0, none⟩) 32 cap ∧ (32 ≤ cap ∧ cap ≤ 9223372036854775807) ∧ Mq = [(g, 5, ((bytesS (d % Sc.pM)).map bv ++ sp).toArray)]) (fun w _ => bscN w d (by first | assumption | exact pX_lt _ | exact pY_lt _ | exact lt4 _ | exact Sc.mod_lt _ | exact valB_lt32 _ (by assumption) | decide +kernel)) (fun vq Mq hR0 => ?_)
 obtain ⟨go1, spo1, cpo1, rfl, hcpo1, rfl⟩ := hR0
 refine sP (.slice (some ⟨go1, 0, none⟩) 32 cpo1) ?_
 refine sA ?_
 refine Sy.make kR 5 ((List.replicate 32 (0 : UInt8)).map bv).toArray (fun g => .slice (some ⟨g, 0, none⟩) 32 32) kF (fun g5 => ?_)
 refine Sy.make kR 25 #[.slice (some ⟨g5, 0, none⟩) 32 32] (fun g => .slice (some ⟨g, 0, none⟩) 1 1) kF (fun g6 => ?_)
 refine sS (.agg (auxM.map bv).toArray) (qG 44 #[.string auxNm, .slice (some ⟨g6, 0, none⟩) 1 1] (fun w hw => tag1R_c (by decide) List.length_replicate (hw.get (i := 6) rfl) (hw.get (i := 7) rfl) (htr.below hw.below htr.lt))) ?_
 refine sM 47 (Zl 32).toArray (fun g7 => ?_)
 refine sW 8 g7 47 (Zl 32).toArray (auxM.map bv).toArray (Writes.store 0 47 (auxM.map bv).toArray _ _ rfl kR kR (by rw [key_sz auxM auxM_len]; kernel_rfl) (by rw [key_sz auxM auxM_len]; exact Nat.le_of_ble_eq_true kR) (key_one _) (key_set _ _ (by rw [auxM_len]; kernel_rfl))) ?_
 refine sG <| Sy.seq <| sC ?_
 refine sP (.int .i64 0) ?_
 refine sG <| Sy.block ?_
 refine Sy.loopK 32 (fun k1 => [(1, .slice A n c), (2, .pointer (some ⟨g0, 0, none⟩)), (4, .pointer (some ⟨g1, 0, none⟩)), (5, .bool false), (6, .pointer (some ⟨g2, 0, none⟩)), (7, .pointer (some ⟨g3, 0, none⟩)), (8, .pointer (some ⟨g4, 0, none⟩)), (9, .slice (some ⟨go1, 0, none⟩) 32 cpo1), (10, .pointer (some ⟨g7, 0, none⟩)), (11, .int .i64 ((k1 : Nat) : Int))]) (fun k1 => [(g0, 24, (fcs k)), (g1, 27, (Zl 64).toArray), (g2, 27, (Zl 64).toArray), (g3, 71, (pcs u.val v.val false)), (g4, 24, (fcs d)), (go1, 5, ((mixL (xorS (bytesS (d % Sc.pM)) auxM) (bytesS (d % Sc.pM)) k1).map bv ++ spo1).toArray), (g7, 47, (auxM.map bv).toArray)]) [true, true, true, true, true, true, false, false, true] (M := [(g0, 24, (fcs k)), (g1, 27, (Zl 64).toArray), (g2, 27, (Zl 64).toArray), (g3, 71, (pcs u.val v.val false)), (g4, 24, (fcs d)), (go1, 5, ((bytesS (d % Sc.pM)).map bv ++ spo1).toArray), (g7, 47, (auxM.map bv).toArray)]) (all_cons kR (all_cons kR (all_cons kR (all_cons kR (all_cons kR (all_cons kR (all_cons kR (all_cons kR (all_cons kR (all_cons kR all_nil)))))))))) kR (bcons rfl (bcons rfl (bcons rfl (bcons rfl (bcons rfl (bcons rfl (bcons rfl rfl))))))) (fun k1 hk1 => ?_)
 refine Sy.seq <| sC ?_
 refine sP (.int .i64 ((k1 : Nat) : Int)) ?_
 obtain ⟨b1, hb1⟩ : ∃ z : Bool, z = decide (k1 < 32) := ⟨_, rfl⟩
 refine sS (.bool b1) (Quiet.pure (exec_int .lss _ _ _ .i64 _ _ _ rfl rfl rfl (int_lss _ _ _ _ _ (by rw [hb1]; exact decide_eq_decide.2 (by omega))))) ?_
 refine sG ?_
 cases b1
 ·have lb1 : ¬ (k1 < 32) := of_decide_eq_false hb1.symm
  refine sU <| Sy.exit <| Sy.then_exit <| Sy.then_exit ?_
  obtain rfl : k1 = 32 := by omega
  refine Sy.in_exit <| sB ?_
  refine sP (.slice (some ⟨go1, 0, none⟩) 32 cpo1) <| sS (pv u.val v.val false) (qL 3 g3 0 9 71 71 (pcs u.val v.val false) rfl Tryz.underlying71) ?_
  refine Sy.callN kR 46 #[pv u.val v.val false] kF (fun vq Mq => ∃ (g : Nat) (sp : List Value) (cap : Nat), vq = .slice (some ⟨g, 0, none⟩) 32 cap ∧ (32 ≤ cap ∧ cap ≤ 9223372036854775807) ∧ sp.length + 32 = cap ∧ Mq = [(g, 5, ((bytesS u.val).map bv ++ sp).toArray)]) (fun w _ => xN3_any w u.val v.val false (by first | assumption | exact pX_lt _ | exact pY_lt _ | exact lt4 _ | exact Sc.mod_lt _ | exact valB_lt32 _ (by assumption) | decide +kernel) (by first | assumption | exact pX_lt _ | exact pY_lt _ | exact lt4 _ | exact Sc.mod_lt _ | exact valB_lt32 _ (by assumption) | decide +kernel)) (fun vq Mq hR0 => ?_)
  obtain ⟨go2, spo2, cpo2, rfl, hcpo2, hszo2, rfl⟩ := hR0
  refine sP (.slice A n c) ?_
  refine Sy.make kR 25 #[.slice (some ⟨go1, 0, none⟩) 32 cpo1, .slice (some ⟨go2, 0, none⟩) 32 cpo2, .slice A n c] (fun g => .slice (some ⟨g, 0, none⟩) 3 3) kF (fun g8 => ?_)
  refine sS (fv z) (qG 45 #[.string nonceNm, .slice (some ⟨g8, 0, none⟩) 3 3] (fun w hw => by have q := red3_c (nm := nonceNm) (by decide) (mixL_len hXl hTl (by omega)) (bytesS_length u.val) hn hm hc hc2 (hw.get (i := 5) rfl) hcpo1 (hw.get (i := 7) rfl) hcpo2 (hs.below hw.below) (hw.get (i := 8) rfl) (htr.below hw.below htr.lt); rw [mixL_all hXl hTl] at q; rw [← hz]; exact q)) ?_
  refine sM 24 (fcs 0) (fun g9 => ?_)
  refine sW 9 g9 24 (fcs 0) (fcs z) (wS 0 24 (fcs z) rfl) ?_
  refine sH (fun j => j == 4) ?_
  refine sD 0 rfl (fv z) (qL 9 g9 0 4 24 24 (fcs z) rfl Tryz.underlying24) <| sD 1 rfl (pv gx.val gy.val false) (qF 31 #[] (baseR_c)) <| sD 2 rfl (pv 0 0 true) (qF 30 #[fv z, pv gx.val gy.val false] (c2)) ?_
  refine sO 3 rfl 71 (pcs 0 0 false) (fun g10 => ?_)
  refine sX 4 rfl 10 g10 71 (pcs 0 0 false) (pcs 0 0 true) (wS 0 71 (pcs 0 0 true) rfl) ?_
  refine sI ?_
  refine Sy.seq <| sC ?_
  refine sP (.pointer (some ⟨g10, 8, none⟩)) <| sS (.bool true) (qC 10 g10 8 71 4 (pcs 0 0 true) rfl Tryz.underlying4) ?_
  refine sG <| sT <| sC ?_
  refine sS (.agg ((Zl 64) : List Value).toArray) (qL 2 g2 0 64 27 27 (Zl 64).toArray rfl Tryz.underlying27) <| sW 1 g1 27 (Zl 64).toArray (Zl 64).toArray (wS 0 27 (Zl 64).toArray rfl) <| sP (.bool false) ?_
  refine sG <| Sy.ret <| Sy.then_ret ?_
  rw [show (.tuple #[.agg ((List.replicate 64 (0 : UInt8)).map bv).toArray, .bool false] : Value) = .tuple #[.agg ((Zl 64) : List Value).toArray, .bool false] from by kernel_rfl]
  exact Sy.ret2 (v := .agg ((Zl 64) : List Value).toArray) (u := .bool false) rfl (.inl (Res.cell (ty' := 27) g1 1 (Zl 64).toArray _ kR kR Tryz.underlying27 rfl kR kR)) (.inl (show _ = _ by kernel_rfl))
 ·have lb1 : k1 < 32 := of_decide_eq_true hb1.symm
  refine sT <| Sy.skip <| Sy.then_ <| Sy.seq <| Sy.block ?_
  refine Sy.regionD (fun j => j == 11) kR ?_
  refine sZ 0 rfl (.slice (some ⟨go1, 0, none⟩) 32 cpo1) <| sZ 1 rfl (.int .i64 ((k1 : Nat) : Int)) <| sZ 2 rfl (.slice (some ⟨go1, 0, none⟩) 32 cpo1) <| sZ 3 rfl (.int .i64 ((k1 : Nat) : Int)) <| sD 4 rfl (.pointer (some ⟨go1, 0 + k1 * 1, none⟩)) (Quiet.pure (exec_at 25 _ _ _ go1 0 32 cpo1 k1 1 .i64 rfl rfl rfl Tryz.underlying25 kF (by omega))) <| sD 5 rfl (bv ((bytesS (d % Sc.pM)).getD k1 0)) (Quiet.cell 5 go1 (0 + k1 * 1) 5 5 ((mixL (xorS (bytesS (d % Sc.pM)) auxM) (bytesS (d % Sc.pM)) k1).map bv ++ spo1).toArray _ _ rfl kR kR Tryz.underlying5 rfl _ ((brw_at (mixL_len (xorS_len (bytesS_length _) auxM_len) (bytesS_length _) (by omega)) _ (k := k1) (by omega) (by omega)).trans (congrArg (fun z => some (bv z)) (mixL_get (xorS_len (bytesS_length _) auxM_len) (bytesS_length _) (by omega))))) <| sZ 6 rfl (.int .i64 ((k1 : Nat) : Int)) <| sD 7 rfl (.pointer (some ⟨g7, 0 + k1 * 1, none⟩)) (Quiet.pure (exec_atA 47 _ _ _ g7 0 _ k1 1 .i64 rfl rfl rfl Tryz.underlying47 kF (by omega))) ?_
  refine sD 8 rfl (bv (auxM.getD k1 0)) (Quiet.cell 6 g7 (0 + k1 * 1) 47 5 (auxM.map bv).toArray _ _ rfl kR kR Tryz.underlying5 rfl _ (key_sym auxM_len (k := k1) (by omega) (by omega))) <| sD 9 rfl (bv (((bytesS (d % Sc.pM)).getD k1 0) ^^^ (auxM.getD k1 0))) (Quiet.pure (fun w => xor_bv w _ _ _ _ ((bytesS (d % Sc.pM)).getD k1 0) (auxM.getD k1 0) rfl rfl rfl)) <| sD 10 rfl (.pointer (some ⟨go1, 0 + k1 * 1, none⟩)) (Quiet.pure (exec_at 25 _ _ _ go1 0 32 cpo1 k1 1 .i64 rfl rfl rfl Tryz.underlying25 kF (by omega))) <| sX 11 rfl 5 go1 5 ((mixL (xorS (bytesS (d % Sc.pM)) auxM) (bytesS (d % Sc.pM)) k1).map bv ++ spo1).toArray (((mixL (xorS (bytesS (d % Sc.pM)) auxM) (bytesS (d % Sc.pM)) k1).set k1 (((bytesS (d % Sc.pM)).getD k1 0) ^^^ (auxM.getD k1 0))).map bv ++ spo1).toArray (Writes.one (0 + k1 * 1) 5 (bv (((bytesS (d % Sc.pM)).getD k1 0) ^^^ (auxM.getD k1 0))) _ _ rfl kR kR kR rfl rfl (brw_fit (mixL_len (xorS_len (bytesS_length _) auxM_len) (bytesS_length _) (by omega)) _ (k := k1) (by omega) (by omega)) (brw_set (mixL_len (xorS_len (bytesS_length _) auxM_len) (bytesS_length _) (by omega)) _ _ (by omega) (by omega))) ?_
  refine sE ?_
  refine Sy.in_ <| Sy.then_ <| Sy.region ?_
  refine sP (.int .i64 ((k1 : Nat) : Int)) <| sS (.int .i64 ((k1 + 1 : Nat) : Int)) (Quiet.pure (exec_int .add _ _ _ .i64 _ _ _ rfl rfl rfl (int_add _ _ _ _ _ ((wrap_i64 (by omega) (by omega)).trans (by omega))))) <| sP (.int .i64 ((k1 + 1 : Nat) : Int)) ?_
  refine Sy.nil ?_
  exact Sy.againK [true, true, true, true, true, true, true] (M := [(g0, 24, (fcs k)), (g1, 27, (Zl 64).toArray), (g2, 27, (Zl 64).toArray), (g3, 71, (pcs u.val v.val false)), (g4, 24, (fcs d)), (go1, 5, (((mixL (xorS (bytesS (d % Sc.pM)) auxM) (bytesS (d % Sc.pM)) k1).set k1 (((bytesS (d % Sc.pM)).getD k1 0) ^^^ (auxM.getD k1 0))).map bv ++ spo1).toArray), (g7, 47, (auxM.map bv).toArray)]) (by omega) (all_cons kR (all_cons kR (all_cons kR (all_cons kR (all_cons kR (all_cons kR (all_cons kR (all_cons kR (all_cons kR (all_cons kR all_nil)))))))))) kR (bcons rfl (bcons rfl (bcons rfl (bcons rfl (bcons rfl (bcons (beq (congrArg (fun l : List UInt8 => (l.map bv ++ spo1).toArray) (xor_step (bytesS_length _) auxM_len (by omega)))) (bcons rfl rfl)))))))
theorem ans_eq (a b e : Nat) : Sc.addP a (Sc.mulP e b) % Sc.pM = (a % Sc.pM + e * (b % Sc.pM) % Sc.pM) % Sc.pM % Sc.pM := by
 unfold Sc.addP Sc.mulP
 rw [Nat.mod_add_mod, Nat.mul_mod_mod]
theorem signR_any (w : World) (k : Nat) (hk : k < K4) (A : Option Addr) (m : List UInt8) (n c : Nat) (hn : m.length = n) (hm : n ≤ 999999900) (hc : n ≤ c) (hc2 : c ≤ 9223372036854775807) (hs : Sh.Src w A m) (htr : Sh.TabAt w 0) : Calls Tryz.prog 12 #[fv k, .slice A n c] w (Gets w (.tuple #[.agg ((signL k m).map bv).toArray, .bool (signB k m)])) := by
 rcases h : evP k with _ | ⟨u, v⟩
 ·have hB : signB k m = false := by unfold signB; rw [h]; rfl
  have hL : signL k m = List.replicate 64 0 := by unfold signL; rw [hB]; rfl
  rw [hL, hB]
  exact sgR_none w k hk h A m n c hn hm hc hc2 hs htr
 ·have hd := evenR_is h
  have hd4 : evenR k v.val < K4 := by rw [hd]; exact Sc.mod_lt _
  have hz : nonceS (evenR k v.val) (bytesS u.val) m = nonS k m := by
   unfold nonS nonceS
   rw [hd, h, Nat.mod_mod]
   rfl
  rcases h2 : evP (nonS k m) with _ | ⟨p, q⟩
  ·have hB : signB k m = false := by unfold signB; rw [h2, Bool.and_eq_false_iff]; exact .inr rfl
   have hL : signL k m = List.replicate 64 0 := by unfold signL; rw [hB]; rfl
   rw [hL, hB]
   exact sgR_no2 w k hk u v h _ rfl hd4 A m n c hn hm hc hc2 hs htr _ hz (nonS_lt k m) h2
  ·have hB : signB k m = true := by unfold signB; rw [h, h2]; rfl
   have hd2 := evenR_is h2
   have hd24 : evenR (nonS k m) q.val < K4 := by rw [hd2]; exact Sc.mod_lt _
   have e1 : evX (some (u, v)) = bytesS u.val := rfl
   have e2 : evX (some (p, q)) = bytesS p.val := rfl
   have hL : signL k m = bytesS p.val ++ bytesS ((evenR (nonS k m) q.val + chalS (bytesS p.val) (bytesS u.val) m * evenR k v.val % Sc.pM) % Sc.pM % Sc.pM) := by
    unfold signL
    rw [if_pos hB]
    unfold sigS ansS
    rw [h2, h, e1, e2, hd, hd2, ans_eq]
   rw [hL, hB]
   exact sgR_ok w k hk u v h _ rfl hd4 A m n c hn hm hc hc2 hs htr _ hz (nonS_lt k m) p q h2 _ rfl hd24 _ rfl (chalS_lt _ _ _)
end Go.Proofs.YtfhcpdbahbbmaaaGreatDoor.Cu

end
section
namespace Go.Proofs.YtfhcpdbahbbmaaaGreatDoor.Sy
open Go.RowKit Go.Proofs.YtfhcpdbahbbmaaaGreatDoor
section
variable {P : Program} {w0 : Base} {n : Nat} {Q : Exit → Act → World → Prop} {F : Slots} {L : Blocks} {ops : Array Oper} {o : Oper} {l : List Oper}
def From (w0 : Base) (L : Blocks) (A : Option Addr) (news : List Value) : Prop := ∀ w, St w0 w L → (news = [] ∨ ∃ a, A = some a ∧ ∀ j u, news[j]? = some u → w.cell? (a.add j) = some u)
theorem appendG (hg : good ops n F o = true) (ts e : TypeId) (inf : TypeInfo) (z : Value) (sz by_ : Nat) (ht : P.underlying ts = some (.slice e)) (hinf : P.info? e = some inf) (hz : inf.zero = some z) (hs1 : inf.size = sz) (hb1 : inf.bytes = by_) (hzs : z.cells.size = sz) (h0 : 0 < sz)
  (s x : Operand) (ho : o.op = .call { callee := .builtin .append, args := #[s, x], argTypes := #[ts, ts] })
  (i g len cap : Nat) (old sp : List Value) (hs : evF F s = .slice (some ⟨g, 0, none⟩) len cap) (hL : L[i]? = some (g, e, (old ++ sp).toArray)) (hlen : old.length = len * sz) (hsp : sp.length + len * sz = cap * sz) (hmax : cap ≤ maxLen)
  (A : Option Addr) (m c : Nat) (news : List Value) (hx : evF F x = .slice A m c) (hf : From w0 L A news) (hm : news.length = m * sz) (hmc : m ≤ c) (h1 : ∀ u ∈ news, u.oneCell' = true) (hsmall : (len + m) * by_ ≤ 140737488355328) (h63 : len + m ≤ maxLen)
  (h : ∀ (g' cap' : Nat) (sp' : List Value), sp'.length + (len + m) * sz = cap' * sz → len + m ≤ cap' → cap' ≤ maxLen → wpS P w0 n ops Q (putF F o.dst (.slice (some ⟨g', 0, none⟩) (len + m) cap')) (L.set i (g', e, (old ++ news ++ sp').toArray)) l) : wpS P w0 n ops Q F L (o :: l) := fun a w ha hw => by
 obtain ⟨k1, _, k3, _⟩ := good_spec hg
 refine wpList_step fun K hK => ?_
 rw [if_pos (ha.wanted k1)]
 have hb := hw.get hL
 have hle : len ≤ cap := Nat.le_of_mul_le_mul_right (by omega) h0
 have step : ∀ v' w', (Builtin.append_ #[ts, ts] o.type #[.slice (some ⟨g, 0, none⟩) len cap, .slice A m c]).run P w = .ok v' w' → K (a.put o.dst v') w' → o.wp P a w K Q := fun v' w' hr hk => by
  unfold Oper.wp
  rw [good_exec hg ha]
  unfold execOp
  simp only [ho, resolve, invoke, builtin, Sem.run_bind, Sem.run_pure, Result.andThen_ok, List.map_toArray, List.map_cons, List.map_nil, hs, hx, hr]
  exact hk
 rcases hf w hw with rfl | ⟨ad, rfl, hn⟩
 ·have hm0 : m = 0 := by
   rcases Nat.eq_zero_or_pos m with h | h
   ·exact h
   ·have := Nat.mul_pos h h0
    simp at hm
    omega
  subst hm0
  have hr : (Builtin.append_ #[ts, ts] o.type #[.slice (some ⟨g, 0, none⟩) len cap, .slice A 0 c]).run P w = .ok (.slice (some ⟨g, 0, none⟩) len cap) w := by
   have hfc : (Builtin.firstCells inf.size 0 (.slice A 0 c)).run P w = .ok #[] w := by
    cases A with
    | none => simp [Builtin.firstCells, Sem.run_pure]
    | some a => simpa using run_firstCells_some (P := P) w inf.size 0 a 0 c [] (by simp) (fun j u hj => by cases hj)
   have hst : ∀ a : Addr, (storeCells a []).run P w = .ok () w := fun a => by simp [storeCells, Sem.run_pure]
   simp [Builtin.append_, run_underlying ht, sizeOf, typeInfo, hinf, hle, Builtin.lenOf, hfc, hst]
  refine step _ w hr ?_
  have hset : L.set i (g, e, (old ++ [] ++ sp).toArray) = L := by
   rw [List.append_nil]
   refine List.ext_getElem? fun j => ?_
   rw [List.getElem?_set]
   by_cases e' : i = j
   ·subst e'
    rw [if_pos rfl, if_pos (List.getElem?_eq_some_iff.1 hL).1, hL]
   ·rw [if_neg e']
  refine hK _ _ (h g cap sp (by simpa using hsp) (by omega) hmax _ _ (ha.put k3 _) ?_)
  rw [hset]
  exact hw
 ·have hown : w.ownsRow 0 e sz (.slice (some ⟨g, 0, none⟩) len cap) len old := ⟨hlen, .inr ⟨g, cap, _, rfl, Nat.zero_le _, hb, hle, hmax, by rw [List.size_toArray, List.length_append]; omega, by show (old ++ sp).take _ = old; rw [List.take_left' hlen]⟩⟩
  have last : ∀ (w' : World) (g' cap' : Nat) (cur : Array Value), cur.size = cap' * sz → len + m ≤ cap' → cap' ≤ maxLen → cur.toList.take ((len + m) * sz) = old ++ news → St w0 w' (L.set i (g', e, cur)) → K (a.put o.dst (.slice (some ⟨g', 0, none⟩) (len + m) cap')) w' := fun w' g' cap' cur h2 h2' h3 h4 h5 => by
   have hc : cur = (old ++ news ++ cur.toList.drop ((len + m) * sz)).toArray := by
    rw [← h4, List.take_append_drop]
   rw [hc] at h5
   refine hK _ _ (h g' cap' _ ?_ h2' h3 _ _ (ha.put k3 _) h5)
   have h6 := Nat.mul_le_mul_right sz h2'
   rw [List.length_drop, Array.length_toList, h2]
   omega
  rcases Nat.lt_or_ge cap (len + m) with hlt | hge
  ·obtain ⟨v', w', hr, hrow, hgr⟩ := run_append_arg_grows (P := P) w ts o.type e inf z sz by_ ht hinf hz hs1 hb1 hzs h0 ⟨g, 0, none⟩ len cap old hlen (hown.cells (g := g) rfl) ad m c news hm hn hlt h63 hsmall
   refine step v' w' hr ?_
   rcases hrow.2 with ⟨rfl, h0'⟩ | ⟨g', cap', cur, rfl, q1, q2, q3, q4, q5, q6⟩
   ·omega
   ·exact last w' g' cap' cur q5 q3 q4 q6 (hw.setNew (⟨hgr.os, hgr.tape, hgr.output, hgr.size, fun k hk => hgr.block k hk (by simp)⟩) (List.getElem?_eq_some_iff.1 hL).1 q1 q2)
  ·obtain ⟨w', hr, hrow, hgr⟩ := run_append_own_spare (P := P) w 0 ts o.type e inf sz ht hinf hs1 g len cap old hown ad m c news hm hn h1 hge
   refine step _ w' hr ?_
   rcases hrow.2 with ⟨h0', _⟩ | ⟨g', cap', cur, hv, _, q2, q3, q4, q5, q6⟩
   ·cases h0'
   ·cases hv
    exact last w' g cap cur q5 q3 q4 q6 (hw.set hL hgr q2)
theorem appendE (hg : good ops n F o = true) (ts e : TypeId) (inf : TypeInfo) (z : Value) (sz by_ : Nat) (ht : P.underlying ts = some (.slice e)) (hinf : P.info? e = some inf) (hz : inf.zero = some z) (hs1 : inf.size = sz) (hb1 : inf.bytes = by_) (hzs : z.cells.size = sz) (h0 : 0 < sz)
  (s x : Operand) (ho : o.op = .call { callee := .builtin .append, args := #[s, x], argTypes := #[ts, ts] })
  (i g : Nat) (hs : evF F s = .slice (some ⟨g, 0, none⟩) 0 0) (hL : L[i]? = some (g, e, #[]))
  (A : Option Addr) (m c : Nat) (news : List Value) (hx : evF F x = .slice A m c) (hf : From w0 L A news) (hm : news.length = m * sz) (hmc : m ≤ c) (h1 : ∀ u ∈ news, u.oneCell' = true) (hsmall : m * by_ ≤ 140737488355328) (h63 : m ≤ maxLen)
  (h : ∀ (g' cap' : Nat) (sp' : List Value), sp'.length + m * sz = cap' * sz → m ≤ cap' → cap' ≤ maxLen → wpS P w0 n ops Q (putF F o.dst (.slice (some ⟨g', 0, none⟩) m cap')) (L.set i (g', e, (news ++ sp').toArray)) l) : wpS P w0 n ops Q F L (o :: l) :=
 appendG hg ts e inf z sz by_ ht hinf hz hs1 hb1 hzs h0 s x ho i g 0 0 [] [] hs hL (by simp) (by simp) (Nat.zero_le _) A m c news hx hf hm hmc h1 (by rw [Nat.zero_add]; exact hsmall) (by rw [Nat.zero_add]; exact h63) (fun g' cap' sp' h1 h2 h3 => by
  rw [Nat.zero_add] at h1 h2 ⊢
  exact h g' cap' sp' h1 h2 h3)
end
end Go.Proofs.YtfhcpdbahbbmaaaGreatDoor.Sy

end
section
namespace Go.Proofs.YtfhcpdbahbbmaaaGreatDoor.Cu
open Go.RowKit Go.Proofs.YtfhcpdbahbbmaaaGreatDoor Go.Proofs.YtfhcpdbahbbmaaaGreatDoor.Sy

theorem Sy.Quiet.readZ {P : Program} {w0 : Base} {F : Slots} {L : Blocks} {o : Oper} {v : Value} (h : ∀ w, St w0 w L → (execOp (evF F) o).run P w = .ok (.value v) w) : Quiet P w0 F L o v := fun w hw => by
 unfold Gives; rw [h w hw]; exact ⟨rfl, Gr.refl _⟩
theorem strZ_of {w : World} {A : Option Addr} {m : List UInt8} {c : Nat} (h : Sh.Src w A m) : (convert 25 9 (.slice A m.length c)).run Tryz.prog w = .ok (.string ⟨m.toArray⟩) w := by
 rcases m with _ | ⟨x, m⟩
 ·cases A with
  | none =>
   rw [show ([] : List UInt8).length = 0 from rfl, run_convert_bytes_string w 25 9 5 none 0 c Tryz.underlying25 Tryz.underlying5 Tryz.underlying9]
   rfl
  | some a => exact run_convert_bytes_back w 25 9 5 a c [] Tryz.underlying25 Tryz.underlying5 Tryz.underlying9 (fun j hj => absurd hj (Nat.not_lt_zero _))
 ·obtain ⟨b, o, rfl, _, hc⟩ := h (by simp)
  refine run_convert_bytes_back w 25 9 5 _ c _ Tryz.underlying25 Tryz.underlying5 Tryz.underlying9 (fun j hj => ?_)
  rw [addr_off]
  exact hc j _ (List.getElem?_eq_getElem hj)
theorem strZ {w0 : Base} {F : Slots} {L : Blocks} {o : Oper} (A : Option Addr) (m : List UInt8) (k c : Nat) (x : Operand) (ho : o.op = .convert 25 9 x) (hx : evF F x = .slice A k c) (hm : m.length = k) (hs : ∀ w, St w0 w L → Sh.Src w A m) : Quiet Tryz.prog w0 F L o (.string ⟨m.toArray⟩) := Sy.Quiet.readZ fun w hw => by
 have h := strZ_of (c := c) (hs w hw)
 rw [hm] at h
 unfold execOp
 simp only [ho, hx, Sem.run_bind, h, Result.andThen_ok, Sem.run_pure]
theorem eql_strZ (w : World) (F : Slots) (o : Oper) (x y : Operand) (a b : List UInt8) {yt : TypeId} (ho : o.op = .binOp .eql 9 x y yt) (hx : evF F x = .string ⟨a.toArray⟩) (hy : evF F y = .string ⟨b.toArray⟩) : (execOp (evF F) o).run Tryz.prog w = .ok (.value (.bool (decide (a = b)))) w := by
 have h1 : (eqGuard .eql 9 x y (.string ⟨a.toArray⟩) (.string ⟨b.toArray⟩)).run Tryz.prog w = .ok () w := by go_simp
 have h2 : (binOp .eql 9 (.string ⟨a.toArray⟩) (.string ⟨b.toArray⟩)).run Tryz.prog w = .ok (.bool (decide (a = b))) w := by
  by_cases e : a = b <;> simp [go_sem, ByteArray.toList_eq, e]
 unfold execOp
 simp only [ho, hx, hy, Sem.run_bind, h1, h2, Result.andThen_ok, Sem.run_pure]
theorem from_src {w0 : Base} {L : Blocks} {A : Option Addr} {m : List UInt8} (h : Sh.Src w0.world A m) : From w0 L A (m.map bv) := fun w hw => by
 rcases m with _ | ⟨x, m⟩
 ·exact .inl rfl
 ·obtain ⟨b, o, rfl, _, hc⟩ := (h.below hw.below) (by simp)
  refine .inr ⟨_, rfl, fun j u hj => ?_⟩
  rw [addr_off]
  rw [List.getElem?_map] at hj
  cases hx : (x :: m)[j]? with
  | none => rw [hx] at hj; cases hj
  | some y =>
   rw [hx] at hj
   cases hj
   exact hc j y hx
end Go.Proofs.YtfhcpdbahbbmaaaGreatDoor.Cu

end
section
namespace Go.Proofs.YtfhcpdbahbbmaaaGreatDoor.Cu
open Go.RowKit Go.Proofs.YtfhcpdbahbbmaaaGreatDoor Go.Proofs.YtfhcpdbahbbmaaaGreatDoor.Sy

set_option maxHeartbeats 4000000 in
set_option maxRecDepth 100000 in
theorem law_sigsigns (w : World) (sec : Nat) (hsec : sec < K4) (A : Option Addr) (m : List UInt8) (n c : Nat) (hn : m.length = n) (hm : n ≤ 999999900) (hc : n ≤ c) (hc2 : c ≤ 9223372036854775807) (hs : Sh.Src w A m) (ht : Sh.TabAt w 1) (htr : Sh.TabAt w 0) : Calls Tryz.prog 3 #[fv sec, .slice A n c] w (Gets w (.bool true)) := by
 obtain ⟨S, hS⟩ : ∃ S, S = signL sec m := ⟨_, rfl⟩
 obtain ⟨K, hK⟩ : ∃ K, K = evX (evP sec) := ⟨_, rfl⟩
 obtain ⟨b0, hb0⟩ : ∃ b, b = signB sec m := ⟨_, rfl⟩
 obtain ⟨b1, hb1⟩ : ∃ b, b = (evP sec).isSome := ⟨_, rfl⟩
 have hSl : S.length = 64 := by rw [hS]; exact signL_length _ _
 have hKl : K.length = 32 := by rw [hK]; exact evX_length _
 refine Sy.enter (args := [fv sec, .slice A n c]) Tryz.func3 rfl kL ?_
 refine sC ?_
 refine sM 24 (fcs sec) (fun g0 => ?_)
 refine sP (.bool false) ?_
 refine sA ?_
 refine Sy.make kR 5 #[] (fun g => .slice (some ⟨g, 0, none⟩) 0 0) kF (fun g1 => ?_)
 refine sP (.slice A n c) ?_
 refine Sy.appendE kR 25 5 _ _ 1 1 Tryz.underlying25 info_u8 rfl rfl rfl rfl (by decide) _ _ rfl 1 g1 kR kR A n c (m.map bv) kR (from_src hs) (by rw [List.length_map, hn, Nat.mul_one]) hc (one_row _) (by omega) (by simp only [maxLen]; omega) (fun q1 c1 s1 e1 f1 m1 => ?_)
 have l1 : n ≤ c1 ∧ c1 ≤ 9223372036854775807 := ⟨f1, by simp only [maxLen] at m1; omega⟩
 refine sP (.slice (some ⟨q1, 0, none⟩) n c1) ?_
 refine sA ?_
 refine sS (fv sec) (qL 0 g0 0 4 24 24 (fcs sec) rfl Tryz.underlying24) <| sP (.slice (some ⟨q1, 0, none⟩) n c1) <| sS (.tuple #[.agg (S.map bv).toArray, .bool b0]) (qG 11 #[fv sec, .slice (some ⟨q1, 0, none⟩) n c1] (fun w hw => by have q := Sign_any w sec hsec (some ⟨q1, 0, none⟩) m n c1 hn hm l1.1 l1.2 (src_own (hw.get (i := 1) rfl)) (ht.below hw.below ht.lt); rw [← hS, ← hb0] at q; exact q)) <| sP (.tuple #[.agg (S.map bv).toArray, .bool b0]) <| sP (.agg (S.map bv).toArray) <| sP (.bool b0) ?_
 refine sM 27 (Zl 64).toArray (fun g2 => ?_)
 refine sW 2 g2 27 (Zl 64).toArray (S.map bv).toArray (Writes.store 0 27 (S.map bv).toArray _ _ rfl kR kR (by rw [key_sz S hSl]; kernel_rfl) (by rw [key_sz S hSl]; exact Nat.le_of_ble_eq_true kR) (key_one _) (key_set _ _ (by rw [hSl]; kernel_rfl))) <| sP (.bool b0) ?_
 refine sA ?_
 refine sS (fv sec) (qL 0 g0 0 4 24 24 (fcs sec) rfl Tryz.underlying24) <| sP (.slice A n c) <| sS (.tuple #[.agg (S.map bv).toArray, .bool b0]) (qG 12 #[fv sec, .slice A n c] (fun w hw => by have q := signR_any w sec hsec A m n c hn hm hc hc2 (hs.below hw.below) (htr.below hw.below htr.lt); rw [← hS, ← hb0] at q; exact q)) <| sP (.tuple #[.agg (S.map bv).toArray, .bool b0]) <| sP (.agg (S.map bv).toArray) <| sP (.bool b0) ?_
 refine sM 27 (Zl 64).toArray (fun g3 => ?_)
 refine sW 3 g3 27 (Zl 64).toArray (S.map bv).toArray (Writes.store 0 27 (S.map bv).toArray _ _ rfl kR kR (by rw [key_sz S hSl]; kernel_rfl) (by rw [key_sz S hSl]; exact Nat.le_of_ble_eq_true kR) (key_one _) (key_set _ _ (by rw [hSl]; kernel_rfl))) <| sP (.bool b0) ?_
 refine sA ?_
 refine sS (fv sec) (qL 0 g0 0 4 24 24 (fcs sec) rfl Tryz.underlying24) <| sS (.tuple #[.agg (K.map bv).toArray, .bool b1]) (qF 13 #[fv sec] (fun w => by have q := public_any w sec hsec; rw [← hK, ← hb1] at q; exact q)) <| sP (.tuple #[.agg (K.map bv).toArray, .bool b1]) <| sP (.agg (K.map bv).toArray) <| sP (.bool b1) ?_
 refine sM 31 (Zl 32).toArray (fun g4 => ?_)
 refine sW 4 g4 31 (Zl 32).toArray (K.map bv).toArray (Writes.store 0 31 (K.map bv).toArray _ _ rfl kR kR (by rw [key_sz K hKl]; kernel_rfl) (by rw [key_sz K hKl]; exact Nat.le_of_ble_eq_true kR) (key_one _) (key_set _ _ (by rw [hKl]; kernel_rfl))) <| sP (.bool b1) ?_
 refine sA ?_
 refine sS (fv sec) (qL 0 g0 0 4 24 24 (fcs sec) rfl Tryz.underlying24) <| sS (.tuple #[.agg (K.map bv).toArray, .bool b1]) (qF 14 #[fv sec] (fun w => by have q := pubR_any w sec hsec; rw [← hK, ← hb1] at q; exact q)) <| sP (.tuple #[.agg (K.map bv).toArray, .bool b1]) <| sP (.agg (K.map bv).toArray) <| sP (.bool b1) ?_
 refine sM 31 (Zl 32).toArray (fun g5 => ?_)
 refine sW 5 g5 31 (Zl 32).toArray (K.map bv).toArray (Writes.store 0 31 (K.map bv).toArray _ _ rfl kR kR (by rw [key_sz K hKl]; kernel_rfl) (by rw [key_sz K hKl]; exact Nat.le_of_ble_eq_true kR) (key_one _) (key_set _ _ (by rw [hKl]; kernel_rfl))) <| sP (.bool b1) ?_
 refine sA ?_
 refine sS (.bool true) (qG 15 #[] (fun w hw => alive6 w (ht.below hw.below ht.lt))) <| sP (.bool true) <| sS (.agg (S.map bv).toArray) (Quiet.load 2 g2 0 64 27 27 (S.map bv).toArray _ _ rfl kR kR Tryz.underlying27 rfl kR _ (key_whole S hSl) (key_size S hSl)) <| sS (.agg (S.map bv).toArray) (Quiet.load 3 g3 0 64 27 27 (S.map bv).toArray _ _ rfl kR kR Tryz.underlying27 rfl kR _ (key_whole S hSl) (key_size S hSl)) <| sS (.bool true) (Quiet.pure (fun w => (eql_sig w _ _ _ _ S S hSl hSl rfl rfl rfl).trans (by rw [decide_eq_true rfl]))) <| sP (.bool true) <| sP (.bool true) <| sP (.bool b0) ?_
 refine sP (.bool b0) <| sS (.bool true) (Quiet.pure (fun w => eql_bool_same w _ _ _ _ b0 rfl rfl rfl)) <| sP (.bool true) <| sP (.bool true) <| sS (.agg (K.map bv).toArray) (Quiet.load 4 g4 0 32 31 31 (K.map bv).toArray _ _ rfl kR kR Tryz.underlying31 rfl kR _ (key_whole K hKl) (key_size K hKl)) <| sS (.agg (K.map bv).toArray) (Quiet.load 5 g5 0 32 31 31 (K.map bv).toArray _ _ rfl kR kR Tryz.underlying31 rfl kR _ (key_whole K hKl) (key_size K hKl)) <| sS (.bool true) (Quiet.pure (fun w => (eql_key w _ _ _ _ K K hKl hKl rfl rfl rfl).trans (by rw [decide_eq_true rfl]))) <| sP (.bool true) ?_
 refine sP (.bool true) <| sP (.bool b1) <| sP (.bool b1) <| sS (.bool true) (Quiet.pure (fun w => eql_bool_same w _ _ _ _ b1 rfl rfl rfl)) <| sP (.bool true) <| sP (.bool true) <| sP (.slice (some ⟨q1, 0, none⟩) n c1) <| sS (.string ⟨m.toArray⟩) (strZ (some ⟨q1, 0, none⟩) m n c1 _ rfl kR hn (fun w hw => src_own (hw.get (i := 1) rfl))) ?_
 refine sP (.slice A n c) <| sS (.string ⟨m.toArray⟩) (strZ A m n c _ rfl kR hn (fun w hw => hs.below hw.below)) <| sS (.bool true) (Quiet.pure (fun w => (eql_strZ w _ _ _ _ m m rfl rfl rfl).trans (by rw [decide_eq_true rfl]))) <| sP (.bool true) <| sP (.bool true) ?_
 refine sG <| Sy.ret ?_
 exact rV (.bool true) rfl
end Go.Proofs.YtfhcpdbahbbmaaaGreatDoor.Cu

end
