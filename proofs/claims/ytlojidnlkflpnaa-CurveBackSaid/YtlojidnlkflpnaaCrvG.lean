/-
  curve.Encode.
-/
import Derived.Test.YtlojidnlkflpnaaCrvF
namespace Go.Proofs.Ytlojidnlkflpnaa.Cu
open Go.RowKit Go.Proofs.Ytlojidnlkflpnaa Go.Proofs.Ytlojidnlkflpnaa.Sy

theorem cand_3 (t : List UInt8) : candS (3 :: t) = Ec.neg (liftP t) := rfl
theorem cand_ne (b : UInt8) (t : List UInt8) (h : b ≠ 3) : candS (b :: t) = liftP t := by
  have : ¬ (b :: t).head? = some 3 := by simpa using h
  unfold candS
  rw [if_neg this]
  rfl
theorem neq_33 (w : World) (F : Slots) (o : Oper) (x y : Operand) (a b : List UInt8) (ha : a.length = 33) (hb : b.length = 33) {yt : TypeId} (ho : o.op = .binOp .neq 45 x y yt) (hx : evF F x = .agg (a.map bv).toArray) (hy : evF F y = .agg (b.map bv).toArray) : (execOp (evF F) o).run Try.prog w = .ok (.value (.bool (decide (a ≠ b)))) w := by
  have h1 : (eqGuard .neq 45 x y (.agg (a.map bv).toArray) (.agg (b.map bv).toArray)).run Try.prog w = .ok () w := by go_simp
  have h2 : (binOp .neq 45 (.agg (a.map bv).toArray) (.agg (b.map bv).toArray)).run Try.prog w = .ok (.bool (decide (a ≠ b))) w := by
    have h := run_equalIn_bytes (P := Try.prog) w 9998 45 5 33 Try.underlying45 Try.underlying5 (fun W => by kernel_rfl) a b ha hb
    rw [run_neq_struct, show (10000 : Nat) = 9998 + 2 from rfl, show (Op.equalIn (9998 + 2) 45 (.agg (a.map bv).toArray) (.agg (b.map bv).toArray)).run Try.prog w = _ from h]
    by_cases e : a = b <;> simp [e]
  unfold execOp
  simp only [ho, hx, hy, Sem.run_bind, h1, h2, Result.andThen_ok, Sem.run_pure]
theorem neq_len (w : World) (F : Slots) (o : Oper) (x y : Operand) (n : Nat) (hn : n ≠ 33) {yt : TypeId} (ho : o.op = .binOp .neq 3 x y yt) (hx : evF F x = .int .i64 n) (hy : evF F y = .int .i64 33) : (execOp (evF F) o).run Try.prog w = .ok (.value (.bool true)) w := by
  have e : ((n : Int) == 33) = false := by simp; omega
  unfold execOp
  simp only [ho, hx, hy]
  simp [eqGuard, binOp, Op.intCmp, e, Sem.run_bind, Result.andThen]
  omega
set_option maxHeartbeats 4000000 in
set_option maxRecDepth 100000 in
theorem enc_none (w : World) (x y : Nat) (i : Bool) (hx : x < K4) (hy : y < K4) (h : dec x y i = none) : Calls Try.prog 26 #[pv x y i] w (Gets w (.agg ((encS none).map bv).toArray)) := by
  refine Sy.enter (args := [pv x y i]) Try.func26 rfl (Nat.le_of_ble_eq_true (by kernel_rfl)) ?_
  refine Sy.seq ?_
  refine Sy.region ?_
  refine Sy.make (by kernel_rfl) 26 (pcs x y i) ptr (fun _ => by kernel_rfl) (fun g0 => ?_)
  refine Sy.make (by kernel_rfl) 45 (.int .u8 0 :: .int .u8 0 :: .int .u8 0 :: [.int .u8 0, .int .u8 0, .int .u8 0, .int .u8 0, .int .u8 0, .int .u8 0, .int .u8 0, .int .u8 0, .int .u8 0, .int .u8 0, .int .u8 0, .int .u8 0, .int .u8 0, .int .u8 0, .int .u8 0, .int .u8 0, .int .u8 0, .int .u8 0, .int .u8 0, .int .u8 0, .int .u8 0, .int .u8 0, .int .u8 0, .int .u8 0, .int .u8 0, .int .u8 0, .int .u8 0, .int .u8 0, .int .u8 0, .int .u8 0]).toArray ptr (fun _ => by kernel_rfl) (fun g1 => ?_)
  refine Sy.nil ?_
  refine Sy.then_ ?_
  refine Sy.seq ?_
  refine Sy.region ?_
  refine Sy.make (by kernel_rfl) 45 (.int .u8 0 :: .int .u8 0 :: .int .u8 0 :: [.int .u8 0, .int .u8 0, .int .u8 0, .int .u8 0, .int .u8 0, .int .u8 0, .int .u8 0, .int .u8 0, .int .u8 0, .int .u8 0, .int .u8 0, .int .u8 0, .int .u8 0, .int .u8 0, .int .u8 0, .int .u8 0, .int .u8 0, .int .u8 0, .int .u8 0, .int .u8 0, .int .u8 0, .int .u8 0, .int .u8 0, .int .u8 0, .int .u8 0, .int .u8 0, .int .u8 0, .int .u8 0, .int .u8 0, .int .u8 0]).toArray ptr (fun _ => by kernel_rfl) (fun g2 => ?_)
  refine Sy.nil ?_
  refine Sy.then_ ?_
  refine Sy.seq ?_
  refine Sy.region ?_
  refine Sy.step (by kernel_rfl) (pv x y i) (Quiet.load 0 g0 0 9 26 26 (pcs x y i) _ _ rfl (by kernel_rfl) (by kernel_rfl) Try.underlying26 rfl (by kernel_rfl) _ (by kernel_rfl) (Nat.le_of_ble_eq_true (by kernel_rfl))) ?_
  refine Sy.step (by kernel_rfl) (pv 0 0 true) (Quiet.call 47 #[pv x y i] (fun _ => by kernel_rfl) (fun w => by have hrr := right_c w x y i (by first | assumption | exact lt4 _ | decide +kernel) (by first | assumption | exact lt4 _ | decide +kernel); rw [h] at hrr; exact hrr)) ?_
  refine Sy.write (by kernel_rfl) 0 g0 26 (pcs x y i) (pcs 0 0 true) (by kernel_rfl) (Writes.store 0 26 (pcs 0 0 true) _ _ rfl (by kernel_rfl) (by kernel_rfl) (by kernel_rfl) (Nat.le_of_ble_eq_true (by kernel_rfl)) (by kernel_rfl) (by kernel_rfl)) ?_
  refine Sy.nil ?_
  refine Sy.then_ ?_
  refine Sy.seq ?_
  refine Sy.seq ?_
  refine Sy.regionD (fun j => false) (by kernel_rfl) ?_
  refine Sy.stepD 0 rfl (by kernel_rfl) (fun _ _ _ _ h => h) (by kernel_rfl) (pv 0 0 true) (Quiet.load 0 g0 0 9 26 26 (pcs 0 0 true) _ _ rfl (by kernel_rfl) (by kernel_rfl) Try.underlying26 rfl (by kernel_rfl) _ (by kernel_rfl) (Nat.le_of_ble_eq_true (by kernel_rfl))) ?_
  refine Sy.stepD 1 rfl (by kernel_rfl) (fun _ _ _ _ h => h) (by kernel_rfl) (pv 0 0 true) (Quiet.call 31 #[] (fun _ => by kernel_rfl) (zero_c)) ?_
  refine Sy.stepD 2 rfl (by kernel_rfl) (fun _ _ _ _ h => h) (by kernel_rfl) (.bool true) (Quiet.pure (fun w => eql_pt w _ _ _ _ 0 0 true 0 0 true rfl rfl rfl (by decide) (by decide) (by decide) (by decide))) ?_
  refine Sy.doneD (by kernel_rfl) ?_
  refine Sy.then_ ?_
  refine Sy.cond_t (by kernel_rfl) (by kernel_rfl) ?_
  refine Sy.seq ?_
  refine Sy.region ?_
  refine Sy.step (by kernel_rfl) (.agg ((.int .u8 0 :: .int .u8 0 :: .int .u8 0 :: [.int .u8 0, .int .u8 0, .int .u8 0, .int .u8 0, .int .u8 0, .int .u8 0, .int .u8 0, .int .u8 0, .int .u8 0, .int .u8 0, .int .u8 0, .int .u8 0, .int .u8 0, .int .u8 0, .int .u8 0, .int .u8 0, .int .u8 0, .int .u8 0, .int .u8 0, .int .u8 0, .int .u8 0, .int .u8 0, .int .u8 0, .int .u8 0, .int .u8 0, .int .u8 0, .int .u8 0, .int .u8 0, .int .u8 0, .int .u8 0]) : List Value).toArray) (Quiet.load 2 g2 0 33 45 45 (.int .u8 0 :: .int .u8 0 :: .int .u8 0 :: [.int .u8 0, .int .u8 0, .int .u8 0, .int .u8 0, .int .u8 0, .int .u8 0, .int .u8 0, .int .u8 0, .int .u8 0, .int .u8 0, .int .u8 0, .int .u8 0, .int .u8 0, .int .u8 0, .int .u8 0, .int .u8 0, .int .u8 0, .int .u8 0, .int .u8 0, .int .u8 0, .int .u8 0, .int .u8 0, .int .u8 0, .int .u8 0, .int .u8 0, .int .u8 0, .int .u8 0, .int .u8 0, .int .u8 0, .int .u8 0]).toArray _ _ rfl (by kernel_rfl) (by kernel_rfl) Try.underlying45 rfl (by kernel_rfl) _ (by kernel_rfl) (Nat.le_of_ble_eq_true (by kernel_rfl))) ?_
  refine Sy.write (by kernel_rfl) 1 g1 45 (.int .u8 0 :: .int .u8 0 :: .int .u8 0 :: [.int .u8 0, .int .u8 0, .int .u8 0, .int .u8 0, .int .u8 0, .int .u8 0, .int .u8 0, .int .u8 0, .int .u8 0, .int .u8 0, .int .u8 0, .int .u8 0, .int .u8 0, .int .u8 0, .int .u8 0, .int .u8 0, .int .u8 0, .int .u8 0, .int .u8 0, .int .u8 0, .int .u8 0, .int .u8 0, .int .u8 0, .int .u8 0, .int .u8 0, .int .u8 0, .int .u8 0, .int .u8 0, .int .u8 0, .int .u8 0]).toArray (.int .u8 0 :: .int .u8 0 :: .int .u8 0 :: [.int .u8 0, .int .u8 0, .int .u8 0, .int .u8 0, .int .u8 0, .int .u8 0, .int .u8 0, .int .u8 0, .int .u8 0, .int .u8 0, .int .u8 0, .int .u8 0, .int .u8 0, .int .u8 0, .int .u8 0, .int .u8 0, .int .u8 0, .int .u8 0, .int .u8 0, .int .u8 0, .int .u8 0, .int .u8 0, .int .u8 0, .int .u8 0, .int .u8 0, .int .u8 0, .int .u8 0, .int .u8 0, .int .u8 0, .int .u8 0]).toArray (by kernel_rfl) (Writes.store 0 45 (.int .u8 0 :: .int .u8 0 :: .int .u8 0 :: [.int .u8 0, .int .u8 0, .int .u8 0, .int .u8 0, .int .u8 0, .int .u8 0, .int .u8 0, .int .u8 0, .int .u8 0, .int .u8 0, .int .u8 0, .int .u8 0, .int .u8 0, .int .u8 0, .int .u8 0, .int .u8 0, .int .u8 0, .int .u8 0, .int .u8 0, .int .u8 0, .int .u8 0, .int .u8 0, .int .u8 0, .int .u8 0, .int .u8 0, .int .u8 0, .int .u8 0, .int .u8 0, .int .u8 0, .int .u8 0]).toArray _ _ rfl (by kernel_rfl) (by kernel_rfl) (by kernel_rfl) (Nat.le_of_ble_eq_true (by kernel_rfl)) (by kernel_rfl) (by kernel_rfl)) ?_
  refine Sy.nil ?_
  refine Sy.then_ ?_
  refine Sy.ret ?_
  refine Sy.then_ret ?_
  rw [show (.agg ((encS none).map bv).toArray : Value) = .agg ((.int .u8 0 :: .int .u8 0 :: .int .u8 0 :: [.int .u8 0, .int .u8 0, .int .u8 0, .int .u8 0, .int .u8 0, .int .u8 0, .int .u8 0, .int .u8 0, .int .u8 0, .int .u8 0, .int .u8 0, .int .u8 0, .int .u8 0, .int .u8 0, .int .u8 0, .int .u8 0, .int .u8 0, .int .u8 0, .int .u8 0, .int .u8 0, .int .u8 0, .int .u8 0, .int .u8 0, .int .u8 0, .int .u8 0, .int .u8 0, .int .u8 0, .int .u8 0, .int .u8 0, .int .u8 0]) : List Value).toArray from by kernel_rfl]
  exact Sy.ret1 (v := .agg ((.int .u8 0 :: .int .u8 0 :: .int .u8 0 :: [.int .u8 0, .int .u8 0, .int .u8 0, .int .u8 0, .int .u8 0, .int .u8 0, .int .u8 0, .int .u8 0, .int .u8 0, .int .u8 0, .int .u8 0, .int .u8 0, .int .u8 0, .int .u8 0, .int .u8 0, .int .u8 0, .int .u8 0, .int .u8 0, .int .u8 0, .int .u8 0, .int .u8 0, .int .u8 0, .int .u8 0, .int .u8 0, .int .u8 0, .int .u8 0, .int .u8 0, .int .u8 0, .int .u8 0, .int .u8 0]) : List Value).toArray) rfl (.inl (Res.cell (ty' := 45) g1 1 (.int .u8 0 :: .int .u8 0 :: .int .u8 0 :: [.int .u8 0, .int .u8 0, .int .u8 0, .int .u8 0, .int .u8 0, .int .u8 0, .int .u8 0, .int .u8 0, .int .u8 0, .int .u8 0, .int .u8 0, .int .u8 0, .int .u8 0, .int .u8 0, .int .u8 0, .int .u8 0, .int .u8 0, .int .u8 0, .int .u8 0, .int .u8 0, .int .u8 0, .int .u8 0, .int .u8 0, .int .u8 0, .int .u8 0, .int .u8 0, .int .u8 0, .int .u8 0, .int .u8 0, .int .u8 0]).toArray _ (by kernel_rfl) (by kernel_rfl) Try.underlying45 rfl (by kernel_rfl) (by kernel_rfl)))
set_option maxHeartbeats 4000000 in
set_option maxRecDepth 100000 in
theorem enc_some (w : World) (x y : Nat) (i : Bool) (hx : x < K4) (hy : y < K4) (u v : Fp) (h : dec x y i = some (u, v)) : Calls Try.prog 26 #[pv x y i] w (Gets w (.agg ((encS (some (u, v))).map bv).toArray)) := by
  obtain ⟨a0, a1, a2, a3, a4, a5, a6, a7, a8, a9, a10, a11, a12, a13, a14, a15, a16, a17, a18, a19, a20, a21, a22, a23, a24, a25, a26, a27, a28, a29, a30, a31, hm⟩ := list32 (bytesS u.val) (bytesS_length _)
  have cB : ∀ w, Calls Try.prog 67 #[fv u.val] w (Gets w (.agg ((bv a0 :: bv a1 :: [bv a2, bv a3, bv a4, bv a5, bv a6, bv a7, bv a8, bv a9, bv a10, bv a11, bv a12, bv a13, bv a14, bv a15, bv a16, bv a17, bv a18, bv a19, bv a20, bv a21, bv a22, bv a23, bv a24, bv a25, bv a26, bv a27, bv a28, bv a29, bv a30, bv a31]) : List Value).toArray)) := fun w => by
    have hh := bytes_any w u.val (lt4 u)
    rw [Nat.mod_eq_of_lt u.isLt, hm] at hh
    exact hh
  refine Sy.enter (args := [pv x y i]) Try.func26 rfl (Nat.le_of_ble_eq_true (by kernel_rfl)) ?_
  refine Sy.seq ?_
  refine Sy.region ?_
  refine Sy.make (by kernel_rfl) 26 (pcs x y i) ptr (fun _ => by kernel_rfl) (fun g0 => ?_)
  refine Sy.make (by kernel_rfl) 45 (.int .u8 0 :: .int .u8 0 :: .int .u8 0 :: [.int .u8 0, .int .u8 0, .int .u8 0, .int .u8 0, .int .u8 0, .int .u8 0, .int .u8 0, .int .u8 0, .int .u8 0, .int .u8 0, .int .u8 0, .int .u8 0, .int .u8 0, .int .u8 0, .int .u8 0, .int .u8 0, .int .u8 0, .int .u8 0, .int .u8 0, .int .u8 0, .int .u8 0, .int .u8 0, .int .u8 0, .int .u8 0, .int .u8 0, .int .u8 0, .int .u8 0, .int .u8 0, .int .u8 0, .int .u8 0]).toArray ptr (fun _ => by kernel_rfl) (fun g1 => ?_)
  refine Sy.nil ?_
  refine Sy.then_ ?_
  refine Sy.seq ?_
  refine Sy.region ?_
  refine Sy.make (by kernel_rfl) 45 (.int .u8 0 :: .int .u8 0 :: .int .u8 0 :: [.int .u8 0, .int .u8 0, .int .u8 0, .int .u8 0, .int .u8 0, .int .u8 0, .int .u8 0, .int .u8 0, .int .u8 0, .int .u8 0, .int .u8 0, .int .u8 0, .int .u8 0, .int .u8 0, .int .u8 0, .int .u8 0, .int .u8 0, .int .u8 0, .int .u8 0, .int .u8 0, .int .u8 0, .int .u8 0, .int .u8 0, .int .u8 0, .int .u8 0, .int .u8 0, .int .u8 0, .int .u8 0, .int .u8 0, .int .u8 0]).toArray ptr (fun _ => by kernel_rfl) (fun g2 => ?_)
  refine Sy.nil ?_
  refine Sy.then_ ?_
  refine Sy.seq ?_
  refine Sy.region ?_
  refine Sy.step (by kernel_rfl) (pv x y i) (Quiet.load 0 g0 0 9 26 26 (pcs x y i) _ _ rfl (by kernel_rfl) (by kernel_rfl) Try.underlying26 rfl (by kernel_rfl) _ (by kernel_rfl) (Nat.le_of_ble_eq_true (by kernel_rfl))) ?_
  refine Sy.step (by kernel_rfl) (pv u.val v.val false) (Quiet.call 47 #[pv x y i] (fun _ => by kernel_rfl) (fun w => by have hrr := right_c w x y i (by first | assumption | exact lt4 _ | decide +kernel) (by first | assumption | exact lt4 _ | decide +kernel); rw [h] at hrr; exact hrr)) ?_
  refine Sy.write (by kernel_rfl) 0 g0 26 (pcs x y i) (pcs u.val v.val false) (by kernel_rfl) (Writes.store 0 26 (pcs u.val v.val false) _ _ rfl (by kernel_rfl) (by kernel_rfl) (by kernel_rfl) (Nat.le_of_ble_eq_true (by kernel_rfl)) (by kernel_rfl) (by kernel_rfl)) ?_
  refine Sy.nil ?_
  refine Sy.then_ ?_
  refine Sy.seq ?_
  refine Sy.seq ?_
  refine Sy.regionD (fun j => false) (by kernel_rfl) ?_
  refine Sy.stepD 0 rfl (by kernel_rfl) (fun _ _ _ _ h => h) (by kernel_rfl) (pv u.val v.val false) (Quiet.load 0 g0 0 9 26 26 (pcs u.val v.val false) _ _ rfl (by kernel_rfl) (by kernel_rfl) Try.underlying26 rfl (by kernel_rfl) _ (by kernel_rfl) (Nat.le_of_ble_eq_true (by kernel_rfl))) ?_
  refine Sy.stepD 1 rfl (by kernel_rfl) (fun _ _ _ _ h => h) (by kernel_rfl) (pv 0 0 true) (Quiet.call 31 #[] (fun _ => by kernel_rfl) (zero_c)) ?_
  refine Sy.stepD 2 rfl (by kernel_rfl) (fun _ _ _ _ h => h) (by kernel_rfl) (.bool false) (Quiet.pure (fun w => eql_pt_ne w _ _ _ _ _ _ _ _ _ _ rfl rfl rfl (by first | assumption | exact lt4 _ | decide +kernel) (by first | assumption | exact lt4 _ | decide +kernel) (by first | assumption | exact lt4 _ | decide +kernel) (by first | assumption | exact lt4 _ | decide +kernel) (by decide))) ?_
  refine Sy.doneD (by kernel_rfl) ?_
  refine Sy.then_ ?_
  refine Sy.cond_f (by kernel_rfl) (by kernel_rfl) ?_
  refine Sy.skip ?_
  refine Sy.then_ ?_
  refine Sy.seq ?_
  refine Sy.region ?_
  refine Sy.step (by kernel_rfl) (.pointer (some ⟨g2, 0, none⟩)) (Quiet.pure (fun _ => by kernel_rfl)) ?_
  refine Sy.write (by kernel_rfl) 2 g2 45 (.int .u8 0 :: .int .u8 0 :: .int .u8 0 :: [.int .u8 0, .int .u8 0, .int .u8 0, .int .u8 0, .int .u8 0, .int .u8 0, .int .u8 0, .int .u8 0, .int .u8 0, .int .u8 0, .int .u8 0, .int .u8 0, .int .u8 0, .int .u8 0, .int .u8 0, .int .u8 0, .int .u8 0, .int .u8 0, .int .u8 0, .int .u8 0, .int .u8 0, .int .u8 0, .int .u8 0, .int .u8 0, .int .u8 0, .int .u8 0, .int .u8 0, .int .u8 0, .int .u8 0, .int .u8 0]).toArray (.int .u8 2 :: .int .u8 0 :: .int .u8 0 :: [.int .u8 0, .int .u8 0, .int .u8 0, .int .u8 0, .int .u8 0, .int .u8 0, .int .u8 0, .int .u8 0, .int .u8 0, .int .u8 0, .int .u8 0, .int .u8 0, .int .u8 0, .int .u8 0, .int .u8 0, .int .u8 0, .int .u8 0, .int .u8 0, .int .u8 0, .int .u8 0, .int .u8 0, .int .u8 0, .int .u8 0, .int .u8 0, .int .u8 0, .int .u8 0, .int .u8 0, .int .u8 0, .int .u8 0, .int .u8 0]).toArray (by kernel_rfl) (Writes.one 0 5 (.int .u8 2) _ _ rfl (by kernel_rfl) (by kernel_rfl) (by kernel_rfl) rfl rfl (Nat.lt_of_lt_of_le (Nat.lt_succ_self _) (Nat.le_of_ble_eq_true (by kernel_rfl))) (by kernel_rfl)) ?_
  refine Sy.nil ?_
  refine Sy.then_ ?_
  refine Sy.seq ?_
  refine Sy.seq ?_
  refine Sy.region ?_
  refine Sy.step (by kernel_rfl) (.pointer (some ⟨g0, 4, none⟩)) (Quiet.pure (fun _ => by kernel_rfl)) ?_
  refine Sy.step (by kernel_rfl) (fv v.val) (Quiet.load 0 g0 4 4 26 24 (pcs u.val v.val false) _ _ rfl (by kernel_rfl) (by kernel_rfl) Try.underlying24 rfl (by kernel_rfl) _ (by kernel_rfl) (Nat.le_of_ble_eq_true (by kernel_rfl))) ?_
  obtain ⟨b1, hb1⟩ : ∃ z : Bool, z = decide (v.val % pM % 2 = 1) := ⟨_, rfl⟩
  refine Sy.step (by kernel_rfl) (.bool b1) (Quiet.call 66 #[fv v.val] (fun _ => by kernel_rfl) (fun w => by rw [hb1]; exact odd_any w v.val (by first | assumption | exact lt4 _ | decide +kernel))) ?_
  refine Sy.nil ?_
  refine Sy.then_ ?_
  cases b1
  · refine Sy.cond_f (by kernel_rfl) (by kernel_rfl) ?_
    refine Sy.skip ?_
    refine Sy.then_ ?_
    refine Sy.seq ?_
    refine Sy.region ?_
    refine Sy.step (by kernel_rfl) (.pointer (some ⟨g0, 0, none⟩)) (Quiet.pure (fun _ => by kernel_rfl)) ?_
    refine Sy.step (by kernel_rfl) (fv u.val) (Quiet.load 0 g0 0 4 26 24 (pcs u.val v.val false) _ _ rfl (by kernel_rfl) (by kernel_rfl) Try.underlying24 rfl (by kernel_rfl) _ (by kernel_rfl) (Nat.le_of_ble_eq_true (by kernel_rfl))) ?_
    refine Sy.step (by kernel_rfl) (.agg ((bv a0 :: bv a1 :: [bv a2, bv a3, bv a4, bv a5, bv a6, bv a7, bv a8, bv a9, bv a10, bv a11, bv a12, bv a13, bv a14, bv a15, bv a16, bv a17, bv a18, bv a19, bv a20, bv a21, bv a22, bv a23, bv a24, bv a25, bv a26, bv a27, bv a28, bv a29, bv a30, bv a31]) : List Value).toArray) (Quiet.call 67 #[fv u.val] (fun _ => by kernel_rfl) (cB)) ?_
    refine Sy.make (by kernel_rfl) 52 (.int .u8 0 :: .int .u8 0 :: [.int .u8 0, .int .u8 0, .int .u8 0, .int .u8 0, .int .u8 0, .int .u8 0, .int .u8 0, .int .u8 0, .int .u8 0, .int .u8 0, .int .u8 0, .int .u8 0, .int .u8 0, .int .u8 0, .int .u8 0, .int .u8 0, .int .u8 0, .int .u8 0, .int .u8 0, .int .u8 0, .int .u8 0, .int .u8 0, .int .u8 0, .int .u8 0, .int .u8 0, .int .u8 0, .int .u8 0, .int .u8 0, .int .u8 0, .int .u8 0]).toArray ptr (fun _ => by kernel_rfl) (fun g3 => ?_)
    refine Sy.write (by kernel_rfl) 3 g3 52 (.int .u8 0 :: .int .u8 0 :: [.int .u8 0, .int .u8 0, .int .u8 0, .int .u8 0, .int .u8 0, .int .u8 0, .int .u8 0, .int .u8 0, .int .u8 0, .int .u8 0, .int .u8 0, .int .u8 0, .int .u8 0, .int .u8 0, .int .u8 0, .int .u8 0, .int .u8 0, .int .u8 0, .int .u8 0, .int .u8 0, .int .u8 0, .int .u8 0, .int .u8 0, .int .u8 0, .int .u8 0, .int .u8 0, .int .u8 0, .int .u8 0, .int .u8 0, .int .u8 0]).toArray (bv a0 :: bv a1 :: [bv a2, bv a3, bv a4, bv a5, bv a6, bv a7, bv a8, bv a9, bv a10, bv a11, bv a12, bv a13, bv a14, bv a15, bv a16, bv a17, bv a18, bv a19, bv a20, bv a21, bv a22, bv a23, bv a24, bv a25, bv a26, bv a27, bv a28, bv a29, bv a30, bv a31]).toArray (by kernel_rfl) (Writes.store 0 52 (bv a0 :: bv a1 :: [bv a2, bv a3, bv a4, bv a5, bv a6, bv a7, bv a8, bv a9, bv a10, bv a11, bv a12, bv a13, bv a14, bv a15, bv a16, bv a17, bv a18, bv a19, bv a20, bv a21, bv a22, bv a23, bv a24, bv a25, bv a26, bv a27, bv a28, bv a29, bv a30, bv a31]).toArray _ _ rfl (by kernel_rfl) (by kernel_rfl) (by kernel_rfl) (Nat.le_of_ble_eq_true (by kernel_rfl)) (by kernel_rfl) (by kernel_rfl)) ?_
    refine Sy.nil ?_
    refine Sy.then_ ?_
    refine Sy.seq ?_
    refine Sy.regionD (fun j => j == 2) (by kernel_rfl) ?_
    refine Sy.stepD 0 rfl (by kernel_rfl) (fun _ _ _ _ h => h) (by kernel_rfl) (.slice (some ⟨g2, 1, none⟩) 32 32) (Quiet.pure (fun _ => by kernel_rfl)) ?_
    refine Sy.stepD 1 rfl (by kernel_rfl) (fun _ _ _ _ h => h) (by kernel_rfl) (.slice (some ⟨g3, 0, none⟩) 32 32) (Quiet.pure (fun _ => by kernel_rfl)) ?_
    refine Sy.writeVD 2 rfl (by kernel_rfl) (by rfl) (by kernel_rfl) 2 g2 45 (.int .u8 2 :: .int .u8 0 :: .int .u8 0 :: [.int .u8 0, .int .u8 0, .int .u8 0, .int .u8 0, .int .u8 0, .int .u8 0, .int .u8 0, .int .u8 0, .int .u8 0, .int .u8 0, .int .u8 0, .int .u8 0, .int .u8 0, .int .u8 0, .int .u8 0, .int .u8 0, .int .u8 0, .int .u8 0, .int .u8 0, .int .u8 0, .int .u8 0, .int .u8 0, .int .u8 0, .int .u8 0, .int .u8 0, .int .u8 0, .int .u8 0, .int .u8 0, .int .u8 0, .int .u8 0]).toArray (.int .u8 2 :: bv a0 :: bv a1 :: [bv a2, bv a3, bv a4, bv a5, bv a6, bv a7, bv a8, bv a9, bv a10, bv a11, bv a12, bv a13, bv a14, bv a15, bv a16, bv a17, bv a18, bv a19, bv a20, bv a21, bv a22, bv a23, bv a24, bv a25, bv a26, bv a27, bv a28, bv a29, bv a30, bv a31]).toArray (.int .i64 32) (by kernel_rfl) (WritesV.copy _ _ 44 44 _ rfl Try.underlying44 (by kernel_rfl) 2 g2 1 32 32 45 (.int .u8 2 :: .int .u8 0 :: .int .u8 0 :: [.int .u8 0, .int .u8 0, .int .u8 0, .int .u8 0, .int .u8 0, .int .u8 0, .int .u8 0, .int .u8 0, .int .u8 0, .int .u8 0, .int .u8 0, .int .u8 0, .int .u8 0, .int .u8 0, .int .u8 0, .int .u8 0, .int .u8 0, .int .u8 0, .int .u8 0, .int .u8 0, .int .u8 0, .int .u8 0, .int .u8 0, .int .u8 0, .int .u8 0, .int .u8 0, .int .u8 0, .int .u8 0, .int .u8 0, .int .u8 0]).toArray (.int .u8 2 :: bv a0 :: bv a1 :: [bv a2, bv a3, bv a4, bv a5, bv a6, bv a7, bv a8, bv a9, bv a10, bv a11, bv a12, bv a13, bv a14, bv a15, bv a16, bv a17, bv a18, bv a19, bv a20, bv a21, bv a22, bv a23, bv a24, bv a25, bv a26, bv a27, bv a28, bv a29, bv a30, bv a31]).toArray (by kernel_rfl) (by kernel_rfl) 3 g3 0 32 32 52 (bv a0 :: bv a1 :: [bv a2, bv a3, bv a4, bv a5, bv a6, bv a7, bv a8, bv a9, bv a10, bv a11, bv a12, bv a13, bv a14, bv a15, bv a16, bv a17, bv a18, bv a19, bv a20, bv a21, bv a22, bv a23, bv a24, bv a25, bv a26, bv a27, bv a28, bv a29, bv a30, bv a31]).toArray (by kernel_rfl) (by kernel_rfl) (bv a0 :: bv a1 :: [bv a2, bv a3, bv a4, bv a5, bv a6, bv a7, bv a8, bv a9, bv a10, bv a11, bv a12, bv a13, bv a14, bv a15, bv a16, bv a17, bv a18, bv a19, bv a20, bv a21, bv a22, bv a23, bv a24, bv a25, bv a26, bv a27, bv a28, bv a29, bv a30, bv a31]) (by kernel_rfl) (by kernel_rfl) (all_one _ (by kernel_rfl)) (Nat.le_of_ble_eq_true (by kernel_rfl)) (by kernel_rfl)) ?_
    refine Sy.doneD (by kernel_rfl) ?_
    refine Sy.then_ ?_
    refine Sy.seq ?_
    refine Sy.region ?_
    refine Sy.step (by kernel_rfl) (.agg ((.int .u8 2 :: bv a0 :: bv a1 :: [bv a2, bv a3, bv a4, bv a5, bv a6, bv a7, bv a8, bv a9, bv a10, bv a11, bv a12, bv a13, bv a14, bv a15, bv a16, bv a17, bv a18, bv a19, bv a20, bv a21, bv a22, bv a23, bv a24, bv a25, bv a26, bv a27, bv a28, bv a29, bv a30, bv a31]) : List Value).toArray) (Quiet.load 2 g2 0 33 45 45 (.int .u8 2 :: bv a0 :: bv a1 :: [bv a2, bv a3, bv a4, bv a5, bv a6, bv a7, bv a8, bv a9, bv a10, bv a11, bv a12, bv a13, bv a14, bv a15, bv a16, bv a17, bv a18, bv a19, bv a20, bv a21, bv a22, bv a23, bv a24, bv a25, bv a26, bv a27, bv a28, bv a29, bv a30, bv a31]).toArray _ _ rfl (by kernel_rfl) (by kernel_rfl) Try.underlying45 rfl (by kernel_rfl) _ (by kernel_rfl) (Nat.le_of_ble_eq_true (by kernel_rfl))) ?_
    refine Sy.write (by kernel_rfl) 1 g1 45 (.int .u8 0 :: .int .u8 0 :: .int .u8 0 :: [.int .u8 0, .int .u8 0, .int .u8 0, .int .u8 0, .int .u8 0, .int .u8 0, .int .u8 0, .int .u8 0, .int .u8 0, .int .u8 0, .int .u8 0, .int .u8 0, .int .u8 0, .int .u8 0, .int .u8 0, .int .u8 0, .int .u8 0, .int .u8 0, .int .u8 0, .int .u8 0, .int .u8 0, .int .u8 0, .int .u8 0, .int .u8 0, .int .u8 0, .int .u8 0, .int .u8 0, .int .u8 0, .int .u8 0, .int .u8 0]).toArray (.int .u8 2 :: bv a0 :: bv a1 :: [bv a2, bv a3, bv a4, bv a5, bv a6, bv a7, bv a8, bv a9, bv a10, bv a11, bv a12, bv a13, bv a14, bv a15, bv a16, bv a17, bv a18, bv a19, bv a20, bv a21, bv a22, bv a23, bv a24, bv a25, bv a26, bv a27, bv a28, bv a29, bv a30, bv a31]).toArray (by kernel_rfl) (Writes.store 0 45 (.int .u8 2 :: bv a0 :: bv a1 :: [bv a2, bv a3, bv a4, bv a5, bv a6, bv a7, bv a8, bv a9, bv a10, bv a11, bv a12, bv a13, bv a14, bv a15, bv a16, bv a17, bv a18, bv a19, bv a20, bv a21, bv a22, bv a23, bv a24, bv a25, bv a26, bv a27, bv a28, bv a29, bv a30, bv a31]).toArray _ _ rfl (by kernel_rfl) (by kernel_rfl) (by kernel_rfl) (Nat.le_of_ble_eq_true (by kernel_rfl)) (by kernel_rfl) (by kernel_rfl)) ?_
    refine Sy.nil ?_
    refine Sy.then_ ?_
    refine Sy.ret ?_
    rw [show (.agg ((encS (some (u, v))).map bv).toArray : Value) = .agg ((.int .u8 2 :: bv a0 :: bv a1 :: [bv a2, bv a3, bv a4, bv a5, bv a6, bv a7, bv a8, bv a9, bv a10, bv a11, bv a12, bv a13, bv a14, bv a15, bv a16, bv a17, bv a18, bv a19, bv a20, bv a21, bv a22, bv a23, bv a24, bv a25, bv a26, bv a27, bv a28, bv a29, bv a30, bv a31]) : List Value).toArray from by
      have e : encS (some (u, v)) = (if v.val % 2 = 1 then 3 else 2) :: bytesS u.val := rfl
      rw [e, hm, if_neg (by have q := hb1.symm; rw [Nat.mod_eq_of_lt v.isLt] at q; exact of_decide_eq_false q)]
      rfl]
    exact Sy.ret1 (v := .agg ((.int .u8 2 :: bv a0 :: bv a1 :: [bv a2, bv a3, bv a4, bv a5, bv a6, bv a7, bv a8, bv a9, bv a10, bv a11, bv a12, bv a13, bv a14, bv a15, bv a16, bv a17, bv a18, bv a19, bv a20, bv a21, bv a22, bv a23, bv a24, bv a25, bv a26, bv a27, bv a28, bv a29, bv a30, bv a31]) : List Value).toArray) rfl (.inl (Res.cell (ty' := 45) g1 1 (.int .u8 2 :: bv a0 :: bv a1 :: [bv a2, bv a3, bv a4, bv a5, bv a6, bv a7, bv a8, bv a9, bv a10, bv a11, bv a12, bv a13, bv a14, bv a15, bv a16, bv a17, bv a18, bv a19, bv a20, bv a21, bv a22, bv a23, bv a24, bv a25, bv a26, bv a27, bv a28, bv a29, bv a30, bv a31]).toArray _ (by kernel_rfl) (by kernel_rfl) Try.underlying45 rfl (by kernel_rfl) (by kernel_rfl)))
  · refine Sy.cond_t (by kernel_rfl) (by kernel_rfl) ?_
    refine Sy.region ?_
    refine Sy.step (by kernel_rfl) (.pointer (some ⟨g2, 0, none⟩)) (Quiet.pure (fun _ => by kernel_rfl)) ?_
    refine Sy.write (by kernel_rfl) 2 g2 45 (.int .u8 2 :: .int .u8 0 :: .int .u8 0 :: [.int .u8 0, .int .u8 0, .int .u8 0, .int .u8 0, .int .u8 0, .int .u8 0, .int .u8 0, .int .u8 0, .int .u8 0, .int .u8 0, .int .u8 0, .int .u8 0, .int .u8 0, .int .u8 0, .int .u8 0, .int .u8 0, .int .u8 0, .int .u8 0, .int .u8 0, .int .u8 0, .int .u8 0, .int .u8 0, .int .u8 0, .int .u8 0, .int .u8 0, .int .u8 0, .int .u8 0, .int .u8 0, .int .u8 0, .int .u8 0]).toArray (.int .u8 3 :: .int .u8 0 :: .int .u8 0 :: [.int .u8 0, .int .u8 0, .int .u8 0, .int .u8 0, .int .u8 0, .int .u8 0, .int .u8 0, .int .u8 0, .int .u8 0, .int .u8 0, .int .u8 0, .int .u8 0, .int .u8 0, .int .u8 0, .int .u8 0, .int .u8 0, .int .u8 0, .int .u8 0, .int .u8 0, .int .u8 0, .int .u8 0, .int .u8 0, .int .u8 0, .int .u8 0, .int .u8 0, .int .u8 0, .int .u8 0, .int .u8 0, .int .u8 0, .int .u8 0]).toArray (by kernel_rfl) (Writes.one 0 5 (.int .u8 3) _ _ rfl (by kernel_rfl) (by kernel_rfl) (by kernel_rfl) rfl rfl (Nat.lt_of_lt_of_le (Nat.lt_succ_self _) (Nat.le_of_ble_eq_true (by kernel_rfl))) (by kernel_rfl)) ?_
    refine Sy.nil ?_
    refine Sy.then_ ?_
    refine Sy.seq ?_
    refine Sy.region ?_
    refine Sy.step (by kernel_rfl) (.pointer (some ⟨g0, 0, none⟩)) (Quiet.pure (fun _ => by kernel_rfl)) ?_
    refine Sy.step (by kernel_rfl) (fv u.val) (Quiet.load 0 g0 0 4 26 24 (pcs u.val v.val false) _ _ rfl (by kernel_rfl) (by kernel_rfl) Try.underlying24 rfl (by kernel_rfl) _ (by kernel_rfl) (Nat.le_of_ble_eq_true (by kernel_rfl))) ?_
    refine Sy.step (by kernel_rfl) (.agg ((bv a0 :: bv a1 :: [bv a2, bv a3, bv a4, bv a5, bv a6, bv a7, bv a8, bv a9, bv a10, bv a11, bv a12, bv a13, bv a14, bv a15, bv a16, bv a17, bv a18, bv a19, bv a20, bv a21, bv a22, bv a23, bv a24, bv a25, bv a26, bv a27, bv a28, bv a29, bv a30, bv a31]) : List Value).toArray) (Quiet.call 67 #[fv u.val] (fun _ => by kernel_rfl) (cB)) ?_
    refine Sy.make (by kernel_rfl) 52 (.int .u8 0 :: .int .u8 0 :: [.int .u8 0, .int .u8 0, .int .u8 0, .int .u8 0, .int .u8 0, .int .u8 0, .int .u8 0, .int .u8 0, .int .u8 0, .int .u8 0, .int .u8 0, .int .u8 0, .int .u8 0, .int .u8 0, .int .u8 0, .int .u8 0, .int .u8 0, .int .u8 0, .int .u8 0, .int .u8 0, .int .u8 0, .int .u8 0, .int .u8 0, .int .u8 0, .int .u8 0, .int .u8 0, .int .u8 0, .int .u8 0, .int .u8 0, .int .u8 0]).toArray ptr (fun _ => by kernel_rfl) (fun g4 => ?_)
    refine Sy.write (by kernel_rfl) 3 g4 52 (.int .u8 0 :: .int .u8 0 :: [.int .u8 0, .int .u8 0, .int .u8 0, .int .u8 0, .int .u8 0, .int .u8 0, .int .u8 0, .int .u8 0, .int .u8 0, .int .u8 0, .int .u8 0, .int .u8 0, .int .u8 0, .int .u8 0, .int .u8 0, .int .u8 0, .int .u8 0, .int .u8 0, .int .u8 0, .int .u8 0, .int .u8 0, .int .u8 0, .int .u8 0, .int .u8 0, .int .u8 0, .int .u8 0, .int .u8 0, .int .u8 0, .int .u8 0, .int .u8 0]).toArray (bv a0 :: bv a1 :: [bv a2, bv a3, bv a4, bv a5, bv a6, bv a7, bv a8, bv a9, bv a10, bv a11, bv a12, bv a13, bv a14, bv a15, bv a16, bv a17, bv a18, bv a19, bv a20, bv a21, bv a22, bv a23, bv a24, bv a25, bv a26, bv a27, bv a28, bv a29, bv a30, bv a31]).toArray (by kernel_rfl) (Writes.store 0 52 (bv a0 :: bv a1 :: [bv a2, bv a3, bv a4, bv a5, bv a6, bv a7, bv a8, bv a9, bv a10, bv a11, bv a12, bv a13, bv a14, bv a15, bv a16, bv a17, bv a18, bv a19, bv a20, bv a21, bv a22, bv a23, bv a24, bv a25, bv a26, bv a27, bv a28, bv a29, bv a30, bv a31]).toArray _ _ rfl (by kernel_rfl) (by kernel_rfl) (by kernel_rfl) (Nat.le_of_ble_eq_true (by kernel_rfl)) (by kernel_rfl) (by kernel_rfl)) ?_
    refine Sy.nil ?_
    refine Sy.then_ ?_
    refine Sy.seq ?_
    refine Sy.regionD (fun j => j == 2) (by kernel_rfl) ?_
    refine Sy.stepD 0 rfl (by kernel_rfl) (fun _ _ _ _ h => h) (by kernel_rfl) (.slice (some ⟨g2, 1, none⟩) 32 32) (Quiet.pure (fun _ => by kernel_rfl)) ?_
    refine Sy.stepD 1 rfl (by kernel_rfl) (fun _ _ _ _ h => h) (by kernel_rfl) (.slice (some ⟨g4, 0, none⟩) 32 32) (Quiet.pure (fun _ => by kernel_rfl)) ?_
    refine Sy.writeVD 2 rfl (by kernel_rfl) (by rfl) (by kernel_rfl) 2 g2 45 (.int .u8 3 :: .int .u8 0 :: .int .u8 0 :: [.int .u8 0, .int .u8 0, .int .u8 0, .int .u8 0, .int .u8 0, .int .u8 0, .int .u8 0, .int .u8 0, .int .u8 0, .int .u8 0, .int .u8 0, .int .u8 0, .int .u8 0, .int .u8 0, .int .u8 0, .int .u8 0, .int .u8 0, .int .u8 0, .int .u8 0, .int .u8 0, .int .u8 0, .int .u8 0, .int .u8 0, .int .u8 0, .int .u8 0, .int .u8 0, .int .u8 0, .int .u8 0, .int .u8 0, .int .u8 0]).toArray (.int .u8 3 :: bv a0 :: bv a1 :: [bv a2, bv a3, bv a4, bv a5, bv a6, bv a7, bv a8, bv a9, bv a10, bv a11, bv a12, bv a13, bv a14, bv a15, bv a16, bv a17, bv a18, bv a19, bv a20, bv a21, bv a22, bv a23, bv a24, bv a25, bv a26, bv a27, bv a28, bv a29, bv a30, bv a31]).toArray (.int .i64 32) (by kernel_rfl) (WritesV.copy _ _ 44 44 _ rfl Try.underlying44 (by kernel_rfl) 2 g2 1 32 32 45 (.int .u8 3 :: .int .u8 0 :: .int .u8 0 :: [.int .u8 0, .int .u8 0, .int .u8 0, .int .u8 0, .int .u8 0, .int .u8 0, .int .u8 0, .int .u8 0, .int .u8 0, .int .u8 0, .int .u8 0, .int .u8 0, .int .u8 0, .int .u8 0, .int .u8 0, .int .u8 0, .int .u8 0, .int .u8 0, .int .u8 0, .int .u8 0, .int .u8 0, .int .u8 0, .int .u8 0, .int .u8 0, .int .u8 0, .int .u8 0, .int .u8 0, .int .u8 0, .int .u8 0, .int .u8 0]).toArray (.int .u8 3 :: bv a0 :: bv a1 :: [bv a2, bv a3, bv a4, bv a5, bv a6, bv a7, bv a8, bv a9, bv a10, bv a11, bv a12, bv a13, bv a14, bv a15, bv a16, bv a17, bv a18, bv a19, bv a20, bv a21, bv a22, bv a23, bv a24, bv a25, bv a26, bv a27, bv a28, bv a29, bv a30, bv a31]).toArray (by kernel_rfl) (by kernel_rfl) 3 g4 0 32 32 52 (bv a0 :: bv a1 :: [bv a2, bv a3, bv a4, bv a5, bv a6, bv a7, bv a8, bv a9, bv a10, bv a11, bv a12, bv a13, bv a14, bv a15, bv a16, bv a17, bv a18, bv a19, bv a20, bv a21, bv a22, bv a23, bv a24, bv a25, bv a26, bv a27, bv a28, bv a29, bv a30, bv a31]).toArray (by kernel_rfl) (by kernel_rfl) (bv a0 :: bv a1 :: [bv a2, bv a3, bv a4, bv a5, bv a6, bv a7, bv a8, bv a9, bv a10, bv a11, bv a12, bv a13, bv a14, bv a15, bv a16, bv a17, bv a18, bv a19, bv a20, bv a21, bv a22, bv a23, bv a24, bv a25, bv a26, bv a27, bv a28, bv a29, bv a30, bv a31]) (by kernel_rfl) (by kernel_rfl) (all_one _ (by kernel_rfl)) (Nat.le_of_ble_eq_true (by kernel_rfl)) (by kernel_rfl)) ?_
    refine Sy.doneD (by kernel_rfl) ?_
    refine Sy.then_ ?_
    refine Sy.seq ?_
    refine Sy.region ?_
    refine Sy.step (by kernel_rfl) (.agg ((.int .u8 3 :: bv a0 :: bv a1 :: [bv a2, bv a3, bv a4, bv a5, bv a6, bv a7, bv a8, bv a9, bv a10, bv a11, bv a12, bv a13, bv a14, bv a15, bv a16, bv a17, bv a18, bv a19, bv a20, bv a21, bv a22, bv a23, bv a24, bv a25, bv a26, bv a27, bv a28, bv a29, bv a30, bv a31]) : List Value).toArray) (Quiet.load 2 g2 0 33 45 45 (.int .u8 3 :: bv a0 :: bv a1 :: [bv a2, bv a3, bv a4, bv a5, bv a6, bv a7, bv a8, bv a9, bv a10, bv a11, bv a12, bv a13, bv a14, bv a15, bv a16, bv a17, bv a18, bv a19, bv a20, bv a21, bv a22, bv a23, bv a24, bv a25, bv a26, bv a27, bv a28, bv a29, bv a30, bv a31]).toArray _ _ rfl (by kernel_rfl) (by kernel_rfl) Try.underlying45 rfl (by kernel_rfl) _ (by kernel_rfl) (Nat.le_of_ble_eq_true (by kernel_rfl))) ?_
    refine Sy.write (by kernel_rfl) 1 g1 45 (.int .u8 0 :: .int .u8 0 :: .int .u8 0 :: [.int .u8 0, .int .u8 0, .int .u8 0, .int .u8 0, .int .u8 0, .int .u8 0, .int .u8 0, .int .u8 0, .int .u8 0, .int .u8 0, .int .u8 0, .int .u8 0, .int .u8 0, .int .u8 0, .int .u8 0, .int .u8 0, .int .u8 0, .int .u8 0, .int .u8 0, .int .u8 0, .int .u8 0, .int .u8 0, .int .u8 0, .int .u8 0, .int .u8 0, .int .u8 0, .int .u8 0, .int .u8 0, .int .u8 0, .int .u8 0]).toArray (.int .u8 3 :: bv a0 :: bv a1 :: [bv a2, bv a3, bv a4, bv a5, bv a6, bv a7, bv a8, bv a9, bv a10, bv a11, bv a12, bv a13, bv a14, bv a15, bv a16, bv a17, bv a18, bv a19, bv a20, bv a21, bv a22, bv a23, bv a24, bv a25, bv a26, bv a27, bv a28, bv a29, bv a30, bv a31]).toArray (by kernel_rfl) (Writes.store 0 45 (.int .u8 3 :: bv a0 :: bv a1 :: [bv a2, bv a3, bv a4, bv a5, bv a6, bv a7, bv a8, bv a9, bv a10, bv a11, bv a12, bv a13, bv a14, bv a15, bv a16, bv a17, bv a18, bv a19, bv a20, bv a21, bv a22, bv a23, bv a24, bv a25, bv a26, bv a27, bv a28, bv a29, bv a30, bv a31]).toArray _ _ rfl (by kernel_rfl) (by kernel_rfl) (by kernel_rfl) (Nat.le_of_ble_eq_true (by kernel_rfl)) (by kernel_rfl) (by kernel_rfl)) ?_
    refine Sy.nil ?_
    refine Sy.then_ ?_
    refine Sy.ret ?_
    rw [show (.agg ((encS (some (u, v))).map bv).toArray : Value) = .agg ((.int .u8 3 :: bv a0 :: bv a1 :: [bv a2, bv a3, bv a4, bv a5, bv a6, bv a7, bv a8, bv a9, bv a10, bv a11, bv a12, bv a13, bv a14, bv a15, bv a16, bv a17, bv a18, bv a19, bv a20, bv a21, bv a22, bv a23, bv a24, bv a25, bv a26, bv a27, bv a28, bv a29, bv a30, bv a31]) : List Value).toArray from by
      have e : encS (some (u, v)) = (if v.val % 2 = 1 then 3 else 2) :: bytesS u.val := rfl
      rw [e, hm, if_pos (by have q := hb1.symm; rw [Nat.mod_eq_of_lt v.isLt] at q; exact of_decide_eq_true q)]
      rfl]
    exact Sy.ret1 (v := .agg ((.int .u8 3 :: bv a0 :: bv a1 :: [bv a2, bv a3, bv a4, bv a5, bv a6, bv a7, bv a8, bv a9, bv a10, bv a11, bv a12, bv a13, bv a14, bv a15, bv a16, bv a17, bv a18, bv a19, bv a20, bv a21, bv a22, bv a23, bv a24, bv a25, bv a26, bv a27, bv a28, bv a29, bv a30, bv a31]) : List Value).toArray) rfl (.inl (Res.cell (ty' := 45) g1 1 (.int .u8 3 :: bv a0 :: bv a1 :: [bv a2, bv a3, bv a4, bv a5, bv a6, bv a7, bv a8, bv a9, bv a10, bv a11, bv a12, bv a13, bv a14, bv a15, bv a16, bv a17, bv a18, bv a19, bv a20, bv a21, bv a22, bv a23, bv a24, bv a25, bv a26, bv a27, bv a28, bv a29, bv a30, bv a31]).toArray _ (by kernel_rfl) (by kernel_rfl) Try.underlying45 rfl (by kernel_rfl) (by kernel_rfl)))
/-- every Encode -/
theorem enc_any (w : World) (x y : Nat) (i : Bool) (hx : x < K4) (hy : y < K4) : Calls Try.prog 26 #[pv x y i] w (Gets w (.agg ((encS (dec x y i)).map bv).toArray)) := by
  rcases h : dec x y i with _ | ⟨u, v⟩
  · exact enc_none w x y i hx hy h
  · exact enc_some w x y i hx hy u v h
end Go.Proofs.Ytlojidnlkflpnaa.Cu
