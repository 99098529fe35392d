/-
  The law on Lift, walked.
-/
import Derived.Test.YtlojidnlkflpnaaCurveAlive
import Derived.Test.YtlojidnlkflpnaaCrvE
namespace Go.Proofs.Ytlojidnlkflpnaa.Cu
open Go.RowKit Go.Proofs.Ytlojidnlkflpnaa Go.Proofs.Ytlojidnlkflpnaa.Sy

/-- the lowest word's remainder by 2, of an even number -/
theorem rem_even (w : World) (F : Slots) (o : Oper) (x y : Operand) (n : Nat) {yt : TypeId} (ho : o.op = .binOp .rem 22 x y yt) (hx : evF F x = qv (n % 18446744073709551616)) (hy : evF F y = .int .u64 2) (hn : n % 2 = 0) : (execOp (evF F) o).run Try.prog w = .ok (.value (.int .u64 0)) w := by
  have h : n % 18446744073709551616 % 2 = 0 := by omega
  obtain ⟨m, hm⟩ : ∃ m, m = n % 18446744073709551616 := ⟨_, rfl⟩
  rw [← hm] at h hx
  have hl : m < 18446744073709551616 := by rw [hm]; omega
  have e : ((m : Int)).tmod 2 = 0 := by
    rw [Int.tmod_eq_emod_of_nonneg (by omega)]
    omega
  have h1 := Try.underlying22
  unfold execOp
  simp only [ho, hx, hy, qv]
  simp [eqGuard, binOp, Op.intDiv, e, Sem.run_bind, Result.andThen]
set_option maxHeartbeats 4000000 in
set_option maxRecDepth 100000 in
theorem law_lifts_no (w : World) (l : List UInt8) (hl : l.length = 32) (h : liftB l = false) : Calls Try.prog 9 #[.agg (l.map bv).toArray] w (Gets w (.bool true)) := by
  have cL := fun w => lift_any w l hl
  have cR := fun w => liftR_any w l hl
  rw [h, lift_no h] at cL cR
  refine Sy.enter (args := [.agg (l.map bv).toArray]) Try.func9 rfl (Nat.le_of_ble_eq_true (by kernel_rfl)) ?_
  refine Sy.seq ?_
  refine Sy.region ?_
  refine Sy.make (by kernel_rfl) 53 (l.map bv).toArray ptr (fun _ => by kernel_rfl) (fun g0 => ?_)
  refine Sy.step (by kernel_rfl) (.bool false) (Quiet.pure (fun _ => by kernel_rfl)) ?_
  refine Sy.nil ?_
  refine Sy.then_ ?_
  refine Sy.seq ?_
  refine Sy.region ?_
  refine Sy.step (by kernel_rfl) (.agg (l.map bv).toArray) (Quiet.load 0 g0 0 32 53 53 (l.map bv).toArray _ _ rfl (by kernel_rfl) (by kernel_rfl) Try.underlying53 rfl (by kernel_rfl) _ (key_whole l hl) (key_size l hl)) ?_
  refine Sy.step (by kernel_rfl) (.tuple #[pv 0 0 true, .bool false]) (Quiet.call 32 #[.agg (l.map bv).toArray] (fun _ => by kernel_rfl) (cL)) ?_
  refine Sy.step (by kernel_rfl) (.tuple #[pv 0 0 true, .bool false]) (Quiet.pure (fun _ => by kernel_rfl)) ?_
  refine Sy.step (by kernel_rfl) (pv 0 0 true) (Quiet.pure (fun _ => by kernel_rfl)) ?_
  refine Sy.step (by kernel_rfl) (.bool false) (Quiet.pure (fun _ => by kernel_rfl)) ?_
  refine Sy.make (by kernel_rfl) 26 (pcs 0 0 false) ptr (fun _ => by kernel_rfl) (fun g1 => ?_)
  refine Sy.write (by kernel_rfl) 1 g1 26 (pcs 0 0 false) (pcs 0 0 true) (by kernel_rfl) (Writes.store 0 26 (pcs 0 0 true) _ _ rfl (by kernel_rfl) (by kernel_rfl) (by kernel_rfl) (Nat.le_of_ble_eq_true (by kernel_rfl)) (by kernel_rfl) (by kernel_rfl)) ?_
  refine Sy.step (by kernel_rfl) (.bool false) (Quiet.pure (fun _ => by kernel_rfl)) ?_
  refine Sy.nil ?_
  refine Sy.then_ ?_
  refine Sy.seq ?_
  refine Sy.region ?_
  refine Sy.step (by kernel_rfl) (.agg (l.map bv).toArray) (Quiet.load 0 g0 0 32 53 53 (l.map bv).toArray _ _ rfl (by kernel_rfl) (by kernel_rfl) Try.underlying53 rfl (by kernel_rfl) _ (key_whole l hl) (key_size l hl)) ?_
  refine Sy.step (by kernel_rfl) (.tuple #[pv 0 0 true, .bool false]) (Quiet.call 33 #[.agg (l.map bv).toArray] (fun _ => by kernel_rfl) (cR)) ?_
  refine Sy.step (by kernel_rfl) (.tuple #[pv 0 0 true, .bool false]) (Quiet.pure (fun _ => by kernel_rfl)) ?_
  refine Sy.step (by kernel_rfl) (pv 0 0 true) (Quiet.pure (fun _ => by kernel_rfl)) ?_
  refine Sy.step (by kernel_rfl) (.bool false) (Quiet.pure (fun _ => by kernel_rfl)) ?_
  refine Sy.make (by kernel_rfl) 26 (pcs 0 0 false) ptr (fun _ => by kernel_rfl) (fun g2 => ?_)
  refine Sy.write (by kernel_rfl) 2 g2 26 (pcs 0 0 false) (pcs 0 0 true) (by kernel_rfl) (Writes.store 0 26 (pcs 0 0 true) _ _ rfl (by kernel_rfl) (by kernel_rfl) (by kernel_rfl) (Nat.le_of_ble_eq_true (by kernel_rfl)) (by kernel_rfl) (by kernel_rfl)) ?_
  refine Sy.step (by kernel_rfl) (.bool false) (Quiet.pure (fun _ => by kernel_rfl)) ?_
  refine Sy.nil ?_
  refine Sy.then_ ?_
  refine Sy.seq ?_
  refine Sy.region ?_
  refine Sy.step (by kernel_rfl) (.bool true) (Quiet.call 12 #[] (fun _ => by kernel_rfl) (alive5)) ?_
  refine Sy.step (by kernel_rfl) (.bool true) (Quiet.pure (fun _ => by kernel_rfl)) ?_
  refine Sy.step (by kernel_rfl) (pv 0 0 true) (Quiet.load 1 g1 0 9 26 26 (pcs 0 0 true) _ _ rfl (by kernel_rfl) (by kernel_rfl) Try.underlying26 rfl (by kernel_rfl) _ (by kernel_rfl) (Nat.le_of_ble_eq_true (by kernel_rfl))) ?_
  refine Sy.step (by kernel_rfl) (pv 0 0 true) (Quiet.load 2 g2 0 9 26 26 (pcs 0 0 true) _ _ rfl (by kernel_rfl) (by kernel_rfl) Try.underlying26 rfl (by kernel_rfl) _ (by kernel_rfl) (Nat.le_of_ble_eq_true (by kernel_rfl))) ?_
  refine Sy.step (by kernel_rfl) (.bool true) (Quiet.pure (fun w => eql_pt_same w _ _ _ _ _ _ _ rfl rfl rfl (by first | assumption | exact lt4 _ | decide +kernel) (by first | assumption | exact lt4 _ | decide +kernel))) ?_
  refine Sy.step (by kernel_rfl) (.bool true) (Quiet.pure (fun _ => by kernel_rfl)) ?_
  refine Sy.step (by kernel_rfl) (.bool true) (Quiet.pure (fun _ => by kernel_rfl)) ?_
  refine Sy.step (by kernel_rfl) (.bool false) (Quiet.pure (fun _ => by kernel_rfl)) ?_
  refine Sy.step (by kernel_rfl) (.bool false) (Quiet.pure (fun _ => by kernel_rfl)) ?_
  refine Sy.step (by kernel_rfl) (.bool true) (Quiet.pure (fun w => eql_bool_same w _ _ _ _ false rfl rfl rfl)) ?_
  refine Sy.step (by kernel_rfl) (.bool true) (Quiet.pure (fun _ => by kernel_rfl)) ?_
  refine Sy.step (by kernel_rfl) (.bool true) (Quiet.pure (fun _ => by kernel_rfl)) ?_
  refine Sy.step (by kernel_rfl) (pv 0 0 true) (Quiet.load 1 g1 0 9 26 26 (pcs 0 0 true) _ _ rfl (by kernel_rfl) (by kernel_rfl) Try.underlying26 rfl (by kernel_rfl) _ (by kernel_rfl) (Nat.le_of_ble_eq_true (by kernel_rfl))) ?_
  refine Sy.step (by kernel_rfl) (.bool true) (Quiet.call 13 #[pv 0 0 true] (fun _ => by kernel_rfl) (right_of (by decide) (by decide) rfl)) ?_
  refine Sy.step (by kernel_rfl) (.bool true) (Quiet.pure (fun _ => by kernel_rfl)) ?_
  refine Sy.step (by kernel_rfl) (.bool true) (Quiet.pure (fun _ => by kernel_rfl)) ?_
  refine Sy.step (by kernel_rfl) (.bool false) (Quiet.pure (fun _ => by kernel_rfl)) ?_
  refine Sy.step (by kernel_rfl) (.bool true) (Quiet.pure (fun _ => by kernel_rfl)) ?_
  refine Sy.step (by kernel_rfl) (.bool true) (Quiet.pure (fun _ => by kernel_rfl)) ?_
  refine Sy.pass (by kernel_rfl) (by kernel_rfl) ?_
  refine Sy.pass (by kernel_rfl) (by kernel_rfl) ?_
  refine Sy.pass (by kernel_rfl) (by kernel_rfl) ?_
  refine Sy.pass (by kernel_rfl) (by kernel_rfl) ?_
  refine Sy.pass (by kernel_rfl) (by kernel_rfl) ?_
  refine Sy.step (by kernel_rfl) (.bool true) (Quiet.pure (fun _ => by kernel_rfl)) ?_
  refine Sy.step (by kernel_rfl) (.bool true) (Quiet.pure (fun _ => by kernel_rfl)) ?_
  refine Sy.step (by kernel_rfl) (.bool true) (Quiet.pure (fun _ => by kernel_rfl)) ?_
  refine Sy.nil ?_
  refine Sy.then_ ?_
  refine Sy.ret ?_
  exact Sy.ret1 (v := .bool true) rfl (.inl (show _ = _ by kernel_rfl))
set_option maxHeartbeats 4000000 in
set_option maxRecDepth 100000 in
theorem law_lifts_yes (w : World) (l : List UInt8) (hl : l.length = 32) (h : liftB l = true) (u y : Fp) (e : liftP l = some (u, y)) (ho : y * y = u * u * u + 7) (hy : y.val % 2 = 0) : Calls Try.prog 9 #[.agg (l.map bv).toArray] w (Gets w (.bool true)) := by
  have cL := fun w => lift_any w l hl
  have cR := fun w => liftR_any w l hl
  rw [h, e] at cL cR
  have r : rightB u.val y.val false = true := by rw [rb_xy, ho]; simp
  refine Sy.enter (args := [.agg (l.map bv).toArray]) Try.func9 rfl (Nat.le_of_ble_eq_true (by kernel_rfl)) ?_
  refine Sy.seq ?_
  refine Sy.region ?_
  refine Sy.make (by kernel_rfl) 53 (l.map bv).toArray ptr (fun _ => by kernel_rfl) (fun g0 => ?_)
  refine Sy.step (by kernel_rfl) (.bool false) (Quiet.pure (fun _ => by kernel_rfl)) ?_
  refine Sy.nil ?_
  refine Sy.then_ ?_
  refine Sy.seq ?_
  refine Sy.region ?_
  refine Sy.step (by kernel_rfl) (.agg (l.map bv).toArray) (Quiet.load 0 g0 0 32 53 53 (l.map bv).toArray _ _ rfl (by kernel_rfl) (by kernel_rfl) Try.underlying53 rfl (by kernel_rfl) _ (key_whole l hl) (key_size l hl)) ?_
  refine Sy.step (by kernel_rfl) (.tuple #[pv u.val y.val false, .bool true]) (Quiet.call 32 #[.agg (l.map bv).toArray] (fun _ => by kernel_rfl) (cL)) ?_
  refine Sy.step (by kernel_rfl) (.tuple #[pv u.val y.val false, .bool true]) (Quiet.pure (fun _ => by kernel_rfl)) ?_
  refine Sy.step (by kernel_rfl) (pv u.val y.val false) (Quiet.pure (fun _ => by kernel_rfl)) ?_
  refine Sy.step (by kernel_rfl) (.bool true) (Quiet.pure (fun _ => by kernel_rfl)) ?_
  refine Sy.make (by kernel_rfl) 26 (pcs 0 0 false) ptr (fun _ => by kernel_rfl) (fun g1 => ?_)
  refine Sy.write (by kernel_rfl) 1 g1 26 (pcs 0 0 false) (pcs u.val y.val false) (by kernel_rfl) (Writes.store 0 26 (pcs u.val y.val false) _ _ rfl (by kernel_rfl) (by kernel_rfl) (by kernel_rfl) (Nat.le_of_ble_eq_true (by kernel_rfl)) (by kernel_rfl) (by kernel_rfl)) ?_
  refine Sy.step (by kernel_rfl) (.bool true) (Quiet.pure (fun _ => by kernel_rfl)) ?_
  refine Sy.nil ?_
  refine Sy.then_ ?_
  refine Sy.seq ?_
  refine Sy.region ?_
  refine Sy.step (by kernel_rfl) (.agg (l.map bv).toArray) (Quiet.load 0 g0 0 32 53 53 (l.map bv).toArray _ _ rfl (by kernel_rfl) (by kernel_rfl) Try.underlying53 rfl (by kernel_rfl) _ (key_whole l hl) (key_size l hl)) ?_
  refine Sy.step (by kernel_rfl) (.tuple #[pv u.val y.val false, .bool true]) (Quiet.call 33 #[.agg (l.map bv).toArray] (fun _ => by kernel_rfl) (cR)) ?_
  refine Sy.step (by kernel_rfl) (.tuple #[pv u.val y.val false, .bool true]) (Quiet.pure (fun _ => by kernel_rfl)) ?_
  refine Sy.step (by kernel_rfl) (pv u.val y.val false) (Quiet.pure (fun _ => by kernel_rfl)) ?_
  refine Sy.step (by kernel_rfl) (.bool true) (Quiet.pure (fun _ => by kernel_rfl)) ?_
  refine Sy.make (by kernel_rfl) 26 (pcs 0 0 false) ptr (fun _ => by kernel_rfl) (fun g2 => ?_)
  refine Sy.write (by kernel_rfl) 2 g2 26 (pcs 0 0 false) (pcs u.val y.val false) (by kernel_rfl) (Writes.store 0 26 (pcs u.val y.val false) _ _ rfl (by kernel_rfl) (by kernel_rfl) (by kernel_rfl) (Nat.le_of_ble_eq_true (by kernel_rfl)) (by kernel_rfl) (by kernel_rfl)) ?_
  refine Sy.step (by kernel_rfl) (.bool true) (Quiet.pure (fun _ => by kernel_rfl)) ?_
  refine Sy.nil ?_
  refine Sy.then_ ?_
  refine Sy.seq ?_
  refine Sy.region ?_
  refine Sy.step (by kernel_rfl) (.bool true) (Quiet.call 12 #[] (fun _ => by kernel_rfl) (alive5)) ?_
  refine Sy.step (by kernel_rfl) (.bool true) (Quiet.pure (fun _ => by kernel_rfl)) ?_
  refine Sy.step (by kernel_rfl) (pv u.val y.val false) (Quiet.load 1 g1 0 9 26 26 (pcs u.val y.val false) _ _ rfl (by kernel_rfl) (by kernel_rfl) Try.underlying26 rfl (by kernel_rfl) _ (by kernel_rfl) (Nat.le_of_ble_eq_true (by kernel_rfl))) ?_
  refine Sy.step (by kernel_rfl) (pv u.val y.val false) (Quiet.load 2 g2 0 9 26 26 (pcs u.val y.val false) _ _ rfl (by kernel_rfl) (by kernel_rfl) Try.underlying26 rfl (by kernel_rfl) _ (by kernel_rfl) (Nat.le_of_ble_eq_true (by kernel_rfl))) ?_
  refine Sy.step (by kernel_rfl) (.bool true) (Quiet.pure (fun w => eql_pt_same w _ _ _ _ _ _ _ rfl rfl rfl (by first | assumption | exact lt4 _ | decide +kernel) (by first | assumption | exact lt4 _ | decide +kernel))) ?_
  refine Sy.step (by kernel_rfl) (.bool true) (Quiet.pure (fun _ => by kernel_rfl)) ?_
  refine Sy.step (by kernel_rfl) (.bool true) (Quiet.pure (fun _ => by kernel_rfl)) ?_
  refine Sy.step (by kernel_rfl) (.bool true) (Quiet.pure (fun _ => by kernel_rfl)) ?_
  refine Sy.step (by kernel_rfl) (.bool true) (Quiet.pure (fun _ => by kernel_rfl)) ?_
  refine Sy.step (by kernel_rfl) (.bool true) (Quiet.pure (fun w => eql_bool_same w _ _ _ _ true rfl rfl rfl)) ?_
  refine Sy.step (by kernel_rfl) (.bool true) (Quiet.pure (fun _ => by kernel_rfl)) ?_
  refine Sy.step (by kernel_rfl) (.bool true) (Quiet.pure (fun _ => by kernel_rfl)) ?_
  refine Sy.step (by kernel_rfl) (pv u.val y.val false) (Quiet.load 1 g1 0 9 26 26 (pcs u.val y.val false) _ _ rfl (by kernel_rfl) (by kernel_rfl) Try.underlying26 rfl (by kernel_rfl) _ (by kernel_rfl) (Nat.le_of_ble_eq_true (by kernel_rfl))) ?_
  refine Sy.step (by kernel_rfl) (.bool true) (Quiet.call 13 #[pv u.val y.val false] (fun _ => by kernel_rfl) (right_of (lt4 u) (lt4 y) r)) ?_
  refine Sy.step (by kernel_rfl) (.bool true) (Quiet.pure (fun _ => by kernel_rfl)) ?_
  refine Sy.step (by kernel_rfl) (.bool true) (Quiet.pure (fun _ => by kernel_rfl)) ?_
  refine Sy.step (by kernel_rfl) (.bool true) (Quiet.pure (fun _ => by kernel_rfl)) ?_
  refine Sy.step (by kernel_rfl) (.bool false) (Quiet.pure (fun _ => by kernel_rfl)) ?_
  refine Sy.step (by kernel_rfl) (.bool false) (Quiet.pure (fun _ => by kernel_rfl)) ?_
  refine Sy.step (by kernel_rfl) (.pointer (some ⟨g1, 4, none⟩)) (Quiet.pure (fun _ => by kernel_rfl)) ?_
  refine Sy.step (by kernel_rfl) (.pointer (some ⟨g1, 4, none⟩)) (Quiet.pure (fun _ => by kernel_rfl)) ?_
  refine Sy.step (by kernel_rfl) (qv (y.val % 18446744073709551616)) (Quiet.cell 1 g1 4 26 22 (pcs u.val y.val false) _ _ rfl (by kernel_rfl) (by kernel_rfl) Try.underlying22 rfl _ (by kernel_rfl)) ?_
  refine Sy.step (by kernel_rfl) (.int .u64 0) (Quiet.pure (fun w => rem_even w _ _ _ _ y.val rfl rfl rfl hy)) ?_
  refine Sy.step (by kernel_rfl) (.bool true) (Quiet.pure (fun _ => by kernel_rfl)) ?_
  refine Sy.step (by kernel_rfl) (.bool true) (Quiet.pure (fun _ => by kernel_rfl)) ?_
  refine Sy.step (by kernel_rfl) (.bool true) (Quiet.pure (fun _ => by kernel_rfl)) ?_
  refine Sy.step (by kernel_rfl) (.bool true) (Quiet.pure (fun _ => by kernel_rfl)) ?_
  refine Sy.nil ?_
  refine Sy.then_ ?_
  refine Sy.ret ?_
  exact Sy.ret1 (v := .bool true) rfl (.inl (show _ = _ by kernel_rfl))
theorem law_lifts (w : World) (l : List UInt8) (hl : l.length = 32) : Calls Try.prog 9 #[.agg (l.map bv).toArray] w (Gets w (.bool true)) := by
  cases h : liftB l
  · exact law_lifts_no w l hl h
  · obtain ⟨u, y, _, _, e, ho, hy⟩ := lift_yes h
    exact law_lifts_yes w l hl h u y e ho hy
end Go.Proofs.Ytlojidnlkflpnaa.Cu
