/-
  The law on which points are right, walked.
-/
import Derived.Test.YtlojidnlkflpnaaCurveAlive
namespace Go.Proofs.Ytlojidnlkflpnaa.Cu
open Go.RowKit Go.Proofs.Ytlojidnlkflpnaa Go.Proofs.Ytlojidnlkflpnaa.Sy

set_option maxHeartbeats 4000000 in
set_option maxRecDepth 100000 in
theorem law_rights (w : World) (x0 y0 : Nat) (i0 : Bool) (hx0 : x0 < K4) (hy0 : y0 < K4) : Calls Try.prog 3 #[pv x0 y0 i0] w (Gets w (.bool true)) := by
  obtain ⟨nx, ny, ni, lnx, lny, en, dn, rn⟩ := ptv_raw (Ec.neg (dec x0 y0 i0)) (Ec.On.neg (dec_on _ _ _))
  obtain ⟨b, hb⟩ : ∃ b, b = rightB x0 y0 i0 := ⟨_, rfl⟩
  refine Sy.enter (args := [pv x0 y0 i0]) Try.func3 rfl (Nat.le_of_ble_eq_true (by kernel_rfl)) ?_
  refine Sy.seq ?_
  refine Sy.region ?_
  refine Sy.make (by kernel_rfl) 26 (pcs x0 y0 i0) ptr (fun _ => by kernel_rfl) (fun g0 => ?_)
  refine Sy.step (by kernel_rfl) (.bool false) (Quiet.pure (fun _ => by kernel_rfl)) ?_
  refine Sy.nil ?_
  refine Sy.then_ ?_
  refine Sy.seq ?_
  refine Sy.regionD (fun j => false) (by kernel_rfl) ?_
  refine Sy.stepD 0 rfl (by kernel_rfl) (fun _ _ _ _ h => h) (by kernel_rfl) (.bool true) (Quiet.call 12 #[] (fun _ => by kernel_rfl) (alive5)) ?_
  refine Sy.stepD 1 rfl (by kernel_rfl) (fun _ _ _ _ h => h) (by kernel_rfl) (.bool true) (Quiet.pure (fun _ => by kernel_rfl)) ?_
  refine Sy.stepD 2 rfl (by kernel_rfl) (fun _ _ _ _ h => h) (by kernel_rfl) (pv x0 y0 i0) (Quiet.load 0 g0 0 9 26 26 (pcs x0 y0 i0) _ _ rfl (by kernel_rfl) (by kernel_rfl) Try.underlying26 rfl (by kernel_rfl) _ (by kernel_rfl) (Nat.le_of_ble_eq_true (by kernel_rfl))) ?_
  refine Sy.stepD 3 rfl (by kernel_rfl) (fun _ _ _ _ h => h) (by kernel_rfl) (.bool b) (Quiet.call 13 #[pv x0 y0 i0] (fun _ => by kernel_rfl) (right_of hx0 hy0 hb.symm)) ?_
  refine Sy.stepD 4 rfl (by kernel_rfl) (fun _ _ _ _ h => h) (by kernel_rfl) (pv x0 y0 i0) (Quiet.load 0 g0 0 9 26 26 (pcs x0 y0 i0) _ _ rfl (by kernel_rfl) (by kernel_rfl) Try.underlying26 rfl (by kernel_rfl) _ (by kernel_rfl) (Nat.le_of_ble_eq_true (by kernel_rfl))) ?_
  refine Sy.stepD 5 rfl (by kernel_rfl) (fun _ _ _ _ h => h) (by kernel_rfl) (.bool b) (Quiet.call 14 #[pv x0 y0 i0] (fun _ => by kernel_rfl) (fun w => by rw [hb]; exact rightR_b w x0 y0 i0 hx0 hy0)) ?_
  refine Sy.stepD 6 rfl (by kernel_rfl) (fun _ _ _ _ h => h) (by kernel_rfl) (.bool true) (Quiet.pure (fun w => eql_bool_same w _ _ _ _ b rfl rfl rfl)) ?_
  refine Sy.stepD 7 rfl (by kernel_rfl) (fun _ _ _ _ h => h) (by kernel_rfl) (.bool true) (Quiet.pure (fun _ => by kernel_rfl)) ?_
  refine Sy.stepD 8 rfl (by kernel_rfl) (fun _ _ _ _ h => h) (by kernel_rfl) (.bool true) (Quiet.pure (fun _ => by kernel_rfl)) ?_
  refine Sy.stepD 9 rfl (by kernel_rfl) (fun _ _ _ _ h => h) (by kernel_rfl) (pv x0 y0 i0) (Quiet.load 0 g0 0 9 26 26 (pcs x0 y0 i0) _ _ rfl (by kernel_rfl) (by kernel_rfl) Try.underlying26 rfl (by kernel_rfl) _ (by kernel_rfl) (Nat.le_of_ble_eq_true (by kernel_rfl))) ?_
  refine Sy.stepD 10 rfl (by kernel_rfl) (fun _ _ _ _ h => h) (by kernel_rfl) (pv nx ny ni) (Quiet.call 15 #[pv x0 y0 i0] (fun _ => by kernel_rfl) (neg_of hx0 hy0 rfl en rfl)) ?_
  refine Sy.stepD 11 rfl (by kernel_rfl) (fun _ _ _ _ h => h) (by kernel_rfl) (pv x0 y0 i0) (Quiet.load 0 g0 0 9 26 26 (pcs x0 y0 i0) _ _ rfl (by kernel_rfl) (by kernel_rfl) Try.underlying26 rfl (by kernel_rfl) _ (by kernel_rfl) (Nat.le_of_ble_eq_true (by kernel_rfl))) ?_
  refine Sy.stepD 12 rfl (by kernel_rfl) (fun _ _ _ _ h => h) (by kernel_rfl) (pv nx ny ni) (Quiet.call 16 #[pv x0 y0 i0] (fun _ => by kernel_rfl) (fun w => by rw [← en]; exact negRe_any w x0 y0 i0 hx0 hy0)) ?_
  refine Sy.stepD 13 rfl (by kernel_rfl) (fun _ _ _ _ h => h) (by kernel_rfl) (.bool true) (Quiet.pure (fun w => eql_pt_same w _ _ _ _ _ _ _ rfl rfl rfl (by first | assumption | exact lt4 _ | decide +kernel) (by first | assumption | exact lt4 _ | decide +kernel))) ?_
  refine Sy.stepD 14 rfl (by kernel_rfl) (fun _ _ _ _ h => h) (by kernel_rfl) (.bool true) (Quiet.pure (fun _ => by kernel_rfl)) ?_
  refine Sy.stepD 15 rfl (by kernel_rfl) (fun _ _ _ _ h => h) (by kernel_rfl) (.bool true) (Quiet.pure (fun _ => by kernel_rfl)) ?_
  refine Sy.doneD (by kernel_rfl) ?_
  refine Sy.then_ ?_
  refine Sy.ret ?_
  exact Sy.ret1 (v := .bool true) rfl (.inl (show _ = _ by kernel_rfl))
end Go.Proofs.Ytlojidnlkflpnaa.Cu
