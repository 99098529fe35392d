/-
  The law on sums, walked.
-/
import Derived.Test.YtlojidnlkflpnaaCurveAlive
namespace Go.Proofs.Ytlojidnlkflpnaa.Cu
open Go.RowKit Go.Proofs.Ytlojidnlkflpnaa Go.Proofs.Ytlojidnlkflpnaa.Sy

set_option maxHeartbeats 4000000 in
set_option maxRecDepth 100000 in
theorem law_adds (w : World) (x0 y0 : Nat) (i0 : Bool) (hx0 : x0 < K4) (hy0 : y0 < K4) (x1 y1 : Nat) (i1 : Bool) (hx1 : x1 < K4) (hy1 : y1 < K4) : Calls Try.prog 4 #[pv x0 y0 i0, pv x1 y1 i1] w (Gets w (.bool true)) := by
  have o0 := dec_on x0 y0 i0
  have o1 := dec_on x1 y1 i1
  obtain ⟨sx, sy, si, lsx, lsy, es, ds, rs⟩ := ptv_raw (Ec.add finv (dec x0 y0 i0) (dec x1 y1 i1)) (Ec.On.add fld o0 o1)
  refine Sy.enter (args := [pv x0 y0 i0, pv x1 y1 i1]) Try.func4 rfl (Nat.le_of_ble_eq_true (by kernel_rfl)) ?_
  refine Sy.seq ?_
  refine Sy.region ?_
  refine Sy.make (by kernel_rfl) 26 (pcs x0 y0 i0) ptr (fun _ => by kernel_rfl) (fun g0 => ?_)
  refine Sy.make (by kernel_rfl) 26 (pcs x1 y1 i1) ptr (fun _ => by kernel_rfl) (fun g1 => ?_)
  refine Sy.step (by kernel_rfl) (.bool false) (Quiet.pure (fun _ => by kernel_rfl)) ?_
  refine Sy.nil ?_
  refine Sy.then_ ?_
  refine Sy.seq ?_
  refine Sy.region ?_
  refine Sy.step (by kernel_rfl) (pv x0 y0 i0) (Quiet.load 0 g0 0 9 26 26 (pcs x0 y0 i0) _ _ rfl (by kernel_rfl) (by kernel_rfl) Try.underlying26 rfl (by kernel_rfl) _ (by kernel_rfl) (Nat.le_of_ble_eq_true (by kernel_rfl))) ?_
  refine Sy.step (by kernel_rfl) (pv x1 y1 i1) (Quiet.load 1 g1 0 9 26 26 (pcs x1 y1 i1) _ _ rfl (by kernel_rfl) (by kernel_rfl) Try.underlying26 rfl (by kernel_rfl) _ (by kernel_rfl) (Nat.le_of_ble_eq_true (by kernel_rfl))) ?_
  refine Sy.step (by kernel_rfl) (pv sx sy si) (Quiet.call 17 #[pv x0 y0 i0, pv x1 y1 i1] (fun _ => by kernel_rfl) (add_of hx0 hy0 hx1 hy1 rfl rfl es rfl)) ?_
  refine Sy.make (by kernel_rfl) 26 (pcs 0 0 false) ptr (fun _ => by kernel_rfl) (fun g2 => ?_)
  refine Sy.write (by kernel_rfl) 2 g2 26 (pcs 0 0 false) (pcs sx sy si) (by kernel_rfl) (Writes.store 0 26 (pcs sx sy si) _ _ rfl (by kernel_rfl) (by kernel_rfl) (by kernel_rfl) (Nat.le_of_ble_eq_true (by kernel_rfl)) (by kernel_rfl) (by kernel_rfl)) ?_
  refine Sy.nil ?_
  refine Sy.then_ ?_
  refine Sy.seq ?_
  refine Sy.regionD (fun j => false) (by kernel_rfl) ?_
  refine Sy.stepD 0 rfl (by kernel_rfl) (fun _ _ _ _ h => h) (by kernel_rfl) (.bool true) (Quiet.call 12 #[] (fun _ => by kernel_rfl) (alive5)) ?_
  refine Sy.stepD 1 rfl (by kernel_rfl) (fun _ _ _ _ h => h) (by kernel_rfl) (.bool true) (Quiet.pure (fun _ => by kernel_rfl)) ?_
  refine Sy.stepD 2 rfl (by kernel_rfl) (fun _ _ _ _ h => h) (by kernel_rfl) (pv sx sy si) (Quiet.load 2 g2 0 9 26 26 (pcs sx sy si) _ _ rfl (by kernel_rfl) (by kernel_rfl) Try.underlying26 rfl (by kernel_rfl) _ (by kernel_rfl) (Nat.le_of_ble_eq_true (by kernel_rfl))) ?_
  refine Sy.stepD 3 rfl (by kernel_rfl) (fun _ _ _ _ h => h) (by kernel_rfl) (pv x0 y0 i0) (Quiet.load 0 g0 0 9 26 26 (pcs x0 y0 i0) _ _ rfl (by kernel_rfl) (by kernel_rfl) Try.underlying26 rfl (by kernel_rfl) _ (by kernel_rfl) (Nat.le_of_ble_eq_true (by kernel_rfl))) ?_
  refine Sy.stepD 4 rfl (by kernel_rfl) (fun _ _ _ _ h => h) (by kernel_rfl) (pv x1 y1 i1) (Quiet.load 1 g1 0 9 26 26 (pcs x1 y1 i1) _ _ rfl (by kernel_rfl) (by kernel_rfl) Try.underlying26 rfl (by kernel_rfl) _ (by kernel_rfl) (Nat.le_of_ble_eq_true (by kernel_rfl))) ?_
  refine Sy.stepD 5 rfl (by kernel_rfl) (fun _ _ _ _ h => h) (by kernel_rfl) (pv sx sy si) (Quiet.call 18 #[pv x0 y0 i0, pv x1 y1 i1] (fun _ => by kernel_rfl) (fun w => by rw [← es]; exact addRe_any w x0 y0 i0 x1 y1 i1 hx0 hy0 hx1 hy1)) ?_
  refine Sy.stepD 6 rfl (by kernel_rfl) (fun _ _ _ _ h => h) (by kernel_rfl) (.bool true) (Quiet.pure (fun w => eql_pt_same w _ _ _ _ _ _ _ rfl rfl rfl (by first | assumption | exact lt4 _ | decide +kernel) (by first | assumption | exact lt4 _ | decide +kernel))) ?_
  refine Sy.stepD 7 rfl (by kernel_rfl) (fun _ _ _ _ h => h) (by kernel_rfl) (.bool true) (Quiet.pure (fun _ => by kernel_rfl)) ?_
  refine Sy.stepD 8 rfl (by kernel_rfl) (fun _ _ _ _ h => h) (by kernel_rfl) (.bool true) (Quiet.pure (fun _ => by kernel_rfl)) ?_
  refine Sy.stepD 9 rfl (by kernel_rfl) (fun _ _ _ _ h => h) (by kernel_rfl) (pv sx sy si) (Quiet.load 2 g2 0 9 26 26 (pcs sx sy si) _ _ rfl (by kernel_rfl) (by kernel_rfl) Try.underlying26 rfl (by kernel_rfl) _ (by kernel_rfl) (Nat.le_of_ble_eq_true (by kernel_rfl))) ?_
  refine Sy.stepD 10 rfl (by kernel_rfl) (fun _ _ _ _ h => h) (by kernel_rfl) (.bool true) (Quiet.call 13 #[pv sx sy si] (fun _ => by kernel_rfl) (right_of lsx lsy rs)) ?_
  refine Sy.stepD 11 rfl (by kernel_rfl) (fun _ _ _ _ h => h) (by kernel_rfl) (.bool true) (Quiet.pure (fun _ => by kernel_rfl)) ?_
  refine Sy.stepD 12 rfl (by kernel_rfl) (fun _ _ _ _ h => h) (by kernel_rfl) (.bool true) (Quiet.pure (fun _ => by kernel_rfl)) ?_
  refine Sy.doneD (by kernel_rfl) ?_
  refine Sy.then_ ?_
  refine Sy.ret ?_
  exact Sy.ret1 (v := .bool true) rfl (.inl (show _ = _ by kernel_rfl))
end Go.Proofs.Ytlojidnlkflpnaa.Cu
