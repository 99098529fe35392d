/-
  The laws of a group, walked.
-/
import Derived.Test.YtlojidnlkflpnaaCurveAlive
namespace Go.Proofs.Ytlojidnlkflpnaa.Cu
open Go.RowKit Go.Proofs.Ytlojidnlkflpnaa Go.Proofs.Ytlojidnlkflpnaa.Sy

set_option maxHeartbeats 4000000 in
set_option maxRecDepth 100000 in
theorem law_laws (w : World) (x0 y0 : Nat) (i0 : Bool) (hx0 : x0 < K4) (hy0 : y0 < K4) (x1 y1 : Nat) (i1 : Bool) (hx1 : x1 < K4) (hy1 : y1 < K4) (x2 y2 : Nat) (i2 : Bool) (hx2 : x2 < K4) (hy2 : y2 < K4) : Calls Try.prog 10 #[pv x0 y0 i0, pv x1 y1 i1, pv x2 y2 i2] w (Gets w (.bool true)) := by
  have o0 := dec_on x0 y0 i0
  have o1 := dec_on x1 y1 i1
  have o2 := dec_on x2 y2 i2
  obtain ⟨sx, sy, si, lsx, lsy, es, ds, rs⟩ := ptv_raw (Ec.add finv ((dec x0 y0 i0)) ((dec x1 y1 i1))) (Ec.On.add fld o0 o1)
  obtain ⟨tx, ty, ti, ltx, lty, et, dt, rt⟩ := ptv_raw (Ec.add finv ((dec x1 y1 i1)) ((dec x2 y2 i2))) (Ec.On.add fld o1 o2)
  obtain ⟨ux, uy, ui, lux, luy, eu, du, ru⟩ := ptv_raw (Ec.add finv (Ec.add finv ((dec x0 y0 i0)) ((dec x1 y1 i1))) ((dec x2 y2 i2))) (Ec.On.add fld (Ec.On.add fld o0 o1) o2)
  obtain ⟨nx, ny, ni, lnx, lny, en, dn, rn⟩ := ptv_raw (Ec.neg (dec x0 y0 i0)) (Ec.On.neg o0)
  refine Sy.enter (args := [pv x0 y0 i0, pv x1 y1 i1, pv x2 y2 i2]) Try.func10 rfl (Nat.le_of_ble_eq_true (by kernel_rfl)) ?_
  refine Sy.seq ?_
  refine Sy.region ?_
  refine Sy.make (by kernel_rfl) 26 (pcs x0 y0 i0) ptr (fun _ => by kernel_rfl) (fun g0 => ?_)
  refine Sy.make (by kernel_rfl) 26 (pcs x1 y1 i1) ptr (fun _ => by kernel_rfl) (fun g1 => ?_)
  refine Sy.make (by kernel_rfl) 26 (pcs x2 y2 i2) ptr (fun _ => by kernel_rfl) (fun g2 => ?_)
  refine Sy.step (by kernel_rfl) (.bool false) (Quiet.pure (fun _ => by kernel_rfl)) ?_
  refine Sy.nil ?_
  refine Sy.then_ ?_
  refine Sy.seq ?_
  refine Sy.regionD (fun j => false) (by kernel_rfl) ?_
  refine Sy.stepD 0 rfl (by kernel_rfl) (fun _ _ _ _ h => h) (by kernel_rfl) (.bool true) (Quiet.call 12 #[] (fun _ => by kernel_rfl) (alive5)) ?_
  refine Sy.stepD 1 rfl (by kernel_rfl) (fun _ _ _ _ h => h) (by kernel_rfl) (.bool true) (Quiet.pure (fun _ => by kernel_rfl)) ?_
  refine Sy.stepD 2 rfl (by kernel_rfl) (fun _ _ _ _ h => h) (by kernel_rfl) (pv x0 y0 i0) (Quiet.load 0 g0 0 9 26 26 (pcs x0 y0 i0) _ _ rfl (by kernel_rfl) (by kernel_rfl) Try.underlying26 rfl (by kernel_rfl) _ (by kernel_rfl) (Nat.le_of_ble_eq_true (by kernel_rfl))) ?_
  refine Sy.stepD 3 rfl (by kernel_rfl) (fun _ _ _ _ h => h) (by kernel_rfl) (pv x1 y1 i1) (Quiet.load 1 g1 0 9 26 26 (pcs x1 y1 i1) _ _ rfl (by kernel_rfl) (by kernel_rfl) Try.underlying26 rfl (by kernel_rfl) _ (by kernel_rfl) (Nat.le_of_ble_eq_true (by kernel_rfl))) ?_
  refine Sy.stepD 4 rfl (by kernel_rfl) (fun _ _ _ _ h => h) (by kernel_rfl) (pv sx sy si) (Quiet.call 17 #[pv x0 y0 i0, pv x1 y1 i1] (fun _ => by kernel_rfl) (add_of hx0 hy0 hx1 hy1 rfl rfl es rfl)) ?_
  refine Sy.stepD 5 rfl (by kernel_rfl) (fun _ _ _ _ h => h) (by kernel_rfl) (pv x1 y1 i1) (Quiet.load 1 g1 0 9 26 26 (pcs x1 y1 i1) _ _ rfl (by kernel_rfl) (by kernel_rfl) Try.underlying26 rfl (by kernel_rfl) _ (by kernel_rfl) (Nat.le_of_ble_eq_true (by kernel_rfl))) ?_
  refine Sy.stepD 6 rfl (by kernel_rfl) (fun _ _ _ _ h => h) (by kernel_rfl) (pv x0 y0 i0) (Quiet.load 0 g0 0 9 26 26 (pcs x0 y0 i0) _ _ rfl (by kernel_rfl) (by kernel_rfl) Try.underlying26 rfl (by kernel_rfl) _ (by kernel_rfl) (Nat.le_of_ble_eq_true (by kernel_rfl))) ?_
  refine Sy.stepD 7 rfl (by kernel_rfl) (fun _ _ _ _ h => h) (by kernel_rfl) (pv sx sy si) (Quiet.call 17 #[pv x1 y1 i1, pv x0 y0 i0] (fun _ => by kernel_rfl) (add_of hx1 hy1 hx0 hy0 rfl rfl es (Ec.comm fld o1 o0))) ?_
  refine Sy.stepD 8 rfl (by kernel_rfl) (fun _ _ _ _ h => h) (by kernel_rfl) (.bool true) (Quiet.pure (fun w => eql_pt_same w _ _ _ _ _ _ _ rfl rfl rfl (by first | assumption | exact lt4 _ | decide +kernel) (by first | assumption | exact lt4 _ | decide +kernel))) ?_
  refine Sy.stepD 9 rfl (by kernel_rfl) (fun _ _ _ _ h => h) (by kernel_rfl) (.bool true) (Quiet.pure (fun _ => by kernel_rfl)) ?_
  refine Sy.stepD 10 rfl (by kernel_rfl) (fun _ _ _ _ h => h) (by kernel_rfl) (.bool true) (Quiet.pure (fun _ => by kernel_rfl)) ?_
  refine Sy.stepD 11 rfl (by kernel_rfl) (fun _ _ _ _ h => h) (by kernel_rfl) (pv x0 y0 i0) (Quiet.load 0 g0 0 9 26 26 (pcs x0 y0 i0) _ _ rfl (by kernel_rfl) (by kernel_rfl) Try.underlying26 rfl (by kernel_rfl) _ (by kernel_rfl) (Nat.le_of_ble_eq_true (by kernel_rfl))) ?_
  refine Sy.stepD 12 rfl (by kernel_rfl) (fun _ _ _ _ h => h) (by kernel_rfl) (pv x1 y1 i1) (Quiet.load 1 g1 0 9 26 26 (pcs x1 y1 i1) _ _ rfl (by kernel_rfl) (by kernel_rfl) Try.underlying26 rfl (by kernel_rfl) _ (by kernel_rfl) (Nat.le_of_ble_eq_true (by kernel_rfl))) ?_
  refine Sy.stepD 13 rfl (by kernel_rfl) (fun _ _ _ _ h => h) (by kernel_rfl) (pv sx sy si) (Quiet.call 17 #[pv x0 y0 i0, pv x1 y1 i1] (fun _ => by kernel_rfl) (add_of hx0 hy0 hx1 hy1 rfl rfl es rfl)) ?_
  refine Sy.stepD 14 rfl (by kernel_rfl) (fun _ _ _ _ h => h) (by kernel_rfl) (pv x2 y2 i2) (Quiet.load 2 g2 0 9 26 26 (pcs x2 y2 i2) _ _ rfl (by kernel_rfl) (by kernel_rfl) Try.underlying26 rfl (by kernel_rfl) _ (by kernel_rfl) (Nat.le_of_ble_eq_true (by kernel_rfl))) ?_
  refine Sy.stepD 15 rfl (by kernel_rfl) (fun _ _ _ _ h => h) (by kernel_rfl) (pv ux uy ui) (Quiet.call 17 #[pv sx sy si, pv x2 y2 i2] (fun _ => by kernel_rfl) (add_of lsx lsy hx2 hy2 ds rfl eu rfl)) ?_
  refine Sy.stepD 16 rfl (by kernel_rfl) (fun _ _ _ _ h => h) (by kernel_rfl) (pv x0 y0 i0) (Quiet.load 0 g0 0 9 26 26 (pcs x0 y0 i0) _ _ rfl (by kernel_rfl) (by kernel_rfl) Try.underlying26 rfl (by kernel_rfl) _ (by kernel_rfl) (Nat.le_of_ble_eq_true (by kernel_rfl))) ?_
  refine Sy.stepD 17 rfl (by kernel_rfl) (fun _ _ _ _ h => h) (by kernel_rfl) (pv x1 y1 i1) (Quiet.load 1 g1 0 9 26 26 (pcs x1 y1 i1) _ _ rfl (by kernel_rfl) (by kernel_rfl) Try.underlying26 rfl (by kernel_rfl) _ (by kernel_rfl) (Nat.le_of_ble_eq_true (by kernel_rfl))) ?_
  refine Sy.stepD 18 rfl (by kernel_rfl) (fun _ _ _ _ h => h) (by kernel_rfl) (pv x2 y2 i2) (Quiet.load 2 g2 0 9 26 26 (pcs x2 y2 i2) _ _ rfl (by kernel_rfl) (by kernel_rfl) Try.underlying26 rfl (by kernel_rfl) _ (by kernel_rfl) (Nat.le_of_ble_eq_true (by kernel_rfl))) ?_
  refine Sy.stepD 19 rfl (by kernel_rfl) (fun _ _ _ _ h => h) (by kernel_rfl) (pv tx ty ti) (Quiet.call 17 #[pv x1 y1 i1, pv x2 y2 i2] (fun _ => by kernel_rfl) (add_of hx1 hy1 hx2 hy2 rfl rfl et rfl)) ?_
  refine Sy.stepD 20 rfl (by kernel_rfl) (fun _ _ _ _ h => h) (by kernel_rfl) (pv ux uy ui) (Quiet.call 17 #[pv x0 y0 i0, pv tx ty ti] (fun _ => by kernel_rfl) (add_of hx0 hy0 ltx lty rfl dt eu (Ec.assoc fld o0 o1 o2).symm)) ?_
  refine Sy.stepD 21 rfl (by kernel_rfl) (fun _ _ _ _ h => h) (by kernel_rfl) (.bool true) (Quiet.pure (fun w => eql_pt_same w _ _ _ _ _ _ _ rfl rfl rfl (by first | assumption | exact lt4 _ | decide +kernel) (by first | assumption | exact lt4 _ | decide +kernel))) ?_
  refine Sy.stepD 22 rfl (by kernel_rfl) (fun _ _ _ _ h => h) (by kernel_rfl) (.bool true) (Quiet.pure (fun _ => by kernel_rfl)) ?_
  refine Sy.stepD 23 rfl (by kernel_rfl) (fun _ _ _ _ h => h) (by kernel_rfl) (.bool true) (Quiet.pure (fun _ => by kernel_rfl)) ?_
  refine Sy.stepD 24 rfl (by kernel_rfl) (fun _ _ _ _ h => h) (by kernel_rfl) (pv x0 y0 i0) (Quiet.load 0 g0 0 9 26 26 (pcs x0 y0 i0) _ _ rfl (by kernel_rfl) (by kernel_rfl) Try.underlying26 rfl (by kernel_rfl) _ (by kernel_rfl) (Nat.le_of_ble_eq_true (by kernel_rfl))) ?_
  refine Sy.stepD 25 rfl (by kernel_rfl) (fun _ _ _ _ h => h) (by kernel_rfl) (pv x0 y0 i0) (Quiet.load 0 g0 0 9 26 26 (pcs x0 y0 i0) _ _ rfl (by kernel_rfl) (by kernel_rfl) Try.underlying26 rfl (by kernel_rfl) _ (by kernel_rfl) (Nat.le_of_ble_eq_true (by kernel_rfl))) ?_
  refine Sy.stepD 26 rfl (by kernel_rfl) (fun _ _ _ _ h => h) (by kernel_rfl) (pv nx ny ni) (Quiet.call 15 #[pv x0 y0 i0] (fun _ => by kernel_rfl) (neg_of hx0 hy0 rfl en rfl)) ?_
  refine Sy.stepD 27 rfl (by kernel_rfl) (fun _ _ _ _ h => h) (by kernel_rfl) (pv 0 0 true) (Quiet.call 17 #[pv x0 y0 i0, pv nx ny ni] (fun _ => by kernel_rfl) (add_of hx0 hy0 lnx lny rfl dn (R := none) rfl (Ec.add_neg _))) ?_
  refine Sy.stepD 28 rfl (by kernel_rfl) (fun _ _ _ _ h => h) (by kernel_rfl) (pv 0 0 true) (Quiet.call 31 #[] (fun _ => by kernel_rfl) (zero_c)) ?_
  refine Sy.stepD 29 rfl (by kernel_rfl) (fun _ _ _ _ h => h) (by kernel_rfl) (.bool true) (Quiet.pure (fun w => eql_pt_same w _ _ _ _ _ _ _ rfl rfl rfl (by first | assumption | exact lt4 _ | decide +kernel) (by first | assumption | exact lt4 _ | decide +kernel))) ?_
  refine Sy.stepD 30 rfl (by kernel_rfl) (fun _ _ _ _ h => h) (by kernel_rfl) (.bool true) (Quiet.pure (fun _ => by kernel_rfl)) ?_
  refine Sy.stepD 31 rfl (by kernel_rfl) (fun _ _ _ _ h => h) (by kernel_rfl) (.bool true) (Quiet.pure (fun _ => by kernel_rfl)) ?_
  refine Sy.doneD (by kernel_rfl) ?_
  refine Sy.then_ ?_
  refine Sy.ret ?_
  exact Sy.ret1 (v := .bool true) rfl (.inl (show _ = _ by kernel_rfl))
end Go.Proofs.Ytlojidnlkflpnaa.Cu
