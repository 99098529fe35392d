/-
  Texts of ours, put together: CurveSpreadsL.
-/
import Derived.Test.YtneeefinaejgcaaBS7
set_option linter.unusedVariables false
set_option linter.unusedSimpArgs false
section
namespace Go.Proofs.Ytneeefinaejgcaa.Cu
open Go.RowKit Go.Proofs.Ytneeefinaejgcaa Go.Proofs.Ytneeefinaejgcaa.Sy

def pws (x y : Nat) (i : Bool) : List Value := fws x ++ (fws y ++ [Value.bool i])
set_option maxHeartbeats 4000000 in
set_option maxRecDepth 100000 in
theorem addSc_any (w : World) (a b : Nat) (ha : a < K4) (hb : b < K4) : Calls Try.prog 20 #[fv a, fv b] w (Gets w (fv ((a + b) % Sc.pM))) := by
  refine Sy.enter (args := [fv a, fv b]) Try.func20 rfl (Nat.le_of_ble_eq_true (by kernel_rfl)) ?_
  refine Sy.seq ?_
  refine Sy.region ?_
  refine Sy.make (by kernel_rfl) 24 (fcs a) ptr (fun _ => by kernel_rfl) (fun g0 => ?_)
  refine Sy.make (by kernel_rfl) 24 (fcs b) ptr (fun _ => by kernel_rfl) (fun g1 => ?_)
  refine Sy.make (by kernel_rfl) 24 (fcs 0) ptr (fun _ => by kernel_rfl) (fun g2 => ?_)
  refine Sy.nil ?_
  refine Sy.then_ ?_
  refine Sy.seq ?_
  refine Sy.regionD (fun j => j == 7) (by kernel_rfl) ?_
  refine Sy.stepD 0 rfl (by kernel_rfl) (fun _ _ _ _ h => h) (by kernel_rfl) (.agg modN) (Quiet.call 29 #[] (fun _ => by kernel_rfl) (Sc.refN_any)) ?_
  refine Sy.stepD 1 rfl (by kernel_rfl) (fun _ _ _ _ h => h) (by kernel_rfl) (fv a) (Quiet.load 0 g0 0 4 24 24 (fcs a) _ _ rfl (by kernel_rfl) (by kernel_rfl) Try.underlying24 rfl (by kernel_rfl) _ (by kernel_rfl) (Nat.le_of_ble_eq_true (by kernel_rfl))) ?_
  refine Sy.stepD 2 rfl (by kernel_rfl) (fun _ _ _ _ h => h) (by kernel_rfl) (fv a) (Quiet.call 30 #[fv a] (fun _ => by kernel_rfl) (fun w => Sc.refOf_any w a (by first | assumption | exact lt4 _ | decide +kernel))) ?_
  refine Sy.stepD 3 rfl (by kernel_rfl) (fun _ _ _ _ h => h) (by kernel_rfl) (fv b) (Quiet.load 1 g1 0 4 24 24 (fcs b) _ _ rfl (by kernel_rfl) (by kernel_rfl) Try.underlying24 rfl (by kernel_rfl) _ (by kernel_rfl) (Nat.le_of_ble_eq_true (by kernel_rfl))) ?_
  refine Sy.stepD 4 rfl (by kernel_rfl) (fun _ _ _ _ h => h) (by kernel_rfl) (fv b) (Quiet.call 30 #[fv b] (fun _ => by kernel_rfl) (fun w => Sc.refOf_any w b (by first | assumption | exact lt4 _ | decide +kernel))) ?_
  refine Sy.stepD 5 rfl (by kernel_rfl) (fun _ _ _ _ h => h) (by kernel_rfl) (fv ((a + b) % Sc.pM)) (Quiet.call 56 #[.agg modN, fv a, fv b] (fun _ => by kernel_rfl) (fun w => Sc.addR_any w a b ha hb)) ?_
  refine Sy.stepD 6 rfl (by kernel_rfl) (fun _ _ _ _ h => h) (by kernel_rfl) (fv ((a + b) % Sc.pM)) (Quiet.call 55 #[fv ((a + b) % Sc.pM)] (fun _ => by kernel_rfl) (fun w => Sc.refSc_any w ((a + b) % Sc.pM) (Sc.mod_lt _))) ?_
  refine Sy.writeD 7 rfl (by kernel_rfl) (by rfl) (by kernel_rfl) 2 g2 24 (fcs 0) (fcs ((a + b) % Sc.pM)) (by kernel_rfl) (Writes.store 0 24 (fcs ((a + b) % Sc.pM)) _ _ rfl (by kernel_rfl) (by kernel_rfl) (by kernel_rfl) (Nat.le_of_ble_eq_true (by kernel_rfl)) (by kernel_rfl) (by kernel_rfl)) ?_
  refine Sy.doneD (by kernel_rfl) ?_
  refine Sy.then_ ?_
  refine Sy.ret ?_
  exact Sy.ret1 (v := fv ((a + b) % Sc.pM)) rfl (.inl (Res.cell (ty' := 24) g2 2 (fcs ((a + b) % Sc.pM)) _ (by kernel_rfl) (by kernel_rfl) Try.underlying24 rfl (by kernel_rfl) (by kernel_rfl)))
set_option maxHeartbeats 4000000 in
set_option maxRecDepth 100000 in
theorem mulSc_any (w : World) (a b : Nat) (ha : a < K4) (hb : b < K4) : Calls Try.prog 21 #[fv a, fv b] w (Gets w (fv (a * b % Sc.pM))) := by
  refine Sy.enter (args := [fv a, fv b]) Try.func21 rfl (Nat.le_of_ble_eq_true (by kernel_rfl)) ?_
  refine Sy.seq ?_
  refine Sy.region ?_
  refine Sy.make (by kernel_rfl) 24 (fcs a) ptr (fun _ => by kernel_rfl) (fun g0 => ?_)
  refine Sy.make (by kernel_rfl) 24 (fcs b) ptr (fun _ => by kernel_rfl) (fun g1 => ?_)
  refine Sy.make (by kernel_rfl) 24 (fcs 0) ptr (fun _ => by kernel_rfl) (fun g2 => ?_)
  refine Sy.nil ?_
  refine Sy.then_ ?_
  refine Sy.seq ?_
  refine Sy.regionD (fun j => j == 7) (by kernel_rfl) ?_
  refine Sy.stepD 0 rfl (by kernel_rfl) (fun _ _ _ _ h => h) (by kernel_rfl) (.agg modN) (Quiet.call 29 #[] (fun _ => by kernel_rfl) (Sc.refN_any)) ?_
  refine Sy.stepD 1 rfl (by kernel_rfl) (fun _ _ _ _ h => h) (by kernel_rfl) (fv a) (Quiet.load 0 g0 0 4 24 24 (fcs a) _ _ rfl (by kernel_rfl) (by kernel_rfl) Try.underlying24 rfl (by kernel_rfl) _ (by kernel_rfl) (Nat.le_of_ble_eq_true (by kernel_rfl))) ?_
  refine Sy.stepD 2 rfl (by kernel_rfl) (fun _ _ _ _ h => h) (by kernel_rfl) (fv a) (Quiet.call 30 #[fv a] (fun _ => by kernel_rfl) (fun w => Sc.refOf_any w a (by first | assumption | exact lt4 _ | decide +kernel))) ?_
  refine Sy.stepD 3 rfl (by kernel_rfl) (fun _ _ _ _ h => h) (by kernel_rfl) (fv b) (Quiet.load 1 g1 0 4 24 24 (fcs b) _ _ rfl (by kernel_rfl) (by kernel_rfl) Try.underlying24 rfl (by kernel_rfl) _ (by kernel_rfl) (Nat.le_of_ble_eq_true (by kernel_rfl))) ?_
  refine Sy.stepD 4 rfl (by kernel_rfl) (fun _ _ _ _ h => h) (by kernel_rfl) (fv b) (Quiet.call 30 #[fv b] (fun _ => by kernel_rfl) (fun w => Sc.refOf_any w b (by first | assumption | exact lt4 _ | decide +kernel))) ?_
  refine Sy.stepD 5 rfl (by kernel_rfl) (fun _ _ _ _ h => h) (by kernel_rfl) (fv ((a * b) % Sc.pM)) (Quiet.call 57 #[.agg modN, fv a, fv b] (fun _ => by kernel_rfl) (fun w => Sc.mulR_any w a b ha hb)) ?_
  refine Sy.stepD 6 rfl (by kernel_rfl) (fun _ _ _ _ h => h) (by kernel_rfl) (fv ((a * b) % Sc.pM)) (Quiet.call 55 #[fv ((a * b) % Sc.pM)] (fun _ => by kernel_rfl) (fun w => Sc.refSc_any w ((a * b) % Sc.pM) (Sc.mod_lt _))) ?_
  refine Sy.writeD 7 rfl (by kernel_rfl) (by rfl) (by kernel_rfl) 2 g2 24 (fcs 0) (fcs ((a * b) % Sc.pM)) (by kernel_rfl) (Writes.store 0 24 (fcs ((a * b) % Sc.pM)) _ _ rfl (by kernel_rfl) (by kernel_rfl) (by kernel_rfl) (Nat.le_of_ble_eq_true (by kernel_rfl)) (by kernel_rfl) (by kernel_rfl)) ?_
  refine Sy.doneD (by kernel_rfl) ?_
  refine Sy.then_ ?_
  refine Sy.ret ?_
  exact Sy.ret1 (v := fv ((a * b) % Sc.pM)) rfl (.inl (Res.cell (ty' := 24) g2 2 (fcs ((a * b) % Sc.pM)) _ (by kernel_rfl) (by kernel_rfl) Try.underlying24 rfl (by kernel_rfl) (by kernel_rfl)))
set_option maxHeartbeats 4000000 in
set_option maxRecDepth 100000 in
theorem law_spreads (w : World) (a b : Nat) (ha : a < K4) (hb : b < K4) (x0 y0 : Nat) (i0 : Bool) (hx0 : x0 < K4) (hy0 : y0 < K4) (x1 y1 : Nat) (i1 : Bool) (hx1 : x1 < K4) (hy1 : y1 < K4) : Calls Try.prog 6 #[fv a, fv b, .agg (pws x0 y0 i0 ++ (pws x1 y1 i1)).toArray] w (Gets w (.bool true)) := by
  have o0 := dec_on x0 y0 i0
  have o1 := dec_on x1 y1 i1
  obtain ⟨c, hc⟩ : ∃ c, c = (a + b) % Sc.pM := ⟨_, rfl⟩
  obtain ⟨d, hd⟩ : ∃ d, d = a * b % Sc.pM := ⟨_, rfl⟩
  have hcl : c < K4 := by rw [hc]; exact Sc.mod_lt _
  have hdl : d < K4 := by rw [hd]; exact Sc.mod_lt _
  have nmM : ∀ (k : Nat) {P : Pt}, Ec.On P → Ec.nm finv (k % Sc.pM) P = Ec.nm finv k P := fun k P hP => nm_modN hP k
  obtain ⟨mx, my, mi, lmx, lmy, em, dm, rm⟩ := ptv_raw (Ec.nm finv (c % Sc.pM) (dec x0 y0 i0)) (o0.nm fld _)
  obtain ⟨px, py, pi, lpx, lpy, ep, dp, rp⟩ := ptv_raw (Ec.nm finv (a % Sc.pM) (dec x0 y0 i0)) (o0.nm fld _)
  obtain ⟨qx, qy, qi, lqx, lqy, eq, dq, rq⟩ := ptv_raw (Ec.nm finv (b % Sc.pM) (dec x0 y0 i0)) (o0.nm fld _)
  obtain ⟨sx, sy, si, lsx, lsy, es, ds, rs⟩ := ptv_raw (Ec.add finv ((dec x0 y0 i0)) ((dec x1 y1 i1))) (Ec.On.add fld o0 o1)
  obtain ⟨tx, ty, ti, ltx, lty, et, dt, rt⟩ := ptv_raw (Ec.nm finv (a % Sc.pM) (Ec.add finv ((dec x0 y0 i0)) ((dec x1 y1 i1)))) ((Ec.On.add fld o0 o1).nm fld _)
  obtain ⟨ux, uy, ui, lux, luy, eu, du, ru⟩ := ptv_raw (Ec.nm finv (a % Sc.pM) (dec x1 y1 i1)) (o1.nm fld _)
  obtain ⟨vx, vy, vi, lvx, lvy, ev, dv, rv⟩ := ptv_raw (Ec.nm finv (d % Sc.pM) (dec x0 y0 i0)) (o0.nm fld _)
  have f1 : Ec.nm finv (c % Sc.pM) (dec x0 y0 i0) = Ec.add finv (Ec.nm finv (a % Sc.pM) (dec x0 y0 i0)) (Ec.nm finv (b % Sc.pM) (dec x0 y0 i0)) := by rw [nmM c o0, nmM a o0, nmM b o0, hc, nmM (a + b) o0, Ec.nm_add fld o0]
  have f2 : Ec.nm finv (a % Sc.pM) (Ec.add finv ((dec x0 y0 i0)) ((dec x1 y1 i1))) = Ec.add finv (Ec.nm finv (a % Sc.pM) (dec x0 y0 i0)) (Ec.nm finv (a % Sc.pM) (dec x1 y1 i1)) := by rw [nmM a (Ec.On.add fld o0 o1), nmM a o0, nmM a o1, Ec.nm_sum fld o0 o1]
  have f3 : Ec.nm finv (d % Sc.pM) (dec x0 y0 i0) = Ec.nm finv (a % Sc.pM) (Ec.nm finv (b % Sc.pM) (dec x0 y0 i0)) := by rw [nmM d o0, nmM a (o0.nm fld _), nmM b o0, hd, nmM (a * b) o0, Ec.nm_mul fld o0]
  refine Sy.enter (args := [fv a, fv b, .agg (pws x0 y0 i0 ++ (pws x1 y1 i1)).toArray]) Try.func6 rfl (Nat.le_of_ble_eq_true (by kernel_rfl)) ?_
  refine Sy.seq ?_
  refine Sy.region ?_
  refine Sy.make (by kernel_rfl) 24 (fcs a) ptr (fun _ => by kernel_rfl) (fun g0 => ?_)
  refine Sy.make (by kernel_rfl) 24 (fcs b) ptr (fun _ => by kernel_rfl) (fun g1 => ?_)
  refine Sy.make (by kernel_rfl) 48 (pws x0 y0 i0 ++ (pws x1 y1 i1)).toArray ptr (fun _ => by kernel_rfl) (fun g2 => ?_)
  refine Sy.step (by kernel_rfl) (.bool false) (Quiet.pure (fun _ => by kernel_rfl)) ?_
  refine Sy.nil ?_
  refine Sy.then_ ?_
  refine Sy.seq ?_
  refine Sy.regionD (fun j => j == 6 || j == 7) (by kernel_rfl) ?_
  refine Sy.stepD 0 rfl (by kernel_rfl) (fun _ _ _ _ h => h) (by kernel_rfl) (.pointer (some ⟨g2, 0, none⟩)) (Quiet.pure (fun _ => by kernel_rfl)) ?_
  refine Sy.stepD 1 rfl (by kernel_rfl) (fun _ _ _ _ h => h) (by kernel_rfl) (pv x0 y0 i0) (Quiet.load 2 g2 0 9 48 27 (pws x0 y0 i0 ++ (pws x1 y1 i1)).toArray _ _ rfl (by kernel_rfl) (by kernel_rfl) Try.underlying27 rfl (by kernel_rfl) _ (by kernel_rfl) (Nat.le_of_ble_eq_true (by kernel_rfl))) ?_
  refine Sy.stepDA 2 rfl (by kernel_rfl) (fun _ _ _ _ h => h) (by kernel_rfl) (.pointer (some ⟨g2, 9, none⟩)) (fun _ => by kernel_rfl) ?_
  refine Sy.joinD (fun gq => [(0, fv a), (1, fv b), (2, .agg (pws x0 y0 i0 ++ (pws x1 y1 i1)).toArray), (3, .pointer (some ⟨g0, 0, none⟩)), (4, .pointer (some ⟨g1, 0, none⟩)), (5, .pointer (some ⟨g2, 0, none⟩)), (6, .bool false), (7, .pointer (some ⟨(gq 0), 0, none⟩)), (8, .pointer (some ⟨(gq 1), 0, none⟩)), (11, .pointer (some ⟨g2, 0, none⟩)), (12, pv x0 y0 i0), (13, .pointer (some ⟨g2, 9, none⟩)), (14, pv x1 y1 i1)]) (fun gq => [(g0, 24, (fcs a)), (g1, 24, (fcs b)), (g2, 48, (pws x0 y0 i0 ++ (pws x1 y1 i1)).toArray), ((gq 0), 27, (pcs x0 y0 i0)), ((gq 1), 27, (pcs 0 0 false))]) 1 #[true, true, true, true, true, true, true, false] (fun gq => ?_) (fun fin => ?_)
  · refine Sy.writeD 7 rfl (by kernel_rfl) (by rfl) (by kernel_rfl) 4 (gq 1) 27 (pcs 0 0 false) (pcs x1 y1 i1) (by kernel_rfl) (Writes.store 0 27 (pcs x1 y1 i1) _ _ rfl (by kernel_rfl) (by kernel_rfl) (by kernel_rfl) (Nat.le_of_ble_eq_true (by kernel_rfl)) (by kernel_rfl) (by kernel_rfl)) ?_
    refine Sy.doneD (by kernel_rfl) ?_
    refine Sy.then_ ?_
    refine Sy.seq ?_
    refine Sy.region ?_
    refine Sy.step (by kernel_rfl) (fv a) (Quiet.load 0 g0 0 4 24 24 (fcs a) _ _ rfl (by kernel_rfl) (by kernel_rfl) Try.underlying24 rfl (by kernel_rfl) _ (by kernel_rfl) (Nat.le_of_ble_eq_true (by kernel_rfl))) ?_
    refine Sy.step (by kernel_rfl) (fv b) (Quiet.load 1 g1 0 4 24 24 (fcs b) _ _ rfl (by kernel_rfl) (by kernel_rfl) Try.underlying24 rfl (by kernel_rfl) _ (by kernel_rfl) (Nat.le_of_ble_eq_true (by kernel_rfl))) ?_
    refine Sy.step (by kernel_rfl) (fv c) (Quiet.call 20 #[fv a, fv b] (fun _ => by kernel_rfl) (fun w => by rw [hc]; exact addSc_any w a b ha hb)) ?_
    refine Sy.make (by kernel_rfl) 24 (fcs 0) ptr (fun _ => by kernel_rfl) (fun g3 => ?_)
    refine Sy.write (by kernel_rfl) 5 g3 24 (fcs 0) (fcs c) (by kernel_rfl) (Writes.store 0 24 (fcs c) _ _ rfl (by kernel_rfl) (by kernel_rfl) (by kernel_rfl) (Nat.le_of_ble_eq_true (by kernel_rfl)) (by kernel_rfl) (by kernel_rfl)) ?_
    refine Sy.nil ?_
    refine Sy.then_ ?_
    refine Sy.seq ?_
    refine Sy.region ?_
    refine Sy.step (by kernel_rfl) (fv a) (Quiet.load 0 g0 0 4 24 24 (fcs a) _ _ rfl (by kernel_rfl) (by kernel_rfl) Try.underlying24 rfl (by kernel_rfl) _ (by kernel_rfl) (Nat.le_of_ble_eq_true (by kernel_rfl))) ?_
    refine Sy.step (by kernel_rfl) (fv b) (Quiet.load 1 g1 0 4 24 24 (fcs b) _ _ rfl (by kernel_rfl) (by kernel_rfl) Try.underlying24 rfl (by kernel_rfl) _ (by kernel_rfl) (Nat.le_of_ble_eq_true (by kernel_rfl))) ?_
    refine Sy.step (by kernel_rfl) (fv d) (Quiet.call 21 #[fv a, fv b] (fun _ => by kernel_rfl) (fun w => by rw [hd]; exact mulSc_any w a b ha hb)) ?_
    refine Sy.make (by kernel_rfl) 24 (fcs 0) ptr (fun _ => by kernel_rfl) (fun g4 => ?_)
    refine Sy.write (by kernel_rfl) 6 g4 24 (fcs 0) (fcs d) (by kernel_rfl) (Writes.store 0 24 (fcs d) _ _ rfl (by kernel_rfl) (by kernel_rfl) (by kernel_rfl) (Nat.le_of_ble_eq_true (by kernel_rfl)) (by kernel_rfl) (by kernel_rfl)) ?_
    refine Sy.nil ?_
    refine Sy.then_ ?_
    refine Sy.seq ?_
    refine Sy.regionD (fun j => false) (by kernel_rfl) ?_
    refine Sy.stepD 0 rfl (by kernel_rfl) (fun _ _ _ _ h => h) (by kernel_rfl) (.bool true) (Quiet.call 8 #[] (fun _ => by kernel_rfl) (alive5)) ?_
    refine Sy.stepD 1 rfl (by kernel_rfl) (fun _ _ _ _ h => h) (by kernel_rfl) (.bool true) (Quiet.pure (fun _ => by kernel_rfl)) ?_
    refine Sy.stepD 2 rfl (by kernel_rfl) (fun _ _ _ _ h => h) (by kernel_rfl) (fv c) (Quiet.load 5 g3 0 4 24 24 (fcs c) _ _ rfl (by kernel_rfl) (by kernel_rfl) Try.underlying24 rfl (by kernel_rfl) _ (by kernel_rfl) (Nat.le_of_ble_eq_true (by kernel_rfl))) ?_
    refine Sy.stepD 3 rfl (by kernel_rfl) (fun _ _ _ _ h => h) (by kernel_rfl) (pv x0 y0 i0) (Quiet.load 3 (gq 0) 0 9 27 27 (pcs x0 y0 i0) _ _ rfl (by kernel_rfl) (by kernel_rfl) Try.underlying27 rfl (by kernel_rfl) _ (by kernel_rfl) (Nat.le_of_ble_eq_true (by kernel_rfl))) ?_
    refine Sy.stepD 4 rfl (by kernel_rfl) (fun _ _ _ _ h => h) (by kernel_rfl) (pv mx my mi) (Quiet.call 7 #[fv c, pv x0 y0 i0] (fun _ => by kernel_rfl) (mul_of hcl hx0 hy0 rfl em rfl)) ?_
    refine Sy.stepD 5 rfl (by kernel_rfl) (fun _ _ _ _ h => h) (by kernel_rfl) (fv a) (Quiet.load 0 g0 0 4 24 24 (fcs a) _ _ rfl (by kernel_rfl) (by kernel_rfl) Try.underlying24 rfl (by kernel_rfl) _ (by kernel_rfl) (Nat.le_of_ble_eq_true (by kernel_rfl))) ?_
    refine Sy.stepD 6 rfl (by kernel_rfl) (fun _ _ _ _ h => h) (by kernel_rfl) (pv x0 y0 i0) (Quiet.load 3 (gq 0) 0 9 27 27 (pcs x0 y0 i0) _ _ rfl (by kernel_rfl) (by kernel_rfl) Try.underlying27 rfl (by kernel_rfl) _ (by kernel_rfl) (Nat.le_of_ble_eq_true (by kernel_rfl))) ?_
    refine Sy.stepD 7 rfl (by kernel_rfl) (fun _ _ _ _ h => h) (by kernel_rfl) (pv px py pi) (Quiet.call 7 #[fv a, pv x0 y0 i0] (fun _ => by kernel_rfl) (mul_of ha hx0 hy0 rfl ep rfl)) ?_
    refine Sy.stepD 8 rfl (by kernel_rfl) (fun _ _ _ _ h => h) (by kernel_rfl) (fv b) (Quiet.load 1 g1 0 4 24 24 (fcs b) _ _ rfl (by kernel_rfl) (by kernel_rfl) Try.underlying24 rfl (by kernel_rfl) _ (by kernel_rfl) (Nat.le_of_ble_eq_true (by kernel_rfl))) ?_
    refine Sy.stepD 9 rfl (by kernel_rfl) (fun _ _ _ _ h => h) (by kernel_rfl) (pv x0 y0 i0) (Quiet.load 3 (gq 0) 0 9 27 27 (pcs x0 y0 i0) _ _ rfl (by kernel_rfl) (by kernel_rfl) Try.underlying27 rfl (by kernel_rfl) _ (by kernel_rfl) (Nat.le_of_ble_eq_true (by kernel_rfl))) ?_
    refine Sy.stepD 10 rfl (by kernel_rfl) (fun _ _ _ _ h => h) (by kernel_rfl) (pv qx qy qi) (Quiet.call 7 #[fv b, pv x0 y0 i0] (fun _ => by kernel_rfl) (mul_of hb hx0 hy0 rfl eq rfl)) ?_
    refine Sy.stepD 11 rfl (by kernel_rfl) (fun _ _ _ _ h => h) (by kernel_rfl) (pv mx my mi) (Quiet.call 22 #[pv px py pi, pv qx qy qi] (fun _ => by kernel_rfl) (add_of lpx lpy lqx lqy dp dq em f1.symm)) ?_
    refine Sy.stepD 12 rfl (by kernel_rfl) (fun _ _ _ _ h => h) (by kernel_rfl) (.bool true) (Quiet.pure (fun w => eql_pt_same w _ _ _ _ _ _ _ rfl rfl rfl (by first | assumption | exact lt4 _ | decide +kernel) (by first | assumption | exact lt4 _ | decide +kernel))) ?_
    refine Sy.stepD 13 rfl (by kernel_rfl) (fun _ _ _ _ h => h) (by kernel_rfl) (.bool true) (Quiet.pure (fun _ => by kernel_rfl)) ?_
    refine Sy.stepD 14 rfl (by kernel_rfl) (fun _ _ _ _ h => h) (by kernel_rfl) (.bool true) (Quiet.pure (fun _ => by kernel_rfl)) ?_
    refine Sy.stepD 15 rfl (by kernel_rfl) (fun _ _ _ _ h => h) (by kernel_rfl) (fv a) (Quiet.load 0 g0 0 4 24 24 (fcs a) _ _ rfl (by kernel_rfl) (by kernel_rfl) Try.underlying24 rfl (by kernel_rfl) _ (by kernel_rfl) (Nat.le_of_ble_eq_true (by kernel_rfl))) ?_
    refine Sy.stepD 16 rfl (by kernel_rfl) (fun _ _ _ _ h => h) (by kernel_rfl) (pv x0 y0 i0) (Quiet.load 3 (gq 0) 0 9 27 27 (pcs x0 y0 i0) _ _ rfl (by kernel_rfl) (by kernel_rfl) Try.underlying27 rfl (by kernel_rfl) _ (by kernel_rfl) (Nat.le_of_ble_eq_true (by kernel_rfl))) ?_
    refine Sy.stepD 17 rfl (by kernel_rfl) (fun _ _ _ _ h => h) (by kernel_rfl) (pv x1 y1 i1) (Quiet.load 4 (gq 1) 0 9 27 27 (pcs x1 y1 i1) _ _ rfl (by kernel_rfl) (by kernel_rfl) Try.underlying27 rfl (by kernel_rfl) _ (by kernel_rfl) (Nat.le_of_ble_eq_true (by kernel_rfl))) ?_
    refine Sy.stepD 18 rfl (by kernel_rfl) (fun _ _ _ _ h => h) (by kernel_rfl) (pv sx sy si) (Quiet.call 22 #[pv x0 y0 i0, pv x1 y1 i1] (fun _ => by kernel_rfl) (add_of hx0 hy0 hx1 hy1 rfl rfl es rfl)) ?_
    refine Sy.stepD 19 rfl (by kernel_rfl) (fun _ _ _ _ h => h) (by kernel_rfl) (pv tx ty ti) (Quiet.call 7 #[fv a, pv sx sy si] (fun _ => by kernel_rfl) (mul_of ha lsx lsy ds et rfl)) ?_
    refine Sy.stepD 20 rfl (by kernel_rfl) (fun _ _ _ _ h => h) (by kernel_rfl) (fv a) (Quiet.load 0 g0 0 4 24 24 (fcs a) _ _ rfl (by kernel_rfl) (by kernel_rfl) Try.underlying24 rfl (by kernel_rfl) _ (by kernel_rfl) (Nat.le_of_ble_eq_true (by kernel_rfl))) ?_
    refine Sy.stepD 21 rfl (by kernel_rfl) (fun _ _ _ _ h => h) (by kernel_rfl) (pv x0 y0 i0) (Quiet.load 3 (gq 0) 0 9 27 27 (pcs x0 y0 i0) _ _ rfl (by kernel_rfl) (by kernel_rfl) Try.underlying27 rfl (by kernel_rfl) _ (by kernel_rfl) (Nat.le_of_ble_eq_true (by kernel_rfl))) ?_
    refine Sy.stepD 22 rfl (by kernel_rfl) (fun _ _ _ _ h => h) (by kernel_rfl) (pv px py pi) (Quiet.call 7 #[fv a, pv x0 y0 i0] (fun _ => by kernel_rfl) (mul_of ha hx0 hy0 rfl ep rfl)) ?_
    refine Sy.stepD 23 rfl (by kernel_rfl) (fun _ _ _ _ h => h) (by kernel_rfl) (fv a) (Quiet.load 0 g0 0 4 24 24 (fcs a) _ _ rfl (by kernel_rfl) (by kernel_rfl) Try.underlying24 rfl (by kernel_rfl) _ (by kernel_rfl) (Nat.le_of_ble_eq_true (by kernel_rfl))) ?_
    refine Sy.stepD 24 rfl (by kernel_rfl) (fun _ _ _ _ h => h) (by kernel_rfl) (pv x1 y1 i1) (Quiet.load 4 (gq 1) 0 9 27 27 (pcs x1 y1 i1) _ _ rfl (by kernel_rfl) (by kernel_rfl) Try.underlying27 rfl (by kernel_rfl) _ (by kernel_rfl) (Nat.le_of_ble_eq_true (by kernel_rfl))) ?_
    refine Sy.stepD 25 rfl (by kernel_rfl) (fun _ _ _ _ h => h) (by kernel_rfl) (pv ux uy ui) (Quiet.call 7 #[fv a, pv x1 y1 i1] (fun _ => by kernel_rfl) (mul_of ha hx1 hy1 rfl eu rfl)) ?_
    refine Sy.stepD 26 rfl (by kernel_rfl) (fun _ _ _ _ h => h) (by kernel_rfl) (pv tx ty ti) (Quiet.call 22 #[pv px py pi, pv ux uy ui] (fun _ => by kernel_rfl) (add_of lpx lpy lux luy dp du et f2.symm)) ?_
    refine Sy.stepD 27 rfl (by kernel_rfl) (fun _ _ _ _ h => h) (by kernel_rfl) (.bool true) (Quiet.pure (fun w => eql_pt_same w _ _ _ _ _ _ _ rfl rfl rfl (by first | assumption | exact lt4 _ | decide +kernel) (by first | assumption | exact lt4 _ | decide +kernel))) ?_
    refine Sy.stepD 28 rfl (by kernel_rfl) (fun _ _ _ _ h => h) (by kernel_rfl) (.bool true) (Quiet.pure (fun _ => by kernel_rfl)) ?_
    refine Sy.stepD 29 rfl (by kernel_rfl) (fun _ _ _ _ h => h) (by kernel_rfl) (.bool true) (Quiet.pure (fun _ => by kernel_rfl)) ?_
    refine Sy.stepD 30 rfl (by kernel_rfl) (fun _ _ _ _ h => h) (by kernel_rfl) (fv d) (Quiet.load 6 g4 0 4 24 24 (fcs d) _ _ rfl (by kernel_rfl) (by kernel_rfl) Try.underlying24 rfl (by kernel_rfl) _ (by kernel_rfl) (Nat.le_of_ble_eq_true (by kernel_rfl))) ?_
    refine Sy.stepD 31 rfl (by kernel_rfl) (fun _ _ _ _ h => h) (by kernel_rfl) (pv x0 y0 i0) (Quiet.load 3 (gq 0) 0 9 27 27 (pcs x0 y0 i0) _ _ rfl (by kernel_rfl) (by kernel_rfl) Try.underlying27 rfl (by kernel_rfl) _ (by kernel_rfl) (Nat.le_of_ble_eq_true (by kernel_rfl))) ?_
    refine Sy.stepD 32 rfl (by kernel_rfl) (fun _ _ _ _ h => h) (by kernel_rfl) (pv vx vy vi) (Quiet.call 7 #[fv d, pv x0 y0 i0] (fun _ => by kernel_rfl) (mul_of hdl hx0 hy0 rfl ev rfl)) ?_
    refine Sy.stepD 33 rfl (by kernel_rfl) (fun _ _ _ _ h => h) (by kernel_rfl) (fv a) (Quiet.load 0 g0 0 4 24 24 (fcs a) _ _ rfl (by kernel_rfl) (by kernel_rfl) Try.underlying24 rfl (by kernel_rfl) _ (by kernel_rfl) (Nat.le_of_ble_eq_true (by kernel_rfl))) ?_
    refine Sy.stepD 34 rfl (by kernel_rfl) (fun _ _ _ _ h => h) (by kernel_rfl) (fv b) (Quiet.load 1 g1 0 4 24 24 (fcs b) _ _ rfl (by kernel_rfl) (by kernel_rfl) Try.underlying24 rfl (by kernel_rfl) _ (by kernel_rfl) (Nat.le_of_ble_eq_true (by kernel_rfl))) ?_
    refine Sy.stepD 35 rfl (by kernel_rfl) (fun _ _ _ _ h => h) (by kernel_rfl) (pv x0 y0 i0) (Quiet.load 3 (gq 0) 0 9 27 27 (pcs x0 y0 i0) _ _ rfl (by kernel_rfl) (by kernel_rfl) Try.underlying27 rfl (by kernel_rfl) _ (by kernel_rfl) (Nat.le_of_ble_eq_true (by kernel_rfl))) ?_
    refine Sy.stepD 36 rfl (by kernel_rfl) (fun _ _ _ _ h => h) (by kernel_rfl) (pv qx qy qi) (Quiet.call 7 #[fv b, pv x0 y0 i0] (fun _ => by kernel_rfl) (mul_of hb hx0 hy0 rfl eq rfl)) ?_
    refine Sy.stepD 37 rfl (by kernel_rfl) (fun _ _ _ _ h => h) (by kernel_rfl) (pv vx vy vi) (Quiet.call 7 #[fv a, pv qx qy qi] (fun _ => by kernel_rfl) (mul_of ha lqx lqy dq ev f3.symm)) ?_
    refine Sy.stepD 38 rfl (by kernel_rfl) (fun _ _ _ _ h => h) (by kernel_rfl) (.bool true) (Quiet.pure (fun w => eql_pt_same w _ _ _ _ _ _ _ rfl rfl rfl (by first | assumption | exact lt4 _ | decide +kernel) (by first | assumption | exact lt4 _ | decide +kernel))) ?_
    refine Sy.stepD 39 rfl (by kernel_rfl) (fun _ _ _ _ h => h) (by kernel_rfl) (.bool true) (Quiet.pure (fun _ => by kernel_rfl)) ?_
    refine Sy.stepD 40 rfl (by kernel_rfl) (fun _ _ _ _ h => h) (by kernel_rfl) (.bool true) (Quiet.pure (fun _ => by kernel_rfl)) ?_
    refine Sy.doneD (by kernel_rfl) ?_
    refine Sy.then_ ?_
    refine Sy.ret ?_
    exact Sy.ret1 (v := .bool true) rfl (.inl (show _ = _ by kernel_rfl))
  · refine Sy.anyOf [3, 4, 5] (by kernel_rfl) (by decide) (Sy.each3 ?_ ?_ ?_)
    · refine Sy.oneQuiet rfl (by kernel_rfl) (pv x1 y1 i1) (Quiet.load 2 g2 9 9 48 27 (pws x0 y0 i0 ++ (pws x1 y1 i1)).toArray _ _ rfl (by kernel_rfl) (by kernel_rfl) Try.underlying27 rfl (by kernel_rfl) _ (by kernel_rfl) (Nat.le_of_ble_eq_true (by kernel_rfl))) ?_
      refine Sy.anyOf [4, 5] (by kernel_rfl) (by decide) (Sy.each2 ?_ ?_)
      · refine Sy.oneMake rfl (by kernel_rfl) 27 (pcs 0 0 false) ptr (fun _ => by kernel_rfl) (fun g5 => ?_)
        refine Sy.anyOf [5] (by kernel_rfl) (by decide) (Sy.each1 ?_)
        · refine Sy.oneMake rfl (by kernel_rfl) 27 (pcs 0 0 false) ptr (fun _ => by kernel_rfl) (fun g6 => ?_)
          refine Sy.anyOf [6] (by kernel_rfl) (by decide) (Sy.each1 ?_)
          · refine Sy.oneWrite rfl (by rfl) (by kernel_rfl) 3 g5 27 (pcs 0 0 false) (pcs x0 y0 i0) (by kernel_rfl) (Writes.store 0 27 (pcs x0 y0 i0) _ _ rfl (by kernel_rfl) (by kernel_rfl) (by kernel_rfl) (Nat.le_of_ble_eq_true (by kernel_rfl)) (by kernel_rfl) (by kernel_rfl)) ?_
            exact Sy.leafI fin (fun i => if i = 0 then g5 else g6) (by kernel_rfl) (all_cons (by kernel_rfl) (all_cons (by kernel_rfl) (all_cons (by kernel_rfl) (all_cons (by kernel_rfl) (all_cons (by kernel_rfl) (all_cons (by kernel_rfl) (all_cons (by kernel_rfl) (all_cons (by kernel_rfl) (all_cons (by kernel_rfl) (all_cons (by kernel_rfl) (all_cons (by kernel_rfl) (all_cons (by kernel_rfl) (all_cons (by kernel_rfl) all_nil))))))))))))) (by kernel_rfl)
      · refine Sy.oneMake rfl (by kernel_rfl) 27 (pcs 0 0 false) ptr (fun _ => by kernel_rfl) (fun g7 => ?_)
        refine Sy.anyOf [4] (by kernel_rfl) (by decide) (Sy.each1 ?_)
        · refine Sy.oneMake rfl (by kernel_rfl) 27 (pcs 0 0 false) ptr (fun _ => by kernel_rfl) (fun g8 => ?_)
          refine Sy.anyOf [6] (by kernel_rfl) (by decide) (Sy.each1 ?_)
          · refine Sy.oneWrite rfl (by rfl) (by kernel_rfl) 4 g8 27 (pcs 0 0 false) (pcs x0 y0 i0) (by kernel_rfl) (Writes.store 0 27 (pcs x0 y0 i0) _ _ rfl (by kernel_rfl) (by kernel_rfl) (by kernel_rfl) (Nat.le_of_ble_eq_true (by kernel_rfl)) (by kernel_rfl) (by kernel_rfl)) ?_
            exact Sy.leafS (M := [(g0, 24, (fcs a)), (g1, 24, (fcs b)), (g2, 48, (pws x0 y0 i0 ++ (pws x1 y1 i1)).toArray)]) (x := (g8, 27, (pcs x0 y0 i0))) (y := (g7, 27, (pcs 0 0 false))) fin (fun i => if i = 0 then g8 else g7) (by kernel_rfl) (all_cons (by kernel_rfl) (all_cons (by kernel_rfl) (all_cons (by kernel_rfl) (all_cons (by kernel_rfl) (all_cons (by kernel_rfl) (all_cons (by kernel_rfl) (all_cons (by kernel_rfl) (all_cons (by kernel_rfl) (all_cons (by kernel_rfl) (all_cons (by kernel_rfl) (all_cons (by kernel_rfl) (all_cons (by kernel_rfl) (all_cons (by kernel_rfl) all_nil))))))))))))) (by kernel_rfl) (by kernel_rfl)
    · refine Sy.oneMake rfl (by kernel_rfl) 27 (pcs 0 0 false) ptr (fun _ => by kernel_rfl) (fun g9 => ?_)
      refine Sy.anyOf [3, 5] (by kernel_rfl) (by decide) (Sy.each2 ?_ ?_)
      · refine Sy.oneQuiet rfl (by kernel_rfl) (pv x1 y1 i1) (Quiet.load 2 g2 9 9 48 27 (pws x0 y0 i0 ++ (pws x1 y1 i1)).toArray _ _ rfl (by kernel_rfl) (by kernel_rfl) Try.underlying27 rfl (by kernel_rfl) _ (by kernel_rfl) (Nat.le_of_ble_eq_true (by kernel_rfl))) ?_
        refine Sy.anyOf [5] (by kernel_rfl) (by decide) (Sy.each1 ?_)
        · refine Sy.oneMake rfl (by kernel_rfl) 27 (pcs 0 0 false) ptr (fun _ => by kernel_rfl) (fun g10 => ?_)
          refine Sy.anyOf [6] (by kernel_rfl) (by decide) (Sy.each1 ?_)
          · refine Sy.oneWrite rfl (by rfl) (by kernel_rfl) 3 g9 27 (pcs 0 0 false) (pcs x0 y0 i0) (by kernel_rfl) (Writes.store 0 27 (pcs x0 y0 i0) _ _ rfl (by kernel_rfl) (by kernel_rfl) (by kernel_rfl) (Nat.le_of_ble_eq_true (by kernel_rfl)) (by kernel_rfl) (by kernel_rfl)) ?_
            exact Sy.leafI fin (fun i => if i = 0 then g9 else g10) (by kernel_rfl) (all_cons (by kernel_rfl) (all_cons (by kernel_rfl) (all_cons (by kernel_rfl) (all_cons (by kernel_rfl) (all_cons (by kernel_rfl) (all_cons (by kernel_rfl) (all_cons (by kernel_rfl) (all_cons (by kernel_rfl) (all_cons (by kernel_rfl) (all_cons (by kernel_rfl) (all_cons (by kernel_rfl) (all_cons (by kernel_rfl) (all_cons (by kernel_rfl) all_nil))))))))))))) (by kernel_rfl)
      · refine Sy.oneMake rfl (by kernel_rfl) 27 (pcs 0 0 false) ptr (fun _ => by kernel_rfl) (fun g11 => ?_)
        refine Sy.anyOf [3, 6] (by kernel_rfl) (by decide) (Sy.each2 ?_ ?_)
        · refine Sy.oneQuiet rfl (by kernel_rfl) (pv x1 y1 i1) (Quiet.load 2 g2 9 9 48 27 (pws x0 y0 i0 ++ (pws x1 y1 i1)).toArray _ _ rfl (by kernel_rfl) (by kernel_rfl) Try.underlying27 rfl (by kernel_rfl) _ (by kernel_rfl) (Nat.le_of_ble_eq_true (by kernel_rfl))) ?_
          refine Sy.anyOf [6] (by kernel_rfl) (by decide) (Sy.each1 ?_)
          · refine Sy.oneWrite rfl (by rfl) (by kernel_rfl) 3 g9 27 (pcs 0 0 false) (pcs x0 y0 i0) (by kernel_rfl) (Writes.store 0 27 (pcs x0 y0 i0) _ _ rfl (by kernel_rfl) (by kernel_rfl) (by kernel_rfl) (Nat.le_of_ble_eq_true (by kernel_rfl)) (by kernel_rfl) (by kernel_rfl)) ?_
            exact Sy.leafI fin (fun i => if i = 0 then g9 else g11) (by kernel_rfl) (all_cons (by kernel_rfl) (all_cons (by kernel_rfl) (all_cons (by kernel_rfl) (all_cons (by kernel_rfl) (all_cons (by kernel_rfl) (all_cons (by kernel_rfl) (all_cons (by kernel_rfl) (all_cons (by kernel_rfl) (all_cons (by kernel_rfl) (all_cons (by kernel_rfl) (all_cons (by kernel_rfl) (all_cons (by kernel_rfl) (all_cons (by kernel_rfl) all_nil))))))))))))) (by kernel_rfl)
        · refine Sy.oneWrite rfl (by rfl) (by kernel_rfl) 3 g9 27 (pcs 0 0 false) (pcs x0 y0 i0) (by kernel_rfl) (Writes.store 0 27 (pcs x0 y0 i0) _ _ rfl (by kernel_rfl) (by kernel_rfl) (by kernel_rfl) (Nat.le_of_ble_eq_true (by kernel_rfl)) (by kernel_rfl) (by kernel_rfl)) ?_
          refine Sy.anyOf [3] (by kernel_rfl) (by decide) (Sy.each1 ?_)
          · refine Sy.oneQuiet rfl (by kernel_rfl) (pv x1 y1 i1) (Quiet.load 2 g2 9 9 48 27 (pws x0 y0 i0 ++ (pws x1 y1 i1)).toArray _ _ rfl (by kernel_rfl) (by kernel_rfl) Try.underlying27 rfl (by kernel_rfl) _ (by kernel_rfl) (Nat.le_of_ble_eq_true (by kernel_rfl))) ?_
            exact Sy.leafI fin (fun i => if i = 0 then g9 else g11) (by kernel_rfl) (all_cons (by kernel_rfl) (all_cons (by kernel_rfl) (all_cons (by kernel_rfl) (all_cons (by kernel_rfl) (all_cons (by kernel_rfl) (all_cons (by kernel_rfl) (all_cons (by kernel_rfl) (all_cons (by kernel_rfl) (all_cons (by kernel_rfl) (all_cons (by kernel_rfl) (all_cons (by kernel_rfl) (all_cons (by kernel_rfl) (all_cons (by kernel_rfl) all_nil))))))))))))) (by kernel_rfl)
    · refine Sy.oneMake rfl (by kernel_rfl) 27 (pcs 0 0 false) ptr (fun _ => by kernel_rfl) (fun g12 => ?_)
      refine Sy.anyOf [3, 4] (by kernel_rfl) (by decide) (Sy.each2 ?_ ?_)
      · refine Sy.oneQuiet rfl (by kernel_rfl) (pv x1 y1 i1) (Quiet.load 2 g2 9 9 48 27 (pws x0 y0 i0 ++ (pws x1 y1 i1)).toArray _ _ rfl (by kernel_rfl) (by kernel_rfl) Try.underlying27 rfl (by kernel_rfl) _ (by kernel_rfl) (Nat.le_of_ble_eq_true (by kernel_rfl))) ?_
        refine Sy.anyOf [4] (by kernel_rfl) (by decide) (Sy.each1 ?_)
        · refine Sy.oneMake rfl (by kernel_rfl) 27 (pcs 0 0 false) ptr (fun _ => by kernel_rfl) (fun g13 => ?_)
          refine Sy.anyOf [6] (by kernel_rfl) (by decide) (Sy.each1 ?_)
          · refine Sy.oneWrite rfl (by rfl) (by kernel_rfl) 4 g13 27 (pcs 0 0 false) (pcs x0 y0 i0) (by kernel_rfl) (Writes.store 0 27 (pcs x0 y0 i0) _ _ rfl (by kernel_rfl) (by kernel_rfl) (by kernel_rfl) (Nat.le_of_ble_eq_true (by kernel_rfl)) (by kernel_rfl) (by kernel_rfl)) ?_
            exact Sy.leafS (M := [(g0, 24, (fcs a)), (g1, 24, (fcs b)), (g2, 48, (pws x0 y0 i0 ++ (pws x1 y1 i1)).toArray)]) (x := (g13, 27, (pcs x0 y0 i0))) (y := (g12, 27, (pcs 0 0 false))) fin (fun i => if i = 0 then g13 else g12) (by kernel_rfl) (all_cons (by kernel_rfl) (all_cons (by kernel_rfl) (all_cons (by kernel_rfl) (all_cons (by kernel_rfl) (all_cons (by kernel_rfl) (all_cons (by kernel_rfl) (all_cons (by kernel_rfl) (all_cons (by kernel_rfl) (all_cons (by kernel_rfl) (all_cons (by kernel_rfl) (all_cons (by kernel_rfl) (all_cons (by kernel_rfl) (all_cons (by kernel_rfl) all_nil))))))))))))) (by kernel_rfl) (by kernel_rfl)
      · refine Sy.oneMake rfl (by kernel_rfl) 27 (pcs 0 0 false) ptr (fun _ => by kernel_rfl) (fun g14 => ?_)
        refine Sy.anyOf [3, 6] (by kernel_rfl) (by decide) (Sy.each2 ?_ ?_)
        · refine Sy.oneQuiet rfl (by kernel_rfl) (pv x1 y1 i1) (Quiet.load 2 g2 9 9 48 27 (pws x0 y0 i0 ++ (pws x1 y1 i1)).toArray _ _ rfl (by kernel_rfl) (by kernel_rfl) Try.underlying27 rfl (by kernel_rfl) _ (by kernel_rfl) (Nat.le_of_ble_eq_true (by kernel_rfl))) ?_
          refine Sy.anyOf [6] (by kernel_rfl) (by decide) (Sy.each1 ?_)
          · refine Sy.oneWrite rfl (by rfl) (by kernel_rfl) 4 g14 27 (pcs 0 0 false) (pcs x0 y0 i0) (by kernel_rfl) (Writes.store 0 27 (pcs x0 y0 i0) _ _ rfl (by kernel_rfl) (by kernel_rfl) (by kernel_rfl) (Nat.le_of_ble_eq_true (by kernel_rfl)) (by kernel_rfl) (by kernel_rfl)) ?_
            exact Sy.leafS (M := [(g0, 24, (fcs a)), (g1, 24, (fcs b)), (g2, 48, (pws x0 y0 i0 ++ (pws x1 y1 i1)).toArray)]) (x := (g14, 27, (pcs x0 y0 i0))) (y := (g12, 27, (pcs 0 0 false))) fin (fun i => if i = 0 then g14 else g12) (by kernel_rfl) (all_cons (by kernel_rfl) (all_cons (by kernel_rfl) (all_cons (by kernel_rfl) (all_cons (by kernel_rfl) (all_cons (by kernel_rfl) (all_cons (by kernel_rfl) (all_cons (by kernel_rfl) (all_cons (by kernel_rfl) (all_cons (by kernel_rfl) (all_cons (by kernel_rfl) (all_cons (by kernel_rfl) (all_cons (by kernel_rfl) (all_cons (by kernel_rfl) all_nil))))))))))))) (by kernel_rfl) (by kernel_rfl)
        · refine Sy.oneWrite rfl (by rfl) (by kernel_rfl) 4 g14 27 (pcs 0 0 false) (pcs x0 y0 i0) (by kernel_rfl) (Writes.store 0 27 (pcs x0 y0 i0) _ _ rfl (by kernel_rfl) (by kernel_rfl) (by kernel_rfl) (Nat.le_of_ble_eq_true (by kernel_rfl)) (by kernel_rfl) (by kernel_rfl)) ?_
          refine Sy.anyOf [3] (by kernel_rfl) (by decide) (Sy.each1 ?_)
          · refine Sy.oneQuiet rfl (by kernel_rfl) (pv x1 y1 i1) (Quiet.load 2 g2 9 9 48 27 (pws x0 y0 i0 ++ (pws x1 y1 i1)).toArray _ _ rfl (by kernel_rfl) (by kernel_rfl) Try.underlying27 rfl (by kernel_rfl) _ (by kernel_rfl) (Nat.le_of_ble_eq_true (by kernel_rfl))) ?_
            exact Sy.leafS (M := [(g0, 24, (fcs a)), (g1, 24, (fcs b)), (g2, 48, (pws x0 y0 i0 ++ (pws x1 y1 i1)).toArray)]) (x := (g14, 27, (pcs x0 y0 i0))) (y := (g12, 27, (pcs 0 0 false))) fin (fun i => if i = 0 then g14 else g12) (by kernel_rfl) (all_cons (by kernel_rfl) (all_cons (by kernel_rfl) (all_cons (by kernel_rfl) (all_cons (by kernel_rfl) (all_cons (by kernel_rfl) (all_cons (by kernel_rfl) (all_cons (by kernel_rfl) (all_cons (by kernel_rfl) (all_cons (by kernel_rfl) (all_cons (by kernel_rfl) (all_cons (by kernel_rfl) (all_cons (by kernel_rfl) (all_cons (by kernel_rfl) all_nil))))))))))))) (by kernel_rfl) (by kernel_rfl)
end Go.Proofs.Ytneeefinaejgcaa.Cu

end
