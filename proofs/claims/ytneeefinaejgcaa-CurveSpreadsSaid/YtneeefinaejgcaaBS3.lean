/-
  Texts of ours, put together: CrvK, SymB, SymD, CrvL, CrvM, RefNum, RefMinus, RefFold, RefAdd, RefMul, RefPow, NumB, FeOwn, RefBytes, CrvC, CrvO, SymC, SymE, ScSpec.
-/
import Derived.Test.YtneeefinaejgcaaBS2
set_option linter.unusedVariables false
set_option linter.unusedSimpArgs false
section
namespace Go.Proofs.Ytneeefinaejgcaa.Cu
open Go.RowKit Go.Proofs.Ytneeefinaejgcaa Go.Proofs.Ytneeefinaejgcaa.Sy

set_option maxHeartbeats 4000000 in
set_option maxRecDepth 100000 in
theorem twice_c (w : World) (a : Fp) : Calls Try.prog 99 #[fv a.val] w (Gets w (fv (a + a).val)) := by
  refine Sy.enter (args := [fv a.val]) Try.func99 rfl (Nat.le_of_ble_eq_true (by kernel_rfl)) ?_
  refine Sy.seq ?_
  refine Sy.region ?_
  refine Sy.make (by kernel_rfl) 25 (fcs a.val) ptr (fun _ => by kernel_rfl) (fun g0 => ?_)
  refine Sy.make (by kernel_rfl) 25 (fcs 0) ptr (fun _ => by kernel_rfl) (fun g1 => ?_)
  refine Sy.nil ?_
  refine Sy.then_ ?_
  refine Sy.seq ?_
  refine Sy.region ?_
  refine Sy.step (by kernel_rfl) (fv a.val) (Quiet.load 0 g0 0 4 25 25 (fcs a.val) _ _ rfl (by kernel_rfl) (by kernel_rfl) Try.underlying25 rfl (by kernel_rfl) _ (by kernel_rfl) (Nat.le_of_ble_eq_true (by kernel_rfl))) ?_
  refine Sy.step (by kernel_rfl) (fv a.val) (Quiet.load 0 g0 0 4 25 25 (fcs a.val) _ _ rfl (by kernel_rfl) (by kernel_rfl) Try.underlying25 rfl (by kernel_rfl) _ (by kernel_rfl) (Nat.le_of_ble_eq_true (by kernel_rfl))) ?_
  obtain ⟨z1, hz1⟩ : ∃ z : Fp, z = a + a := ⟨_, rfl⟩
  refine Sy.step (by kernel_rfl) (fv z1.val) (Quiet.call 76 #[fv a.val, fv a.val] (fun _ => by kernel_rfl) (by rw [hz1]; exact add_c a a)) ?_
  refine Sy.write (by kernel_rfl) 1 g1 25 (fcs 0) (fcs z1.val) (by kernel_rfl) (Writes.store 0 25 (fcs z1.val) _ _ rfl (by kernel_rfl) (by kernel_rfl) (by kernel_rfl) (Nat.le_of_ble_eq_true (by kernel_rfl)) (by kernel_rfl) (by kernel_rfl)) ?_
  refine Sy.nil ?_
  refine Sy.then_ ?_
  refine Sy.ret ?_
  rw [show (fv (a + a).val : Value) = fv z1.val from by rw [hz1]]
  exact Sy.ret1 (v := fv z1.val) rfl (.inl (Res.cell (ty' := 25) g1 1 (fcs z1.val) _ (by kernel_rfl) (by kernel_rfl) Try.underlying25 rfl (by kernel_rfl) (by kernel_rfl)))
set_option maxHeartbeats 4000000 in
set_option maxRecDepth 100000 in
theorem double_c (w : World) (a : J) : Calls Try.prog 80 #[tv a.x.val a.y.val a.z.val] w (Gets w (tv (dblJ a).x.val (dblJ a).y.val (dblJ a).z.val)) := by
  refine Sy.enter (args := [tv a.x.val a.y.val a.z.val]) Try.func80 rfl (Nat.le_of_ble_eq_true (by kernel_rfl)) ?_
  refine Sy.seq ?_
  refine Sy.region ?_
  refine Sy.make (by kernel_rfl) 73 (tcs a.x.val a.y.val a.z.val) ptr (fun _ => by kernel_rfl) (fun g0 => ?_)
  refine Sy.make (by kernel_rfl) 73 (tcs 0 0 0) ptr (fun _ => by kernel_rfl) (fun g1 => ?_)
  refine Sy.nil ?_
  refine Sy.then_ ?_
  refine Sy.seq ?_
  refine Sy.region ?_
  refine Sy.step (by kernel_rfl) (.pointer (some ⟨g0, 0, none⟩)) (Quiet.pure (fun _ => by kernel_rfl)) ?_
  refine Sy.step (by kernel_rfl) (fv a.x.val) (Quiet.load 0 g0 0 4 73 25 (tcs a.x.val a.y.val a.z.val) _ _ rfl (by kernel_rfl) (by kernel_rfl) Try.underlying25 rfl (by kernel_rfl) _ (by kernel_rfl) (Nat.le_of_ble_eq_true (by kernel_rfl))) ?_
  refine Sy.step (by kernel_rfl) (.pointer (some ⟨g0, 0, none⟩)) (Quiet.pure (fun _ => by kernel_rfl)) ?_
  refine Sy.step (by kernel_rfl) (fv a.x.val) (Quiet.load 0 g0 0 4 73 25 (tcs a.x.val a.y.val a.z.val) _ _ rfl (by kernel_rfl) (by kernel_rfl) Try.underlying25 rfl (by kernel_rfl) _ (by kernel_rfl) (Nat.le_of_ble_eq_true (by kernel_rfl))) ?_
  obtain ⟨z1, hz1⟩ : ∃ z : Fp, z = a.x * a.x := ⟨_, rfl⟩
  refine Sy.step (by kernel_rfl) (fv z1.val) (Quiet.call 40 #[fv a.x.val, fv a.x.val] (fun _ => by kernel_rfl) (by rw [hz1]; exact mul_c a.x a.x)) ?_
  refine Sy.make (by kernel_rfl) 25 (fcs 0) ptr (fun _ => by kernel_rfl) (fun g2 => ?_)
  refine Sy.write (by kernel_rfl) 2 g2 25 (fcs 0) (fcs z1.val) (by kernel_rfl) (Writes.store 0 25 (fcs z1.val) _ _ rfl (by kernel_rfl) (by kernel_rfl) (by kernel_rfl) (Nat.le_of_ble_eq_true (by kernel_rfl)) (by kernel_rfl) (by kernel_rfl)) ?_
  refine Sy.nil ?_
  refine Sy.then_ ?_
  refine Sy.seq ?_
  refine Sy.regionD (fun j => j == 6) (by kernel_rfl) ?_
  refine Sy.stepD 0 rfl (by kernel_rfl) (fun _ _ _ _ h => h) (by kernel_rfl) (fv z1.val) (Quiet.load 2 g2 0 4 25 25 (fcs z1.val) _ _ rfl (by kernel_rfl) (by kernel_rfl) Try.underlying25 rfl (by kernel_rfl) _ (by kernel_rfl) (Nat.le_of_ble_eq_true (by kernel_rfl))) ?_
  refine Sy.stepD 1 rfl (by kernel_rfl) (fun _ _ _ _ h => h) (by kernel_rfl) (fv z1.val) (Quiet.load 2 g2 0 4 25 25 (fcs z1.val) _ _ rfl (by kernel_rfl) (by kernel_rfl) Try.underlying25 rfl (by kernel_rfl) _ (by kernel_rfl) (Nat.le_of_ble_eq_true (by kernel_rfl))) ?_
  obtain ⟨z2, hz2⟩ : ∃ z : Fp, z = z1 + z1 := ⟨_, rfl⟩
  refine Sy.stepD 2 rfl (by kernel_rfl) (fun _ _ _ _ h => h) (by kernel_rfl) (fv z2.val) (Quiet.call 76 #[fv z1.val, fv z1.val] (fun _ => by kernel_rfl) (by rw [hz2]; exact add_c z1 z1)) ?_
  refine Sy.stepD 3 rfl (by kernel_rfl) (fun _ _ _ _ h => h) (by kernel_rfl) (fv z1.val) (Quiet.load 2 g2 0 4 25 25 (fcs z1.val) _ _ rfl (by kernel_rfl) (by kernel_rfl) Try.underlying25 rfl (by kernel_rfl) _ (by kernel_rfl) (Nat.le_of_ble_eq_true (by kernel_rfl))) ?_
  obtain ⟨z3, hz3⟩ : ∃ z : Fp, z = z2 + z1 := ⟨_, rfl⟩
  refine Sy.stepD 4 rfl (by kernel_rfl) (fun _ _ _ _ h => h) (by kernel_rfl) (fv z3.val) (Quiet.call 76 #[fv z2.val, fv z1.val] (fun _ => by kernel_rfl) (by rw [hz3]; exact add_c z2 z1)) ?_
  refine Sy.makeD 5 rfl (by kernel_rfl) (by kernel_rfl) 25 (fcs 0) ptr (fun _ => by kernel_rfl) (fun g3 => ?_)
  refine Sy.writeD 6 rfl (by kernel_rfl) (by rfl) (by kernel_rfl) 3 g3 25 (fcs 0) (fcs z3.val) (by kernel_rfl) (Writes.store 0 25 (fcs z3.val) _ _ rfl (by kernel_rfl) (by kernel_rfl) (by kernel_rfl) (Nat.le_of_ble_eq_true (by kernel_rfl)) (by kernel_rfl) (by kernel_rfl)) ?_
  refine Sy.doneD (by kernel_rfl) ?_
  refine Sy.then_ ?_
  refine Sy.seq ?_
  refine Sy.region ?_
  refine Sy.step (by kernel_rfl) (.pointer (some ⟨g0, 4, none⟩)) (Quiet.pure (fun _ => by kernel_rfl)) ?_
  refine Sy.step (by kernel_rfl) (fv a.y.val) (Quiet.load 0 g0 4 4 73 25 (tcs a.x.val a.y.val a.z.val) _ _ rfl (by kernel_rfl) (by kernel_rfl) Try.underlying25 rfl (by kernel_rfl) _ (by kernel_rfl) (Nat.le_of_ble_eq_true (by kernel_rfl))) ?_
  refine Sy.step (by kernel_rfl) (.pointer (some ⟨g0, 4, none⟩)) (Quiet.pure (fun _ => by kernel_rfl)) ?_
  refine Sy.step (by kernel_rfl) (fv a.y.val) (Quiet.load 0 g0 4 4 73 25 (tcs a.x.val a.y.val a.z.val) _ _ rfl (by kernel_rfl) (by kernel_rfl) Try.underlying25 rfl (by kernel_rfl) _ (by kernel_rfl) (Nat.le_of_ble_eq_true (by kernel_rfl))) ?_
  obtain ⟨z4, hz4⟩ : ∃ z : Fp, z = a.y * a.y := ⟨_, rfl⟩
  refine Sy.step (by kernel_rfl) (fv z4.val) (Quiet.call 40 #[fv a.y.val, fv a.y.val] (fun _ => by kernel_rfl) (by rw [hz4]; exact mul_c a.y a.y)) ?_
  obtain ⟨z5, hz5⟩ : ∃ z : Fp, z = z4 + z4 := ⟨_, rfl⟩
  refine Sy.step (by kernel_rfl) (fv z5.val) (Quiet.call 99 #[fv z4.val] (fun _ => by kernel_rfl) (fun w => by rw [hz5]; exact twice_c w z4)) ?_
  refine Sy.make (by kernel_rfl) 25 (fcs 0) ptr (fun _ => by kernel_rfl) (fun g4 => ?_)
  refine Sy.write (by kernel_rfl) 4 g4 25 (fcs 0) (fcs z5.val) (by kernel_rfl) (Writes.store 0 25 (fcs z5.val) _ _ rfl (by kernel_rfl) (by kernel_rfl) (by kernel_rfl) (Nat.le_of_ble_eq_true (by kernel_rfl)) (by kernel_rfl) (by kernel_rfl)) ?_
  refine Sy.nil ?_
  refine Sy.then_ ?_
  refine Sy.seq ?_
  refine Sy.region ?_
  refine Sy.step (by kernel_rfl) (.pointer (some ⟨g0, 0, none⟩)) (Quiet.pure (fun _ => by kernel_rfl)) ?_
  refine Sy.step (by kernel_rfl) (fv a.x.val) (Quiet.load 0 g0 0 4 73 25 (tcs a.x.val a.y.val a.z.val) _ _ rfl (by kernel_rfl) (by kernel_rfl) Try.underlying25 rfl (by kernel_rfl) _ (by kernel_rfl) (Nat.le_of_ble_eq_true (by kernel_rfl))) ?_
  refine Sy.step (by kernel_rfl) (fv z5.val) (Quiet.load 4 g4 0 4 25 25 (fcs z5.val) _ _ rfl (by kernel_rfl) (by kernel_rfl) Try.underlying25 rfl (by kernel_rfl) _ (by kernel_rfl) (Nat.le_of_ble_eq_true (by kernel_rfl))) ?_
  obtain ⟨z6, hz6⟩ : ∃ z : Fp, z = a.x * z5 := ⟨_, rfl⟩
  refine Sy.step (by kernel_rfl) (fv z6.val) (Quiet.call 40 #[fv a.x.val, fv z5.val] (fun _ => by kernel_rfl) (by rw [hz6]; exact mul_c a.x z5)) ?_
  obtain ⟨z7, hz7⟩ : ∃ z : Fp, z = z6 + z6 := ⟨_, rfl⟩
  refine Sy.step (by kernel_rfl) (fv z7.val) (Quiet.call 99 #[fv z6.val] (fun _ => by kernel_rfl) (fun w => by rw [hz7]; exact twice_c w z6)) ?_
  refine Sy.make (by kernel_rfl) 25 (fcs 0) ptr (fun _ => by kernel_rfl) (fun g5 => ?_)
  refine Sy.write (by kernel_rfl) 5 g5 25 (fcs 0) (fcs z7.val) (by kernel_rfl) (Writes.store 0 25 (fcs z7.val) _ _ rfl (by kernel_rfl) (by kernel_rfl) (by kernel_rfl) (Nat.le_of_ble_eq_true (by kernel_rfl)) (by kernel_rfl) (by kernel_rfl)) ?_
  refine Sy.nil ?_
  refine Sy.then_ ?_
  refine Sy.seq ?_
  refine Sy.region ?_
  refine Sy.make (by kernel_rfl) 73 (tcs 0 0 0) ptr (fun _ => by kernel_rfl) (fun g6 => ?_)
  refine Sy.nil ?_
  refine Sy.then_ ?_
  refine Sy.seq ?_
  refine Sy.regionD (fun j => j == 7) (by kernel_rfl) ?_
  refine Sy.stepD 0 rfl (by kernel_rfl) (fun _ _ _ _ h => h) (by kernel_rfl) (fv z3.val) (Quiet.load 3 g3 0 4 25 25 (fcs z3.val) _ _ rfl (by kernel_rfl) (by kernel_rfl) Try.underlying25 rfl (by kernel_rfl) _ (by kernel_rfl) (Nat.le_of_ble_eq_true (by kernel_rfl))) ?_
  refine Sy.stepD 1 rfl (by kernel_rfl) (fun _ _ _ _ h => h) (by kernel_rfl) (fv z3.val) (Quiet.load 3 g3 0 4 25 25 (fcs z3.val) _ _ rfl (by kernel_rfl) (by kernel_rfl) Try.underlying25 rfl (by kernel_rfl) _ (by kernel_rfl) (Nat.le_of_ble_eq_true (by kernel_rfl))) ?_
  obtain ⟨z8, hz8⟩ : ∃ z : Fp, z = z3 * z3 := ⟨_, rfl⟩
  refine Sy.stepD 2 rfl (by kernel_rfl) (fun _ _ _ _ h => h) (by kernel_rfl) (fv z8.val) (Quiet.call 40 #[fv z3.val, fv z3.val] (fun _ => by kernel_rfl) (by rw [hz8]; exact mul_c z3 z3)) ?_
  refine Sy.stepD 3 rfl (by kernel_rfl) (fun _ _ _ _ h => h) (by kernel_rfl) (fv z7.val) (Quiet.load 5 g5 0 4 25 25 (fcs z7.val) _ _ rfl (by kernel_rfl) (by kernel_rfl) Try.underlying25 rfl (by kernel_rfl) _ (by kernel_rfl) (Nat.le_of_ble_eq_true (by kernel_rfl))) ?_
  obtain ⟨z9, hz9⟩ : ∃ z : Fp, z = z7 + z7 := ⟨_, rfl⟩
  refine Sy.stepD 4 rfl (by kernel_rfl) (fun _ _ _ _ h => h) (by kernel_rfl) (fv z9.val) (Quiet.call 99 #[fv z7.val] (fun _ => by kernel_rfl) (fun w => by rw [hz9]; exact twice_c w z7)) ?_
  obtain ⟨z10, hz10⟩ : ∃ z : Fp, z = z8 - z9 := ⟨_, rfl⟩
  refine Sy.stepD 5 rfl (by kernel_rfl) (fun _ _ _ _ h => h) (by kernel_rfl) (fv z10.val) (Quiet.call 59 #[fv z8.val, fv z9.val] (fun _ => by kernel_rfl) (by rw [hz10]; exact sub_c z8 z9)) ?_
  refine Sy.stepD 6 rfl (by kernel_rfl) (fun _ _ _ _ h => h) (by kernel_rfl) (.pointer (some ⟨g6, 0, none⟩)) (Quiet.pure (fun _ => by kernel_rfl)) ?_
  refine Sy.writeD 7 rfl (by kernel_rfl) (by rfl) (by kernel_rfl) 6 g6 73 (tcs 0 0 0) (tcs z10.val 0 0) (by kernel_rfl) (Writes.store 0 25 (fcs z10.val) _ _ rfl (by kernel_rfl) (by kernel_rfl) (by kernel_rfl) (Nat.le_of_ble_eq_true (by kernel_rfl)) (by kernel_rfl) (by kernel_rfl)) ?_
  refine Sy.doneD (by kernel_rfl) ?_
  refine Sy.then_ ?_
  refine Sy.seq ?_
  refine Sy.regionD (fun j => j == 12) (by kernel_rfl) ?_
  refine Sy.stepD 0 rfl (by kernel_rfl) (fun _ _ _ _ h => h) (by kernel_rfl) (fv z3.val) (Quiet.load 3 g3 0 4 25 25 (fcs z3.val) _ _ rfl (by kernel_rfl) (by kernel_rfl) Try.underlying25 rfl (by kernel_rfl) _ (by kernel_rfl) (Nat.le_of_ble_eq_true (by kernel_rfl))) ?_
  refine Sy.stepD 1 rfl (by kernel_rfl) (fun _ _ _ _ h => h) (by kernel_rfl) (fv z7.val) (Quiet.load 5 g5 0 4 25 25 (fcs z7.val) _ _ rfl (by kernel_rfl) (by kernel_rfl) Try.underlying25 rfl (by kernel_rfl) _ (by kernel_rfl) (Nat.le_of_ble_eq_true (by kernel_rfl))) ?_
  refine Sy.stepD 2 rfl (by kernel_rfl) (fun _ _ _ _ h => h) (by kernel_rfl) (.pointer (some ⟨g6, 0, none⟩)) (Quiet.pure (fun _ => by kernel_rfl)) ?_
  refine Sy.stepD 3 rfl (by kernel_rfl) (fun _ _ _ _ h => h) (by kernel_rfl) (fv z10.val) (Quiet.load 6 g6 0 4 73 25 (tcs z10.val 0 0) _ _ rfl (by kernel_rfl) (by kernel_rfl) Try.underlying25 rfl (by kernel_rfl) _ (by kernel_rfl) (Nat.le_of_ble_eq_true (by kernel_rfl))) ?_
  obtain ⟨z11, hz11⟩ : ∃ z : Fp, z = z7 - z10 := ⟨_, rfl⟩
  refine Sy.stepD 4 rfl (by kernel_rfl) (fun _ _ _ _ h => h) (by kernel_rfl) (fv z11.val) (Quiet.call 59 #[fv z7.val, fv z10.val] (fun _ => by kernel_rfl) (by rw [hz11]; exact sub_c z7 z10)) ?_
  obtain ⟨z12, hz12⟩ : ∃ z : Fp, z = z3 * z11 := ⟨_, rfl⟩
  refine Sy.stepD 5 rfl (by kernel_rfl) (fun _ _ _ _ h => h) (by kernel_rfl) (fv z12.val) (Quiet.call 40 #[fv z3.val, fv z11.val] (fun _ => by kernel_rfl) (by rw [hz12]; exact mul_c z3 z11)) ?_
  refine Sy.stepD 6 rfl (by kernel_rfl) (fun _ _ _ _ h => h) (by kernel_rfl) (fv z5.val) (Quiet.load 4 g4 0 4 25 25 (fcs z5.val) _ _ rfl (by kernel_rfl) (by kernel_rfl) Try.underlying25 rfl (by kernel_rfl) _ (by kernel_rfl) (Nat.le_of_ble_eq_true (by kernel_rfl))) ?_
  refine Sy.stepD 7 rfl (by kernel_rfl) (fun _ _ _ _ h => h) (by kernel_rfl) (fv z5.val) (Quiet.load 4 g4 0 4 25 25 (fcs z5.val) _ _ rfl (by kernel_rfl) (by kernel_rfl) Try.underlying25 rfl (by kernel_rfl) _ (by kernel_rfl) (Nat.le_of_ble_eq_true (by kernel_rfl))) ?_
  obtain ⟨z13, hz13⟩ : ∃ z : Fp, z = z5 * z5 := ⟨_, rfl⟩
  refine Sy.stepD 8 rfl (by kernel_rfl) (fun _ _ _ _ h => h) (by kernel_rfl) (fv z13.val) (Quiet.call 40 #[fv z5.val, fv z5.val] (fun _ => by kernel_rfl) (by rw [hz13]; exact mul_c z5 z5)) ?_
  obtain ⟨z14, hz14⟩ : ∃ z : Fp, z = z13 + z13 := ⟨_, rfl⟩
  refine Sy.stepD 9 rfl (by kernel_rfl) (fun _ _ _ _ h => h) (by kernel_rfl) (fv z14.val) (Quiet.call 99 #[fv z13.val] (fun _ => by kernel_rfl) (fun w => by rw [hz14]; exact twice_c w z13)) ?_
  obtain ⟨z15, hz15⟩ : ∃ z : Fp, z = z12 - z14 := ⟨_, rfl⟩
  refine Sy.stepD 10 rfl (by kernel_rfl) (fun _ _ _ _ h => h) (by kernel_rfl) (fv z15.val) (Quiet.call 59 #[fv z12.val, fv z14.val] (fun _ => by kernel_rfl) (by rw [hz15]; exact sub_c z12 z14)) ?_
  refine Sy.stepD 11 rfl (by kernel_rfl) (fun _ _ _ _ h => h) (by kernel_rfl) (.pointer (some ⟨g6, 4, none⟩)) (Quiet.pure (fun _ => by kernel_rfl)) ?_
  refine Sy.writeD 12 rfl (by kernel_rfl) (by rfl) (by kernel_rfl) 6 g6 73 (tcs z10.val 0 0) (tcs z10.val z15.val 0) (by kernel_rfl) (Writes.store 4 25 (fcs z15.val) _ _ rfl (by kernel_rfl) (by kernel_rfl) (by kernel_rfl) (Nat.le_of_ble_eq_true (by kernel_rfl)) (by kernel_rfl) (by kernel_rfl)) ?_
  refine Sy.doneD (by kernel_rfl) ?_
  refine Sy.then_ ?_
  refine Sy.seq ?_
  refine Sy.region ?_
  refine Sy.step (by kernel_rfl) (.pointer (some ⟨g0, 4, none⟩)) (Quiet.pure (fun _ => by kernel_rfl)) ?_
  refine Sy.step (by kernel_rfl) (fv a.y.val) (Quiet.load 0 g0 4 4 73 25 (tcs a.x.val a.y.val a.z.val) _ _ rfl (by kernel_rfl) (by kernel_rfl) Try.underlying25 rfl (by kernel_rfl) _ (by kernel_rfl) (Nat.le_of_ble_eq_true (by kernel_rfl))) ?_
  refine Sy.step (by kernel_rfl) (.pointer (some ⟨g0, 8, none⟩)) (Quiet.pure (fun _ => by kernel_rfl)) ?_
  refine Sy.step (by kernel_rfl) (fv a.z.val) (Quiet.load 0 g0 8 4 73 25 (tcs a.x.val a.y.val a.z.val) _ _ rfl (by kernel_rfl) (by kernel_rfl) Try.underlying25 rfl (by kernel_rfl) _ (by kernel_rfl) (Nat.le_of_ble_eq_true (by kernel_rfl))) ?_
  obtain ⟨z16, hz16⟩ : ∃ z : Fp, z = a.y * a.z := ⟨_, rfl⟩
  refine Sy.step (by kernel_rfl) (fv z16.val) (Quiet.call 40 #[fv a.y.val, fv a.z.val] (fun _ => by kernel_rfl) (by rw [hz16]; exact mul_c a.y a.z)) ?_
  obtain ⟨z17, hz17⟩ : ∃ z : Fp, z = z16 + z16 := ⟨_, rfl⟩
  refine Sy.step (by kernel_rfl) (fv z17.val) (Quiet.call 99 #[fv z16.val] (fun _ => by kernel_rfl) (fun w => by rw [hz17]; exact twice_c w z16)) ?_
  refine Sy.step (by kernel_rfl) (.pointer (some ⟨g6, 8, none⟩)) (Quiet.pure (fun _ => by kernel_rfl)) ?_
  refine Sy.write (by kernel_rfl) 6 g6 73 (tcs z10.val z15.val 0) (tcs z10.val z15.val z17.val) (by kernel_rfl) (Writes.store 8 25 (fcs z17.val) _ _ rfl (by kernel_rfl) (by kernel_rfl) (by kernel_rfl) (Nat.le_of_ble_eq_true (by kernel_rfl)) (by kernel_rfl) (by kernel_rfl)) ?_
  refine Sy.nil ?_
  refine Sy.then_ ?_
  refine Sy.seq ?_
  refine Sy.region ?_
  refine Sy.step (by kernel_rfl) (tv z10.val z15.val z17.val) (Quiet.load 6 g6 0 12 73 73 (tcs z10.val z15.val z17.val) _ _ rfl (by kernel_rfl) (by kernel_rfl) Try.underlying73 rfl (by kernel_rfl) _ (by kernel_rfl) (Nat.le_of_ble_eq_true (by kernel_rfl))) ?_
  refine Sy.write (by kernel_rfl) 1 g1 73 (tcs 0 0 0) (tcs z10.val z15.val z17.val) (by kernel_rfl) (Writes.store 0 73 (tcs z10.val z15.val z17.val) _ _ rfl (by kernel_rfl) (by kernel_rfl) (by kernel_rfl) (Nat.le_of_ble_eq_true (by kernel_rfl)) (by kernel_rfl) (by kernel_rfl)) ?_
  refine Sy.nil ?_
  refine Sy.then_ ?_
  refine Sy.ret ?_
  rw [show (tv (dblJ a).x.val (dblJ a).y.val (dblJ a).z.val : Value) = tv z10.val z15.val z17.val from by
      have k0 : (dblJ a).x = z10 := by
        simp only [dblJ]
        grobner
      have k1 : (dblJ a).y = z15 := by
        simp only [dblJ]
        grobner
      have k2 : (dblJ a).z = z17 := by
        simp only [dblJ]
        grobner
      rw [k0, k1, k2]]
  exact Sy.ret1 (v := tv z10.val z15.val z17.val) rfl (.inl (Res.cell (ty' := 73) g1 1 (tcs z10.val z15.val z17.val) _ (by kernel_rfl) (by kernel_rfl) Try.underlying73 rfl (by kernel_rfl) (by kernel_rfl)))
set_option maxHeartbeats 4000000 in
set_option maxRecDepth 100000 in
theorem widened_c (w : World) (a : J) (t : Fp) : Calls Try.prog 79 #[tv a.x.val a.y.val a.z.val, fv t.val] w (Gets w (.tuple #[fv (a.x * (t * t)).val, fv (a.y * (t * t * t)).val])) := by
  refine Sy.enter (args := [tv a.x.val a.y.val a.z.val, fv t.val]) Try.func79 rfl (Nat.le_of_ble_eq_true (by kernel_rfl)) ?_
  refine Sy.seq ?_
  refine Sy.region ?_
  refine Sy.make (by kernel_rfl) 73 (tcs a.x.val a.y.val a.z.val) ptr (fun _ => by kernel_rfl) (fun g0 => ?_)
  refine Sy.make (by kernel_rfl) 25 (fcs t.val) ptr (fun _ => by kernel_rfl) (fun g1 => ?_)
  refine Sy.make (by kernel_rfl) 25 (fcs 0) ptr (fun _ => by kernel_rfl) (fun g2 => ?_)
  refine Sy.make (by kernel_rfl) 25 (fcs 0) ptr (fun _ => by kernel_rfl) (fun g3 => ?_)
  refine Sy.nil ?_
  refine Sy.then_ ?_
  refine Sy.seq ?_
  refine Sy.region ?_
  refine Sy.step (by kernel_rfl) (fv t.val) (Quiet.load 1 g1 0 4 25 25 (fcs t.val) _ _ rfl (by kernel_rfl) (by kernel_rfl) Try.underlying25 rfl (by kernel_rfl) _ (by kernel_rfl) (Nat.le_of_ble_eq_true (by kernel_rfl))) ?_
  refine Sy.step (by kernel_rfl) (fv t.val) (Quiet.load 1 g1 0 4 25 25 (fcs t.val) _ _ rfl (by kernel_rfl) (by kernel_rfl) Try.underlying25 rfl (by kernel_rfl) _ (by kernel_rfl) (Nat.le_of_ble_eq_true (by kernel_rfl))) ?_
  obtain ⟨z1, hz1⟩ : ∃ z : Fp, z = t * t := ⟨_, rfl⟩
  refine Sy.step (by kernel_rfl) (fv z1.val) (Quiet.call 40 #[fv t.val, fv t.val] (fun _ => by kernel_rfl) (by rw [hz1]; exact mul_c t t)) ?_
  refine Sy.make (by kernel_rfl) 25 (fcs 0) ptr (fun _ => by kernel_rfl) (fun g4 => ?_)
  refine Sy.write (by kernel_rfl) 4 g4 25 (fcs 0) (fcs z1.val) (by kernel_rfl) (Writes.store 0 25 (fcs z1.val) _ _ rfl (by kernel_rfl) (by kernel_rfl) (by kernel_rfl) (Nat.le_of_ble_eq_true (by kernel_rfl)) (by kernel_rfl) (by kernel_rfl)) ?_
  refine Sy.nil ?_
  refine Sy.then_ ?_
  refine Sy.seq ?_
  refine Sy.regionD (fun j => j == 10 || j == 11) (by kernel_rfl) ?_
  refine Sy.stepD 0 rfl (by kernel_rfl) (fun _ _ _ _ h => h) (by kernel_rfl) (.pointer (some ⟨g0, 0, none⟩)) (Quiet.pure (fun _ => by kernel_rfl)) ?_
  refine Sy.stepD 1 rfl (by kernel_rfl) (fun _ _ _ _ h => h) (by kernel_rfl) (fv a.x.val) (Quiet.load 0 g0 0 4 73 25 (tcs a.x.val a.y.val a.z.val) _ _ rfl (by kernel_rfl) (by kernel_rfl) Try.underlying25 rfl (by kernel_rfl) _ (by kernel_rfl) (Nat.le_of_ble_eq_true (by kernel_rfl))) ?_
  refine Sy.stepD 2 rfl (by kernel_rfl) (fun _ _ _ _ h => h) (by kernel_rfl) (fv z1.val) (Quiet.load 4 g4 0 4 25 25 (fcs z1.val) _ _ rfl (by kernel_rfl) (by kernel_rfl) Try.underlying25 rfl (by kernel_rfl) _ (by kernel_rfl) (Nat.le_of_ble_eq_true (by kernel_rfl))) ?_
  obtain ⟨z2, hz2⟩ : ∃ z : Fp, z = a.x * z1 := ⟨_, rfl⟩
  refine Sy.stepD 3 rfl (by kernel_rfl) (fun _ _ _ _ h => h) (by kernel_rfl) (fv z2.val) (Quiet.call 40 #[fv a.x.val, fv z1.val] (fun _ => by kernel_rfl) (by rw [hz2]; exact mul_c a.x z1)) ?_
  refine Sy.stepDB 4 [5, 9, 10, 11] rfl (by kernel_rfl) (fun _ _ _ _ h => h) (by kernel_rfl) (.pointer (some ⟨g0, 4, none⟩)) (Quiet.pure (fun _ => by kernel_rfl)) ?_
  refine Sy.stepDB 5 [9, 10, 11] rfl (by kernel_rfl) (fun _ _ _ _ h => h) (by kernel_rfl) (fv a.y.val) (Quiet.load 0 g0 4 4 73 25 (tcs a.x.val a.y.val a.z.val) _ _ rfl (by kernel_rfl) (by kernel_rfl) Try.underlying25 rfl (by kernel_rfl) _ (by kernel_rfl) (Nat.le_of_ble_eq_true (by kernel_rfl))) ?_
  refine Sy.stepDB 6 [8, 9, 10, 11] rfl (by kernel_rfl) (fun _ _ _ _ h => h) (by kernel_rfl) (fv z1.val) (Quiet.load 4 g4 0 4 25 25 (fcs z1.val) _ _ rfl (by kernel_rfl) (by kernel_rfl) Try.underlying25 rfl (by kernel_rfl) _ (by kernel_rfl) (Nat.le_of_ble_eq_true (by kernel_rfl))) ?_
  refine Sy.stepDB 7 [8, 9, 10, 11] rfl (by kernel_rfl) (fun _ _ _ _ h => h) (by kernel_rfl) (fv t.val) (Quiet.load 1 g1 0 4 25 25 (fcs t.val) _ _ rfl (by kernel_rfl) (by kernel_rfl) Try.underlying25 rfl (by kernel_rfl) _ (by kernel_rfl) (Nat.le_of_ble_eq_true (by kernel_rfl))) ?_
  obtain ⟨z3, hz3⟩ : ∃ z : Fp, z = z1 * t := ⟨_, rfl⟩
  refine Sy.stepDB 8 [9, 10, 11] rfl (by kernel_rfl) (fun _ _ _ _ h => h) (by kernel_rfl) (fv z3.val) (Quiet.call 40 #[fv z1.val, fv t.val] (fun _ => by kernel_rfl) (by rw [hz3]; exact mul_c z1 t)) ?_
  obtain ⟨z4, hz4⟩ : ∃ z : Fp, z = a.y * z3 := ⟨_, rfl⟩
  refine Sy.stepD 9 rfl (by kernel_rfl) (fun _ _ _ _ h => h) (by kernel_rfl) (fv z4.val) (Quiet.call 40 #[fv a.y.val, fv z3.val] (fun _ => by kernel_rfl) (by rw [hz4]; exact mul_c a.y z3)) ?_
  refine Sy.writeD 10 rfl (by kernel_rfl) (by rfl) (by kernel_rfl) 2 g2 25 (fcs 0) (fcs z2.val) (by kernel_rfl) (Writes.store 0 25 (fcs z2.val) _ _ rfl (by kernel_rfl) (by kernel_rfl) (by kernel_rfl) (Nat.le_of_ble_eq_true (by kernel_rfl)) (by kernel_rfl) (by kernel_rfl)) ?_
  refine Sy.writeD 11 rfl (by kernel_rfl) (by rfl) (by kernel_rfl) 3 g3 25 (fcs 0) (fcs z4.val) (by kernel_rfl) (Writes.store 0 25 (fcs z4.val) _ _ rfl (by kernel_rfl) (by kernel_rfl) (by kernel_rfl) (Nat.le_of_ble_eq_true (by kernel_rfl)) (by kernel_rfl) (by kernel_rfl)) ?_
  refine Sy.doneD (by kernel_rfl) ?_
  refine Sy.then_ ?_
  refine Sy.ret ?_
  rw [show (.tuple #[fv (a.x * (t * t)).val, fv (a.y * (t * t * t)).val] : Value) = .tuple #[fv z2.val, fv z4.val] from by rw [hz4, hz3, hz2, hz1]]
  exact Sy.ret2 (v := fv z2.val) (u := fv z4.val) rfl (.inl (Res.cell (ty' := 25) g2 2 (fcs z2.val) _ (by kernel_rfl) (by kernel_rfl) Try.underlying25 rfl (by kernel_rfl) (by kernel_rfl))) (.inl (Res.cell (ty' := 25) g3 3 (fcs z4.val) _ (by kernel_rfl) (by kernel_rfl) Try.underlying25 rfl (by kernel_rfl) (by kernel_rfl)))
end Go.Proofs.Ytneeefinaejgcaa.Cu

end
section
namespace Go.Proofs.Ytneeefinaejgcaa.Sy
open Go.RowKit Go.Proofs.Ytneeefinaejgcaa

theorem addr_off (b f q : Nat) : (⟨b, f, none⟩ : Addr).add q = ⟨b, f + q, none⟩ := by unfold Addr.add; split <;> simp_all

section
variable {P : Program} {w0 : Base} {n : Nat} {Q : Exit → Act → World → Prop} {F : Slots} {L : Blocks} {ops : Array Oper} {o : Oper} {l : List Oper}

/-- a call whose contract leans on what is known -/
theorem Quiet.callS {v : Value} (f : FuncId) (args : Array Value) (he : ∀ w, (execOp (evF F) o).run P w = .ok (.enter f args) w)
    (h : ∀ w, St w0 w L → Calls P f args w (Gets w v)) : Quiet P w0 F L o v := fun w hw => by
  unfold Gives; rw [he w]; exact h w hw

/-- one cell -/
theorem Writes.one (f : Nat) {g : Nat} {t : TypeId} {cs cs' : Array Value} (ty : TypeId) (v : Value) (x y : Operand) (ho : o.op = .store ty x y) (hx : evF F x = .pointer (some ⟨g, f, none⟩)) (hy : evF F y = v)
    (hi : (P.info? ty).map (·.size) = some 1) (hv : v.cells = #[v]) (h1 : v.oneCell' = true) (hk : f < cs.size) (hcs : cs.setIfInBounds f v = cs') : Writes P F o g t cs cs' :=
  fun w hb => ⟨w.setCell ⟨g, f, none⟩ v, by
    have hth := hb.there f 1 hk
    have hst := run_storeCells_cells (P := P) g f [v] 0 w (fun j hj => by simpa using (hth j hj).1) (fun j hj => by simpa using (hth j hj).2) (fun u hu => by rw [List.mem_singleton.1 hu]; exact h1)
    unfold execOp
    cases hq : P.info? ty with
    | none => simp [hq] at hi
    | some i =>
      have hs : i.size = 1 := by simpa [hq] using hi
      simp only [World.setCells, Nat.add_zero] at hst
      simp [ho, hx, hy, Instr.storeAt, Instr.sureAddr, storeVar, sizeOf, typeInfo, hq, hs, hv, hst, Result.andThen],
    only_setCell (World.grownBy.refl w (some g)) (.inl rfl) v, hcs ▸ hb.set_ f v⟩

/-! ## Loops -/
/-- at most N rounds and one more, I i being known at the head of round i -/
theorem loopI {c : Code} (N : Nat) (I : Nat → Act → World → Prop) (h0 : ∀ a w, Fr w0.ds a n F → St w0 w L → I 0 a w)
    (hr : ∀ i, i ≤ N → ∀ a w, I i a w → c.wpIn w0.fence w0.room P (Exit.then (fun a w => i < N ∧ I (i + 1) a w) Q) a w) : wpC P w0 n Q F L (.loop c) := fun a w ha hw => by
  refine wpIn_loop_rounds (N + 1) ?_
  have key : ∀ k i, i + k = N → ∀ a w, I i a w → Code.roundsIn w0.fence w0.room P c Q (k + 1) a w := by
    intro k
    induction k with
    | zero =>
      intro i hi a w h
      refine wpIn_mono (hr i (by omega) a w h) fun e a w hq => ?_
      cases e <;> first | exact hq | exact absurd hq.1 (by omega)
    | succ k ih =>
      intro i hi a w h
      refine wpIn_mono (hr i (by omega) a w h) fun e a w hq => ?_
      cases e <;> first | exact hq | exact ih (i + 1) (by omega) a w hq.2
  exact key N 0 (by omega) a w (h0 a w ha hw)
theorem lookup_all : ∀ (G : Slots), (∀ p ∈ G, F.lookup p.1 = some p.2) → ∀ i v, G.lookup i = some v → F.lookup i = some v
  | [], _, _, _, h => by cases h
  | (q, u) :: G, hG, i, v, h => by
    simp only [List.lookup_cons] at h
    by_cases e : i = q
    · subst e
      simp at h
      subst h
      exact hG (i, u) (List.mem_cons_self ..)
    · have e' : (i == q) = false := by simpa using e
      rw [e'] at h
      exact lookup_all G (fun p hp => hG p (List.mem_cons_of_mem _ hp)) i v h
theorem Fr.all {ds : List Deferred} {a : Act} (h : Fr ds a n F) {G : Slots} (hG : ∀ p ∈ G, F.lookup p.1 = some p.2) : Fr ds a n G := h.less (lookup_all G hG)
theorem all_nil : ∀ p ∈ ([] : Slots), F.lookup p.1 = some p.2 := fun _ h => by cases h
theorem all_cons {G : Slots} {i : Nat} {v : Value} (h : F.lookup i = some v) (hG : ∀ p ∈ G, F.lookup p.1 = some p.2) : ∀ p ∈ (i, v) :: G, F.lookup p.1 = some p.2 := fun p hp => by
  rcases List.mem_cons.1 hp with rfl | hp
  · exact h
  · exact hG p hp

/-! ## Less is known -/
/-- some of the blocks -/
def sel : Blocks → List Bool → Blocks
  | x :: l, true :: m => x :: sel l m
  | _ :: l, false :: m => sel l m
  | _, _ => []
theorem sel_sub : ∀ (l : Blocks) (m : List Bool), (sel l m).Sublist l
  | [], [] => List.Sublist.slnil
  | [], _ :: _ => by simp [sel]
  | _ :: _, [] => by simp [sel]
  | _ :: l, true :: m => (sel_sub l m).cons_cons _
  | _ :: l, false :: m => (sel_sub l m).cons _
/-- memory that was there before the call -/
theorem Quiet.there (g f k : Nat) (ty : TypeId) (cs : List Value) (d : TypeDesc) (x : Operand) (ho : o.op = .load ty x) (hx : evF F x = .pointer (some ⟨g, f, none⟩)) (hg : g < w0.world.heap.size) (hr : w0.world.rangeAt g f cs)
    (hu : P.underlying ty = some d) (hd : d.isRow = true) (hi : (P.info? ty).map (·.size) = some k) (hk : cs.length = k) (v : Value) (hv : Value.agg cs.toArray = v) : Quiet P w0 F L o v := fun w hw => by
  have hl := run_loadVar_mid (P := P) w g f ty cs d (fun j u hj => (Below.cell (p := ⟨g, f + j, none⟩) hw.below hg).trans (hr j u hj)) hu hd (by rw [hi, hk])
  unfold Gives execOp
  simp only [ho, hx, Instr.loadAt, Instr.sureAddr, Sem.run_bind, Sem.run_pure, Result.andThen_ok, hl]
  exact ⟨hv, Gr.refl _⟩
theorem Quiet.thereOne (g f : Nat) (ty : TypeId) (d : TypeDesc) (x : Operand) (ho : o.op = .load ty x) (hx : evF F x = .pointer (some ⟨g, f, none⟩)) (hg : g < w0.world.heap.size) (v : Value) (hr : w0.world.cell? ⟨g, f, none⟩ = some v)
    (hu : P.underlying ty = some d) (hd : d.isRow = false) : Quiet P w0 F L o v := fun w hw => by
  have hc : w.cell? ⟨g, f, none⟩ = some v := (Below.cell (p := ⟨g, f, none⟩) hw.below hg).trans hr
  have ha : (isAgg ty).run P w = .ok false w := by
    cases d <;> first | (cases hd; done) | simp [isAgg, underlying, hu]
  unfold Gives execOp
  simp only [ho, hx, Instr.loadAt, Instr.sureAddr, Sem.run_bind, Sem.run_pure, Result.andThen_ok, loadVar, ha, Bool.false_eq_true, if_false, run_load, hc]
  exact ⟨trivial, Gr.refl _⟩
end
end Go.Proofs.Ytneeefinaejgcaa.Sy

end
section
namespace Go.Proofs.Ytneeefinaejgcaa.Sy
open Go.RowKit Go.Proofs.Ytneeefinaejgcaa

theorem St.swap {w0 : Base} {w : World} {L : Blocks} {x y : Nat × TypeId × Array Value} (h : St w0 w (L ++ [y] ++ [x])) : St w0 w (L ++ [x] ++ [y]) := by
  have hp : (L ++ [y] ++ [x]).Perm (L ++ [x] ++ [y]) := by
    rw [List.append_assoc, List.append_assoc]
    exact List.Perm.append_left L (List.Perm.swap x y [])
  exact ⟨h.below, fun g t cs hm => h.blk g t cs (hp.symm.subset hm), (hp.map (·.1)).nodup h.apart, h.size, h.non⟩
theorem Fr.swap {ds : List Deferred} {a : Act} {n : Nat} {F : Slots} {i j : Nat} {u v : Value} (hij : (i == j) = false) (h : Fr ds a n ((i, u) :: (j, v) :: F)) : Fr ds a n ((j, v) :: (i, u) :: F) := h.less fun k x hk => by
  have hne : i ≠ j := by simpa using hij
  simp only [List.lookup_cons] at hk ⊢
  by_cases e1 : k = i
  · subst e1
    have e2 : (k == j) = false := by simpa using hne
    rw [e2] at hk
    simpa using hk
  · have e1' : (k == i) = false := by simpa using e1
    rw [e1'] at hk ⊢
    exact hk
section
variable {P : Program} {w0 : Base} {n : Nat} {Q : Exit → Act → World → Prop} {F : Slots} {L : Blocks} {ops : Array Oper} {ex : Nat → Bool} {fuel : Nat} {listed : Array Bool}
theorem makeDuo (i j : Nat) {oi oj : Oper} (hi0 : ops.toList[i]? = some oi) (hj0 : ops.toList[j]? = some oj) (hr : Region.ready .any ops listed = [i, j]) (hri : Region.ready .any ops (listed.setIfInBounds i true) = [j]) (hrj : Region.ready .any ops (listed.setIfInBounds j true) = [i])
    (di dj : Nat) (hdi : oi.dst = some di) (hdj : oj.dst = some dj) (hne : (di == dj) = false) (hij : i ≠ j)
    (hgi : good ops n F oi = true) (hgj : good ops n F oj = true) (hgi' : ∀ v, good ops n (putF F (some dj) v) oi = true) (hgj' : ∀ v, good ops n (putF F (some di) v) oj = true)
    (ti tj : TypeId) (ci cj : Array Value) (vi vj : Nat → Value) (hmi : ∀ F', Makes P F' oi ti ci vi) (hmj : ∀ F', Makes P F' oj tj cj vj)
    (h : ∀ gi gj, wpD P w0 n ops Q ex ((dj, vj gj) :: (di, vi gi) :: F) (L ++ [(gi, ti, ci)] ++ [(gj, tj, cj)]) fuel ((listed.setIfInBounds i true).setIfInBounds j true)) : wpD P w0 n ops Q ex F L (fuel + 1 + 1) listed := fun a w ha hw => by
  have fi : fits n (some di) = true := hdi ▸ (good_spec hgi).2.2.1
  have fj : fits n (some dj) = true := hdj ▸ (good_spec hgj).2.2.1
  refine wpAnyG_duo i j hi0 hj0 hr (ha.wanted (good_spec hgi).1) (ha.wanted (good_spec hgj).1) (fun w1 h1 K hK => ?_) (fun w1 h1 K hK => ?_)
  · unfold Oper.wp
    rw [good_exec hgi ha, hmi F w1]
    refine hK _ _ (fun _ => gr_alloc w1 _) ?_
    rw [hdi]
    have ha1 := ha.put fi (vi w1.heap.size)
    have hw1 := (hw.gr h1).add (gr_alloc w1 (.cells ci ti)) (Nat.le_refl _) (Blk.new w1 ti ci)
    refine wpAnyG_sole j hj0 hri (ha1.wanted (good_spec (hgj' _)).1) (fun w2 h2 K2 hK2 => ?_)
    unfold Oper.wp
    rw [good_exec (hgj' _) ha1, hmj _ w2]
    refine hK2 _ _ (fun _ => gr_alloc w2 _) ?_
    rw [hdj]
    exact h w1.heap.size w2.heap.size _ _ (ha1.put fj _) ((hw1.gr h2).add (gr_alloc w2 (.cells cj tj)) (Nat.le_refl _) (Blk.new w2 tj cj))
  · unfold Oper.wp
    rw [good_exec hgj ha, hmj F w1]
    refine hK _ _ (fun _ => gr_alloc w1 _) ?_
    rw [hdj]
    have ha1 := ha.put fj (vj w1.heap.size)
    have hw1 := (hw.gr h1).add (gr_alloc w1 (.cells cj tj)) (Nat.le_refl _) (Blk.new w1 tj cj)
    refine wpAnyG_sole i hi0 hrj (ha1.wanted (good_spec (hgi' _)).1) (fun w2 h2 K2 hK2 => ?_)
    unfold Oper.wp
    rw [good_exec (hgi' _) ha1, hmi _ w2]
    refine hK2 _ _ (fun _ => gr_alloc w2 _) ?_
    rw [hdi, Array.setIfInBounds_comm _ _ (Ne.symm hij)]
    exact h w2.heap.size w1.heap.size _ _ (Fr.swap hne (ha1.put fi _)) (St.swap ((hw1.gr h2).add (gr_alloc w2 (.cells ci ti)) (Nat.le_refl _) (Blk.new w2 ti ci)))
/-! ## Every order -/
/-- operation i, carried out next, leads on -/
def wpO (P : Program) (w0 : Base) (n : Nat) (ops : Array Oper) (Q : Exit → Act → World → Prop) (ex : Nat → Bool) (F : Slots) (L : Blocks) (fuel : Nat) (listed : Array Bool) (i : Nat) : Prop :=
  ∃ oi, ops[i]? = some oi ∧ wantedF ops F oi = some true ∧ ∀ a w, Fr w0.ds a n F → St w0 w L → ∀ w1, Gr w w1 → ∀ K : Act → World → Prop, (∀ a' w', (ex i = false → Gr w1 w') → wpAnyG P .any ops Q ex fuel (listed.setIfInBounds i true) a' w' → K a' w') → oi.wp P a w1 K Q
theorem anyOf (l : List Nat) (hr : Region.ready .any ops listed = l) (hl : l ≠ []) (h : ∀ i ∈ l, wpO P w0 n ops Q ex F L fuel listed i) : wpD P w0 n ops Q ex F L (fuel + 1) listed := fun a w ha hw w1 hw1 =>
  ⟨fun h0 => (hl (hr.symm.trans h0)).elim, fun m hm => by
    rw [hr] at hm
    obtain ⟨oi, ho, hg, hk⟩ := h m hm
    refine wpOp_step ho (fun K' hK => ?_)
    rw [if_pos (ha.wanted hg)]
    exact hk a w ha hw w1 hw1 K' (fun a' w' h1 h2 => hK a' w' ⟨h1, h2⟩)⟩
theorem each2 {p : Nat → Prop} {i j : Nat} (hi : p i) (hj : p j) : ∀ k ∈ [i, j], p k := fun k hk => by
  simp only [List.mem_cons, List.not_mem_nil, or_false] at hk
  rcases hk with rfl | rfl <;> assumption
theorem each3 {p : Nat → Prop} {i j m : Nat} (hi : p i) (hj : p j) (hm : p m) : ∀ k ∈ [i, j, m], p k := fun k hk => by
  simp only [List.mem_cons, List.not_mem_nil, or_false] at hk
  rcases hk with rfl | rfl | rfl <;> assumption
theorem each1 {p : Nat → Prop} {i : Nat} (hi : p i) : ∀ k ∈ [i], p k := fun k hk => by rw [List.mem_singleton.1 hk]; exact hi
theorem oneQuiet {i : Nat} {oi : Oper} (hi0 : ops.toList[i]? = some oi) (hg : good ops n F oi = true) (v : Value) (hq : Quiet P w0 F L oi v) (h : wpD P w0 n ops Q ex (putF F oi.dst v) L fuel (listed.setIfInBounds i true)) : wpO P w0 n ops Q ex F L fuel listed i :=
  ⟨oi, by simpa using hi0, (good_spec hg).1, fun a w ha hw w1 h1 K hK => by
    have hw1 := hw.gr h1
    have h0 := hq w1 hw1
    unfold Gives at h0
    unfold Oper.wp
    rw [good_exec hg ha]
    have last : ∀ w2, Gr w1 w2 → wpAnyG P .any ops Q ex fuel (listed.setIfInBounds i true) (a.put oi.dst v) w2 := fun w2 h2 => h _ _ (ha.put (good_spec hg).2.2.1 v) (hw1.gr h2)
    generalize (execOp (evF F) oi).run P w1 = r at *
    cases r with
    | ok x w' =>
      cases x <;> simp only [Oper.upon] at h0 ⊢
      case value u => rw [h0.1]; exact hK _ _ (fun _ => h0.2) (last _ h0.2)
      case skip => rw [← h0.1]; exact hK _ _ (fun _ => h0.2) (last _ h0.2)
      case enter f args =>
        refine Calls.mono h0 fun e w'' he => ?_
        rw [he.1]
        exact hK _ _ (fun _ => he.2) (last _ he.2)
    | halt x w' => cases x <;> exact h0.elim⟩
theorem oneMake {i : Nat} {oi : Oper} (hi0 : ops.toList[i]? = some oi) (hg : good ops n F oi = true) (t : TypeId) (cs : Array Value) (val : Nat → Value) (hm : Makes P F oi t cs val) (h : ∀ g, wpD P w0 n ops Q ex (putF F oi.dst (val g)) (L ++ [(g, t, cs)]) fuel (listed.setIfInBounds i true)) : wpO P w0 n ops Q ex F L fuel listed i :=
  ⟨oi, by simpa using hi0, (good_spec hg).1, fun a w ha hw w1 h1 K hK => by
    unfold Oper.wp
    rw [good_exec hg ha, hm w1]
    exact hK _ _ (fun _ => gr_alloc w1 _) (h w1.heap.size _ _ (ha.put (good_spec hg).2.2.1 _) ((hw.gr h1).add (gr_alloc w1 _) (Nat.le_refl _) (Blk.new w1 t cs)))⟩
theorem oneWrite {i : Nat} {oi : Oper} (hi0 : ops.toList[i]? = some oi) (hex : ex i = true) (hg : good ops n F oi = true) (b g : Nat) (t : TypeId) (cs cs' : Array Value) (hL : L[b]? = some (g, t, cs)) (hm : Writes P F oi g t cs cs') (h : wpD P w0 n ops Q ex (putF F oi.dst undef) (L.set b (g, t, cs')) fuel (listed.setIfInBounds i true)) : wpO P w0 n ops Q ex F L fuel listed i :=
  ⟨oi, by simpa using hi0, (good_spec hg).1, fun a w ha hw w1 h1 K hK => by
    obtain ⟨w', e1, e2, e3⟩ := hm w1 ((hw.gr h1).get hL)
    unfold Oper.wp
    rw [good_exec hg ha, e1]
    exact hK _ _ (fun e => by rw [hex] at e; cases e) (h _ _ (ha.put (good_spec hg).2.2.1 _) ((hw.gr h1).set hL e2 e3))⟩
/-- all orders meet here -/
theorem joinD (FF : (Nat → Nat) → Slots) (LL : (Nat → Nat) → Blocks) (fu : Nat) (li : Array Bool) {fuel' : Nat} (h : ∀ g, wpD P w0 n ops Q ex (FF g) (LL g) fu li) (k : (∀ g, wpD P w0 n ops Q ex (FF g) (LL g) fu li) → wpD P w0 n ops Q ex F L fuel' listed) : wpD P w0 n ops Q ex F L fuel' listed := k h
theorem leafI {FF : (Nat → Nat) → Slots} {LL : (Nat → Nat) → Blocks} {li : Array Bool} (h : ∀ g, wpD P w0 n ops Q ex (FF g) (LL g) fuel li) (g : Nat → Nat) (hl : listed = li) (hF : ∀ p ∈ FF g, F.lookup p.1 = some p.2) (hL : L = LL g) : wpD P w0 n ops Q ex F L fuel listed := fun a w ha hw => by
  subst hl hL
  exact h g a w (ha.all hF) hw
theorem leafS {FF : (Nat → Nat) → Slots} {LL : (Nat → Nat) → Blocks} {li : Array Bool} {M : Blocks} {x y : Nat × TypeId × Array Value} (h : ∀ g, wpD P w0 n ops Q ex (FF g) (LL g) fuel li) (g : Nat → Nat) (hl : listed = li) (hF : ∀ p ∈ FF g, F.lookup p.1 = some p.2) (hL : L = M ++ [y] ++ [x]) (hM : M ++ [x] ++ [y] = LL g) : wpD P w0 n ops Q ex F L fuel listed := fun a w ha hw => by
  subst hl hL
  have h2 := h g a w (ha.all hF)
  rw [← hM] at h2
  exact h2 (St.swap hw)
end
end Go.Proofs.Ytneeefinaejgcaa.Sy

end
section
namespace Go.Proofs.Ytneeefinaejgcaa.Cu
open Go.RowKit Go.Proofs.Ytneeefinaejgcaa Go.Proofs.Ytneeefinaejgcaa.Sy

set_option maxHeartbeats 4000000 in
set_option maxRecDepth 100000 in
theorem addJ_c (w : World) (a b : J) : Calls Try.prog 45 #[tv a.x.val a.y.val a.z.val, tv b.x.val b.y.val b.z.val] w (Gets w (tv (addJ a b).x.val (addJ a b).y.val (addJ a b).z.val)) := by
  refine Sy.enter (args := [tv a.x.val a.y.val a.z.val, tv b.x.val b.y.val b.z.val]) Try.func45 rfl (Nat.le_of_ble_eq_true (by kernel_rfl)) ?_
  refine Sy.seq ?_
  refine Sy.region ?_
  refine Sy.make (by kernel_rfl) 73 (tcs a.x.val a.y.val a.z.val) ptr (fun _ => by kernel_rfl) (fun g0 => ?_)
  refine Sy.make (by kernel_rfl) 73 (tcs b.x.val b.y.val b.z.val) ptr (fun _ => by kernel_rfl) (fun g1 => ?_)
  refine Sy.make (by kernel_rfl) 73 (tcs 0 0 0) ptr (fun _ => by kernel_rfl) (fun g2 => ?_)
  refine Sy.nil ?_
  refine Sy.then_ ?_
  refine Sy.seq ?_
  refine Sy.seq ?_
  refine Sy.regionD (fun j => false) (by kernel_rfl) ?_
  refine Sy.stepD 0 rfl (by kernel_rfl) (fun _ _ _ _ h => h) (by kernel_rfl) (.pointer (some ⟨g0, 8, none⟩)) (Quiet.pure (fun _ => by kernel_rfl)) ?_
  refine Sy.stepD 1 rfl (by kernel_rfl) (fun _ _ _ _ h => h) (by kernel_rfl) (fv a.z.val) (Quiet.load 0 g0 8 4 73 25 (tcs a.x.val a.y.val a.z.val) _ _ rfl (by kernel_rfl) (by kernel_rfl) Try.underlying25 rfl (by kernel_rfl) _ (by kernel_rfl) (Nat.le_of_ble_eq_true (by kernel_rfl))) ?_
  obtain ⟨z1, hz1⟩ : ∃ z : Fp, z = (0 : Fp) := ⟨_, rfl⟩
  refine Sy.stepD 2 rfl (by kernel_rfl) (fun _ _ _ _ h => h) (by kernel_rfl) (fv z1.val) (Quiet.call 77 #[.int .u64 0] (fun _ => by kernel_rfl) (fun w => by rw [hz1]; exact of_c 0 (by decide +kernel) (by decide) w)) ?_
  obtain ⟨b1, hb1⟩ : ∃ z : Bool, z = decide (a.z.val = z1.val) := ⟨_, rfl⟩
  refine Sy.stepD 3 rfl (by kernel_rfl) (fun _ _ _ _ h => h) (by kernel_rfl) (.bool b1) (Quiet.pure (fun w => by rw [hb1]; exact eql_fe w _ _ _ _ _ _ rfl rfl rfl (by first | assumption | exact lt4 _ | decide +kernel) (by first | assumption | exact lt4 _ | decide +kernel))) ?_
  refine Sy.doneD (by kernel_rfl) ?_
  refine Sy.then_ ?_
  cases b1
  · have eb1 : a.z ≠ 0 := fun e => of_decide_eq_false hb1.symm (by rw [e, hz1])
    refine Sy.cond_f (by kernel_rfl) (by kernel_rfl) ?_
    refine Sy.skip ?_
    refine Sy.then_ ?_
    refine Sy.seq ?_
    refine Sy.seq ?_
    refine Sy.regionD (fun j => false) (by kernel_rfl) ?_
    refine Sy.stepD 0 rfl (by kernel_rfl) (fun _ _ _ _ h => h) (by kernel_rfl) (.pointer (some ⟨g1, 8, none⟩)) (Quiet.pure (fun _ => by kernel_rfl)) ?_
    refine Sy.stepD 1 rfl (by kernel_rfl) (fun _ _ _ _ h => h) (by kernel_rfl) (fv b.z.val) (Quiet.load 1 g1 8 4 73 25 (tcs b.x.val b.y.val b.z.val) _ _ rfl (by kernel_rfl) (by kernel_rfl) Try.underlying25 rfl (by kernel_rfl) _ (by kernel_rfl) (Nat.le_of_ble_eq_true (by kernel_rfl))) ?_
    obtain ⟨z2, hz2⟩ : ∃ z : Fp, z = (0 : Fp) := ⟨_, rfl⟩
    refine Sy.stepD 2 rfl (by kernel_rfl) (fun _ _ _ _ h => h) (by kernel_rfl) (fv z2.val) (Quiet.call 77 #[.int .u64 0] (fun _ => by kernel_rfl) (fun w => by rw [hz2]; exact of_c 0 (by decide +kernel) (by decide) w)) ?_
    obtain ⟨b2, hb2⟩ : ∃ z : Bool, z = decide (b.z.val = z2.val) := ⟨_, rfl⟩
    refine Sy.stepD 3 rfl (by kernel_rfl) (fun _ _ _ _ h => h) (by kernel_rfl) (.bool b2) (Quiet.pure (fun w => by rw [hb2]; exact eql_fe w _ _ _ _ _ _ rfl rfl rfl (by first | assumption | exact lt4 _ | decide +kernel) (by first | assumption | exact lt4 _ | decide +kernel))) ?_
    refine Sy.doneD (by kernel_rfl) ?_
    refine Sy.then_ ?_
    cases b2
    · have eb2 : b.z ≠ 0 := fun e => of_decide_eq_false hb2.symm (by rw [e, hz2])
      refine Sy.cond_f (by kernel_rfl) (by kernel_rfl) ?_
      refine Sy.skip ?_
      refine Sy.then_ ?_
      refine Sy.seq ?_
      refine Sy.region ?_
      refine Sy.step (by kernel_rfl) (tv a.x.val a.y.val a.z.val) (Quiet.load 0 g0 0 12 73 73 (tcs a.x.val a.y.val a.z.val) _ _ rfl (by kernel_rfl) (by kernel_rfl) Try.underlying73 rfl (by kernel_rfl) _ (by kernel_rfl) (Nat.le_of_ble_eq_true (by kernel_rfl))) ?_
      refine Sy.step (by kernel_rfl) (.pointer (some ⟨g1, 8, none⟩)) (Quiet.pure (fun _ => by kernel_rfl)) ?_
      refine Sy.step (by kernel_rfl) (fv b.z.val) (Quiet.load 1 g1 8 4 73 25 (tcs b.x.val b.y.val b.z.val) _ _ rfl (by kernel_rfl) (by kernel_rfl) Try.underlying25 rfl (by kernel_rfl) _ (by kernel_rfl) (Nat.le_of_ble_eq_true (by kernel_rfl))) ?_
      obtain ⟨z3, hz3⟩ : ∃ z : Fp, z = uJ a b := ⟨_, rfl⟩
      obtain ⟨z4, hz4⟩ : ∃ z : Fp, z = vJ a b := ⟨_, rfl⟩
      refine Sy.step (by kernel_rfl) (.tuple #[fv z3.val, fv z4.val]) (Quiet.call 79 #[tv a.x.val a.y.val a.z.val, fv b.z.val] (fun _ => by kernel_rfl) (fun w => by rw [hz3, hz4]; exact widened_c w a b.z)) ?_
      refine Sy.step (by kernel_rfl) (.tuple #[fv z3.val, fv z4.val]) (Quiet.pure (fun _ => by kernel_rfl)) ?_
      refine Sy.step (by kernel_rfl) (fv z3.val) (Quiet.pure (fun _ => by kernel_rfl)) ?_
      refine Sy.step (by kernel_rfl) (fv z4.val) (Quiet.pure (fun _ => by kernel_rfl)) ?_
      refine Sy.make (by kernel_rfl) 25 (fcs 0) ptr (fun _ => by kernel_rfl) (fun g3 => ?_)
      refine Sy.make (by kernel_rfl) 25 (fcs 0) ptr (fun _ => by kernel_rfl) (fun g4 => ?_)
      refine Sy.write (by kernel_rfl) 3 g3 25 (fcs 0) (fcs z3.val) (by kernel_rfl) (Writes.store 0 25 (fcs z3.val) _ _ rfl (by kernel_rfl) (by kernel_rfl) (by kernel_rfl) (Nat.le_of_ble_eq_true (by kernel_rfl)) (by kernel_rfl) (by kernel_rfl)) ?_
      refine Sy.write (by kernel_rfl) 4 g4 25 (fcs 0) (fcs z4.val) (by kernel_rfl) (Writes.store 0 25 (fcs z4.val) _ _ rfl (by kernel_rfl) (by kernel_rfl) (by kernel_rfl) (Nat.le_of_ble_eq_true (by kernel_rfl)) (by kernel_rfl) (by kernel_rfl)) ?_
      refine Sy.nil ?_
      refine Sy.then_ ?_
      refine Sy.seq ?_
      refine Sy.region ?_
      refine Sy.step (by kernel_rfl) (tv b.x.val b.y.val b.z.val) (Quiet.load 1 g1 0 12 73 73 (tcs b.x.val b.y.val b.z.val) _ _ rfl (by kernel_rfl) (by kernel_rfl) Try.underlying73 rfl (by kernel_rfl) _ (by kernel_rfl) (Nat.le_of_ble_eq_true (by kernel_rfl))) ?_
      refine Sy.step (by kernel_rfl) (.pointer (some ⟨g0, 8, none⟩)) (Quiet.pure (fun _ => by kernel_rfl)) ?_
      refine Sy.step (by kernel_rfl) (fv a.z.val) (Quiet.load 0 g0 8 4 73 25 (tcs a.x.val a.y.val a.z.val) _ _ rfl (by kernel_rfl) (by kernel_rfl) Try.underlying25 rfl (by kernel_rfl) _ (by kernel_rfl) (Nat.le_of_ble_eq_true (by kernel_rfl))) ?_
      obtain ⟨z5, hz5⟩ : ∃ z : Fp, z = uJ b a := ⟨_, rfl⟩
      obtain ⟨z6, hz6⟩ : ∃ z : Fp, z = vJ b a := ⟨_, rfl⟩
      refine Sy.step (by kernel_rfl) (.tuple #[fv z5.val, fv z6.val]) (Quiet.call 79 #[tv b.x.val b.y.val b.z.val, fv a.z.val] (fun _ => by kernel_rfl) (fun w => by rw [hz5, hz6]; exact widened_c w b a.z)) ?_
      refine Sy.step (by kernel_rfl) (.tuple #[fv z5.val, fv z6.val]) (Quiet.pure (fun _ => by kernel_rfl)) ?_
      refine Sy.step (by kernel_rfl) (fv z5.val) (Quiet.pure (fun _ => by kernel_rfl)) ?_
      refine Sy.step (by kernel_rfl) (fv z6.val) (Quiet.pure (fun _ => by kernel_rfl)) ?_
      refine Sy.make (by kernel_rfl) 25 (fcs 0) ptr (fun _ => by kernel_rfl) (fun g5 => ?_)
      refine Sy.make (by kernel_rfl) 25 (fcs 0) ptr (fun _ => by kernel_rfl) (fun g6 => ?_)
      refine Sy.write (by kernel_rfl) 5 g5 25 (fcs 0) (fcs z5.val) (by kernel_rfl) (Writes.store 0 25 (fcs z5.val) _ _ rfl (by kernel_rfl) (by kernel_rfl) (by kernel_rfl) (Nat.le_of_ble_eq_true (by kernel_rfl)) (by kernel_rfl) (by kernel_rfl)) ?_
      refine Sy.write (by kernel_rfl) 6 g6 25 (fcs 0) (fcs z6.val) (by kernel_rfl) (Writes.store 0 25 (fcs z6.val) _ _ rfl (by kernel_rfl) (by kernel_rfl) (by kernel_rfl) (Nat.le_of_ble_eq_true (by kernel_rfl)) (by kernel_rfl) (by kernel_rfl)) ?_
      refine Sy.nil ?_
      refine Sy.then_ ?_
      refine Sy.seq ?_
      refine Sy.regionD (fun j => j == 8 || j == 9) (by kernel_rfl) ?_
      refine Sy.stepD 0 rfl (by kernel_rfl) (fun _ _ _ _ h => h) (by kernel_rfl) (fv z5.val) (Quiet.load 5 g5 0 4 25 25 (fcs z5.val) _ _ rfl (by kernel_rfl) (by kernel_rfl) Try.underlying25 rfl (by kernel_rfl) _ (by kernel_rfl) (Nat.le_of_ble_eq_true (by kernel_rfl))) ?_
      refine Sy.stepD 1 rfl (by kernel_rfl) (fun _ _ _ _ h => h) (by kernel_rfl) (fv z3.val) (Quiet.load 3 g3 0 4 25 25 (fcs z3.val) _ _ rfl (by kernel_rfl) (by kernel_rfl) Try.underlying25 rfl (by kernel_rfl) _ (by kernel_rfl) (Nat.le_of_ble_eq_true (by kernel_rfl))) ?_
      obtain ⟨z7, hz7⟩ : ∃ z : Fp, z = z5 - z3 := ⟨_, rfl⟩
      refine Sy.stepD 2 rfl (by kernel_rfl) (fun _ _ _ _ h => h) (by kernel_rfl) (fv z7.val) (Quiet.call 59 #[fv z5.val, fv z3.val] (fun _ => by kernel_rfl) (by rw [hz7]; exact sub_c z5 z3)) ?_
      refine Sy.stepDB 3 [5, 8, 9] rfl (by kernel_rfl) (fun _ _ _ _ h => h) (by kernel_rfl) (fv z6.val) (Quiet.load 6 g6 0 4 25 25 (fcs z6.val) _ _ rfl (by kernel_rfl) (by kernel_rfl) Try.underlying25 rfl (by kernel_rfl) _ (by kernel_rfl) (Nat.le_of_ble_eq_true (by kernel_rfl))) ?_
      refine Sy.stepDB 4 [5, 8, 9] rfl (by kernel_rfl) (fun _ _ _ _ h => h) (by kernel_rfl) (fv z4.val) (Quiet.load 4 g4 0 4 25 25 (fcs z4.val) _ _ rfl (by kernel_rfl) (by kernel_rfl) Try.underlying25 rfl (by kernel_rfl) _ (by kernel_rfl) (Nat.le_of_ble_eq_true (by kernel_rfl))) ?_
      obtain ⟨z8, hz8⟩ : ∃ z : Fp, z = z6 - z4 := ⟨_, rfl⟩
      refine Sy.stepD 5 rfl (by kernel_rfl) (fun _ _ _ _ h => h) (by kernel_rfl) (fv z8.val) (Quiet.call 59 #[fv z6.val, fv z4.val] (fun _ => by kernel_rfl) (by rw [hz8]; exact sub_c z6 z4)) ?_
      refine Sy.makeDuo 6 7 rfl rfl (by kernel_rfl) (by kernel_rfl) (by kernel_rfl) 9 10 rfl rfl rfl (by decide) (by kernel_rfl) (by kernel_rfl) (fun _ => by kernel_rfl) (fun _ => by kernel_rfl) 25 25 (fcs 0) (fcs 0) ptr ptr (fun _ _ => by kernel_rfl) (fun _ _ => by kernel_rfl) (fun g7 g8 => ?_)
      refine Sy.writeD 8 rfl (by kernel_rfl) (by rfl) (by kernel_rfl) 7 g7 25 (fcs 0) (fcs z7.val) (by kernel_rfl) (Writes.store 0 25 (fcs z7.val) _ _ rfl (by kernel_rfl) (by kernel_rfl) (by kernel_rfl) (Nat.le_of_ble_eq_true (by kernel_rfl)) (by kernel_rfl) (by kernel_rfl)) ?_
      refine Sy.writeD 9 rfl (by kernel_rfl) (by rfl) (by kernel_rfl) 8 g8 25 (fcs 0) (fcs z8.val) (by kernel_rfl) (Writes.store 0 25 (fcs z8.val) _ _ rfl (by kernel_rfl) (by kernel_rfl) (by kernel_rfl) (Nat.le_of_ble_eq_true (by kernel_rfl)) (by kernel_rfl) (by kernel_rfl)) ?_
      refine Sy.doneD (by kernel_rfl) ?_
      refine Sy.then_ ?_
      refine Sy.seq ?_
      refine Sy.seq ?_
      refine Sy.regionD (fun j => false) (by kernel_rfl) ?_
      refine Sy.stepD 0 rfl (by kernel_rfl) (fun _ _ _ _ h => h) (by kernel_rfl) (fv z7.val) (Quiet.load 7 g7 0 4 25 25 (fcs z7.val) _ _ rfl (by kernel_rfl) (by kernel_rfl) Try.underlying25 rfl (by kernel_rfl) _ (by kernel_rfl) (Nat.le_of_ble_eq_true (by kernel_rfl))) ?_
      obtain ⟨z9, hz9⟩ : ∃ z : Fp, z = (0 : Fp) := ⟨_, rfl⟩
      refine Sy.stepD 1 rfl (by kernel_rfl) (fun _ _ _ _ h => h) (by kernel_rfl) (fv z9.val) (Quiet.call 77 #[.int .u64 0] (fun _ => by kernel_rfl) (fun w => by rw [hz9]; exact of_c 0 (by decide +kernel) (by decide) w)) ?_
      obtain ⟨b3, hb3⟩ : ∃ z : Bool, z = decide (z7.val = z9.val) := ⟨_, rfl⟩
      refine Sy.stepD 2 rfl (by kernel_rfl) (fun _ _ _ _ h => h) (by kernel_rfl) (.bool b3) (Quiet.pure (fun w => by rw [hb3]; exact eql_fe w _ _ _ _ _ _ rfl rfl rfl (by first | assumption | exact lt4 _ | decide +kernel) (by first | assumption | exact lt4 _ | decide +kernel))) ?_
      refine Sy.stepD 3 rfl (by kernel_rfl) (fun _ _ _ _ h => h) (by kernel_rfl) (.bool b3) (Quiet.pure (fun _ => by kernel_rfl)) ?_
      cases b3
      · have eb3 : z7 ≠ 0 := fun e => of_decide_eq_false hb3.symm (by rw [e, hz9])
        refine Sy.passD 4 rfl (by kernel_rfl) (fun _ _ _ _ h => h) (by kernel_rfl) (by kernel_rfl) ?_
        refine Sy.passD 5 rfl (by kernel_rfl) (fun _ _ _ _ h => h) (by kernel_rfl) (by kernel_rfl) ?_
        refine Sy.passD 6 rfl (by kernel_rfl) (fun _ _ _ _ h => h) (by kernel_rfl) (by kernel_rfl) ?_
        refine Sy.stepD 7 rfl (by kernel_rfl) (fun _ _ _ _ h => h) (by kernel_rfl) (.bool false) (Quiet.pure (fun _ => by kernel_rfl)) ?_
        refine Sy.doneD (by kernel_rfl) ?_
        refine Sy.then_ ?_
        refine Sy.cond_f (by kernel_rfl) (by kernel_rfl) ?_
        refine Sy.skip ?_
        refine Sy.then_ ?_
        refine Sy.seq ?_
        refine Sy.region ?_
        refine Sy.step (by kernel_rfl) (fv z7.val) (Quiet.load 7 g7 0 4 25 25 (fcs z7.val) _ _ rfl (by kernel_rfl) (by kernel_rfl) Try.underlying25 rfl (by kernel_rfl) _ (by kernel_rfl) (Nat.le_of_ble_eq_true (by kernel_rfl))) ?_
        refine Sy.step (by kernel_rfl) (fv z7.val) (Quiet.load 7 g7 0 4 25 25 (fcs z7.val) _ _ rfl (by kernel_rfl) (by kernel_rfl) Try.underlying25 rfl (by kernel_rfl) _ (by kernel_rfl) (Nat.le_of_ble_eq_true (by kernel_rfl))) ?_
        obtain ⟨z10, hz10⟩ : ∃ z : Fp, z = z7 * z7 := ⟨_, rfl⟩
        refine Sy.step (by kernel_rfl) (fv z10.val) (Quiet.call 40 #[fv z7.val, fv z7.val] (fun _ => by kernel_rfl) (by rw [hz10]; exact mul_c z7 z7)) ?_
        refine Sy.make (by kernel_rfl) 25 (fcs 0) ptr (fun _ => by kernel_rfl) (fun g9 => ?_)
        refine Sy.write (by kernel_rfl) 9 g9 25 (fcs 0) (fcs z10.val) (by kernel_rfl) (Writes.store 0 25 (fcs z10.val) _ _ rfl (by kernel_rfl) (by kernel_rfl) (by kernel_rfl) (Nat.le_of_ble_eq_true (by kernel_rfl)) (by kernel_rfl) (by kernel_rfl)) ?_
        refine Sy.nil ?_
        refine Sy.then_ ?_
        refine Sy.seq ?_
        refine Sy.region ?_
        refine Sy.step (by kernel_rfl) (fv z10.val) (Quiet.load 9 g9 0 4 25 25 (fcs z10.val) _ _ rfl (by kernel_rfl) (by kernel_rfl) Try.underlying25 rfl (by kernel_rfl) _ (by kernel_rfl) (Nat.le_of_ble_eq_true (by kernel_rfl))) ?_
        refine Sy.step (by kernel_rfl) (fv z7.val) (Quiet.load 7 g7 0 4 25 25 (fcs z7.val) _ _ rfl (by kernel_rfl) (by kernel_rfl) Try.underlying25 rfl (by kernel_rfl) _ (by kernel_rfl) (Nat.le_of_ble_eq_true (by kernel_rfl))) ?_
        obtain ⟨z11, hz11⟩ : ∃ z : Fp, z = z10 * z7 := ⟨_, rfl⟩
        refine Sy.step (by kernel_rfl) (fv z11.val) (Quiet.call 40 #[fv z10.val, fv z7.val] (fun _ => by kernel_rfl) (by rw [hz11]; exact mul_c z10 z7)) ?_
        refine Sy.make (by kernel_rfl) 25 (fcs 0) ptr (fun _ => by kernel_rfl) (fun g10 => ?_)
        refine Sy.write (by kernel_rfl) 10 g10 25 (fcs 0) (fcs z11.val) (by kernel_rfl) (Writes.store 0 25 (fcs z11.val) _ _ rfl (by kernel_rfl) (by kernel_rfl) (by kernel_rfl) (Nat.le_of_ble_eq_true (by kernel_rfl)) (by kernel_rfl) (by kernel_rfl)) ?_
        refine Sy.nil ?_
        refine Sy.then_ ?_
        refine Sy.seq ?_
        refine Sy.region ?_
        refine Sy.step (by kernel_rfl) (fv z3.val) (Quiet.load 3 g3 0 4 25 25 (fcs z3.val) _ _ rfl (by kernel_rfl) (by kernel_rfl) Try.underlying25 rfl (by kernel_rfl) _ (by kernel_rfl) (Nat.le_of_ble_eq_true (by kernel_rfl))) ?_
        refine Sy.step (by kernel_rfl) (fv z10.val) (Quiet.load 9 g9 0 4 25 25 (fcs z10.val) _ _ rfl (by kernel_rfl) (by kernel_rfl) Try.underlying25 rfl (by kernel_rfl) _ (by kernel_rfl) (Nat.le_of_ble_eq_true (by kernel_rfl))) ?_
        obtain ⟨z12, hz12⟩ : ∃ z : Fp, z = z3 * z10 := ⟨_, rfl⟩
        refine Sy.step (by kernel_rfl) (fv z12.val) (Quiet.call 40 #[fv z3.val, fv z10.val] (fun _ => by kernel_rfl) (by rw [hz12]; exact mul_c z3 z10)) ?_
        refine Sy.write (by kernel_rfl) 3 g3 25 (fcs z3.val) (fcs z12.val) (by kernel_rfl) (Writes.store 0 25 (fcs z12.val) _ _ rfl (by kernel_rfl) (by kernel_rfl) (by kernel_rfl) (Nat.le_of_ble_eq_true (by kernel_rfl)) (by kernel_rfl) (by kernel_rfl)) ?_
        refine Sy.nil ?_
        refine Sy.then_ ?_
        refine Sy.seq ?_
        refine Sy.region ?_
        refine Sy.make (by kernel_rfl) 73 (tcs 0 0 0) ptr (fun _ => by kernel_rfl) (fun g11 => ?_)
        refine Sy.nil ?_
        refine Sy.then_ ?_
        refine Sy.seq ?_
        refine Sy.regionD (fun j => j == 10) (by kernel_rfl) ?_
        refine Sy.stepD 0 rfl (by kernel_rfl) (fun _ _ _ _ h => h) (by kernel_rfl) (fv z8.val) (Quiet.load 8 g8 0 4 25 25 (fcs z8.val) _ _ rfl (by kernel_rfl) (by kernel_rfl) Try.underlying25 rfl (by kernel_rfl) _ (by kernel_rfl) (Nat.le_of_ble_eq_true (by kernel_rfl))) ?_
        refine Sy.stepD 1 rfl (by kernel_rfl) (fun _ _ _ _ h => h) (by kernel_rfl) (fv z8.val) (Quiet.load 8 g8 0 4 25 25 (fcs z8.val) _ _ rfl (by kernel_rfl) (by kernel_rfl) Try.underlying25 rfl (by kernel_rfl) _ (by kernel_rfl) (Nat.le_of_ble_eq_true (by kernel_rfl))) ?_
        obtain ⟨z13, hz13⟩ : ∃ z : Fp, z = z8 * z8 := ⟨_, rfl⟩
        refine Sy.stepD 2 rfl (by kernel_rfl) (fun _ _ _ _ h => h) (by kernel_rfl) (fv z13.val) (Quiet.call 40 #[fv z8.val, fv z8.val] (fun _ => by kernel_rfl) (by rw [hz13]; exact mul_c z8 z8)) ?_
        refine Sy.stepD 3 rfl (by kernel_rfl) (fun _ _ _ _ h => h) (by kernel_rfl) (fv z11.val) (Quiet.load 10 g10 0 4 25 25 (fcs z11.val) _ _ rfl (by kernel_rfl) (by kernel_rfl) Try.underlying25 rfl (by kernel_rfl) _ (by kernel_rfl) (Nat.le_of_ble_eq_true (by kernel_rfl))) ?_
        obtain ⟨z14, hz14⟩ : ∃ z : Fp, z = z13 - z11 := ⟨_, rfl⟩
        refine Sy.stepD 4 rfl (by kernel_rfl) (fun _ _ _ _ h => h) (by kernel_rfl) (fv z14.val) (Quiet.call 59 #[fv z13.val, fv z11.val] (fun _ => by kernel_rfl) (by rw [hz14]; exact sub_c z13 z11)) ?_
        refine Sy.stepD 5 rfl (by kernel_rfl) (fun _ _ _ _ h => h) (by kernel_rfl) (fv z12.val) (Quiet.load 3 g3 0 4 25 25 (fcs z12.val) _ _ rfl (by kernel_rfl) (by kernel_rfl) Try.underlying25 rfl (by kernel_rfl) _ (by kernel_rfl) (Nat.le_of_ble_eq_true (by kernel_rfl))) ?_
        refine Sy.stepD 6 rfl (by kernel_rfl) (fun _ _ _ _ h => h) (by kernel_rfl) (fv z12.val) (Quiet.load 3 g3 0 4 25 25 (fcs z12.val) _ _ rfl (by kernel_rfl) (by kernel_rfl) Try.underlying25 rfl (by kernel_rfl) _ (by kernel_rfl) (Nat.le_of_ble_eq_true (by kernel_rfl))) ?_
        obtain ⟨z15, hz15⟩ : ∃ z : Fp, z = z12 + z12 := ⟨_, rfl⟩
        refine Sy.stepD 7 rfl (by kernel_rfl) (fun _ _ _ _ h => h) (by kernel_rfl) (fv z15.val) (Quiet.call 76 #[fv z12.val, fv z12.val] (fun _ => by kernel_rfl) (by rw [hz15]; exact add_c z12 z12)) ?_
        obtain ⟨z16, hz16⟩ : ∃ z : Fp, z = z14 - z15 := ⟨_, rfl⟩
        refine Sy.stepD 8 rfl (by kernel_rfl) (fun _ _ _ _ h => h) (by kernel_rfl) (fv z16.val) (Quiet.call 59 #[fv z14.val, fv z15.val] (fun _ => by kernel_rfl) (by rw [hz16]; exact sub_c z14 z15)) ?_
        refine Sy.stepD 9 rfl (by kernel_rfl) (fun _ _ _ _ h => h) (by kernel_rfl) (.pointer (some ⟨g11, 0, none⟩)) (Quiet.pure (fun _ => by kernel_rfl)) ?_
        refine Sy.writeD 10 rfl (by kernel_rfl) (by rfl) (by kernel_rfl) 11 g11 73 (tcs 0 0 0) (tcs z16.val 0 0) (by kernel_rfl) (Writes.store 0 25 (fcs z16.val) _ _ rfl (by kernel_rfl) (by kernel_rfl) (by kernel_rfl) (Nat.le_of_ble_eq_true (by kernel_rfl)) (by kernel_rfl) (by kernel_rfl)) ?_
        refine Sy.doneD (by kernel_rfl) ?_
        refine Sy.then_ ?_
        refine Sy.seq ?_
        refine Sy.regionD (fun j => j == 11) (by kernel_rfl) ?_
        refine Sy.stepD 0 rfl (by kernel_rfl) (fun _ _ _ _ h => h) (by kernel_rfl) (fv z8.val) (Quiet.load 8 g8 0 4 25 25 (fcs z8.val) _ _ rfl (by kernel_rfl) (by kernel_rfl) Try.underlying25 rfl (by kernel_rfl) _ (by kernel_rfl) (Nat.le_of_ble_eq_true (by kernel_rfl))) ?_
        refine Sy.stepD 1 rfl (by kernel_rfl) (fun _ _ _ _ h => h) (by kernel_rfl) (fv z12.val) (Quiet.load 3 g3 0 4 25 25 (fcs z12.val) _ _ rfl (by kernel_rfl) (by kernel_rfl) Try.underlying25 rfl (by kernel_rfl) _ (by kernel_rfl) (Nat.le_of_ble_eq_true (by kernel_rfl))) ?_
        refine Sy.stepD 2 rfl (by kernel_rfl) (fun _ _ _ _ h => h) (by kernel_rfl) (.pointer (some ⟨g11, 0, none⟩)) (Quiet.pure (fun _ => by kernel_rfl)) ?_
        refine Sy.stepD 3 rfl (by kernel_rfl) (fun _ _ _ _ h => h) (by kernel_rfl) (fv z16.val) (Quiet.load 11 g11 0 4 73 25 (tcs z16.val 0 0) _ _ rfl (by kernel_rfl) (by kernel_rfl) Try.underlying25 rfl (by kernel_rfl) _ (by kernel_rfl) (Nat.le_of_ble_eq_true (by kernel_rfl))) ?_
        obtain ⟨z17, hz17⟩ : ∃ z : Fp, z = z12 - z16 := ⟨_, rfl⟩
        refine Sy.stepD 4 rfl (by kernel_rfl) (fun _ _ _ _ h => h) (by kernel_rfl) (fv z17.val) (Quiet.call 59 #[fv z12.val, fv z16.val] (fun _ => by kernel_rfl) (by rw [hz17]; exact sub_c z12 z16)) ?_
        obtain ⟨z18, hz18⟩ : ∃ z : Fp, z = z8 * z17 := ⟨_, rfl⟩
        refine Sy.stepD 5 rfl (by kernel_rfl) (fun _ _ _ _ h => h) (by kernel_rfl) (fv z18.val) (Quiet.call 40 #[fv z8.val, fv z17.val] (fun _ => by kernel_rfl) (by rw [hz18]; exact mul_c z8 z17)) ?_
        refine Sy.stepD 6 rfl (by kernel_rfl) (fun _ _ _ _ h => h) (by kernel_rfl) (fv z4.val) (Quiet.load 4 g4 0 4 25 25 (fcs z4.val) _ _ rfl (by kernel_rfl) (by kernel_rfl) Try.underlying25 rfl (by kernel_rfl) _ (by kernel_rfl) (Nat.le_of_ble_eq_true (by kernel_rfl))) ?_
        refine Sy.stepD 7 rfl (by kernel_rfl) (fun _ _ _ _ h => h) (by kernel_rfl) (fv z11.val) (Quiet.load 10 g10 0 4 25 25 (fcs z11.val) _ _ rfl (by kernel_rfl) (by kernel_rfl) Try.underlying25 rfl (by kernel_rfl) _ (by kernel_rfl) (Nat.le_of_ble_eq_true (by kernel_rfl))) ?_
        obtain ⟨z19, hz19⟩ : ∃ z : Fp, z = z4 * z11 := ⟨_, rfl⟩
        refine Sy.stepD 8 rfl (by kernel_rfl) (fun _ _ _ _ h => h) (by kernel_rfl) (fv z19.val) (Quiet.call 40 #[fv z4.val, fv z11.val] (fun _ => by kernel_rfl) (by rw [hz19]; exact mul_c z4 z11)) ?_
        obtain ⟨z20, hz20⟩ : ∃ z : Fp, z = z18 - z19 := ⟨_, rfl⟩
        refine Sy.stepD 9 rfl (by kernel_rfl) (fun _ _ _ _ h => h) (by kernel_rfl) (fv z20.val) (Quiet.call 59 #[fv z18.val, fv z19.val] (fun _ => by kernel_rfl) (by rw [hz20]; exact sub_c z18 z19)) ?_
        refine Sy.stepD 10 rfl (by kernel_rfl) (fun _ _ _ _ h => h) (by kernel_rfl) (.pointer (some ⟨g11, 4, none⟩)) (Quiet.pure (fun _ => by kernel_rfl)) ?_
        refine Sy.writeD 11 rfl (by kernel_rfl) (by rfl) (by kernel_rfl) 11 g11 73 (tcs z16.val 0 0) (tcs z16.val z20.val 0) (by kernel_rfl) (Writes.store 4 25 (fcs z20.val) _ _ rfl (by kernel_rfl) (by kernel_rfl) (by kernel_rfl) (Nat.le_of_ble_eq_true (by kernel_rfl)) (by kernel_rfl) (by kernel_rfl)) ?_
        refine Sy.doneD (by kernel_rfl) ?_
        refine Sy.then_ ?_
        refine Sy.seq ?_
        refine Sy.regionD (fun j => j == 8) (by kernel_rfl) ?_
        refine Sy.stepD 0 rfl (by kernel_rfl) (fun _ _ _ _ h => h) (by kernel_rfl) (.pointer (some ⟨g0, 8, none⟩)) (Quiet.pure (fun _ => by kernel_rfl)) ?_
        refine Sy.stepD 1 rfl (by kernel_rfl) (fun _ _ _ _ h => h) (by kernel_rfl) (fv a.z.val) (Quiet.load 0 g0 8 4 73 25 (tcs a.x.val a.y.val a.z.val) _ _ rfl (by kernel_rfl) (by kernel_rfl) Try.underlying25 rfl (by kernel_rfl) _ (by kernel_rfl) (Nat.le_of_ble_eq_true (by kernel_rfl))) ?_
        refine Sy.stepD 2 rfl (by kernel_rfl) (fun _ _ _ _ h => h) (by kernel_rfl) (.pointer (some ⟨g1, 8, none⟩)) (Quiet.pure (fun _ => by kernel_rfl)) ?_
        refine Sy.stepD 3 rfl (by kernel_rfl) (fun _ _ _ _ h => h) (by kernel_rfl) (fv b.z.val) (Quiet.load 1 g1 8 4 73 25 (tcs b.x.val b.y.val b.z.val) _ _ rfl (by kernel_rfl) (by kernel_rfl) Try.underlying25 rfl (by kernel_rfl) _ (by kernel_rfl) (Nat.le_of_ble_eq_true (by kernel_rfl))) ?_
        obtain ⟨z21, hz21⟩ : ∃ z : Fp, z = a.z * b.z := ⟨_, rfl⟩
        refine Sy.stepD 4 rfl (by kernel_rfl) (fun _ _ _ _ h => h) (by kernel_rfl) (fv z21.val) (Quiet.call 40 #[fv a.z.val, fv b.z.val] (fun _ => by kernel_rfl) (by rw [hz21]; exact mul_c a.z b.z)) ?_
        refine Sy.stepD 5 rfl (by kernel_rfl) (fun _ _ _ _ h => h) (by kernel_rfl) (fv z7.val) (Quiet.load 7 g7 0 4 25 25 (fcs z7.val) _ _ rfl (by kernel_rfl) (by kernel_rfl) Try.underlying25 rfl (by kernel_rfl) _ (by kernel_rfl) (Nat.le_of_ble_eq_true (by kernel_rfl))) ?_
        obtain ⟨z22, hz22⟩ : ∃ z : Fp, z = z21 * z7 := ⟨_, rfl⟩
        refine Sy.stepD 6 rfl (by kernel_rfl) (fun _ _ _ _ h => h) (by kernel_rfl) (fv z22.val) (Quiet.call 40 #[fv z21.val, fv z7.val] (fun _ => by kernel_rfl) (by rw [hz22]; exact mul_c z21 z7)) ?_
        refine Sy.stepD 7 rfl (by kernel_rfl) (fun _ _ _ _ h => h) (by kernel_rfl) (.pointer (some ⟨g11, 8, none⟩)) (Quiet.pure (fun _ => by kernel_rfl)) ?_
        refine Sy.writeD 8 rfl (by kernel_rfl) (by rfl) (by kernel_rfl) 11 g11 73 (tcs z16.val z20.val 0) (tcs z16.val z20.val z22.val) (by kernel_rfl) (Writes.store 8 25 (fcs z22.val) _ _ rfl (by kernel_rfl) (by kernel_rfl) (by kernel_rfl) (Nat.le_of_ble_eq_true (by kernel_rfl)) (by kernel_rfl) (by kernel_rfl)) ?_
        refine Sy.doneD (by kernel_rfl) ?_
        refine Sy.then_ ?_
        refine Sy.seq ?_
        refine Sy.region ?_
        refine Sy.step (by kernel_rfl) (tv z16.val z20.val z22.val) (Quiet.load 11 g11 0 12 73 73 (tcs z16.val z20.val z22.val) _ _ rfl (by kernel_rfl) (by kernel_rfl) Try.underlying73 rfl (by kernel_rfl) _ (by kernel_rfl) (Nat.le_of_ble_eq_true (by kernel_rfl))) ?_
        refine Sy.write (by kernel_rfl) 2 g2 73 (tcs 0 0 0) (tcs z16.val z20.val z22.val) (by kernel_rfl) (Writes.store 0 73 (tcs z16.val z20.val z22.val) _ _ rfl (by kernel_rfl) (by kernel_rfl) (by kernel_rfl) (Nat.le_of_ble_eq_true (by kernel_rfl)) (by kernel_rfl) (by kernel_rfl)) ?_
        refine Sy.nil ?_
        refine Sy.then_ ?_
        refine Sy.ret ?_
        rw [show (tv (addJ a b).x.val (addJ a b).y.val (addJ a b).z.val : Value) = tv z16.val z20.val z22.val from by
          rw [addJ_4 eb1 eb2 (fun k => eb3 (by rw [hz7, hz3, hz5]; exact k.1))]
          simp only [hz22, hz21, hz20, hz19, hz18, hz17, hz16, hz15, hz14, hz13, hz12, hz11, hz10, hz8, hz7, hz6, hz5, hz4, hz3]
          rfl]
        exact Sy.ret1 (v := tv z16.val z20.val z22.val) rfl (.inl (Res.cell (ty' := 73) g2 2 (tcs z16.val z20.val z22.val) _ (by kernel_rfl) (by kernel_rfl) Try.underlying73 rfl (by kernel_rfl) (by kernel_rfl)))
      · have eb3 : z7 = 0 := (Fin.ext (of_decide_eq_true hb3.symm)).trans hz9
        refine Sy.stepD 4 rfl (by kernel_rfl) (fun _ _ _ _ h => h) (by kernel_rfl) (fv z8.val) (Quiet.load 8 g8 0 4 25 25 (fcs z8.val) _ _ rfl (by kernel_rfl) (by kernel_rfl) Try.underlying25 rfl (by kernel_rfl) _ (by kernel_rfl) (Nat.le_of_ble_eq_true (by kernel_rfl))) ?_
        obtain ⟨z23, hz23⟩ : ∃ z : Fp, z = (0 : Fp) := ⟨_, rfl⟩
        refine Sy.stepD 5 rfl (by kernel_rfl) (fun _ _ _ _ h => h) (by kernel_rfl) (fv z23.val) (Quiet.call 77 #[.int .u64 0] (fun _ => by kernel_rfl) (fun w => by rw [hz23]; exact of_c 0 (by decide +kernel) (by decide) w)) ?_
        obtain ⟨b4, hb4⟩ : ∃ z : Bool, z = decide (z8.val = z23.val) := ⟨_, rfl⟩
        refine Sy.stepD 6 rfl (by kernel_rfl) (fun _ _ _ _ h => h) (by kernel_rfl) (.bool b4) (Quiet.pure (fun w => by rw [hb4]; exact eql_fe w _ _ _ _ _ _ rfl rfl rfl (by first | assumption | exact lt4 _ | decide +kernel) (by first | assumption | exact lt4 _ | decide +kernel))) ?_
        refine Sy.stepD 7 rfl (by kernel_rfl) (fun _ _ _ _ h => h) (by kernel_rfl) (.bool b4) (Quiet.pure (fun _ => by kernel_rfl)) ?_
        refine Sy.doneD (by kernel_rfl) ?_
        refine Sy.then_ ?_
        cases b4
        · have eb4 : z8 ≠ 0 := fun e => of_decide_eq_false hb4.symm (by rw [e, hz23])
          refine Sy.cond_f (by kernel_rfl) (by kernel_rfl) ?_
          refine Sy.skip ?_
          refine Sy.then_ ?_
          refine Sy.seq ?_
          refine Sy.region ?_
          refine Sy.step (by kernel_rfl) (fv z7.val) (Quiet.load 7 g7 0 4 25 25 (fcs z7.val) _ _ rfl (by kernel_rfl) (by kernel_rfl) Try.underlying25 rfl (by kernel_rfl) _ (by kernel_rfl) (Nat.le_of_ble_eq_true (by kernel_rfl))) ?_
          refine Sy.step (by kernel_rfl) (fv z7.val) (Quiet.load 7 g7 0 4 25 25 (fcs z7.val) _ _ rfl (by kernel_rfl) (by kernel_rfl) Try.underlying25 rfl (by kernel_rfl) _ (by kernel_rfl) (Nat.le_of_ble_eq_true (by kernel_rfl))) ?_
          obtain ⟨z24, hz24⟩ : ∃ z : Fp, z = z7 * z7 := ⟨_, rfl⟩
          refine Sy.step (by kernel_rfl) (fv z24.val) (Quiet.call 40 #[fv z7.val, fv z7.val] (fun _ => by kernel_rfl) (by rw [hz24]; exact mul_c z7 z7)) ?_
          refine Sy.make (by kernel_rfl) 25 (fcs 0) ptr (fun _ => by kernel_rfl) (fun g12 => ?_)
          refine Sy.write (by kernel_rfl) 9 g12 25 (fcs 0) (fcs z24.val) (by kernel_rfl) (Writes.store 0 25 (fcs z24.val) _ _ rfl (by kernel_rfl) (by kernel_rfl) (by kernel_rfl) (Nat.le_of_ble_eq_true (by kernel_rfl)) (by kernel_rfl) (by kernel_rfl)) ?_
          refine Sy.nil ?_
          refine Sy.then_ ?_
          refine Sy.seq ?_
          refine Sy.region ?_
          refine Sy.step (by kernel_rfl) (fv z24.val) (Quiet.load 9 g12 0 4 25 25 (fcs z24.val) _ _ rfl (by kernel_rfl) (by kernel_rfl) Try.underlying25 rfl (by kernel_rfl) _ (by kernel_rfl) (Nat.le_of_ble_eq_true (by kernel_rfl))) ?_
          refine Sy.step (by kernel_rfl) (fv z7.val) (Quiet.load 7 g7 0 4 25 25 (fcs z7.val) _ _ rfl (by kernel_rfl) (by kernel_rfl) Try.underlying25 rfl (by kernel_rfl) _ (by kernel_rfl) (Nat.le_of_ble_eq_true (by kernel_rfl))) ?_
          obtain ⟨z25, hz25⟩ : ∃ z : Fp, z = z24 * z7 := ⟨_, rfl⟩
          refine Sy.step (by kernel_rfl) (fv z25.val) (Quiet.call 40 #[fv z24.val, fv z7.val] (fun _ => by kernel_rfl) (by rw [hz25]; exact mul_c z24 z7)) ?_
          refine Sy.make (by kernel_rfl) 25 (fcs 0) ptr (fun _ => by kernel_rfl) (fun g13 => ?_)
          refine Sy.write (by kernel_rfl) 10 g13 25 (fcs 0) (fcs z25.val) (by kernel_rfl) (Writes.store 0 25 (fcs z25.val) _ _ rfl (by kernel_rfl) (by kernel_rfl) (by kernel_rfl) (Nat.le_of_ble_eq_true (by kernel_rfl)) (by kernel_rfl) (by kernel_rfl)) ?_
          refine Sy.nil ?_
          refine Sy.then_ ?_
          refine Sy.seq ?_
          refine Sy.region ?_
          refine Sy.step (by kernel_rfl) (fv z3.val) (Quiet.load 3 g3 0 4 25 25 (fcs z3.val) _ _ rfl (by kernel_rfl) (by kernel_rfl) Try.underlying25 rfl (by kernel_rfl) _ (by kernel_rfl) (Nat.le_of_ble_eq_true (by kernel_rfl))) ?_
          refine Sy.step (by kernel_rfl) (fv z24.val) (Quiet.load 9 g12 0 4 25 25 (fcs z24.val) _ _ rfl (by kernel_rfl) (by kernel_rfl) Try.underlying25 rfl (by kernel_rfl) _ (by kernel_rfl) (Nat.le_of_ble_eq_true (by kernel_rfl))) ?_
          obtain ⟨z26, hz26⟩ : ∃ z : Fp, z = z3 * z24 := ⟨_, rfl⟩
          refine Sy.step (by kernel_rfl) (fv z26.val) (Quiet.call 40 #[fv z3.val, fv z24.val] (fun _ => by kernel_rfl) (by rw [hz26]; exact mul_c z3 z24)) ?_
          refine Sy.write (by kernel_rfl) 3 g3 25 (fcs z3.val) (fcs z26.val) (by kernel_rfl) (Writes.store 0 25 (fcs z26.val) _ _ rfl (by kernel_rfl) (by kernel_rfl) (by kernel_rfl) (Nat.le_of_ble_eq_true (by kernel_rfl)) (by kernel_rfl) (by kernel_rfl)) ?_
          refine Sy.nil ?_
          refine Sy.then_ ?_
          refine Sy.seq ?_
          refine Sy.region ?_
          refine Sy.make (by kernel_rfl) 73 (tcs 0 0 0) ptr (fun _ => by kernel_rfl) (fun g14 => ?_)
          refine Sy.nil ?_
          refine Sy.then_ ?_
          refine Sy.seq ?_
          refine Sy.regionD (fun j => j == 10) (by kernel_rfl) ?_
          refine Sy.stepD 0 rfl (by kernel_rfl) (fun _ _ _ _ h => h) (by kernel_rfl) (fv z8.val) (Quiet.load 8 g8 0 4 25 25 (fcs z8.val) _ _ rfl (by kernel_rfl) (by kernel_rfl) Try.underlying25 rfl (by kernel_rfl) _ (by kernel_rfl) (Nat.le_of_ble_eq_true (by kernel_rfl))) ?_
          refine Sy.stepD 1 rfl (by kernel_rfl) (fun _ _ _ _ h => h) (by kernel_rfl) (fv z8.val) (Quiet.load 8 g8 0 4 25 25 (fcs z8.val) _ _ rfl (by kernel_rfl) (by kernel_rfl) Try.underlying25 rfl (by kernel_rfl) _ (by kernel_rfl) (Nat.le_of_ble_eq_true (by kernel_rfl))) ?_
          obtain ⟨z27, hz27⟩ : ∃ z : Fp, z = z8 * z8 := ⟨_, rfl⟩
          refine Sy.stepD 2 rfl (by kernel_rfl) (fun _ _ _ _ h => h) (by kernel_rfl) (fv z27.val) (Quiet.call 40 #[fv z8.val, fv z8.val] (fun _ => by kernel_rfl) (by rw [hz27]; exact mul_c z8 z8)) ?_
          refine Sy.stepD 3 rfl (by kernel_rfl) (fun _ _ _ _ h => h) (by kernel_rfl) (fv z25.val) (Quiet.load 10 g13 0 4 25 25 (fcs z25.val) _ _ rfl (by kernel_rfl) (by kernel_rfl) Try.underlying25 rfl (by kernel_rfl) _ (by kernel_rfl) (Nat.le_of_ble_eq_true (by kernel_rfl))) ?_
          obtain ⟨z28, hz28⟩ : ∃ z : Fp, z = z27 - z25 := ⟨_, rfl⟩
          refine Sy.stepD 4 rfl (by kernel_rfl) (fun _ _ _ _ h => h) (by kernel_rfl) (fv z28.val) (Quiet.call 59 #[fv z27.val, fv z25.val] (fun _ => by kernel_rfl) (by rw [hz28]; exact sub_c z27 z25)) ?_
          refine Sy.stepD 5 rfl (by kernel_rfl) (fun _ _ _ _ h => h) (by kernel_rfl) (fv z26.val) (Quiet.load 3 g3 0 4 25 25 (fcs z26.val) _ _ rfl (by kernel_rfl) (by kernel_rfl) Try.underlying25 rfl (by kernel_rfl) _ (by kernel_rfl) (Nat.le_of_ble_eq_true (by kernel_rfl))) ?_
          refine Sy.stepD 6 rfl (by kernel_rfl) (fun _ _ _ _ h => h) (by kernel_rfl) (fv z26.val) (Quiet.load 3 g3 0 4 25 25 (fcs z26.val) _ _ rfl (by kernel_rfl) (by kernel_rfl) Try.underlying25 rfl (by kernel_rfl) _ (by kernel_rfl) (Nat.le_of_ble_eq_true (by kernel_rfl))) ?_
          obtain ⟨z29, hz29⟩ : ∃ z : Fp, z = z26 + z26 := ⟨_, rfl⟩
          refine Sy.stepD 7 rfl (by kernel_rfl) (fun _ _ _ _ h => h) (by kernel_rfl) (fv z29.val) (Quiet.call 76 #[fv z26.val, fv z26.val] (fun _ => by kernel_rfl) (by rw [hz29]; exact add_c z26 z26)) ?_
          obtain ⟨z30, hz30⟩ : ∃ z : Fp, z = z28 - z29 := ⟨_, rfl⟩
          refine Sy.stepD 8 rfl (by kernel_rfl) (fun _ _ _ _ h => h) (by kernel_rfl) (fv z30.val) (Quiet.call 59 #[fv z28.val, fv z29.val] (fun _ => by kernel_rfl) (by rw [hz30]; exact sub_c z28 z29)) ?_
          refine Sy.stepD 9 rfl (by kernel_rfl) (fun _ _ _ _ h => h) (by kernel_rfl) (.pointer (some ⟨g14, 0, none⟩)) (Quiet.pure (fun _ => by kernel_rfl)) ?_
          refine Sy.writeD 10 rfl (by kernel_rfl) (by rfl) (by kernel_rfl) 11 g14 73 (tcs 0 0 0) (tcs z30.val 0 0) (by kernel_rfl) (Writes.store 0 25 (fcs z30.val) _ _ rfl (by kernel_rfl) (by kernel_rfl) (by kernel_rfl) (Nat.le_of_ble_eq_true (by kernel_rfl)) (by kernel_rfl) (by kernel_rfl)) ?_
          refine Sy.doneD (by kernel_rfl) ?_
          refine Sy.then_ ?_
          refine Sy.seq ?_
          refine Sy.regionD (fun j => j == 11) (by kernel_rfl) ?_
          refine Sy.stepD 0 rfl (by kernel_rfl) (fun _ _ _ _ h => h) (by kernel_rfl) (fv z8.val) (Quiet.load 8 g8 0 4 25 25 (fcs z8.val) _ _ rfl (by kernel_rfl) (by kernel_rfl) Try.underlying25 rfl (by kernel_rfl) _ (by kernel_rfl) (Nat.le_of_ble_eq_true (by kernel_rfl))) ?_
          refine Sy.stepD 1 rfl (by kernel_rfl) (fun _ _ _ _ h => h) (by kernel_rfl) (fv z26.val) (Quiet.load 3 g3 0 4 25 25 (fcs z26.val) _ _ rfl (by kernel_rfl) (by kernel_rfl) Try.underlying25 rfl (by kernel_rfl) _ (by kernel_rfl) (Nat.le_of_ble_eq_true (by kernel_rfl))) ?_
          refine Sy.stepD 2 rfl (by kernel_rfl) (fun _ _ _ _ h => h) (by kernel_rfl) (.pointer (some ⟨g14, 0, none⟩)) (Quiet.pure (fun _ => by kernel_rfl)) ?_
          refine Sy.stepD 3 rfl (by kernel_rfl) (fun _ _ _ _ h => h) (by kernel_rfl) (fv z30.val) (Quiet.load 11 g14 0 4 73 25 (tcs z30.val 0 0) _ _ rfl (by kernel_rfl) (by kernel_rfl) Try.underlying25 rfl (by kernel_rfl) _ (by kernel_rfl) (Nat.le_of_ble_eq_true (by kernel_rfl))) ?_
          obtain ⟨z31, hz31⟩ : ∃ z : Fp, z = z26 - z30 := ⟨_, rfl⟩
          refine Sy.stepD 4 rfl (by kernel_rfl) (fun _ _ _ _ h => h) (by kernel_rfl) (fv z31.val) (Quiet.call 59 #[fv z26.val, fv z30.val] (fun _ => by kernel_rfl) (by rw [hz31]; exact sub_c z26 z30)) ?_
          obtain ⟨z32, hz32⟩ : ∃ z : Fp, z = z8 * z31 := ⟨_, rfl⟩
          refine Sy.stepD 5 rfl (by kernel_rfl) (fun _ _ _ _ h => h) (by kernel_rfl) (fv z32.val) (Quiet.call 40 #[fv z8.val, fv z31.val] (fun _ => by kernel_rfl) (by rw [hz32]; exact mul_c z8 z31)) ?_
          refine Sy.stepD 6 rfl (by kernel_rfl) (fun _ _ _ _ h => h) (by kernel_rfl) (fv z4.val) (Quiet.load 4 g4 0 4 25 25 (fcs z4.val) _ _ rfl (by kernel_rfl) (by kernel_rfl) Try.underlying25 rfl (by kernel_rfl) _ (by kernel_rfl) (Nat.le_of_ble_eq_true (by kernel_rfl))) ?_
          refine Sy.stepD 7 rfl (by kernel_rfl) (fun _ _ _ _ h => h) (by kernel_rfl) (fv z25.val) (Quiet.load 10 g13 0 4 25 25 (fcs z25.val) _ _ rfl (by kernel_rfl) (by kernel_rfl) Try.underlying25 rfl (by kernel_rfl) _ (by kernel_rfl) (Nat.le_of_ble_eq_true (by kernel_rfl))) ?_
          obtain ⟨z33, hz33⟩ : ∃ z : Fp, z = z4 * z25 := ⟨_, rfl⟩
          refine Sy.stepD 8 rfl (by kernel_rfl) (fun _ _ _ _ h => h) (by kernel_rfl) (fv z33.val) (Quiet.call 40 #[fv z4.val, fv z25.val] (fun _ => by kernel_rfl) (by rw [hz33]; exact mul_c z4 z25)) ?_
          obtain ⟨z34, hz34⟩ : ∃ z : Fp, z = z32 - z33 := ⟨_, rfl⟩
          refine Sy.stepD 9 rfl (by kernel_rfl) (fun _ _ _ _ h => h) (by kernel_rfl) (fv z34.val) (Quiet.call 59 #[fv z32.val, fv z33.val] (fun _ => by kernel_rfl) (by rw [hz34]; exact sub_c z32 z33)) ?_
          refine Sy.stepD 10 rfl (by kernel_rfl) (fun _ _ _ _ h => h) (by kernel_rfl) (.pointer (some ⟨g14, 4, none⟩)) (Quiet.pure (fun _ => by kernel_rfl)) ?_
          refine Sy.writeD 11 rfl (by kernel_rfl) (by rfl) (by kernel_rfl) 11 g14 73 (tcs z30.val 0 0) (tcs z30.val z34.val 0) (by kernel_rfl) (Writes.store 4 25 (fcs z34.val) _ _ rfl (by kernel_rfl) (by kernel_rfl) (by kernel_rfl) (Nat.le_of_ble_eq_true (by kernel_rfl)) (by kernel_rfl) (by kernel_rfl)) ?_
          refine Sy.doneD (by kernel_rfl) ?_
          refine Sy.then_ ?_
          refine Sy.seq ?_
          refine Sy.regionD (fun j => j == 8) (by kernel_rfl) ?_
          refine Sy.stepD 0 rfl (by kernel_rfl) (fun _ _ _ _ h => h) (by kernel_rfl) (.pointer (some ⟨g0, 8, none⟩)) (Quiet.pure (fun _ => by kernel_rfl)) ?_
          refine Sy.stepD 1 rfl (by kernel_rfl) (fun _ _ _ _ h => h) (by kernel_rfl) (fv a.z.val) (Quiet.load 0 g0 8 4 73 25 (tcs a.x.val a.y.val a.z.val) _ _ rfl (by kernel_rfl) (by kernel_rfl) Try.underlying25 rfl (by kernel_rfl) _ (by kernel_rfl) (Nat.le_of_ble_eq_true (by kernel_rfl))) ?_
          refine Sy.stepD 2 rfl (by kernel_rfl) (fun _ _ _ _ h => h) (by kernel_rfl) (.pointer (some ⟨g1, 8, none⟩)) (Quiet.pure (fun _ => by kernel_rfl)) ?_
          refine Sy.stepD 3 rfl (by kernel_rfl) (fun _ _ _ _ h => h) (by kernel_rfl) (fv b.z.val) (Quiet.load 1 g1 8 4 73 25 (tcs b.x.val b.y.val b.z.val) _ _ rfl (by kernel_rfl) (by kernel_rfl) Try.underlying25 rfl (by kernel_rfl) _ (by kernel_rfl) (Nat.le_of_ble_eq_true (by kernel_rfl))) ?_
          obtain ⟨z35, hz35⟩ : ∃ z : Fp, z = a.z * b.z := ⟨_, rfl⟩
          refine Sy.stepD 4 rfl (by kernel_rfl) (fun _ _ _ _ h => h) (by kernel_rfl) (fv z35.val) (Quiet.call 40 #[fv a.z.val, fv b.z.val] (fun _ => by kernel_rfl) (by rw [hz35]; exact mul_c a.z b.z)) ?_
          refine Sy.stepD 5 rfl (by kernel_rfl) (fun _ _ _ _ h => h) (by kernel_rfl) (fv z7.val) (Quiet.load 7 g7 0 4 25 25 (fcs z7.val) _ _ rfl (by kernel_rfl) (by kernel_rfl) Try.underlying25 rfl (by kernel_rfl) _ (by kernel_rfl) (Nat.le_of_ble_eq_true (by kernel_rfl))) ?_
          obtain ⟨z36, hz36⟩ : ∃ z : Fp, z = z35 * z7 := ⟨_, rfl⟩
          refine Sy.stepD 6 rfl (by kernel_rfl) (fun _ _ _ _ h => h) (by kernel_rfl) (fv z36.val) (Quiet.call 40 #[fv z35.val, fv z7.val] (fun _ => by kernel_rfl) (by rw [hz36]; exact mul_c z35 z7)) ?_
          refine Sy.stepD 7 rfl (by kernel_rfl) (fun _ _ _ _ h => h) (by kernel_rfl) (.pointer (some ⟨g14, 8, none⟩)) (Quiet.pure (fun _ => by kernel_rfl)) ?_
          refine Sy.writeD 8 rfl (by kernel_rfl) (by rfl) (by kernel_rfl) 11 g14 73 (tcs z30.val z34.val 0) (tcs z30.val z34.val z36.val) (by kernel_rfl) (Writes.store 8 25 (fcs z36.val) _ _ rfl (by kernel_rfl) (by kernel_rfl) (by kernel_rfl) (Nat.le_of_ble_eq_true (by kernel_rfl)) (by kernel_rfl) (by kernel_rfl)) ?_
          refine Sy.doneD (by kernel_rfl) ?_
          refine Sy.then_ ?_
          refine Sy.seq ?_
          refine Sy.region ?_
          refine Sy.step (by kernel_rfl) (tv z30.val z34.val z36.val) (Quiet.load 11 g14 0 12 73 73 (tcs z30.val z34.val z36.val) _ _ rfl (by kernel_rfl) (by kernel_rfl) Try.underlying73 rfl (by kernel_rfl) _ (by kernel_rfl) (Nat.le_of_ble_eq_true (by kernel_rfl))) ?_
          refine Sy.write (by kernel_rfl) 2 g2 73 (tcs 0 0 0) (tcs z30.val z34.val z36.val) (by kernel_rfl) (Writes.store 0 73 (tcs z30.val z34.val z36.val) _ _ rfl (by kernel_rfl) (by kernel_rfl) (by kernel_rfl) (Nat.le_of_ble_eq_true (by kernel_rfl)) (by kernel_rfl) (by kernel_rfl)) ?_
          refine Sy.nil ?_
          refine Sy.then_ ?_
          refine Sy.ret ?_
          rw [show (tv (addJ a b).x.val (addJ a b).y.val (addJ a b).z.val : Value) = tv z30.val z34.val z36.val from by
            rw [addJ_4 eb1 eb2 (fun k => eb4 (by rw [hz8, hz4, hz6]; exact k.2))]
            simp only [hz36, hz35, hz34, hz33, hz32, hz31, hz30, hz29, hz28, hz27, hz26, hz25, hz24, hz8, hz7, hz6, hz5, hz4, hz3]
            rfl]
          exact Sy.ret1 (v := tv z30.val z34.val z36.val) rfl (.inl (Res.cell (ty' := 73) g2 2 (tcs z30.val z34.val z36.val) _ (by kernel_rfl) (by kernel_rfl) Try.underlying73 rfl (by kernel_rfl) (by kernel_rfl)))
        · have eb4 : z8 = 0 := (Fin.ext (of_decide_eq_true hb4.symm)).trans hz23
          refine Sy.cond_t (by kernel_rfl) (by kernel_rfl) ?_
          refine Sy.seq ?_
          refine Sy.region ?_
          refine Sy.step (by kernel_rfl) (tv a.x.val a.y.val a.z.val) (Quiet.load 0 g0 0 12 73 73 (tcs a.x.val a.y.val a.z.val) _ _ rfl (by kernel_rfl) (by kernel_rfl) Try.underlying73 rfl (by kernel_rfl) _ (by kernel_rfl) (Nat.le_of_ble_eq_true (by kernel_rfl))) ?_
          refine Sy.step (by kernel_rfl) (tv ((dblJ a).x.val) ((dblJ a).y.val) ((dblJ a).z.val)) (Quiet.call 80 #[tv a.x.val a.y.val a.z.val] (fun _ => by kernel_rfl) (fun w => double_c w a)) ?_
          refine Sy.write (by kernel_rfl) 2 g2 73 (tcs 0 0 0) (tcs ((dblJ a).x.val) ((dblJ a).y.val) ((dblJ a).z.val)) (by kernel_rfl) (Writes.store 0 73 (tcs ((dblJ a).x.val) ((dblJ a).y.val) ((dblJ a).z.val)) _ _ rfl (by kernel_rfl) (by kernel_rfl) (by kernel_rfl) (Nat.le_of_ble_eq_true (by kernel_rfl)) (by kernel_rfl) (by kernel_rfl)) ?_
          refine Sy.nil ?_
          refine Sy.then_ ?_
          refine Sy.ret ?_
          refine Sy.then_ret ?_
          rw [show (tv (addJ a b).x.val (addJ a b).y.val (addJ a b).z.val : Value) = tv ((dblJ a).x.val) ((dblJ a).y.val) ((dblJ a).z.val) from by rw [addJ_3 eb1 eb2 (by rw [← eb3, hz7, hz3, hz5]; rfl) (by rw [← eb4, hz8, hz4, hz6]; rfl)]]
          exact Sy.ret1 (v := tv ((dblJ a).x.val) ((dblJ a).y.val) ((dblJ a).z.val)) rfl (.inl (Res.cell (ty' := 73) g2 2 (tcs ((dblJ a).x.val) ((dblJ a).y.val) ((dblJ a).z.val)) _ (by kernel_rfl) (by kernel_rfl) Try.underlying73 rfl (by kernel_rfl) (by kernel_rfl)))
    · have eb2 : b.z = 0 := (Fin.ext (of_decide_eq_true hb2.symm)).trans hz2
      refine Sy.cond_t (by kernel_rfl) (by kernel_rfl) ?_
      refine Sy.seq ?_
      refine Sy.region ?_
      refine Sy.step (by kernel_rfl) (tv a.x.val a.y.val a.z.val) (Quiet.load 0 g0 0 12 73 73 (tcs a.x.val a.y.val a.z.val) _ _ rfl (by kernel_rfl) (by kernel_rfl) Try.underlying73 rfl (by kernel_rfl) _ (by kernel_rfl) (Nat.le_of_ble_eq_true (by kernel_rfl))) ?_
      refine Sy.write (by kernel_rfl) 2 g2 73 (tcs 0 0 0) (tcs a.x.val a.y.val a.z.val) (by kernel_rfl) (Writes.store 0 73 (tcs a.x.val a.y.val a.z.val) _ _ rfl (by kernel_rfl) (by kernel_rfl) (by kernel_rfl) (Nat.le_of_ble_eq_true (by kernel_rfl)) (by kernel_rfl) (by kernel_rfl)) ?_
      refine Sy.nil ?_
      refine Sy.then_ ?_
      refine Sy.ret ?_
      refine Sy.then_ret ?_
      rw [show (tv (addJ a b).x.val (addJ a b).y.val (addJ a b).z.val : Value) = tv a.x.val a.y.val a.z.val from by rw [addJ_2 eb1 eb2]]
      exact Sy.ret1 (v := tv a.x.val a.y.val a.z.val) rfl (.inl (Res.cell (ty' := 73) g2 2 (tcs a.x.val a.y.val a.z.val) _ (by kernel_rfl) (by kernel_rfl) Try.underlying73 rfl (by kernel_rfl) (by kernel_rfl)))
  · have eb1 : a.z = 0 := (Fin.ext (of_decide_eq_true hb1.symm)).trans hz1
    refine Sy.cond_t (by kernel_rfl) (by kernel_rfl) ?_
    refine Sy.seq ?_
    refine Sy.region ?_
    refine Sy.step (by kernel_rfl) (tv b.x.val b.y.val b.z.val) (Quiet.load 1 g1 0 12 73 73 (tcs b.x.val b.y.val b.z.val) _ _ rfl (by kernel_rfl) (by kernel_rfl) Try.underlying73 rfl (by kernel_rfl) _ (by kernel_rfl) (Nat.le_of_ble_eq_true (by kernel_rfl))) ?_
    refine Sy.write (by kernel_rfl) 2 g2 73 (tcs 0 0 0) (tcs b.x.val b.y.val b.z.val) (by kernel_rfl) (Writes.store 0 73 (tcs b.x.val b.y.val b.z.val) _ _ rfl (by kernel_rfl) (by kernel_rfl) (by kernel_rfl) (Nat.le_of_ble_eq_true (by kernel_rfl)) (by kernel_rfl) (by kernel_rfl)) ?_
    refine Sy.nil ?_
    refine Sy.then_ ?_
    refine Sy.ret ?_
    refine Sy.then_ret ?_
    rw [show (tv (addJ a b).x.val (addJ a b).y.val (addJ a b).z.val : Value) = tv b.x.val b.y.val b.z.val from by rw [addJ_1 eb1]]
    exact Sy.ret1 (v := tv b.x.val b.y.val b.z.val) rfl (.inl (Res.cell (ty' := 73) g2 2 (tcs b.x.val b.y.val b.z.val) _ (by kernel_rfl) (by kernel_rfl) Try.underlying73 rfl (by kernel_rfl) (by kernel_rfl)))
end Go.Proofs.Ytneeefinaejgcaa.Cu

end
section
namespace Go.Proofs.Ytneeefinaejgcaa.Cu
open Go.RowKit Go.Proofs.Ytneeefinaejgcaa Go.Proofs.Ytneeefinaejgcaa.Sy

/-- a point as three numbers -/
def threeJ : Pt → J
  | none => ⟨0, 0, 0⟩
  | some (x, y) => ⟨x, y, 1⟩
theorem threeJ_rep : ∀ P : Pt, Ec.Rep (threeJ P) P
  | none => rfl
  | some (x, y) => by
    refine ⟨(by decide +kernel : (1 : Fp) ≠ 0), ?_, ?_⟩
    · show x = x * (1 * 1)
      grobner
    · show y = y * (1 * 1 * 1)
      grobner
/-- what three numbers stand for -/
def ptJ (a : J) : Pt := if a.z = 0 then none else some (a.x * (finv a.z * finv a.z), a.y * (finv a.z * finv a.z * finv a.z))
theorem ptJ_rep {a : J} {P : Pt} (h : Ec.Rep a P) : ptJ a = P := by
  rcases Ec.rep_point fld h with ⟨h1, h2⟩ | ⟨h1, h2⟩
  · unfold ptJ; rw [if_pos h1, h2]
  · unfold ptJ; rw [if_neg h1, h2]
set_option maxHeartbeats 4000000 in
set_option maxRecDepth 100000 in
theorem three_n (w : World)  : Calls Try.prog 101 #[pv 0 0 true] w (Gets w (tv 0 0 0)) := by
  refine Sy.enter (args := [pv 0 0 true]) Try.func101 rfl (Nat.le_of_ble_eq_true (by kernel_rfl)) ?_
  refine Sy.seq ?_
  refine Sy.region ?_
  refine Sy.make (by kernel_rfl) 27 (pcs 0 0 true) ptr (fun _ => by kernel_rfl) (fun g0 => ?_)
  refine Sy.make (by kernel_rfl) 73 (tcs 0 0 0) ptr (fun _ => by kernel_rfl) (fun g1 => ?_)
  refine Sy.nil ?_
  refine Sy.then_ ?_
  refine Sy.seq ?_
  refine Sy.seq ?_
  refine Sy.regionD (fun j => false) (by kernel_rfl) ?_
  refine Sy.stepD 0 rfl (by kernel_rfl) (fun _ _ _ _ h => h) (by kernel_rfl) (pv 0 0 true) (Quiet.load 0 g0 0 9 27 27 (pcs 0 0 true) _ _ rfl (by kernel_rfl) (by kernel_rfl) Try.underlying27 rfl (by kernel_rfl) _ (by kernel_rfl) (Nat.le_of_ble_eq_true (by kernel_rfl))) ?_
  refine Sy.stepD 1 rfl (by kernel_rfl) (fun _ _ _ _ h => h) (by kernel_rfl) (pv 0 0 true) (Quiet.call 25 #[] (fun _ => by kernel_rfl) (zero_c)) ?_
  refine Sy.stepD 2 rfl (by kernel_rfl) (fun _ _ _ _ h => h) (by kernel_rfl) (.bool true) (Quiet.pure (fun w => eql_pt w _ _ _ _ 0 0 true 0 0 true rfl rfl rfl (by decide) (by decide) (by decide) (by decide))) ?_
  refine Sy.doneD (by kernel_rfl) ?_
  refine Sy.then_ ?_
  refine Sy.cond_t (by kernel_rfl) (by kernel_rfl) ?_
  refine Sy.seq ?_
  refine Sy.region ?_
  refine Sy.step (by kernel_rfl) (tv 0 0 0) (Quiet.pure (fun _ => by kernel_rfl)) ?_
  refine Sy.write (by kernel_rfl) 1 g1 73 (tcs 0 0 0) (tcs 0 0 0) (by kernel_rfl) (Writes.store 0 73 (tcs 0 0 0) _ _ rfl (by kernel_rfl) (by kernel_rfl) (by kernel_rfl) (Nat.le_of_ble_eq_true (by kernel_rfl)) (by kernel_rfl) (by kernel_rfl)) ?_
  refine Sy.nil ?_
  refine Sy.then_ ?_
  refine Sy.ret ?_
  refine Sy.then_ret ?_
  exact Sy.ret1 (v := tv 0 0 0) rfl (.inl (Res.cell (ty' := 73) g1 1 (tcs 0 0 0) _ (by kernel_rfl) (by kernel_rfl) Try.underlying73 rfl (by kernel_rfl) (by kernel_rfl)))
set_option maxHeartbeats 4000000 in
set_option maxRecDepth 100000 in
theorem three_s (w : World) (u v : Fp) : Calls Try.prog 101 #[pv u.val v.val false] w (Gets w (tv u.val v.val (1 : Fp).val)) := by
  refine Sy.enter (args := [pv u.val v.val false]) Try.func101 rfl (Nat.le_of_ble_eq_true (by kernel_rfl)) ?_
  refine Sy.seq ?_
  refine Sy.region ?_
  refine Sy.make (by kernel_rfl) 27 (pcs u.val v.val false) ptr (fun _ => by kernel_rfl) (fun g0 => ?_)
  refine Sy.make (by kernel_rfl) 73 (tcs 0 0 0) ptr (fun _ => by kernel_rfl) (fun g1 => ?_)
  refine Sy.nil ?_
  refine Sy.then_ ?_
  refine Sy.seq ?_
  refine Sy.seq ?_
  refine Sy.regionD (fun j => false) (by kernel_rfl) ?_
  refine Sy.stepD 0 rfl (by kernel_rfl) (fun _ _ _ _ h => h) (by kernel_rfl) (pv u.val v.val false) (Quiet.load 0 g0 0 9 27 27 (pcs u.val v.val false) _ _ rfl (by kernel_rfl) (by kernel_rfl) Try.underlying27 rfl (by kernel_rfl) _ (by kernel_rfl) (Nat.le_of_ble_eq_true (by kernel_rfl))) ?_
  refine Sy.stepD 1 rfl (by kernel_rfl) (fun _ _ _ _ h => h) (by kernel_rfl) (pv 0 0 true) (Quiet.call 25 #[] (fun _ => by kernel_rfl) (zero_c)) ?_
  refine Sy.stepD 2 rfl (by kernel_rfl) (fun _ _ _ _ h => h) (by kernel_rfl) (.bool false) (Quiet.pure (fun w => eql_pt_ne w _ _ _ _ _ _ _ _ _ _ rfl rfl rfl (by first | assumption | exact lt4 _ | decide +kernel) (by first | assumption | exact lt4 _ | decide +kernel) (by first | assumption | exact lt4 _ | decide +kernel) (by first | assumption | exact lt4 _ | decide +kernel) (by decide))) ?_
  refine Sy.doneD (by kernel_rfl) ?_
  refine Sy.then_ ?_
  refine Sy.cond_f (by kernel_rfl) (by kernel_rfl) ?_
  refine Sy.skip ?_
  refine Sy.then_ ?_
  refine Sy.seq ?_
  refine Sy.regionD (fun j => j == 6) (by kernel_rfl) ?_
  refine Sy.stepD 0 rfl (by kernel_rfl) (fun _ _ _ _ h => h) (by kernel_rfl) (.pointer (some ⟨g0, 0, none⟩)) (Quiet.pure (fun _ => by kernel_rfl)) ?_
  refine Sy.stepD 1 rfl (by kernel_rfl) (fun _ _ _ _ h => h) (by kernel_rfl) (fv u.val) (Quiet.load 0 g0 0 4 27 25 (pcs u.val v.val false) _ _ rfl (by kernel_rfl) (by kernel_rfl) Try.underlying25 rfl (by kernel_rfl) _ (by kernel_rfl) (Nat.le_of_ble_eq_true (by kernel_rfl))) ?_
  refine Sy.stepD 2 rfl (by kernel_rfl) (fun _ _ _ _ h => h) (by kernel_rfl) (.pointer (some ⟨g0, 4, none⟩)) (Quiet.pure (fun _ => by kernel_rfl)) ?_
  refine Sy.stepD 3 rfl (by kernel_rfl) (fun _ _ _ _ h => h) (by kernel_rfl) (fv v.val) (Quiet.load 0 g0 4 4 27 25 (pcs u.val v.val false) _ _ rfl (by kernel_rfl) (by kernel_rfl) Try.underlying25 rfl (by kernel_rfl) _ (by kernel_rfl) (Nat.le_of_ble_eq_true (by kernel_rfl))) ?_
  obtain ⟨z1, hz1⟩ : ∃ z : Fp, z = (1 : Fp) := ⟨_, rfl⟩
  refine Sy.stepD 4 rfl (by kernel_rfl) (fun _ _ _ _ h => h) (by kernel_rfl) (fv z1.val) (Quiet.call 77 #[.int .u64 1] (fun _ => by kernel_rfl) (fun w => by rw [hz1]; exact of_c 1 (by decide +kernel) (by decide) w)) ?_
  refine Sy.stepD 5 rfl (by kernel_rfl) (fun _ _ _ _ h => h) (by kernel_rfl) (tv u.val v.val z1.val) (Quiet.pure (fun _ => by kernel_rfl)) ?_
  refine Sy.writeD 6 rfl (by kernel_rfl) (by rfl) (by kernel_rfl) 1 g1 73 (tcs 0 0 0) (tcs u.val v.val z1.val) (by kernel_rfl) (Writes.store 0 73 (tcs u.val v.val z1.val) _ _ rfl (by kernel_rfl) (by kernel_rfl) (by kernel_rfl) (Nat.le_of_ble_eq_true (by kernel_rfl)) (by kernel_rfl) (by kernel_rfl)) ?_
  refine Sy.doneD (by kernel_rfl) ?_
  refine Sy.then_ ?_
  refine Sy.ret ?_
  rw [show (tv u.val v.val (1 : Fp).val : Value) = tv u.val v.val z1.val from by rw [hz1]]
  exact Sy.ret1 (v := tv u.val v.val z1.val) rfl (.inl (Res.cell (ty' := 73) g1 1 (tcs u.val v.val z1.val) _ (by kernel_rfl) (by kernel_rfl) Try.underlying73 rfl (by kernel_rfl) (by kernel_rfl)))
/-- every three -/
theorem three_c (w : World) (P : Pt) : Calls Try.prog 101 #[ptv P] w (Gets w (jv (threeJ P))) := by
  rcases P with _ | ⟨u, v⟩
  · exact three_n w
  · exact three_s w u v
set_option maxHeartbeats 4000000 in
set_option maxRecDepth 100000 in
theorem point_c (w : World) (a : J) : Calls Try.prog 47 #[tv a.x.val a.y.val a.z.val] w (Gets w (ptv (ptJ a))) := by
  refine Sy.enter (args := [tv a.x.val a.y.val a.z.val]) Try.func47 rfl (Nat.le_of_ble_eq_true (by kernel_rfl)) ?_
  refine Sy.seq ?_
  refine Sy.region ?_
  refine Sy.make (by kernel_rfl) 73 (tcs a.x.val a.y.val a.z.val) ptr (fun _ => by kernel_rfl) (fun g0 => ?_)
  refine Sy.make (by kernel_rfl) 27 (pcs 0 0 false) ptr (fun _ => by kernel_rfl) (fun g1 => ?_)
  refine Sy.nil ?_
  refine Sy.then_ ?_
  refine Sy.seq ?_
  refine Sy.seq ?_
  refine Sy.regionD (fun j => false) (by kernel_rfl) ?_
  refine Sy.stepD 0 rfl (by kernel_rfl) (fun _ _ _ _ h => h) (by kernel_rfl) (.pointer (some ⟨g0, 8, none⟩)) (Quiet.pure (fun _ => by kernel_rfl)) ?_
  refine Sy.stepD 1 rfl (by kernel_rfl) (fun _ _ _ _ h => h) (by kernel_rfl) (fv a.z.val) (Quiet.load 0 g0 8 4 73 25 (tcs a.x.val a.y.val a.z.val) _ _ rfl (by kernel_rfl) (by kernel_rfl) Try.underlying25 rfl (by kernel_rfl) _ (by kernel_rfl) (Nat.le_of_ble_eq_true (by kernel_rfl))) ?_
  obtain ⟨z1, hz1⟩ : ∃ z : Fp, z = (0 : Fp) := ⟨_, rfl⟩
  refine Sy.stepD 2 rfl (by kernel_rfl) (fun _ _ _ _ h => h) (by kernel_rfl) (fv z1.val) (Quiet.call 77 #[.int .u64 0] (fun _ => by kernel_rfl) (fun w => by rw [hz1]; exact of_c 0 (by decide +kernel) (by decide) w)) ?_
  obtain ⟨b1, hb1⟩ : ∃ z : Bool, z = decide (a.z.val = z1.val) := ⟨_, rfl⟩
  refine Sy.stepD 3 rfl (by kernel_rfl) (fun _ _ _ _ h => h) (by kernel_rfl) (.bool b1) (Quiet.pure (fun w => by rw [hb1]; exact eql_fe w _ _ _ _ _ _ rfl rfl rfl (by first | assumption | exact lt4 _ | decide +kernel) (by first | assumption | exact lt4 _ | decide +kernel))) ?_
  refine Sy.doneD (by kernel_rfl) ?_
  refine Sy.then_ ?_
  cases b1
  · have eb1 : a.z ≠ 0 := fun e => of_decide_eq_false hb1.symm (by rw [e, hz1])
    refine Sy.cond_f (by kernel_rfl) (by kernel_rfl) ?_
    refine Sy.skip ?_
    refine Sy.then_ ?_
    refine Sy.seq ?_
    refine Sy.region ?_
    refine Sy.step (by kernel_rfl) (.pointer (some ⟨g0, 8, none⟩)) (Quiet.pure (fun _ => by kernel_rfl)) ?_
    refine Sy.step (by kernel_rfl) (fv a.z.val) (Quiet.load 0 g0 8 4 73 25 (tcs a.x.val a.y.val a.z.val) _ _ rfl (by kernel_rfl) (by kernel_rfl) Try.underlying25 rfl (by kernel_rfl) _ (by kernel_rfl) (Nat.le_of_ble_eq_true (by kernel_rfl))) ?_
    obtain ⟨z2, hz2⟩ : ∃ z : Fp, z = finv a.z := ⟨_, rfl⟩
    refine Sy.step (by kernel_rfl) (fv z2.val) (Quiet.call 84 #[fv a.z.val] (fun _ => by kernel_rfl) (by rw [hz2]; exact inv_c a.z)) ?_
    refine Sy.make (by kernel_rfl) 25 (fcs 0) ptr (fun _ => by kernel_rfl) (fun g2 => ?_)
    refine Sy.write (by kernel_rfl) 2 g2 25 (fcs 0) (fcs z2.val) (by kernel_rfl) (Writes.store 0 25 (fcs z2.val) _ _ rfl (by kernel_rfl) (by kernel_rfl) (by kernel_rfl) (Nat.le_of_ble_eq_true (by kernel_rfl)) (by kernel_rfl) (by kernel_rfl)) ?_
    refine Sy.nil ?_
    refine Sy.then_ ?_
    refine Sy.seq ?_
    refine Sy.region ?_
    refine Sy.step (by kernel_rfl) (fv z2.val) (Quiet.load 2 g2 0 4 25 25 (fcs z2.val) _ _ rfl (by kernel_rfl) (by kernel_rfl) Try.underlying25 rfl (by kernel_rfl) _ (by kernel_rfl) (Nat.le_of_ble_eq_true (by kernel_rfl))) ?_
    refine Sy.step (by kernel_rfl) (fv z2.val) (Quiet.load 2 g2 0 4 25 25 (fcs z2.val) _ _ rfl (by kernel_rfl) (by kernel_rfl) Try.underlying25 rfl (by kernel_rfl) _ (by kernel_rfl) (Nat.le_of_ble_eq_true (by kernel_rfl))) ?_
    obtain ⟨z3, hz3⟩ : ∃ z : Fp, z = z2 * z2 := ⟨_, rfl⟩
    refine Sy.step (by kernel_rfl) (fv z3.val) (Quiet.call 40 #[fv z2.val, fv z2.val] (fun _ => by kernel_rfl) (by rw [hz3]; exact mul_c z2 z2)) ?_
    refine Sy.make (by kernel_rfl) 25 (fcs 0) ptr (fun _ => by kernel_rfl) (fun g3 => ?_)
    refine Sy.write (by kernel_rfl) 3 g3 25 (fcs 0) (fcs z3.val) (by kernel_rfl) (Writes.store 0 25 (fcs z3.val) _ _ rfl (by kernel_rfl) (by kernel_rfl) (by kernel_rfl) (Nat.le_of_ble_eq_true (by kernel_rfl)) (by kernel_rfl) (by kernel_rfl)) ?_
    refine Sy.nil ?_
    refine Sy.then_ ?_
    refine Sy.seq ?_
    refine Sy.regionD (fun j => j == 11) (by kernel_rfl) ?_
    refine Sy.stepD 0 rfl (by kernel_rfl) (fun _ _ _ _ h => h) (by kernel_rfl) (.pointer (some ⟨g0, 0, none⟩)) (Quiet.pure (fun _ => by kernel_rfl)) ?_
    refine Sy.stepD 1 rfl (by kernel_rfl) (fun _ _ _ _ h => h) (by kernel_rfl) (fv a.x.val) (Quiet.load 0 g0 0 4 73 25 (tcs a.x.val a.y.val a.z.val) _ _ rfl (by kernel_rfl) (by kernel_rfl) Try.underlying25 rfl (by kernel_rfl) _ (by kernel_rfl) (Nat.le_of_ble_eq_true (by kernel_rfl))) ?_
    refine Sy.stepD 2 rfl (by kernel_rfl) (fun _ _ _ _ h => h) (by kernel_rfl) (fv z3.val) (Quiet.load 3 g3 0 4 25 25 (fcs z3.val) _ _ rfl (by kernel_rfl) (by kernel_rfl) Try.underlying25 rfl (by kernel_rfl) _ (by kernel_rfl) (Nat.le_of_ble_eq_true (by kernel_rfl))) ?_
    obtain ⟨z4, hz4⟩ : ∃ z : Fp, z = a.x * z3 := ⟨_, rfl⟩
    refine Sy.stepD 3 rfl (by kernel_rfl) (fun _ _ _ _ h => h) (by kernel_rfl) (fv z4.val) (Quiet.call 40 #[fv a.x.val, fv z3.val] (fun _ => by kernel_rfl) (by rw [hz4]; exact mul_c a.x z3)) ?_
    refine Sy.stepD 4 rfl (by kernel_rfl) (fun _ _ _ _ h => h) (by kernel_rfl) (.pointer (some ⟨g0, 4, none⟩)) (Quiet.pure (fun _ => by kernel_rfl)) ?_
    refine Sy.stepD 5 rfl (by kernel_rfl) (fun _ _ _ _ h => h) (by kernel_rfl) (fv a.y.val) (Quiet.load 0 g0 4 4 73 25 (tcs a.x.val a.y.val a.z.val) _ _ rfl (by kernel_rfl) (by kernel_rfl) Try.underlying25 rfl (by kernel_rfl) _ (by kernel_rfl) (Nat.le_of_ble_eq_true (by kernel_rfl))) ?_
    refine Sy.stepD 6 rfl (by kernel_rfl) (fun _ _ _ _ h => h) (by kernel_rfl) (fv z3.val) (Quiet.load 3 g3 0 4 25 25 (fcs z3.val) _ _ rfl (by kernel_rfl) (by kernel_rfl) Try.underlying25 rfl (by kernel_rfl) _ (by kernel_rfl) (Nat.le_of_ble_eq_true (by kernel_rfl))) ?_
    refine Sy.stepD 7 rfl (by kernel_rfl) (fun _ _ _ _ h => h) (by kernel_rfl) (fv z2.val) (Quiet.load 2 g2 0 4 25 25 (fcs z2.val) _ _ rfl (by kernel_rfl) (by kernel_rfl) Try.underlying25 rfl (by kernel_rfl) _ (by kernel_rfl) (Nat.le_of_ble_eq_true (by kernel_rfl))) ?_
    obtain ⟨z5, hz5⟩ : ∃ z : Fp, z = z3 * z2 := ⟨_, rfl⟩
    refine Sy.stepD 8 rfl (by kernel_rfl) (fun _ _ _ _ h => h) (by kernel_rfl) (fv z5.val) (Quiet.call 40 #[fv z3.val, fv z2.val] (fun _ => by kernel_rfl) (by rw [hz5]; exact mul_c z3 z2)) ?_
    obtain ⟨z6, hz6⟩ : ∃ z : Fp, z = a.y * z5 := ⟨_, rfl⟩
    refine Sy.stepD 9 rfl (by kernel_rfl) (fun _ _ _ _ h => h) (by kernel_rfl) (fv z6.val) (Quiet.call 40 #[fv a.y.val, fv z5.val] (fun _ => by kernel_rfl) (by rw [hz6]; exact mul_c a.y z5)) ?_
    refine Sy.stepD 10 rfl (by kernel_rfl) (fun _ _ _ _ h => h) (by kernel_rfl) (pv z4.val z6.val false) (Quiet.pure (fun _ => by kernel_rfl)) ?_
    refine Sy.writeD 11 rfl (by kernel_rfl) (by rfl) (by kernel_rfl) 1 g1 27 (pcs 0 0 false) (pcs z4.val z6.val false) (by kernel_rfl) (Writes.store 0 27 (pcs z4.val z6.val false) _ _ rfl (by kernel_rfl) (by kernel_rfl) (by kernel_rfl) (Nat.le_of_ble_eq_true (by kernel_rfl)) (by kernel_rfl) (by kernel_rfl)) ?_
    refine Sy.doneD (by kernel_rfl) ?_
    refine Sy.then_ ?_
    refine Sy.ret ?_
    rw [show (ptv (ptJ a) : Value) = pv z4.val z6.val false from by unfold ptJ; rw [if_neg eb1]; unfold ptv; simp only [hz6, hz5, hz4, hz3, hz2]]
    exact Sy.ret1 (v := pv z4.val z6.val false) rfl (.inl (Res.cell (ty' := 27) g1 1 (pcs z4.val z6.val false) _ (by kernel_rfl) (by kernel_rfl) Try.underlying27 rfl (by kernel_rfl) (by kernel_rfl)))
  · have eb1 : a.z = 0 := (Fin.ext (of_decide_eq_true hb1.symm)).trans hz1
    refine Sy.cond_t (by kernel_rfl) (by kernel_rfl) ?_
    refine Sy.seq ?_
    refine Sy.region ?_
    refine Sy.step (by kernel_rfl) (pv 0 0 true) (Quiet.call 25 #[] (fun _ => by kernel_rfl) (zero_c)) ?_
    refine Sy.write (by kernel_rfl) 1 g1 27 (pcs 0 0 false) (pcs 0 0 true) (by kernel_rfl) (Writes.store 0 27 (pcs 0 0 true) _ _ rfl (by kernel_rfl) (by kernel_rfl) (by kernel_rfl) (Nat.le_of_ble_eq_true (by kernel_rfl)) (by kernel_rfl) (by kernel_rfl)) ?_
    refine Sy.nil ?_
    refine Sy.then_ ?_
    refine Sy.ret ?_
    refine Sy.then_ret ?_
    rw [show (ptv (ptJ a) : Value) = pv 0 0 true from by unfold ptJ; rw [if_pos eb1]; rfl]
    exact Sy.ret1 (v := pv 0 0 true) rfl (.inl (Res.cell (ty' := 27) g1 1 (pcs 0 0 true) _ (by kernel_rfl) (by kernel_rfl) Try.underlying27 rfl (by kernel_rfl) (by kernel_rfl)))
end Go.Proofs.Ytneeefinaejgcaa.Cu

end
section
namespace Go.Proofs.Ytneeefinaejgcaa
open Go.RowKit Go.Lib

set_option maxHeartbeats 8000000 in
set_option maxRecDepth 100000 in
theorem below_at {v1 v2 : Value} (w : World) (x y : Nat) (h1 : fv x = v1) (h2 : fv y = v2) (hx : x < 115792089237316195423570985008687907853269984665640564039457584007913129639936) (hy : y < 115792089237316195423570985008687907853269984665640564039457584007913129639936) : Calls Try.prog 62 #[v1, v2] w fun e w' => e = .returned (.bool (decide (x < y))) ∧ Below w.heap.size w w' := by
  subst h1 h2
  obtain ⟨x0, x1, x2, x3, a0, a1, a2, a3, ex, fx⟩ := words_of x hx
  obtain ⟨y0, y1, y2, y3, b0, b1, b2, b3, ey, fy⟩ := words_of y hy
  obtain ⟨r, hr⟩ : ∃ r, r = decide (x < y) := ⟨_, rfl⟩
  have t3 : x3 ≠ y3 → r = decide ((x3 : Int) < (y3 : Int)) := fun h => by rw [hr]; congr 1; simp only [eq_iff_iff]; omega
  have t2 : x3 = y3 → x2 ≠ y2 → r = decide ((x2 : Int) < (y2 : Int)) := fun _ h => by rw [hr]; congr 1; simp only [eq_iff_iff]; omega
  have t1 : x3 = y3 → x2 = y2 → x1 ≠ y1 → r = decide ((x1 : Int) < (y1 : Int)) := fun _ _ h => by rw [hr]; congr 1; simp only [eq_iff_iff]; omega
  have t0 : x3 = y3 → x2 = y2 → x1 = y1 → x0 ≠ y0 → r = decide ((x0 : Int) < (y0 : Int)) := fun _ _ _ h => by rw [hr]; congr 1; simp only [eq_iff_iff]; omega
  have te : x3 = y3 → x2 = y2 → x1 = y1 → x0 = y0 → r = false := fun _ _ _ _ => by rw [hr]; simp only [decide_eq_false_iff_not]; omega
  have HT := Lib.hid (And.intro t3 (And.intro t2 (And.intro t1 (And.intro t0 te))))
  rw [fx, fy, ← hr]
  clear fx fy ex ey hx hy a0 a1 a2 a3 b0 b1 b2 b3 hr t3 t2 t1 t0 te
  go_enter Try.func62, Try.ntmps62
  go_wp2_with fail
  go_loopw [5] (fun i wr => Below w.heap.size w wr ∧ Blk wr w.heap.size 56 #[.int .u64 (x0 : Int), .int .u64 (x1 : Int), .int .u64 (x2 : Int), .int .u64 (x3 : Int)] ∧ Blk wr (w.heap.size + 1) 56 #[.int .u64 (y0 : Int), .int .u64 (y1 : Int), .int .u64 (y2 : Int), .int .u64 (y3 : Int)] ∧ Hid ((i = .int .i64 3) ∨ (i = .int .i64 2 ∧ x3 = y3) ∨ (i = .int .i64 1 ∧ x3 = y3 ∧ x2 = y2) ∨ (i = .int .i64 0 ∧ x3 = y3 ∧ x2 = y2 ∧ x1 = y1) ∨ (i = .int .i64 (-1) ∧ x3 = y3 ∧ x2 = y2 ∧ x1 = y1 ∧ x0 = y0))) (fun i _ => (intOf i + 1).toNat)
  case atStart => exact ⟨below_alloc2 w _ _, (Blk.new w _ _).alloc _, blk_new2 w _ _ _, Lib.hid (.inl rfl)⟩
  case round =>
    obtain ⟨hb, BX, BY, HI⟩ := hrel
    have lX := BX.lt
    have lY := BY.lt
    have qx0 : wr.cell? ⟨w.heap.size, 0, none⟩ = some (.int .u64 (x0 : Int)) := BX.cell 0
    have qy0 : wr.cell? ⟨w.heap.size + 1, 0, none⟩ = some (.int .u64 (y0 : Int)) := BY.cell 0
    have qx1 : wr.cell? ⟨w.heap.size, 1, none⟩ = some (.int .u64 (x1 : Int)) := BX.cell 1
    have qy1 : wr.cell? ⟨w.heap.size + 1, 1, none⟩ = some (.int .u64 (y1 : Int)) := BY.cell 1
    have qx2 : wr.cell? ⟨w.heap.size, 2, none⟩ = some (.int .u64 (x2 : Int)) := BX.cell 2
    have qy2 : wr.cell? ⟨w.heap.size + 1, 2, none⟩ = some (.int .u64 (y2 : Int)) := BY.cell 2
    have qx3 : wr.cell? ⟨w.heap.size, 3, none⟩ = some (.int .u64 (x3 : Int)) := BX.cell 3
    have qy3 : wr.cell? ⟨w.heap.size + 1, 3, none⟩ = some (.int .u64 (y3 : Int)) := BY.cell 3
    rcases HI.out with rfl | ⟨rfl, E⟩ | ⟨rfl, E⟩ | ⟨rfl, E⟩ | ⟨rfl, E⟩
    · have hk : Hid (True) := Lib.hid trivial
      clear HI
      obtain ⟨b, hbd⟩ : ∃ b, b = decide (x3 ≠ y3) := ⟨_, rfl⟩
      have hbb : (!((x3 : Int) == (y3 : Int))) = b := by
        rw [hbd]
        by_cases h : x3 = y3 <;> simp [h] <;> omega
      have HB := Lib.hid hbd
      clear hbd
      go_wp2
      refine wp_region_G (fun _ => false) (by kernel_rfl) ?_
      try simp only [Act.put]
      refine wpAnyG_take 0 rfl (by kernel_rfl) (fun _ _ _ h => h) (YieldsG.pure (by rfl) (fun w9 _ => by go_simp; try with_reducible rfl)) ?_
      try simp only [Act.put, List.setIfInBounds_toArray, List.set_cons_zero, List.set_cons_succ]
      refine wpAnyG_take 1 rfl (by kernel_rfl) (fun _ _ _ h => h) (YieldsG.pure (by rfl) (fun w9 _ => by go_simp; try with_reducible rfl)) ?_
      try simp only [Act.put, List.setIfInBounds_toArray, List.set_cons_zero, List.set_cons_succ]
      refine wpAnyG_take 2 rfl (by kernel_rfl) (fun _ _ _ h => h) (YieldsG.pure (v := .int .u64 (x3 : Int)) (by rfl) (fun w9 h9 => by have hz := (Below.cell (p := ⟨w.heap.size, 3, none⟩) h9 lX).trans qx3; go_simp; first | done | simp [hz])) ?_
      try simp only [Act.put, List.setIfInBounds_toArray, List.set_cons_zero, List.set_cons_succ]
      refine wpAnyG_take 3 rfl (by kernel_rfl) (fun _ _ _ h => h) (YieldsG.pure (by rfl) (fun w9 _ => by go_simp; try with_reducible rfl)) ?_
      try simp only [Act.put, List.setIfInBounds_toArray, List.set_cons_zero, List.set_cons_succ]
      refine wpAnyG_take 4 rfl (by kernel_rfl) (fun _ _ _ h => h) (YieldsG.pure (by rfl) (fun w9 _ => by go_simp; try with_reducible rfl)) ?_
      try simp only [Act.put, List.setIfInBounds_toArray, List.set_cons_zero, List.set_cons_succ]
      refine wpAnyG_take 5 rfl (by kernel_rfl) (fun _ _ _ h => h) (YieldsG.pure (v := .int .u64 (y3 : Int)) (by rfl) (fun w9 h9 => by have hz := (Below.cell (p := ⟨w.heap.size + 1, 3, none⟩) h9 lY).trans qy3; go_simp; first | done | simp [hz])) ?_
      try simp only [Act.put, List.setIfInBounds_toArray, List.set_cons_zero, List.set_cons_succ]
      refine wpAnyG_take 6 rfl (by kernel_rfl) (fun _ _ _ h => h) (YieldsG.pure (v := .bool b) (by rfl) (fun w9 h9 => by go_simp; congr 3; all_goals (rw [HB.out]; all_goals (by_cases h : x3 = y3 <;> simp [h] <;> omega)))) ?_
      try simp only [Act.put, List.setIfInBounds_toArray, List.set_cons_zero, List.set_cons_succ]
      refine wpAnyG_done (by kernel_rfl) (fun u hu => ?_)
      have hbu := Below.gr hb hu
      have BXu := Gr.blk hu BX
      have BYu := Gr.blk hu BY
      cases b
      · have hxy : x3 = y3 := by
          have := HB.out
          simpa using this
        have HXY := Lib.hid hxy
        clear hxy
        go_wp2
        exact ⟨⟨hbu, BXu, BYu, Lib.hid (.inr (.inl ⟨rfl, HXY.out⟩))⟩, by decide⟩
      · have hxy : x3 ≠ y3 := by
          have := HB.out
          simpa using this
        have hr2 := Lib.hid (HT.out.1 hxy)
        have lXu := BXu.lt
        have lYu := BYu.lt
        have px : u.cell? ⟨w.heap.size, 3, none⟩ = some (.int .u64 (x3 : Int)) := BXu.cell 3
        have py : u.cell? ⟨w.heap.size + 1, 3, none⟩ = some (.int .u64 (y3 : Int)) := BYu.cell 3
        clear hxy hk HT
        go_wp2
        refine wp_region_G (fun _ => false) (by kernel_rfl) ?_
        try simp only [Act.put]
        refine wpAnyG_take 0 rfl (by kernel_rfl) (fun _ _ _ h => h) (YieldsG.pure (by rfl) (fun w9 _ => by go_simp; try with_reducible rfl)) ?_
        try simp only [Act.put, List.setIfInBounds_toArray, List.set_cons_zero, List.set_cons_succ]
        refine wpAnyG_take 1 rfl (by kernel_rfl) (fun _ _ _ h => h) (YieldsG.pure (by rfl) (fun w9 _ => by go_simp; try with_reducible rfl)) ?_
        try simp only [Act.put, List.setIfInBounds_toArray, List.set_cons_zero, List.set_cons_succ]
        refine wpAnyG_take 2 rfl (by kernel_rfl) (fun _ _ _ h => h) (YieldsG.pure (v := .int .u64 (x3 : Int)) (by rfl) (fun w9 h9 => by have hz := (Below.cell (p := ⟨w.heap.size, 3, none⟩) h9 lXu).trans px; go_simp; first | done | simp [hz])) ?_
        try simp only [Act.put, List.setIfInBounds_toArray, List.set_cons_zero, List.set_cons_succ]
        refine wpAnyG_take 3 rfl (by kernel_rfl) (fun _ _ _ h => h) (YieldsG.pure (by rfl) (fun w9 _ => by go_simp; try with_reducible rfl)) ?_
        try simp only [Act.put, List.setIfInBounds_toArray, List.set_cons_zero, List.set_cons_succ]
        refine wpAnyG_take 4 rfl (by kernel_rfl) (fun _ _ _ h => h) (YieldsG.pure (by rfl) (fun w9 _ => by go_simp; try with_reducible rfl)) ?_
        try simp only [Act.put, List.setIfInBounds_toArray, List.set_cons_zero, List.set_cons_succ]
        refine wpAnyG_take 5 rfl (by kernel_rfl) (fun _ _ _ h => h) (YieldsG.pure (v := .int .u64 (y3 : Int)) (by rfl) (fun w9 h9 => by have hz := (Below.cell (p := ⟨w.heap.size + 1, 3, none⟩) h9 lYu).trans py; go_simp; first | done | simp [hz])) ?_
        try simp only [Act.put, List.setIfInBounds_toArray, List.set_cons_zero, List.set_cons_succ]
        refine wpAnyG_take 6 rfl (by kernel_rfl) (fun _ _ _ h => h) (YieldsG.pure (v := .bool r) (by rfl) (fun w9 h9 => by go_simp; congr 3; rw [hr2.out]; all_goals (apply decide_eq_decide.2; omega))) ?_
        try simp only [Act.put, List.setIfInBounds_toArray, List.set_cons_zero, List.set_cons_succ]
        refine wpAnyG_take 7 rfl (by kernel_rfl) (fun _ _ _ h => h) (YieldsG.pure (by rfl) (fun w9 _ => by go_simp; try with_reducible rfl)) ?_
        try simp only [Act.put, List.setIfInBounds_toArray, List.set_cons_zero, List.set_cons_succ]
        refine wpAnyG_done (by kernel_rfl) (fun u2 hu2 => ?_)
        go_wp2
        go_ret
        exact ⟨rfl, Below.gr hbu hu2⟩
    · have hk : Hid (x3 = y3) := Lib.hid E
      clear HI E
      obtain ⟨b, hbd⟩ : ∃ b, b = decide (x2 ≠ y2) := ⟨_, rfl⟩
      have hbb : (!((x2 : Int) == (y2 : Int))) = b := by
        rw [hbd]
        by_cases h : x2 = y2 <;> simp [h] <;> omega
      have HB := Lib.hid hbd
      clear hbd
      go_wp2
      refine wp_region_G (fun _ => false) (by kernel_rfl) ?_
      try simp only [Act.put]
      refine wpAnyG_take 0 rfl (by kernel_rfl) (fun _ _ _ h => h) (YieldsG.pure (by rfl) (fun w9 _ => by go_simp; try with_reducible rfl)) ?_
      try simp only [Act.put, List.setIfInBounds_toArray, List.set_cons_zero, List.set_cons_succ]
      refine wpAnyG_take 1 rfl (by kernel_rfl) (fun _ _ _ h => h) (YieldsG.pure (by rfl) (fun w9 _ => by go_simp; try with_reducible rfl)) ?_
      try simp only [Act.put, List.setIfInBounds_toArray, List.set_cons_zero, List.set_cons_succ]
      refine wpAnyG_take 2 rfl (by kernel_rfl) (fun _ _ _ h => h) (YieldsG.pure (v := .int .u64 (x2 : Int)) (by rfl) (fun w9 h9 => by have hz := (Below.cell (p := ⟨w.heap.size, 2, none⟩) h9 lX).trans qx2; go_simp; first | done | simp [hz])) ?_
      try simp only [Act.put, List.setIfInBounds_toArray, List.set_cons_zero, List.set_cons_succ]
      refine wpAnyG_take 3 rfl (by kernel_rfl) (fun _ _ _ h => h) (YieldsG.pure (by rfl) (fun w9 _ => by go_simp; try with_reducible rfl)) ?_
      try simp only [Act.put, List.setIfInBounds_toArray, List.set_cons_zero, List.set_cons_succ]
      refine wpAnyG_take 4 rfl (by kernel_rfl) (fun _ _ _ h => h) (YieldsG.pure (by rfl) (fun w9 _ => by go_simp; try with_reducible rfl)) ?_
      try simp only [Act.put, List.setIfInBounds_toArray, List.set_cons_zero, List.set_cons_succ]
      refine wpAnyG_take 5 rfl (by kernel_rfl) (fun _ _ _ h => h) (YieldsG.pure (v := .int .u64 (y2 : Int)) (by rfl) (fun w9 h9 => by have hz := (Below.cell (p := ⟨w.heap.size + 1, 2, none⟩) h9 lY).trans qy2; go_simp; first | done | simp [hz])) ?_
      try simp only [Act.put, List.setIfInBounds_toArray, List.set_cons_zero, List.set_cons_succ]
      refine wpAnyG_take 6 rfl (by kernel_rfl) (fun _ _ _ h => h) (YieldsG.pure (v := .bool b) (by rfl) (fun w9 h9 => by go_simp; congr 3; all_goals (rw [HB.out]; all_goals (by_cases h : x2 = y2 <;> simp [h] <;> omega)))) ?_
      try simp only [Act.put, List.setIfInBounds_toArray, List.set_cons_zero, List.set_cons_succ]
      refine wpAnyG_done (by kernel_rfl) (fun u hu => ?_)
      have hbu := Below.gr hb hu
      have BXu := Gr.blk hu BX
      have BYu := Gr.blk hu BY
      cases b
      · have hxy : x2 = y2 := by
          have := HB.out
          simpa using this
        have HXY := Lib.hid hxy
        clear hxy
        go_wp2
        exact ⟨⟨hbu, BXu, BYu, Lib.hid (.inr (.inr (.inl ⟨rfl, hk.out, HXY.out⟩)))⟩, by decide⟩
      · have hxy : x2 ≠ y2 := by
          have := HB.out
          simpa using this
        have hr2 := Lib.hid (HT.out.2.1 hk.out hxy)
        have lXu := BXu.lt
        have lYu := BYu.lt
        have px : u.cell? ⟨w.heap.size, 2, none⟩ = some (.int .u64 (x2 : Int)) := BXu.cell 2
        have py : u.cell? ⟨w.heap.size + 1, 2, none⟩ = some (.int .u64 (y2 : Int)) := BYu.cell 2
        clear hxy hk HT
        go_wp2
        refine wp_region_G (fun _ => false) (by kernel_rfl) ?_
        try simp only [Act.put]
        refine wpAnyG_take 0 rfl (by kernel_rfl) (fun _ _ _ h => h) (YieldsG.pure (by rfl) (fun w9 _ => by go_simp; try with_reducible rfl)) ?_
        try simp only [Act.put, List.setIfInBounds_toArray, List.set_cons_zero, List.set_cons_succ]
        refine wpAnyG_take 1 rfl (by kernel_rfl) (fun _ _ _ h => h) (YieldsG.pure (by rfl) (fun w9 _ => by go_simp; try with_reducible rfl)) ?_
        try simp only [Act.put, List.setIfInBounds_toArray, List.set_cons_zero, List.set_cons_succ]
        refine wpAnyG_take 2 rfl (by kernel_rfl) (fun _ _ _ h => h) (YieldsG.pure (v := .int .u64 (x2 : Int)) (by rfl) (fun w9 h9 => by have hz := (Below.cell (p := ⟨w.heap.size, 2, none⟩) h9 lXu).trans px; go_simp; first | done | simp [hz])) ?_
        try simp only [Act.put, List.setIfInBounds_toArray, List.set_cons_zero, List.set_cons_succ]
        refine wpAnyG_take 3 rfl (by kernel_rfl) (fun _ _ _ h => h) (YieldsG.pure (by rfl) (fun w9 _ => by go_simp; try with_reducible rfl)) ?_
        try simp only [Act.put, List.setIfInBounds_toArray, List.set_cons_zero, List.set_cons_succ]
        refine wpAnyG_take 4 rfl (by kernel_rfl) (fun _ _ _ h => h) (YieldsG.pure (by rfl) (fun w9 _ => by go_simp; try with_reducible rfl)) ?_
        try simp only [Act.put, List.setIfInBounds_toArray, List.set_cons_zero, List.set_cons_succ]
        refine wpAnyG_take 5 rfl (by kernel_rfl) (fun _ _ _ h => h) (YieldsG.pure (v := .int .u64 (y2 : Int)) (by rfl) (fun w9 h9 => by have hz := (Below.cell (p := ⟨w.heap.size + 1, 2, none⟩) h9 lYu).trans py; go_simp; first | done | simp [hz])) ?_
        try simp only [Act.put, List.setIfInBounds_toArray, List.set_cons_zero, List.set_cons_succ]
        refine wpAnyG_take 6 rfl (by kernel_rfl) (fun _ _ _ h => h) (YieldsG.pure (v := .bool r) (by rfl) (fun w9 h9 => by go_simp; congr 3; rw [hr2.out]; all_goals (apply decide_eq_decide.2; omega))) ?_
        try simp only [Act.put, List.setIfInBounds_toArray, List.set_cons_zero, List.set_cons_succ]
        refine wpAnyG_take 7 rfl (by kernel_rfl) (fun _ _ _ h => h) (YieldsG.pure (by rfl) (fun w9 _ => by go_simp; try with_reducible rfl)) ?_
        try simp only [Act.put, List.setIfInBounds_toArray, List.set_cons_zero, List.set_cons_succ]
        refine wpAnyG_done (by kernel_rfl) (fun u2 hu2 => ?_)
        go_wp2
        go_ret
        exact ⟨rfl, Below.gr hbu hu2⟩
    · have hk : Hid (x3 = y3 ∧ x2 = y2) := Lib.hid E
      clear HI E
      obtain ⟨b, hbd⟩ : ∃ b, b = decide (x1 ≠ y1) := ⟨_, rfl⟩
      have hbb : (!((x1 : Int) == (y1 : Int))) = b := by
        rw [hbd]
        by_cases h : x1 = y1 <;> simp [h] <;> omega
      have HB := Lib.hid hbd
      clear hbd
      go_wp2
      refine wp_region_G (fun _ => false) (by kernel_rfl) ?_
      try simp only [Act.put]
      refine wpAnyG_take 0 rfl (by kernel_rfl) (fun _ _ _ h => h) (YieldsG.pure (by rfl) (fun w9 _ => by go_simp; try with_reducible rfl)) ?_
      try simp only [Act.put, List.setIfInBounds_toArray, List.set_cons_zero, List.set_cons_succ]
      refine wpAnyG_take 1 rfl (by kernel_rfl) (fun _ _ _ h => h) (YieldsG.pure (by rfl) (fun w9 _ => by go_simp; try with_reducible rfl)) ?_
      try simp only [Act.put, List.setIfInBounds_toArray, List.set_cons_zero, List.set_cons_succ]
      refine wpAnyG_take 2 rfl (by kernel_rfl) (fun _ _ _ h => h) (YieldsG.pure (v := .int .u64 (x1 : Int)) (by rfl) (fun w9 h9 => by have hz := (Below.cell (p := ⟨w.heap.size, 1, none⟩) h9 lX).trans qx1; go_simp; first | done | simp [hz])) ?_
      try simp only [Act.put, List.setIfInBounds_toArray, List.set_cons_zero, List.set_cons_succ]
      refine wpAnyG_take 3 rfl (by kernel_rfl) (fun _ _ _ h => h) (YieldsG.pure (by rfl) (fun w9 _ => by go_simp; try with_reducible rfl)) ?_
      try simp only [Act.put, List.setIfInBounds_toArray, List.set_cons_zero, List.set_cons_succ]
      refine wpAnyG_take 4 rfl (by kernel_rfl) (fun _ _ _ h => h) (YieldsG.pure (by rfl) (fun w9 _ => by go_simp; try with_reducible rfl)) ?_
      try simp only [Act.put, List.setIfInBounds_toArray, List.set_cons_zero, List.set_cons_succ]
      refine wpAnyG_take 5 rfl (by kernel_rfl) (fun _ _ _ h => h) (YieldsG.pure (v := .int .u64 (y1 : Int)) (by rfl) (fun w9 h9 => by have hz := (Below.cell (p := ⟨w.heap.size + 1, 1, none⟩) h9 lY).trans qy1; go_simp; first | done | simp [hz])) ?_
      try simp only [Act.put, List.setIfInBounds_toArray, List.set_cons_zero, List.set_cons_succ]
      refine wpAnyG_take 6 rfl (by kernel_rfl) (fun _ _ _ h => h) (YieldsG.pure (v := .bool b) (by rfl) (fun w9 h9 => by go_simp; congr 3; all_goals (rw [HB.out]; all_goals (by_cases h : x1 = y1 <;> simp [h] <;> omega)))) ?_
      try simp only [Act.put, List.setIfInBounds_toArray, List.set_cons_zero, List.set_cons_succ]
      refine wpAnyG_done (by kernel_rfl) (fun u hu => ?_)
      have hbu := Below.gr hb hu
      have BXu := Gr.blk hu BX
      have BYu := Gr.blk hu BY
      cases b
      · have hxy : x1 = y1 := by
          have := HB.out
          simpa using this
        have HXY := Lib.hid hxy
        clear hxy
        go_wp2
        exact ⟨⟨hbu, BXu, BYu, Lib.hid (.inr (.inr (.inr (.inl ⟨rfl, hk.out.1, hk.out.2, HXY.out⟩))))⟩, by decide⟩
      · have hxy : x1 ≠ y1 := by
          have := HB.out
          simpa using this
        have hr2 := Lib.hid (HT.out.2.2.1 hk.out.1 hk.out.2 hxy)
        have lXu := BXu.lt
        have lYu := BYu.lt
        have px : u.cell? ⟨w.heap.size, 1, none⟩ = some (.int .u64 (x1 : Int)) := BXu.cell 1
        have py : u.cell? ⟨w.heap.size + 1, 1, none⟩ = some (.int .u64 (y1 : Int)) := BYu.cell 1
        clear hxy hk HT
        go_wp2
        refine wp_region_G (fun _ => false) (by kernel_rfl) ?_
        try simp only [Act.put]
        refine wpAnyG_take 0 rfl (by kernel_rfl) (fun _ _ _ h => h) (YieldsG.pure (by rfl) (fun w9 _ => by go_simp; try with_reducible rfl)) ?_
        try simp only [Act.put, List.setIfInBounds_toArray, List.set_cons_zero, List.set_cons_succ]
        refine wpAnyG_take 1 rfl (by kernel_rfl) (fun _ _ _ h => h) (YieldsG.pure (by rfl) (fun w9 _ => by go_simp; try with_reducible rfl)) ?_
        try simp only [Act.put, List.setIfInBounds_toArray, List.set_cons_zero, List.set_cons_succ]
        refine wpAnyG_take 2 rfl (by kernel_rfl) (fun _ _ _ h => h) (YieldsG.pure (v := .int .u64 (x1 : Int)) (by rfl) (fun w9 h9 => by have hz := (Below.cell (p := ⟨w.heap.size, 1, none⟩) h9 lXu).trans px; go_simp; first | done | simp [hz])) ?_
        try simp only [Act.put, List.setIfInBounds_toArray, List.set_cons_zero, List.set_cons_succ]
        refine wpAnyG_take 3 rfl (by kernel_rfl) (fun _ _ _ h => h) (YieldsG.pure (by rfl) (fun w9 _ => by go_simp; try with_reducible rfl)) ?_
        try simp only [Act.put, List.setIfInBounds_toArray, List.set_cons_zero, List.set_cons_succ]
        refine wpAnyG_take 4 rfl (by kernel_rfl) (fun _ _ _ h => h) (YieldsG.pure (by rfl) (fun w9 _ => by go_simp; try with_reducible rfl)) ?_
        try simp only [Act.put, List.setIfInBounds_toArray, List.set_cons_zero, List.set_cons_succ]
        refine wpAnyG_take 5 rfl (by kernel_rfl) (fun _ _ _ h => h) (YieldsG.pure (v := .int .u64 (y1 : Int)) (by rfl) (fun w9 h9 => by have hz := (Below.cell (p := ⟨w.heap.size + 1, 1, none⟩) h9 lYu).trans py; go_simp; first | done | simp [hz])) ?_
        try simp only [Act.put, List.setIfInBounds_toArray, List.set_cons_zero, List.set_cons_succ]
        refine wpAnyG_take 6 rfl (by kernel_rfl) (fun _ _ _ h => h) (YieldsG.pure (v := .bool r) (by rfl) (fun w9 h9 => by go_simp; congr 3; rw [hr2.out]; all_goals (apply decide_eq_decide.2; omega))) ?_
        try simp only [Act.put, List.setIfInBounds_toArray, List.set_cons_zero, List.set_cons_succ]
        refine wpAnyG_take 7 rfl (by kernel_rfl) (fun _ _ _ h => h) (YieldsG.pure (by rfl) (fun w9 _ => by go_simp; try with_reducible rfl)) ?_
        try simp only [Act.put, List.setIfInBounds_toArray, List.set_cons_zero, List.set_cons_succ]
        refine wpAnyG_done (by kernel_rfl) (fun u2 hu2 => ?_)
        go_wp2
        go_ret
        exact ⟨rfl, Below.gr hbu hu2⟩
    · have hk : Hid (x3 = y3 ∧ x2 = y2 ∧ x1 = y1) := Lib.hid E
      clear HI E
      obtain ⟨b, hbd⟩ : ∃ b, b = decide (x0 ≠ y0) := ⟨_, rfl⟩
      have hbb : (!((x0 : Int) == (y0 : Int))) = b := by
        rw [hbd]
        by_cases h : x0 = y0 <;> simp [h] <;> omega
      have HB := Lib.hid hbd
      clear hbd
      go_wp2
      refine wp_region_G (fun _ => false) (by kernel_rfl) ?_
      try simp only [Act.put]
      refine wpAnyG_take 0 rfl (by kernel_rfl) (fun _ _ _ h => h) (YieldsG.pure (by rfl) (fun w9 _ => by go_simp; try with_reducible rfl)) ?_
      try simp only [Act.put, List.setIfInBounds_toArray, List.set_cons_zero, List.set_cons_succ]
      refine wpAnyG_take 1 rfl (by kernel_rfl) (fun _ _ _ h => h) (YieldsG.pure (by rfl) (fun w9 _ => by go_simp; try with_reducible rfl)) ?_
      try simp only [Act.put, List.setIfInBounds_toArray, List.set_cons_zero, List.set_cons_succ]
      refine wpAnyG_take 2 rfl (by kernel_rfl) (fun _ _ _ h => h) (YieldsG.pure (v := .int .u64 (x0 : Int)) (by rfl) (fun w9 h9 => by have hz := (Below.cell (p := ⟨w.heap.size, 0, none⟩) h9 lX).trans qx0; go_simp; first | done | simp [hz])) ?_
      try simp only [Act.put, List.setIfInBounds_toArray, List.set_cons_zero, List.set_cons_succ]
      refine wpAnyG_take 3 rfl (by kernel_rfl) (fun _ _ _ h => h) (YieldsG.pure (by rfl) (fun w9 _ => by go_simp; try with_reducible rfl)) ?_
      try simp only [Act.put, List.setIfInBounds_toArray, List.set_cons_zero, List.set_cons_succ]
      refine wpAnyG_take 4 rfl (by kernel_rfl) (fun _ _ _ h => h) (YieldsG.pure (by rfl) (fun w9 _ => by go_simp; try with_reducible rfl)) ?_
      try simp only [Act.put, List.setIfInBounds_toArray, List.set_cons_zero, List.set_cons_succ]
      refine wpAnyG_take 5 rfl (by kernel_rfl) (fun _ _ _ h => h) (YieldsG.pure (v := .int .u64 (y0 : Int)) (by rfl) (fun w9 h9 => by have hz := (Below.cell (p := ⟨w.heap.size + 1, 0, none⟩) h9 lY).trans qy0; go_simp; first | done | simp [hz])) ?_
      try simp only [Act.put, List.setIfInBounds_toArray, List.set_cons_zero, List.set_cons_succ]
      refine wpAnyG_take 6 rfl (by kernel_rfl) (fun _ _ _ h => h) (YieldsG.pure (v := .bool b) (by rfl) (fun w9 h9 => by go_simp; congr 3; all_goals (rw [HB.out]; all_goals (by_cases h : x0 = y0 <;> simp [h] <;> omega)))) ?_
      try simp only [Act.put, List.setIfInBounds_toArray, List.set_cons_zero, List.set_cons_succ]
      refine wpAnyG_done (by kernel_rfl) (fun u hu => ?_)
      have hbu := Below.gr hb hu
      have BXu := Gr.blk hu BX
      have BYu := Gr.blk hu BY
      cases b
      · have hxy : x0 = y0 := by
          have := HB.out
          simpa using this
        have HXY := Lib.hid hxy
        clear hxy
        go_wp2
        exact ⟨⟨hbu, BXu, BYu, Lib.hid (.inr (.inr (.inr (.inr ⟨rfl, hk.out.1, hk.out.2.1, hk.out.2.2, HXY.out⟩))))⟩, by decide⟩
      · have hxy : x0 ≠ y0 := by
          have := HB.out
          simpa using this
        have hr2 := Lib.hid (HT.out.2.2.2.1 hk.out.1 hk.out.2.1 hk.out.2.2 hxy)
        have lXu := BXu.lt
        have lYu := BYu.lt
        have px : u.cell? ⟨w.heap.size, 0, none⟩ = some (.int .u64 (x0 : Int)) := BXu.cell 0
        have py : u.cell? ⟨w.heap.size + 1, 0, none⟩ = some (.int .u64 (y0 : Int)) := BYu.cell 0
        clear hxy hk HT
        go_wp2
        refine wp_region_G (fun _ => false) (by kernel_rfl) ?_
        try simp only [Act.put]
        refine wpAnyG_take 0 rfl (by kernel_rfl) (fun _ _ _ h => h) (YieldsG.pure (by rfl) (fun w9 _ => by go_simp; try with_reducible rfl)) ?_
        try simp only [Act.put, List.setIfInBounds_toArray, List.set_cons_zero, List.set_cons_succ]
        refine wpAnyG_take 1 rfl (by kernel_rfl) (fun _ _ _ h => h) (YieldsG.pure (by rfl) (fun w9 _ => by go_simp; try with_reducible rfl)) ?_
        try simp only [Act.put, List.setIfInBounds_toArray, List.set_cons_zero, List.set_cons_succ]
        refine wpAnyG_take 2 rfl (by kernel_rfl) (fun _ _ _ h => h) (YieldsG.pure (v := .int .u64 (x0 : Int)) (by rfl) (fun w9 h9 => by have hz := (Below.cell (p := ⟨w.heap.size, 0, none⟩) h9 lXu).trans px; go_simp; first | done | simp [hz])) ?_
        try simp only [Act.put, List.setIfInBounds_toArray, List.set_cons_zero, List.set_cons_succ]
        refine wpAnyG_take 3 rfl (by kernel_rfl) (fun _ _ _ h => h) (YieldsG.pure (by rfl) (fun w9 _ => by go_simp; try with_reducible rfl)) ?_
        try simp only [Act.put, List.setIfInBounds_toArray, List.set_cons_zero, List.set_cons_succ]
        refine wpAnyG_take 4 rfl (by kernel_rfl) (fun _ _ _ h => h) (YieldsG.pure (by rfl) (fun w9 _ => by go_simp; try with_reducible rfl)) ?_
        try simp only [Act.put, List.setIfInBounds_toArray, List.set_cons_zero, List.set_cons_succ]
        refine wpAnyG_take 5 rfl (by kernel_rfl) (fun _ _ _ h => h) (YieldsG.pure (v := .int .u64 (y0 : Int)) (by rfl) (fun w9 h9 => by have hz := (Below.cell (p := ⟨w.heap.size + 1, 0, none⟩) h9 lYu).trans py; go_simp; first | done | simp [hz])) ?_
        try simp only [Act.put, List.setIfInBounds_toArray, List.set_cons_zero, List.set_cons_succ]
        refine wpAnyG_take 6 rfl (by kernel_rfl) (fun _ _ _ h => h) (YieldsG.pure (v := .bool r) (by rfl) (fun w9 h9 => by go_simp; congr 3; rw [hr2.out]; all_goals (apply decide_eq_decide.2; omega))) ?_
        try simp only [Act.put, List.setIfInBounds_toArray, List.set_cons_zero, List.set_cons_succ]
        refine wpAnyG_take 7 rfl (by kernel_rfl) (fun _ _ _ h => h) (YieldsG.pure (by rfl) (fun w9 _ => by go_simp; try with_reducible rfl)) ?_
        try simp only [Act.put, List.setIfInBounds_toArray, List.set_cons_zero, List.set_cons_succ]
        refine wpAnyG_done (by kernel_rfl) (fun u2 hu2 => ?_)
        go_wp2
        go_ret
        exact ⟨rfl, Below.gr hbu hu2⟩
    · have HR : Hid (r = false) := Lib.hid (HT.out.2.2.2.2 E.1 E.2.1 E.2.2.1 E.2.2.2)
      clear HI E
      go_wp2
      go_ret
      exact ⟨by rw [HR.out]; rfl, hb⟩

end Go.Proofs.Ytneeefinaejgcaa

end
section
namespace Go.Proofs.Ytneeefinaejgcaa
open Go.RowKit Go.Lib

set_option maxHeartbeats 8000000 in
set_option maxRecDepth 100000 in
theorem minusR_at {v1 v2 : Value} (w : World) (x y s k : Nat) (h1 : fv x = v1) (h2 : fv y = v2) (hx : x < 115792089237316195423570985008687907853269984665640564039457584007913129639936) (hy : y < 115792089237316195423570985008687907853269984665640564039457584007913129639936) (hs : s < 115792089237316195423570985008687907853269984665640564039457584007913129639936) (he : s + y = x + 115792089237316195423570985008687907853269984665640564039457584007913129639936 * k) : Calls Try.prog 63 #[v1, v2] w fun e w' => e = .returned (fv s) ∧ Below w.heap.size w w' := by
  subst h1 h2
  obtain ⟨x0, x1, x2, x3, a0, a1, a2, a3, ex, fx⟩ := words_of x hx
  obtain ⟨y0, y1, y2, y3, b0, b1, b2, b3, ey, fy⟩ := words_of y hy
  obtain ⟨s0, c0, d0, k0, e0, r0⟩ := sub0_ex x0 y0 a0 b0
  obtain ⟨s1, c1, d1, k1, e1, r1⟩ := subc_ex x1 y1 c0 a1 b1 k0
  obtain ⟨s2, c2, d2, k2, e2, r2⟩ := subc_ex x2 y2 c1 a2 b2 k1
  obtain ⟨s3, c3, d3, k3, e3, r3⟩ := subc_ex x3 y3 c2 a3 b3 k2
  have fin : s0 + 18446744073709551616 * s1 + 340282366920938463463374607431768211456 * s2 + 6277101735386680763835789423207666416102355444464034512896 * s3 = s := by omega
  have hfs := fv_mk s0 s1 s2 s3 d0 d1 d2 d3
  rw [fin] at hfs
  have Fd := Lib.hid hfs
  rw [fx, fy]
  clear fx fy ex ey hx hy hs he a0 a1 a2 a3 b0 b1 b2 b3 d0 d1 d2 d3 k0 k1 k2 k3 e0 e1 e2 e3 fin hfs
  go_enter Try.func63, Try.ntmps63
  go_wp2_with fail
  go_loopw [5, 6] (fun bo i wr => Below w.heap.size w wr ∧ Blk wr (w.heap.size + 1) 56 #[.int .u64 (y0 : Int), .int .u64 (y1 : Int), .int .u64 (y2 : Int), .int .u64 (y3 : Int)] ∧ Blk wr (w.heap.size + 2) 56 #[.int .u64 0, .int .u64 0, .int .u64 0, .int .u64 0] ∧ Hid ((i = .int .i64 0 ∧ bo = .int .u64 0 ∧ Blk wr w.heap.size 56 #[.int .u64 (x0 : Int), .int .u64 (x1 : Int), .int .u64 (x2 : Int), .int .u64 (x3 : Int)]) ∨ (i = .int .i64 1 ∧ bo = .int .u64 (c0 : Int) ∧ Blk wr w.heap.size 56 #[.int .u64 (s0 : Int), .int .u64 (x1 : Int), .int .u64 (x2 : Int), .int .u64 (x3 : Int)]) ∨ (i = .int .i64 2 ∧ bo = .int .u64 (c1 : Int) ∧ Blk wr w.heap.size 56 #[.int .u64 (s0 : Int), .int .u64 (s1 : Int), .int .u64 (x2 : Int), .int .u64 (x3 : Int)]) ∨ (i = .int .i64 3 ∧ bo = .int .u64 (c2 : Int) ∧ Blk wr w.heap.size 56 #[.int .u64 (s0 : Int), .int .u64 (s1 : Int), .int .u64 (s2 : Int), .int .u64 (x3 : Int)]) ∨ (i = .int .i64 4 ∧ bo = .int .u64 (c3 : Int) ∧ Blk wr w.heap.size 56 #[.int .u64 (s0 : Int), .int .u64 (s1 : Int), .int .u64 (s2 : Int), .int .u64 (s3 : Int)]))) (fun _ i _ => 4 - (intOf i).toNat)
  case atStart => exact ⟨below_alloc3 w _ _ _, (blk_new2 w _ _ _).alloc _, blk_new3 w _ _ _ _, Lib.hid (.inl ⟨rfl, rfl, ((Blk.new w _ _).alloc _).alloc _⟩)⟩
  case round =>
    obtain ⟨hb, BY, BR, HI⟩ := hrel
    have lY := BY.lt
    have lX : w.heap.size < wr.heap.size := by omega
    have hsz : w.heap.size + 2 < wr.heap.size := BR.lt
    rcases HI.out with ⟨rfl, rfl, BX⟩ | ⟨rfl, rfl, BX⟩ | ⟨rfl, rfl, BX⟩ | ⟨rfl, rfl, BX⟩ | ⟨rfl, rfl, BX⟩
    · clear HI
      have px : wr.cell? ⟨w.heap.size, 0, none⟩ = some (.int .u64 (x0 : Int)) := BX.cell 0
      have py : wr.cell? ⟨w.heap.size + 1, 0, none⟩ = some (.int .u64 (y0 : Int)) := BY.cell 0
      go_wp2
      refine wp_region_G (fun _ => false) (by kernel_rfl) ?_
      try simp only [Act.put]
      refine wpAnyG_take 0 rfl (by kernel_rfl) (fun _ _ _ h => h) (YieldsG.pure (by rfl) (fun w9 _ => by go_simp; try with_reducible rfl)) ?_
      try simp only [Act.put, List.setIfInBounds_toArray, List.set_cons_zero, List.set_cons_succ]
      refine wpAnyG_take 1 rfl (by kernel_rfl) (fun _ _ _ h => h) (YieldsG.pure (by rfl) (fun w9 _ => by go_simp; try with_reducible rfl)) ?_
      try simp only [Act.put, List.setIfInBounds_toArray, List.set_cons_zero, List.set_cons_succ]
      refine wpAnyG_take 2 rfl (by kernel_rfl) (fun _ _ _ h => h) (YieldsG.pure (v := .int .u64 (x0 : Int)) (by rfl) (fun w9 h9 => by have hz := (Below.cell (p := ⟨w.heap.size, 0, none⟩) h9 lX).trans px; go_simp; first | done | simp [hz])) ?_
      try simp only [Act.put, List.setIfInBounds_toArray, List.set_cons_zero, List.set_cons_succ]
      refine wpAnyG_take 3 rfl (by kernel_rfl) (fun _ _ _ h => h) (YieldsG.pure (by rfl) (fun w9 _ => by go_simp; try with_reducible rfl)) ?_
      try simp only [Act.put, List.setIfInBounds_toArray, List.set_cons_zero, List.set_cons_succ]
      refine wpAnyG_take 4 rfl (by kernel_rfl) (fun _ _ _ h => h) (YieldsG.pure (by rfl) (fun w9 _ => by go_simp; try with_reducible rfl)) ?_
      try simp only [Act.put, List.setIfInBounds_toArray, List.set_cons_zero, List.set_cons_succ]
      refine wpAnyG_take 5 rfl (by kernel_rfl) (fun _ _ _ h => h) (YieldsG.pure (v := .int .u64 (y0 : Int)) (by rfl) (fun w9 h9 => by have hz := (Below.cell (p := ⟨w.heap.size + 1, 0, none⟩) h9 lY).trans py; go_simp; first | done | simp [hz])) ?_
      try simp only [Act.put, List.setIfInBounds_toArray, List.set_cons_zero, List.set_cons_succ]
      refine wpAnyG_take 6 rfl (by kernel_rfl) (fun _ _ _ h => h) (YieldsG.pure (by rfl) (fun w9 _ => by go_simp; try with_reducible rfl)) ?_
      try simp only [Act.put, List.setIfInBounds_toArray, List.set_cons_zero, List.set_cons_succ]
      refine wpAnyG_take 7 rfl (by kernel_rfl) (fun _ _ _ h => h) (YieldsG.pure (v := .tuple #[.int .u64 (s0 : Int), .int .u64 (c0 : Int)]) (by rfl) (fun w9 h9 => by go_simp)) ?_
      try simp only [Act.put, List.setIfInBounds_toArray, List.set_cons_zero, List.set_cons_succ]
      refine wpAnyG_take 8 rfl (by kernel_rfl) (fun _ _ _ h => h) (YieldsG.pure (by rfl) (fun w9 _ => by go_simp; try with_reducible rfl)) ?_
      try simp only [Act.put, List.setIfInBounds_toArray, List.set_cons_zero, List.set_cons_succ]
      refine wpAnyG_take 9 rfl (by kernel_rfl) (fun _ _ _ h => h) (YieldsG.pure (by rfl) (fun w9 _ => by go_simp; try with_reducible rfl)) ?_
      try simp only [Act.put, List.setIfInBounds_toArray, List.set_cons_zero, List.set_cons_succ]
      refine wpAnyG_take 10 rfl (by kernel_rfl) (fun _ _ _ h => h) (YieldsG.pure (by rfl) (fun w9 _ => by go_simp; try with_reducible rfl)) ?_
      try simp only [Act.put, List.setIfInBounds_toArray, List.set_cons_zero, List.set_cons_succ]
      refine wpAnyG_take 11 rfl (by kernel_rfl) (fun _ _ _ h => h) (YieldsG.pure (by rfl) (fun w9 _ => by go_simp; try with_reducible rfl)) ?_
      try simp only [Act.put, List.setIfInBounds_toArray, List.set_cons_zero, List.set_cons_succ]
      refine wpAnyG_take 12 rfl (by kernel_rfl) (fun _ _ _ h => h) (YieldsG.pure (by rfl) (fun w9 _ => by go_simp; try with_reducible rfl)) ?_
      try simp only [Act.put, List.setIfInBounds_toArray, List.set_cons_zero, List.set_cons_succ]
      refine wpAnyG_done (by kernel_rfl) (fun u hu => ?_)
      have BXu := Gr.blk hu BX
      have BYu := Gr.blk hu BY
      have BRu := Gr.blk hu BR
      have hbu := Below.gr hb hu
      have pc : u.cell? ⟨w.heap.size, 0, none⟩ = some (.int .u64 (x0 : Int)) := BXu.cell 0
      have pf := BXu.frozen 0
      go_wp2
      refine ⟨⟨hbu.setCell (Nat.le_refl _) _, BYu.far (by show w.heap.size + 1 ≠ w.heap.size; omega) _, BRu.far (by show w.heap.size + 2 ≠ w.heap.size; omega) _, Lib.hid (.inr (.inl (⟨rfl, rfl, BXu.set_ 0 _⟩)))⟩, by decide⟩
    · clear HI
      have px : wr.cell? ⟨w.heap.size, 1, none⟩ = some (.int .u64 (x1 : Int)) := BX.cell 1
      have py : wr.cell? ⟨w.heap.size + 1, 1, none⟩ = some (.int .u64 (y1 : Int)) := BY.cell 1
      go_wp2
      refine wp_region_G (fun _ => false) (by kernel_rfl) ?_
      try simp only [Act.put]
      refine wpAnyG_take 0 rfl (by kernel_rfl) (fun _ _ _ h => h) (YieldsG.pure (by rfl) (fun w9 _ => by go_simp; try with_reducible rfl)) ?_
      try simp only [Act.put, List.setIfInBounds_toArray, List.set_cons_zero, List.set_cons_succ]
      refine wpAnyG_take 1 rfl (by kernel_rfl) (fun _ _ _ h => h) (YieldsG.pure (by rfl) (fun w9 _ => by go_simp; try with_reducible rfl)) ?_
      try simp only [Act.put, List.setIfInBounds_toArray, List.set_cons_zero, List.set_cons_succ]
      refine wpAnyG_take 2 rfl (by kernel_rfl) (fun _ _ _ h => h) (YieldsG.pure (v := .int .u64 (x1 : Int)) (by rfl) (fun w9 h9 => by have hz := (Below.cell (p := ⟨w.heap.size, 1, none⟩) h9 lX).trans px; go_simp; first | done | simp [hz])) ?_
      try simp only [Act.put, List.setIfInBounds_toArray, List.set_cons_zero, List.set_cons_succ]
      refine wpAnyG_take 3 rfl (by kernel_rfl) (fun _ _ _ h => h) (YieldsG.pure (by rfl) (fun w9 _ => by go_simp; try with_reducible rfl)) ?_
      try simp only [Act.put, List.setIfInBounds_toArray, List.set_cons_zero, List.set_cons_succ]
      refine wpAnyG_take 4 rfl (by kernel_rfl) (fun _ _ _ h => h) (YieldsG.pure (by rfl) (fun w9 _ => by go_simp; try with_reducible rfl)) ?_
      try simp only [Act.put, List.setIfInBounds_toArray, List.set_cons_zero, List.set_cons_succ]
      refine wpAnyG_take 5 rfl (by kernel_rfl) (fun _ _ _ h => h) (YieldsG.pure (v := .int .u64 (y1 : Int)) (by rfl) (fun w9 h9 => by have hz := (Below.cell (p := ⟨w.heap.size + 1, 1, none⟩) h9 lY).trans py; go_simp; first | done | simp [hz])) ?_
      try simp only [Act.put, List.setIfInBounds_toArray, List.set_cons_zero, List.set_cons_succ]
      refine wpAnyG_take 6 rfl (by kernel_rfl) (fun _ _ _ h => h) (YieldsG.pure (by rfl) (fun w9 _ => by go_simp; try with_reducible rfl)) ?_
      try simp only [Act.put, List.setIfInBounds_toArray, List.set_cons_zero, List.set_cons_succ]
      refine wpAnyG_take 7 rfl (by kernel_rfl) (fun _ _ _ h => h) (YieldsG.pure (v := .tuple #[.int .u64 (s1 : Int), .int .u64 (c1 : Int)]) (by rfl) (fun w9 h9 => by go_simp)) ?_
      try simp only [Act.put, List.setIfInBounds_toArray, List.set_cons_zero, List.set_cons_succ]
      refine wpAnyG_take 8 rfl (by kernel_rfl) (fun _ _ _ h => h) (YieldsG.pure (by rfl) (fun w9 _ => by go_simp; try with_reducible rfl)) ?_
      try simp only [Act.put, List.setIfInBounds_toArray, List.set_cons_zero, List.set_cons_succ]
      refine wpAnyG_take 9 rfl (by kernel_rfl) (fun _ _ _ h => h) (YieldsG.pure (by rfl) (fun w9 _ => by go_simp; try with_reducible rfl)) ?_
      try simp only [Act.put, List.setIfInBounds_toArray, List.set_cons_zero, List.set_cons_succ]
      refine wpAnyG_take 10 rfl (by kernel_rfl) (fun _ _ _ h => h) (YieldsG.pure (by rfl) (fun w9 _ => by go_simp; try with_reducible rfl)) ?_
      try simp only [Act.put, List.setIfInBounds_toArray, List.set_cons_zero, List.set_cons_succ]
      refine wpAnyG_take 11 rfl (by kernel_rfl) (fun _ _ _ h => h) (YieldsG.pure (by rfl) (fun w9 _ => by go_simp; try with_reducible rfl)) ?_
      try simp only [Act.put, List.setIfInBounds_toArray, List.set_cons_zero, List.set_cons_succ]
      refine wpAnyG_take 12 rfl (by kernel_rfl) (fun _ _ _ h => h) (YieldsG.pure (by rfl) (fun w9 _ => by go_simp; try with_reducible rfl)) ?_
      try simp only [Act.put, List.setIfInBounds_toArray, List.set_cons_zero, List.set_cons_succ]
      refine wpAnyG_done (by kernel_rfl) (fun u hu => ?_)
      have BXu := Gr.blk hu BX
      have BYu := Gr.blk hu BY
      have BRu := Gr.blk hu BR
      have hbu := Below.gr hb hu
      have pc : u.cell? ⟨w.heap.size, 1, none⟩ = some (.int .u64 (x1 : Int)) := BXu.cell 1
      have pf := BXu.frozen 1
      go_wp2
      refine ⟨⟨hbu.setCell (Nat.le_refl _) _, BYu.far (by show w.heap.size + 1 ≠ w.heap.size; omega) _, BRu.far (by show w.heap.size + 2 ≠ w.heap.size; omega) _, Lib.hid (.inr (.inr (.inl (⟨rfl, rfl, BXu.set_ 1 _⟩))))⟩, by decide⟩
    · clear HI
      have px : wr.cell? ⟨w.heap.size, 2, none⟩ = some (.int .u64 (x2 : Int)) := BX.cell 2
      have py : wr.cell? ⟨w.heap.size + 1, 2, none⟩ = some (.int .u64 (y2 : Int)) := BY.cell 2
      go_wp2
      refine wp_region_G (fun _ => false) (by kernel_rfl) ?_
      try simp only [Act.put]
      refine wpAnyG_take 0 rfl (by kernel_rfl) (fun _ _ _ h => h) (YieldsG.pure (by rfl) (fun w9 _ => by go_simp; try with_reducible rfl)) ?_
      try simp only [Act.put, List.setIfInBounds_toArray, List.set_cons_zero, List.set_cons_succ]
      refine wpAnyG_take 1 rfl (by kernel_rfl) (fun _ _ _ h => h) (YieldsG.pure (by rfl) (fun w9 _ => by go_simp; try with_reducible rfl)) ?_
      try simp only [Act.put, List.setIfInBounds_toArray, List.set_cons_zero, List.set_cons_succ]
      refine wpAnyG_take 2 rfl (by kernel_rfl) (fun _ _ _ h => h) (YieldsG.pure (v := .int .u64 (x2 : Int)) (by rfl) (fun w9 h9 => by have hz := (Below.cell (p := ⟨w.heap.size, 2, none⟩) h9 lX).trans px; go_simp; first | done | simp [hz])) ?_
      try simp only [Act.put, List.setIfInBounds_toArray, List.set_cons_zero, List.set_cons_succ]
      refine wpAnyG_take 3 rfl (by kernel_rfl) (fun _ _ _ h => h) (YieldsG.pure (by rfl) (fun w9 _ => by go_simp; try with_reducible rfl)) ?_
      try simp only [Act.put, List.setIfInBounds_toArray, List.set_cons_zero, List.set_cons_succ]
      refine wpAnyG_take 4 rfl (by kernel_rfl) (fun _ _ _ h => h) (YieldsG.pure (by rfl) (fun w9 _ => by go_simp; try with_reducible rfl)) ?_
      try simp only [Act.put, List.setIfInBounds_toArray, List.set_cons_zero, List.set_cons_succ]
      refine wpAnyG_take 5 rfl (by kernel_rfl) (fun _ _ _ h => h) (YieldsG.pure (v := .int .u64 (y2 : Int)) (by rfl) (fun w9 h9 => by have hz := (Below.cell (p := ⟨w.heap.size + 1, 2, none⟩) h9 lY).trans py; go_simp; first | done | simp [hz])) ?_
      try simp only [Act.put, List.setIfInBounds_toArray, List.set_cons_zero, List.set_cons_succ]
      refine wpAnyG_take 6 rfl (by kernel_rfl) (fun _ _ _ h => h) (YieldsG.pure (by rfl) (fun w9 _ => by go_simp; try with_reducible rfl)) ?_
      try simp only [Act.put, List.setIfInBounds_toArray, List.set_cons_zero, List.set_cons_succ]
      refine wpAnyG_take 7 rfl (by kernel_rfl) (fun _ _ _ h => h) (YieldsG.pure (v := .tuple #[.int .u64 (s2 : Int), .int .u64 (c2 : Int)]) (by rfl) (fun w9 h9 => by go_simp)) ?_
      try simp only [Act.put, List.setIfInBounds_toArray, List.set_cons_zero, List.set_cons_succ]
      refine wpAnyG_take 8 rfl (by kernel_rfl) (fun _ _ _ h => h) (YieldsG.pure (by rfl) (fun w9 _ => by go_simp; try with_reducible rfl)) ?_
      try simp only [Act.put, List.setIfInBounds_toArray, List.set_cons_zero, List.set_cons_succ]
      refine wpAnyG_take 9 rfl (by kernel_rfl) (fun _ _ _ h => h) (YieldsG.pure (by rfl) (fun w9 _ => by go_simp; try with_reducible rfl)) ?_
      try simp only [Act.put, List.setIfInBounds_toArray, List.set_cons_zero, List.set_cons_succ]
      refine wpAnyG_take 10 rfl (by kernel_rfl) (fun _ _ _ h => h) (YieldsG.pure (by rfl) (fun w9 _ => by go_simp; try with_reducible rfl)) ?_
      try simp only [Act.put, List.setIfInBounds_toArray, List.set_cons_zero, List.set_cons_succ]
      refine wpAnyG_take 11 rfl (by kernel_rfl) (fun _ _ _ h => h) (YieldsG.pure (by rfl) (fun w9 _ => by go_simp; try with_reducible rfl)) ?_
      try simp only [Act.put, List.setIfInBounds_toArray, List.set_cons_zero, List.set_cons_succ]
      refine wpAnyG_take 12 rfl (by kernel_rfl) (fun _ _ _ h => h) (YieldsG.pure (by rfl) (fun w9 _ => by go_simp; try with_reducible rfl)) ?_
      try simp only [Act.put, List.setIfInBounds_toArray, List.set_cons_zero, List.set_cons_succ]
      refine wpAnyG_done (by kernel_rfl) (fun u hu => ?_)
      have BXu := Gr.blk hu BX
      have BYu := Gr.blk hu BY
      have BRu := Gr.blk hu BR
      have hbu := Below.gr hb hu
      have pc : u.cell? ⟨w.heap.size, 2, none⟩ = some (.int .u64 (x2 : Int)) := BXu.cell 2
      have pf := BXu.frozen 2
      go_wp2
      refine ⟨⟨hbu.setCell (Nat.le_refl _) _, BYu.far (by show w.heap.size + 1 ≠ w.heap.size; omega) _, BRu.far (by show w.heap.size + 2 ≠ w.heap.size; omega) _, Lib.hid (.inr (.inr (.inr (.inl (⟨rfl, rfl, BXu.set_ 2 _⟩)))))⟩, by decide⟩
    · clear HI
      have px : wr.cell? ⟨w.heap.size, 3, none⟩ = some (.int .u64 (x3 : Int)) := BX.cell 3
      have py : wr.cell? ⟨w.heap.size + 1, 3, none⟩ = some (.int .u64 (y3 : Int)) := BY.cell 3
      go_wp2
      refine wp_region_G (fun _ => false) (by kernel_rfl) ?_
      try simp only [Act.put]
      refine wpAnyG_take 0 rfl (by kernel_rfl) (fun _ _ _ h => h) (YieldsG.pure (by rfl) (fun w9 _ => by go_simp; try with_reducible rfl)) ?_
      try simp only [Act.put, List.setIfInBounds_toArray, List.set_cons_zero, List.set_cons_succ]
      refine wpAnyG_take 1 rfl (by kernel_rfl) (fun _ _ _ h => h) (YieldsG.pure (by rfl) (fun w9 _ => by go_simp; try with_reducible rfl)) ?_
      try simp only [Act.put, List.setIfInBounds_toArray, List.set_cons_zero, List.set_cons_succ]
      refine wpAnyG_take 2 rfl (by kernel_rfl) (fun _ _ _ h => h) (YieldsG.pure (v := .int .u64 (x3 : Int)) (by rfl) (fun w9 h9 => by have hz := (Below.cell (p := ⟨w.heap.size, 3, none⟩) h9 lX).trans px; go_simp; first | done | simp [hz])) ?_
      try simp only [Act.put, List.setIfInBounds_toArray, List.set_cons_zero, List.set_cons_succ]
      refine wpAnyG_take 3 rfl (by kernel_rfl) (fun _ _ _ h => h) (YieldsG.pure (by rfl) (fun w9 _ => by go_simp; try with_reducible rfl)) ?_
      try simp only [Act.put, List.setIfInBounds_toArray, List.set_cons_zero, List.set_cons_succ]
      refine wpAnyG_take 4 rfl (by kernel_rfl) (fun _ _ _ h => h) (YieldsG.pure (by rfl) (fun w9 _ => by go_simp; try with_reducible rfl)) ?_
      try simp only [Act.put, List.setIfInBounds_toArray, List.set_cons_zero, List.set_cons_succ]
      refine wpAnyG_take 5 rfl (by kernel_rfl) (fun _ _ _ h => h) (YieldsG.pure (v := .int .u64 (y3 : Int)) (by rfl) (fun w9 h9 => by have hz := (Below.cell (p := ⟨w.heap.size + 1, 3, none⟩) h9 lY).trans py; go_simp; first | done | simp [hz])) ?_
      try simp only [Act.put, List.setIfInBounds_toArray, List.set_cons_zero, List.set_cons_succ]
      refine wpAnyG_take 6 rfl (by kernel_rfl) (fun _ _ _ h => h) (YieldsG.pure (by rfl) (fun w9 _ => by go_simp; try with_reducible rfl)) ?_
      try simp only [Act.put, List.setIfInBounds_toArray, List.set_cons_zero, List.set_cons_succ]
      refine wpAnyG_take 7 rfl (by kernel_rfl) (fun _ _ _ h => h) (YieldsG.pure (v := .tuple #[.int .u64 (s3 : Int), .int .u64 (c3 : Int)]) (by rfl) (fun w9 h9 => by go_simp)) ?_
      try simp only [Act.put, List.setIfInBounds_toArray, List.set_cons_zero, List.set_cons_succ]
      refine wpAnyG_take 8 rfl (by kernel_rfl) (fun _ _ _ h => h) (YieldsG.pure (by rfl) (fun w9 _ => by go_simp; try with_reducible rfl)) ?_
      try simp only [Act.put, List.setIfInBounds_toArray, List.set_cons_zero, List.set_cons_succ]
      refine wpAnyG_take 9 rfl (by kernel_rfl) (fun _ _ _ h => h) (YieldsG.pure (by rfl) (fun w9 _ => by go_simp; try with_reducible rfl)) ?_
      try simp only [Act.put, List.setIfInBounds_toArray, List.set_cons_zero, List.set_cons_succ]
      refine wpAnyG_take 10 rfl (by kernel_rfl) (fun _ _ _ h => h) (YieldsG.pure (by rfl) (fun w9 _ => by go_simp; try with_reducible rfl)) ?_
      try simp only [Act.put, List.setIfInBounds_toArray, List.set_cons_zero, List.set_cons_succ]
      refine wpAnyG_take 11 rfl (by kernel_rfl) (fun _ _ _ h => h) (YieldsG.pure (by rfl) (fun w9 _ => by go_simp; try with_reducible rfl)) ?_
      try simp only [Act.put, List.setIfInBounds_toArray, List.set_cons_zero, List.set_cons_succ]
      refine wpAnyG_take 12 rfl (by kernel_rfl) (fun _ _ _ h => h) (YieldsG.pure (by rfl) (fun w9 _ => by go_simp; try with_reducible rfl)) ?_
      try simp only [Act.put, List.setIfInBounds_toArray, List.set_cons_zero, List.set_cons_succ]
      refine wpAnyG_done (by kernel_rfl) (fun u hu => ?_)
      have BXu := Gr.blk hu BX
      have BYu := Gr.blk hu BY
      have BRu := Gr.blk hu BR
      have hbu := Below.gr hb hu
      have pc : u.cell? ⟨w.heap.size, 3, none⟩ = some (.int .u64 (x3 : Int)) := BXu.cell 3
      have pf := BXu.frozen 3
      go_wp2
      refine ⟨⟨hbu.setCell (Nat.le_refl _) _, BYu.far (by show w.heap.size + 1 ≠ w.heap.size; omega) _, BRu.far (by show w.heap.size + 2 ≠ w.heap.size; omega) _, Lib.hid (.inr (.inr (.inr (.inr (⟨rfl, rfl, BXu.set_ 3 _⟩)))))⟩, by decide⟩
    · clear HI
      have BS := BX.eq_ (fcs_words Fd.out.symm).symm
      go_wp2_with (first | ((with_reducible refine here_load (d := some 28) ?_); refine wpList_load_fv rfl _ _ rfl (w.heap.size) rfl (s) _ _ _ (BS) (fv_fcs s) Try.underlying56 rfl (by kernel_rfl) ?_) | ((with_reducible refine here_store ?_); refine wpList_store_blk rfl _ _ _ rfl (w.heap.size + 2) (fcs (s)) rfl rfl _ _ (BR) (by kernel_rfl) (by rfl) (fcs_one _) ?_; intro w9 hL9 hB9 hK9))
      exact bodyPost_ret (results_cell_row rfl _ _ (w.heap.size + 2) _ _ (0, 0) _ rfl hL9 Try.underlying56 rfl (by kernel_rfl)) rfl ⟨rfl, hb.trans (hB9 _ (by omega))⟩

theorem mod_range {w : World} {g : Nat} {t : TypeId} {a b c d : Value} {r : List Value} (h : Blk w g t (a :: b :: c :: d :: r).toArray) : w.rangeAt g 0 [a, b, c, d] := fun j v hj => by
  rw [Nat.zero_add, h.cell]
  match j, hj with
  | 0, hj => simpa using hj
  | 1, hj => simpa using hj
  | 2, hj => simpa using hj
  | 3, hj => simpa using hj
  | j + 4, hj => simp at hj
theorem wpList_load_part {P : Program} {ops : Array Oper} {rest : List Oper} {o : Oper} {a : Act} {w : World} {Q : Exit → Act → World → Prop} (hgd : o.guard = none) (ty : TypeId) (x : Operand) (ho : o.op = .load ty x)
    (g : Nat) (hx : a.eval x = .pointer (some ⟨g, 0, none⟩)) (n : Nat) (cs : List Value) (d : TypeDesc) (hr : w.rangeAt g 0 cs) (hf : fv n = .agg cs.toArray)
    (hu : P.underlying ty = some d) (hd : d.isRow = true) (hi : (P.info? ty).map (·.size) = some cs.length)
    (h : wpList P ops Q rest (a.put o.dst (fv n)) w) : wpList P ops Q (o :: rest) a w :=
  wpList_plain hgd fun K hK => by
    have hl := run_loadVar_mid (P := P) w g 0 ty cs d hr hu hd hi
    unfold Oper.wp execOp
    simp only [ho, hx, Instr.loadAt, Instr.sureAddr, Sem.run_bind, Sem.run_pure, Result.andThen_ok, hl]
    rw [← hf]
    exact hK _ _ h

end Go.Proofs.Ytneeefinaejgcaa

end
section
namespace Go.Proofs.Ytneeefinaejgcaa
open Go.RowKit Go.Lib

end Go.Proofs.Ytneeefinaejgcaa

end
section
namespace Go.Proofs.Ytneeefinaejgcaa
open Go.RowKit Go.Lib

section
variable {P : Program} {ops : Array Oper}
end

end Go.Proofs.Ytneeefinaejgcaa

end
section
namespace Go.Proofs.Ytneeefinaejgcaa
open Go.RowKit Go.Lib

end Go.Proofs.Ytneeefinaejgcaa

end
section
namespace Go.Proofs.Ytneeefinaejgcaa
open Go.RowKit Go.Lib

end Go.Proofs.Ytneeefinaejgcaa

end
section
namespace Go.Proofs.Ytneeefinaejgcaa
open Go.RowKit Go.Lib

/-- byte number j of a number, the lowest is 0 -/
def byteN (z j : Nat) : UInt8 := UInt8.ofNat (z / 2 ^ (8 * j) % 256)
/-- the k lowest bytes, the highest first -/
def lowB (z : Nat) : Nat → List UInt8
  | 0 => []
  | k + 1 => byteN z k :: lowB z k
theorem lowB_length (z : Nat) : ∀ k, (lowB z k).length = k
  | 0 => rfl
  | k + 1 => by rw [lowB, List.length_cons, lowB_length z k]
def bytesS (z : Nat) : List UInt8 := lowB z 32
/-- what stands in the array behind k rounds -/
def partB (z k : Nat) : List UInt8 := List.replicate (32 - k) 0 ++ lowB z k
theorem partB_length (z k : Nat) (h : k ≤ 32) : (partB z k).length = 32 := by simp [partB, lowB_length]; omega
theorem partB_full (z : Nat) : partB z 32 = bytesS z := by simp [partB, bytesS]
theorem partB_set (z k : Nat) (h : k < 32) : ((partB z k).map bv).toArray.setIfInBounds (31 - k) (bv (byteN z k)) = ((partB z (k + 1)).map bv).toArray := by
  rw [List.setIfInBounds_toArray]
  congr 1
  rw [← List.map_set]
  congr 1
  unfold partB
  rw [List.set_append_left _ _ (by simp; omega)]
  obtain ⟨m, hm⟩ : ∃ m, 32 - k = m + 1 := ⟨31 - k, by omega⟩
  have h2 : 32 - (k + 1) = m := by omega
  have h3 : 31 - k = m := by omega
  rw [hm, h2, h3, List.replicate_succ', List.set_append_right _ _ (by simp)]
  simp [lowB]
theorem bytesS_length (z : Nat) : (bytesS z).length = 32 := lowB_length z 32
theorem bv_byteN (z j : Nat) : bv (byteN z j) = .int .u8 ((z / 2 ^ (8 * j) % 256 : Nat) : Int) := by
  unfold bv byteN
  congr 2
  rw [UInt8.toNat_ofNat']
  omega
theorem Blk.val {w : World} {a : Addr} {v v' : Value} {g : Nat} {t : TypeId} {cs : Array Value} (h : Blk (w.setCell a v) g t cs) (e : v = v') : Blk (w.setCell a v') g t cs := e ▸ h
theorem b32_info {l : List UInt8} (h : l.length = 32) : (Try.prog.info? 81).map (·.size) = some (l.map bv).toArray.size := by
  simp only [List.size_toArray, List.length_map, h]
  kernel_rfl
theorem b32_one (l : List UInt8) : (l.map bv).toArray.all (·.oneCell') = true := by simp [bv, Value.oneCell']

end Go.Proofs.Ytneeefinaejgcaa

end
section
namespace Go.Proofs.Ytneeefinaejgcaa
open Go.RowKit Sp

end Go.Proofs.Ytneeefinaejgcaa

end
section
namespace Go.Proofs.Ytneeefinaejgcaa
open Go.RowKit Go.Lib

end Go.Proofs.Ytneeefinaejgcaa

end
section
namespace Go.Proofs.Ytneeefinaejgcaa.Cu
open Go.RowKit Go.Proofs.Ytneeefinaejgcaa Go.Proofs.Ytneeefinaejgcaa.Sy

set_option maxHeartbeats 4000000 in
set_option maxRecDepth 100000 in
theorem baseR_c (w : World)  : Calls Try.prog 24 #[] w (Gets w (ptv bP)) := by
  refine Sy.enter (args := []) Try.func24 rfl (Nat.le_of_ble_eq_true (by kernel_rfl)) ?_
  refine Sy.seq ?_
  refine Sy.region ?_
  refine Sy.make (by kernel_rfl) 27 (pcs 0 0 false) ptr (fun _ => by kernel_rfl) (fun g0 => ?_)
  refine Sy.nil ?_
  refine Sy.then_ ?_
  refine Sy.seq ?_
  refine Sy.region ?_
  refine Sy.step (by kernel_rfl) (fv 55066263022277343669578718895168534326250603453777594175500187360389116729240) (Quiet.pure (fun _ => by kernel_rfl)) ?_
  refine Sy.step (by kernel_rfl) (fv 32670510020758816978083085130507043184471273380659243275938904335757337482424) (Quiet.pure (fun _ => by kernel_rfl)) ?_
  refine Sy.step (by kernel_rfl) (pv 55066263022277343669578718895168534326250603453777594175500187360389116729240 32670510020758816978083085130507043184471273380659243275938904335757337482424 false) (Quiet.pure (fun _ => by kernel_rfl)) ?_
  refine Sy.write (by kernel_rfl) 0 g0 27 (pcs 0 0 false) (pcs 55066263022277343669578718895168534326250603453777594175500187360389116729240 32670510020758816978083085130507043184471273380659243275938904335757337482424 false) (by kernel_rfl) (Writes.store 0 27 (pcs 55066263022277343669578718895168534326250603453777594175500187360389116729240 32670510020758816978083085130507043184471273380659243275938904335757337482424 false) _ _ rfl (by kernel_rfl) (by kernel_rfl) (by kernel_rfl) (Nat.le_of_ble_eq_true (by kernel_rfl)) (by kernel_rfl) (by kernel_rfl)) ?_
  refine Sy.nil ?_
  refine Sy.then_ ?_
  refine Sy.ret ?_
  rw [show (ptv bP : Value) = pv 55066263022277343669578718895168534326250603453777594175500187360389116729240 32670510020758816978083085130507043184471273380659243275938904335757337482424 false from by kernel_rfl]
  exact Sy.ret1 (v := pv 55066263022277343669578718895168534326250603453777594175500187360389116729240 32670510020758816978083085130507043184471273380659243275938904335757337482424 false) rfl (.inl (Res.cell (ty' := 27) g0 0 (pcs 55066263022277343669578718895168534326250603453777594175500187360389116729240 32670510020758816978083085130507043184471273380659243275938904335757337482424 false) _ (by kernel_rfl) (by kernel_rfl) Try.underlying27 rfl (by kernel_rfl) (by kernel_rfl)))
end Go.Proofs.Ytneeefinaejgcaa.Cu

end
section
namespace Go.Proofs.Ytneeefinaejgcaa.Cu
open Go.RowKit Go.Proofs.Ytneeefinaejgcaa Go.Proofs.Ytneeefinaejgcaa.Sy

end Go.Proofs.Ytneeefinaejgcaa.Cu

end
section
namespace Go.Proofs.Ytneeefinaejgcaa.Sy
open Go.RowKit Go.Proofs.Ytneeefinaejgcaa

section
variable {P : Program} {w0 : Base} {n : Nat} {Q : Exit → Act → World → Prop} {F : Slots} {L : Blocks} {ops : Array Oper} {o : Oper} {l : List Oper} {ex : Nat → Bool} {fuel : Nat} {listed : Array Bool}
end
end Go.Proofs.Ytneeefinaejgcaa.Sy

end
section
namespace Go.Proofs.Ytneeefinaejgcaa.Sy
open Go.RowKit Go.Proofs.Ytneeefinaejgcaa

/-! ## Rows of equal parts -/
theorem setAll_is : ∀ (vs : List Value) (o : Nat) (cs : Array Value), o + vs.length ≤ cs.size → setAll cs o vs = (cs.toList.take o ++ (vs ++ cs.toList.drop (o + vs.length))).toArray
  | [], o, cs, _ => by simp [setAll, List.take_append_drop]
  | v :: r, o, cs, h => by
    simp only [List.length_cons] at h
    rw [setAll, setAll_is r (o + 1) _ (by simp; omega)]
    congr 1
    have hlt : o < cs.toList.length := by simp; omega
    rw [Array.toList_setIfInBounds, List.take_set, List.take_add_one, List.drop_set_of_lt (by omega), List.getElem?_eq_getElem hlt, List.set_append_right _ _ (by simp; omega)]
    have e : o + 1 + r.length = o + (r.length + 1) := by omega
    simp [Nat.min_eq_left (Nat.le_of_lt (show o < cs.size by omega)), e]
/-- n parts, one behind the other -/
def flat (f : Nat → List Value) (n : Nat) : List Value := (List.range n).flatMap f
section
variable {s : Nat} {f : Nat → List Value}
theorem flat_succ (n : Nat) : flat f (n + 1) = flat f n ++ f n := by simp [flat, List.range_succ]
theorem flat_len (h : ∀ k, (f k).length = s) : ∀ n, (flat f n).length = n * s
  | 0 => by simp [flat]
  | n + 1 => by rw [flat_succ, List.length_append, flat_len h n, h, Nat.succ_mul]
theorem flat_add (k : Nat) : ∀ m, flat f (k + m) = flat f k ++ flat (fun j => f (k + j)) m
  | 0 => by simp [flat]
  | m + 1 => by rw [← Nat.add_assoc, flat_succ, flat_add k m, flat_succ, List.append_assoc]
theorem flat_split {n k : Nat} (hk : k < n) : flat f n = flat f k ++ (f k ++ flat (fun j => f (k + 1 + j)) (n - k - 1)) := by
  obtain ⟨m, rfl⟩ : ∃ m, n = k + 1 + m := ⟨n - k - 1, by omega⟩
  rw [flat_add, flat_succ, List.append_assoc, show k + 1 + m - k - 1 = m by omega]
theorem flat_congr {g : Nat → List Value} {n : Nat} (h : ∀ k, k < n → f k = g k) : flat f n = flat g n := by
  unfold flat
  rw [List.flatMap_def, List.flatMap_def]
  exact congrArg List.flatten (List.map_congr_left fun k hk => h k (List.mem_range.1 hk))
theorem flat_at (h : ∀ k, (f k).length = s) {n k o : Nat} (hk : k < n) (ho : o = k * s) : ((flat f n).drop o).take s = f k := by
  subst ho
  rw [flat_split hk, List.drop_append_of_le_length (by rw [flat_len h]; exact Nat.le_refl _), List.drop_eq_nil_of_le (by rw [flat_len h]; exact Nat.le_refl _), List.nil_append, List.take_append_of_le_length (by rw [h]; exact Nat.le_refl _), List.take_of_length_le (by rw [h]; exact Nat.le_refl _)]
/-- some of a part -/
theorem flat_in (h : ∀ k, (f k).length = s) {n k o e m : Nat} (hk : k < n) (ho : o = k * s + e) (hm : e + m ≤ s) : ((flat f n).drop o).take m = ((f k).drop e).take m := by
  subst ho
  rw [← flat_at h hk rfl, List.drop_take, List.drop_drop, List.take_take, Nat.min_eq_left (by omega)]
theorem flat_set (h : ∀ k, (f k).length = s) {v : List Value} (hv : v.length = s) {n k o : Nat} (hk : k < n) (ho : o = k * s) : setAll (flat f n).toArray o v = (flat (fun j => if j = k then v else f j) n).toArray := by
  subst ho
  have hl := flat_len h (f := f)
  have hks : k * s + s ≤ n * s := by rw [← Nat.succ_mul]; exact Nat.mul_le_mul_right s hk
  rw [setAll_is _ _ _ (by simp [hl, hv]; exact hks)]
  congr 1
  rw [flat_split hk, flat_split (f := fun j => if j = k then v else f j) hk]
  congr 1
  · show (flat f k ++ _).take (k * s) = _
    rw [List.take_append_of_le_length (by rw [hl]; exact Nat.le_refl _), List.take_of_length_le (by rw [hl]; exact Nat.le_refl _)]
    exact flat_congr fun j hj => by rw [if_neg (by omega)]
  · simp only [if_true]
    congr 1
    show (flat f k ++ (f k ++ _)).drop (k * s + v.length) = _
    rw [← List.append_assoc, List.drop_append_of_le_length (by rw [List.length_append, hl, h, hv]; exact Nat.le_refl _), List.drop_eq_nil_of_le (by rw [List.length_append, hl, h, hv]; exact Nat.le_refl _), List.nil_append]
    exact flat_congr fun j hj => by rw [if_neg (by omega)]
theorem flat_one (h : ∀ k, (f k).length = s) (n : Nat) (hf : ∀ k, ∀ u ∈ f k, u.oneCell' = true) : (flat f n).toArray.all (·.oneCell') = true := by
  rw [List.all_toArray, List.all_eq_true]
  intro u hu
  unfold flat at hu
  obtain ⟨k, _, hk⟩ := List.mem_flatMap.1 hu
  exact hf k u hk
/-- nothing but one part, over and over -/
theorem flat_const (c : List Value) (hc : c.length = s) (hs : 0 < s) (n : Nat) (z : Array Value) (hz : z.toList = c) : (flat (fun _ => c) n).toArray = madeCells z (n * s) := by
  have hzs : z.size = s := by rw [← Array.length_toList, hz, hc]
  apply Array.ext'
  unfold madeCells
  apply List.ext_getElem?
  intro i
  rw [Array.toList_map, Array.toList_range, List.getElem?_map]
  by_cases hi : i < n * s
  · have hk : i / s < n := Nat.div_lt_of_lt_mul (by rw [Nat.mul_comm]; exact hi)
    have h := flat_in (s := s) (f := fun _ => c) (fun _ => hc) (n := n) (k := i / s) (o := i) (e := i % s) (m := 1) hk (by rw [Nat.mul_comm]; exact (Nat.div_add_mod i s).symm) (Nat.mod_lt _ hs)
    have h2 := congrArg (·[0]?) h
    simp only [List.getElem?_take, List.getElem?_drop, Nat.zero_lt_one, if_true, Nat.add_zero] at h2
    rw [h2, List.getElem?_range hi]
    have hm : i % s < s := Nat.mod_lt _ hs
    simp only [Option.map_some, hzs]
    rw [← hz]
    simp [hzs, hm]
  · rw [List.getElem?_eq_none (by rw [flat_len (s := s) (fun _ => hc)]; omega), List.getElem?_eq_none (by simp; omega)]
    rfl
end

/-- A's parts up to k, z behind -/
def upto (k : Nat) (A : Nat → List Value) (z : List Value) (j : Nat) : List Value := if j < k then A j else z
section
variable {s n k : Nat} {A : Nat → List Value} {z : List Value}
theorem upto_len (hA : ∀ j, (A j).length = s) (hz : z.length = s) (k : Nat) : ∀ j, (upto k A z j).length = s := fun j => by
  unfold upto
  split
  · exact hA j
  · exact hz
theorem upto_lt {j : Nat} (h : j < k) : upto k A z j = A j := if_pos h
theorem upto_one (hA : ∀ j, ∀ u ∈ A j, u.oneCell' = true) (hz : ∀ u ∈ z, u.oneCell' = true) (k : Nat) : ∀ j, ∀ u ∈ upto k A z j, u.oneCell' = true := fun j u hu => by
  unfold upto at hu
  split at hu
  · exact hA j u hu
  · exact hz u hu
theorem upto_zero : (flat (fun _ => z) n).toArray = (flat (upto 0 A z) n).toArray := congrArg List.toArray (flat_congr fun j _ => by unfold upto; rw [if_neg (by omega)])
theorem upto_all : (flat (upto n A z) n).toArray = (flat A n).toArray := congrArg List.toArray (flat_congr fun j hj => upto_lt hj)
theorem upto_set (hA : ∀ j, (A j).length = s) (hz : z.length = s) {v : List Value} (hv : A k = v) (hk : k < n) {o : Nat} (ho : o = k * s) : setAll (flat (upto k A z) n).toArray o v = (flat (upto (k + 1) A z) n).toArray := by
  rw [flat_set (upto_len hA hz k) (by rw [← hv]; exact hA k) hk ho]
  refine congrArg List.toArray (flat_congr fun j _ => ?_)
  unfold upto
  by_cases e : j = k
  · subst e
    rw [if_pos rfl, if_pos (by omega), hv]
  · rw [if_neg e]
    by_cases h : j < k
    · rw [if_pos h, if_pos (by omega)]
    · rw [if_neg h, if_neg (by omega)]
theorem upto_set1 (hA : ∀ j, (A j).length = 1) {u v : Value} (hv : A k = [v]) (hk : k < n) : (flat (upto k A [u]) n).toArray.setIfInBounds k v = (flat (upto (k + 1) A [u]) n).toArray := by
  have h := upto_set (s := 1) (z := [u]) hA rfl hv hk (Nat.mul_one k).symm
  simpa only [setAll] using h
theorem flat_load {f : Nat → List Value} (h : ∀ j, (f j).length = s) (hk : k < n) {o : Nat} (ho : o = k * s) : Value.agg (((flat f n).toArray.toList.drop o).take s).toArray = .agg (f k).toArray := by
  rw [show (flat f n).toArray.toList = flat f n from rfl, flat_at h hk ho]
theorem flat_fit {f : Nat → List Value} (h : ∀ j, (f j).length = s) (hk : k < n) {o : Nat} (ho : o = k * s) : o + s ≤ (flat f n).toArray.size := by
  have hks : k * s + s ≤ n * s := by rw [← Nat.succ_mul]; exact Nat.mul_le_mul_right s hk
  rw [List.size_toArray, flat_len h]
  omega
end

section
variable {s n m : Nat} {f : Nat → List Value}
theorem flat_whole (h : ∀ j, (f j).length = s) (hm : n * s = m) : Value.agg (((flat f n).toArray.toList.drop 0).take m).toArray = .agg (flat f n).toArray := by
  rw [show (flat f n).toArray.toList = flat f n from rfl, List.drop_zero, List.take_of_length_le (by rw [flat_len h, hm]; exact Nat.le_refl _)]
theorem flat_wsize (h : ∀ j, (f j).length = s) (hm : n * s = m) : 0 + m ≤ (flat f n).toArray.size := by
  rw [List.size_toArray, flat_len h]; omega
theorem flat_info (h : ∀ j, (f j).length = s) {x : Option Nat} (hx : x = some (n * s)) : x = some (flat f n).toArray.size := by
  rw [hx, List.size_toArray, flat_len h]
theorem flat_over (h : ∀ j, (f j).length = s) (hm : n * s = m) {cs : Array Value} (hc : cs.size = m) : 0 + (flat f n).toArray.size ≤ cs.size := by
  rw [List.size_toArray, flat_len h]; omega
theorem flat_put (h : ∀ j, (f j).length = s) {cs : Array Value} (hc : cs.size = n * s) : setAll cs 0 (flat f n).toArray.toList = (flat f n).toArray := by
  have hl : (flat f n).toArray.toList.length = cs.size := by
    rw [hc]
    exact flat_len h n
  rw [setAll_is _ _ _ (by omega), List.take_zero, List.drop_eq_nil_of_le (by rw [Array.length_toList]; omega)]
  simp
theorem flat_lt1 (h : ∀ j, (f j).length = 1) {k o : Nat} (hk : k < n) (ho : o = k * 1) : o < (flat f n).toArray.size := by
  rw [List.size_toArray, flat_len h]; omega
end

section
variable {P : Program} {w0 : Base} {n : Nat} {Q : Exit → Act → World → Prop} {F : Slots} {L : Blocks} {ops : Array Oper} {o : Oper} {l : List Oper}

/-- a part of a block -/
theorem blk_range {w : World} {g : Nat} {t : TypeId} {cs : Array Value} (h : Blk w g t cs) {o : Nat} {vs : List Value} (e : (cs.toList.drop o).take vs.length = vs) : w.rangeAt g o vs := fun j v hj => by
  rw [h.cell]
  rw [← e] at hj
  have hlt : j < vs.length := by
    have h := (List.getElem?_eq_some_iff.1 hj).1
    rw [List.length_take] at h
    exact Nat.lt_of_lt_of_le h (Nat.min_le_left _ _)
  rw [List.getElem?_take_of_lt hlt, List.getElem?_drop] at hj
  simpa using hj
theorem range_left {w : World} {g o : Nat} {a b : List Value} (h : w.rangeAt g o (a ++ b)) : w.rangeAt g o a := fun j v hj => h j v (by rw [List.getElem?_append_left (List.getElem?_eq_some_iff.1 hj).1]; exact hj)
theorem range_right {w : World} {g o n : Nat} {a b : List Value} (h : w.rangeAt g o (a ++ b)) (hn : a.length = n) : w.rangeAt g (o + n) b := fun j v hj => by
  rw [Nat.add_assoc]
  refine h (n + j) v ?_
  rw [List.getElem?_append_right (by omega), show n + j - a.length = j by omega]
  exact hj
theorem range_flat {w : World} {g o n s k : Nat} {f : Nat → List Value} (h : w.rangeAt g o (flat f n)) (hs : ∀ j, (f j).length = s) (hk : k < n) : w.rangeAt g (o + k * s) (f k) := fun j v hj => by
  rw [Nat.add_assoc]
  refine h (k * s + j) v ?_
  have e := flat_at hs hk rfl
  rw [← e] at hj
  have hlt : j < s := by
    have h := (List.getElem?_eq_some_iff.1 hj).1
    rw [List.length_take] at h
    exact Nat.lt_of_lt_of_le h (Nat.min_le_left _ _)
  rw [List.getElem?_take_of_lt hlt, List.getElem?_drop] at hj
  exact hj

/-! ## Numbers that are not written out -/
theorem exec_int (op : BinOp) (t : TypeId) (x y : Operand) {yt : TypeId} (k : IntKind) {k' : IntKind} (a b : Int) (v : Value) (ho : o.op = .binOp op t x y yt) (hx : evF F x = .int k a) (hy : evF F y = .int k' b) (h : ∀ w, (binOp op t (.int k a) (.int k' b)).run P w = .ok v w) (w : World) :
    (execOp (evF F) o).run P w = .ok (.value v) w := by
  have h1 : (eqGuard op t x y (.int k a) (.int k' b)).run P w = .ok () w := by
    unfold eqGuard
    cases op <;> rfl
  unfold execOp
  simp only [ho, hx, hy, Sem.run_bind, h1, h w, Result.andThen_ok, Sem.run_pure]
theorem wrap_i64 {z : Int} (h0 : -9223372036854775808 ≤ z) (h1 : z < 9223372036854775808) : IntKind.i64.wrap z = z := by
  unfold IntKind.wrap; simp [IntKind.bits, IntKind.signed]; omega
theorem int_add (t : TypeId) (k : IntKind) (a b c : Int) (h : k.wrap (a + b) = c) (w : World) : (binOp .add t (.int k a) (.int k b)).run P w = .ok (.int k c) w := by simp [binOp, Op.intArith, h]
theorem int_sub (t : TypeId) (k : IntKind) (a b c : Int) (h : k.wrap (a - b) = c) (w : World) : (binOp .sub t (.int k a) (.int k b)).run P w = .ok (.int k c) w := by simp [binOp, Op.intArith, h]
theorem int_mul (t : TypeId) (k : IntKind) (a b c : Int) (h : k.wrap (a * b) = c) (w : World) : (binOp .mul t (.int k a) (.int k b)).run P w = .ok (.int k c) w := by simp [binOp, Op.intArith, h]
theorem int_and (t : TypeId) (k : IntKind) (a b c : Int) (h : k.wrap ((BitVec.ofInt k.bits a &&& BitVec.ofInt k.bits b).toNat : Int) = c) (w : World) : (binOp .and t (.int k a) (.int k b)).run P w = .ok (.int k c) w := by
  simp only [binOp, ne_eq, not_true_eq_false, if_false, Op.intBits, Sem.run_pure]
  rw [h]
theorem int_shr (t : TypeId) (k k' : IntKind) (a b c : Int) (hb : ¬ b < 0) (h : a.fdiv (2 ^ min b.toNat k.bits) = c) (w : World) : (binOp .shr t (.int k a) (.int k' b)).run P w = .ok (.int k c) w := by
  simp only [binOp, Op.shift, if_neg hb, Sem.run_pure, h]
theorem int_lss (t : TypeId) (k : IntKind) (a b : Int) (c : Bool) (h : decide (a < b) = c) (w : World) : (binOp .lss t (.int k a) (.int k b)).run P w = .ok (.bool c) w := by simp [binOp, Op.intCmp, ← h]
/-- an element of a slice -/
theorem exec_at (t e : TypeId) (x kx : Operand) (g f len cap k s : Nat) (ki : IntKind) (ho : o.op = .indexAddr t x kx) (hx : evF F x = .slice (some ⟨g, f, none⟩) len cap) (hkx : evF F kx = .int ki (k : Int)) (ht : P.underlying t = some (.slice e)) (hsz : ∀ w, (sizeOf e).run P w = .ok s w) (hk : k < len) (w : World) :
    (execOp (evF F) o).run P w = .ok (.value (.pointer (some ⟨g, f + k * s, none⟩))) w := by
  have h0 : (0 : Int) ≤ k := by omega
  have h1 : ((k : Int).toNat) = k := by omega
  unfold execOp
  simp [ho, hx, hkx, Instr.indexAt, asIntOf, run_underlying ht, hsz, h0, hk, addr_off, Result.andThen]
/-- .. of an array, by the array's address -/
theorem exec_atA (t e : TypeId) (x kx : Operand) (g f m k s : Nat) (ki : IntKind) (ho : o.op = .indexAddr t x kx) (hx : evF F x = .pointer (some ⟨g, f, none⟩)) (hkx : evF F kx = .int ki (k : Int)) (ht : P.underlying t = some (.array m e)) (hsz : ∀ w, (sizeOf e).run P w = .ok s w) (hk : k < m) (w : World) :
    (execOp (evF F) o).run P w = .ok (.value (.pointer (some ⟨g, f + k * s, none⟩))) w := by
  have h0 : (0 : Int) ≤ k := by omega
  unfold execOp
  simp [ho, hx, hkx, Instr.indexAt, asIntOf, run_underlying ht, hsz, h0, hk, addr_off, Result.andThen, Instr.sureAddr]
/-- a slice of a slice: from lo on -/
theorem exec_sl1 (t : TypeId) (x lx : Operand) (g f len cap lo s : Nat) (kl : IntKind) (ho : o.op = .slice t x (some lx) none none) (hx : evF F x = .slice (some ⟨g, f, none⟩) len cap) (hl : evF F lx = .int kl (lo : Int)) (ht : P.underlying t = some (.slice (P.elem t))) (hsz : ∀ w, (sizeOf (P.elem t)).run P w = .ok s w) (h1 : lo ≤ len) (h2 : lo < cap) (w : World) :
    (execOp (evF F) o).run P w = .ok (.value (.slice (some ⟨g, f + lo * s, none⟩) (len - lo) (cap - lo))) w := by
  have hne : ¬ cap = lo := by omega
  have e : (Instr.sliceAt t (.slice (some ⟨g, f, none⟩) len cap) (some (.int kl (lo : Int))) none none).run P w = .ok (.slice (some ⟨g, f + lo * s, none⟩) (len - lo) (cap - lo)) w := by
    rw [run_sliceAt_slice w t _ _ _ _ ht, run_slice_l w t (some ⟨g, f, none⟩) len cap ht kl lo (by omega) (by omega)]
    simp [hsz, sliced, hne, addr_off, Result.andThen]
  unfold execOp
  simp only [ho, hx, hl, Option.map_some, Option.map_none, e, Sem.run_bind, Sem.run_pure, Result.andThen_ok]
/-- .. from lo to hi, up to mx -/
theorem exec_sl3 (t : TypeId) (x lx hx' mx' : Operand) (g f len cap lo hi mx s : Nat) (kl kh km : IntKind) (ho : o.op = .slice t x (some lx) (some hx') (some mx')) (hx : evF F x = .slice (some ⟨g, f, none⟩) len cap) (hl : evF F lx = .int kl (lo : Int)) (hh : evF F hx' = .int kh (hi : Int)) (hm : evF F mx' = .int km (mx : Int)) (ht : P.underlying t = some (.slice (P.elem t))) (hsz : ∀ w, (sizeOf (P.elem t)).run P w = .ok s w)
    (h1 : lo ≤ hi) (h2 : hi ≤ mx) (h3 : mx ≤ cap) (h4 : lo < mx) (w : World) : (execOp (evF F) o).run P w = .ok (.value (.slice (some ⟨g, f + lo * s, none⟩) (hi - lo) (mx - lo))) w := by
  have hne : ¬ mx = lo := by omega
  have e : (Instr.sliceAt t (.slice (some ⟨g, f, none⟩) len cap) (some (.int kl (lo : Int))) (some (.int kh (hi : Int))) (some (.int km (mx : Int)))).run P w = .ok (.slice (some ⟨g, f + lo * s, none⟩) (hi - lo) (mx - lo)) w := by
    rw [run_sliceAt_slice w t _ _ _ _ ht, run_slice_lhm w t (some ⟨g, f, none⟩) len cap ht kl kh km lo hi mx (by omega) (by omega) (by omega) (by omega)]
    simp [hsz, sliced, hne, addr_off, Result.andThen]
  unfold execOp
  simp only [ho, hx, hl, hh, hm, Option.map_some, e, Sem.run_bind, Sem.run_pure, Result.andThen_ok]
/-- the lesser of two -/
theorem exec_min (x y : Operand) {ts : Array TypeId} (k : IntKind) (a b c : Nat) (ho : o.op = .call { callee := .builtin .min, args := #[x, y], argTypes := ts }) (hx : evF F x = .int k (a : Int)) (hy : evF F y = .int k (b : Int)) (h : min a b = c) (w : World) : (execOp (evF F) o).run P w = .ok (.value (.int k (c : Int))) w := by
  have e : (if (b : Int) < (a : Int) then (b : Int) else (a : Int)) = (c : Int) := by split <;> omega
  unfold execOp
  simp [ho, hx, hy, resolve, invoke, builtin, Builtin.min_, Builtin.min2, Sem.run_bind, Result.andThen]
  omega
/-- a cell of an array's value -/
theorem exec_idx (t e : TypeId) (x kx : Operand) (cs : Array Value) (m k : Nat) (ki : IntKind) (d : TypeDesc) (c : Value) (ho : o.op = .index t x kx) (hx : evF F x = .agg cs) (hkx : evF F kx = .int ki (k : Int)) (ht : P.underlying t = some (.array m e)) (he : P.underlying e = some d) (hd : d.isRow = false) (hsz : ∀ w, (sizeOf e).run P w = .ok 1 w) (hk : k < m) (hc : cs[k]? = some c) (w : World) :
    (execOp (evF F) o).run P w = .ok (.value c) w := by
  have h0 : (0 : Int) ≤ k := by omega
  have ha : (isAgg e).run P w = .ok false w := by
    cases d <;> first | (cases hd; done) | simp [isAgg, underlying, he]
  have pc : (part e cs ((k : Int).toNat * 1)).run P w = .ok c w := by
    simp [part, ha, hc, Result.andThen]
  unfold execOp
  simp only [ho, hx, hkx, Instr.index, asIntOf, Sem.run_bind, Sem.run_pure, Result.andThen_ok, run_underlying ht]
  rw [if_pos ⟨by omega, by omega⟩]
  simp only [Sem.run_bind, hsz, Result.andThen_ok, pc, Sem.run_pure]

/-! ## Loops by what is known at their heads -/
/-- .. where all that is known hangs on the round's number alone -/
def NextK (w0 : Base) (n N : Nat) (FF : Nat → Slots) (LL : Nat → Blocks) (k : Nat) : Act → World → Prop := fun a w => k < N ∧ Fr w0.ds a n (FF (k + 1)) ∧ St w0 w (LL (k + 1))
theorem loopK {c : Code} (N : Nat) (FF : Nat → Slots) (LL : Nat → Blocks) (m : List Bool) {M : Blocks} (hF : ∀ p ∈ FF 0, F.lookup p.1 = some p.2) (hL : sel L m = M) (hM : M = LL 0)
    (hr : ∀ k, k ≤ N → wpC P w0 n (Exit.then (NextK w0 n N FF LL k) Q) (FF k) (LL k) c) : wpC P w0 n Q F L (.loop c) :=
  loopI N (fun k a w => Fr w0.ds a n (FF k) ∧ St w0 w (LL k)) (fun _ _ ha hw => ⟨ha.all hF, hM ▸ hL ▸ hw.less (sel_sub L m)⟩)
    fun k hk a w ⟨ha, hw⟩ => hr k hk a w ha hw
theorem againK {N : Nat} {FF : Nat → Slots} {LL : Nat → Blocks} {k : Nat} {R : Exit → Act → World → Prop} (m : List Bool) {M : Blocks} (hk : k < N) (hF : ∀ p ∈ FF (k + 1), F.lookup p.1 = some p.2) (hL : sel L m = M) (hM : M = LL (k + 1)) :
    X w0 n (Exit.then (NextK w0 n N FF LL k) R) F L .normal := fun _ _ ha hw => ⟨hk, ha.all hF, hM ▸ hL ▸ hw.less (sel_sub L m)⟩
theorem bcons {x y : Nat × TypeId × Array Value} {l m : Blocks} (h : x = y) (k : l = m) : x :: l = y :: m := by rw [h, k]
theorem beq {g : Nat} {t : TypeId} {a b : Array Value} (h : a = b) : (g, t, a) = (g, t, b) := by rw [h]

/-! ## More operations -/
/-- a slice that is made -/
theorem Makes.slice (t e : TypeId) (i : TypeInfo) (z : Value) (s b : Nat) (x y : Operand) (kl kc : IntKind) (m : Nat) (c : List Value) (ho : o.op = .makeSlice t x y) (hx : evF F x = .int kl (m : Int)) (hy : evF F y = .int kc (m : Int)) (ht : P.underlying t = some (.slice e)) (hi : P.info? e = some i) (hz : i.zero = some z) (hs : i.size = s) (hs0 : 0 < s) (hb : i.bytes = b)
    (hc : z.cells.toList = c) (hcl : c.length = s) (hbytes : b * m ≤ 281474976710656) (h63 : m ≤ 9223372036854775807) : Makes P F o e (flat (fun _ => c) m).toArray (fun g => .slice (some ⟨g, 0, none⟩) m m) := fun w => by
  subst hs hb
  have hb : (i.bytes : Int) * (m : Int) ≤ 281474976710656 := by
    have h : ((i.bytes * m : Nat) : Int) ≤ 281474976710656 := by omega
    rwa [Int.natCast_mul] at h
  have hr := run_make (P := P) w t e i z ht hi hz kl kc m m (by omega) (Int.le_refl _) hb (by omega)
  simp only [Int.toNat_natCast] at hr
  unfold execOp
  simp only [ho, hx, hy, Sem.run_bind, Sem.run_pure, hr, Result.andThen_ok]
  rw [flat_const c hcl hs0 m z.cells hc]
end
end Go.Proofs.Ytneeefinaejgcaa.Sy

end
section
namespace Go.Proofs.Ytneeefinaejgcaa.Sc
open Go.RowKit

/-- the modulus -/
def pM : Nat := 115792089237316195423570985008687907852837564279074904382605163141518161494337
theorem pM_eq : pM = 115792089237316195423570985008687907852837564279074904382605163141518161494337 := rfl
theorem mod_lt (n : Nat) : n % pM < 115792089237316195423570985008687907853269984665640564039457584007913129639936 := by have := Nat.mod_lt n (show 0 < pM by decide); rw [pM_eq] at this ⊢; omega
def addP (x y : Nat) : Nat := (x + y) % pM
def mulP (x y : Nat) : Nat := x * y % pM
/-- what is p or more, and below 2^256, loses p once -/
theorem red_once (x : Nat) (hx : x < 115792089237316195423570985008687907853269984665640564039457584007913129639936) : x % pM = if x + 432420386565659656852420866394968145599 < 115792089237316195423570985008687907853269984665640564039457584007913129639936 then x else x + 432420386565659656852420866394968145599 - 115792089237316195423570985008687907853269984665640564039457584007913129639936 := by
  rw [pM_eq]
  by_cases h : x + 432420386565659656852420866394968145599 < 115792089237316195423570985008687907853269984665640564039457584007913129639936
  · rw [if_pos h]; exact Nat.mod_eq_of_lt (by omega)
  · rw [if_neg h, Nat.mod_eq_sub_mod (by omega), Nat.mod_eq_of_lt (by omega)]
    omega
/-- a difference by a multiple of p does not count -/
theorem mod_of_mult {x z k : Nat} (h : z + 115792089237316195423570985008687907852837564279074904382605163141518161494337 * k = x) : z % pM = x % pM := by
  rw [← h, pM_eq, Nat.add_mul_mod_self_left]
end Go.Proofs.Ytneeefinaejgcaa.Sc

end
