/-
  Texts of ours, put together: CrvL, CrvM, CrvO, SymB, SymC, SymE, ScSpec, ScLow, FeB32, FeRead, RefSqrt, RootNum, CrvD.
-/
import Derived.Test.YtneeefinaejgcaaBC6
set_option linter.unusedVariables false
set_option linter.unusedSimpArgs false
section
namespace Go.Proofs.Ytneeefinaejgcaa.Cu
open Go.RowKit Go.Proofs.Ytneeefinaejgcaa Go.Proofs.Ytneeefinaejgcaa.Sy

set_option maxHeartbeats 4000000 in
set_option maxRecDepth 100000 in
theorem addJ_c (w : World) (a b : J) : Calls Try.prog 45 #[tv a.x.val a.y.val a.z.val, tv b.x.val b.y.val b.z.val] w (Gets w (tv (addJ a b).x.val (addJ a b).y.val (addJ a b).z.val)) := by
  refine Sy.enter (args := [tv a.x.val a.y.val a.z.val, tv b.x.val b.y.val b.z.val]) Try.func45 rfl (Nat.le_of_ble_eq_true (by kernel_rfl)) ?_
  refine Sy.seq ?_
  refine Sy.region ?_
  refine Sy.make (by kernel_rfl) 73 (tcs a.x.val a.y.val a.z.val) ptr (fun _ => by kernel_rfl) (fun g0 => ?_)
  refine Sy.make (by kernel_rfl) 73 (tcs b.x.val b.y.val b.z.val) ptr (fun _ => by kernel_rfl) (fun g1 => ?_)
  refine Sy.make (by kernel_rfl) 73 (tcs 0 0 0) ptr (fun _ => by kernel_rfl) (fun g2 => ?_)
  refine Sy.nil ?_
  refine Sy.then_ ?_
  refine Sy.seq ?_
  refine Sy.seq ?_
  refine Sy.regionD (fun j => false) (by kernel_rfl) ?_
  refine Sy.stepD 0 rfl (by kernel_rfl) (fun _ _ _ _ h => h) (by kernel_rfl) (.pointer (some ⟨g0, 8, none⟩)) (Quiet.pure (fun _ => by kernel_rfl)) ?_
  refine Sy.stepD 1 rfl (by kernel_rfl) (fun _ _ _ _ h => h) (by kernel_rfl) (fv a.z.val) (Quiet.load 0 g0 8 4 73 25 (tcs a.x.val a.y.val a.z.val) _ _ rfl (by kernel_rfl) (by kernel_rfl) Try.underlying25 rfl (by kernel_rfl) _ (by kernel_rfl) (Nat.le_of_ble_eq_true (by kernel_rfl))) ?_
  obtain ⟨z1, hz1⟩ : ∃ z : Fp, z = (0 : Fp) := ⟨_, rfl⟩
  refine Sy.stepD 2 rfl (by kernel_rfl) (fun _ _ _ _ h => h) (by kernel_rfl) (fv z1.val) (Quiet.call 77 #[.int .u64 0] (fun _ => by kernel_rfl) (fun w => by rw [hz1]; exact of_c 0 (by decide +kernel) (by decide) w)) ?_
  obtain ⟨b1, hb1⟩ : ∃ z : Bool, z = decide (a.z.val = z1.val) := ⟨_, rfl⟩
  refine Sy.stepD 3 rfl (by kernel_rfl) (fun _ _ _ _ h => h) (by kernel_rfl) (.bool b1) (Quiet.pure (fun w => by rw [hb1]; exact eql_fe w _ _ _ _ _ _ rfl rfl rfl (by first | assumption | exact lt4 _ | decide +kernel) (by first | assumption | exact lt4 _ | decide +kernel))) ?_
  refine Sy.doneD (by kernel_rfl) ?_
  refine Sy.then_ ?_
  cases b1
  · have eb1 : a.z ≠ 0 := fun e => of_decide_eq_false hb1.symm (by rw [e, hz1])
    refine Sy.cond_f (by kernel_rfl) (by kernel_rfl) ?_
    refine Sy.skip ?_
    refine Sy.then_ ?_
    refine Sy.seq ?_
    refine Sy.seq ?_
    refine Sy.regionD (fun j => false) (by kernel_rfl) ?_
    refine Sy.stepD 0 rfl (by kernel_rfl) (fun _ _ _ _ h => h) (by kernel_rfl) (.pointer (some ⟨g1, 8, none⟩)) (Quiet.pure (fun _ => by kernel_rfl)) ?_
    refine Sy.stepD 1 rfl (by kernel_rfl) (fun _ _ _ _ h => h) (by kernel_rfl) (fv b.z.val) (Quiet.load 1 g1 8 4 73 25 (tcs b.x.val b.y.val b.z.val) _ _ rfl (by kernel_rfl) (by kernel_rfl) Try.underlying25 rfl (by kernel_rfl) _ (by kernel_rfl) (Nat.le_of_ble_eq_true (by kernel_rfl))) ?_
    obtain ⟨z2, hz2⟩ : ∃ z : Fp, z = (0 : Fp) := ⟨_, rfl⟩
    refine Sy.stepD 2 rfl (by kernel_rfl) (fun _ _ _ _ h => h) (by kernel_rfl) (fv z2.val) (Quiet.call 77 #[.int .u64 0] (fun _ => by kernel_rfl) (fun w => by rw [hz2]; exact of_c 0 (by decide +kernel) (by decide) w)) ?_
    obtain ⟨b2, hb2⟩ : ∃ z : Bool, z = decide (b.z.val = z2.val) := ⟨_, rfl⟩
    refine Sy.stepD 3 rfl (by kernel_rfl) (fun _ _ _ _ h => h) (by kernel_rfl) (.bool b2) (Quiet.pure (fun w => by rw [hb2]; exact eql_fe w _ _ _ _ _ _ rfl rfl rfl (by first | assumption | exact lt4 _ | decide +kernel) (by first | assumption | exact lt4 _ | decide +kernel))) ?_
    refine Sy.doneD (by kernel_rfl) ?_
    refine Sy.then_ ?_
    cases b2
    · have eb2 : b.z ≠ 0 := fun e => of_decide_eq_false hb2.symm (by rw [e, hz2])
      refine Sy.cond_f (by kernel_rfl) (by kernel_rfl) ?_
      refine Sy.skip ?_
      refine Sy.then_ ?_
      refine Sy.seq ?_
      refine Sy.region ?_
      refine Sy.step (by kernel_rfl) (tv a.x.val a.y.val a.z.val) (Quiet.load 0 g0 0 12 73 73 (tcs a.x.val a.y.val a.z.val) _ _ rfl (by kernel_rfl) (by kernel_rfl) Try.underlying73 rfl (by kernel_rfl) _ (by kernel_rfl) (Nat.le_of_ble_eq_true (by kernel_rfl))) ?_
      refine Sy.step (by kernel_rfl) (.pointer (some ⟨g1, 8, none⟩)) (Quiet.pure (fun _ => by kernel_rfl)) ?_
      refine Sy.step (by kernel_rfl) (fv b.z.val) (Quiet.load 1 g1 8 4 73 25 (tcs b.x.val b.y.val b.z.val) _ _ rfl (by kernel_rfl) (by kernel_rfl) Try.underlying25 rfl (by kernel_rfl) _ (by kernel_rfl) (Nat.le_of_ble_eq_true (by kernel_rfl))) ?_
      obtain ⟨z3, hz3⟩ : ∃ z : Fp, z = uJ a b := ⟨_, rfl⟩
      obtain ⟨z4, hz4⟩ : ∃ z : Fp, z = vJ a b := ⟨_, rfl⟩
      refine Sy.step (by kernel_rfl) (.tuple #[fv z3.val, fv z4.val]) (Quiet.call 79 #[tv a.x.val a.y.val a.z.val, fv b.z.val] (fun _ => by kernel_rfl) (fun w => by rw [hz3, hz4]; exact widened_c w a b.z)) ?_
      refine Sy.step (by kernel_rfl) (.tuple #[fv z3.val, fv z4.val]) (Quiet.pure (fun _ => by kernel_rfl)) ?_
      refine Sy.step (by kernel_rfl) (fv z3.val) (Quiet.pure (fun _ => by kernel_rfl)) ?_
      refine Sy.step (by kernel_rfl) (fv z4.val) (Quiet.pure (fun _ => by kernel_rfl)) ?_
      refine Sy.make (by kernel_rfl) 25 (fcs 0) ptr (fun _ => by kernel_rfl) (fun g3 => ?_)
      refine Sy.make (by kernel_rfl) 25 (fcs 0) ptr (fun _ => by kernel_rfl) (fun g4 => ?_)
      refine Sy.write (by kernel_rfl) 3 g3 25 (fcs 0) (fcs z3.val) (by kernel_rfl) (Writes.store 0 25 (fcs z3.val) _ _ rfl (by kernel_rfl) (by kernel_rfl) (by kernel_rfl) (Nat.le_of_ble_eq_true (by kernel_rfl)) (by kernel_rfl) (by kernel_rfl)) ?_
      refine Sy.write (by kernel_rfl) 4 g4 25 (fcs 0) (fcs z4.val) (by kernel_rfl) (Writes.store 0 25 (fcs z4.val) _ _ rfl (by kernel_rfl) (by kernel_rfl) (by kernel_rfl) (Nat.le_of_ble_eq_true (by kernel_rfl)) (by kernel_rfl) (by kernel_rfl)) ?_
      refine Sy.nil ?_
      refine Sy.then_ ?_
      refine Sy.seq ?_
      refine Sy.region ?_
      refine Sy.step (by kernel_rfl) (tv b.x.val b.y.val b.z.val) (Quiet.load 1 g1 0 12 73 73 (tcs b.x.val b.y.val b.z.val) _ _ rfl (by kernel_rfl) (by kernel_rfl) Try.underlying73 rfl (by kernel_rfl) _ (by kernel_rfl) (Nat.le_of_ble_eq_true (by kernel_rfl))) ?_
      refine Sy.step (by kernel_rfl) (.pointer (some ⟨g0, 8, none⟩)) (Quiet.pure (fun _ => by kernel_rfl)) ?_
      refine Sy.step (by kernel_rfl) (fv a.z.val) (Quiet.load 0 g0 8 4 73 25 (tcs a.x.val a.y.val a.z.val) _ _ rfl (by kernel_rfl) (by kernel_rfl) Try.underlying25 rfl (by kernel_rfl) _ (by kernel_rfl) (Nat.le_of_ble_eq_true (by kernel_rfl))) ?_
      obtain ⟨z5, hz5⟩ : ∃ z : Fp, z = uJ b a := ⟨_, rfl⟩
      obtain ⟨z6, hz6⟩ : ∃ z : Fp, z = vJ b a := ⟨_, rfl⟩
      refine Sy.step (by kernel_rfl) (.tuple #[fv z5.val, fv z6.val]) (Quiet.call 79 #[tv b.x.val b.y.val b.z.val, fv a.z.val] (fun _ => by kernel_rfl) (fun w => by rw [hz5, hz6]; exact widened_c w b a.z)) ?_
      refine Sy.step (by kernel_rfl) (.tuple #[fv z5.val, fv z6.val]) (Quiet.pure (fun _ => by kernel_rfl)) ?_
      refine Sy.step (by kernel_rfl) (fv z5.val) (Quiet.pure (fun _ => by kernel_rfl)) ?_
      refine Sy.step (by kernel_rfl) (fv z6.val) (Quiet.pure (fun _ => by kernel_rfl)) ?_
      refine Sy.make (by kernel_rfl) 25 (fcs 0) ptr (fun _ => by kernel_rfl) (fun g5 => ?_)
      refine Sy.make (by kernel_rfl) 25 (fcs 0) ptr (fun _ => by kernel_rfl) (fun g6 => ?_)
      refine Sy.write (by kernel_rfl) 5 g5 25 (fcs 0) (fcs z5.val) (by kernel_rfl) (Writes.store 0 25 (fcs z5.val) _ _ rfl (by kernel_rfl) (by kernel_rfl) (by kernel_rfl) (Nat.le_of_ble_eq_true (by kernel_rfl)) (by kernel_rfl) (by kernel_rfl)) ?_
      refine Sy.write (by kernel_rfl) 6 g6 25 (fcs 0) (fcs z6.val) (by kernel_rfl) (Writes.store 0 25 (fcs z6.val) _ _ rfl (by kernel_rfl) (by kernel_rfl) (by kernel_rfl) (Nat.le_of_ble_eq_true (by kernel_rfl)) (by kernel_rfl) (by kernel_rfl)) ?_
      refine Sy.nil ?_
      refine Sy.then_ ?_
      refine Sy.seq ?_
      refine Sy.regionD (fun j => j == 8 || j == 9) (by kernel_rfl) ?_
      refine Sy.stepD 0 rfl (by kernel_rfl) (fun _ _ _ _ h => h) (by kernel_rfl) (fv z5.val) (Quiet.load 5 g5 0 4 25 25 (fcs z5.val) _ _ rfl (by kernel_rfl) (by kernel_rfl) Try.underlying25 rfl (by kernel_rfl) _ (by kernel_rfl) (Nat.le_of_ble_eq_true (by kernel_rfl))) ?_
      refine Sy.stepD 1 rfl (by kernel_rfl) (fun _ _ _ _ h => h) (by kernel_rfl) (fv z3.val) (Quiet.load 3 g3 0 4 25 25 (fcs z3.val) _ _ rfl (by kernel_rfl) (by kernel_rfl) Try.underlying25 rfl (by kernel_rfl) _ (by kernel_rfl) (Nat.le_of_ble_eq_true (by kernel_rfl))) ?_
      obtain ⟨z7, hz7⟩ : ∃ z : Fp, z = z5 - z3 := ⟨_, rfl⟩
      refine Sy.stepD 2 rfl (by kernel_rfl) (fun _ _ _ _ h => h) (by kernel_rfl) (fv z7.val) (Quiet.call 59 #[fv z5.val, fv z3.val] (fun _ => by kernel_rfl) (by rw [hz7]; exact sub_c z5 z3)) ?_
      refine Sy.stepDB 3 [5, 8, 9] rfl (by kernel_rfl) (fun _ _ _ _ h => h) (by kernel_rfl) (fv z6.val) (Quiet.load 6 g6 0 4 25 25 (fcs z6.val) _ _ rfl (by kernel_rfl) (by kernel_rfl) Try.underlying25 rfl (by kernel_rfl) _ (by kernel_rfl) (Nat.le_of_ble_eq_true (by kernel_rfl))) ?_
      refine Sy.stepDB 4 [5, 8, 9] rfl (by kernel_rfl) (fun _ _ _ _ h => h) (by kernel_rfl) (fv z4.val) (Quiet.load 4 g4 0 4 25 25 (fcs z4.val) _ _ rfl (by kernel_rfl) (by kernel_rfl) Try.underlying25 rfl (by kernel_rfl) _ (by kernel_rfl) (Nat.le_of_ble_eq_true (by kernel_rfl))) ?_
      obtain ⟨z8, hz8⟩ : ∃ z : Fp, z = z6 - z4 := ⟨_, rfl⟩
      refine Sy.stepD 5 rfl (by kernel_rfl) (fun _ _ _ _ h => h) (by kernel_rfl) (fv z8.val) (Quiet.call 59 #[fv z6.val, fv z4.val] (fun _ => by kernel_rfl) (by rw [hz8]; exact sub_c z6 z4)) ?_
      refine Sy.makeDuo 6 7 rfl rfl (by kernel_rfl) (by kernel_rfl) (by kernel_rfl) 9 10 rfl rfl rfl (by decide) (by kernel_rfl) (by kernel_rfl) (fun _ => by kernel_rfl) (fun _ => by kernel_rfl) 25 25 (fcs 0) (fcs 0) ptr ptr (fun _ _ => by kernel_rfl) (fun _ _ => by kernel_rfl) (fun g7 g8 => ?_)
      refine Sy.writeD 8 rfl (by kernel_rfl) (by rfl) (by kernel_rfl) 7 g7 25 (fcs 0) (fcs z7.val) (by kernel_rfl) (Writes.store 0 25 (fcs z7.val) _ _ rfl (by kernel_rfl) (by kernel_rfl) (by kernel_rfl) (Nat.le_of_ble_eq_true (by kernel_rfl)) (by kernel_rfl) (by kernel_rfl)) ?_
      refine Sy.writeD 9 rfl (by kernel_rfl) (by rfl) (by kernel_rfl) 8 g8 25 (fcs 0) (fcs z8.val) (by kernel_rfl) (Writes.store 0 25 (fcs z8.val) _ _ rfl (by kernel_rfl) (by kernel_rfl) (by kernel_rfl) (Nat.le_of_ble_eq_true (by kernel_rfl)) (by kernel_rfl) (by kernel_rfl)) ?_
      refine Sy.doneD (by kernel_rfl) ?_
      refine Sy.then_ ?_
      refine Sy.seq ?_
      refine Sy.seq ?_
      refine Sy.regionD (fun j => false) (by kernel_rfl) ?_
      refine Sy.stepD 0 rfl (by kernel_rfl) (fun _ _ _ _ h => h) (by kernel_rfl) (fv z7.val) (Quiet.load 7 g7 0 4 25 25 (fcs z7.val) _ _ rfl (by kernel_rfl) (by kernel_rfl) Try.underlying25 rfl (by kernel_rfl) _ (by kernel_rfl) (Nat.le_of_ble_eq_true (by kernel_rfl))) ?_
      obtain ⟨z9, hz9⟩ : ∃ z : Fp, z = (0 : Fp) := ⟨_, rfl⟩
      refine Sy.stepD 1 rfl (by kernel_rfl) (fun _ _ _ _ h => h) (by kernel_rfl) (fv z9.val) (Quiet.call 77 #[.int .u64 0] (fun _ => by kernel_rfl) (fun w => by rw [hz9]; exact of_c 0 (by decide +kernel) (by decide) w)) ?_
      obtain ⟨b3, hb3⟩ : ∃ z : Bool, z = decide (z7.val = z9.val) := ⟨_, rfl⟩
      refine Sy.stepD 2 rfl (by kernel_rfl) (fun _ _ _ _ h => h) (by kernel_rfl) (.bool b3) (Quiet.pure (fun w => by rw [hb3]; exact eql_fe w _ _ _ _ _ _ rfl rfl rfl (by first | assumption | exact lt4 _ | decide +kernel) (by first | assumption | exact lt4 _ | decide +kernel))) ?_
      refine Sy.stepD 3 rfl (by kernel_rfl) (fun _ _ _ _ h => h) (by kernel_rfl) (.bool b3) (Quiet.pure (fun _ => by kernel_rfl)) ?_
      cases b3
      · have eb3 : z7 ≠ 0 := fun e => of_decide_eq_false hb3.symm (by rw [e, hz9])
        refine Sy.passD 4 rfl (by kernel_rfl) (fun _ _ _ _ h => h) (by kernel_rfl) (by kernel_rfl) ?_
        refine Sy.passD 5 rfl (by kernel_rfl) (fun _ _ _ _ h => h) (by kernel_rfl) (by kernel_rfl) ?_
        refine Sy.passD 6 rfl (by kernel_rfl) (fun _ _ _ _ h => h) (by kernel_rfl) (by kernel_rfl) ?_
        refine Sy.stepD 7 rfl (by kernel_rfl) (fun _ _ _ _ h => h) (by kernel_rfl) (.bool false) (Quiet.pure (fun _ => by kernel_rfl)) ?_
        refine Sy.doneD (by kernel_rfl) ?_
        refine Sy.then_ ?_
        refine Sy.cond_f (by kernel_rfl) (by kernel_rfl) ?_
        refine Sy.skip ?_
        refine Sy.then_ ?_
        refine Sy.seq ?_
        refine Sy.region ?_
        refine Sy.step (by kernel_rfl) (fv z7.val) (Quiet.load 7 g7 0 4 25 25 (fcs z7.val) _ _ rfl (by kernel_rfl) (by kernel_rfl) Try.underlying25 rfl (by kernel_rfl) _ (by kernel_rfl) (Nat.le_of_ble_eq_true (by kernel_rfl))) ?_
        refine Sy.step (by kernel_rfl) (fv z7.val) (Quiet.load 7 g7 0 4 25 25 (fcs z7.val) _ _ rfl (by kernel_rfl) (by kernel_rfl) Try.underlying25 rfl (by kernel_rfl) _ (by kernel_rfl) (Nat.le_of_ble_eq_true (by kernel_rfl))) ?_
        obtain ⟨z10, hz10⟩ : ∃ z : Fp, z = z7 * z7 := ⟨_, rfl⟩
        refine Sy.step (by kernel_rfl) (fv z10.val) (Quiet.call 40 #[fv z7.val, fv z7.val] (fun _ => by kernel_rfl) (by rw [hz10]; exact mul_c z7 z7)) ?_
        refine Sy.make (by kernel_rfl) 25 (fcs 0) ptr (fun _ => by kernel_rfl) (fun g9 => ?_)
        refine Sy.write (by kernel_rfl) 9 g9 25 (fcs 0) (fcs z10.val) (by kernel_rfl) (Writes.store 0 25 (fcs z10.val) _ _ rfl (by kernel_rfl) (by kernel_rfl) (by kernel_rfl) (Nat.le_of_ble_eq_true (by kernel_rfl)) (by kernel_rfl) (by kernel_rfl)) ?_
        refine Sy.nil ?_
        refine Sy.then_ ?_
        refine Sy.seq ?_
        refine Sy.region ?_
        refine Sy.step (by kernel_rfl) (fv z10.val) (Quiet.load 9 g9 0 4 25 25 (fcs z10.val) _ _ rfl (by kernel_rfl) (by kernel_rfl) Try.underlying25 rfl (by kernel_rfl) _ (by kernel_rfl) (Nat.le_of_ble_eq_true (by kernel_rfl))) ?_
        refine Sy.step (by kernel_rfl) (fv z7.val) (Quiet.load 7 g7 0 4 25 25 (fcs z7.val) _ _ rfl (by kernel_rfl) (by kernel_rfl) Try.underlying25 rfl (by kernel_rfl) _ (by kernel_rfl) (Nat.le_of_ble_eq_true (by kernel_rfl))) ?_
        obtain ⟨z11, hz11⟩ : ∃ z : Fp, z = z10 * z7 := ⟨_, rfl⟩
        refine Sy.step (by kernel_rfl) (fv z11.val) (Quiet.call 40 #[fv z10.val, fv z7.val] (fun _ => by kernel_rfl) (by rw [hz11]; exact mul_c z10 z7)) ?_
        refine Sy.make (by kernel_rfl) 25 (fcs 0) ptr (fun _ => by kernel_rfl) (fun g10 => ?_)
        refine Sy.write (by kernel_rfl) 10 g10 25 (fcs 0) (fcs z11.val) (by kernel_rfl) (Writes.store 0 25 (fcs z11.val) _ _ rfl (by kernel_rfl) (by kernel_rfl) (by kernel_rfl) (Nat.le_of_ble_eq_true (by kernel_rfl)) (by kernel_rfl) (by kernel_rfl)) ?_
        refine Sy.nil ?_
        refine Sy.then_ ?_
        refine Sy.seq ?_
        refine Sy.region ?_
        refine Sy.step (by kernel_rfl) (fv z3.val) (Quiet.load 3 g3 0 4 25 25 (fcs z3.val) _ _ rfl (by kernel_rfl) (by kernel_rfl) Try.underlying25 rfl (by kernel_rfl) _ (by kernel_rfl) (Nat.le_of_ble_eq_true (by kernel_rfl))) ?_
        refine Sy.step (by kernel_rfl) (fv z10.val) (Quiet.load 9 g9 0 4 25 25 (fcs z10.val) _ _ rfl (by kernel_rfl) (by kernel_rfl) Try.underlying25 rfl (by kernel_rfl) _ (by kernel_rfl) (Nat.le_of_ble_eq_true (by kernel_rfl))) ?_
        obtain ⟨z12, hz12⟩ : ∃ z : Fp, z = z3 * z10 := ⟨_, rfl⟩
        refine Sy.step (by kernel_rfl) (fv z12.val) (Quiet.call 40 #[fv z3.val, fv z10.val] (fun _ => by kernel_rfl) (by rw [hz12]; exact mul_c z3 z10)) ?_
        refine Sy.write (by kernel_rfl) 3 g3 25 (fcs z3.val) (fcs z12.val) (by kernel_rfl) (Writes.store 0 25 (fcs z12.val) _ _ rfl (by kernel_rfl) (by kernel_rfl) (by kernel_rfl) (Nat.le_of_ble_eq_true (by kernel_rfl)) (by kernel_rfl) (by kernel_rfl)) ?_
        refine Sy.nil ?_
        refine Sy.then_ ?_
        refine Sy.seq ?_
        refine Sy.region ?_
        refine Sy.make (by kernel_rfl) 73 (tcs 0 0 0) ptr (fun _ => by kernel_rfl) (fun g11 => ?_)
        refine Sy.nil ?_
        refine Sy.then_ ?_
        refine Sy.seq ?_
        refine Sy.regionD (fun j => j == 10) (by kernel_rfl) ?_
        refine Sy.stepD 0 rfl (by kernel_rfl) (fun _ _ _ _ h => h) (by kernel_rfl) (fv z8.val) (Quiet.load 8 g8 0 4 25 25 (fcs z8.val) _ _ rfl (by kernel_rfl) (by kernel_rfl) Try.underlying25 rfl (by kernel_rfl) _ (by kernel_rfl) (Nat.le_of_ble_eq_true (by kernel_rfl))) ?_
        refine Sy.stepD 1 rfl (by kernel_rfl) (fun _ _ _ _ h => h) (by kernel_rfl) (fv z8.val) (Quiet.load 8 g8 0 4 25 25 (fcs z8.val) _ _ rfl (by kernel_rfl) (by kernel_rfl) Try.underlying25 rfl (by kernel_rfl) _ (by kernel_rfl) (Nat.le_of_ble_eq_true (by kernel_rfl))) ?_
        obtain ⟨z13, hz13⟩ : ∃ z : Fp, z = z8 * z8 := ⟨_, rfl⟩
        refine Sy.stepD 2 rfl (by kernel_rfl) (fun _ _ _ _ h => h) (by kernel_rfl) (fv z13.val) (Quiet.call 40 #[fv z8.val, fv z8.val] (fun _ => by kernel_rfl) (by rw [hz13]; exact mul_c z8 z8)) ?_
        refine Sy.stepD 3 rfl (by kernel_rfl) (fun _ _ _ _ h => h) (by kernel_rfl) (fv z11.val) (Quiet.load 10 g10 0 4 25 25 (fcs z11.val) _ _ rfl (by kernel_rfl) (by kernel_rfl) Try.underlying25 rfl (by kernel_rfl) _ (by kernel_rfl) (Nat.le_of_ble_eq_true (by kernel_rfl))) ?_
        obtain ⟨z14, hz14⟩ : ∃ z : Fp, z = z13 - z11 := ⟨_, rfl⟩
        refine Sy.stepD 4 rfl (by kernel_rfl) (fun _ _ _ _ h => h) (by kernel_rfl) (fv z14.val) (Quiet.call 59 #[fv z13.val, fv z11.val] (fun _ => by kernel_rfl) (by rw [hz14]; exact sub_c z13 z11)) ?_
        refine Sy.stepD 5 rfl (by kernel_rfl) (fun _ _ _ _ h => h) (by kernel_rfl) (fv z12.val) (Quiet.load 3 g3 0 4 25 25 (fcs z12.val) _ _ rfl (by kernel_rfl) (by kernel_rfl) Try.underlying25 rfl (by kernel_rfl) _ (by kernel_rfl) (Nat.le_of_ble_eq_true (by kernel_rfl))) ?_
        refine Sy.stepD 6 rfl (by kernel_rfl) (fun _ _ _ _ h => h) (by kernel_rfl) (fv z12.val) (Quiet.load 3 g3 0 4 25 25 (fcs z12.val) _ _ rfl (by kernel_rfl) (by kernel_rfl) Try.underlying25 rfl (by kernel_rfl) _ (by kernel_rfl) (Nat.le_of_ble_eq_true (by kernel_rfl))) ?_
        obtain ⟨z15, hz15⟩ : ∃ z : Fp, z = z12 + z12 := ⟨_, rfl⟩
        refine Sy.stepD 7 rfl (by kernel_rfl) (fun _ _ _ _ h => h) (by kernel_rfl) (fv z15.val) (Quiet.call 76 #[fv z12.val, fv z12.val] (fun _ => by kernel_rfl) (by rw [hz15]; exact add_c z12 z12)) ?_
        obtain ⟨z16, hz16⟩ : ∃ z : Fp, z = z14 - z15 := ⟨_, rfl⟩
        refine Sy.stepD 8 rfl (by kernel_rfl) (fun _ _ _ _ h => h) (by kernel_rfl) (fv z16.val) (Quiet.call 59 #[fv z14.val, fv z15.val] (fun _ => by kernel_rfl) (by rw [hz16]; exact sub_c z14 z15)) ?_
        refine Sy.stepD 9 rfl (by kernel_rfl) (fun _ _ _ _ h => h) (by kernel_rfl) (.pointer (some ⟨g11, 0, none⟩)) (Quiet.pure (fun _ => by kernel_rfl)) ?_
        refine Sy.writeD 10 rfl (by kernel_rfl) (by rfl) (by kernel_rfl) 11 g11 73 (tcs 0 0 0) (tcs z16.val 0 0) (by kernel_rfl) (Writes.store 0 25 (fcs z16.val) _ _ rfl (by kernel_rfl) (by kernel_rfl) (by kernel_rfl) (Nat.le_of_ble_eq_true (by kernel_rfl)) (by kernel_rfl) (by kernel_rfl)) ?_
        refine Sy.doneD (by kernel_rfl) ?_
        refine Sy.then_ ?_
        refine Sy.seq ?_
        refine Sy.regionD (fun j => j == 11) (by kernel_rfl) ?_
        refine Sy.stepD 0 rfl (by kernel_rfl) (fun _ _ _ _ h => h) (by kernel_rfl) (fv z8.val) (Quiet.load 8 g8 0 4 25 25 (fcs z8.val) _ _ rfl (by kernel_rfl) (by kernel_rfl) Try.underlying25 rfl (by kernel_rfl) _ (by kernel_rfl) (Nat.le_of_ble_eq_true (by kernel_rfl))) ?_
        refine Sy.stepD 1 rfl (by kernel_rfl) (fun _ _ _ _ h => h) (by kernel_rfl) (fv z12.val) (Quiet.load 3 g3 0 4 25 25 (fcs z12.val) _ _ rfl (by kernel_rfl) (by kernel_rfl) Try.underlying25 rfl (by kernel_rfl) _ (by kernel_rfl) (Nat.le_of_ble_eq_true (by kernel_rfl))) ?_
        refine Sy.stepD 2 rfl (by kernel_rfl) (fun _ _ _ _ h => h) (by kernel_rfl) (.pointer (some ⟨g11, 0, none⟩)) (Quiet.pure (fun _ => by kernel_rfl)) ?_
        refine Sy.stepD 3 rfl (by kernel_rfl) (fun _ _ _ _ h => h) (by kernel_rfl) (fv z16.val) (Quiet.load 11 g11 0 4 73 25 (tcs z16.val 0 0) _ _ rfl (by kernel_rfl) (by kernel_rfl) Try.underlying25 rfl (by kernel_rfl) _ (by kernel_rfl) (Nat.le_of_ble_eq_true (by kernel_rfl))) ?_
        obtain ⟨z17, hz17⟩ : ∃ z : Fp, z = z12 - z16 := ⟨_, rfl⟩
        refine Sy.stepD 4 rfl (by kernel_rfl) (fun _ _ _ _ h => h) (by kernel_rfl) (fv z17.val) (Quiet.call 59 #[fv z12.val, fv z16.val] (fun _ => by kernel_rfl) (by rw [hz17]; exact sub_c z12 z16)) ?_
        obtain ⟨z18, hz18⟩ : ∃ z : Fp, z = z8 * z17 := ⟨_, rfl⟩
        refine Sy.stepD 5 rfl (by kernel_rfl) (fun _ _ _ _ h => h) (by kernel_rfl) (fv z18.val) (Quiet.call 40 #[fv z8.val, fv z17.val] (fun _ => by kernel_rfl) (by rw [hz18]; exact mul_c z8 z17)) ?_
        refine Sy.stepD 6 rfl (by kernel_rfl) (fun _ _ _ _ h => h) (by kernel_rfl) (fv z4.val) (Quiet.load 4 g4 0 4 25 25 (fcs z4.val) _ _ rfl (by kernel_rfl) (by kernel_rfl) Try.underlying25 rfl (by kernel_rfl) _ (by kernel_rfl) (Nat.le_of_ble_eq_true (by kernel_rfl))) ?_
        refine Sy.stepD 7 rfl (by kernel_rfl) (fun _ _ _ _ h => h) (by kernel_rfl) (fv z11.val) (Quiet.load 10 g10 0 4 25 25 (fcs z11.val) _ _ rfl (by kernel_rfl) (by kernel_rfl) Try.underlying25 rfl (by kernel_rfl) _ (by kernel_rfl) (Nat.le_of_ble_eq_true (by kernel_rfl))) ?_
        obtain ⟨z19, hz19⟩ : ∃ z : Fp, z = z4 * z11 := ⟨_, rfl⟩
        refine Sy.stepD 8 rfl (by kernel_rfl) (fun _ _ _ _ h => h) (by kernel_rfl) (fv z19.val) (Quiet.call 40 #[fv z4.val, fv z11.val] (fun _ => by kernel_rfl) (by rw [hz19]; exact mul_c z4 z11)) ?_
        obtain ⟨z20, hz20⟩ : ∃ z : Fp, z = z18 - z19 := ⟨_, rfl⟩
        refine Sy.stepD 9 rfl (by kernel_rfl) (fun _ _ _ _ h => h) (by kernel_rfl) (fv z20.val) (Quiet.call 59 #[fv z18.val, fv z19.val] (fun _ => by kernel_rfl) (by rw [hz20]; exact sub_c z18 z19)) ?_
        refine Sy.stepD 10 rfl (by kernel_rfl) (fun _ _ _ _ h => h) (by kernel_rfl) (.pointer (some ⟨g11, 4, none⟩)) (Quiet.pure (fun _ => by kernel_rfl)) ?_
        refine Sy.writeD 11 rfl (by kernel_rfl) (by rfl) (by kernel_rfl) 11 g11 73 (tcs z16.val 0 0) (tcs z16.val z20.val 0) (by kernel_rfl) (Writes.store 4 25 (fcs z20.val) _ _ rfl (by kernel_rfl) (by kernel_rfl) (by kernel_rfl) (Nat.le_of_ble_eq_true (by kernel_rfl)) (by kernel_rfl) (by kernel_rfl)) ?_
        refine Sy.doneD (by kernel_rfl) ?_
        refine Sy.then_ ?_
        refine Sy.seq ?_
        refine Sy.regionD (fun j => j == 8) (by kernel_rfl) ?_
        refine Sy.stepD 0 rfl (by kernel_rfl) (fun _ _ _ _ h => h) (by kernel_rfl) (.pointer (some ⟨g0, 8, none⟩)) (Quiet.pure (fun _ => by kernel_rfl)) ?_
        refine Sy.stepD 1 rfl (by kernel_rfl) (fun _ _ _ _ h => h) (by kernel_rfl) (fv a.z.val) (Quiet.load 0 g0 8 4 73 25 (tcs a.x.val a.y.val a.z.val) _ _ rfl (by kernel_rfl) (by kernel_rfl) Try.underlying25 rfl (by kernel_rfl) _ (by kernel_rfl) (Nat.le_of_ble_eq_true (by kernel_rfl))) ?_
        refine Sy.stepD 2 rfl (by kernel_rfl) (fun _ _ _ _ h => h) (by kernel_rfl) (.pointer (some ⟨g1, 8, none⟩)) (Quiet.pure (fun _ => by kernel_rfl)) ?_
        refine Sy.stepD 3 rfl (by kernel_rfl) (fun _ _ _ _ h => h) (by kernel_rfl) (fv b.z.val) (Quiet.load 1 g1 8 4 73 25 (tcs b.x.val b.y.val b.z.val) _ _ rfl (by kernel_rfl) (by kernel_rfl) Try.underlying25 rfl (by kernel_rfl) _ (by kernel_rfl) (Nat.le_of_ble_eq_true (by kernel_rfl))) ?_
        obtain ⟨z21, hz21⟩ : ∃ z : Fp, z = a.z * b.z := ⟨_, rfl⟩
        refine Sy.stepD 4 rfl (by kernel_rfl) (fun _ _ _ _ h => h) (by kernel_rfl) (fv z21.val) (Quiet.call 40 #[fv a.z.val, fv b.z.val] (fun _ => by kernel_rfl) (by rw [hz21]; exact mul_c a.z b.z)) ?_
        refine Sy.stepD 5 rfl (by kernel_rfl) (fun _ _ _ _ h => h) (by kernel_rfl) (fv z7.val) (Quiet.load 7 g7 0 4 25 25 (fcs z7.val) _ _ rfl (by kernel_rfl) (by kernel_rfl) Try.underlying25 rfl (by kernel_rfl) _ (by kernel_rfl) (Nat.le_of_ble_eq_true (by kernel_rfl))) ?_
        obtain ⟨z22, hz22⟩ : ∃ z : Fp, z = z21 * z7 := ⟨_, rfl⟩
        refine Sy.stepD 6 rfl (by kernel_rfl) (fun _ _ _ _ h => h) (by kernel_rfl) (fv z22.val) (Quiet.call 40 #[fv z21.val, fv z7.val] (fun _ => by kernel_rfl) (by rw [hz22]; exact mul_c z21 z7)) ?_
        refine Sy.stepD 7 rfl (by kernel_rfl) (fun _ _ _ _ h => h) (by kernel_rfl) (.pointer (some ⟨g11, 8, none⟩)) (Quiet.pure (fun _ => by kernel_rfl)) ?_
        refine Sy.writeD 8 rfl (by kernel_rfl) (by rfl) (by kernel_rfl) 11 g11 73 (tcs z16.val z20.val 0) (tcs z16.val z20.val z22.val) (by kernel_rfl) (Writes.store 8 25 (fcs z22.val) _ _ rfl (by kernel_rfl) (by kernel_rfl) (by kernel_rfl) (Nat.le_of_ble_eq_true (by kernel_rfl)) (by kernel_rfl) (by kernel_rfl)) ?_
        refine Sy.doneD (by kernel_rfl) ?_
        refine Sy.then_ ?_
        refine Sy.seq ?_
        refine Sy.region ?_
        refine Sy.step (by kernel_rfl) (tv z16.val z20.val z22.val) (Quiet.load 11 g11 0 12 73 73 (tcs z16.val z20.val z22.val) _ _ rfl (by kernel_rfl) (by kernel_rfl) Try.underlying73 rfl (by kernel_rfl) _ (by kernel_rfl) (Nat.le_of_ble_eq_true (by kernel_rfl))) ?_
        refine Sy.write (by kernel_rfl) 2 g2 73 (tcs 0 0 0) (tcs z16.val z20.val z22.val) (by kernel_rfl) (Writes.store 0 73 (tcs z16.val z20.val z22.val) _ _ rfl (by kernel_rfl) (by kernel_rfl) (by kernel_rfl) (Nat.le_of_ble_eq_true (by kernel_rfl)) (by kernel_rfl) (by kernel_rfl)) ?_
        refine Sy.nil ?_
        refine Sy.then_ ?_
        refine Sy.ret ?_
        rw [show (tv (addJ a b).x.val (addJ a b).y.val (addJ a b).z.val : Value) = tv z16.val z20.val z22.val from by
          rw [addJ_4 eb1 eb2 (fun k => eb3 (by rw [hz7, hz3, hz5]; exact k.1))]
          simp only [hz22, hz21, hz20, hz19, hz18, hz17, hz16, hz15, hz14, hz13, hz12, hz11, hz10, hz8, hz7, hz6, hz5, hz4, hz3]
          rfl]
        exact Sy.ret1 (v := tv z16.val z20.val z22.val) rfl (.inl (Res.cell (ty' := 73) g2 2 (tcs z16.val z20.val z22.val) _ (by kernel_rfl) (by kernel_rfl) Try.underlying73 rfl (by kernel_rfl) (by kernel_rfl)))
      · have eb3 : z7 = 0 := (Fin.ext (of_decide_eq_true hb3.symm)).trans hz9
        refine Sy.stepD 4 rfl (by kernel_rfl) (fun _ _ _ _ h => h) (by kernel_rfl) (fv z8.val) (Quiet.load 8 g8 0 4 25 25 (fcs z8.val) _ _ rfl (by kernel_rfl) (by kernel_rfl) Try.underlying25 rfl (by kernel_rfl) _ (by kernel_rfl) (Nat.le_of_ble_eq_true (by kernel_rfl))) ?_
        obtain ⟨z23, hz23⟩ : ∃ z : Fp, z = (0 : Fp) := ⟨_, rfl⟩
        refine Sy.stepD 5 rfl (by kernel_rfl) (fun _ _ _ _ h => h) (by kernel_rfl) (fv z23.val) (Quiet.call 77 #[.int .u64 0] (fun _ => by kernel_rfl) (fun w => by rw [hz23]; exact of_c 0 (by decide +kernel) (by decide) w)) ?_
        obtain ⟨b4, hb4⟩ : ∃ z : Bool, z = decide (z8.val = z23.val) := ⟨_, rfl⟩
        refine Sy.stepD 6 rfl (by kernel_rfl) (fun _ _ _ _ h => h) (by kernel_rfl) (.bool b4) (Quiet.pure (fun w => by rw [hb4]; exact eql_fe w _ _ _ _ _ _ rfl rfl rfl (by first | assumption | exact lt4 _ | decide +kernel) (by first | assumption | exact lt4 _ | decide +kernel))) ?_
        refine Sy.stepD 7 rfl (by kernel_rfl) (fun _ _ _ _ h => h) (by kernel_rfl) (.bool b4) (Quiet.pure (fun _ => by kernel_rfl)) ?_
        refine Sy.doneD (by kernel_rfl) ?_
        refine Sy.then_ ?_
        cases b4
        · have eb4 : z8 ≠ 0 := fun e => of_decide_eq_false hb4.symm (by rw [e, hz23])
          refine Sy.cond_f (by kernel_rfl) (by kernel_rfl) ?_
          refine Sy.skip ?_
          refine Sy.then_ ?_
          refine Sy.seq ?_
          refine Sy.region ?_
          refine Sy.step (by kernel_rfl) (fv z7.val) (Quiet.load 7 g7 0 4 25 25 (fcs z7.val) _ _ rfl (by kernel_rfl) (by kernel_rfl) Try.underlying25 rfl (by kernel_rfl) _ (by kernel_rfl) (Nat.le_of_ble_eq_true (by kernel_rfl))) ?_
          refine Sy.step (by kernel_rfl) (fv z7.val) (Quiet.load 7 g7 0 4 25 25 (fcs z7.val) _ _ rfl (by kernel_rfl) (by kernel_rfl) Try.underlying25 rfl (by kernel_rfl) _ (by kernel_rfl) (Nat.le_of_ble_eq_true (by kernel_rfl))) ?_
          obtain ⟨z24, hz24⟩ : ∃ z : Fp, z = z7 * z7 := ⟨_, rfl⟩
          refine Sy.step (by kernel_rfl) (fv z24.val) (Quiet.call 40 #[fv z7.val, fv z7.val] (fun _ => by kernel_rfl) (by rw [hz24]; exact mul_c z7 z7)) ?_
          refine Sy.make (by kernel_rfl) 25 (fcs 0) ptr (fun _ => by kernel_rfl) (fun g12 => ?_)
          refine Sy.write (by kernel_rfl) 9 g12 25 (fcs 0) (fcs z24.val) (by kernel_rfl) (Writes.store 0 25 (fcs z24.val) _ _ rfl (by kernel_rfl) (by kernel_rfl) (by kernel_rfl) (Nat.le_of_ble_eq_true (by kernel_rfl)) (by kernel_rfl) (by kernel_rfl)) ?_
          refine Sy.nil ?_
          refine Sy.then_ ?_
          refine Sy.seq ?_
          refine Sy.region ?_
          refine Sy.step (by kernel_rfl) (fv z24.val) (Quiet.load 9 g12 0 4 25 25 (fcs z24.val) _ _ rfl (by kernel_rfl) (by kernel_rfl) Try.underlying25 rfl (by kernel_rfl) _ (by kernel_rfl) (Nat.le_of_ble_eq_true (by kernel_rfl))) ?_
          refine Sy.step (by kernel_rfl) (fv z7.val) (Quiet.load 7 g7 0 4 25 25 (fcs z7.val) _ _ rfl (by kernel_rfl) (by kernel_rfl) Try.underlying25 rfl (by kernel_rfl) _ (by kernel_rfl) (Nat.le_of_ble_eq_true (by kernel_rfl))) ?_
          obtain ⟨z25, hz25⟩ : ∃ z : Fp, z = z24 * z7 := ⟨_, rfl⟩
          refine Sy.step (by kernel_rfl) (fv z25.val) (Quiet.call 40 #[fv z24.val, fv z7.val] (fun _ => by kernel_rfl) (by rw [hz25]; exact mul_c z24 z7)) ?_
          refine Sy.make (by kernel_rfl) 25 (fcs 0) ptr (fun _ => by kernel_rfl) (fun g13 => ?_)
          refine Sy.write (by kernel_rfl) 10 g13 25 (fcs 0) (fcs z25.val) (by kernel_rfl) (Writes.store 0 25 (fcs z25.val) _ _ rfl (by kernel_rfl) (by kernel_rfl) (by kernel_rfl) (Nat.le_of_ble_eq_true (by kernel_rfl)) (by kernel_rfl) (by kernel_rfl)) ?_
          refine Sy.nil ?_
          refine Sy.then_ ?_
          refine Sy.seq ?_
          refine Sy.region ?_
          refine Sy.step (by kernel_rfl) (fv z3.val) (Quiet.load 3 g3 0 4 25 25 (fcs z3.val) _ _ rfl (by kernel_rfl) (by kernel_rfl) Try.underlying25 rfl (by kernel_rfl) _ (by kernel_rfl) (Nat.le_of_ble_eq_true (by kernel_rfl))) ?_
          refine Sy.step (by kernel_rfl) (fv z24.val) (Quiet.load 9 g12 0 4 25 25 (fcs z24.val) _ _ rfl (by kernel_rfl) (by kernel_rfl) Try.underlying25 rfl (by kernel_rfl) _ (by kernel_rfl) (Nat.le_of_ble_eq_true (by kernel_rfl))) ?_
          obtain ⟨z26, hz26⟩ : ∃ z : Fp, z = z3 * z24 := ⟨_, rfl⟩
          refine Sy.step (by kernel_rfl) (fv z26.val) (Quiet.call 40 #[fv z3.val, fv z24.val] (fun _ => by kernel_rfl) (by rw [hz26]; exact mul_c z3 z24)) ?_
          refine Sy.write (by kernel_rfl) 3 g3 25 (fcs z3.val) (fcs z26.val) (by kernel_rfl) (Writes.store 0 25 (fcs z26.val) _ _ rfl (by kernel_rfl) (by kernel_rfl) (by kernel_rfl) (Nat.le_of_ble_eq_true (by kernel_rfl)) (by kernel_rfl) (by kernel_rfl)) ?_
          refine Sy.nil ?_
          refine Sy.then_ ?_
          refine Sy.seq ?_
          refine Sy.region ?_
          refine Sy.make (by kernel_rfl) 73 (tcs 0 0 0) ptr (fun _ => by kernel_rfl) (fun g14 => ?_)
          refine Sy.nil ?_
          refine Sy.then_ ?_
          refine Sy.seq ?_
          refine Sy.regionD (fun j => j == 10) (by kernel_rfl) ?_
          refine Sy.stepD 0 rfl (by kernel_rfl) (fun _ _ _ _ h => h) (by kernel_rfl) (fv z8.val) (Quiet.load 8 g8 0 4 25 25 (fcs z8.val) _ _ rfl (by kernel_rfl) (by kernel_rfl) Try.underlying25 rfl (by kernel_rfl) _ (by kernel_rfl) (Nat.le_of_ble_eq_true (by kernel_rfl))) ?_
          refine Sy.stepD 1 rfl (by kernel_rfl) (fun _ _ _ _ h => h) (by kernel_rfl) (fv z8.val) (Quiet.load 8 g8 0 4 25 25 (fcs z8.val) _ _ rfl (by kernel_rfl) (by kernel_rfl) Try.underlying25 rfl (by kernel_rfl) _ (by kernel_rfl) (Nat.le_of_ble_eq_true (by kernel_rfl))) ?_
          obtain ⟨z27, hz27⟩ : ∃ z : Fp, z = z8 * z8 := ⟨_, rfl⟩
          refine Sy.stepD 2 rfl (by kernel_rfl) (fun _ _ _ _ h => h) (by kernel_rfl) (fv z27.val) (Quiet.call 40 #[fv z8.val, fv z8.val] (fun _ => by kernel_rfl) (by rw [hz27]; exact mul_c z8 z8)) ?_
          refine Sy.stepD 3 rfl (by kernel_rfl) (fun _ _ _ _ h => h) (by kernel_rfl) (fv z25.val) (Quiet.load 10 g13 0 4 25 25 (fcs z25.val) _ _ rfl (by kernel_rfl) (by kernel_rfl) Try.underlying25 rfl (by kernel_rfl) _ (by kernel_rfl) (Nat.le_of_ble_eq_true (by kernel_rfl))) ?_
          obtain ⟨z28, hz28⟩ : ∃ z : Fp, z = z27 - z25 := ⟨_, rfl⟩
          refine Sy.stepD 4 rfl (by kernel_rfl) (fun _ _ _ _ h => h) (by kernel_rfl) (fv z28.val) (Quiet.call 59 #[fv z27.val, fv z25.val] (fun _ => by kernel_rfl) (by rw [hz28]; exact sub_c z27 z25)) ?_
          refine Sy.stepD 5 rfl (by kernel_rfl) (fun _ _ _ _ h => h) (by kernel_rfl) (fv z26.val) (Quiet.load 3 g3 0 4 25 25 (fcs z26.val) _ _ rfl (by kernel_rfl) (by kernel_rfl) Try.underlying25 rfl (by kernel_rfl) _ (by kernel_rfl) (Nat.le_of_ble_eq_true (by kernel_rfl))) ?_
          refine Sy.stepD 6 rfl (by kernel_rfl) (fun _ _ _ _ h => h) (by kernel_rfl) (fv z26.val) (Quiet.load 3 g3 0 4 25 25 (fcs z26.val) _ _ rfl (by kernel_rfl) (by kernel_rfl) Try.underlying25 rfl (by kernel_rfl) _ (by kernel_rfl) (Nat.le_of_ble_eq_true (by kernel_rfl))) ?_
          obtain ⟨z29, hz29⟩ : ∃ z : Fp, z = z26 + z26 := ⟨_, rfl⟩
          refine Sy.stepD 7 rfl (by kernel_rfl) (fun _ _ _ _ h => h) (by kernel_rfl) (fv z29.val) (Quiet.call 76 #[fv z26.val, fv z26.val] (fun _ => by kernel_rfl) (by rw [hz29]; exact add_c z26 z26)) ?_
          obtain ⟨z30, hz30⟩ : ∃ z : Fp, z = z28 - z29 := ⟨_, rfl⟩
          refine Sy.stepD 8 rfl (by kernel_rfl) (fun _ _ _ _ h => h) (by kernel_rfl) (fv z30.val) (Quiet.call 59 #[fv z28.val, fv z29.val] (fun _ => by kernel_rfl) (by rw [hz30]; exact sub_c z28 z29)) ?_
          refine Sy.stepD 9 rfl (by kernel_rfl) (fun _ _ _ _ h => h) (by kernel_rfl) (.pointer (some ⟨g14, 0, none⟩)) (Quiet.pure (fun _ => by kernel_rfl)) ?_
          refine Sy.writeD 10 rfl (by kernel_rfl) (by rfl) (by kernel_rfl) 11 g14 73 (tcs 0 0 0) (tcs z30.val 0 0) (by kernel_rfl) (Writes.store 0 25 (fcs z30.val) _ _ rfl (by kernel_rfl) (by kernel_rfl) (by kernel_rfl) (Nat.le_of_ble_eq_true (by kernel_rfl)) (by kernel_rfl) (by kernel_rfl)) ?_
          refine Sy.doneD (by kernel_rfl) ?_
          refine Sy.then_ ?_
          refine Sy.seq ?_
          refine Sy.regionD (fun j => j == 11) (by kernel_rfl) ?_
          refine Sy.stepD 0 rfl (by kernel_rfl) (fun _ _ _ _ h => h) (by kernel_rfl) (fv z8.val) (Quiet.load 8 g8 0 4 25 25 (fcs z8.val) _ _ rfl (by kernel_rfl) (by kernel_rfl) Try.underlying25 rfl (by kernel_rfl) _ (by kernel_rfl) (Nat.le_of_ble_eq_true (by kernel_rfl))) ?_
          refine Sy.stepD 1 rfl (by kernel_rfl) (fun _ _ _ _ h => h) (by kernel_rfl) (fv z26.val) (Quiet.load 3 g3 0 4 25 25 (fcs z26.val) _ _ rfl (by kernel_rfl) (by kernel_rfl) Try.underlying25 rfl (by kernel_rfl) _ (by kernel_rfl) (Nat.le_of_ble_eq_true (by kernel_rfl))) ?_
          refine Sy.stepD 2 rfl (by kernel_rfl) (fun _ _ _ _ h => h) (by kernel_rfl) (.pointer (some ⟨g14, 0, none⟩)) (Quiet.pure (fun _ => by kernel_rfl)) ?_
          refine Sy.stepD 3 rfl (by kernel_rfl) (fun _ _ _ _ h => h) (by kernel_rfl) (fv z30.val) (Quiet.load 11 g14 0 4 73 25 (tcs z30.val 0 0) _ _ rfl (by kernel_rfl) (by kernel_rfl) Try.underlying25 rfl (by kernel_rfl) _ (by kernel_rfl) (Nat.le_of_ble_eq_true (by kernel_rfl))) ?_
          obtain ⟨z31, hz31⟩ : ∃ z : Fp, z = z26 - z30 := ⟨_, rfl⟩
          refine Sy.stepD 4 rfl (by kernel_rfl) (fun _ _ _ _ h => h) (by kernel_rfl) (fv z31.val) (Quiet.call 59 #[fv z26.val, fv z30.val] (fun _ => by kernel_rfl) (by rw [hz31]; exact sub_c z26 z30)) ?_
          obtain ⟨z32, hz32⟩ : ∃ z : Fp, z = z8 * z31 := ⟨_, rfl⟩
          refine Sy.stepD 5 rfl (by kernel_rfl) (fun _ _ _ _ h => h) (by kernel_rfl) (fv z32.val) (Quiet.call 40 #[fv z8.val, fv z31.val] (fun _ => by kernel_rfl) (by rw [hz32]; exact mul_c z8 z31)) ?_
          refine Sy.stepD 6 rfl (by kernel_rfl) (fun _ _ _ _ h => h) (by kernel_rfl) (fv z4.val) (Quiet.load 4 g4 0 4 25 25 (fcs z4.val) _ _ rfl (by kernel_rfl) (by kernel_rfl) Try.underlying25 rfl (by kernel_rfl) _ (by kernel_rfl) (Nat.le_of_ble_eq_true (by kernel_rfl))) ?_
          refine Sy.stepD 7 rfl (by kernel_rfl) (fun _ _ _ _ h => h) (by kernel_rfl) (fv z25.val) (Quiet.load 10 g13 0 4 25 25 (fcs z25.val) _ _ rfl (by kernel_rfl) (by kernel_rfl) Try.underlying25 rfl (by kernel_rfl) _ (by kernel_rfl) (Nat.le_of_ble_eq_true (by kernel_rfl))) ?_
          obtain ⟨z33, hz33⟩ : ∃ z : Fp, z = z4 * z25 := ⟨_, rfl⟩
          refine Sy.stepD 8 rfl (by kernel_rfl) (fun _ _ _ _ h => h) (by kernel_rfl) (fv z33.val) (Quiet.call 40 #[fv z4.val, fv z25.val] (fun _ => by kernel_rfl) (by rw [hz33]; exact mul_c z4 z25)) ?_
          obtain ⟨z34, hz34⟩ : ∃ z : Fp, z = z32 - z33 := ⟨_, rfl⟩
          refine Sy.stepD 9 rfl (by kernel_rfl) (fun _ _ _ _ h => h) (by kernel_rfl) (fv z34.val) (Quiet.call 59 #[fv z32.val, fv z33.val] (fun _ => by kernel_rfl) (by rw [hz34]; exact sub_c z32 z33)) ?_
          refine Sy.stepD 10 rfl (by kernel_rfl) (fun _ _ _ _ h => h) (by kernel_rfl) (.pointer (some ⟨g14, 4, none⟩)) (Quiet.pure (fun _ => by kernel_rfl)) ?_
          refine Sy.writeD 11 rfl (by kernel_rfl) (by rfl) (by kernel_rfl) 11 g14 73 (tcs z30.val 0 0) (tcs z30.val z34.val 0) (by kernel_rfl) (Writes.store 4 25 (fcs z34.val) _ _ rfl (by kernel_rfl) (by kernel_rfl) (by kernel_rfl) (Nat.le_of_ble_eq_true (by kernel_rfl)) (by kernel_rfl) (by kernel_rfl)) ?_
          refine Sy.doneD (by kernel_rfl) ?_
          refine Sy.then_ ?_
          refine Sy.seq ?_
          refine Sy.regionD (fun j => j == 8) (by kernel_rfl) ?_
          refine Sy.stepD 0 rfl (by kernel_rfl) (fun _ _ _ _ h => h) (by kernel_rfl) (.pointer (some ⟨g0, 8, none⟩)) (Quiet.pure (fun _ => by kernel_rfl)) ?_
          refine Sy.stepD 1 rfl (by kernel_rfl) (fun _ _ _ _ h => h) (by kernel_rfl) (fv a.z.val) (Quiet.load 0 g0 8 4 73 25 (tcs a.x.val a.y.val a.z.val) _ _ rfl (by kernel_rfl) (by kernel_rfl) Try.underlying25 rfl (by kernel_rfl) _ (by kernel_rfl) (Nat.le_of_ble_eq_true (by kernel_rfl))) ?_
          refine Sy.stepD 2 rfl (by kernel_rfl) (fun _ _ _ _ h => h) (by kernel_rfl) (.pointer (some ⟨g1, 8, none⟩)) (Quiet.pure (fun _ => by kernel_rfl)) ?_
          refine Sy.stepD 3 rfl (by kernel_rfl) (fun _ _ _ _ h => h) (by kernel_rfl) (fv b.z.val) (Quiet.load 1 g1 8 4 73 25 (tcs b.x.val b.y.val b.z.val) _ _ rfl (by kernel_rfl) (by kernel_rfl) Try.underlying25 rfl (by kernel_rfl) _ (by kernel_rfl) (Nat.le_of_ble_eq_true (by kernel_rfl))) ?_
          obtain ⟨z35, hz35⟩ : ∃ z : Fp, z = a.z * b.z := ⟨_, rfl⟩
          refine Sy.stepD 4 rfl (by kernel_rfl) (fun _ _ _ _ h => h) (by kernel_rfl) (fv z35.val) (Quiet.call 40 #[fv a.z.val, fv b.z.val] (fun _ => by kernel_rfl) (by rw [hz35]; exact mul_c a.z b.z)) ?_
          refine Sy.stepD 5 rfl (by kernel_rfl) (fun _ _ _ _ h => h) (by kernel_rfl) (fv z7.val) (Quiet.load 7 g7 0 4 25 25 (fcs z7.val) _ _ rfl (by kernel_rfl) (by kernel_rfl) Try.underlying25 rfl (by kernel_rfl) _ (by kernel_rfl) (Nat.le_of_ble_eq_true (by kernel_rfl))) ?_
          obtain ⟨z36, hz36⟩ : ∃ z : Fp, z = z35 * z7 := ⟨_, rfl⟩
          refine Sy.stepD 6 rfl (by kernel_rfl) (fun _ _ _ _ h => h) (by kernel_rfl) (fv z36.val) (Quiet.call 40 #[fv z35.val, fv z7.val] (fun _ => by kernel_rfl) (by rw [hz36]; exact mul_c z35 z7)) ?_
          refine Sy.stepD 7 rfl (by kernel_rfl) (fun _ _ _ _ h => h) (by kernel_rfl) (.pointer (some ⟨g14, 8, none⟩)) (Quiet.pure (fun _ => by kernel_rfl)) ?_
          refine Sy.writeD 8 rfl (by kernel_rfl) (by rfl) (by kernel_rfl) 11 g14 73 (tcs z30.val z34.val 0) (tcs z30.val z34.val z36.val) (by kernel_rfl) (Writes.store 8 25 (fcs z36.val) _ _ rfl (by kernel_rfl) (by kernel_rfl) (by kernel_rfl) (Nat.le_of_ble_eq_true (by kernel_rfl)) (by kernel_rfl) (by kernel_rfl)) ?_
          refine Sy.doneD (by kernel_rfl) ?_
          refine Sy.then_ ?_
          refine Sy.seq ?_
          refine Sy.region ?_
          refine Sy.step (by kernel_rfl) (tv z30.val z34.val z36.val) (Quiet.load 11 g14 0 12 73 73 (tcs z30.val z34.val z36.val) _ _ rfl (by kernel_rfl) (by kernel_rfl) Try.underlying73 rfl (by kernel_rfl) _ (by kernel_rfl) (Nat.le_of_ble_eq_true (by kernel_rfl))) ?_
          refine Sy.write (by kernel_rfl) 2 g2 73 (tcs 0 0 0) (tcs z30.val z34.val z36.val) (by kernel_rfl) (Writes.store 0 73 (tcs z30.val z34.val z36.val) _ _ rfl (by kernel_rfl) (by kernel_rfl) (by kernel_rfl) (Nat.le_of_ble_eq_true (by kernel_rfl)) (by kernel_rfl) (by kernel_rfl)) ?_
          refine Sy.nil ?_
          refine Sy.then_ ?_
          refine Sy.ret ?_
          rw [show (tv (addJ a b).x.val (addJ a b).y.val (addJ a b).z.val : Value) = tv z30.val z34.val z36.val from by
            rw [addJ_4 eb1 eb2 (fun k => eb4 (by rw [hz8, hz4, hz6]; exact k.2))]
            simp only [hz36, hz35, hz34, hz33, hz32, hz31, hz30, hz29, hz28, hz27, hz26, hz25, hz24, hz8, hz7, hz6, hz5, hz4, hz3]
            rfl]
          exact Sy.ret1 (v := tv z30.val z34.val z36.val) rfl (.inl (Res.cell (ty' := 73) g2 2 (tcs z30.val z34.val z36.val) _ (by kernel_rfl) (by kernel_rfl) Try.underlying73 rfl (by kernel_rfl) (by kernel_rfl)))
        · have eb4 : z8 = 0 := (Fin.ext (of_decide_eq_true hb4.symm)).trans hz23
          refine Sy.cond_t (by kernel_rfl) (by kernel_rfl) ?_
          refine Sy.seq ?_
          refine Sy.region ?_
          refine Sy.step (by kernel_rfl) (tv a.x.val a.y.val a.z.val) (Quiet.load 0 g0 0 12 73 73 (tcs a.x.val a.y.val a.z.val) _ _ rfl (by kernel_rfl) (by kernel_rfl) Try.underlying73 rfl (by kernel_rfl) _ (by kernel_rfl) (Nat.le_of_ble_eq_true (by kernel_rfl))) ?_
          refine Sy.step (by kernel_rfl) (tv ((dblJ a).x.val) ((dblJ a).y.val) ((dblJ a).z.val)) (Quiet.call 80 #[tv a.x.val a.y.val a.z.val] (fun _ => by kernel_rfl) (fun w => double_c w a)) ?_
          refine Sy.write (by kernel_rfl) 2 g2 73 (tcs 0 0 0) (tcs ((dblJ a).x.val) ((dblJ a).y.val) ((dblJ a).z.val)) (by kernel_rfl) (Writes.store 0 73 (tcs ((dblJ a).x.val) ((dblJ a).y.val) ((dblJ a).z.val)) _ _ rfl (by kernel_rfl) (by kernel_rfl) (by kernel_rfl) (Nat.le_of_ble_eq_true (by kernel_rfl)) (by kernel_rfl) (by kernel_rfl)) ?_
          refine Sy.nil ?_
          refine Sy.then_ ?_
          refine Sy.ret ?_
          refine Sy.then_ret ?_
          rw [show (tv (addJ a b).x.val (addJ a b).y.val (addJ a b).z.val : Value) = tv ((dblJ a).x.val) ((dblJ a).y.val) ((dblJ a).z.val) from by rw [addJ_3 eb1 eb2 (by rw [← eb3, hz7, hz3, hz5]; rfl) (by rw [← eb4, hz8, hz4, hz6]; rfl)]]
          exact Sy.ret1 (v := tv ((dblJ a).x.val) ((dblJ a).y.val) ((dblJ a).z.val)) rfl (.inl (Res.cell (ty' := 73) g2 2 (tcs ((dblJ a).x.val) ((dblJ a).y.val) ((dblJ a).z.val)) _ (by kernel_rfl) (by kernel_rfl) Try.underlying73 rfl (by kernel_rfl) (by kernel_rfl)))
    · have eb2 : b.z = 0 := (Fin.ext (of_decide_eq_true hb2.symm)).trans hz2
      refine Sy.cond_t (by kernel_rfl) (by kernel_rfl) ?_
      refine Sy.seq ?_
      refine Sy.region ?_
      refine Sy.step (by kernel_rfl) (tv a.x.val a.y.val a.z.val) (Quiet.load 0 g0 0 12 73 73 (tcs a.x.val a.y.val a.z.val) _ _ rfl (by kernel_rfl) (by kernel_rfl) Try.underlying73 rfl (by kernel_rfl) _ (by kernel_rfl) (Nat.le_of_ble_eq_true (by kernel_rfl))) ?_
      refine Sy.write (by kernel_rfl) 2 g2 73 (tcs 0 0 0) (tcs a.x.val a.y.val a.z.val) (by kernel_rfl) (Writes.store 0 73 (tcs a.x.val a.y.val a.z.val) _ _ rfl (by kernel_rfl) (by kernel_rfl) (by kernel_rfl) (Nat.le_of_ble_eq_true (by kernel_rfl)) (by kernel_rfl) (by kernel_rfl)) ?_
      refine Sy.nil ?_
      refine Sy.then_ ?_
      refine Sy.ret ?_
      refine Sy.then_ret ?_
      rw [show (tv (addJ a b).x.val (addJ a b).y.val (addJ a b).z.val : Value) = tv a.x.val a.y.val a.z.val from by rw [addJ_2 eb1 eb2]]
      exact Sy.ret1 (v := tv a.x.val a.y.val a.z.val) rfl (.inl (Res.cell (ty' := 73) g2 2 (tcs a.x.val a.y.val a.z.val) _ (by kernel_rfl) (by kernel_rfl) Try.underlying73 rfl (by kernel_rfl) (by kernel_rfl)))
  · have eb1 : a.z = 0 := (Fin.ext (of_decide_eq_true hb1.symm)).trans hz1
    refine Sy.cond_t (by kernel_rfl) (by kernel_rfl) ?_
    refine Sy.seq ?_
    refine Sy.region ?_
    refine Sy.step (by kernel_rfl) (tv b.x.val b.y.val b.z.val) (Quiet.load 1 g1 0 12 73 73 (tcs b.x.val b.y.val b.z.val) _ _ rfl (by kernel_rfl) (by kernel_rfl) Try.underlying73 rfl (by kernel_rfl) _ (by kernel_rfl) (Nat.le_of_ble_eq_true (by kernel_rfl))) ?_
    refine Sy.write (by kernel_rfl) 2 g2 73 (tcs 0 0 0) (tcs b.x.val b.y.val b.z.val) (by kernel_rfl) (Writes.store 0 73 (tcs b.x.val b.y.val b.z.val) _ _ rfl (by kernel_rfl) (by kernel_rfl) (by kernel_rfl) (Nat.le_of_ble_eq_true (by kernel_rfl)) (by kernel_rfl) (by kernel_rfl)) ?_
    refine Sy.nil ?_
    refine Sy.then_ ?_
    refine Sy.ret ?_
    refine Sy.then_ret ?_
    rw [show (tv (addJ a b).x.val (addJ a b).y.val (addJ a b).z.val : Value) = tv b.x.val b.y.val b.z.val from by rw [addJ_1 eb1]]
    exact Sy.ret1 (v := tv b.x.val b.y.val b.z.val) rfl (.inl (Res.cell (ty' := 73) g2 2 (tcs b.x.val b.y.val b.z.val) _ (by kernel_rfl) (by kernel_rfl) Try.underlying73 rfl (by kernel_rfl) (by kernel_rfl)))
end Go.Proofs.Ytneeefinaejgcaa.Cu

end
section
namespace Go.Proofs.Ytneeefinaejgcaa.Cu
open Go.RowKit Go.Proofs.Ytneeefinaejgcaa Go.Proofs.Ytneeefinaejgcaa.Sy

/-- a point as three numbers -/
def threeJ : Pt → J
  | none => ⟨0, 0, 0⟩
  | some (x, y) => ⟨x, y, 1⟩
theorem threeJ_rep : ∀ P : Pt, Ec.Rep (threeJ P) P
  | none => rfl
  | some (x, y) => by
    refine ⟨(by decide +kernel : (1 : Fp) ≠ 0), ?_, ?_⟩
    · show x = x * (1 * 1)
      grobner
    · show y = y * (1 * 1 * 1)
      grobner
/-- what three numbers stand for -/
def ptJ (a : J) : Pt := if a.z = 0 then none else some (a.x * (finv a.z * finv a.z), a.y * (finv a.z * finv a.z * finv a.z))
theorem ptJ_rep {a : J} {P : Pt} (h : Ec.Rep a P) : ptJ a = P := by
  rcases Ec.rep_point fld h with ⟨h1, h2⟩ | ⟨h1, h2⟩
  · unfold ptJ; rw [if_pos h1, h2]
  · unfold ptJ; rw [if_neg h1, h2]
set_option maxHeartbeats 4000000 in
set_option maxRecDepth 100000 in
theorem three_n (w : World)  : Calls Try.prog 101 #[pv 0 0 true] w (Gets w (tv 0 0 0)) := by
  refine Sy.enter (args := [pv 0 0 true]) Try.func101 rfl (Nat.le_of_ble_eq_true (by kernel_rfl)) ?_
  refine Sy.seq ?_
  refine Sy.region ?_
  refine Sy.make (by kernel_rfl) 27 (pcs 0 0 true) ptr (fun _ => by kernel_rfl) (fun g0 => ?_)
  refine Sy.make (by kernel_rfl) 73 (tcs 0 0 0) ptr (fun _ => by kernel_rfl) (fun g1 => ?_)
  refine Sy.nil ?_
  refine Sy.then_ ?_
  refine Sy.seq ?_
  refine Sy.seq ?_
  refine Sy.regionD (fun j => false) (by kernel_rfl) ?_
  refine Sy.stepD 0 rfl (by kernel_rfl) (fun _ _ _ _ h => h) (by kernel_rfl) (pv 0 0 true) (Quiet.load 0 g0 0 9 27 27 (pcs 0 0 true) _ _ rfl (by kernel_rfl) (by kernel_rfl) Try.underlying27 rfl (by kernel_rfl) _ (by kernel_rfl) (Nat.le_of_ble_eq_true (by kernel_rfl))) ?_
  refine Sy.stepD 1 rfl (by kernel_rfl) (fun _ _ _ _ h => h) (by kernel_rfl) (pv 0 0 true) (Quiet.call 25 #[] (fun _ => by kernel_rfl) (zero_c)) ?_
  refine Sy.stepD 2 rfl (by kernel_rfl) (fun _ _ _ _ h => h) (by kernel_rfl) (.bool true) (Quiet.pure (fun w => eql_pt w _ _ _ _ 0 0 true 0 0 true rfl rfl rfl (by decide) (by decide) (by decide) (by decide))) ?_
  refine Sy.doneD (by kernel_rfl) ?_
  refine Sy.then_ ?_
  refine Sy.cond_t (by kernel_rfl) (by kernel_rfl) ?_
  refine Sy.seq ?_
  refine Sy.region ?_
  refine Sy.step (by kernel_rfl) (tv 0 0 0) (Quiet.pure (fun _ => by kernel_rfl)) ?_
  refine Sy.write (by kernel_rfl) 1 g1 73 (tcs 0 0 0) (tcs 0 0 0) (by kernel_rfl) (Writes.store 0 73 (tcs 0 0 0) _ _ rfl (by kernel_rfl) (by kernel_rfl) (by kernel_rfl) (Nat.le_of_ble_eq_true (by kernel_rfl)) (by kernel_rfl) (by kernel_rfl)) ?_
  refine Sy.nil ?_
  refine Sy.then_ ?_
  refine Sy.ret ?_
  refine Sy.then_ret ?_
  exact Sy.ret1 (v := tv 0 0 0) rfl (.inl (Res.cell (ty' := 73) g1 1 (tcs 0 0 0) _ (by kernel_rfl) (by kernel_rfl) Try.underlying73 rfl (by kernel_rfl) (by kernel_rfl)))
set_option maxHeartbeats 4000000 in
set_option maxRecDepth 100000 in
theorem three_s (w : World) (u v : Fp) : Calls Try.prog 101 #[pv u.val v.val false] w (Gets w (tv u.val v.val (1 : Fp).val)) := by
  refine Sy.enter (args := [pv u.val v.val false]) Try.func101 rfl (Nat.le_of_ble_eq_true (by kernel_rfl)) ?_
  refine Sy.seq ?_
  refine Sy.region ?_
  refine Sy.make (by kernel_rfl) 27 (pcs u.val v.val false) ptr (fun _ => by kernel_rfl) (fun g0 => ?_)
  refine Sy.make (by kernel_rfl) 73 (tcs 0 0 0) ptr (fun _ => by kernel_rfl) (fun g1 => ?_)
  refine Sy.nil ?_
  refine Sy.then_ ?_
  refine Sy.seq ?_
  refine Sy.seq ?_
  refine Sy.regionD (fun j => false) (by kernel_rfl) ?_
  refine Sy.stepD 0 rfl (by kernel_rfl) (fun _ _ _ _ h => h) (by kernel_rfl) (pv u.val v.val false) (Quiet.load 0 g0 0 9 27 27 (pcs u.val v.val false) _ _ rfl (by kernel_rfl) (by kernel_rfl) Try.underlying27 rfl (by kernel_rfl) _ (by kernel_rfl) (Nat.le_of_ble_eq_true (by kernel_rfl))) ?_
  refine Sy.stepD 1 rfl (by kernel_rfl) (fun _ _ _ _ h => h) (by kernel_rfl) (pv 0 0 true) (Quiet.call 25 #[] (fun _ => by kernel_rfl) (zero_c)) ?_
  refine Sy.stepD 2 rfl (by kernel_rfl) (fun _ _ _ _ h => h) (by kernel_rfl) (.bool false) (Quiet.pure (fun w => eql_pt_ne w _ _ _ _ _ _ _ _ _ _ rfl rfl rfl (by first | assumption | exact lt4 _ | decide +kernel) (by first | assumption | exact lt4 _ | decide +kernel) (by first | assumption | exact lt4 _ | decide +kernel) (by first | assumption | exact lt4 _ | decide +kernel) (by decide))) ?_
  refine Sy.doneD (by kernel_rfl) ?_
  refine Sy.then_ ?_
  refine Sy.cond_f (by kernel_rfl) (by kernel_rfl) ?_
  refine Sy.skip ?_
  refine Sy.then_ ?_
  refine Sy.seq ?_
  refine Sy.regionD (fun j => j == 6) (by kernel_rfl) ?_
  refine Sy.stepD 0 rfl (by kernel_rfl) (fun _ _ _ _ h => h) (by kernel_rfl) (.pointer (some ⟨g0, 0, none⟩)) (Quiet.pure (fun _ => by kernel_rfl)) ?_
  refine Sy.stepD 1 rfl (by kernel_rfl) (fun _ _ _ _ h => h) (by kernel_rfl) (fv u.val) (Quiet.load 0 g0 0 4 27 25 (pcs u.val v.val false) _ _ rfl (by kernel_rfl) (by kernel_rfl) Try.underlying25 rfl (by kernel_rfl) _ (by kernel_rfl) (Nat.le_of_ble_eq_true (by kernel_rfl))) ?_
  refine Sy.stepD 2 rfl (by kernel_rfl) (fun _ _ _ _ h => h) (by kernel_rfl) (.pointer (some ⟨g0, 4, none⟩)) (Quiet.pure (fun _ => by kernel_rfl)) ?_
  refine Sy.stepD 3 rfl (by kernel_rfl) (fun _ _ _ _ h => h) (by kernel_rfl) (fv v.val) (Quiet.load 0 g0 4 4 27 25 (pcs u.val v.val false) _ _ rfl (by kernel_rfl) (by kernel_rfl) Try.underlying25 rfl (by kernel_rfl) _ (by kernel_rfl) (Nat.le_of_ble_eq_true (by kernel_rfl))) ?_
  obtain ⟨z1, hz1⟩ : ∃ z : Fp, z = (1 : Fp) := ⟨_, rfl⟩
  refine Sy.stepD 4 rfl (by kernel_rfl) (fun _ _ _ _ h => h) (by kernel_rfl) (fv z1.val) (Quiet.call 77 #[.int .u64 1] (fun _ => by kernel_rfl) (fun w => by rw [hz1]; exact of_c 1 (by decide +kernel) (by decide) w)) ?_
  refine Sy.stepD 5 rfl (by kernel_rfl) (fun _ _ _ _ h => h) (by kernel_rfl) (tv u.val v.val z1.val) (Quiet.pure (fun _ => by kernel_rfl)) ?_
  refine Sy.writeD 6 rfl (by kernel_rfl) (by rfl) (by kernel_rfl) 1 g1 73 (tcs 0 0 0) (tcs u.val v.val z1.val) (by kernel_rfl) (Writes.store 0 73 (tcs u.val v.val z1.val) _ _ rfl (by kernel_rfl) (by kernel_rfl) (by kernel_rfl) (Nat.le_of_ble_eq_true (by kernel_rfl)) (by kernel_rfl) (by kernel_rfl)) ?_
  refine Sy.doneD (by kernel_rfl) ?_
  refine Sy.then_ ?_
  refine Sy.ret ?_
  rw [show (tv u.val v.val (1 : Fp).val : Value) = tv u.val v.val z1.val from by rw [hz1]]
  exact Sy.ret1 (v := tv u.val v.val z1.val) rfl (.inl (Res.cell (ty' := 73) g1 1 (tcs u.val v.val z1.val) _ (by kernel_rfl) (by kernel_rfl) Try.underlying73 rfl (by kernel_rfl) (by kernel_rfl)))
/-- every three -/
theorem three_c (w : World) (P : Pt) : Calls Try.prog 101 #[ptv P] w (Gets w (jv (threeJ P))) := by
  rcases P with _ | ⟨u, v⟩
  · exact three_n w
  · exact three_s w u v
set_option maxHeartbeats 4000000 in
set_option maxRecDepth 100000 in
theorem point_c (w : World) (a : J) : Calls Try.prog 47 #[tv a.x.val a.y.val a.z.val] w (Gets w (ptv (ptJ a))) := by
  refine Sy.enter (args := [tv a.x.val a.y.val a.z.val]) Try.func47 rfl (Nat.le_of_ble_eq_true (by kernel_rfl)) ?_
  refine Sy.seq ?_
  refine Sy.region ?_
  refine Sy.make (by kernel_rfl) 73 (tcs a.x.val a.y.val a.z.val) ptr (fun _ => by kernel_rfl) (fun g0 => ?_)
  refine Sy.make (by kernel_rfl) 27 (pcs 0 0 false) ptr (fun _ => by kernel_rfl) (fun g1 => ?_)
  refine Sy.nil ?_
  refine Sy.then_ ?_
  refine Sy.seq ?_
  refine Sy.seq ?_
  refine Sy.regionD (fun j => false) (by kernel_rfl) ?_
  refine Sy.stepD 0 rfl (by kernel_rfl) (fun _ _ _ _ h => h) (by kernel_rfl) (.pointer (some ⟨g0, 8, none⟩)) (Quiet.pure (fun _ => by kernel_rfl)) ?_
  refine Sy.stepD 1 rfl (by kernel_rfl) (fun _ _ _ _ h => h) (by kernel_rfl) (fv a.z.val) (Quiet.load 0 g0 8 4 73 25 (tcs a.x.val a.y.val a.z.val) _ _ rfl (by kernel_rfl) (by kernel_rfl) Try.underlying25 rfl (by kernel_rfl) _ (by kernel_rfl) (Nat.le_of_ble_eq_true (by kernel_rfl))) ?_
  obtain ⟨z1, hz1⟩ : ∃ z : Fp, z = (0 : Fp) := ⟨_, rfl⟩
  refine Sy.stepD 2 rfl (by kernel_rfl) (fun _ _ _ _ h => h) (by kernel_rfl) (fv z1.val) (Quiet.call 77 #[.int .u64 0] (fun _ => by kernel_rfl) (fun w => by rw [hz1]; exact of_c 0 (by decide +kernel) (by decide) w)) ?_
  obtain ⟨b1, hb1⟩ : ∃ z : Bool, z = decide (a.z.val = z1.val) := ⟨_, rfl⟩
  refine Sy.stepD 3 rfl (by kernel_rfl) (fun _ _ _ _ h => h) (by kernel_rfl) (.bool b1) (Quiet.pure (fun w => by rw [hb1]; exact eql_fe w _ _ _ _ _ _ rfl rfl rfl (by first | assumption | exact lt4 _ | decide +kernel) (by first | assumption | exact lt4 _ | decide +kernel))) ?_
  refine Sy.doneD (by kernel_rfl) ?_
  refine Sy.then_ ?_
  cases b1
  · have eb1 : a.z ≠ 0 := fun e => of_decide_eq_false hb1.symm (by rw [e, hz1])
    refine Sy.cond_f (by kernel_rfl) (by kernel_rfl) ?_
    refine Sy.skip ?_
    refine Sy.then_ ?_
    refine Sy.seq ?_
    refine Sy.region ?_
    refine Sy.step (by kernel_rfl) (.pointer (some ⟨g0, 8, none⟩)) (Quiet.pure (fun _ => by kernel_rfl)) ?_
    refine Sy.step (by kernel_rfl) (fv a.z.val) (Quiet.load 0 g0 8 4 73 25 (tcs a.x.val a.y.val a.z.val) _ _ rfl (by kernel_rfl) (by kernel_rfl) Try.underlying25 rfl (by kernel_rfl) _ (by kernel_rfl) (Nat.le_of_ble_eq_true (by kernel_rfl))) ?_
    obtain ⟨z2, hz2⟩ : ∃ z : Fp, z = finv a.z := ⟨_, rfl⟩
    refine Sy.step (by kernel_rfl) (fv z2.val) (Quiet.call 84 #[fv a.z.val] (fun _ => by kernel_rfl) (by rw [hz2]; exact inv_c a.z)) ?_
    refine Sy.make (by kernel_rfl) 25 (fcs 0) ptr (fun _ => by kernel_rfl) (fun g2 => ?_)
    refine Sy.write (by kernel_rfl) 2 g2 25 (fcs 0) (fcs z2.val) (by kernel_rfl) (Writes.store 0 25 (fcs z2.val) _ _ rfl (by kernel_rfl) (by kernel_rfl) (by kernel_rfl) (Nat.le_of_ble_eq_true (by kernel_rfl)) (by kernel_rfl) (by kernel_rfl)) ?_
    refine Sy.nil ?_
    refine Sy.then_ ?_
    refine Sy.seq ?_
    refine Sy.region ?_
    refine Sy.step (by kernel_rfl) (fv z2.val) (Quiet.load 2 g2 0 4 25 25 (fcs z2.val) _ _ rfl (by kernel_rfl) (by kernel_rfl) Try.underlying25 rfl (by kernel_rfl) _ (by kernel_rfl) (Nat.le_of_ble_eq_true (by kernel_rfl))) ?_
    refine Sy.step (by kernel_rfl) (fv z2.val) (Quiet.load 2 g2 0 4 25 25 (fcs z2.val) _ _ rfl (by kernel_rfl) (by kernel_rfl) Try.underlying25 rfl (by kernel_rfl) _ (by kernel_rfl) (Nat.le_of_ble_eq_true (by kernel_rfl))) ?_
    obtain ⟨z3, hz3⟩ : ∃ z : Fp, z = z2 * z2 := ⟨_, rfl⟩
    refine Sy.step (by kernel_rfl) (fv z3.val) (Quiet.call 40 #[fv z2.val, fv z2.val] (fun _ => by kernel_rfl) (by rw [hz3]; exact mul_c z2 z2)) ?_
    refine Sy.make (by kernel_rfl) 25 (fcs 0) ptr (fun _ => by kernel_rfl) (fun g3 => ?_)
    refine Sy.write (by kernel_rfl) 3 g3 25 (fcs 0) (fcs z3.val) (by kernel_rfl) (Writes.store 0 25 (fcs z3.val) _ _ rfl (by kernel_rfl) (by kernel_rfl) (by kernel_rfl) (Nat.le_of_ble_eq_true (by kernel_rfl)) (by kernel_rfl) (by kernel_rfl)) ?_
    refine Sy.nil ?_
    refine Sy.then_ ?_
    refine Sy.seq ?_
    refine Sy.regionD (fun j => j == 11) (by kernel_rfl) ?_
    refine Sy.stepD 0 rfl (by kernel_rfl) (fun _ _ _ _ h => h) (by kernel_rfl) (.pointer (some ⟨g0, 0, none⟩)) (Quiet.pure (fun _ => by kernel_rfl)) ?_
    refine Sy.stepD 1 rfl (by kernel_rfl) (fun _ _ _ _ h => h) (by kernel_rfl) (fv a.x.val) (Quiet.load 0 g0 0 4 73 25 (tcs a.x.val a.y.val a.z.val) _ _ rfl (by kernel_rfl) (by kernel_rfl) Try.underlying25 rfl (by kernel_rfl) _ (by kernel_rfl) (Nat.le_of_ble_eq_true (by kernel_rfl))) ?_
    refine Sy.stepD 2 rfl (by kernel_rfl) (fun _ _ _ _ h => h) (by kernel_rfl) (fv z3.val) (Quiet.load 3 g3 0 4 25 25 (fcs z3.val) _ _ rfl (by kernel_rfl) (by kernel_rfl) Try.underlying25 rfl (by kernel_rfl) _ (by kernel_rfl) (Nat.le_of_ble_eq_true (by kernel_rfl))) ?_
    obtain ⟨z4, hz4⟩ : ∃ z : Fp, z = a.x * z3 := ⟨_, rfl⟩
    refine Sy.stepD 3 rfl (by kernel_rfl) (fun _ _ _ _ h => h) (by kernel_rfl) (fv z4.val) (Quiet.call 40 #[fv a.x.val, fv z3.val] (fun _ => by kernel_rfl) (by rw [hz4]; exact mul_c a.x z3)) ?_
    refine Sy.stepD 4 rfl (by kernel_rfl) (fun _ _ _ _ h => h) (by kernel_rfl) (.pointer (some ⟨g0, 4, none⟩)) (Quiet.pure (fun _ => by kernel_rfl)) ?_
    refine Sy.stepD 5 rfl (by kernel_rfl) (fun _ _ _ _ h => h) (by kernel_rfl) (fv a.y.val) (Quiet.load 0 g0 4 4 73 25 (tcs a.x.val a.y.val a.z.val) _ _ rfl (by kernel_rfl) (by kernel_rfl) Try.underlying25 rfl (by kernel_rfl) _ (by kernel_rfl) (Nat.le_of_ble_eq_true (by kernel_rfl))) ?_
    refine Sy.stepD 6 rfl (by kernel_rfl) (fun _ _ _ _ h => h) (by kernel_rfl) (fv z3.val) (Quiet.load 3 g3 0 4 25 25 (fcs z3.val) _ _ rfl (by kernel_rfl) (by kernel_rfl) Try.underlying25 rfl (by kernel_rfl) _ (by kernel_rfl) (Nat.le_of_ble_eq_true (by kernel_rfl))) ?_
    refine Sy.stepD 7 rfl (by kernel_rfl) (fun _ _ _ _ h => h) (by kernel_rfl) (fv z2.val) (Quiet.load 2 g2 0 4 25 25 (fcs z2.val) _ _ rfl (by kernel_rfl) (by kernel_rfl) Try.underlying25 rfl (by kernel_rfl) _ (by kernel_rfl) (Nat.le_of_ble_eq_true (by kernel_rfl))) ?_
    obtain ⟨z5, hz5⟩ : ∃ z : Fp, z = z3 * z2 := ⟨_, rfl⟩
    refine Sy.stepD 8 rfl (by kernel_rfl) (fun _ _ _ _ h => h) (by kernel_rfl) (fv z5.val) (Quiet.call 40 #[fv z3.val, fv z2.val] (fun _ => by kernel_rfl) (by rw [hz5]; exact mul_c z3 z2)) ?_
    obtain ⟨z6, hz6⟩ : ∃ z : Fp, z = a.y * z5 := ⟨_, rfl⟩
    refine Sy.stepD 9 rfl (by kernel_rfl) (fun _ _ _ _ h => h) (by kernel_rfl) (fv z6.val) (Quiet.call 40 #[fv a.y.val, fv z5.val] (fun _ => by kernel_rfl) (by rw [hz6]; exact mul_c a.y z5)) ?_
    refine Sy.stepD 10 rfl (by kernel_rfl) (fun _ _ _ _ h => h) (by kernel_rfl) (pv z4.val z6.val false) (Quiet.pure (fun _ => by kernel_rfl)) ?_
    refine Sy.writeD 11 rfl (by kernel_rfl) (by rfl) (by kernel_rfl) 1 g1 27 (pcs 0 0 false) (pcs z4.val z6.val false) (by kernel_rfl) (Writes.store 0 27 (pcs z4.val z6.val false) _ _ rfl (by kernel_rfl) (by kernel_rfl) (by kernel_rfl) (Nat.le_of_ble_eq_true (by kernel_rfl)) (by kernel_rfl) (by kernel_rfl)) ?_
    refine Sy.doneD (by kernel_rfl) ?_
    refine Sy.then_ ?_
    refine Sy.ret ?_
    rw [show (ptv (ptJ a) : Value) = pv z4.val z6.val false from by unfold ptJ; rw [if_neg eb1]; unfold ptv; simp only [hz6, hz5, hz4, hz3, hz2]]
    exact Sy.ret1 (v := pv z4.val z6.val false) rfl (.inl (Res.cell (ty' := 27) g1 1 (pcs z4.val z6.val false) _ (by kernel_rfl) (by kernel_rfl) Try.underlying27 rfl (by kernel_rfl) (by kernel_rfl)))
  · have eb1 : a.z = 0 := (Fin.ext (of_decide_eq_true hb1.symm)).trans hz1
    refine Sy.cond_t (by kernel_rfl) (by kernel_rfl) ?_
    refine Sy.seq ?_
    refine Sy.region ?_
    refine Sy.step (by kernel_rfl) (pv 0 0 true) (Quiet.call 25 #[] (fun _ => by kernel_rfl) (zero_c)) ?_
    refine Sy.write (by kernel_rfl) 1 g1 27 (pcs 0 0 false) (pcs 0 0 true) (by kernel_rfl) (Writes.store 0 27 (pcs 0 0 true) _ _ rfl (by kernel_rfl) (by kernel_rfl) (by kernel_rfl) (Nat.le_of_ble_eq_true (by kernel_rfl)) (by kernel_rfl) (by kernel_rfl)) ?_
    refine Sy.nil ?_
    refine Sy.then_ ?_
    refine Sy.ret ?_
    refine Sy.then_ret ?_
    rw [show (ptv (ptJ a) : Value) = pv 0 0 true from by unfold ptJ; rw [if_pos eb1]; rfl]
    exact Sy.ret1 (v := pv 0 0 true) rfl (.inl (Res.cell (ty' := 27) g1 1 (pcs 0 0 true) _ (by kernel_rfl) (by kernel_rfl) Try.underlying27 rfl (by kernel_rfl) (by kernel_rfl)))
end Go.Proofs.Ytneeefinaejgcaa.Cu

end
section
namespace Go.Proofs.Ytneeefinaejgcaa.Cu
open Go.RowKit Go.Proofs.Ytneeefinaejgcaa Go.Proofs.Ytneeefinaejgcaa.Sy

def dblR (a : J) : J := if a.z = 0 then a else dblJ a
theorem dblR_rep {a : J} {P : Pt} (hP : Ec.On P) (h : Ec.Rep a P) : Ec.Rep (dblR a) (Ec.add finv P P) := by
  unfold dblR
  by_cases k : a.z = 0
  · rw [if_pos k]
    rcases P with _ | ⟨X, Y⟩
    · exact k
    · exact absurd k h.1
  · rw [if_neg k]; exact dblJ_rep hP h
def hR (a : J) (x : Fp) : Fp := x * (a.z * a.z) - a.x
def rR (a : J) (y : Fp) : Fp := y * (a.z * a.z * a.z) - a.y
def pxR (a : J) (x y : Fp) : Fp := rR a y * rR a y - hR a x * hR a x * hR a x - (a.x * (hR a x * hR a x) + a.x * (hR a x * hR a x))
def pyR (a : J) (x y : Fp) : Fp := rR a y * (a.x * (hR a x * hR a x) - pxR a x y) - a.y * (hR a x * hR a x * hR a x)
def plusR (a : J) (x y : Fp) : J := if a.z = 0 then ⟨x, y, 1⟩ else if x * (a.z * a.z) = a.x then (if y * (a.z * a.z * a.z) = a.y then dblR a else ⟨0, 0, 0⟩) else ⟨pxR a x y, pyR a x y, a.z * hR a x⟩
theorem plusR_rep {a : J} {P : Pt} {x y : Fp} (hP : Ec.On P) (hQ : y * y = x * x * x + 7) (h : Ec.Rep a P) : Ec.Rep (plusR a x y) (Ec.add finv P (some (x, y))) := by
  rcases P with _ | ⟨X, Y⟩
  · unfold plusR
    rw [if_pos (show a.z = 0 from h), Ec.zero_add]
    exact threeJ_rep (some (x, y))
  obtain ⟨h0, h1, h2⟩ := h
  unfold plusR
  rw [if_neg h0]
  have hZZ := fld.ne_mul h0 h0
  have hZZZ := fld.ne_mul hZZ h0
  by_cases e1 : x * (a.z * a.z) = a.x
  · rw [if_pos e1]
    have ex : x = X := fld.cancel hZZ (by rw [h1] at e1; clear h1 h2 hP hQ; grobner)
    subst ex
    by_cases e2 : y * (a.z * a.z * a.z) = a.y
    · rw [if_pos e2]
      have ey : y = Y := fld.cancel hZZZ (by rw [h2] at e2; clear h1 h2 hP hQ e1; grobner)
      subst ey
      exact dblR_rep hP ⟨h0, h1, h2⟩
    · rw [if_neg e2]
      have hne : Y ≠ y := fun q => e2 (by rw [← q, h2])
      have hs : Y + y = 0 := Classical.byContradiction fun t => Ec.off fld hP hQ (fun q => hne q.2) (fun q => t q.2) rfl
      have ea : Ec.add finv (some (x, Y)) (some (x, y)) = none := if_pos ⟨rfl, hs⟩
      rw [ea]
      rfl
  · rw [if_neg e1]
    exact Ec.ad fld (Z := a.z) (u := a.x) (v := a.y) (c := hR a x) (r := rR a y) hP hQ h0 h1 h2 rfl rfl (fun q => e1 (by have := q.1; unfold hR at this; clear q h1 h2 hP hQ; grobner)) rfl rfl rfl
theorem plusR_1 {a : J} {x y : Fp} (h : a.z = 0) : plusR a x y = ⟨x, y, 1⟩ := if_pos h
theorem plusR_2 {a : J} {x y : Fp} (h : a.z ≠ 0) (k : x * (a.z * a.z) = a.x) (m : y * (a.z * a.z * a.z) = a.y) : plusR a x y = dblR a := by unfold plusR; rw [if_neg h, if_pos k, if_pos m]
theorem plusR_3 {a : J} {x y : Fp} (h : a.z ≠ 0) (k : x * (a.z * a.z) = a.x) (m : y * (a.z * a.z * a.z) ≠ a.y) : plusR a x y = ⟨0, 0, 0⟩ := by unfold plusR; rw [if_neg h, if_pos k, if_neg m]
theorem plusR_4 {a : J} {x y : Fp} (h : a.z ≠ 0) (k : x * (a.z * a.z) ≠ a.x) : plusR a x y = ⟨pxR a x y, pyR a x y, a.z * hR a x⟩ := by unfold plusR; rw [if_neg h, if_neg k]
set_option maxHeartbeats 4000000 in
set_option maxRecDepth 100000 in
theorem twiceR_c (w : World) (a : J) : Calls Try.prog 32 #[tv a.x.val a.y.val a.z.val] w (Gets w (tv (dblR a).x.val (dblR a).y.val (dblR a).z.val)) := by
  refine Sy.enter (args := [tv a.x.val a.y.val a.z.val]) Try.func32 rfl (Nat.le_of_ble_eq_true (by kernel_rfl)) ?_
  refine Sy.seq ?_
  refine Sy.region ?_
  refine Sy.make (by kernel_rfl) 65 (tcs a.x.val a.y.val a.z.val) ptr (fun _ => by kernel_rfl) (fun g0 => ?_)
  refine Sy.make (by kernel_rfl) 65 (tcs 0 0 0) ptr (fun _ => by kernel_rfl) (fun g1 => ?_)
  refine Sy.nil ?_
  refine Sy.then_ ?_
  refine Sy.seq ?_
  refine Sy.seq ?_
  refine Sy.region ?_
  refine Sy.step (by kernel_rfl) (.pointer (some ⟨g0, 8, none⟩)) (Quiet.pure (fun _ => by kernel_rfl)) ?_
  refine Sy.step (by kernel_rfl) (fv a.z.val) (Quiet.load 0 g0 8 4 65 56 (tcs a.x.val a.y.val a.z.val) _ _ rfl (by kernel_rfl) (by kernel_rfl) Try.underlying56 rfl (by kernel_rfl) _ (by kernel_rfl) (Nat.le_of_ble_eq_true (by kernel_rfl))) ?_
  refine Sy.step (by kernel_rfl) (fv 0) (Quiet.pure (fun _ => by kernel_rfl)) ?_
  obtain ⟨b1, hb1⟩ : ∃ z : Bool, z = decide (a.z.val = 0) := ⟨_, rfl⟩
  refine Sy.step (by kernel_rfl) (.bool b1) (Quiet.pure (fun w => by rw [hb1]; exact eql_num w _ _ _ _ _ _ rfl rfl rfl (by first | assumption | exact lt4 _ | decide +kernel) (by first | assumption | exact lt4 _ | decide +kernel))) ?_
  refine Sy.nil ?_
  refine Sy.then_ ?_
  cases b1
  · have eb1 : a.z ≠ (0 : Fp) := fun e => of_decide_eq_false hb1.symm (congrArg Fin.val e)
    refine Sy.cond_f (by kernel_rfl) (by kernel_rfl) ?_
    refine Sy.skip ?_
    refine Sy.then_ ?_
    refine Sy.seq ?_
    refine Sy.region ?_
    refine Sy.step (by kernel_rfl) (.pointer (some ⟨g0, 0, none⟩)) (Quiet.pure (fun _ => by kernel_rfl)) ?_
    refine Sy.step (by kernel_rfl) (fv a.x.val) (Quiet.load 0 g0 0 4 65 56 (tcs a.x.val a.y.val a.z.val) _ _ rfl (by kernel_rfl) (by kernel_rfl) Try.underlying56 rfl (by kernel_rfl) _ (by kernel_rfl) (Nat.le_of_ble_eq_true (by kernel_rfl))) ?_
    refine Sy.step (by kernel_rfl) (.pointer (some ⟨g0, 0, none⟩)) (Quiet.pure (fun _ => by kernel_rfl)) ?_
    refine Sy.step (by kernel_rfl) (fv a.x.val) (Quiet.load 0 g0 0 4 65 56 (tcs a.x.val a.y.val a.z.val) _ _ rfl (by kernel_rfl) (by kernel_rfl) Try.underlying56 rfl (by kernel_rfl) _ (by kernel_rfl) (Nat.le_of_ble_eq_true (by kernel_rfl))) ?_
    obtain ⟨z1, hz1⟩ : ∃ z : Fp, z = a.x * a.x := ⟨_, rfl⟩
    refine Sy.step (by kernel_rfl) (fv z1.val) (Quiet.call 37 #[fv a.x.val, fv a.x.val] (fun _ => by kernel_rfl) (fun w => by rw [hz1]; exact mulR_c w a.x a.x)) ?_
    refine Sy.make (by kernel_rfl) 56 (fcs 0) ptr (fun _ => by kernel_rfl) (fun g2 => ?_)
    refine Sy.write (by kernel_rfl) 2 g2 56 (fcs 0) (fcs z1.val) (by kernel_rfl) (Writes.store 0 56 (fcs z1.val) _ _ rfl (by kernel_rfl) (by kernel_rfl) (by kernel_rfl) (Nat.le_of_ble_eq_true (by kernel_rfl)) (by kernel_rfl) (by kernel_rfl)) ?_
    refine Sy.nil ?_
    refine Sy.then_ ?_
    refine Sy.seq ?_
    refine Sy.region ?_
    refine Sy.step (by kernel_rfl) (.pointer (some ⟨g0, 4, none⟩)) (Quiet.pure (fun _ => by kernel_rfl)) ?_
    refine Sy.step (by kernel_rfl) (fv a.y.val) (Quiet.load 0 g0 4 4 65 56 (tcs a.x.val a.y.val a.z.val) _ _ rfl (by kernel_rfl) (by kernel_rfl) Try.underlying56 rfl (by kernel_rfl) _ (by kernel_rfl) (Nat.le_of_ble_eq_true (by kernel_rfl))) ?_
    refine Sy.step (by kernel_rfl) (.pointer (some ⟨g0, 4, none⟩)) (Quiet.pure (fun _ => by kernel_rfl)) ?_
    refine Sy.step (by kernel_rfl) (fv a.y.val) (Quiet.load 0 g0 4 4 65 56 (tcs a.x.val a.y.val a.z.val) _ _ rfl (by kernel_rfl) (by kernel_rfl) Try.underlying56 rfl (by kernel_rfl) _ (by kernel_rfl) (Nat.le_of_ble_eq_true (by kernel_rfl))) ?_
    obtain ⟨z2, hz2⟩ : ∃ z : Fp, z = a.y * a.y := ⟨_, rfl⟩
    refine Sy.step (by kernel_rfl) (fv z2.val) (Quiet.call 37 #[fv a.y.val, fv a.y.val] (fun _ => by kernel_rfl) (fun w => by rw [hz2]; exact mulR_c w a.y a.y)) ?_
    refine Sy.make (by kernel_rfl) 56 (fcs 0) ptr (fun _ => by kernel_rfl) (fun g3 => ?_)
    refine Sy.write (by kernel_rfl) 3 g3 56 (fcs 0) (fcs z2.val) (by kernel_rfl) (Writes.store 0 56 (fcs z2.val) _ _ rfl (by kernel_rfl) (by kernel_rfl) (by kernel_rfl) (Nat.le_of_ble_eq_true (by kernel_rfl)) (by kernel_rfl) (by kernel_rfl)) ?_
    refine Sy.nil ?_
    refine Sy.then_ ?_
    refine Sy.seq ?_
    refine Sy.region ?_
    refine Sy.step (by kernel_rfl) (fv z2.val) (Quiet.load 3 g3 0 4 56 56 (fcs z2.val) _ _ rfl (by kernel_rfl) (by kernel_rfl) Try.underlying56 rfl (by kernel_rfl) _ (by kernel_rfl) (Nat.le_of_ble_eq_true (by kernel_rfl))) ?_
    refine Sy.step (by kernel_rfl) (fv z2.val) (Quiet.load 3 g3 0 4 56 56 (fcs z2.val) _ _ rfl (by kernel_rfl) (by kernel_rfl) Try.underlying56 rfl (by kernel_rfl) _ (by kernel_rfl) (Nat.le_of_ble_eq_true (by kernel_rfl))) ?_
    obtain ⟨z3, hz3⟩ : ∃ z : Fp, z = z2 * z2 := ⟨_, rfl⟩
    refine Sy.step (by kernel_rfl) (fv z3.val) (Quiet.call 37 #[fv z2.val, fv z2.val] (fun _ => by kernel_rfl) (fun w => by rw [hz3]; exact mulR_c w z2 z2)) ?_
    refine Sy.make (by kernel_rfl) 56 (fcs 0) ptr (fun _ => by kernel_rfl) (fun g4 => ?_)
    refine Sy.write (by kernel_rfl) 4 g4 56 (fcs 0) (fcs z3.val) (by kernel_rfl) (Writes.store 0 56 (fcs z3.val) _ _ rfl (by kernel_rfl) (by kernel_rfl) (by kernel_rfl) (Nat.le_of_ble_eq_true (by kernel_rfl)) (by kernel_rfl) (by kernel_rfl)) ?_
    refine Sy.nil ?_
    refine Sy.then_ ?_
    refine Sy.seq ?_
    refine Sy.region ?_
    refine Sy.step (by kernel_rfl) (.pointer (some ⟨g0, 0, none⟩)) (Quiet.pure (fun _ => by kernel_rfl)) ?_
    refine Sy.step (by kernel_rfl) (fv a.x.val) (Quiet.load 0 g0 0 4 65 56 (tcs a.x.val a.y.val a.z.val) _ _ rfl (by kernel_rfl) (by kernel_rfl) Try.underlying56 rfl (by kernel_rfl) _ (by kernel_rfl) (Nat.le_of_ble_eq_true (by kernel_rfl))) ?_
    refine Sy.step (by kernel_rfl) (fv z2.val) (Quiet.load 3 g3 0 4 56 56 (fcs z2.val) _ _ rfl (by kernel_rfl) (by kernel_rfl) Try.underlying56 rfl (by kernel_rfl) _ (by kernel_rfl) (Nat.le_of_ble_eq_true (by kernel_rfl))) ?_
    obtain ⟨z4, hz4⟩ : ∃ z : Fp, z = a.x * z2 := ⟨_, rfl⟩
    refine Sy.step (by kernel_rfl) (fv z4.val) (Quiet.call 37 #[fv a.x.val, fv z2.val] (fun _ => by kernel_rfl) (fun w => by rw [hz4]; exact mulR_c w a.x z2)) ?_
    refine Sy.make (by kernel_rfl) 56 (fcs 0) ptr (fun _ => by kernel_rfl) (fun g5 => ?_)
    refine Sy.write (by kernel_rfl) 5 g5 56 (fcs 0) (fcs z4.val) (by kernel_rfl) (Writes.store 0 56 (fcs z4.val) _ _ rfl (by kernel_rfl) (by kernel_rfl) (by kernel_rfl) (Nat.le_of_ble_eq_true (by kernel_rfl)) (by kernel_rfl) (by kernel_rfl)) ?_
    refine Sy.nil ?_
    refine Sy.then_ ?_
    refine Sy.seq ?_
    refine Sy.regionD (fun j => j == 7) (by kernel_rfl) ?_
    refine Sy.stepD 0 rfl (by kernel_rfl) (fun _ _ _ _ h => h) (by kernel_rfl) (fv z4.val) (Quiet.load 5 g5 0 4 56 56 (fcs z4.val) _ _ rfl (by kernel_rfl) (by kernel_rfl) Try.underlying56 rfl (by kernel_rfl) _ (by kernel_rfl) (Nat.le_of_ble_eq_true (by kernel_rfl))) ?_
    refine Sy.stepD 1 rfl (by kernel_rfl) (fun _ _ _ _ h => h) (by kernel_rfl) (fv z4.val) (Quiet.load 5 g5 0 4 56 56 (fcs z4.val) _ _ rfl (by kernel_rfl) (by kernel_rfl) Try.underlying56 rfl (by kernel_rfl) _ (by kernel_rfl) (Nat.le_of_ble_eq_true (by kernel_rfl))) ?_
    obtain ⟨z5, hz5⟩ : ∃ z : Fp, z = z4 + z4 := ⟨_, rfl⟩
    refine Sy.stepD 2 rfl (by kernel_rfl) (fun _ _ _ _ h => h) (by kernel_rfl) (fv z5.val) (Quiet.call 64 #[fv z4.val, fv z4.val] (fun _ => by kernel_rfl) (fun w => by rw [hz5]; exact addR_c w z4 z4)) ?_
    refine Sy.stepD 3 rfl (by kernel_rfl) (fun _ _ _ _ h => h) (by kernel_rfl) (fv z4.val) (Quiet.load 5 g5 0 4 56 56 (fcs z4.val) _ _ rfl (by kernel_rfl) (by kernel_rfl) Try.underlying56 rfl (by kernel_rfl) _ (by kernel_rfl) (Nat.le_of_ble_eq_true (by kernel_rfl))) ?_
    refine Sy.stepD 4 rfl (by kernel_rfl) (fun _ _ _ _ h => h) (by kernel_rfl) (fv z4.val) (Quiet.load 5 g5 0 4 56 56 (fcs z4.val) _ _ rfl (by kernel_rfl) (by kernel_rfl) Try.underlying56 rfl (by kernel_rfl) _ (by kernel_rfl) (Nat.le_of_ble_eq_true (by kernel_rfl))) ?_
    obtain ⟨z6, hz6⟩ : ∃ z : Fp, z = z4 + z4 := ⟨_, rfl⟩
    refine Sy.stepD 5 rfl (by kernel_rfl) (fun _ _ _ _ h => h) (by kernel_rfl) (fv z6.val) (Quiet.call 64 #[fv z4.val, fv z4.val] (fun _ => by kernel_rfl) (fun w => by rw [hz6]; exact addR_c w z4 z4)) ?_
    obtain ⟨z7, hz7⟩ : ∃ z : Fp, z = z5 + z6 := ⟨_, rfl⟩
    refine Sy.stepD 6 rfl (by kernel_rfl) (fun _ _ _ _ h => h) (by kernel_rfl) (fv z7.val) (Quiet.call 64 #[fv z5.val, fv z6.val] (fun _ => by kernel_rfl) (fun w => by rw [hz7]; exact addR_c w z5 z6)) ?_
    refine Sy.writeD 7 rfl (by kernel_rfl) (by rfl) (by kernel_rfl) 5 g5 56 (fcs z4.val) (fcs z7.val) (by kernel_rfl) (Writes.store 0 56 (fcs z7.val) _ _ rfl (by kernel_rfl) (by kernel_rfl) (by kernel_rfl) (Nat.le_of_ble_eq_true (by kernel_rfl)) (by kernel_rfl) (by kernel_rfl)) ?_
    refine Sy.doneD (by kernel_rfl) ?_
    refine Sy.then_ ?_
    refine Sy.seq ?_
    refine Sy.regionD (fun j => j == 6) (by kernel_rfl) ?_
    refine Sy.stepD 0 rfl (by kernel_rfl) (fun _ _ _ _ h => h) (by kernel_rfl) (fv z1.val) (Quiet.load 2 g2 0 4 56 56 (fcs z1.val) _ _ rfl (by kernel_rfl) (by kernel_rfl) Try.underlying56 rfl (by kernel_rfl) _ (by kernel_rfl) (Nat.le_of_ble_eq_true (by kernel_rfl))) ?_
    refine Sy.stepD 1 rfl (by kernel_rfl) (fun _ _ _ _ h => h) (by kernel_rfl) (fv z1.val) (Quiet.load 2 g2 0 4 56 56 (fcs z1.val) _ _ rfl (by kernel_rfl) (by kernel_rfl) Try.underlying56 rfl (by kernel_rfl) _ (by kernel_rfl) (Nat.le_of_ble_eq_true (by kernel_rfl))) ?_
    refine Sy.stepD 2 rfl (by kernel_rfl) (fun _ _ _ _ h => h) (by kernel_rfl) (fv z1.val) (Quiet.load 2 g2 0 4 56 56 (fcs z1.val) _ _ rfl (by kernel_rfl) (by kernel_rfl) Try.underlying56 rfl (by kernel_rfl) _ (by kernel_rfl) (Nat.le_of_ble_eq_true (by kernel_rfl))) ?_
    obtain ⟨z8, hz8⟩ : ∃ z : Fp, z = z1 + z1 := ⟨_, rfl⟩
    refine Sy.stepD 3 rfl (by kernel_rfl) (fun _ _ _ _ h => h) (by kernel_rfl) (fv z8.val) (Quiet.call 64 #[fv z1.val, fv z1.val] (fun _ => by kernel_rfl) (fun w => by rw [hz8]; exact addR_c w z1 z1)) ?_
    obtain ⟨z9, hz9⟩ : ∃ z : Fp, z = z1 + z8 := ⟨_, rfl⟩
    refine Sy.stepD 4 rfl (by kernel_rfl) (fun _ _ _ _ h => h) (by kernel_rfl) (fv z9.val) (Quiet.call 64 #[fv z1.val, fv z8.val] (fun _ => by kernel_rfl) (fun w => by rw [hz9]; exact addR_c w z1 z8)) ?_
    refine Sy.makeD 5 rfl (by kernel_rfl) (by kernel_rfl) 56 (fcs 0) ptr (fun _ => by kernel_rfl) (fun g6 => ?_)
    refine Sy.writeD 6 rfl (by kernel_rfl) (by rfl) (by kernel_rfl) 6 g6 56 (fcs 0) (fcs z9.val) (by kernel_rfl) (Writes.store 0 56 (fcs z9.val) _ _ rfl (by kernel_rfl) (by kernel_rfl) (by kernel_rfl) (Nat.le_of_ble_eq_true (by kernel_rfl)) (by kernel_rfl) (by kernel_rfl)) ?_
    refine Sy.doneD (by kernel_rfl) ?_
    refine Sy.then_ ?_
    refine Sy.seq ?_
    refine Sy.regionD (fun j => j == 8) (by kernel_rfl) ?_
    refine Sy.stepD 0 rfl (by kernel_rfl) (fun _ _ _ _ h => h) (by kernel_rfl) (fv z9.val) (Quiet.load 6 g6 0 4 56 56 (fcs z9.val) _ _ rfl (by kernel_rfl) (by kernel_rfl) Try.underlying56 rfl (by kernel_rfl) _ (by kernel_rfl) (Nat.le_of_ble_eq_true (by kernel_rfl))) ?_
    refine Sy.stepD 1 rfl (by kernel_rfl) (fun _ _ _ _ h => h) (by kernel_rfl) (fv z9.val) (Quiet.load 6 g6 0 4 56 56 (fcs z9.val) _ _ rfl (by kernel_rfl) (by kernel_rfl) Try.underlying56 rfl (by kernel_rfl) _ (by kernel_rfl) (Nat.le_of_ble_eq_true (by kernel_rfl))) ?_
    obtain ⟨z10, hz10⟩ : ∃ z : Fp, z = z9 * z9 := ⟨_, rfl⟩
    refine Sy.stepD 2 rfl (by kernel_rfl) (fun _ _ _ _ h => h) (by kernel_rfl) (fv z10.val) (Quiet.call 37 #[fv z9.val, fv z9.val] (fun _ => by kernel_rfl) (fun w => by rw [hz10]; exact mulR_c w z9 z9)) ?_
    refine Sy.stepD 3 rfl (by kernel_rfl) (fun _ _ _ _ h => h) (by kernel_rfl) (fv z7.val) (Quiet.load 5 g5 0 4 56 56 (fcs z7.val) _ _ rfl (by kernel_rfl) (by kernel_rfl) Try.underlying56 rfl (by kernel_rfl) _ (by kernel_rfl) (Nat.le_of_ble_eq_true (by kernel_rfl))) ?_
    refine Sy.stepD 4 rfl (by kernel_rfl) (fun _ _ _ _ h => h) (by kernel_rfl) (fv z7.val) (Quiet.load 5 g5 0 4 56 56 (fcs z7.val) _ _ rfl (by kernel_rfl) (by kernel_rfl) Try.underlying56 rfl (by kernel_rfl) _ (by kernel_rfl) (Nat.le_of_ble_eq_true (by kernel_rfl))) ?_
    obtain ⟨z11, hz11⟩ : ∃ z : Fp, z = z7 + z7 := ⟨_, rfl⟩
    refine Sy.stepD 5 rfl (by kernel_rfl) (fun _ _ _ _ h => h) (by kernel_rfl) (fv z11.val) (Quiet.call 64 #[fv z7.val, fv z7.val] (fun _ => by kernel_rfl) (fun w => by rw [hz11]; exact addR_c w z7 z7)) ?_
    obtain ⟨z12, hz12⟩ : ∃ z : Fp, z = z10 - z11 := ⟨_, rfl⟩
    refine Sy.stepD 6 rfl (by kernel_rfl) (fun _ _ _ _ h => h) (by kernel_rfl) (fv z12.val) (Quiet.call 65 #[fv z10.val, fv z11.val] (fun _ => by kernel_rfl) (fun w => by rw [hz12]; exact subR_c w z10 z11)) ?_
    refine Sy.makeD 7 rfl (by kernel_rfl) (by kernel_rfl) 56 (fcs 0) ptr (fun _ => by kernel_rfl) (fun g7 => ?_)
    refine Sy.writeD 8 rfl (by kernel_rfl) (by rfl) (by kernel_rfl) 7 g7 56 (fcs 0) (fcs z12.val) (by kernel_rfl) (Writes.store 0 56 (fcs z12.val) _ _ rfl (by kernel_rfl) (by kernel_rfl) (by kernel_rfl) (Nat.le_of_ble_eq_true (by kernel_rfl)) (by kernel_rfl) (by kernel_rfl)) ?_
    refine Sy.doneD (by kernel_rfl) ?_
    refine Sy.then_ ?_
    refine Sy.seq ?_
    refine Sy.region ?_
    refine Sy.step (by kernel_rfl) (fv z3.val) (Quiet.load 4 g4 0 4 56 56 (fcs z3.val) _ _ rfl (by kernel_rfl) (by kernel_rfl) Try.underlying56 rfl (by kernel_rfl) _ (by kernel_rfl) (Nat.le_of_ble_eq_true (by kernel_rfl))) ?_
    refine Sy.step (by kernel_rfl) (fv z3.val) (Quiet.load 4 g4 0 4 56 56 (fcs z3.val) _ _ rfl (by kernel_rfl) (by kernel_rfl) Try.underlying56 rfl (by kernel_rfl) _ (by kernel_rfl) (Nat.le_of_ble_eq_true (by kernel_rfl))) ?_
    obtain ⟨z13, hz13⟩ : ∃ z : Fp, z = z3 + z3 := ⟨_, rfl⟩
    refine Sy.step (by kernel_rfl) (fv z13.val) (Quiet.call 64 #[fv z3.val, fv z3.val] (fun _ => by kernel_rfl) (fun w => by rw [hz13]; exact addR_c w z3 z3)) ?_
    refine Sy.write (by kernel_rfl) 4 g4 56 (fcs z3.val) (fcs z13.val) (by kernel_rfl) (Writes.store 0 56 (fcs z13.val) _ _ rfl (by kernel_rfl) (by kernel_rfl) (by kernel_rfl) (Nat.le_of_ble_eq_true (by kernel_rfl)) (by kernel_rfl) (by kernel_rfl)) ?_
    refine Sy.nil ?_
    refine Sy.then_ ?_
    refine Sy.seq ?_
    refine Sy.region ?_
    refine Sy.step (by kernel_rfl) (fv z13.val) (Quiet.load 4 g4 0 4 56 56 (fcs z13.val) _ _ rfl (by kernel_rfl) (by kernel_rfl) Try.underlying56 rfl (by kernel_rfl) _ (by kernel_rfl) (Nat.le_of_ble_eq_true (by kernel_rfl))) ?_
    refine Sy.step (by kernel_rfl) (fv z13.val) (Quiet.load 4 g4 0 4 56 56 (fcs z13.val) _ _ rfl (by kernel_rfl) (by kernel_rfl) Try.underlying56 rfl (by kernel_rfl) _ (by kernel_rfl) (Nat.le_of_ble_eq_true (by kernel_rfl))) ?_
    obtain ⟨z14, hz14⟩ : ∃ z : Fp, z = z13 + z13 := ⟨_, rfl⟩
    refine Sy.step (by kernel_rfl) (fv z14.val) (Quiet.call 64 #[fv z13.val, fv z13.val] (fun _ => by kernel_rfl) (fun w => by rw [hz14]; exact addR_c w z13 z13)) ?_
    refine Sy.write (by kernel_rfl) 4 g4 56 (fcs z13.val) (fcs z14.val) (by kernel_rfl) (Writes.store 0 56 (fcs z14.val) _ _ rfl (by kernel_rfl) (by kernel_rfl) (by kernel_rfl) (Nat.le_of_ble_eq_true (by kernel_rfl)) (by kernel_rfl) (by kernel_rfl)) ?_
    refine Sy.nil ?_
    refine Sy.then_ ?_
    refine Sy.seq ?_
    refine Sy.region ?_
    refine Sy.step (by kernel_rfl) (fv z14.val) (Quiet.load 4 g4 0 4 56 56 (fcs z14.val) _ _ rfl (by kernel_rfl) (by kernel_rfl) Try.underlying56 rfl (by kernel_rfl) _ (by kernel_rfl) (Nat.le_of_ble_eq_true (by kernel_rfl))) ?_
    refine Sy.step (by kernel_rfl) (fv z14.val) (Quiet.load 4 g4 0 4 56 56 (fcs z14.val) _ _ rfl (by kernel_rfl) (by kernel_rfl) Try.underlying56 rfl (by kernel_rfl) _ (by kernel_rfl) (Nat.le_of_ble_eq_true (by kernel_rfl))) ?_
    obtain ⟨z15, hz15⟩ : ∃ z : Fp, z = z14 + z14 := ⟨_, rfl⟩
    refine Sy.step (by kernel_rfl) (fv z15.val) (Quiet.call 64 #[fv z14.val, fv z14.val] (fun _ => by kernel_rfl) (fun w => by rw [hz15]; exact addR_c w z14 z14)) ?_
    refine Sy.write (by kernel_rfl) 4 g4 56 (fcs z14.val) (fcs z15.val) (by kernel_rfl) (Writes.store 0 56 (fcs z15.val) _ _ rfl (by kernel_rfl) (by kernel_rfl) (by kernel_rfl) (Nat.le_of_ble_eq_true (by kernel_rfl)) (by kernel_rfl) (by kernel_rfl)) ?_
    refine Sy.nil ?_
    refine Sy.then_ ?_
    refine Sy.seq ?_
    refine Sy.regionD (fun j => j == 8) (by kernel_rfl) ?_
    refine Sy.stepD 0 rfl (by kernel_rfl) (fun _ _ _ _ h => h) (by kernel_rfl) (fv z9.val) (Quiet.load 6 g6 0 4 56 56 (fcs z9.val) _ _ rfl (by kernel_rfl) (by kernel_rfl) Try.underlying56 rfl (by kernel_rfl) _ (by kernel_rfl) (Nat.le_of_ble_eq_true (by kernel_rfl))) ?_
    refine Sy.stepD 1 rfl (by kernel_rfl) (fun _ _ _ _ h => h) (by kernel_rfl) (fv z7.val) (Quiet.load 5 g5 0 4 56 56 (fcs z7.val) _ _ rfl (by kernel_rfl) (by kernel_rfl) Try.underlying56 rfl (by kernel_rfl) _ (by kernel_rfl) (Nat.le_of_ble_eq_true (by kernel_rfl))) ?_
    refine Sy.stepD 2 rfl (by kernel_rfl) (fun _ _ _ _ h => h) (by kernel_rfl) (fv z12.val) (Quiet.load 7 g7 0 4 56 56 (fcs z12.val) _ _ rfl (by kernel_rfl) (by kernel_rfl) Try.underlying56 rfl (by kernel_rfl) _ (by kernel_rfl) (Nat.le_of_ble_eq_true (by kernel_rfl))) ?_
    obtain ⟨z16, hz16⟩ : ∃ z : Fp, z = z7 - z12 := ⟨_, rfl⟩
    refine Sy.stepD 3 rfl (by kernel_rfl) (fun _ _ _ _ h => h) (by kernel_rfl) (fv z16.val) (Quiet.call 65 #[fv z7.val, fv z12.val] (fun _ => by kernel_rfl) (fun w => by rw [hz16]; exact subR_c w z7 z12)) ?_
    obtain ⟨z17, hz17⟩ : ∃ z : Fp, z = z9 * z16 := ⟨_, rfl⟩
    refine Sy.stepD 4 rfl (by kernel_rfl) (fun _ _ _ _ h => h) (by kernel_rfl) (fv z17.val) (Quiet.call 37 #[fv z9.val, fv z16.val] (fun _ => by kernel_rfl) (fun w => by rw [hz17]; exact mulR_c w z9 z16)) ?_
    refine Sy.stepD 5 rfl (by kernel_rfl) (fun _ _ _ _ h => h) (by kernel_rfl) (fv z15.val) (Quiet.load 4 g4 0 4 56 56 (fcs z15.val) _ _ rfl (by kernel_rfl) (by kernel_rfl) Try.underlying56 rfl (by kernel_rfl) _ (by kernel_rfl) (Nat.le_of_ble_eq_true (by kernel_rfl))) ?_
    obtain ⟨z18, hz18⟩ : ∃ z : Fp, z = z17 - z15 := ⟨_, rfl⟩
    refine Sy.stepD 6 rfl (by kernel_rfl) (fun _ _ _ _ h => h) (by kernel_rfl) (fv z18.val) (Quiet.call 65 #[fv z17.val, fv z15.val] (fun _ => by kernel_rfl) (fun w => by rw [hz18]; exact subR_c w z17 z15)) ?_
    refine Sy.makeD 7 rfl (by kernel_rfl) (by kernel_rfl) 56 (fcs 0) ptr (fun _ => by kernel_rfl) (fun g8 => ?_)
    refine Sy.writeD 8 rfl (by kernel_rfl) (by rfl) (by kernel_rfl) 8 g8 56 (fcs 0) (fcs z18.val) (by kernel_rfl) (Writes.store 0 56 (fcs z18.val) _ _ rfl (by kernel_rfl) (by kernel_rfl) (by kernel_rfl) (Nat.le_of_ble_eq_true (by kernel_rfl)) (by kernel_rfl) (by kernel_rfl)) ?_
    refine Sy.doneD (by kernel_rfl) ?_
    refine Sy.then_ ?_
    refine Sy.seq ?_
    refine Sy.region ?_
    refine Sy.step (by kernel_rfl) (.pointer (some ⟨g0, 4, none⟩)) (Quiet.pure (fun _ => by kernel_rfl)) ?_
    refine Sy.step (by kernel_rfl) (fv a.y.val) (Quiet.load 0 g0 4 4 65 56 (tcs a.x.val a.y.val a.z.val) _ _ rfl (by kernel_rfl) (by kernel_rfl) Try.underlying56 rfl (by kernel_rfl) _ (by kernel_rfl) (Nat.le_of_ble_eq_true (by kernel_rfl))) ?_
    refine Sy.step (by kernel_rfl) (.pointer (some ⟨g0, 8, none⟩)) (Quiet.pure (fun _ => by kernel_rfl)) ?_
    refine Sy.step (by kernel_rfl) (fv a.z.val) (Quiet.load 0 g0 8 4 65 56 (tcs a.x.val a.y.val a.z.val) _ _ rfl (by kernel_rfl) (by kernel_rfl) Try.underlying56 rfl (by kernel_rfl) _ (by kernel_rfl) (Nat.le_of_ble_eq_true (by kernel_rfl))) ?_
    obtain ⟨z19, hz19⟩ : ∃ z : Fp, z = a.y * a.z := ⟨_, rfl⟩
    refine Sy.step (by kernel_rfl) (fv z19.val) (Quiet.call 37 #[fv a.y.val, fv a.z.val] (fun _ => by kernel_rfl) (fun w => by rw [hz19]; exact mulR_c w a.y a.z)) ?_
    refine Sy.make (by kernel_rfl) 56 (fcs 0) ptr (fun _ => by kernel_rfl) (fun g9 => ?_)
    refine Sy.write (by kernel_rfl) 9 g9 56 (fcs 0) (fcs z19.val) (by kernel_rfl) (Writes.store 0 56 (fcs z19.val) _ _ rfl (by kernel_rfl) (by kernel_rfl) (by kernel_rfl) (Nat.le_of_ble_eq_true (by kernel_rfl)) (by kernel_rfl) (by kernel_rfl)) ?_
    refine Sy.nil ?_
    refine Sy.then_ ?_
    refine Sy.seq ?_
    refine Sy.regionD (fun j => j == 6) (by kernel_rfl) ?_
    refine Sy.stepD 0 rfl (by kernel_rfl) (fun _ _ _ _ h => h) (by kernel_rfl) (fv z12.val) (Quiet.load 7 g7 0 4 56 56 (fcs z12.val) _ _ rfl (by kernel_rfl) (by kernel_rfl) Try.underlying56 rfl (by kernel_rfl) _ (by kernel_rfl) (Nat.le_of_ble_eq_true (by kernel_rfl))) ?_
    refine Sy.stepD 1 rfl (by kernel_rfl) (fun _ _ _ _ h => h) (by kernel_rfl) (fv z18.val) (Quiet.load 8 g8 0 4 56 56 (fcs z18.val) _ _ rfl (by kernel_rfl) (by kernel_rfl) Try.underlying56 rfl (by kernel_rfl) _ (by kernel_rfl) (Nat.le_of_ble_eq_true (by kernel_rfl))) ?_
    refine Sy.stepD 2 rfl (by kernel_rfl) (fun _ _ _ _ h => h) (by kernel_rfl) (fv z19.val) (Quiet.load 9 g9 0 4 56 56 (fcs z19.val) _ _ rfl (by kernel_rfl) (by kernel_rfl) Try.underlying56 rfl (by kernel_rfl) _ (by kernel_rfl) (Nat.le_of_ble_eq_true (by kernel_rfl))) ?_
    refine Sy.stepD 3 rfl (by kernel_rfl) (fun _ _ _ _ h => h) (by kernel_rfl) (fv z19.val) (Quiet.load 9 g9 0 4 56 56 (fcs z19.val) _ _ rfl (by kernel_rfl) (by kernel_rfl) Try.underlying56 rfl (by kernel_rfl) _ (by kernel_rfl) (Nat.le_of_ble_eq_true (by kernel_rfl))) ?_
    obtain ⟨z20, hz20⟩ : ∃ z : Fp, z = z19 + z19 := ⟨_, rfl⟩
    refine Sy.stepD 4 rfl (by kernel_rfl) (fun _ _ _ _ h => h) (by kernel_rfl) (fv z20.val) (Quiet.call 64 #[fv z19.val, fv z19.val] (fun _ => by kernel_rfl) (fun w => by rw [hz20]; exact addR_c w z19 z19)) ?_
    refine Sy.stepD 5 rfl (by kernel_rfl) (fun _ _ _ _ h => h) (by kernel_rfl) (tv z12.val z18.val z20.val) (Quiet.pure (fun _ => by kernel_rfl)) ?_
    refine Sy.writeD 6 rfl (by kernel_rfl) (by rfl) (by kernel_rfl) 1 g1 65 (tcs 0 0 0) (tcs z12.val z18.val z20.val) (by kernel_rfl) (Writes.store 0 65 (tcs z12.val z18.val z20.val) _ _ rfl (by kernel_rfl) (by kernel_rfl) (by kernel_rfl) (Nat.le_of_ble_eq_true (by kernel_rfl)) (by kernel_rfl) (by kernel_rfl)) ?_
    refine Sy.doneD (by kernel_rfl) ?_
    refine Sy.then_ ?_
    refine Sy.ret ?_
    rw [show (tv (dblR a).x.val (dblR a).y.val (dblR a).z.val : Value) = tv z12.val z18.val z20.val from by
      unfold dblR; rw [if_neg eb1]
      have k0 : (dblJ a).x = z12 := by
        simp only [dblJ, pxR, pyR, hR, rR]
        simp only [hz12, hz11, hz10, hz9, hz8, hz7, hz6, hz5, hz4, hz2, hz1]
        grobner
      have k1 : (dblJ a).y = z18 := by
        simp only [dblJ, pxR, pyR, hR, rR]
        simp only [hz18, hz17, hz16, hz15, hz14, hz13, hz12, hz11, hz10, hz9, hz8, hz7, hz6, hz5, hz4, hz3, hz2, hz1]
        grobner
      have k2 : (dblJ a).z = z20 := by
        simp only [dblJ, pxR, pyR, hR, rR]
        simp only [hz20, hz19]
        grobner
      simp only [k0, k1, k2]]
    exact Sy.ret1 (v := tv z12.val z18.val z20.val) rfl (.inl (Res.cell (ty' := 65) g1 1 (tcs z12.val z18.val z20.val) _ (by kernel_rfl) (by kernel_rfl) Try.underlying65 rfl (by kernel_rfl) (by kernel_rfl)))
  · have eb1 : a.z = (0 : Fp) := Fin.ext (of_decide_eq_true hb1.symm)
    refine Sy.cond_t (by kernel_rfl) (by kernel_rfl) ?_
    refine Sy.seq ?_
    refine Sy.region ?_
    refine Sy.step (by kernel_rfl) (tv a.x.val a.y.val a.z.val) (Quiet.load 0 g0 0 12 65 65 (tcs a.x.val a.y.val a.z.val) _ _ rfl (by kernel_rfl) (by kernel_rfl) Try.underlying65 rfl (by kernel_rfl) _ (by kernel_rfl) (Nat.le_of_ble_eq_true (by kernel_rfl))) ?_
    refine Sy.write (by kernel_rfl) 1 g1 65 (tcs 0 0 0) (tcs a.x.val a.y.val a.z.val) (by kernel_rfl) (Writes.store 0 65 (tcs a.x.val a.y.val a.z.val) _ _ rfl (by kernel_rfl) (by kernel_rfl) (by kernel_rfl) (Nat.le_of_ble_eq_true (by kernel_rfl)) (by kernel_rfl) (by kernel_rfl)) ?_
    refine Sy.nil ?_
    refine Sy.then_ ?_
    refine Sy.ret ?_
    refine Sy.then_ret ?_
    rw [show (tv (dblR a).x.val (dblR a).y.val (dblR a).z.val : Value) = tv a.x.val a.y.val a.z.val from by unfold dblR; rw [if_pos eb1]]
    exact Sy.ret1 (v := tv a.x.val a.y.val a.z.val) rfl (.inl (Res.cell (ty' := 65) g1 1 (tcs a.x.val a.y.val a.z.val) _ (by kernel_rfl) (by kernel_rfl) Try.underlying65 rfl (by kernel_rfl) (by kernel_rfl)))
set_option maxHeartbeats 4000000 in
set_option maxRecDepth 100000 in
theorem plusR_c (w : World) (a : J) (x y : Fp) : Calls Try.prog 33 #[tv a.x.val a.y.val a.z.val, fv x.val, fv y.val] w (Gets w (tv (plusR a x y).x.val (plusR a x y).y.val (plusR a x y).z.val)) := by
  refine Sy.enter (args := [tv a.x.val a.y.val a.z.val, fv x.val, fv y.val]) Try.func33 rfl (Nat.le_of_ble_eq_true (by kernel_rfl)) ?_
  refine Sy.seq ?_
  refine Sy.region ?_
  refine Sy.make (by kernel_rfl) 65 (tcs a.x.val a.y.val a.z.val) ptr (fun _ => by kernel_rfl) (fun g0 => ?_)
  refine Sy.make (by kernel_rfl) 56 (fcs x.val) ptr (fun _ => by kernel_rfl) (fun g1 => ?_)
  refine Sy.make (by kernel_rfl) 56 (fcs y.val) ptr (fun _ => by kernel_rfl) (fun g2 => ?_)
  refine Sy.make (by kernel_rfl) 65 (tcs 0 0 0) ptr (fun _ => by kernel_rfl) (fun g3 => ?_)
  refine Sy.nil ?_
  refine Sy.then_ ?_
  refine Sy.seq ?_
  refine Sy.seq ?_
  refine Sy.region ?_
  refine Sy.step (by kernel_rfl) (.pointer (some ⟨g0, 8, none⟩)) (Quiet.pure (fun _ => by kernel_rfl)) ?_
  refine Sy.step (by kernel_rfl) (fv a.z.val) (Quiet.load 0 g0 8 4 65 56 (tcs a.x.val a.y.val a.z.val) _ _ rfl (by kernel_rfl) (by kernel_rfl) Try.underlying56 rfl (by kernel_rfl) _ (by kernel_rfl) (Nat.le_of_ble_eq_true (by kernel_rfl))) ?_
  refine Sy.step (by kernel_rfl) (fv 0) (Quiet.pure (fun _ => by kernel_rfl)) ?_
  obtain ⟨b1, hb1⟩ : ∃ z : Bool, z = decide (a.z.val = 0) := ⟨_, rfl⟩
  refine Sy.step (by kernel_rfl) (.bool b1) (Quiet.pure (fun w => by rw [hb1]; exact eql_num w _ _ _ _ _ _ rfl rfl rfl (by first | assumption | exact lt4 _ | decide +kernel) (by first | assumption | exact lt4 _ | decide +kernel))) ?_
  refine Sy.nil ?_
  refine Sy.then_ ?_
  cases b1
  · have eb1 : a.z ≠ (0 : Fp) := fun e => of_decide_eq_false hb1.symm (congrArg Fin.val e)
    refine Sy.cond_f (by kernel_rfl) (by kernel_rfl) ?_
    refine Sy.skip ?_
    refine Sy.then_ ?_
    refine Sy.seq ?_
    refine Sy.region ?_
    refine Sy.step (by kernel_rfl) (.pointer (some ⟨g0, 8, none⟩)) (Quiet.pure (fun _ => by kernel_rfl)) ?_
    refine Sy.step (by kernel_rfl) (fv a.z.val) (Quiet.load 0 g0 8 4 65 56 (tcs a.x.val a.y.val a.z.val) _ _ rfl (by kernel_rfl) (by kernel_rfl) Try.underlying56 rfl (by kernel_rfl) _ (by kernel_rfl) (Nat.le_of_ble_eq_true (by kernel_rfl))) ?_
    refine Sy.step (by kernel_rfl) (.pointer (some ⟨g0, 8, none⟩)) (Quiet.pure (fun _ => by kernel_rfl)) ?_
    refine Sy.step (by kernel_rfl) (fv a.z.val) (Quiet.load 0 g0 8 4 65 56 (tcs a.x.val a.y.val a.z.val) _ _ rfl (by kernel_rfl) (by kernel_rfl) Try.underlying56 rfl (by kernel_rfl) _ (by kernel_rfl) (Nat.le_of_ble_eq_true (by kernel_rfl))) ?_
    obtain ⟨z1, hz1⟩ : ∃ z : Fp, z = a.z * a.z := ⟨_, rfl⟩
    refine Sy.step (by kernel_rfl) (fv z1.val) (Quiet.call 37 #[fv a.z.val, fv a.z.val] (fun _ => by kernel_rfl) (fun w => by rw [hz1]; exact mulR_c w a.z a.z)) ?_
    refine Sy.make (by kernel_rfl) 56 (fcs 0) ptr (fun _ => by kernel_rfl) (fun g4 => ?_)
    refine Sy.write (by kernel_rfl) 4 g4 56 (fcs 0) (fcs z1.val) (by kernel_rfl) (Writes.store 0 56 (fcs z1.val) _ _ rfl (by kernel_rfl) (by kernel_rfl) (by kernel_rfl) (Nat.le_of_ble_eq_true (by kernel_rfl)) (by kernel_rfl) (by kernel_rfl)) ?_
    refine Sy.nil ?_
    refine Sy.then_ ?_
    refine Sy.seq ?_
    refine Sy.region ?_
    refine Sy.step (by kernel_rfl) (fv x.val) (Quiet.load 1 g1 0 4 56 56 (fcs x.val) _ _ rfl (by kernel_rfl) (by kernel_rfl) Try.underlying56 rfl (by kernel_rfl) _ (by kernel_rfl) (Nat.le_of_ble_eq_true (by kernel_rfl))) ?_
    refine Sy.step (by kernel_rfl) (fv z1.val) (Quiet.load 4 g4 0 4 56 56 (fcs z1.val) _ _ rfl (by kernel_rfl) (by kernel_rfl) Try.underlying56 rfl (by kernel_rfl) _ (by kernel_rfl) (Nat.le_of_ble_eq_true (by kernel_rfl))) ?_
    obtain ⟨z2, hz2⟩ : ∃ z : Fp, z = x * z1 := ⟨_, rfl⟩
    refine Sy.step (by kernel_rfl) (fv z2.val) (Quiet.call 37 #[fv x.val, fv z1.val] (fun _ => by kernel_rfl) (fun w => by rw [hz2]; exact mulR_c w x z1)) ?_
    refine Sy.make (by kernel_rfl) 56 (fcs 0) ptr (fun _ => by kernel_rfl) (fun g5 => ?_)
    refine Sy.write (by kernel_rfl) 5 g5 56 (fcs 0) (fcs z2.val) (by kernel_rfl) (Writes.store 0 56 (fcs z2.val) _ _ rfl (by kernel_rfl) (by kernel_rfl) (by kernel_rfl) (Nat.le_of_ble_eq_true (by kernel_rfl)) (by kernel_rfl) (by kernel_rfl)) ?_
    refine Sy.nil ?_
    refine Sy.then_ ?_
    refine Sy.seq ?_
    refine Sy.regionD (fun j => j == 7) (by kernel_rfl) ?_
    refine Sy.stepD 0 rfl (by kernel_rfl) (fun _ _ _ _ h => h) (by kernel_rfl) (fv y.val) (Quiet.load 2 g2 0 4 56 56 (fcs y.val) _ _ rfl (by kernel_rfl) (by kernel_rfl) Try.underlying56 rfl (by kernel_rfl) _ (by kernel_rfl) (Nat.le_of_ble_eq_true (by kernel_rfl))) ?_
    refine Sy.stepD 1 rfl (by kernel_rfl) (fun _ _ _ _ h => h) (by kernel_rfl) (fv z1.val) (Quiet.load 4 g4 0 4 56 56 (fcs z1.val) _ _ rfl (by kernel_rfl) (by kernel_rfl) Try.underlying56 rfl (by kernel_rfl) _ (by kernel_rfl) (Nat.le_of_ble_eq_true (by kernel_rfl))) ?_
    refine Sy.stepD 2 rfl (by kernel_rfl) (fun _ _ _ _ h => h) (by kernel_rfl) (.pointer (some ⟨g0, 8, none⟩)) (Quiet.pure (fun _ => by kernel_rfl)) ?_
    refine Sy.stepD 3 rfl (by kernel_rfl) (fun _ _ _ _ h => h) (by kernel_rfl) (fv a.z.val) (Quiet.load 0 g0 8 4 65 56 (tcs a.x.val a.y.val a.z.val) _ _ rfl (by kernel_rfl) (by kernel_rfl) Try.underlying56 rfl (by kernel_rfl) _ (by kernel_rfl) (Nat.le_of_ble_eq_true (by kernel_rfl))) ?_
    obtain ⟨z3, hz3⟩ : ∃ z : Fp, z = z1 * a.z := ⟨_, rfl⟩
    refine Sy.stepD 4 rfl (by kernel_rfl) (fun _ _ _ _ h => h) (by kernel_rfl) (fv z3.val) (Quiet.call 37 #[fv z1.val, fv a.z.val] (fun _ => by kernel_rfl) (fun w => by rw [hz3]; exact mulR_c w z1 a.z)) ?_
    obtain ⟨z4, hz4⟩ : ∃ z : Fp, z = y * z3 := ⟨_, rfl⟩
    refine Sy.stepD 5 rfl (by kernel_rfl) (fun _ _ _ _ h => h) (by kernel_rfl) (fv z4.val) (Quiet.call 37 #[fv y.val, fv z3.val] (fun _ => by kernel_rfl) (fun w => by rw [hz4]; exact mulR_c w y z3)) ?_
    refine Sy.makeD 6 rfl (by kernel_rfl) (by kernel_rfl) 56 (fcs 0) ptr (fun _ => by kernel_rfl) (fun g6 => ?_)
    refine Sy.writeD 7 rfl (by kernel_rfl) (by rfl) (by kernel_rfl) 6 g6 56 (fcs 0) (fcs z4.val) (by kernel_rfl) (Writes.store 0 56 (fcs z4.val) _ _ rfl (by kernel_rfl) (by kernel_rfl) (by kernel_rfl) (Nat.le_of_ble_eq_true (by kernel_rfl)) (by kernel_rfl) (by kernel_rfl)) ?_
    refine Sy.doneD (by kernel_rfl) ?_
    refine Sy.then_ ?_
    refine Sy.seq ?_
    refine Sy.seq ?_
    refine Sy.region ?_
    refine Sy.step (by kernel_rfl) (fv z2.val) (Quiet.load 5 g5 0 4 56 56 (fcs z2.val) _ _ rfl (by kernel_rfl) (by kernel_rfl) Try.underlying56 rfl (by kernel_rfl) _ (by kernel_rfl) (Nat.le_of_ble_eq_true (by kernel_rfl))) ?_
    refine Sy.step (by kernel_rfl) (.pointer (some ⟨g0, 0, none⟩)) (Quiet.pure (fun _ => by kernel_rfl)) ?_
    refine Sy.step (by kernel_rfl) (fv a.x.val) (Quiet.load 0 g0 0 4 65 56 (tcs a.x.val a.y.val a.z.val) _ _ rfl (by kernel_rfl) (by kernel_rfl) Try.underlying56 rfl (by kernel_rfl) _ (by kernel_rfl) (Nat.le_of_ble_eq_true (by kernel_rfl))) ?_
    obtain ⟨b2, hb2⟩ : ∃ z : Bool, z = decide (z2.val = a.x.val) := ⟨_, rfl⟩
    refine Sy.step (by kernel_rfl) (.bool b2) (Quiet.pure (fun w => by rw [hb2]; exact eql_num w _ _ _ _ _ _ rfl rfl rfl (by first | assumption | exact lt4 _ | decide +kernel) (by first | assumption | exact lt4 _ | decide +kernel))) ?_
    refine Sy.nil ?_
    refine Sy.then_ ?_
    cases b2
    · have eb2 : z2 ≠ a.x := fun e => of_decide_eq_false hb2.symm (congrArg Fin.val e)
      refine Sy.cond_f (by kernel_rfl) (by kernel_rfl) ?_
      refine Sy.skip ?_
      refine Sy.then_ ?_
      refine Sy.seq ?_
      refine Sy.region ?_
      refine Sy.step (by kernel_rfl) (fv z2.val) (Quiet.load 5 g5 0 4 56 56 (fcs z2.val) _ _ rfl (by kernel_rfl) (by kernel_rfl) Try.underlying56 rfl (by kernel_rfl) _ (by kernel_rfl) (Nat.le_of_ble_eq_true (by kernel_rfl))) ?_
      refine Sy.step (by kernel_rfl) (.pointer (some ⟨g0, 0, none⟩)) (Quiet.pure (fun _ => by kernel_rfl)) ?_
      refine Sy.step (by kernel_rfl) (fv a.x.val) (Quiet.load 0 g0 0 4 65 56 (tcs a.x.val a.y.val a.z.val) _ _ rfl (by kernel_rfl) (by kernel_rfl) Try.underlying56 rfl (by kernel_rfl) _ (by kernel_rfl) (Nat.le_of_ble_eq_true (by kernel_rfl))) ?_
      obtain ⟨z5, hz5⟩ : ∃ z : Fp, z = z2 - a.x := ⟨_, rfl⟩
      refine Sy.step (by kernel_rfl) (fv z5.val) (Quiet.call 65 #[fv z2.val, fv a.x.val] (fun _ => by kernel_rfl) (fun w => by rw [hz5]; exact subR_c w z2 a.x)) ?_
      refine Sy.make (by kernel_rfl) 56 (fcs 0) ptr (fun _ => by kernel_rfl) (fun g7 => ?_)
      refine Sy.write (by kernel_rfl) 7 g7 56 (fcs 0) (fcs z5.val) (by kernel_rfl) (Writes.store 0 56 (fcs z5.val) _ _ rfl (by kernel_rfl) (by kernel_rfl) (by kernel_rfl) (Nat.le_of_ble_eq_true (by kernel_rfl)) (by kernel_rfl) (by kernel_rfl)) ?_
      refine Sy.nil ?_
      refine Sy.then_ ?_
      refine Sy.seq ?_
      refine Sy.region ?_
      refine Sy.step (by kernel_rfl) (fv z4.val) (Quiet.load 6 g6 0 4 56 56 (fcs z4.val) _ _ rfl (by kernel_rfl) (by kernel_rfl) Try.underlying56 rfl (by kernel_rfl) _ (by kernel_rfl) (Nat.le_of_ble_eq_true (by kernel_rfl))) ?_
      refine Sy.step (by kernel_rfl) (.pointer (some ⟨g0, 4, none⟩)) (Quiet.pure (fun _ => by kernel_rfl)) ?_
      refine Sy.step (by kernel_rfl) (fv a.y.val) (Quiet.load 0 g0 4 4 65 56 (tcs a.x.val a.y.val a.z.val) _ _ rfl (by kernel_rfl) (by kernel_rfl) Try.underlying56 rfl (by kernel_rfl) _ (by kernel_rfl) (Nat.le_of_ble_eq_true (by kernel_rfl))) ?_
      obtain ⟨z6, hz6⟩ : ∃ z : Fp, z = z4 - a.y := ⟨_, rfl⟩
      refine Sy.step (by kernel_rfl) (fv z6.val) (Quiet.call 65 #[fv z4.val, fv a.y.val] (fun _ => by kernel_rfl) (fun w => by rw [hz6]; exact subR_c w z4 a.y)) ?_
      refine Sy.make (by kernel_rfl) 56 (fcs 0) ptr (fun _ => by kernel_rfl) (fun g8 => ?_)
      refine Sy.write (by kernel_rfl) 8 g8 56 (fcs 0) (fcs z6.val) (by kernel_rfl) (Writes.store 0 56 (fcs z6.val) _ _ rfl (by kernel_rfl) (by kernel_rfl) (by kernel_rfl) (Nat.le_of_ble_eq_true (by kernel_rfl)) (by kernel_rfl) (by kernel_rfl)) ?_
      refine Sy.nil ?_
      refine Sy.then_ ?_
      refine Sy.seq ?_
      refine Sy.region ?_
      refine Sy.step (by kernel_rfl) (fv z5.val) (Quiet.load 7 g7 0 4 56 56 (fcs z5.val) _ _ rfl (by kernel_rfl) (by kernel_rfl) Try.underlying56 rfl (by kernel_rfl) _ (by kernel_rfl) (Nat.le_of_ble_eq_true (by kernel_rfl))) ?_
      refine Sy.step (by kernel_rfl) (fv z5.val) (Quiet.load 7 g7 0 4 56 56 (fcs z5.val) _ _ rfl (by kernel_rfl) (by kernel_rfl) Try.underlying56 rfl (by kernel_rfl) _ (by kernel_rfl) (Nat.le_of_ble_eq_true (by kernel_rfl))) ?_
      obtain ⟨z7, hz7⟩ : ∃ z : Fp, z = z5 * z5 := ⟨_, rfl⟩
      refine Sy.step (by kernel_rfl) (fv z7.val) (Quiet.call 37 #[fv z5.val, fv z5.val] (fun _ => by kernel_rfl) (fun w => by rw [hz7]; exact mulR_c w z5 z5)) ?_
      refine Sy.make (by kernel_rfl) 56 (fcs 0) ptr (fun _ => by kernel_rfl) (fun g9 => ?_)
      refine Sy.write (by kernel_rfl) 9 g9 56 (fcs 0) (fcs z7.val) (by kernel_rfl) (Writes.store 0 56 (fcs z7.val) _ _ rfl (by kernel_rfl) (by kernel_rfl) (by kernel_rfl) (Nat.le_of_ble_eq_true (by kernel_rfl)) (by kernel_rfl) (by kernel_rfl)) ?_
      refine Sy.nil ?_
      refine Sy.then_ ?_
      refine Sy.seq ?_
      refine Sy.region ?_
      refine Sy.step (by kernel_rfl) (fv z5.val) (Quiet.load 7 g7 0 4 56 56 (fcs z5.val) _ _ rfl (by kernel_rfl) (by kernel_rfl) Try.underlying56 rfl (by kernel_rfl) _ (by kernel_rfl) (Nat.le_of_ble_eq_true (by kernel_rfl))) ?_
      refine Sy.step (by kernel_rfl) (fv z7.val) (Quiet.load 9 g9 0 4 56 56 (fcs z7.val) _ _ rfl (by kernel_rfl) (by kernel_rfl) Try.underlying56 rfl (by kernel_rfl) _ (by kernel_rfl) (Nat.le_of_ble_eq_true (by kernel_rfl))) ?_
      obtain ⟨z8, hz8⟩ : ∃ z : Fp, z = z5 * z7 := ⟨_, rfl⟩
      refine Sy.step (by kernel_rfl) (fv z8.val) (Quiet.call 37 #[fv z5.val, fv z7.val] (fun _ => by kernel_rfl) (fun w => by rw [hz8]; exact mulR_c w z5 z7)) ?_
      refine Sy.make (by kernel_rfl) 56 (fcs 0) ptr (fun _ => by kernel_rfl) (fun g10 => ?_)
      refine Sy.write (by kernel_rfl) 10 g10 56 (fcs 0) (fcs z8.val) (by kernel_rfl) (Writes.store 0 56 (fcs z8.val) _ _ rfl (by kernel_rfl) (by kernel_rfl) (by kernel_rfl) (Nat.le_of_ble_eq_true (by kernel_rfl)) (by kernel_rfl) (by kernel_rfl)) ?_
      refine Sy.nil ?_
      refine Sy.then_ ?_
      refine Sy.seq ?_
      refine Sy.region ?_
      refine Sy.step (by kernel_rfl) (.pointer (some ⟨g0, 0, none⟩)) (Quiet.pure (fun _ => by kernel_rfl)) ?_
      refine Sy.step (by kernel_rfl) (fv a.x.val) (Quiet.load 0 g0 0 4 65 56 (tcs a.x.val a.y.val a.z.val) _ _ rfl (by kernel_rfl) (by kernel_rfl) Try.underlying56 rfl (by kernel_rfl) _ (by kernel_rfl) (Nat.le_of_ble_eq_true (by kernel_rfl))) ?_
      refine Sy.step (by kernel_rfl) (fv z7.val) (Quiet.load 9 g9 0 4 56 56 (fcs z7.val) _ _ rfl (by kernel_rfl) (by kernel_rfl) Try.underlying56 rfl (by kernel_rfl) _ (by kernel_rfl) (Nat.le_of_ble_eq_true (by kernel_rfl))) ?_
      obtain ⟨z9, hz9⟩ : ∃ z : Fp, z = a.x * z7 := ⟨_, rfl⟩
      refine Sy.step (by kernel_rfl) (fv z9.val) (Quiet.call 37 #[fv a.x.val, fv z7.val] (fun _ => by kernel_rfl) (fun w => by rw [hz9]; exact mulR_c w a.x z7)) ?_
      refine Sy.make (by kernel_rfl) 56 (fcs 0) ptr (fun _ => by kernel_rfl) (fun g11 => ?_)
      refine Sy.write (by kernel_rfl) 11 g11 56 (fcs 0) (fcs z9.val) (by kernel_rfl) (Writes.store 0 56 (fcs z9.val) _ _ rfl (by kernel_rfl) (by kernel_rfl) (by kernel_rfl) (Nat.le_of_ble_eq_true (by kernel_rfl)) (by kernel_rfl) (by kernel_rfl)) ?_
      refine Sy.nil ?_
      refine Sy.then_ ?_
      refine Sy.seq ?_
      refine Sy.regionD (fun j => j == 10) (by kernel_rfl) ?_
      refine Sy.stepD 0 rfl (by kernel_rfl) (fun _ _ _ _ h => h) (by kernel_rfl) (fv z6.val) (Quiet.load 8 g8 0 4 56 56 (fcs z6.val) _ _ rfl (by kernel_rfl) (by kernel_rfl) Try.underlying56 rfl (by kernel_rfl) _ (by kernel_rfl) (Nat.le_of_ble_eq_true (by kernel_rfl))) ?_
      refine Sy.stepD 1 rfl (by kernel_rfl) (fun _ _ _ _ h => h) (by kernel_rfl) (fv z6.val) (Quiet.load 8 g8 0 4 56 56 (fcs z6.val) _ _ rfl (by kernel_rfl) (by kernel_rfl) Try.underlying56 rfl (by kernel_rfl) _ (by kernel_rfl) (Nat.le_of_ble_eq_true (by kernel_rfl))) ?_
      obtain ⟨z10, hz10⟩ : ∃ z : Fp, z = z6 * z6 := ⟨_, rfl⟩
      refine Sy.stepD 2 rfl (by kernel_rfl) (fun _ _ _ _ h => h) (by kernel_rfl) (fv z10.val) (Quiet.call 37 #[fv z6.val, fv z6.val] (fun _ => by kernel_rfl) (fun w => by rw [hz10]; exact mulR_c w z6 z6)) ?_
      refine Sy.stepD 3 rfl (by kernel_rfl) (fun _ _ _ _ h => h) (by kernel_rfl) (fv z8.val) (Quiet.load 10 g10 0 4 56 56 (fcs z8.val) _ _ rfl (by kernel_rfl) (by kernel_rfl) Try.underlying56 rfl (by kernel_rfl) _ (by kernel_rfl) (Nat.le_of_ble_eq_true (by kernel_rfl))) ?_
      obtain ⟨z11, hz11⟩ : ∃ z : Fp, z = z10 - z8 := ⟨_, rfl⟩
      refine Sy.stepD 4 rfl (by kernel_rfl) (fun _ _ _ _ h => h) (by kernel_rfl) (fv z11.val) (Quiet.call 65 #[fv z10.val, fv z8.val] (fun _ => by kernel_rfl) (fun w => by rw [hz11]; exact subR_c w z10 z8)) ?_
      refine Sy.stepD 5 rfl (by kernel_rfl) (fun _ _ _ _ h => h) (by kernel_rfl) (fv z9.val) (Quiet.load 11 g11 0 4 56 56 (fcs z9.val) _ _ rfl (by kernel_rfl) (by kernel_rfl) Try.underlying56 rfl (by kernel_rfl) _ (by kernel_rfl) (Nat.le_of_ble_eq_true (by kernel_rfl))) ?_
      refine Sy.stepD 6 rfl (by kernel_rfl) (fun _ _ _ _ h => h) (by kernel_rfl) (fv z9.val) (Quiet.load 11 g11 0 4 56 56 (fcs z9.val) _ _ rfl (by kernel_rfl) (by kernel_rfl) Try.underlying56 rfl (by kernel_rfl) _ (by kernel_rfl) (Nat.le_of_ble_eq_true (by kernel_rfl))) ?_
      obtain ⟨z12, hz12⟩ : ∃ z : Fp, z = z9 + z9 := ⟨_, rfl⟩
      refine Sy.stepD 7 rfl (by kernel_rfl) (fun _ _ _ _ h => h) (by kernel_rfl) (fv z12.val) (Quiet.call 64 #[fv z9.val, fv z9.val] (fun _ => by kernel_rfl) (fun w => by rw [hz12]; exact addR_c w z9 z9)) ?_
      obtain ⟨z13, hz13⟩ : ∃ z : Fp, z = z11 - z12 := ⟨_, rfl⟩
      refine Sy.stepD 8 rfl (by kernel_rfl) (fun _ _ _ _ h => h) (by kernel_rfl) (fv z13.val) (Quiet.call 65 #[fv z11.val, fv z12.val] (fun _ => by kernel_rfl) (fun w => by rw [hz13]; exact subR_c w z11 z12)) ?_
      refine Sy.makeD 9 rfl (by kernel_rfl) (by kernel_rfl) 56 (fcs 0) ptr (fun _ => by kernel_rfl) (fun g12 => ?_)
      refine Sy.writeD 10 rfl (by kernel_rfl) (by rfl) (by kernel_rfl) 12 g12 56 (fcs 0) (fcs z13.val) (by kernel_rfl) (Writes.store 0 56 (fcs z13.val) _ _ rfl (by kernel_rfl) (by kernel_rfl) (by kernel_rfl) (Nat.le_of_ble_eq_true (by kernel_rfl)) (by kernel_rfl) (by kernel_rfl)) ?_
      refine Sy.doneD (by kernel_rfl) ?_
      refine Sy.then_ ?_
      refine Sy.seq ?_
      refine Sy.regionD (fun j => j == 16) (by kernel_rfl) ?_
      refine Sy.stepD 0 rfl (by kernel_rfl) (fun _ _ _ _ h => h) (by kernel_rfl) (fv z13.val) (Quiet.load 12 g12 0 4 56 56 (fcs z13.val) _ _ rfl (by kernel_rfl) (by kernel_rfl) Try.underlying56 rfl (by kernel_rfl) _ (by kernel_rfl) (Nat.le_of_ble_eq_true (by kernel_rfl))) ?_
      refine Sy.stepD 1 rfl (by kernel_rfl) (fun _ _ _ _ h => h) (by kernel_rfl) (fv z6.val) (Quiet.load 8 g8 0 4 56 56 (fcs z6.val) _ _ rfl (by kernel_rfl) (by kernel_rfl) Try.underlying56 rfl (by kernel_rfl) _ (by kernel_rfl) (Nat.le_of_ble_eq_true (by kernel_rfl))) ?_
      refine Sy.stepD 2 rfl (by kernel_rfl) (fun _ _ _ _ h => h) (by kernel_rfl) (fv z9.val) (Quiet.load 11 g11 0 4 56 56 (fcs z9.val) _ _ rfl (by kernel_rfl) (by kernel_rfl) Try.underlying56 rfl (by kernel_rfl) _ (by kernel_rfl) (Nat.le_of_ble_eq_true (by kernel_rfl))) ?_
      refine Sy.stepD 3 rfl (by kernel_rfl) (fun _ _ _ _ h => h) (by kernel_rfl) (fv z13.val) (Quiet.load 12 g12 0 4 56 56 (fcs z13.val) _ _ rfl (by kernel_rfl) (by kernel_rfl) Try.underlying56 rfl (by kernel_rfl) _ (by kernel_rfl) (Nat.le_of_ble_eq_true (by kernel_rfl))) ?_
      obtain ⟨z14, hz14⟩ : ∃ z : Fp, z = z9 - z13 := ⟨_, rfl⟩
      refine Sy.stepD 4 rfl (by kernel_rfl) (fun _ _ _ _ h => h) (by kernel_rfl) (fv z14.val) (Quiet.call 65 #[fv z9.val, fv z13.val] (fun _ => by kernel_rfl) (fun w => by rw [hz14]; exact subR_c w z9 z13)) ?_
      obtain ⟨z15, hz15⟩ : ∃ z : Fp, z = z6 * z14 := ⟨_, rfl⟩
      refine Sy.stepD 5 rfl (by kernel_rfl) (fun _ _ _ _ h => h) (by kernel_rfl) (fv z15.val) (Quiet.call 37 #[fv z6.val, fv z14.val] (fun _ => by kernel_rfl) (fun w => by rw [hz15]; exact mulR_c w z6 z14)) ?_
      refine Sy.stepD 6 rfl (by kernel_rfl) (fun _ _ _ _ h => h) (by kernel_rfl) (.pointer (some ⟨g0, 4, none⟩)) (Quiet.pure (fun _ => by kernel_rfl)) ?_
      refine Sy.stepD 7 rfl (by kernel_rfl) (fun _ _ _ _ h => h) (by kernel_rfl) (fv a.y.val) (Quiet.load 0 g0 4 4 65 56 (tcs a.x.val a.y.val a.z.val) _ _ rfl (by kernel_rfl) (by kernel_rfl) Try.underlying56 rfl (by kernel_rfl) _ (by kernel_rfl) (Nat.le_of_ble_eq_true (by kernel_rfl))) ?_
      refine Sy.stepD 8 rfl (by kernel_rfl) (fun _ _ _ _ h => h) (by kernel_rfl) (fv z8.val) (Quiet.load 10 g10 0 4 56 56 (fcs z8.val) _ _ rfl (by kernel_rfl) (by kernel_rfl) Try.underlying56 rfl (by kernel_rfl) _ (by kernel_rfl) (Nat.le_of_ble_eq_true (by kernel_rfl))) ?_
      obtain ⟨z16, hz16⟩ : ∃ z : Fp, z = a.y * z8 := ⟨_, rfl⟩
      refine Sy.stepD 9 rfl (by kernel_rfl) (fun _ _ _ _ h => h) (by kernel_rfl) (fv z16.val) (Quiet.call 37 #[fv a.y.val, fv z8.val] (fun _ => by kernel_rfl) (fun w => by rw [hz16]; exact mulR_c w a.y z8)) ?_
      obtain ⟨z17, hz17⟩ : ∃ z : Fp, z = z15 - z16 := ⟨_, rfl⟩
      refine Sy.stepD 10 rfl (by kernel_rfl) (fun _ _ _ _ h => h) (by kernel_rfl) (fv z17.val) (Quiet.call 65 #[fv z15.val, fv z16.val] (fun _ => by kernel_rfl) (fun w => by rw [hz17]; exact subR_c w z15 z16)) ?_
      refine Sy.stepD 11 rfl (by kernel_rfl) (fun _ _ _ _ h => h) (by kernel_rfl) (fv z5.val) (Quiet.load 7 g7 0 4 56 56 (fcs z5.val) _ _ rfl (by kernel_rfl) (by kernel_rfl) Try.underlying56 rfl (by kernel_rfl) _ (by kernel_rfl) (Nat.le_of_ble_eq_true (by kernel_rfl))) ?_
      refine Sy.stepD 12 rfl (by kernel_rfl) (fun _ _ _ _ h => h) (by kernel_rfl) (.pointer (some ⟨g0, 8, none⟩)) (Quiet.pure (fun _ => by kernel_rfl)) ?_
      refine Sy.stepD 13 rfl (by kernel_rfl) (fun _ _ _ _ h => h) (by kernel_rfl) (fv a.z.val) (Quiet.load 0 g0 8 4 65 56 (tcs a.x.val a.y.val a.z.val) _ _ rfl (by kernel_rfl) (by kernel_rfl) Try.underlying56 rfl (by kernel_rfl) _ (by kernel_rfl) (Nat.le_of_ble_eq_true (by kernel_rfl))) ?_
      obtain ⟨z18, hz18⟩ : ∃ z : Fp, z = z5 * a.z := ⟨_, rfl⟩
      refine Sy.stepD 14 rfl (by kernel_rfl) (fun _ _ _ _ h => h) (by kernel_rfl) (fv z18.val) (Quiet.call 37 #[fv z5.val, fv a.z.val] (fun _ => by kernel_rfl) (fun w => by rw [hz18]; exact mulR_c w z5 a.z)) ?_
      refine Sy.stepD 15 rfl (by kernel_rfl) (fun _ _ _ _ h => h) (by kernel_rfl) (tv z13.val z17.val z18.val) (Quiet.pure (fun _ => by kernel_rfl)) ?_
      refine Sy.writeD 16 rfl (by kernel_rfl) (by rfl) (by kernel_rfl) 3 g3 65 (tcs 0 0 0) (tcs z13.val z17.val z18.val) (by kernel_rfl) (Writes.store 0 65 (tcs z13.val z17.val z18.val) _ _ rfl (by kernel_rfl) (by kernel_rfl) (by kernel_rfl) (Nat.le_of_ble_eq_true (by kernel_rfl)) (by kernel_rfl) (by kernel_rfl)) ?_
      refine Sy.doneD (by kernel_rfl) ?_
      refine Sy.then_ ?_
      refine Sy.ret ?_
      rw [show (tv (plusR a x y).x.val (plusR a x y).y.val (plusR a x y).z.val : Value) = tv z13.val z17.val z18.val from by
        rw [plusR_4 eb1 (by have q := eb2; simp only [hz2, hz1] at q; exact q)]; simp only
        have k0 : pxR a x y = z13 := by
          simp only [dblJ, pxR, pyR, hR, rR]
          simp only [hz13, hz12, hz11, hz10, hz9, hz8, hz7, hz6, hz5, hz4, hz3, hz2, hz1]
          grobner
        have k1 : pyR a x y = z17 := by
          simp only [dblJ, pxR, pyR, hR, rR]
          simp only [hz17, hz16, hz15, hz14, hz13, hz12, hz11, hz10, hz9, hz8, hz7, hz6, hz5, hz4, hz3, hz2, hz1]
          grobner
        have k2 : a.z * hR a x = z18 := by
          simp only [dblJ, pxR, pyR, hR, rR]
          simp only [hz18, hz5, hz2, hz1]
          grobner
        simp only [k0, k1, k2]]
      exact Sy.ret1 (v := tv z13.val z17.val z18.val) rfl (.inl (Res.cell (ty' := 65) g3 3 (tcs z13.val z17.val z18.val) _ (by kernel_rfl) (by kernel_rfl) Try.underlying65 rfl (by kernel_rfl) (by kernel_rfl)))
    · have eb2 : z2 = a.x := Fin.ext (of_decide_eq_true hb2.symm)
      refine Sy.cond_t (by kernel_rfl) (by kernel_rfl) ?_
      refine Sy.seq ?_
      refine Sy.seq ?_
      refine Sy.region ?_
      refine Sy.step (by kernel_rfl) (fv z4.val) (Quiet.load 6 g6 0 4 56 56 (fcs z4.val) _ _ rfl (by kernel_rfl) (by kernel_rfl) Try.underlying56 rfl (by kernel_rfl) _ (by kernel_rfl) (Nat.le_of_ble_eq_true (by kernel_rfl))) ?_
      refine Sy.step (by kernel_rfl) (.pointer (some ⟨g0, 4, none⟩)) (Quiet.pure (fun _ => by kernel_rfl)) ?_
      refine Sy.step (by kernel_rfl) (fv a.y.val) (Quiet.load 0 g0 4 4 65 56 (tcs a.x.val a.y.val a.z.val) _ _ rfl (by kernel_rfl) (by kernel_rfl) Try.underlying56 rfl (by kernel_rfl) _ (by kernel_rfl) (Nat.le_of_ble_eq_true (by kernel_rfl))) ?_
      obtain ⟨b3, hb3⟩ : ∃ z : Bool, z = decide (z4.val = a.y.val) := ⟨_, rfl⟩
      refine Sy.step (by kernel_rfl) (.bool b3) (Quiet.pure (fun w => by rw [hb3]; exact eql_num w _ _ _ _ _ _ rfl rfl rfl (by first | assumption | exact lt4 _ | decide +kernel) (by first | assumption | exact lt4 _ | decide +kernel))) ?_
      refine Sy.nil ?_
      refine Sy.then_ ?_
      cases b3
      · have eb3 : z4 ≠ a.y := fun e => of_decide_eq_false hb3.symm (congrArg Fin.val e)
        refine Sy.cond_f (by kernel_rfl) (by kernel_rfl) ?_
        refine Sy.skip ?_
        refine Sy.then_ ?_
        refine Sy.seq ?_
        refine Sy.region ?_
        refine Sy.step (by kernel_rfl) (tv 0 0 0) (Quiet.pure (fun _ => by kernel_rfl)) ?_
        refine Sy.write (by kernel_rfl) 3 g3 65 (tcs 0 0 0) (tcs 0 0 0) (by kernel_rfl) (Writes.store 0 65 (tcs 0 0 0) _ _ rfl (by kernel_rfl) (by kernel_rfl) (by kernel_rfl) (Nat.le_of_ble_eq_true (by kernel_rfl)) (by kernel_rfl) (by kernel_rfl)) ?_
        refine Sy.nil ?_
        refine Sy.then_ ?_
        refine Sy.ret ?_
        refine Sy.then_ret ?_
        rw [show (tv (plusR a x y).x.val (plusR a x y).y.val (plusR a x y).z.val : Value) = tv 0 0 0 from by rw [plusR_3 eb1 (by have q := eb2; simp only [hz2, hz1] at q; exact q) (by have q := eb3; simp only [hz4, hz3, hz1] at q; exact q)]; rfl]
        exact Sy.ret1 (v := tv 0 0 0) rfl (.inl (Res.cell (ty' := 65) g3 3 (tcs 0 0 0) _ (by kernel_rfl) (by kernel_rfl) Try.underlying65 rfl (by kernel_rfl) (by kernel_rfl)))
      · have eb3 : z4 = a.y := Fin.ext (of_decide_eq_true hb3.symm)
        refine Sy.cond_t (by kernel_rfl) (by kernel_rfl) ?_
        refine Sy.seq ?_
        refine Sy.region ?_
        refine Sy.step (by kernel_rfl) (tv a.x.val a.y.val a.z.val) (Quiet.load 0 g0 0 12 65 65 (tcs a.x.val a.y.val a.z.val) _ _ rfl (by kernel_rfl) (by kernel_rfl) Try.underlying65 rfl (by kernel_rfl) _ (by kernel_rfl) (Nat.le_of_ble_eq_true (by kernel_rfl))) ?_
        refine Sy.step (by kernel_rfl) (tv ((dblR a).x.val) ((dblR a).y.val) ((dblR a).z.val)) (Quiet.call 32 #[tv a.x.val a.y.val a.z.val] (fun _ => by kernel_rfl) (fun w => twiceR_c w a)) ?_
        refine Sy.write (by kernel_rfl) 3 g3 65 (tcs 0 0 0) (tcs ((dblR a).x.val) ((dblR a).y.val) ((dblR a).z.val)) (by kernel_rfl) (Writes.store 0 65 (tcs ((dblR a).x.val) ((dblR a).y.val) ((dblR a).z.val)) _ _ rfl (by kernel_rfl) (by kernel_rfl) (by kernel_rfl) (Nat.le_of_ble_eq_true (by kernel_rfl)) (by kernel_rfl) (by kernel_rfl)) ?_
        refine Sy.nil ?_
        refine Sy.then_ ?_
        refine Sy.ret ?_
        refine Sy.then_ret ?_
        refine Sy.then_ret ?_
        rw [show (tv (plusR a x y).x.val (plusR a x y).y.val (plusR a x y).z.val : Value) = tv ((dblR a).x.val) ((dblR a).y.val) ((dblR a).z.val) from by rw [plusR_2 eb1 (by have q := eb2; simp only [hz2, hz1] at q; exact q) (by have q := eb3; simp only [hz4, hz3, hz1] at q; exact q)]]
        exact Sy.ret1 (v := tv ((dblR a).x.val) ((dblR a).y.val) ((dblR a).z.val)) rfl (.inl (Res.cell (ty' := 65) g3 3 (tcs ((dblR a).x.val) ((dblR a).y.val) ((dblR a).z.val)) _ (by kernel_rfl) (by kernel_rfl) Try.underlying65 rfl (by kernel_rfl) (by kernel_rfl)))
  · have eb1 : a.z = (0 : Fp) := Fin.ext (of_decide_eq_true hb1.symm)
    refine Sy.cond_t (by kernel_rfl) (by kernel_rfl) ?_
    refine Sy.seq ?_
    refine Sy.regionD (fun j => j == 4) (by kernel_rfl) ?_
    refine Sy.stepD 0 rfl (by kernel_rfl) (fun _ _ _ _ h => h) (by kernel_rfl) (fv x.val) (Quiet.load 1 g1 0 4 56 56 (fcs x.val) _ _ rfl (by kernel_rfl) (by kernel_rfl) Try.underlying56 rfl (by kernel_rfl) _ (by kernel_rfl) (Nat.le_of_ble_eq_true (by kernel_rfl))) ?_
    refine Sy.stepD 1 rfl (by kernel_rfl) (fun _ _ _ _ h => h) (by kernel_rfl) (fv y.val) (Quiet.load 2 g2 0 4 56 56 (fcs y.val) _ _ rfl (by kernel_rfl) (by kernel_rfl) Try.underlying56 rfl (by kernel_rfl) _ (by kernel_rfl) (Nat.le_of_ble_eq_true (by kernel_rfl))) ?_
    obtain ⟨z19, hz19⟩ : ∃ z : Fp, z = (1 : Fp) := ⟨_, rfl⟩
    refine Sy.stepD 2 rfl (by kernel_rfl) (fun _ _ _ _ h => h) (by kernel_rfl) (fv z19.val) (Quiet.call 66 #[.int .u64 1] (fun _ => by kernel_rfl) (fun w => by rw [hz19]; exact small_c w 1 (by decide))) ?_
    refine Sy.stepD 3 rfl (by kernel_rfl) (fun _ _ _ _ h => h) (by kernel_rfl) (tv x.val y.val z19.val) (Quiet.pure (fun _ => by kernel_rfl)) ?_
    refine Sy.writeD 4 rfl (by kernel_rfl) (by rfl) (by kernel_rfl) 3 g3 65 (tcs 0 0 0) (tcs x.val y.val z19.val) (by kernel_rfl) (Writes.store 0 65 (tcs x.val y.val z19.val) _ _ rfl (by kernel_rfl) (by kernel_rfl) (by kernel_rfl) (Nat.le_of_ble_eq_true (by kernel_rfl)) (by kernel_rfl) (by kernel_rfl)) ?_
    refine Sy.doneD (by kernel_rfl) ?_
    refine Sy.then_ ?_
    refine Sy.ret ?_
    refine Sy.then_ret ?_
    rw [show (tv (plusR a x y).x.val (plusR a x y).y.val (plusR a x y).z.val : Value) = tv x.val y.val z19.val from by rw [plusR_1 eb1]; simp only [hz19]]
    exact Sy.ret1 (v := tv x.val y.val z19.val) rfl (.inl (Res.cell (ty' := 65) g3 3 (tcs x.val y.val z19.val) _ (by kernel_rfl) (by kernel_rfl) Try.underlying65 rfl (by kernel_rfl) (by kernel_rfl)))
end Go.Proofs.Ytneeefinaejgcaa.Cu

end
section
namespace Go.Proofs.Ytneeefinaejgcaa.Sy
open Go.RowKit Go.Proofs.Ytneeefinaejgcaa

theorem addr_off (b f q : Nat) : (⟨b, f, none⟩ : Addr).add q = ⟨b, f + q, none⟩ := by unfold Addr.add; split <;> simp_all

section
variable {P : Program} {w0 : Base} {n : Nat} {Q : Exit → Act → World → Prop} {F : Slots} {L : Blocks} {ops : Array Oper} {o : Oper} {l : List Oper}

/-- a call whose contract leans on what is known -/
theorem Quiet.callS {v : Value} (f : FuncId) (args : Array Value) (he : ∀ w, (execOp (evF F) o).run P w = .ok (.enter f args) w)
    (h : ∀ w, St w0 w L → Calls P f args w (Gets w v)) : Quiet P w0 F L o v := fun w hw => by
  unfold Gives; rw [he w]; exact h w hw

/-- one cell -/
theorem Writes.one (f : Nat) {g : Nat} {t : TypeId} {cs cs' : Array Value} (ty : TypeId) (v : Value) (x y : Operand) (ho : o.op = .store ty x y) (hx : evF F x = .pointer (some ⟨g, f, none⟩)) (hy : evF F y = v)
    (hi : (P.info? ty).map (·.size) = some 1) (hv : v.cells = #[v]) (h1 : v.oneCell' = true) (hk : f < cs.size) (hcs : cs.setIfInBounds f v = cs') : Writes P F o g t cs cs' :=
  fun w hb => ⟨w.setCell ⟨g, f, none⟩ v, by
    have hth := hb.there f 1 hk
    have hst := run_storeCells_cells (P := P) g f [v] 0 w (fun j hj => by simpa using (hth j hj).1) (fun j hj => by simpa using (hth j hj).2) (fun u hu => by rw [List.mem_singleton.1 hu]; exact h1)
    unfold execOp
    cases hq : P.info? ty with
    | none => simp [hq] at hi
    | some i =>
      have hs : i.size = 1 := by simpa [hq] using hi
      simp only [World.setCells, Nat.add_zero] at hst
      simp [ho, hx, hy, Instr.storeAt, Instr.sureAddr, storeVar, sizeOf, typeInfo, hq, hs, hv, hst, Result.andThen],
    only_setCell (World.grownBy.refl w (some g)) (.inl rfl) v, hcs ▸ hb.set_ f v⟩

/-! ## Loops -/
/-- so many rounds, from what is known -/
def wpR (P : Program) (w0 : Base) (n : Nat) (c : Code) (Q : Exit → Act → World → Prop) (k : Nat) (F : Slots) (L : Blocks) : Prop := ∀ a w, Fr w0.ds a n F → St w0 w L → Code.roundsIn w0.fence w0.room P c Q k a w
theorem loopN {c : Code} (k : Nat) (h : wpR P w0 n c Q k F L) : wpC P w0 n Q F L (.loop c) := fun a w ha hw => wpIn_loop_rounds k (h a w ha hw)
theorem round {c : Code} {k : Nat} (h : wpC P w0 n (Exit.then (Code.roundsIn w0.fence w0.room P c Q k) Q) F L c) : wpR P w0 n c Q (k + 1) F L := fun a w ha hw => h a w ha hw
theorem again {c : Code} {k : Nat} {R : Exit → Act → World → Prop} (h : wpR P w0 n c Q k F L) : X w0 n (Exit.then (Code.roundsIn w0.fence w0.room P c Q k) R) F L .normal := fun a w ha hw => h a w ha hw
/-- at most N rounds and one more, I i being known at the head of round i -/
theorem loopI {c : Code} (N : Nat) (I : Nat → Act → World → Prop) (h0 : ∀ a w, Fr w0.ds a n F → St w0 w L → I 0 a w)
    (hr : ∀ i, i ≤ N → ∀ a w, I i a w → c.wpIn w0.fence w0.room P (Exit.then (fun a w => i < N ∧ I (i + 1) a w) Q) a w) : wpC P w0 n Q F L (.loop c) := fun a w ha hw => by
  refine wpIn_loop_rounds (N + 1) ?_
  have key : ∀ k i, i + k = N → ∀ a w, I i a w → Code.roundsIn w0.fence w0.room P c Q (k + 1) a w := by
    intro k
    induction k with
    | zero =>
      intro i hi a w h
      refine wpIn_mono (hr i (by omega) a w h) fun e a w hq => ?_
      cases e <;> first | exact hq | exact absurd hq.1 (by omega)
    | succ k ih =>
      intro i hi a w h
      refine wpIn_mono (hr i (by omega) a w h) fun e a w hq => ?_
      cases e <;> first | exact hq | exact ih (i + 1) (by omega) a w hq.2
  exact key N 0 (by omega) a w (h0 a w ha hw)
theorem lookup_all : ∀ (G : Slots), (∀ p ∈ G, F.lookup p.1 = some p.2) → ∀ i v, G.lookup i = some v → F.lookup i = some v
  | [], _, _, _, h => by cases h
  | (q, u) :: G, hG, i, v, h => by
    simp only [List.lookup_cons] at h
    by_cases e : i = q
    · subst e
      simp at h
      subst h
      exact hG (i, u) (List.mem_cons_self ..)
    · have e' : (i == q) = false := by simpa using e
      rw [e'] at h
      exact lookup_all G (fun p hp => hG p (List.mem_cons_of_mem _ hp)) i v h
theorem Fr.all {ds : List Deferred} {a : Act} (h : Fr ds a n F) {G : Slots} (hG : ∀ p ∈ G, F.lookup p.1 = some p.2) : Fr ds a n G := h.less (lookup_all G hG)
theorem all_nil : ∀ p ∈ ([] : Slots), F.lookup p.1 = some p.2 := fun _ h => by cases h
theorem all_cons {G : Slots} {i : Nat} {v : Value} (h : F.lookup i = some v) (hG : ∀ p ∈ G, F.lookup p.1 = some p.2) : ∀ p ∈ (i, v) :: G, F.lookup p.1 = some p.2 := fun p hp => by
  rcases List.mem_cons.1 hp with rfl | hp
  · exact h
  · exact hG p hp

/-! ## Less is known -/
/-- some of the blocks -/
def sel : Blocks → List Bool → Blocks
  | x :: l, true :: m => x :: sel l m
  | _ :: l, false :: m => sel l m
  | _, _ => []
theorem sel_sub : ∀ (l : Blocks) (m : List Bool), (sel l m).Sublist l
  | [], [] => List.Sublist.slnil
  | [], _ :: _ => by simp [sel]
  | _ :: _, [] => by simp [sel]
  | _ :: l, true :: m => (sel_sub l m).cons_cons _
  | _ :: l, false :: m => (sel_sub l m).cons _
theorem tidyR {c : Code} {k : Nat} {G : Slots} {M : Blocks} (m : List Bool) (hM : sel L m = M) (hF : ∀ p ∈ G, F.lookup p.1 = some p.2) (h : wpR P w0 n c Q k G M) : wpR P w0 n c Q k F L := fun a w ha hw => h a w (ha.all hF) (hM ▸ hw.less (sel_sub L m))

/-- memory that was there before the call -/
theorem Quiet.there (g f k : Nat) (ty : TypeId) (cs : List Value) (d : TypeDesc) (x : Operand) (ho : o.op = .load ty x) (hx : evF F x = .pointer (some ⟨g, f, none⟩)) (hg : g < w0.world.heap.size) (hr : w0.world.rangeAt g f cs)
    (hu : P.underlying ty = some d) (hd : d.isRow = true) (hi : (P.info? ty).map (·.size) = some k) (hk : cs.length = k) (v : Value) (hv : Value.agg cs.toArray = v) : Quiet P w0 F L o v := fun w hw => by
  have hl := run_loadVar_mid (P := P) w g f ty cs d (fun j u hj => (Below.cell (p := ⟨g, f + j, none⟩) hw.below hg).trans (hr j u hj)) hu hd (by rw [hi, hk])
  unfold Gives execOp
  simp only [ho, hx, Instr.loadAt, Instr.sureAddr, Sem.run_bind, Sem.run_pure, Result.andThen_ok, hl]
  exact ⟨hv, Gr.refl _⟩
theorem Quiet.thereOne (g f : Nat) (ty : TypeId) (d : TypeDesc) (x : Operand) (ho : o.op = .load ty x) (hx : evF F x = .pointer (some ⟨g, f, none⟩)) (hg : g < w0.world.heap.size) (v : Value) (hr : w0.world.cell? ⟨g, f, none⟩ = some v)
    (hu : P.underlying ty = some d) (hd : d.isRow = false) : Quiet P w0 F L o v := fun w hw => by
  have hc : w.cell? ⟨g, f, none⟩ = some v := (Below.cell (p := ⟨g, f, none⟩) hw.below hg).trans hr
  have ha : (isAgg ty).run P w = .ok false w := by
    cases d <;> first | (cases hd; done) | simp [isAgg, underlying, hu]
  unfold Gives execOp
  simp only [ho, hx, Instr.loadAt, Instr.sureAddr, Sem.run_bind, Sem.run_pure, Result.andThen_ok, loadVar, ha, Bool.false_eq_true, if_false, run_load, hc]
  exact ⟨trivial, Gr.refl _⟩
end
end Go.Proofs.Ytneeefinaejgcaa.Sy

end
section
namespace Go.Proofs.Ytneeefinaejgcaa.Sy
open Go.RowKit Go.Proofs.Ytneeefinaejgcaa

section
variable {P : Program} {w0 : Base} {n : Nat} {Q : Exit → Act → World → Prop} {F : Slots} {L : Blocks} {ops : Array Oper} {o : Oper} {l : List Oper} {ex : Nat → Bool} {fuel : Nat} {listed : Array Bool}
end
end Go.Proofs.Ytneeefinaejgcaa.Sy

end
section
namespace Go.Proofs.Ytneeefinaejgcaa.Sy
open Go.RowKit Go.Proofs.Ytneeefinaejgcaa

/-! ## Rows of equal parts -/
theorem setAll_is : ∀ (vs : List Value) (o : Nat) (cs : Array Value), o + vs.length ≤ cs.size → setAll cs o vs = (cs.toList.take o ++ (vs ++ cs.toList.drop (o + vs.length))).toArray
  | [], o, cs, _ => by simp [setAll, List.take_append_drop]
  | v :: r, o, cs, h => by
    simp only [List.length_cons] at h
    rw [setAll, setAll_is r (o + 1) _ (by simp; omega)]
    congr 1
    have hlt : o < cs.toList.length := by simp; omega
    rw [Array.toList_setIfInBounds, List.take_set, List.take_add_one, List.drop_set_of_lt (by omega), List.getElem?_eq_getElem hlt, List.set_append_right _ _ (by simp; omega)]
    have e : o + 1 + r.length = o + (r.length + 1) := by omega
    simp [Nat.min_eq_left (Nat.le_of_lt (show o < cs.size by omega)), e]
/-- n parts, one behind the other -/
def flat (f : Nat → List Value) (n : Nat) : List Value := (List.range n).flatMap f
section
variable {s : Nat} {f : Nat → List Value}
theorem flat_succ (n : Nat) : flat f (n + 1) = flat f n ++ f n := by simp [flat, List.range_succ]
theorem flat_len (h : ∀ k, (f k).length = s) : ∀ n, (flat f n).length = n * s
  | 0 => by simp [flat]
  | n + 1 => by rw [flat_succ, List.length_append, flat_len h n, h, Nat.succ_mul]
theorem flat_add (k : Nat) : ∀ m, flat f (k + m) = flat f k ++ flat (fun j => f (k + j)) m
  | 0 => by simp [flat]
  | m + 1 => by rw [← Nat.add_assoc, flat_succ, flat_add k m, flat_succ, List.append_assoc]
theorem flat_split {n k : Nat} (hk : k < n) : flat f n = flat f k ++ (f k ++ flat (fun j => f (k + 1 + j)) (n - k - 1)) := by
  obtain ⟨m, rfl⟩ : ∃ m, n = k + 1 + m := ⟨n - k - 1, by omega⟩
  rw [flat_add, flat_succ, List.append_assoc, show k + 1 + m - k - 1 = m by omega]
theorem flat_congr {g : Nat → List Value} {n : Nat} (h : ∀ k, k < n → f k = g k) : flat f n = flat g n := by
  unfold flat
  rw [List.flatMap_def, List.flatMap_def]
  exact congrArg List.flatten (List.map_congr_left fun k hk => h k (List.mem_range.1 hk))
theorem flat_at (h : ∀ k, (f k).length = s) {n k o : Nat} (hk : k < n) (ho : o = k * s) : ((flat f n).drop o).take s = f k := by
  subst ho
  rw [flat_split hk, List.drop_append_of_le_length (by rw [flat_len h]; exact Nat.le_refl _), List.drop_eq_nil_of_le (by rw [flat_len h]; exact Nat.le_refl _), List.nil_append, List.take_append_of_le_length (by rw [h]; exact Nat.le_refl _), List.take_of_length_le (by rw [h]; exact Nat.le_refl _)]
/-- some of a part -/
theorem flat_in (h : ∀ k, (f k).length = s) {n k o e m : Nat} (hk : k < n) (ho : o = k * s + e) (hm : e + m ≤ s) : ((flat f n).drop o).take m = ((f k).drop e).take m := by
  subst ho
  rw [← flat_at h hk rfl, List.drop_take, List.drop_drop, List.take_take, Nat.min_eq_left (by omega)]
theorem flat_set (h : ∀ k, (f k).length = s) {v : List Value} (hv : v.length = s) {n k o : Nat} (hk : k < n) (ho : o = k * s) : setAll (flat f n).toArray o v = (flat (fun j => if j = k then v else f j) n).toArray := by
  subst ho
  have hl := flat_len h (f := f)
  have hks : k * s + s ≤ n * s := by rw [← Nat.succ_mul]; exact Nat.mul_le_mul_right s hk
  rw [setAll_is _ _ _ (by simp [hl, hv]; exact hks)]
  congr 1
  rw [flat_split hk, flat_split (f := fun j => if j = k then v else f j) hk]
  congr 1
  · show (flat f k ++ _).take (k * s) = _
    rw [List.take_append_of_le_length (by rw [hl]; exact Nat.le_refl _), List.take_of_length_le (by rw [hl]; exact Nat.le_refl _)]
    exact flat_congr fun j hj => by rw [if_neg (by omega)]
  · simp only [if_true]
    congr 1
    show (flat f k ++ (f k ++ _)).drop (k * s + v.length) = _
    rw [← List.append_assoc, List.drop_append_of_le_length (by rw [List.length_append, hl, h, hv]; exact Nat.le_refl _), List.drop_eq_nil_of_le (by rw [List.length_append, hl, h, hv]; exact Nat.le_refl _), List.nil_append]
    exact flat_congr fun j hj => by rw [if_neg (by omega)]
theorem flat_one (h : ∀ k, (f k).length = s) (n : Nat) (hf : ∀ k, ∀ u ∈ f k, u.oneCell' = true) : (flat f n).toArray.all (·.oneCell') = true := by
  rw [List.all_toArray, List.all_eq_true]
  intro u hu
  unfold flat at hu
  obtain ⟨k, _, hk⟩ := List.mem_flatMap.1 hu
  exact hf k u hk
/-- nothing but one part, over and over -/
theorem flat_const (c : List Value) (hc : c.length = s) (hs : 0 < s) (n : Nat) (z : Array Value) (hz : z.toList = c) : (flat (fun _ => c) n).toArray = madeCells z (n * s) := by
  have hzs : z.size = s := by rw [← Array.length_toList, hz, hc]
  apply Array.ext'
  unfold madeCells
  apply List.ext_getElem?
  intro i
  rw [Array.toList_map, Array.toList_range, List.getElem?_map]
  by_cases hi : i < n * s
  · have hk : i / s < n := Nat.div_lt_of_lt_mul (by rw [Nat.mul_comm]; exact hi)
    have h := flat_in (s := s) (f := fun _ => c) (fun _ => hc) (n := n) (k := i / s) (o := i) (e := i % s) (m := 1) hk (by rw [Nat.mul_comm]; exact (Nat.div_add_mod i s).symm) (Nat.mod_lt _ hs)
    have h2 := congrArg (·[0]?) h
    simp only [List.getElem?_take, List.getElem?_drop, Nat.zero_lt_one, if_true, Nat.add_zero] at h2
    rw [h2, List.getElem?_range hi]
    have hm : i % s < s := Nat.mod_lt _ hs
    simp only [Option.map_some, hzs]
    rw [← hz]
    simp [hzs, hm]
  · rw [List.getElem?_eq_none (by rw [flat_len (s := s) (fun _ => hc)]; omega), List.getElem?_eq_none (by simp; omega)]
    rfl
end

/-- A's parts up to k, z behind -/
def upto (k : Nat) (A : Nat → List Value) (z : List Value) (j : Nat) : List Value := if j < k then A j else z
section
variable {s n k : Nat} {A : Nat → List Value} {z : List Value}
theorem upto_len (hA : ∀ j, (A j).length = s) (hz : z.length = s) (k : Nat) : ∀ j, (upto k A z j).length = s := fun j => by
  unfold upto
  split
  · exact hA j
  · exact hz
theorem upto_lt {j : Nat} (h : j < k) : upto k A z j = A j := if_pos h
theorem upto_one (hA : ∀ j, ∀ u ∈ A j, u.oneCell' = true) (hz : ∀ u ∈ z, u.oneCell' = true) (k : Nat) : ∀ j, ∀ u ∈ upto k A z j, u.oneCell' = true := fun j u hu => by
  unfold upto at hu
  split at hu
  · exact hA j u hu
  · exact hz u hu
theorem upto_zero : (flat (fun _ => z) n).toArray = (flat (upto 0 A z) n).toArray := congrArg List.toArray (flat_congr fun j _ => by unfold upto; rw [if_neg (by omega)])
theorem upto_all : (flat (upto n A z) n).toArray = (flat A n).toArray := congrArg List.toArray (flat_congr fun j hj => upto_lt hj)
theorem upto_set (hA : ∀ j, (A j).length = s) (hz : z.length = s) {v : List Value} (hv : A k = v) (hk : k < n) {o : Nat} (ho : o = k * s) : setAll (flat (upto k A z) n).toArray o v = (flat (upto (k + 1) A z) n).toArray := by
  rw [flat_set (upto_len hA hz k) (by rw [← hv]; exact hA k) hk ho]
  refine congrArg List.toArray (flat_congr fun j _ => ?_)
  unfold upto
  by_cases e : j = k
  · subst e
    rw [if_pos rfl, if_pos (by omega), hv]
  · rw [if_neg e]
    by_cases h : j < k
    · rw [if_pos h, if_pos (by omega)]
    · rw [if_neg h, if_neg (by omega)]
theorem upto_set1 (hA : ∀ j, (A j).length = 1) {u v : Value} (hv : A k = [v]) (hk : k < n) : (flat (upto k A [u]) n).toArray.setIfInBounds k v = (flat (upto (k + 1) A [u]) n).toArray := by
  have h := upto_set (s := 1) (z := [u]) hA rfl hv hk (Nat.mul_one k).symm
  simpa only [setAll] using h
theorem flat_load {f : Nat → List Value} (h : ∀ j, (f j).length = s) (hk : k < n) {o : Nat} (ho : o = k * s) : Value.agg (((flat f n).toArray.toList.drop o).take s).toArray = .agg (f k).toArray := by
  rw [show (flat f n).toArray.toList = flat f n from rfl, flat_at h hk ho]
theorem flat_fit {f : Nat → List Value} (h : ∀ j, (f j).length = s) (hk : k < n) {o : Nat} (ho : o = k * s) : o + s ≤ (flat f n).toArray.size := by
  have hks : k * s + s ≤ n * s := by rw [← Nat.succ_mul]; exact Nat.mul_le_mul_right s hk
  rw [List.size_toArray, flat_len h]
  omega
end

section
variable {s n m : Nat} {f : Nat → List Value}
theorem flat_whole (h : ∀ j, (f j).length = s) (hm : n * s = m) : Value.agg (((flat f n).toArray.toList.drop 0).take m).toArray = .agg (flat f n).toArray := by
  rw [show (flat f n).toArray.toList = flat f n from rfl, List.drop_zero, List.take_of_length_le (by rw [flat_len h, hm]; exact Nat.le_refl _)]
theorem flat_wsize (h : ∀ j, (f j).length = s) (hm : n * s = m) : 0 + m ≤ (flat f n).toArray.size := by
  rw [List.size_toArray, flat_len h]; omega
theorem flat_info (h : ∀ j, (f j).length = s) {x : Option Nat} (hx : x = some (n * s)) : x = some (flat f n).toArray.size := by
  rw [hx, List.size_toArray, flat_len h]
theorem flat_over (h : ∀ j, (f j).length = s) (hm : n * s = m) {cs : Array Value} (hc : cs.size = m) : 0 + (flat f n).toArray.size ≤ cs.size := by
  rw [List.size_toArray, flat_len h]; omega
theorem flat_put (h : ∀ j, (f j).length = s) {cs : Array Value} (hc : cs.size = n * s) : setAll cs 0 (flat f n).toArray.toList = (flat f n).toArray := by
  have hl : (flat f n).toArray.toList.length = cs.size := by
    rw [hc]
    exact flat_len h n
  rw [setAll_is _ _ _ (by omega), List.take_zero, List.drop_eq_nil_of_le (by rw [Array.length_toList]; omega)]
  simp
theorem flat_lt1 (h : ∀ j, (f j).length = 1) {k o : Nat} (hk : k < n) (ho : o = k * 1) : o < (flat f n).toArray.size := by
  rw [List.size_toArray, flat_len h]; omega
end

section
variable {P : Program} {w0 : Base} {n : Nat} {Q : Exit → Act → World → Prop} {F : Slots} {L : Blocks} {ops : Array Oper} {o : Oper} {l : List Oper}

/-- a part of a block -/
theorem blk_range {w : World} {g : Nat} {t : TypeId} {cs : Array Value} (h : Blk w g t cs) {o : Nat} {vs : List Value} (e : (cs.toList.drop o).take vs.length = vs) : w.rangeAt g o vs := fun j v hj => by
  rw [h.cell]
  rw [← e] at hj
  have hlt : j < vs.length := by
    have h := (List.getElem?_eq_some_iff.1 hj).1
    rw [List.length_take] at h
    exact Nat.lt_of_lt_of_le h (Nat.min_le_left _ _)
  rw [List.getElem?_take_of_lt hlt, List.getElem?_drop] at hj
  simpa using hj
theorem range_left {w : World} {g o : Nat} {a b : List Value} (h : w.rangeAt g o (a ++ b)) : w.rangeAt g o a := fun j v hj => h j v (by rw [List.getElem?_append_left (List.getElem?_eq_some_iff.1 hj).1]; exact hj)
theorem range_right {w : World} {g o n : Nat} {a b : List Value} (h : w.rangeAt g o (a ++ b)) (hn : a.length = n) : w.rangeAt g (o + n) b := fun j v hj => by
  rw [Nat.add_assoc]
  refine h (n + j) v ?_
  rw [List.getElem?_append_right (by omega), show n + j - a.length = j by omega]
  exact hj
theorem range_flat {w : World} {g o n s k : Nat} {f : Nat → List Value} (h : w.rangeAt g o (flat f n)) (hs : ∀ j, (f j).length = s) (hk : k < n) : w.rangeAt g (o + k * s) (f k) := fun j v hj => by
  rw [Nat.add_assoc]
  refine h (k * s + j) v ?_
  have e := flat_at hs hk rfl
  rw [← e] at hj
  have hlt : j < s := by
    have h := (List.getElem?_eq_some_iff.1 hj).1
    rw [List.length_take] at h
    exact Nat.lt_of_lt_of_le h (Nat.min_le_left _ _)
  rw [List.getElem?_take_of_lt hlt, List.getElem?_drop] at hj
  exact hj

/-! ## Numbers that are not written out -/
theorem exec_int (op : BinOp) (t : TypeId) (x y : Operand) {yt : TypeId} (k : IntKind) {k' : IntKind} (a b : Int) (v : Value) (ho : o.op = .binOp op t x y yt) (hx : evF F x = .int k a) (hy : evF F y = .int k' b) (h : ∀ w, (binOp op t (.int k a) (.int k' b)).run P w = .ok v w) (w : World) :
    (execOp (evF F) o).run P w = .ok (.value v) w := by
  have h1 : (eqGuard op t x y (.int k a) (.int k' b)).run P w = .ok () w := by
    unfold eqGuard
    cases op <;> rfl
  unfold execOp
  simp only [ho, hx, hy, Sem.run_bind, h1, h w, Result.andThen_ok, Sem.run_pure]
theorem wrap_i64 {z : Int} (h0 : -9223372036854775808 ≤ z) (h1 : z < 9223372036854775808) : IntKind.i64.wrap z = z := by
  unfold IntKind.wrap; simp [IntKind.bits, IntKind.signed]; omega
theorem wrap_u64 {z : Int} (h0 : 0 ≤ z) (h1 : z < 18446744073709551616) : IntKind.u64.wrap z = z := by
  unfold IntKind.wrap; simp [IntKind.bits, IntKind.signed]; omega
theorem int_add (t : TypeId) (k : IntKind) (a b c : Int) (h : k.wrap (a + b) = c) (w : World) : (binOp .add t (.int k a) (.int k b)).run P w = .ok (.int k c) w := by simp [binOp, Op.intArith, h]
theorem int_sub (t : TypeId) (k : IntKind) (a b c : Int) (h : k.wrap (a - b) = c) (w : World) : (binOp .sub t (.int k a) (.int k b)).run P w = .ok (.int k c) w := by simp [binOp, Op.intArith, h]
theorem int_mul (t : TypeId) (k : IntKind) (a b c : Int) (h : k.wrap (a * b) = c) (w : World) : (binOp .mul t (.int k a) (.int k b)).run P w = .ok (.int k c) w := by simp [binOp, Op.intArith, h]
theorem int_quo (t : TypeId) (k : IntKind) (a b c : Int) (hb : b ≠ 0) (h : k.wrap (a.tdiv b) = c) (w : World) : (binOp .quo t (.int k a) (.int k b)).run P w = .ok (.int k c) w := by simp [binOp, Op.intDiv, hb, h]
theorem int_and (t : TypeId) (k : IntKind) (a b c : Int) (h : k.wrap ((BitVec.ofInt k.bits a &&& BitVec.ofInt k.bits b).toNat : Int) = c) (w : World) : (binOp .and t (.int k a) (.int k b)).run P w = .ok (.int k c) w := by
  simp only [binOp, ne_eq, not_true_eq_false, if_false, Op.intBits, Sem.run_pure]
  rw [h]
theorem int_shr (t : TypeId) (k k' : IntKind) (a b c : Int) (hb : ¬ b < 0) (h : a.fdiv (2 ^ min b.toNat k.bits) = c) (w : World) : (binOp .shr t (.int k a) (.int k' b)).run P w = .ok (.int k c) w := by
  simp only [binOp, Op.shift, if_neg hb, Sem.run_pure, h]
theorem int_lss (t : TypeId) (k : IntKind) (a b : Int) (c : Bool) (h : decide (a < b) = c) (w : World) : (binOp .lss t (.int k a) (.int k b)).run P w = .ok (.bool c) w := by simp [binOp, Op.intCmp, ← h]
theorem int_gtr (t : TypeId) (k : IntKind) (a b : Int) (c : Bool) (h : decide (a > b) = c) (w : World) : (binOp .gtr t (.int k a) (.int k b)).run P w = .ok (.bool c) w := by simp [binOp, Op.intCmp, ← h]
theorem int_neq (t : TypeId) (k : IntKind) (a b : Int) (c : Bool) (h : decide (a ≠ b) = c) (w : World) : (binOp .neq t (.int k a) (.int k b)).run P w = .ok (.bool c) w := by
  simp only [binOp, ne_eq, not_true_eq_false, if_false, Op.intCmp, Sem.run_pure, ← h]
  by_cases e : a = b <;> simp [e]
/-- an element of a slice -/
theorem exec_at (t e : TypeId) (x kx : Operand) (g f len cap k s : Nat) (ki : IntKind) (ho : o.op = .indexAddr t x kx) (hx : evF F x = .slice (some ⟨g, f, none⟩) len cap) (hkx : evF F kx = .int ki (k : Int)) (ht : P.underlying t = some (.slice e)) (hsz : ∀ w, (sizeOf e).run P w = .ok s w) (hk : k < len) (w : World) :
    (execOp (evF F) o).run P w = .ok (.value (.pointer (some ⟨g, f + k * s, none⟩))) w := by
  have h0 : (0 : Int) ≤ k := by omega
  have h1 : ((k : Int).toNat) = k := by omega
  unfold execOp
  simp [ho, hx, hkx, Instr.indexAt, asIntOf, run_underlying ht, hsz, h0, hk, addr_off, Result.andThen]
/-- .. of an array, by the array's address -/
theorem exec_atA (t e : TypeId) (x kx : Operand) (g f m k s : Nat) (ki : IntKind) (ho : o.op = .indexAddr t x kx) (hx : evF F x = .pointer (some ⟨g, f, none⟩)) (hkx : evF F kx = .int ki (k : Int)) (ht : P.underlying t = some (.array m e)) (hsz : ∀ w, (sizeOf e).run P w = .ok s w) (hk : k < m) (w : World) :
    (execOp (evF F) o).run P w = .ok (.value (.pointer (some ⟨g, f + k * s, none⟩))) w := by
  have h0 : (0 : Int) ≤ k := by omega
  unfold execOp
  simp [ho, hx, hkx, Instr.indexAt, asIntOf, run_underlying ht, hsz, h0, hk, addr_off, Result.andThen, Instr.sureAddr]
/-- a slice of a slice: from lo on -/
theorem exec_sl1 (t : TypeId) (x lx : Operand) (g f len cap lo s : Nat) (kl : IntKind) (ho : o.op = .slice t x (some lx) none none) (hx : evF F x = .slice (some ⟨g, f, none⟩) len cap) (hl : evF F lx = .int kl (lo : Int)) (ht : P.underlying t = some (.slice (P.elem t))) (hsz : ∀ w, (sizeOf (P.elem t)).run P w = .ok s w) (h1 : lo ≤ len) (h2 : lo < cap) (w : World) :
    (execOp (evF F) o).run P w = .ok (.value (.slice (some ⟨g, f + lo * s, none⟩) (len - lo) (cap - lo))) w := by
  have hne : ¬ cap = lo := by omega
  have e : (Instr.sliceAt t (.slice (some ⟨g, f, none⟩) len cap) (some (.int kl (lo : Int))) none none).run P w = .ok (.slice (some ⟨g, f + lo * s, none⟩) (len - lo) (cap - lo)) w := by
    rw [run_sliceAt_slice w t _ _ _ _ ht, run_slice_l w t (some ⟨g, f, none⟩) len cap ht kl lo (by omega) (by omega)]
    simp [hsz, sliced, hne, addr_off, Result.andThen]
  unfold execOp
  simp only [ho, hx, hl, Option.map_some, Option.map_none, e, Sem.run_bind, Sem.run_pure, Result.andThen_ok]
/-- .. from lo to hi, up to mx -/
theorem exec_sl3 (t : TypeId) (x lx hx' mx' : Operand) (g f len cap lo hi mx s : Nat) (kl kh km : IntKind) (ho : o.op = .slice t x (some lx) (some hx') (some mx')) (hx : evF F x = .slice (some ⟨g, f, none⟩) len cap) (hl : evF F lx = .int kl (lo : Int)) (hh : evF F hx' = .int kh (hi : Int)) (hm : evF F mx' = .int km (mx : Int)) (ht : P.underlying t = some (.slice (P.elem t))) (hsz : ∀ w, (sizeOf (P.elem t)).run P w = .ok s w)
    (h1 : lo ≤ hi) (h2 : hi ≤ mx) (h3 : mx ≤ cap) (h4 : lo < mx) (w : World) : (execOp (evF F) o).run P w = .ok (.value (.slice (some ⟨g, f + lo * s, none⟩) (hi - lo) (mx - lo))) w := by
  have hne : ¬ mx = lo := by omega
  have e : (Instr.sliceAt t (.slice (some ⟨g, f, none⟩) len cap) (some (.int kl (lo : Int))) (some (.int kh (hi : Int))) (some (.int km (mx : Int)))).run P w = .ok (.slice (some ⟨g, f + lo * s, none⟩) (hi - lo) (mx - lo)) w := by
    rw [run_sliceAt_slice w t _ _ _ _ ht, run_slice_lhm w t (some ⟨g, f, none⟩) len cap ht kl kh km lo hi mx (by omega) (by omega) (by omega) (by omega)]
    simp [hsz, sliced, hne, addr_off, Result.andThen]
  unfold execOp
  simp only [ho, hx, hl, hh, hm, Option.map_some, e, Sem.run_bind, Sem.run_pure, Result.andThen_ok]
/-- the lesser of two -/
theorem exec_min (x y : Operand) {ts : Array TypeId} (k : IntKind) (a b c : Nat) (ho : o.op = .call { callee := .builtin .min, args := #[x, y], argTypes := ts }) (hx : evF F x = .int k (a : Int)) (hy : evF F y = .int k (b : Int)) (h : min a b = c) (w : World) : (execOp (evF F) o).run P w = .ok (.value (.int k (c : Int))) w := by
  have e : (if (b : Int) < (a : Int) then (b : Int) else (a : Int)) = (c : Int) := by split <;> omega
  unfold execOp
  simp [ho, hx, hy, resolve, invoke, builtin, Builtin.min_, Builtin.min2, Sem.run_bind, Result.andThen]
  omega
/-- a cell of an array's value -/
theorem exec_idx (t e : TypeId) (x kx : Operand) (cs : Array Value) (m k : Nat) (ki : IntKind) (d : TypeDesc) (c : Value) (ho : o.op = .index t x kx) (hx : evF F x = .agg cs) (hkx : evF F kx = .int ki (k : Int)) (ht : P.underlying t = some (.array m e)) (he : P.underlying e = some d) (hd : d.isRow = false) (hsz : ∀ w, (sizeOf e).run P w = .ok 1 w) (hk : k < m) (hc : cs[k]? = some c) (w : World) :
    (execOp (evF F) o).run P w = .ok (.value c) w := by
  have h0 : (0 : Int) ≤ k := by omega
  have ha : (isAgg e).run P w = .ok false w := by
    cases d <;> first | (cases hd; done) | simp [isAgg, underlying, he]
  have pc : (part e cs ((k : Int).toNat * 1)).run P w = .ok c w := by
    simp [part, ha, hc, Result.andThen]
  unfold execOp
  simp only [ho, hx, hkx, Instr.index, asIntOf, Sem.run_bind, Sem.run_pure, Result.andThen_ok, run_underlying ht]
  rw [if_pos ⟨by omega, by omega⟩]
  simp only [Sem.run_bind, hsz, Result.andThen_ok, pc, Sem.run_pure]

/-! ## Loops by what is known at their heads -/
/-- .. where all that is known hangs on the round's number alone -/
def NextK (w0 : Base) (n N : Nat) (FF : Nat → Slots) (LL : Nat → Blocks) (k : Nat) : Act → World → Prop := fun a w => k < N ∧ Fr w0.ds a n (FF (k + 1)) ∧ St w0 w (LL (k + 1))
theorem loopK {c : Code} (N : Nat) (FF : Nat → Slots) (LL : Nat → Blocks) (m : List Bool) {M : Blocks} (hF : ∀ p ∈ FF 0, F.lookup p.1 = some p.2) (hL : sel L m = M) (hM : M = LL 0)
    (hr : ∀ k, k ≤ N → wpC P w0 n (Exit.then (NextK w0 n N FF LL k) Q) (FF k) (LL k) c) : wpC P w0 n Q F L (.loop c) :=
  loopI N (fun k a w => Fr w0.ds a n (FF k) ∧ St w0 w (LL k)) (fun _ _ ha hw => ⟨ha.all hF, hM ▸ hL ▸ hw.less (sel_sub L m)⟩)
    fun k hk a w ⟨ha, hw⟩ => hr k hk a w ha hw
theorem againK {N : Nat} {FF : Nat → Slots} {LL : Nat → Blocks} {k : Nat} {R : Exit → Act → World → Prop} (m : List Bool) {M : Blocks} (hk : k < N) (hF : ∀ p ∈ FF (k + 1), F.lookup p.1 = some p.2) (hL : sel L m = M) (hM : M = LL (k + 1)) :
    X w0 n (Exit.then (NextK w0 n N FF LL k) R) F L .normal := fun _ _ ha hw => ⟨hk, ha.all hF, hM ▸ hL ▸ hw.less (sel_sub L m)⟩
theorem bcons {x y : Nat × TypeId × Array Value} {l m : Blocks} (h : x = y) (k : l = m) : x :: l = y :: m := by rw [h, k]
theorem beq {g : Nat} {t : TypeId} {a b : Array Value} (h : a = b) : (g, t, a) = (g, t, b) := by rw [h]

/-! ## More operations -/
/-- a slice that is made -/
theorem Makes.slice (t e : TypeId) (i : TypeInfo) (z : Value) (s b : Nat) (x y : Operand) (kl kc : IntKind) (m : Nat) (c : List Value) (ho : o.op = .makeSlice t x y) (hx : evF F x = .int kl (m : Int)) (hy : evF F y = .int kc (m : Int)) (ht : P.underlying t = some (.slice e)) (hi : P.info? e = some i) (hz : i.zero = some z) (hs : i.size = s) (hs0 : 0 < s) (hb : i.bytes = b)
    (hc : z.cells.toList = c) (hcl : c.length = s) (hbytes : b * m ≤ 281474976710656) (h63 : m ≤ 9223372036854775807) : Makes P F o e (flat (fun _ => c) m).toArray (fun g => .slice (some ⟨g, 0, none⟩) m m) := fun w => by
  subst hs hb
  have hb : (i.bytes : Int) * (m : Int) ≤ 281474976710656 := by
    have h : ((i.bytes * m : Nat) : Int) ≤ 281474976710656 := by omega
    rwa [Int.natCast_mul] at h
  have hr := run_make (P := P) w t e i z ht hi hz kl kc m m (by omega) (Int.le_refl _) hb (by omega)
  simp only [Int.toNat_natCast] at hr
  unfold execOp
  simp only [ho, hx, hy, Sem.run_bind, Sem.run_pure, hr, Result.andThen_ok]
  rw [flat_const c hcl hs0 m z.cells hc]
end
end Go.Proofs.Ytneeefinaejgcaa.Sy

end
section
namespace Go.Proofs.Ytneeefinaejgcaa.Sc
open Go.RowKit

/-- the modulus -/
def pM : Nat := 115792089237316195423570985008687907852837564279074904382605163141518161494337
theorem pM_eq : pM = 115792089237316195423570985008687907852837564279074904382605163141518161494337 := rfl
theorem mod_lt (n : Nat) : n % pM < 115792089237316195423570985008687907853269984665640564039457584007913129639936 := by have := Nat.mod_lt n (show 0 < pM by decide); rw [pM_eq] at this ⊢; omega
/-- what is p or more, and below 2^256, loses p once -/
theorem red_once (x : Nat) (hx : x < 115792089237316195423570985008687907853269984665640564039457584007913129639936) : x % pM = if x + 432420386565659656852420866394968145599 < 115792089237316195423570985008687907853269984665640564039457584007913129639936 then x else x + 432420386565659656852420866394968145599 - 115792089237316195423570985008687907853269984665640564039457584007913129639936 := by
  rw [pM_eq]
  by_cases h : x + 432420386565659656852420866394968145599 < 115792089237316195423570985008687907853269984665640564039457584007913129639936
  · rw [if_pos h]; exact Nat.mod_eq_of_lt (by omega)
  · rw [if_neg h, Nat.mod_eq_sub_mod (by omega), Nat.mod_eq_of_lt (by omega)]
    omega
end Go.Proofs.Ytneeefinaejgcaa.Sc

end
section
namespace Go.Proofs.Ytneeefinaejgcaa.Sc
open Go.RowKit Go.Lib

theorem order_any (w : World) : Calls Try.prog 109 #[] w fun e w' => e = .returned (fv 115792089237316195423570985008687907852837564279074904382605163141518161494337) ∧ Below w.heap.size w w' := by
  go_enter Try.func109, Try.ntmps109
  go_wp2
  exact bodyPost_ret (results_cell_row rfl _ _ w.heap.size _ _ (0, 0) _ rfl (heap_alloc_new w _) Try.underlying24 rfl (by kernel_rfl)) rfl ⟨rfl, (Below.refl _ _).alloc (Nat.le_refl _) _⟩
set_option maxHeartbeats 8000000 in
set_option maxRecDepth 100000 in
theorem minus_any (w : World) (x y : Nat) (hx : x < 115792089237316195423570985008687907853269984665640564039457584007913129639936) (hy : y < 115792089237316195423570985008687907853269984665640564039457584007913129639936) : Calls Try.prog 108 #[fv x, fv y] w fun e w' => (∃ s k : Nat, s < 115792089237316195423570985008687907853269984665640564039457584007913129639936 ∧ k ≤ 1 ∧ s + y = x + 115792089237316195423570985008687907853269984665640564039457584007913129639936 * k ∧ e = .returned (.tuple #[fv s, .int .u64 (k : Int)])) ∧ Below w.heap.size w w' := by
  obtain ⟨x0, x1, x2, x3, a0, a1, a2, a3, ex, fx⟩ := words_of x hx
  obtain ⟨y0, y1, y2, y3, b0, b1, b2, b3, ey, fy⟩ := words_of y hy
  rw [fx, fy]
  obtain ⟨s0, c0, d0, k0, e0, r0⟩ := sub0_ex x0 y0 a0 b0
  obtain ⟨s1, c1, d1, k1, e1, r1⟩ := subc_ex x1 y1 c0 a1 b1 k0
  obtain ⟨s2, c2, d2, k2, e2, r2⟩ := subc_ex x2 y2 c1 a2 b2 k1
  obtain ⟨s3, c3, d3, k3, e3, r3⟩ := subc_ex x3 y3 c2 a3 b3 k2
  have fin : s0 + 18446744073709551616 * s1 + 340282366920938463463374607431768211456 * s2 + 6277101735386680763835789423207666416102355444464034512896 * s3 + y = x + 115792089237316195423570985008687907853269984665640564039457584007913129639936 * c3 := by omega
  have hs := Lib.hid (fv_mk s0 s1 s2 s3 d0 d1 d2 d3)
  have hlt := Lib.hid (fv_lt s0 s1 s2 s3 d0 d1 d2 d3)
  have HF := Lib.hid fin
  have HK := Lib.hid k3
  clear ex ey fx fy e0 e1 e2 e3 a0 a1 a2 a3 b0 b1 b2 b3 d0 d1 d2 d3 k0 k1 k2 k3 fin hx hy
  go_enter Try.func108, Try.ntmps108
  go_wp2_with fail
  go_loopw [5, 7] (fun bo i wr => Below w.heap.size w wr ∧ Blk wr w.heap.size 24 #[.int .u64 (x0 : Int), .int .u64 (x1 : Int), .int .u64 (x2 : Int), .int .u64 (x3 : Int)] ∧ Blk wr (w.heap.size + 1) 24 #[.int .u64 (y0 : Int), .int .u64 (y1 : Int), .int .u64 (y2 : Int), .int .u64 (y3 : Int)] ∧ Hid ((i = .int .i64 0 ∧ bo = .int .u64 0 ∧ Blk wr (w.heap.size + 2) 24 #[.int .u64 0, .int .u64 0, .int .u64 0, .int .u64 0]) ∨ (i = .int .i64 1 ∧ bo = .int .u64 (c0 : Int) ∧ Blk wr (w.heap.size + 2) 24 #[.int .u64 (s0 : Int), .int .u64 0, .int .u64 0, .int .u64 0]) ∨ (i = .int .i64 2 ∧ bo = .int .u64 (c1 : Int) ∧ Blk wr (w.heap.size + 2) 24 #[.int .u64 (s0 : Int), .int .u64 (s1 : Int), .int .u64 0, .int .u64 0]) ∨ (i = .int .i64 3 ∧ bo = .int .u64 (c2 : Int) ∧ Blk wr (w.heap.size + 2) 24 #[.int .u64 (s0 : Int), .int .u64 (s1 : Int), .int .u64 (s2 : Int), .int .u64 0]) ∨ (i = .int .i64 4 ∧ bo = .int .u64 (c3 : Int) ∧ Blk wr (w.heap.size + 2) 24 #[.int .u64 (s0 : Int), .int .u64 (s1 : Int), .int .u64 (s2 : Int), .int .u64 (s3 : Int)]))) (fun _ i _ => 4 - (intOf i).toNat)
  case atStart => exact ⟨below_alloc3 w _ _ _, ((Blk.new w _ _).alloc _).alloc _, (blk_new2 w _ _ _).alloc _, Lib.hid (.inl ⟨rfl, rfl, blk_new3 w _ _ _ _⟩)⟩
  case round =>
    obtain ⟨hb, BX, BY, HI⟩ := hrel
    have lX := BX.lt
    have lY := BY.lt
    rcases HI.out with ⟨rfl, rfl, BW⟩ | ⟨rfl, rfl, BW⟩ | ⟨rfl, rfl, BW⟩ | ⟨rfl, rfl, BW⟩ | ⟨rfl, rfl, BW⟩
    · clear HI
      have px : wr.cell? ⟨w.heap.size, 0, none⟩ = some (.int .u64 (x0 : Int)) := BX.cell 0
      have py : wr.cell? ⟨w.heap.size + 1, 0, none⟩ = some (.int .u64 (y0 : Int)) := BY.cell 0
      go_wp2
      refine wp_region_G (fun j => j == 13) (by kernel_rfl) ?_
      try simp only [Act.put]
      refine wpAnyG_take 0 rfl (by kernel_rfl) (fun _ _ _ h => h) (YieldsG.pure (by rfl) (fun w9 _ => by go_simp; try with_reducible rfl)) ?_
      try simp only [Act.put, List.setIfInBounds_toArray, List.set_cons_zero, List.set_cons_succ]
      refine wpAnyG_take 1 rfl (by kernel_rfl) (fun _ _ _ h => h) (YieldsG.pure (by rfl) (fun w9 _ => by go_simp; try with_reducible rfl)) ?_
      try simp only [Act.put, List.setIfInBounds_toArray, List.set_cons_zero, List.set_cons_succ]
      refine wpAnyG_take 2 rfl (by kernel_rfl) (fun _ _ _ h => h) (YieldsG.pure (by rfl) (fun w9 _ => by go_simp; try with_reducible rfl)) ?_
      try simp only [Act.put, List.setIfInBounds_toArray, List.set_cons_zero, List.set_cons_succ]
      refine wpAnyG_take 3 rfl (by kernel_rfl) (fun _ _ _ h => h) (YieldsG.pure (v := .int .u64 (x0 : Int)) (by rfl) (fun w9 h9 => by have hz := (Below.cell (p := ⟨w.heap.size, 0, none⟩) h9 lX).trans px; go_simp; first | done | simp [hz])) ?_
      try simp only [Act.put, List.setIfInBounds_toArray, List.set_cons_zero, List.set_cons_succ]
      refine wpAnyG_take 4 rfl (by kernel_rfl) (fun _ _ _ h => h) (YieldsG.pure (by rfl) (fun w9 _ => by go_simp; try with_reducible rfl)) ?_
      try simp only [Act.put, List.setIfInBounds_toArray, List.set_cons_zero, List.set_cons_succ]
      refine wpAnyG_take 5 rfl (by kernel_rfl) (fun _ _ _ h => h) (YieldsG.pure (by rfl) (fun w9 _ => by go_simp; try with_reducible rfl)) ?_
      try simp only [Act.put, List.setIfInBounds_toArray, List.set_cons_zero, List.set_cons_succ]
      refine wpAnyG_take 6 rfl (by kernel_rfl) (fun _ _ _ h => h) (YieldsG.pure (v := .int .u64 (y0 : Int)) (by rfl) (fun w9 h9 => by have hz := (Below.cell (p := ⟨w.heap.size + 1, 0, none⟩) h9 lY).trans py; go_simp; first | done | simp [hz])) ?_
      try simp only [Act.put, List.setIfInBounds_toArray, List.set_cons_zero, List.set_cons_succ]
      refine wpAnyG_take 7 rfl (by kernel_rfl) (fun _ _ _ h => h) (YieldsG.pure (by rfl) (fun w9 _ => by go_simp; try with_reducible rfl)) ?_
      try simp only [Act.put, List.setIfInBounds_toArray, List.set_cons_zero, List.set_cons_succ]
      refine wpAnyG_take 8 rfl (by kernel_rfl) (fun _ _ _ h => h) (YieldsG.pure (v := .tuple #[.int .u64 (s0 : Int), .int .u64 (c0 : Int)]) (by rfl) (fun w9 h9 => by go_simp)) ?_
      try simp only [Act.put, List.setIfInBounds_toArray, List.set_cons_zero, List.set_cons_succ]
      refine wpAnyG_take 9 rfl (by kernel_rfl) (fun _ _ _ h => h) (YieldsG.pure (by rfl) (fun w9 _ => by go_simp; try with_reducible rfl)) ?_
      try simp only [Act.put, List.setIfInBounds_toArray, List.set_cons_zero, List.set_cons_succ]
      refine wpAnyG_take 10 rfl (by kernel_rfl) (fun _ _ _ h => h) (YieldsG.pure (by rfl) (fun w9 _ => by go_simp; try with_reducible rfl)) ?_
      try simp only [Act.put, List.setIfInBounds_toArray, List.set_cons_zero, List.set_cons_succ]
      refine wpAnyG_takeA 11 rfl (by kernel_rfl) (fun _ _ _ h => h) (fun _ => YieldsG.pure (by rfl) (fun w9 _ => by go_simp; try with_reducible rfl)) ?_
      try simp only [Act.put, List.setIfInBounds_toArray, List.set_cons_zero, List.set_cons_succ]
      refine wpAnyG_take 12 rfl (by kernel_rfl) (fun _ _ _ h => h) (YieldsG.pure (by rfl) (fun w9 _ => by go_simp; try with_reducible rfl)) ?_
      try simp only [Act.put, List.setIfInBounds_toArray, List.set_cons_zero, List.set_cons_succ]
      refine wpAnyG_sole 13 rfl (by kernel_rfl) (by rfl) (fun u hu K hK => ?_)
      have BX := Gr.blk hu BX
      have BY := Gr.blk hu BY
      have BW := Gr.blk hu BW
      have hb := Below.gr hb hu
      have pc : u.cell? ⟨w.heap.size + 2, 0, none⟩ = some (.int .u64 0) := BW.cell 0
      have pf := BW.frozen 0
      clear hu px py
      go_simp
      refine hK _ _ (fun e => by cases e) ?_
      clear hK K
      have hb := hb.setCell (p := ⟨w.heap.size + 2, 0, none⟩) (by show w.heap.size ≤ w.heap.size + 2; omega) (.int .u64 (s0 : Int))
      have BX := BX.far (p := ⟨w.heap.size + 2, 0, none⟩) (by show w.heap.size ≠ w.heap.size + 2; omega) (.int .u64 (s0 : Int))
      have BY := BY.far (p := ⟨w.heap.size + 2, 0, none⟩) (by show w.heap.size + 1 ≠ w.heap.size + 2; omega) (.int .u64 (s0 : Int))
      have BW := BW.set_ 0 (.int .u64 (s0 : Int))
      refine wpAnyG_takeA 14 rfl (by kernel_rfl) (fun _ _ _ h => h) (fun _ => YieldsG.pure (by rfl) (fun w9 _ => by go_simp; try with_reducible rfl)) ?_
      try simp only [Act.put, List.setIfInBounds_toArray, List.set_cons_zero, List.set_cons_succ]
      refine wpAnyG_done (by kernel_rfl) (fun v hv => ?_)
      have hb := Below.gr hb hv
      have BX := Gr.blk hv BX
      have BY := Gr.blk hv BY
      have BW := Gr.blk hv BW
      clear hv pc pf
      go_wp2
      refine ⟨⟨hb, BX, BY, Lib.hid (.inr (.inl (⟨rfl, rfl, BW⟩)))⟩, by decide⟩
    · clear HI
      have px : wr.cell? ⟨w.heap.size, 1, none⟩ = some (.int .u64 (x1 : Int)) := BX.cell 1
      have py : wr.cell? ⟨w.heap.size + 1, 1, none⟩ = some (.int .u64 (y1 : Int)) := BY.cell 1
      go_wp2
      refine wp_region_G (fun j => j == 13) (by kernel_rfl) ?_
      try simp only [Act.put]
      refine wpAnyG_take 0 rfl (by kernel_rfl) (fun _ _ _ h => h) (YieldsG.pure (by rfl) (fun w9 _ => by go_simp; try with_reducible rfl)) ?_
      try simp only [Act.put, List.setIfInBounds_toArray, List.set_cons_zero, List.set_cons_succ]
      refine wpAnyG_take 1 rfl (by kernel_rfl) (fun _ _ _ h => h) (YieldsG.pure (by rfl) (fun w9 _ => by go_simp; try with_reducible rfl)) ?_
      try simp only [Act.put, List.setIfInBounds_toArray, List.set_cons_zero, List.set_cons_succ]
      refine wpAnyG_take 2 rfl (by kernel_rfl) (fun _ _ _ h => h) (YieldsG.pure (by rfl) (fun w9 _ => by go_simp; try with_reducible rfl)) ?_
      try simp only [Act.put, List.setIfInBounds_toArray, List.set_cons_zero, List.set_cons_succ]
      refine wpAnyG_take 3 rfl (by kernel_rfl) (fun _ _ _ h => h) (YieldsG.pure (v := .int .u64 (x1 : Int)) (by rfl) (fun w9 h9 => by have hz := (Below.cell (p := ⟨w.heap.size, 1, none⟩) h9 lX).trans px; go_simp; first | done | simp [hz])) ?_
      try simp only [Act.put, List.setIfInBounds_toArray, List.set_cons_zero, List.set_cons_succ]
      refine wpAnyG_take 4 rfl (by kernel_rfl) (fun _ _ _ h => h) (YieldsG.pure (by rfl) (fun w9 _ => by go_simp; try with_reducible rfl)) ?_
      try simp only [Act.put, List.setIfInBounds_toArray, List.set_cons_zero, List.set_cons_succ]
      refine wpAnyG_take 5 rfl (by kernel_rfl) (fun _ _ _ h => h) (YieldsG.pure (by rfl) (fun w9 _ => by go_simp; try with_reducible rfl)) ?_
      try simp only [Act.put, List.setIfInBounds_toArray, List.set_cons_zero, List.set_cons_succ]
      refine wpAnyG_take 6 rfl (by kernel_rfl) (fun _ _ _ h => h) (YieldsG.pure (v := .int .u64 (y1 : Int)) (by rfl) (fun w9 h9 => by have hz := (Below.cell (p := ⟨w.heap.size + 1, 1, none⟩) h9 lY).trans py; go_simp; first | done | simp [hz])) ?_
      try simp only [Act.put, List.setIfInBounds_toArray, List.set_cons_zero, List.set_cons_succ]
      refine wpAnyG_take 7 rfl (by kernel_rfl) (fun _ _ _ h => h) (YieldsG.pure (by rfl) (fun w9 _ => by go_simp; try with_reducible rfl)) ?_
      try simp only [Act.put, List.setIfInBounds_toArray, List.set_cons_zero, List.set_cons_succ]
      refine wpAnyG_take 8 rfl (by kernel_rfl) (fun _ _ _ h => h) (YieldsG.pure (v := .tuple #[.int .u64 (s1 : Int), .int .u64 (c1 : Int)]) (by rfl) (fun w9 h9 => by go_simp)) ?_
      try simp only [Act.put, List.setIfInBounds_toArray, List.set_cons_zero, List.set_cons_succ]
      refine wpAnyG_take 9 rfl (by kernel_rfl) (fun _ _ _ h => h) (YieldsG.pure (by rfl) (fun w9 _ => by go_simp; try with_reducible rfl)) ?_
      try simp only [Act.put, List.setIfInBounds_toArray, List.set_cons_zero, List.set_cons_succ]
      refine wpAnyG_take 10 rfl (by kernel_rfl) (fun _ _ _ h => h) (YieldsG.pure (by rfl) (fun w9 _ => by go_simp; try with_reducible rfl)) ?_
      try simp only [Act.put, List.setIfInBounds_toArray, List.set_cons_zero, List.set_cons_succ]
      refine wpAnyG_takeA 11 rfl (by kernel_rfl) (fun _ _ _ h => h) (fun _ => YieldsG.pure (by rfl) (fun w9 _ => by go_simp; try with_reducible rfl)) ?_
      try simp only [Act.put, List.setIfInBounds_toArray, List.set_cons_zero, List.set_cons_succ]
      refine wpAnyG_take 12 rfl (by kernel_rfl) (fun _ _ _ h => h) (YieldsG.pure (by rfl) (fun w9 _ => by go_simp; try with_reducible rfl)) ?_
      try simp only [Act.put, List.setIfInBounds_toArray, List.set_cons_zero, List.set_cons_succ]
      refine wpAnyG_sole 13 rfl (by kernel_rfl) (by rfl) (fun u hu K hK => ?_)
      have BX := Gr.blk hu BX
      have BY := Gr.blk hu BY
      have BW := Gr.blk hu BW
      have hb := Below.gr hb hu
      have pc : u.cell? ⟨w.heap.size + 2, 1, none⟩ = some (.int .u64 0) := BW.cell 1
      have pf := BW.frozen 1
      clear hu px py
      go_simp
      refine hK _ _ (fun e => by cases e) ?_
      clear hK K
      have hb := hb.setCell (p := ⟨w.heap.size + 2, 1, none⟩) (by show w.heap.size ≤ w.heap.size + 2; omega) (.int .u64 (s1 : Int))
      have BX := BX.far (p := ⟨w.heap.size + 2, 1, none⟩) (by show w.heap.size ≠ w.heap.size + 2; omega) (.int .u64 (s1 : Int))
      have BY := BY.far (p := ⟨w.heap.size + 2, 1, none⟩) (by show w.heap.size + 1 ≠ w.heap.size + 2; omega) (.int .u64 (s1 : Int))
      have BW := BW.set_ 1 (.int .u64 (s1 : Int))
      refine wpAnyG_takeA 14 rfl (by kernel_rfl) (fun _ _ _ h => h) (fun _ => YieldsG.pure (by rfl) (fun w9 _ => by go_simp; try with_reducible rfl)) ?_
      try simp only [Act.put, List.setIfInBounds_toArray, List.set_cons_zero, List.set_cons_succ]
      refine wpAnyG_done (by kernel_rfl) (fun v hv => ?_)
      have hb := Below.gr hb hv
      have BX := Gr.blk hv BX
      have BY := Gr.blk hv BY
      have BW := Gr.blk hv BW
      clear hv pc pf
      go_wp2
      refine ⟨⟨hb, BX, BY, Lib.hid (.inr (.inr (.inl (⟨rfl, rfl, BW⟩))))⟩, by decide⟩
    · clear HI
      have px : wr.cell? ⟨w.heap.size, 2, none⟩ = some (.int .u64 (x2 : Int)) := BX.cell 2
      have py : wr.cell? ⟨w.heap.size + 1, 2, none⟩ = some (.int .u64 (y2 : Int)) := BY.cell 2
      go_wp2
      refine wp_region_G (fun j => j == 13) (by kernel_rfl) ?_
      try simp only [Act.put]
      refine wpAnyG_take 0 rfl (by kernel_rfl) (fun _ _ _ h => h) (YieldsG.pure (by rfl) (fun w9 _ => by go_simp; try with_reducible rfl)) ?_
      try simp only [Act.put, List.setIfInBounds_toArray, List.set_cons_zero, List.set_cons_succ]
      refine wpAnyG_take 1 rfl (by kernel_rfl) (fun _ _ _ h => h) (YieldsG.pure (by rfl) (fun w9 _ => by go_simp; try with_reducible rfl)) ?_
      try simp only [Act.put, List.setIfInBounds_toArray, List.set_cons_zero, List.set_cons_succ]
      refine wpAnyG_take 2 rfl (by kernel_rfl) (fun _ _ _ h => h) (YieldsG.pure (by rfl) (fun w9 _ => by go_simp; try with_reducible rfl)) ?_
      try simp only [Act.put, List.setIfInBounds_toArray, List.set_cons_zero, List.set_cons_succ]
      refine wpAnyG_take 3 rfl (by kernel_rfl) (fun _ _ _ h => h) (YieldsG.pure (v := .int .u64 (x2 : Int)) (by rfl) (fun w9 h9 => by have hz := (Below.cell (p := ⟨w.heap.size, 2, none⟩) h9 lX).trans px; go_simp; first | done | simp [hz])) ?_
      try simp only [Act.put, List.setIfInBounds_toArray, List.set_cons_zero, List.set_cons_succ]
      refine wpAnyG_take 4 rfl (by kernel_rfl) (fun _ _ _ h => h) (YieldsG.pure (by rfl) (fun w9 _ => by go_simp; try with_reducible rfl)) ?_
      try simp only [Act.put, List.setIfInBounds_toArray, List.set_cons_zero, List.set_cons_succ]
      refine wpAnyG_take 5 rfl (by kernel_rfl) (fun _ _ _ h => h) (YieldsG.pure (by rfl) (fun w9 _ => by go_simp; try with_reducible rfl)) ?_
      try simp only [Act.put, List.setIfInBounds_toArray, List.set_cons_zero, List.set_cons_succ]
      refine wpAnyG_take 6 rfl (by kernel_rfl) (fun _ _ _ h => h) (YieldsG.pure (v := .int .u64 (y2 : Int)) (by rfl) (fun w9 h9 => by have hz := (Below.cell (p := ⟨w.heap.size + 1, 2, none⟩) h9 lY).trans py; go_simp; first | done | simp [hz])) ?_
      try simp only [Act.put, List.setIfInBounds_toArray, List.set_cons_zero, List.set_cons_succ]
      refine wpAnyG_take 7 rfl (by kernel_rfl) (fun _ _ _ h => h) (YieldsG.pure (by rfl) (fun w9 _ => by go_simp; try with_reducible rfl)) ?_
      try simp only [Act.put, List.setIfInBounds_toArray, List.set_cons_zero, List.set_cons_succ]
      refine wpAnyG_take 8 rfl (by kernel_rfl) (fun _ _ _ h => h) (YieldsG.pure (v := .tuple #[.int .u64 (s2 : Int), .int .u64 (c2 : Int)]) (by rfl) (fun w9 h9 => by go_simp)) ?_
      try simp only [Act.put, List.setIfInBounds_toArray, List.set_cons_zero, List.set_cons_succ]
      refine wpAnyG_take 9 rfl (by kernel_rfl) (fun _ _ _ h => h) (YieldsG.pure (by rfl) (fun w9 _ => by go_simp; try with_reducible rfl)) ?_
      try simp only [Act.put, List.setIfInBounds_toArray, List.set_cons_zero, List.set_cons_succ]
      refine wpAnyG_take 10 rfl (by kernel_rfl) (fun _ _ _ h => h) (YieldsG.pure (by rfl) (fun w9 _ => by go_simp; try with_reducible rfl)) ?_
      try simp only [Act.put, List.setIfInBounds_toArray, List.set_cons_zero, List.set_cons_succ]
      refine wpAnyG_takeA 11 rfl (by kernel_rfl) (fun _ _ _ h => h) (fun _ => YieldsG.pure (by rfl) (fun w9 _ => by go_simp; try with_reducible rfl)) ?_
      try simp only [Act.put, List.setIfInBounds_toArray, List.set_cons_zero, List.set_cons_succ]
      refine wpAnyG_take 12 rfl (by kernel_rfl) (fun _ _ _ h => h) (YieldsG.pure (by rfl) (fun w9 _ => by go_simp; try with_reducible rfl)) ?_
      try simp only [Act.put, List.setIfInBounds_toArray, List.set_cons_zero, List.set_cons_succ]
      refine wpAnyG_sole 13 rfl (by kernel_rfl) (by rfl) (fun u hu K hK => ?_)
      have BX := Gr.blk hu BX
      have BY := Gr.blk hu BY
      have BW := Gr.blk hu BW
      have hb := Below.gr hb hu
      have pc : u.cell? ⟨w.heap.size + 2, 2, none⟩ = some (.int .u64 0) := BW.cell 2
      have pf := BW.frozen 2
      clear hu px py
      go_simp
      refine hK _ _ (fun e => by cases e) ?_
      clear hK K
      have hb := hb.setCell (p := ⟨w.heap.size + 2, 2, none⟩) (by show w.heap.size ≤ w.heap.size + 2; omega) (.int .u64 (s2 : Int))
      have BX := BX.far (p := ⟨w.heap.size + 2, 2, none⟩) (by show w.heap.size ≠ w.heap.size + 2; omega) (.int .u64 (s2 : Int))
      have BY := BY.far (p := ⟨w.heap.size + 2, 2, none⟩) (by show w.heap.size + 1 ≠ w.heap.size + 2; omega) (.int .u64 (s2 : Int))
      have BW := BW.set_ 2 (.int .u64 (s2 : Int))
      refine wpAnyG_takeA 14 rfl (by kernel_rfl) (fun _ _ _ h => h) (fun _ => YieldsG.pure (by rfl) (fun w9 _ => by go_simp; try with_reducible rfl)) ?_
      try simp only [Act.put, List.setIfInBounds_toArray, List.set_cons_zero, List.set_cons_succ]
      refine wpAnyG_done (by kernel_rfl) (fun v hv => ?_)
      have hb := Below.gr hb hv
      have BX := Gr.blk hv BX
      have BY := Gr.blk hv BY
      have BW := Gr.blk hv BW
      clear hv pc pf
      go_wp2
      refine ⟨⟨hb, BX, BY, Lib.hid (.inr (.inr (.inr (.inl (⟨rfl, rfl, BW⟩)))))⟩, by decide⟩
    · clear HI
      have px : wr.cell? ⟨w.heap.size, 3, none⟩ = some (.int .u64 (x3 : Int)) := BX.cell 3
      have py : wr.cell? ⟨w.heap.size + 1, 3, none⟩ = some (.int .u64 (y3 : Int)) := BY.cell 3
      go_wp2
      refine wp_region_G (fun j => j == 13) (by kernel_rfl) ?_
      try simp only [Act.put]
      refine wpAnyG_take 0 rfl (by kernel_rfl) (fun _ _ _ h => h) (YieldsG.pure (by rfl) (fun w9 _ => by go_simp; try with_reducible rfl)) ?_
      try simp only [Act.put, List.setIfInBounds_toArray, List.set_cons_zero, List.set_cons_succ]
      refine wpAnyG_take 1 rfl (by kernel_rfl) (fun _ _ _ h => h) (YieldsG.pure (by rfl) (fun w9 _ => by go_simp; try with_reducible rfl)) ?_
      try simp only [Act.put, List.setIfInBounds_toArray, List.set_cons_zero, List.set_cons_succ]
      refine wpAnyG_take 2 rfl (by kernel_rfl) (fun _ _ _ h => h) (YieldsG.pure (by rfl) (fun w9 _ => by go_simp; try with_reducible rfl)) ?_
      try simp only [Act.put, List.setIfInBounds_toArray, List.set_cons_zero, List.set_cons_succ]
      refine wpAnyG_take 3 rfl (by kernel_rfl) (fun _ _ _ h => h) (YieldsG.pure (v := .int .u64 (x3 : Int)) (by rfl) (fun w9 h9 => by have hz := (Below.cell (p := ⟨w.heap.size, 3, none⟩) h9 lX).trans px; go_simp; first | done | simp [hz])) ?_
      try simp only [Act.put, List.setIfInBounds_toArray, List.set_cons_zero, List.set_cons_succ]
      refine wpAnyG_take 4 rfl (by kernel_rfl) (fun _ _ _ h => h) (YieldsG.pure (by rfl) (fun w9 _ => by go_simp; try with_reducible rfl)) ?_
      try simp only [Act.put, List.setIfInBounds_toArray, List.set_cons_zero, List.set_cons_succ]
      refine wpAnyG_take 5 rfl (by kernel_rfl) (fun _ _ _ h => h) (YieldsG.pure (by rfl) (fun w9 _ => by go_simp; try with_reducible rfl)) ?_
      try simp only [Act.put, List.setIfInBounds_toArray, List.set_cons_zero, List.set_cons_succ]
      refine wpAnyG_take 6 rfl (by kernel_rfl) (fun _ _ _ h => h) (YieldsG.pure (v := .int .u64 (y3 : Int)) (by rfl) (fun w9 h9 => by have hz := (Below.cell (p := ⟨w.heap.size + 1, 3, none⟩) h9 lY).trans py; go_simp; first | done | simp [hz])) ?_
      try simp only [Act.put, List.setIfInBounds_toArray, List.set_cons_zero, List.set_cons_succ]
      refine wpAnyG_take 7 rfl (by kernel_rfl) (fun _ _ _ h => h) (YieldsG.pure (by rfl) (fun w9 _ => by go_simp; try with_reducible rfl)) ?_
      try simp only [Act.put, List.setIfInBounds_toArray, List.set_cons_zero, List.set_cons_succ]
      refine wpAnyG_take 8 rfl (by kernel_rfl) (fun _ _ _ h => h) (YieldsG.pure (v := .tuple #[.int .u64 (s3 : Int), .int .u64 (c3 : Int)]) (by rfl) (fun w9 h9 => by go_simp)) ?_
      try simp only [Act.put, List.setIfInBounds_toArray, List.set_cons_zero, List.set_cons_succ]
      refine wpAnyG_take 9 rfl (by kernel_rfl) (fun _ _ _ h => h) (YieldsG.pure (by rfl) (fun w9 _ => by go_simp; try with_reducible rfl)) ?_
      try simp only [Act.put, List.setIfInBounds_toArray, List.set_cons_zero, List.set_cons_succ]
      refine wpAnyG_take 10 rfl (by kernel_rfl) (fun _ _ _ h => h) (YieldsG.pure (by rfl) (fun w9 _ => by go_simp; try with_reducible rfl)) ?_
      try simp only [Act.put, List.setIfInBounds_toArray, List.set_cons_zero, List.set_cons_succ]
      refine wpAnyG_takeA 11 rfl (by kernel_rfl) (fun _ _ _ h => h) (fun _ => YieldsG.pure (by rfl) (fun w9 _ => by go_simp; try with_reducible rfl)) ?_
      try simp only [Act.put, List.setIfInBounds_toArray, List.set_cons_zero, List.set_cons_succ]
      refine wpAnyG_take 12 rfl (by kernel_rfl) (fun _ _ _ h => h) (YieldsG.pure (by rfl) (fun w9 _ => by go_simp; try with_reducible rfl)) ?_
      try simp only [Act.put, List.setIfInBounds_toArray, List.set_cons_zero, List.set_cons_succ]
      refine wpAnyG_sole 13 rfl (by kernel_rfl) (by rfl) (fun u hu K hK => ?_)
      have BX := Gr.blk hu BX
      have BY := Gr.blk hu BY
      have BW := Gr.blk hu BW
      have hb := Below.gr hb hu
      have pc : u.cell? ⟨w.heap.size + 2, 3, none⟩ = some (.int .u64 0) := BW.cell 3
      have pf := BW.frozen 3
      clear hu px py
      go_simp
      refine hK _ _ (fun e => by cases e) ?_
      clear hK K
      have hb := hb.setCell (p := ⟨w.heap.size + 2, 3, none⟩) (by show w.heap.size ≤ w.heap.size + 2; omega) (.int .u64 (s3 : Int))
      have BX := BX.far (p := ⟨w.heap.size + 2, 3, none⟩) (by show w.heap.size ≠ w.heap.size + 2; omega) (.int .u64 (s3 : Int))
      have BY := BY.far (p := ⟨w.heap.size + 2, 3, none⟩) (by show w.heap.size + 1 ≠ w.heap.size + 2; omega) (.int .u64 (s3 : Int))
      have BW := BW.set_ 3 (.int .u64 (s3 : Int))
      refine wpAnyG_takeA 14 rfl (by kernel_rfl) (fun _ _ _ h => h) (fun _ => YieldsG.pure (by rfl) (fun w9 _ => by go_simp; try with_reducible rfl)) ?_
      try simp only [Act.put, List.setIfInBounds_toArray, List.set_cons_zero, List.set_cons_succ]
      refine wpAnyG_done (by kernel_rfl) (fun v hv => ?_)
      have hb := Below.gr hb hv
      have BX := Gr.blk hv BX
      have BY := Gr.blk hv BY
      have BW := Gr.blk hv BW
      clear hv pc pf
      go_wp2
      refine ⟨⟨hb, BX, BY, Lib.hid (.inr (.inr (.inr (.inr (⟨rfl, rfl, BW⟩)))))⟩, by decide⟩
    · clear HI
      obtain ⟨s, hsd⟩ : ∃ s, s = s0 + 18446744073709551616 * s1 + 340282366920938463463374607431768211456 * s2 + 6277101735386680763835789423207666416102355444464034512896 * s3 := ⟨_, rfl⟩
      have hf := hs.out
      have hl := hlt.out
      have hn := HF.out
      rw [← hsd] at hf hl hn
      have BS := BW.eq_ (fcs_words hf.symm).symm
      have HS := Lib.hid (And.intro hl hn)
      clear hf hl hn hsd
      go_wp2_with (first | ((with_reducible refine here_load (d := some 24) ?_); refine wpList_load_fv rfl _ _ rfl (w.heap.size + 2) rfl (s) _ _ _ (BS) (fv_fcs s) Try.underlying24 rfl (by kernel_rfl) ?_) | ((with_reducible refine here_store ?_); refine wpList_store_blk rfl _ _ _ rfl (w.heap.size + 2) (fcs (s)) rfl rfl _ _ (BS) (by kernel_rfl) (by rfl) (fcs_one _) ?_; intro w9 hL9 hB9 hK9))
      exact bodyPost_ret (res_cell_tmp rfl _ _ (w.heap.size + 2) _ _ _ _ rfl hL9 rfl Try.underlying24 rfl (by kernel_rfl)) rfl ⟨⟨s, c3, HS.out.1, HK.out, HS.out.2, rfl⟩, hb.trans (hB9 _ (by omega))⟩
theorem minus_fv (w : World) (x y s k : Nat) (hx : x < 115792089237316195423570985008687907853269984665640564039457584007913129639936) (hy : y < 115792089237316195423570985008687907853269984665640564039457584007913129639936) (hs : s < 115792089237316195423570985008687907853269984665640564039457584007913129639936) (he : s + y = x + 115792089237316195423570985008687907853269984665640564039457584007913129639936 * k) :
    Calls Try.prog 108 #[fv x, fv y] w fun e w' => e = .returned (.tuple #[fv s, .int .u64 (k : Int)]) ∧ Below w.heap.size w w' := by
  refine (minus_any w x y hx hy).mono ?_
  rintro e w' ⟨⟨s', k', hs', hk', he', rfl⟩, hb⟩
  obtain rfl : k' = k := by omega
  obtain rfl : s' = s := by omega
  exact ⟨rfl, hb⟩
theorem order_at (w : World) (p : Nat) (hp : p = 115792089237316195423570985008687907852837564279074904382605163141518161494337) : Calls Try.prog 109 #[] w fun e w' => e = .returned (fv p) ∧ Below w.heap.size w w' := by
  subst hp; exact order_any w
set_option maxHeartbeats 2000000 in
set_option maxRecDepth 100000 in
theorem reduce_at (w : World) (x k z : Nat) (dk : Int) (hdk : dk = (k : Int)) (hx : x < 115792089237316195423570985008687907853269984665640564039457584007913129639936) (hk : k ≤ 1) (h2 : x + 115792089237316195423570985008687907853269984665640564039457584007913129639936 * k < 115792089237316195423570985008687907852837564279074904382605163141518161494337 + 115792089237316195423570985008687907852837564279074904382605163141518161494337) (hz : z = (x + 115792089237316195423570985008687907853269984665640564039457584007913129639936 * k) % pM) : Calls Try.prog 107 #[fv x, .int .u64 dk] w fun e w' => e = .returned (fv z) ∧ Below w.heap.size w w' := by
  subst hdk
  obtain ⟨p, hp⟩ : ∃ p, p = 115792089237316195423570985008687907852837564279074904382605163141518161494337 := ⟨_, rfl⟩
  rw [pM_eq, ← hp] at hz
  rw [← hp] at h2
  have hpl : p < 115792089237316195423570985008687907853269984665640564039457584007913129639936 := by omega
  obtain ⟨s, b, hs, hb, he⟩ : ∃ s b : Nat, s < 115792089237316195423570985008687907853269984665640564039457584007913129639936 ∧ b ≤ 1 ∧ s + p = x + 115792089237316195423570985008687907853269984665640564039457584007913129639936 * b := by
    by_cases h : p ≤ x
    · exact ⟨x - p, 0, by omega, by omega, by omega⟩
    · exact ⟨x + 115792089237316195423570985008687907853269984665640564039457584007913129639936 - p, 1, by omega, by omega, by omega⟩
  have cm := fun w => minus_fv w x p s b hx hpl hs he
  have co := fun w => order_at w p hp
  have t1 : b > k → z = x := fun h => by
    obtain rfl : k = 0 := by omega
    rw [hz, Nat.mod_eq_of_lt (by omega)]; omega
  have t2 : ¬ b > k → z = s := fun h => by
    rw [hz, Nat.mod_eq_sub_mod (by omega), Nat.mod_eq_of_lt (by omega)]
    rcases (show k = 0 ∨ k = 1 by omega) with rfl | rfl <;> omega
  obtain ⟨x0, x1, x2, x3, fx⟩ := words_fv x hx
  have FX := Lib.hid fx
  rw [fx]
  clear fx hx hz hp h2 hpl hs hb he hk
  go_enter Try.func107, Try.ntmps107
  go_wp2
  refine wp_region_G (fun j => j == 7) (by kernel_rfl) ?_
  try simp only [Act.put]
  refine wpAnyG_take 0 rfl (by kernel_rfl) (fun _ _ _ h => h) (YieldsG.loadF (by rfl) _ _ rfl (w.heap.size) rfl (x) _ _ ((Blk.new w _ _).alloc _) (FX.out) Try.underlying24 rfl (by kernel_rfl)) ?_
  try simp only [Act.put, List.setIfInBounds_toArray, List.set_cons_zero, List.set_cons_succ]
  refine wpAnyG_take 1 rfl (by kernel_rfl) (fun _ _ _ h => h) (YieldsG.call (v := fv p) (by rfl) 109 _ (fun w9 => by go_simp; try (first | with_reducible rfl | rfl)) (fun w9 h9 => co w9)) ?_
  try simp only [Act.put, List.setIfInBounds_toArray, List.set_cons_zero, List.set_cons_succ]
  refine wpAnyG_take 2 rfl (by kernel_rfl) (fun _ _ _ h => h) (YieldsG.call (v := .tuple #[fv s, .int .u64 (b : Int)]) (by rfl) 108 _ (fun w9 => by go_simp; try (first | with_reducible rfl | rfl)) (fun w9 h9 => cm w9)) ?_
  try simp only [Act.put, List.setIfInBounds_toArray, List.set_cons_zero, List.set_cons_succ]
  refine wpAnyG_take 3 rfl (by kernel_rfl) (fun _ _ _ h => h) (YieldsG.pure (by rfl) (fun w9 _ => by go_simp; try with_reducible rfl)) ?_
  try simp only [Act.put, List.setIfInBounds_toArray, List.set_cons_zero, List.set_cons_succ]
  refine wpAnyG_take 4 rfl (by kernel_rfl) (fun _ _ _ h => h) (YieldsG.pure (by rfl) (fun w9 _ => by go_simp; try with_reducible rfl)) ?_
  try simp only [Act.put, List.setIfInBounds_toArray, List.set_cons_zero, List.set_cons_succ]
  refine wpAnyG_takeA 5 rfl (by kernel_rfl) (fun _ _ _ h => h) (fun _ => YieldsG.pure (by rfl) (fun w9 _ => by go_simp; try with_reducible rfl)) ?_
  try simp only [Act.put, List.setIfInBounds_toArray, List.set_cons_zero, List.set_cons_succ]
  refine wpAnyG_sole 6 rfl (by kernel_rfl) (by rfl) (fun w3 h3 K hK => ?_)
  go_simp
  refine hK _ _ (fun _ => gr_alloc _ _) ?_
  clear hK K
  try simp only [Act.put, List.setIfInBounds_toArray, List.set_cons_zero, List.set_cons_succ]
  refine wpAnyG_store 7 rfl (by kernel_rfl) (by rfl) _ _ _ rfl (w3.heap.size) (fcs (s)) rfl rfl _ _ (Blk.new w3 _ _) (by kernel_rfl) (by rfl) (fcs_one _) rfl (fun w6 h6 w7 hB7 hL7 => ?_)
  try simp only [Act.put]
  refine wpAnyG_takeA 8 rfl (by kernel_rfl) (fun _ _ _ h => h) (fun _ => YieldsG.pure (by rfl) (fun w9 _ => by go_simp; try with_reducible rfl)) ?_
  try simp only [Act.put, List.setIfInBounds_toArray, List.set_cons_zero, List.set_cons_succ]
  refine wpAnyG_done (by kernel_rfl) (fun w8 h8 => ?_)
  have BS := Gr.blk h8 hL7
  have hsz : w.heap.size + 2 ≤ w3.heap.size := by have := h3.size; simp at this; omega
  have BX : Blk w8 w.heap.size 24 _ := Gr.blk h8 (Blk.below (B := w3.heap.size) (Gr.blk h6 (Blk.alloc (Gr.blk h3 ((Blk.new w _ _).alloc _)) _)) (hB7 _ (Nat.le_refl _)) (by omega))
  have BR : Blk w8 (w.heap.size + 1) 24 _ := Gr.blk h8 (Blk.below (B := w3.heap.size) (Gr.blk h6 (Blk.alloc (Gr.blk h3 (blk_new2 w _ _ _)) _)) (hB7 _ (Nat.le_refl _)) (by omega))
  have hB : Below w.heap.size w w8 := Below.gr ((Below.gr ((Below.gr (below_alloc2 w _ _) h3).alloc (by omega) _) h6).trans (hB7 _ (by omega))) h8
  clear h3 h6 hB7 hL7 h8 cm co
  by_cases hbk : b > k
  · have HZ := Lib.hid (t1 hbk)
    have p0 : (b : Int) > (k : Int) := by omega
    clear t1 t2 hbk
    go_wp2_with (first | ((with_reducible refine here_load (d := some 16) ?_); refine wpList_load_fv rfl _ _ rfl (w.heap.size) rfl (x) _ _ _ (BX) (FX.out) Try.underlying24 rfl (by kernel_rfl) ?_) | ((with_reducible refine here_store ?_); refine wpList_store_blk rfl _ _ _ rfl (w.heap.size + 1) (fcs (x)) rfl rfl _ _ (BR) (by kernel_rfl) (by rfl) (fcs_one _) ?_; intro w9 hL9 hB9 hK9))
    exact bodyPost_ret (results_cell_row rfl _ _ (w.heap.size + 1) _ _ (0, 0) _ rfl hL9 Try.underlying24 rfl (by kernel_rfl)) rfl ⟨by rw [HZ.out]; rfl, hB.trans (hB9 _ (by omega))⟩
  · have HZ := Lib.hid (t2 hbk)
    have p0 : ¬ (b : Int) > (k : Int) := by omega
    clear t1 t2 hbk
    go_wp2_with (first | ((with_reducible refine here_load (d := some 17) ?_); refine wpList_load_fv rfl _ _ rfl (w3.heap.size) rfl (s) _ _ _ (BS) (fv_fcs s) Try.underlying24 rfl (by kernel_rfl) ?_) | ((with_reducible refine here_store ?_); refine wpList_store_blk rfl _ _ _ rfl (w.heap.size + 1) (fcs (s)) rfl rfl _ _ (BR) (by kernel_rfl) (by rfl) (fcs_one _) ?_; intro w9 hL9 hB9 hK9))
    exact bodyPost_ret (results_cell_row rfl _ _ (w.heap.size + 1) _ _ (0, 0) _ rfl hL9 Try.underlying24 rfl (by kernel_rfl)) rfl ⟨by rw [HZ.out]; rfl, hB.trans (hB9 _ (by omega))⟩
set_option maxHeartbeats 1000000 in
theorem norm_any (w : World) (x : Nat) (hx : x < 115792089237316195423570985008687907853269984665640564039457584007913129639936) : Calls Try.prog 106 #[fv x] w fun e w' => e = .returned (fv (x % pM)) ∧ Below w.heap.size w w' := by
  obtain ⟨z, hz⟩ : ∃ z, z = x % pM := ⟨_, rfl⟩
  have cr := fun w => reduce_at w x 0 z 0 rfl hx (by omega) (by omega) (by rw [hz]; rfl)
  obtain ⟨x0, x1, x2, x3, fx⟩ := words_fv x hx
  have FX := Lib.hid fx
  rw [fx] at cr ⊢
  rw [← hz]
  clear fx hx hz
  go_enter Try.func106, Try.ntmps106
  go_wp2_with fail
  refine (cr _).mono ?_
  rintro e w1 ⟨rfl, hb1⟩
  have hg := Below.gr (below_alloc2 w _ _) hb1
  have hR : Blk w1 (w.heap.size + 1) 24 _ := Gr.blk hb1 (blk_new2 w _ _ _)
  go_wp2_with (first | ((with_reducible refine here_store ?_); refine wpList_store_blk rfl _ _ _ rfl (w.heap.size + 1) (fcs (z)) rfl rfl _ _ (hR) (by kernel_rfl) (by rfl) (fcs_one _) ?_; intro w4 hL hB4 hK4))
  exact bodyPost_ret (results_cell_row rfl _ _ (w.heap.size + 1) _ _ (0, 0) _ rfl hL Try.underlying24 rfl (by kernel_rfl)) rfl ⟨rfl, hg.trans (hB4 _ (by omega))⟩
set_option maxHeartbeats 8000000 in
set_option maxRecDepth 100000 in
theorem bytes_any (w : World) (x : Nat) (hx : x < 115792089237316195423570985008687907853269984665640564039457584007913129639936) : Calls Try.prog 100 #[fv x] w fun e w' => e = .returned (.agg ((bytesS (x % pM)).map bv).toArray) ∧ Below w.heap.size w w' := by
  obtain ⟨z, hz⟩ : ∃ z, z = x % pM := ⟨_, rfl⟩
  have hzl : z < 115792089237316195423570985008687907853269984665640564039457584007913129639936 := by rw [hz]; exact mod_lt x
  have cn : ∀ w, Calls Try.prog 106 #[fv x] w fun e w' => e = .returned (fv z) ∧ Below w.heap.size w w' := by
    intro w; rw [hz]; exact norm_any w x hx
  rw [← hz]
  obtain ⟨z0, z1, z2, z3, a0, a1, a2, a3, ez, fz⟩ := words_of z hzl
  have HZ := Lib.hid (And.intro a0 (And.intro a1 (And.intro a2 (And.intro a3 ez))))
  have FZ := Lib.hid fz
  obtain ⟨x0, x1, x2, x3, fx⟩ := words_fv x hx
  rw [fx] at cn ⊢
  clear fx fz hz hzl a0 a1 a2 a3 ez hx
  have hZB : Hid ((List.replicate 32 (Value.int .u8 0)).toArray = ((partB z 0).map bv).toArray) := Lib.hid (by simp [partB, lowB, bv])
  go_enter Try.func100, Try.ntmps100
  go_wp2_with fail
  refine (cn _).mono ?_
  rintro e w1 ⟨rfl, hb⟩
  have BR : Blk w1 (w.heap.size + 1) 81 _ := Gr.blk hb (Blk.alloc (blk_new2 w _ _ _) _)
  have BB : Blk w1 (w.heap.size + 2) 81 ((partB z 0).map bv).toArray := Blk.eq_ (Gr.blk hb (blk_new3 w _ _ _ _)) hZB.out
  have hB := Below.gr (below_alloc3 w _ _ _) hb
  have sz := BB.lt
  clear hb cn
  go_wp2_with (first | ((with_reducible refine here_store ?_); refine wpList_store_blk rfl _ _ _ rfl (w1.heap.size) (fcs (z)) rfl rfl _ _ (Blk.new w1 _ _) (by kernel_rfl) (by rfl) (fcs_one _) ?_; intro w2 hL2 hB2 hK2; have CR := hK2 _ (by omega) _ _ (BR.alloc _); have CB := hK2 _ (by omega) _ _ (BB.alloc _); have hC := (hB.alloc (by omega) _).trans (hB2 _ (by omega))))
  go_loopw [8] (fun i wr => ∃ k : Nat, k ≤ 32 ∧ i = .int .i64 (k : Int) ∧ Below w.heap.size w wr ∧ Blk wr (w.heap.size + 2) 81 ((partB z k).map bv).toArray ∧ Blk wr w1.heap.size 24 #[.int .u64 (z0 : Int), .int .u64 (z1 : Int), .int .u64 (z2 : Int), .int .u64 (z3 : Int)] ∧ Blk wr (w.heap.size + 1) 81 (List.replicate 32 (Value.int .u8 0)).toArray) (fun i _ => 32 - (intOf i).toNat)
  case atStart => exact ⟨0, by omega, rfl, hC, CB, hL2.eq_ (fcs_words FZ.out), CR⟩
  case round =>
    obtain ⟨k, hk, rfl, hb, hP, hN, hR⟩ := hrel
    by_cases hlt : k < 32
    · have ce : ∀ j, j < 32 → ∃ v, wr.cell? ⟨w.heap.size + 1 + 1, j, none⟩ = some v := fun j hj => ⟨_, (hP.cell j).trans (Array.getElem?_eq_getElem (by simp [partB_length z k hk]; exact hj))⟩
      obtain ⟨v, hv⟩ := ce (31 - k) (by omega)
      have ff := hP.frozen (31 - k)
      have q0 : wr.cell? ⟨w1.heap.size, 0, none⟩ = some (.int .u64 (z0 : Int)) := hN.cell 0
      have q1 : wr.cell? ⟨w1.heap.size, 1, none⟩ = some (.int .u64 (z1 : Int)) := hN.cell 1
      have q2 : wr.cell? ⟨w1.heap.size, 2, none⟩ = some (.int .u64 (z2 : Int)) := hN.cell 2
      have q3 : wr.cell? ⟨w1.heap.size, 3, none⟩ = some (.int .u64 (z3 : Int)) := hN.cell 3
      have hPn := hP.set_ (31 - k) (bv (byteN z k))
      rw [partB_set z k hlt] at hPn
      have HP := Lib.hid hPn
      clear hPn ce
      have HR := Lib.hid (And.intro hb (And.intro hN hR))
      clear hb hP hN hR hk
      have hsz : w.heap.size + 2 < w1.heap.size := sz
      rcases (show k = 0 ∨ k = 1 ∨ k = 2 ∨ k = 3 ∨ k = 4 ∨ k = 5 ∨ k = 6 ∨ k = 7 ∨ k = 8 ∨ k = 9 ∨ k = 10 ∨ k = 11 ∨ k = 12 ∨ k = 13 ∨ k = 14 ∨ k = 15 ∨ k = 16 ∨ k = 17 ∨ k = 18 ∨ k = 19 ∨ k = 20 ∨ k = 21 ∨ k = 22 ∨ k = 23 ∨ k = 24 ∨ k = 25 ∨ k = 26 ∨ k = 27 ∨ k = 28 ∨ k = 29 ∨ k = 30 ∨ k = 31 by omega) with rfl | rfl | rfl | rfl | rfl | rfl | rfl | rfl | rfl | rfl | rfl | rfl | rfl | rfl | rfl | rfl | rfl | rfl | rfl | rfl | rfl | rfl | rfl | rfl | rfl | rfl | rfl | rfl | rfl | rfl | rfl | rfl
      all_goals
        go_wp2
        obtain ⟨a0, a1, a2, a3, ez⟩ := HZ.out
        refine ⟨⟨_, by decide, rfl, HR.out.1.setCell (by show w.heap.size ≤ w.heap.size + 1 + 1; omega) _, HP.out.val (by rw [bv_byteN]; congr 1; omega), HR.out.2.1.far (by show w1.heap.size ≠ w.heap.size + 1 + 1; omega) _, HR.out.2.2.far (by show w.heap.size + 1 ≠ w.heap.size + 1 + 1; omega) _⟩, by simp [intOf]⟩
    · have p1 : ¬ (k : Int) < 32 := by omega
      obtain rfl : k = 32 := by omega
      rw [partB_full] at hP
      have HI := Lib.hid (bytesS_length z)
      have HL := Lib.hid hP
      have HR := Lib.hid hR
      clear hN hP hR
      go_wp2_with (first | ((with_reducible refine here_load (d := some 24) ?_); refine wpList_load_blk rfl _ _ rfl (w.heap.size + 2) rfl _ _ _ HL.out Try.underlying81 rfl (b32_info HI.out) ?_) | ((with_reducible refine here_store ?_); refine wpList_store_blk rfl _ _ _ rfl (w.heap.size + 1) ((bytesS z).map bv).toArray rfl rfl _ _ HR.out (b32_info HI.out) (by simp [HI.out]) (b32_one _) ?_; intro w9 hL9 hB9 hK9))
      exact bodyPost_ret (results_cell_row rfl _ _ (w.heap.size + 1) _ _ (0, 0) _ rfl hL9 Try.underlying81 rfl (b32_info HI.out)) rfl ⟨rfl, hb.trans (hB9 _ (by omega))⟩

end Go.Proofs.Ytneeefinaejgcaa.Sc

end
section
namespace Go.Proofs.Ytneeefinaejgcaa
open Go.RowKit Go.Lib

end Go.Proofs.Ytneeefinaejgcaa

end
section
namespace Go.Proofs.Ytneeefinaejgcaa
open Go.RowKit Go.Lib

end Go.Proofs.Ytneeefinaejgcaa

end
section
namespace Go.Proofs.Ytneeefinaejgcaa
open Go.RowKit Go.Lib

end Go.Proofs.Ytneeefinaejgcaa

end
section
namespace Go.Proofs.Ytneeefinaejgcaa
open Go.RowKit Go.Lib

end Go.Proofs.Ytneeefinaejgcaa

end
section
namespace Go.Proofs.Ytneeefinaejgcaa.Cu
open Go.RowKit Go.Proofs.Ytneeefinaejgcaa Go.Proofs.Ytneeefinaejgcaa.Sy

theorem key_at (l : List UInt8) {n : Nat} (hl : l.length = n) (k : Nat) (hk : k < n) : (l.map bv).toArray[k]? = some (bv (l.getD k 0)) := by
  have : k < l.length := by omega
  simp [List.getD, this]
end Go.Proofs.Ytneeefinaejgcaa.Cu

end
