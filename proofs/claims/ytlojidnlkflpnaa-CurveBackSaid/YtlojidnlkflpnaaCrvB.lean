/-
  curve: Neg, slope, Add.
-/
import Derived.Test.YtlojidnlkflpnaaCrvA
namespace Go.Proofs.Ytlojidnlkflpnaa.Cu
open Go.RowKit Go.Proofs.Ytlojidnlkflpnaa Go.Proofs.Ytlojidnlkflpnaa.Sy

theorem eql_pt_ne (w : World) (F : Slots) (o : Oper) (x y : Operand) (a b : Nat) (i : Bool) (c d : Nat) (j : Bool) {yt : TypeId} (ho : o.op = .binOp .eql 26 x y yt) (hx : evF F x = pv a b i) (hy : evF F y = pv c d j) (ha : a < K4) (hb : b < K4) (hc : c < K4) (hd : d < K4) (hij : i ≠ j) : (execOp (evF F) o).run Try.prog w = .ok (.value (.bool false)) w := by
  have h := eql_pt w F o x y a b i c d j ho hx hy ha hb hc hd
  have e : sameB a b i c d j = false := by
    unfold sameB
    simp [hij]
  rwa [e] at h
set_option maxHeartbeats 4000000 in
set_option maxRecDepth 100000 in
theorem neg_none (w : World) (x y : Nat) (i : Bool) (hx : x < K4) (hy : y < K4) (h : dec x y i = none) : Calls Try.prog 15 #[pv x y i] w (Gets w (ptv (Ec.neg none))) := by
  refine Sy.enter (args := [pv x y i]) Try.func15 rfl (Nat.le_of_ble_eq_true (by kernel_rfl)) ?_
  refine Sy.seq ?_
  refine Sy.region ?_
  refine Sy.make (by kernel_rfl) 26 (pcs x y i) ptr (fun _ => by kernel_rfl) (fun g0 => ?_)
  refine Sy.make (by kernel_rfl) 26 (pcs 0 0 false) ptr (fun _ => by kernel_rfl) (fun g1 => ?_)
  refine Sy.nil ?_
  refine Sy.then_ ?_
  refine Sy.seq ?_
  refine Sy.region ?_
  refine Sy.step (by kernel_rfl) (pv x y i) (Quiet.load 0 g0 0 9 26 26 (pcs x y i) _ _ rfl (by kernel_rfl) (by kernel_rfl) Try.underlying26 rfl (by kernel_rfl) _ (by kernel_rfl) (Nat.le_of_ble_eq_true (by kernel_rfl))) ?_
  refine Sy.step (by kernel_rfl) (pv 0 0 true) (Quiet.call 47 #[pv x y i] (fun _ => by kernel_rfl) (fun w => by have hrr := right_c w x y i (by first | assumption | exact lt4 _ | decide +kernel) (by first | assumption | exact lt4 _ | decide +kernel); rw [h] at hrr; exact hrr)) ?_
  refine Sy.write (by kernel_rfl) 0 g0 26 (pcs x y i) (pcs 0 0 true) (by kernel_rfl) (Writes.store 0 26 (pcs 0 0 true) _ _ rfl (by kernel_rfl) (by kernel_rfl) (by kernel_rfl) (Nat.le_of_ble_eq_true (by kernel_rfl)) (by kernel_rfl) (by kernel_rfl)) ?_
  refine Sy.nil ?_
  refine Sy.then_ ?_
  refine Sy.seq ?_
  refine Sy.region ?_
  refine Sy.step (by kernel_rfl) (.pointer (some ⟨g0, 4, none⟩)) (Quiet.pure (fun _ => by kernel_rfl)) ?_
  refine Sy.step (by kernel_rfl) (fv 0) (Quiet.load 0 g0 4 4 26 24 (pcs 0 0 true) _ _ rfl (by kernel_rfl) (by kernel_rfl) Try.underlying24 rfl (by kernel_rfl) _ (by kernel_rfl) (Nat.le_of_ble_eq_true (by kernel_rfl))) ?_
  obtain ⟨z1, hz1⟩ : ∃ z : Fp, z = -(0 : Fp) := ⟨_, rfl⟩
  refine Sy.step (by kernel_rfl) (fv z1.val) (Quiet.call 48 #[fv 0] (fun _ => by kernel_rfl) (by rw [hz1]; exact neg_c (0 : Fp))) ?_
  refine Sy.step (by kernel_rfl) (.pointer (some ⟨g0, 4, none⟩)) (Quiet.pure (fun _ => by kernel_rfl)) ?_
  refine Sy.write (by kernel_rfl) 0 g0 26 (pcs 0 0 true) (pcs 0 z1.val true) (by kernel_rfl) (Writes.store 4 24 (fcs z1.val) _ _ rfl (by kernel_rfl) (by kernel_rfl) (by kernel_rfl) (Nat.le_of_ble_eq_true (by kernel_rfl)) (by kernel_rfl) (by kernel_rfl)) ?_
  refine Sy.nil ?_
  refine Sy.then_ ?_
  refine Sy.seq ?_
  refine Sy.region ?_
  refine Sy.step (by kernel_rfl) (pv 0 z1.val true) (Quiet.load 0 g0 0 9 26 26 (pcs 0 z1.val true) _ _ rfl (by kernel_rfl) (by kernel_rfl) Try.underlying26 rfl (by kernel_rfl) _ (by kernel_rfl) (Nat.le_of_ble_eq_true (by kernel_rfl))) ?_
  refine Sy.write (by kernel_rfl) 1 g1 26 (pcs 0 0 false) (pcs 0 z1.val true) (by kernel_rfl) (Writes.store 0 26 (pcs 0 z1.val true) _ _ rfl (by kernel_rfl) (by kernel_rfl) (by kernel_rfl) (Nat.le_of_ble_eq_true (by kernel_rfl)) (by kernel_rfl) (by kernel_rfl)) ?_
  refine Sy.nil ?_
  refine Sy.then_ ?_
  refine Sy.ret ?_
  rw [show (ptv (Ec.neg none) : Value) = pv 0 z1.val true from by rw [hz1]; kernel_rfl]
  exact Sy.ret1 (v := pv 0 z1.val true) rfl (.inl (Res.cell (ty' := 26) g1 1 (pcs 0 z1.val true) _ (by kernel_rfl) (by kernel_rfl) Try.underlying26 rfl (by kernel_rfl) (by kernel_rfl)))
set_option maxHeartbeats 4000000 in
set_option maxRecDepth 100000 in
theorem neg_some (w : World) (x y : Nat) (i : Bool) (hx : x < K4) (hy : y < K4) (u v : Fp) (h : dec x y i = some (u, v)) : Calls Try.prog 15 #[pv x y i] w (Gets w (ptv (Ec.neg (some (u, v))))) := by
  refine Sy.enter (args := [pv x y i]) Try.func15 rfl (Nat.le_of_ble_eq_true (by kernel_rfl)) ?_
  refine Sy.seq ?_
  refine Sy.region ?_
  refine Sy.make (by kernel_rfl) 26 (pcs x y i) ptr (fun _ => by kernel_rfl) (fun g0 => ?_)
  refine Sy.make (by kernel_rfl) 26 (pcs 0 0 false) ptr (fun _ => by kernel_rfl) (fun g1 => ?_)
  refine Sy.nil ?_
  refine Sy.then_ ?_
  refine Sy.seq ?_
  refine Sy.region ?_
  refine Sy.step (by kernel_rfl) (pv x y i) (Quiet.load 0 g0 0 9 26 26 (pcs x y i) _ _ rfl (by kernel_rfl) (by kernel_rfl) Try.underlying26 rfl (by kernel_rfl) _ (by kernel_rfl) (Nat.le_of_ble_eq_true (by kernel_rfl))) ?_
  refine Sy.step (by kernel_rfl) (pv u.val v.val false) (Quiet.call 47 #[pv x y i] (fun _ => by kernel_rfl) (fun w => by have hrr := right_c w x y i (by first | assumption | exact lt4 _ | decide +kernel) (by first | assumption | exact lt4 _ | decide +kernel); rw [h] at hrr; exact hrr)) ?_
  refine Sy.write (by kernel_rfl) 0 g0 26 (pcs x y i) (pcs u.val v.val false) (by kernel_rfl) (Writes.store 0 26 (pcs u.val v.val false) _ _ rfl (by kernel_rfl) (by kernel_rfl) (by kernel_rfl) (Nat.le_of_ble_eq_true (by kernel_rfl)) (by kernel_rfl) (by kernel_rfl)) ?_
  refine Sy.nil ?_
  refine Sy.then_ ?_
  refine Sy.seq ?_
  refine Sy.region ?_
  refine Sy.step (by kernel_rfl) (.pointer (some ⟨g0, 4, none⟩)) (Quiet.pure (fun _ => by kernel_rfl)) ?_
  refine Sy.step (by kernel_rfl) (fv v.val) (Quiet.load 0 g0 4 4 26 24 (pcs u.val v.val false) _ _ rfl (by kernel_rfl) (by kernel_rfl) Try.underlying24 rfl (by kernel_rfl) _ (by kernel_rfl) (Nat.le_of_ble_eq_true (by kernel_rfl))) ?_
  obtain ⟨z1, hz1⟩ : ∃ z : Fp, z = -v := ⟨_, rfl⟩
  refine Sy.step (by kernel_rfl) (fv z1.val) (Quiet.call 48 #[fv v.val] (fun _ => by kernel_rfl) (by rw [hz1]; exact neg_c v)) ?_
  refine Sy.step (by kernel_rfl) (.pointer (some ⟨g0, 4, none⟩)) (Quiet.pure (fun _ => by kernel_rfl)) ?_
  refine Sy.write (by kernel_rfl) 0 g0 26 (pcs u.val v.val false) (pcs u.val z1.val false) (by kernel_rfl) (Writes.store 4 24 (fcs z1.val) _ _ rfl (by kernel_rfl) (by kernel_rfl) (by kernel_rfl) (Nat.le_of_ble_eq_true (by kernel_rfl)) (by kernel_rfl) (by kernel_rfl)) ?_
  refine Sy.nil ?_
  refine Sy.then_ ?_
  refine Sy.seq ?_
  refine Sy.region ?_
  refine Sy.step (by kernel_rfl) (pv u.val z1.val false) (Quiet.load 0 g0 0 9 26 26 (pcs u.val z1.val false) _ _ rfl (by kernel_rfl) (by kernel_rfl) Try.underlying26 rfl (by kernel_rfl) _ (by kernel_rfl) (Nat.le_of_ble_eq_true (by kernel_rfl))) ?_
  refine Sy.write (by kernel_rfl) 1 g1 26 (pcs 0 0 false) (pcs u.val z1.val false) (by kernel_rfl) (Writes.store 0 26 (pcs u.val z1.val false) _ _ rfl (by kernel_rfl) (by kernel_rfl) (by kernel_rfl) (Nat.le_of_ble_eq_true (by kernel_rfl)) (by kernel_rfl) (by kernel_rfl)) ?_
  refine Sy.nil ?_
  refine Sy.then_ ?_
  refine Sy.ret ?_
  rw [show (ptv (Ec.neg (some (u, v))) : Value) = pv u.val z1.val false from by rw [hz1]; rfl]
  exact Sy.ret1 (v := pv u.val z1.val false) rfl (.inl (Res.cell (ty' := 26) g1 1 (pcs u.val z1.val false) _ (by kernel_rfl) (by kernel_rfl) Try.underlying26 rfl (by kernel_rfl) (by kernel_rfl)))
theorem neg_any (w : World) (x y : Nat) (i : Bool) (hx : x < K4) (hy : y < K4) : Calls Try.prog 15 #[pv x y i] w (Gets w (ptv (Ec.neg (dec x y i)))) := by
  rcases h : dec x y i with _ | ⟨u, v⟩
  · exact neg_none w x y i hx hy h
  · exact neg_some w x y i hx hy u v h
theorem neg_pt (w : World) (c d : Fp) (h : d * d = c * c * c + 7) : Calls Try.prog 15 #[pv c.val d.val false] w (Gets w (pv c.val (-d).val false)) := by
  have k := neg_any w c.val d.val false (lt4 c) (lt4 d)
  rw [dec_fin c d h] at k
  exact k
theorem sameB_fin (a b c d : Fp) : sameB a.val b.val false c.val d.val false = decide (a = c ∧ b = d) := by
  unfold sameB
  rw [Bool.eq_iff_iff]
  simp [Fin.ext_iff]
set_option maxHeartbeats 4000000 in
set_option maxRecDepth 100000 in
theorem slope_c (w : World) (u v c d : Fp) (h : u = c → v = d) : Calls Try.prog 51 #[pv u.val v.val false, pv c.val d.val false] w (Gets w (fv (Ec.slp finv u v c d).val)) := by
  refine Sy.enter (args := [pv u.val v.val false, pv c.val d.val false]) Try.func51 rfl (Nat.le_of_ble_eq_true (by kernel_rfl)) ?_
  refine Sy.seq ?_
  refine Sy.region ?_
  refine Sy.make (by kernel_rfl) 26 (pcs u.val v.val false) ptr (fun _ => by kernel_rfl) (fun g0 => ?_)
  refine Sy.make (by kernel_rfl) 26 (pcs c.val d.val false) ptr (fun _ => by kernel_rfl) (fun g1 => ?_)
  refine Sy.make (by kernel_rfl) 24 (fcs 0) ptr (fun _ => by kernel_rfl) (fun g2 => ?_)
  refine Sy.nil ?_
  refine Sy.then_ ?_
  refine Sy.seq ?_
  refine Sy.seq ?_
  refine Sy.region ?_
  refine Sy.step (by kernel_rfl) (pv u.val v.val false) (Quiet.load 0 g0 0 9 26 26 (pcs u.val v.val false) _ _ rfl (by kernel_rfl) (by kernel_rfl) Try.underlying26 rfl (by kernel_rfl) _ (by kernel_rfl) (Nat.le_of_ble_eq_true (by kernel_rfl))) ?_
  refine Sy.step (by kernel_rfl) (pv c.val d.val false) (Quiet.load 1 g1 0 9 26 26 (pcs c.val d.val false) _ _ rfl (by kernel_rfl) (by kernel_rfl) Try.underlying26 rfl (by kernel_rfl) _ (by kernel_rfl) (Nat.le_of_ble_eq_true (by kernel_rfl))) ?_
  obtain ⟨b1, hb1⟩ : ∃ z : Bool, z = sameB u.val v.val false c.val d.val false := ⟨_, rfl⟩
  refine Sy.step (by kernel_rfl) (.bool b1) (Quiet.pure (fun w => by rw [hb1]; exact eql_pt w _ _ _ _ _ _ _ _ _ _ rfl rfl rfl (by first | assumption | exact lt4 _ | decide +kernel) (by first | assumption | exact lt4 _ | decide +kernel) (by first | assumption | exact lt4 _ | decide +kernel) (by first | assumption | exact lt4 _ | decide +kernel))) ?_
  refine Sy.nil ?_
  refine Sy.then_ ?_
  cases b1
  · refine Sy.cond_f (by kernel_rfl) (by kernel_rfl) ?_
    refine Sy.skip ?_
    refine Sy.then_ ?_
    refine Sy.seq ?_
    refine Sy.regionD (fun j => j == 12) (by kernel_rfl) ?_
    refine Sy.stepD 0 rfl (by kernel_rfl) (fun _ _ _ _ h => h) (by kernel_rfl) (.pointer (some ⟨g1, 4, none⟩)) (Quiet.pure (fun _ => by kernel_rfl)) ?_
    refine Sy.stepD 1 rfl (by kernel_rfl) (fun _ _ _ _ h => h) (by kernel_rfl) (fv d.val) (Quiet.load 1 g1 4 4 26 24 (pcs c.val d.val false) _ _ rfl (by kernel_rfl) (by kernel_rfl) Try.underlying24 rfl (by kernel_rfl) _ (by kernel_rfl) (Nat.le_of_ble_eq_true (by kernel_rfl))) ?_
    refine Sy.stepD 2 rfl (by kernel_rfl) (fun _ _ _ _ h => h) (by kernel_rfl) (.pointer (some ⟨g0, 4, none⟩)) (Quiet.pure (fun _ => by kernel_rfl)) ?_
    refine Sy.stepD 3 rfl (by kernel_rfl) (fun _ _ _ _ h => h) (by kernel_rfl) (fv v.val) (Quiet.load 0 g0 4 4 26 24 (pcs u.val v.val false) _ _ rfl (by kernel_rfl) (by kernel_rfl) Try.underlying24 rfl (by kernel_rfl) _ (by kernel_rfl) (Nat.le_of_ble_eq_true (by kernel_rfl))) ?_
    obtain ⟨z1, hz1⟩ : ∃ z : Fp, z = d - v := ⟨_, rfl⟩
    refine Sy.stepD 4 rfl (by kernel_rfl) (fun _ _ _ _ h => h) (by kernel_rfl) (fv z1.val) (Quiet.call 52 #[fv d.val, fv v.val] (fun _ => by kernel_rfl) (by rw [hz1]; exact sub_c d v)) ?_
    refine Sy.stepD 5 rfl (by kernel_rfl) (fun _ _ _ _ h => h) (by kernel_rfl) (.pointer (some ⟨g1, 0, none⟩)) (Quiet.pure (fun _ => by kernel_rfl)) ?_
    refine Sy.stepD 6 rfl (by kernel_rfl) (fun _ _ _ _ h => h) (by kernel_rfl) (fv c.val) (Quiet.load 1 g1 0 4 26 24 (pcs c.val d.val false) _ _ rfl (by kernel_rfl) (by kernel_rfl) Try.underlying24 rfl (by kernel_rfl) _ (by kernel_rfl) (Nat.le_of_ble_eq_true (by kernel_rfl))) ?_
    refine Sy.stepD 7 rfl (by kernel_rfl) (fun _ _ _ _ h => h) (by kernel_rfl) (.pointer (some ⟨g0, 0, none⟩)) (Quiet.pure (fun _ => by kernel_rfl)) ?_
    refine Sy.stepD 8 rfl (by kernel_rfl) (fun _ _ _ _ h => h) (by kernel_rfl) (fv u.val) (Quiet.load 0 g0 0 4 26 24 (pcs u.val v.val false) _ _ rfl (by kernel_rfl) (by kernel_rfl) Try.underlying24 rfl (by kernel_rfl) _ (by kernel_rfl) (Nat.le_of_ble_eq_true (by kernel_rfl))) ?_
    obtain ⟨z2, hz2⟩ : ∃ z : Fp, z = c - u := ⟨_, rfl⟩
    refine Sy.stepD 9 rfl (by kernel_rfl) (fun _ _ _ _ h => h) (by kernel_rfl) (fv z2.val) (Quiet.call 52 #[fv c.val, fv u.val] (fun _ => by kernel_rfl) (by rw [hz2]; exact sub_c c u)) ?_
    obtain ⟨z3, hz3⟩ : ∃ z : Fp, z = finv z2 := ⟨_, rfl⟩
    refine Sy.stepD 10 rfl (by kernel_rfl) (fun _ _ _ _ h => h) (by kernel_rfl) (fv z3.val) (Quiet.call 89 #[fv z2.val] (fun _ => by kernel_rfl) (by rw [hz3]; exact inv_c z2)) ?_
    obtain ⟨z4, hz4⟩ : ∃ z : Fp, z = z1 * z3 := ⟨_, rfl⟩
    refine Sy.stepD 11 rfl (by kernel_rfl) (fun _ _ _ _ h => h) (by kernel_rfl) (fv z4.val) (Quiet.call 39 #[fv z1.val, fv z3.val] (fun _ => by kernel_rfl) (by rw [hz4]; exact mul_c z1 z3)) ?_
    refine Sy.writeD 12 rfl (by kernel_rfl) (by rfl) (by kernel_rfl) 2 g2 24 (fcs 0) (fcs z4.val) (by kernel_rfl) (Writes.store 0 24 (fcs z4.val) _ _ rfl (by kernel_rfl) (by kernel_rfl) (by kernel_rfl) (Nat.le_of_ble_eq_true (by kernel_rfl)) (by kernel_rfl) (by kernel_rfl)) ?_
    refine Sy.doneD (by kernel_rfl) ?_
    refine Sy.then_ ?_
    refine Sy.ret ?_
    rw [show (fv (Ec.slp finv u v c d).val : Value) = fv z4.val from by
      have e := sameB_fin u v c d
      rw [← hb1] at e
      have e := of_decide_eq_false e.symm
      refine congrArg (fun t : Fp => fv t.val) ?_
      unfold Ec.slp
      rw [if_neg (fun k => e ⟨k, h k⟩)]
      clear h hb1 e
      grobner]
    exact Sy.ret1 (v := fv z4.val) rfl (.inl (Res.cell (ty' := 24) g2 2 (fcs z4.val) _ (by kernel_rfl) (by kernel_rfl) Try.underlying24 rfl (by kernel_rfl) (by kernel_rfl)))
  · refine Sy.cond_t (by kernel_rfl) (by kernel_rfl) ?_
    refine Sy.seq ?_
    refine Sy.regionD (fun j => j == 8) (by kernel_rfl) ?_
    obtain ⟨z5, hz5⟩ : ∃ z : Fp, z = (3 : Fp) := ⟨_, rfl⟩
    refine Sy.stepD 0 rfl (by kernel_rfl) (fun _ _ _ _ h => h) (by kernel_rfl) (fv z5.val) (Quiet.call 84 #[.int .u64 3] (fun _ => by kernel_rfl) (fun w => by rw [hz5]; exact of_c 3 (by decide +kernel) (by decide) w)) ?_
    refine Sy.stepD 1 rfl (by kernel_rfl) (fun _ _ _ _ h => h) (by kernel_rfl) (.pointer (some ⟨g0, 0, none⟩)) (Quiet.pure (fun _ => by kernel_rfl)) ?_
    refine Sy.stepD 2 rfl (by kernel_rfl) (fun _ _ _ _ h => h) (by kernel_rfl) (fv u.val) (Quiet.load 0 g0 0 4 26 24 (pcs u.val v.val false) _ _ rfl (by kernel_rfl) (by kernel_rfl) Try.underlying24 rfl (by kernel_rfl) _ (by kernel_rfl) (Nat.le_of_ble_eq_true (by kernel_rfl))) ?_
    refine Sy.stepD 3 rfl (by kernel_rfl) (fun _ _ _ _ h => h) (by kernel_rfl) (.pointer (some ⟨g0, 0, none⟩)) (Quiet.pure (fun _ => by kernel_rfl)) ?_
    refine Sy.stepD 4 rfl (by kernel_rfl) (fun _ _ _ _ h => h) (by kernel_rfl) (fv u.val) (Quiet.load 0 g0 0 4 26 24 (pcs u.val v.val false) _ _ rfl (by kernel_rfl) (by kernel_rfl) Try.underlying24 rfl (by kernel_rfl) _ (by kernel_rfl) (Nat.le_of_ble_eq_true (by kernel_rfl))) ?_
    obtain ⟨z6, hz6⟩ : ∃ z : Fp, z = u * u := ⟨_, rfl⟩
    refine Sy.stepD 5 rfl (by kernel_rfl) (fun _ _ _ _ h => h) (by kernel_rfl) (fv z6.val) (Quiet.call 39 #[fv u.val, fv u.val] (fun _ => by kernel_rfl) (by rw [hz6]; exact mul_c u u)) ?_
    obtain ⟨z7, hz7⟩ : ∃ z : Fp, z = z5 * z6 := ⟨_, rfl⟩
    refine Sy.stepD 6 rfl (by kernel_rfl) (fun _ _ _ _ h => h) (by kernel_rfl) (fv z7.val) (Quiet.call 39 #[fv z5.val, fv z6.val] (fun _ => by kernel_rfl) (by rw [hz7]; exact mul_c z5 z6)) ?_
    refine Sy.makeD 7 rfl (by kernel_rfl) (by kernel_rfl) 24 (fcs 0) ptr (fun _ => by kernel_rfl) (fun g3 => ?_)
    refine Sy.writeD 8 rfl (by kernel_rfl) (by rfl) (by kernel_rfl) 3 g3 24 (fcs 0) (fcs z7.val) (by kernel_rfl) (Writes.store 0 24 (fcs z7.val) _ _ rfl (by kernel_rfl) (by kernel_rfl) (by kernel_rfl) (Nat.le_of_ble_eq_true (by kernel_rfl)) (by kernel_rfl) (by kernel_rfl)) ?_
    refine Sy.doneD (by kernel_rfl) ?_
    refine Sy.then_ ?_
    refine Sy.seq ?_
    refine Sy.regionD (fun j => j == 8) (by kernel_rfl) ?_
    refine Sy.stepD 0 rfl (by kernel_rfl) (fun _ _ _ _ h => h) (by kernel_rfl) (fv z7.val) (Quiet.load 3 g3 0 4 24 24 (fcs z7.val) _ _ rfl (by kernel_rfl) (by kernel_rfl) Try.underlying24 rfl (by kernel_rfl) _ (by kernel_rfl) (Nat.le_of_ble_eq_true (by kernel_rfl))) ?_
    refine Sy.stepD 1 rfl (by kernel_rfl) (fun _ _ _ _ h => h) (by kernel_rfl) (.pointer (some ⟨g0, 4, none⟩)) (Quiet.pure (fun _ => by kernel_rfl)) ?_
    refine Sy.stepD 2 rfl (by kernel_rfl) (fun _ _ _ _ h => h) (by kernel_rfl) (fv v.val) (Quiet.load 0 g0 4 4 26 24 (pcs u.val v.val false) _ _ rfl (by kernel_rfl) (by kernel_rfl) Try.underlying24 rfl (by kernel_rfl) _ (by kernel_rfl) (Nat.le_of_ble_eq_true (by kernel_rfl))) ?_
    refine Sy.stepD 3 rfl (by kernel_rfl) (fun _ _ _ _ h => h) (by kernel_rfl) (.pointer (some ⟨g0, 4, none⟩)) (Quiet.pure (fun _ => by kernel_rfl)) ?_
    refine Sy.stepD 4 rfl (by kernel_rfl) (fun _ _ _ _ h => h) (by kernel_rfl) (fv v.val) (Quiet.load 0 g0 4 4 26 24 (pcs u.val v.val false) _ _ rfl (by kernel_rfl) (by kernel_rfl) Try.underlying24 rfl (by kernel_rfl) _ (by kernel_rfl) (Nat.le_of_ble_eq_true (by kernel_rfl))) ?_
    obtain ⟨z8, hz8⟩ : ∃ z : Fp, z = v + v := ⟨_, rfl⟩
    refine Sy.stepD 5 rfl (by kernel_rfl) (fun _ _ _ _ h => h) (by kernel_rfl) (fv z8.val) (Quiet.call 83 #[fv v.val, fv v.val] (fun _ => by kernel_rfl) (by rw [hz8]; exact add_c v v)) ?_
    obtain ⟨z9, hz9⟩ : ∃ z : Fp, z = finv z8 := ⟨_, rfl⟩
    refine Sy.stepD 6 rfl (by kernel_rfl) (fun _ _ _ _ h => h) (by kernel_rfl) (fv z9.val) (Quiet.call 89 #[fv z8.val] (fun _ => by kernel_rfl) (by rw [hz9]; exact inv_c z8)) ?_
    obtain ⟨z10, hz10⟩ : ∃ z : Fp, z = z7 * z9 := ⟨_, rfl⟩
    refine Sy.stepD 7 rfl (by kernel_rfl) (fun _ _ _ _ h => h) (by kernel_rfl) (fv z10.val) (Quiet.call 39 #[fv z7.val, fv z9.val] (fun _ => by kernel_rfl) (by rw [hz10]; exact mul_c z7 z9)) ?_
    refine Sy.writeD 8 rfl (by kernel_rfl) (by rfl) (by kernel_rfl) 2 g2 24 (fcs 0) (fcs z10.val) (by kernel_rfl) (Writes.store 0 24 (fcs z10.val) _ _ rfl (by kernel_rfl) (by kernel_rfl) (by kernel_rfl) (Nat.le_of_ble_eq_true (by kernel_rfl)) (by kernel_rfl) (by kernel_rfl)) ?_
    refine Sy.doneD (by kernel_rfl) ?_
    refine Sy.then_ ?_
    refine Sy.ret ?_
    refine Sy.then_ret ?_
    rw [show (fv (Ec.slp finv u v c d).val : Value) = fv z10.val from by
      have e := sameB_fin u v c d
      rw [← hb1] at e
      obtain ⟨rfl, rfl⟩ := of_decide_eq_true e.symm
      refine congrArg (fun t : Fp => fv t.val) ?_
      unfold Ec.slp
      rw [if_pos rfl]
      clear h hb1 e
      grobner]
    exact Sy.ret1 (v := fv z10.val) rfl (.inl (Res.cell (ty' := 24) g2 2 (fcs z10.val) _ (by kernel_rfl) (by kernel_rfl) Try.underlying24 rfl (by kernel_rfl) (by kernel_rfl)))
set_option maxHeartbeats 4000000 in
set_option maxRecDepth 100000 in
theorem add_nn (w : World) (x y : Nat) (i : Bool) (x2 y2 : Nat) (i2 : Bool) (hx : x < K4) (hy : y < K4) (hx2 : x2 < K4) (hy2 : y2 < K4) (h : dec x y i = none) (k : dec x2 y2 i2 = none) : Calls Try.prog 17 #[pv x y i, pv x2 y2 i2] w (Gets w (ptv none)) := by
  refine Sy.enter (args := [pv x y i, pv x2 y2 i2]) Try.func17 rfl (Nat.le_of_ble_eq_true (by kernel_rfl)) ?_
  refine Sy.seq ?_
  refine Sy.region ?_
  refine Sy.make (by kernel_rfl) 26 (pcs x y i) ptr (fun _ => by kernel_rfl) (fun g0 => ?_)
  refine Sy.make (by kernel_rfl) 26 (pcs x2 y2 i2) ptr (fun _ => by kernel_rfl) (fun g1 => ?_)
  refine Sy.make (by kernel_rfl) 26 (pcs 0 0 false) ptr (fun _ => by kernel_rfl) (fun g2 => ?_)
  refine Sy.nil ?_
  refine Sy.then_ ?_
  refine Sy.seq ?_
  refine Sy.regionD (fun j => j == 4 || j == 5) (by kernel_rfl) ?_
  refine Sy.stepD 0 rfl (by kernel_rfl) (fun _ _ _ _ h => h) (by kernel_rfl) (pv x y i) (Quiet.load 0 g0 0 9 26 26 (pcs x y i) _ _ rfl (by kernel_rfl) (by kernel_rfl) Try.underlying26 rfl (by kernel_rfl) _ (by kernel_rfl) (Nat.le_of_ble_eq_true (by kernel_rfl))) ?_
  refine Sy.stepD 1 rfl (by kernel_rfl) (fun _ _ _ _ h => h) (by kernel_rfl) (pv 0 0 true) (Quiet.call 47 #[pv x y i] (fun _ => by kernel_rfl) (fun w => by have hrr := right_c w x y i (by first | assumption | exact lt4 _ | decide +kernel) (by first | assumption | exact lt4 _ | decide +kernel); rw [h] at hrr; exact hrr)) ?_
  refine Sy.stepDB 2 [3, 4, 5] rfl (by kernel_rfl) (fun _ _ _ _ h => h) (by kernel_rfl) (pv x2 y2 i2) (Quiet.load 1 g1 0 9 26 26 (pcs x2 y2 i2) _ _ rfl (by kernel_rfl) (by kernel_rfl) Try.underlying26 rfl (by kernel_rfl) _ (by kernel_rfl) (Nat.le_of_ble_eq_true (by kernel_rfl))) ?_
  refine Sy.stepD 3 rfl (by kernel_rfl) (fun _ _ _ _ h => h) (by kernel_rfl) (pv 0 0 true) (Quiet.call 47 #[pv x2 y2 i2] (fun _ => by kernel_rfl) (fun w => by have hrr := right_c w x2 y2 i2 (by first | assumption | exact lt4 _ | decide +kernel) (by first | assumption | exact lt4 _ | decide +kernel); rw [k] at hrr; exact hrr)) ?_
  refine Sy.writeD 4 rfl (by kernel_rfl) (by rfl) (by kernel_rfl) 0 g0 26 (pcs x y i) (pcs 0 0 true) (by kernel_rfl) (Writes.store 0 26 (pcs 0 0 true) _ _ rfl (by kernel_rfl) (by kernel_rfl) (by kernel_rfl) (Nat.le_of_ble_eq_true (by kernel_rfl)) (by kernel_rfl) (by kernel_rfl)) ?_
  refine Sy.writeD 5 rfl (by kernel_rfl) (by rfl) (by kernel_rfl) 1 g1 26 (pcs x2 y2 i2) (pcs 0 0 true) (by kernel_rfl) (Writes.store 0 26 (pcs 0 0 true) _ _ rfl (by kernel_rfl) (by kernel_rfl) (by kernel_rfl) (Nat.le_of_ble_eq_true (by kernel_rfl)) (by kernel_rfl) (by kernel_rfl)) ?_
  refine Sy.doneD (by kernel_rfl) ?_
  refine Sy.then_ ?_
  refine Sy.seq ?_
  refine Sy.block ?_
  refine Sy.seq ?_
  refine Sy.regionD (fun j => false) (by kernel_rfl) ?_
  refine Sy.stepD 0 rfl (by kernel_rfl) (fun _ _ _ _ h => h) (by kernel_rfl) (pv 0 0 true) (Quiet.load 0 g0 0 9 26 26 (pcs 0 0 true) _ _ rfl (by kernel_rfl) (by kernel_rfl) Try.underlying26 rfl (by kernel_rfl) _ (by kernel_rfl) (Nat.le_of_ble_eq_true (by kernel_rfl))) ?_
  refine Sy.stepD 1 rfl (by kernel_rfl) (fun _ _ _ _ h => h) (by kernel_rfl) (pv 0 0 true) (Quiet.call 31 #[] (fun _ => by kernel_rfl) (zero_c)) ?_
  refine Sy.stepD 2 rfl (by kernel_rfl) (fun _ _ _ _ h => h) (by kernel_rfl) (.bool true) (Quiet.pure (fun w => eql_pt w _ _ _ _ 0 0 true 0 0 true rfl rfl rfl (by decide) (by decide) (by decide) (by decide))) ?_
  refine Sy.stepD 3 rfl (by kernel_rfl) (fun _ _ _ _ h => h) (by kernel_rfl) (.bool true) (Quiet.pure (fun _ => by kernel_rfl)) ?_
  refine Sy.doneD (by kernel_rfl) ?_
  refine Sy.then_ ?_
  refine Sy.cond_t (by kernel_rfl) (by kernel_rfl) ?_
  refine Sy.seq ?_
  refine Sy.region ?_
  refine Sy.step (by kernel_rfl) (pv 0 0 true) (Quiet.load 1 g1 0 9 26 26 (pcs 0 0 true) _ _ rfl (by kernel_rfl) (by kernel_rfl) Try.underlying26 rfl (by kernel_rfl) _ (by kernel_rfl) (Nat.le_of_ble_eq_true (by kernel_rfl))) ?_
  refine Sy.write (by kernel_rfl) 2 g2 26 (pcs 0 0 false) (pcs 0 0 true) (by kernel_rfl) (Writes.store 0 26 (pcs 0 0 true) _ _ rfl (by kernel_rfl) (by kernel_rfl) (by kernel_rfl) (Nat.le_of_ble_eq_true (by kernel_rfl)) (by kernel_rfl) (by kernel_rfl)) ?_
  refine Sy.nil ?_
  refine Sy.then_ ?_
  refine Sy.ret ?_
  refine Sy.in_ret ?_
  refine Sy.then_ret ?_
  rw [show (ptv none : Value) = pv 0 0 true from rfl]
  exact Sy.ret1 (v := pv 0 0 true) rfl (.inl (Res.cell (ty' := 26) g2 2 (pcs 0 0 true) _ (by kernel_rfl) (by kernel_rfl) Try.underlying26 rfl (by kernel_rfl) (by kernel_rfl)))
set_option maxHeartbeats 4000000 in
set_option maxRecDepth 100000 in
theorem add_ns (w : World) (x y : Nat) (i : Bool) (x2 y2 : Nat) (i2 : Bool) (hx : x < K4) (hy : y < K4) (hx2 : x2 < K4) (hy2 : y2 < K4) (c d : Fp) (h : dec x y i = none) (k : dec x2 y2 i2 = some (c, d)) : Calls Try.prog 17 #[pv x y i, pv x2 y2 i2] w (Gets w (ptv (some (c, d)))) := by
  refine Sy.enter (args := [pv x y i, pv x2 y2 i2]) Try.func17 rfl (Nat.le_of_ble_eq_true (by kernel_rfl)) ?_
  refine Sy.seq ?_
  refine Sy.region ?_
  refine Sy.make (by kernel_rfl) 26 (pcs x y i) ptr (fun _ => by kernel_rfl) (fun g0 => ?_)
  refine Sy.make (by kernel_rfl) 26 (pcs x2 y2 i2) ptr (fun _ => by kernel_rfl) (fun g1 => ?_)
  refine Sy.make (by kernel_rfl) 26 (pcs 0 0 false) ptr (fun _ => by kernel_rfl) (fun g2 => ?_)
  refine Sy.nil ?_
  refine Sy.then_ ?_
  refine Sy.seq ?_
  refine Sy.regionD (fun j => j == 4 || j == 5) (by kernel_rfl) ?_
  refine Sy.stepD 0 rfl (by kernel_rfl) (fun _ _ _ _ h => h) (by kernel_rfl) (pv x y i) (Quiet.load 0 g0 0 9 26 26 (pcs x y i) _ _ rfl (by kernel_rfl) (by kernel_rfl) Try.underlying26 rfl (by kernel_rfl) _ (by kernel_rfl) (Nat.le_of_ble_eq_true (by kernel_rfl))) ?_
  refine Sy.stepD 1 rfl (by kernel_rfl) (fun _ _ _ _ h => h) (by kernel_rfl) (pv 0 0 true) (Quiet.call 47 #[pv x y i] (fun _ => by kernel_rfl) (fun w => by have hrr := right_c w x y i (by first | assumption | exact lt4 _ | decide +kernel) (by first | assumption | exact lt4 _ | decide +kernel); rw [h] at hrr; exact hrr)) ?_
  refine Sy.stepDB 2 [3, 4, 5] rfl (by kernel_rfl) (fun _ _ _ _ h => h) (by kernel_rfl) (pv x2 y2 i2) (Quiet.load 1 g1 0 9 26 26 (pcs x2 y2 i2) _ _ rfl (by kernel_rfl) (by kernel_rfl) Try.underlying26 rfl (by kernel_rfl) _ (by kernel_rfl) (Nat.le_of_ble_eq_true (by kernel_rfl))) ?_
  refine Sy.stepD 3 rfl (by kernel_rfl) (fun _ _ _ _ h => h) (by kernel_rfl) (pv c.val d.val false) (Quiet.call 47 #[pv x2 y2 i2] (fun _ => by kernel_rfl) (fun w => by have hrr := right_c w x2 y2 i2 (by first | assumption | exact lt4 _ | decide +kernel) (by first | assumption | exact lt4 _ | decide +kernel); rw [k] at hrr; exact hrr)) ?_
  refine Sy.writeD 4 rfl (by kernel_rfl) (by rfl) (by kernel_rfl) 0 g0 26 (pcs x y i) (pcs 0 0 true) (by kernel_rfl) (Writes.store 0 26 (pcs 0 0 true) _ _ rfl (by kernel_rfl) (by kernel_rfl) (by kernel_rfl) (Nat.le_of_ble_eq_true (by kernel_rfl)) (by kernel_rfl) (by kernel_rfl)) ?_
  refine Sy.writeD 5 rfl (by kernel_rfl) (by rfl) (by kernel_rfl) 1 g1 26 (pcs x2 y2 i2) (pcs c.val d.val false) (by kernel_rfl) (Writes.store 0 26 (pcs c.val d.val false) _ _ rfl (by kernel_rfl) (by kernel_rfl) (by kernel_rfl) (Nat.le_of_ble_eq_true (by kernel_rfl)) (by kernel_rfl) (by kernel_rfl)) ?_
  refine Sy.doneD (by kernel_rfl) ?_
  refine Sy.then_ ?_
  refine Sy.seq ?_
  refine Sy.block ?_
  refine Sy.seq ?_
  refine Sy.regionD (fun j => false) (by kernel_rfl) ?_
  refine Sy.stepD 0 rfl (by kernel_rfl) (fun _ _ _ _ h => h) (by kernel_rfl) (pv 0 0 true) (Quiet.load 0 g0 0 9 26 26 (pcs 0 0 true) _ _ rfl (by kernel_rfl) (by kernel_rfl) Try.underlying26 rfl (by kernel_rfl) _ (by kernel_rfl) (Nat.le_of_ble_eq_true (by kernel_rfl))) ?_
  refine Sy.stepD 1 rfl (by kernel_rfl) (fun _ _ _ _ h => h) (by kernel_rfl) (pv 0 0 true) (Quiet.call 31 #[] (fun _ => by kernel_rfl) (zero_c)) ?_
  refine Sy.stepD 2 rfl (by kernel_rfl) (fun _ _ _ _ h => h) (by kernel_rfl) (.bool true) (Quiet.pure (fun w => eql_pt w _ _ _ _ 0 0 true 0 0 true rfl rfl rfl (by decide) (by decide) (by decide) (by decide))) ?_
  refine Sy.stepD 3 rfl (by kernel_rfl) (fun _ _ _ _ h => h) (by kernel_rfl) (.bool true) (Quiet.pure (fun _ => by kernel_rfl)) ?_
  refine Sy.doneD (by kernel_rfl) ?_
  refine Sy.then_ ?_
  refine Sy.cond_t (by kernel_rfl) (by kernel_rfl) ?_
  refine Sy.seq ?_
  refine Sy.region ?_
  refine Sy.step (by kernel_rfl) (pv c.val d.val false) (Quiet.load 1 g1 0 9 26 26 (pcs c.val d.val false) _ _ rfl (by kernel_rfl) (by kernel_rfl) Try.underlying26 rfl (by kernel_rfl) _ (by kernel_rfl) (Nat.le_of_ble_eq_true (by kernel_rfl))) ?_
  refine Sy.write (by kernel_rfl) 2 g2 26 (pcs 0 0 false) (pcs c.val d.val false) (by kernel_rfl) (Writes.store 0 26 (pcs c.val d.val false) _ _ rfl (by kernel_rfl) (by kernel_rfl) (by kernel_rfl) (Nat.le_of_ble_eq_true (by kernel_rfl)) (by kernel_rfl) (by kernel_rfl)) ?_
  refine Sy.nil ?_
  refine Sy.then_ ?_
  refine Sy.ret ?_
  refine Sy.in_ret ?_
  refine Sy.then_ret ?_
  rw [show (ptv (some (c, d)) : Value) = pv c.val d.val false from rfl]
  exact Sy.ret1 (v := pv c.val d.val false) rfl (.inl (Res.cell (ty' := 26) g2 2 (pcs c.val d.val false) _ (by kernel_rfl) (by kernel_rfl) Try.underlying26 rfl (by kernel_rfl) (by kernel_rfl)))
set_option maxHeartbeats 4000000 in
set_option maxRecDepth 100000 in
theorem add_sn (w : World) (x y : Nat) (i : Bool) (x2 y2 : Nat) (i2 : Bool) (hx : x < K4) (hy : y < K4) (hx2 : x2 < K4) (hy2 : y2 < K4) (u v : Fp) (h : dec x y i = some (u, v)) (k : dec x2 y2 i2 = none) : Calls Try.prog 17 #[pv x y i, pv x2 y2 i2] w (Gets w (ptv (some (u, v)))) := by
  refine Sy.enter (args := [pv x y i, pv x2 y2 i2]) Try.func17 rfl (Nat.le_of_ble_eq_true (by kernel_rfl)) ?_
  refine Sy.seq ?_
  refine Sy.region ?_
  refine Sy.make (by kernel_rfl) 26 (pcs x y i) ptr (fun _ => by kernel_rfl) (fun g0 => ?_)
  refine Sy.make (by kernel_rfl) 26 (pcs x2 y2 i2) ptr (fun _ => by kernel_rfl) (fun g1 => ?_)
  refine Sy.make (by kernel_rfl) 26 (pcs 0 0 false) ptr (fun _ => by kernel_rfl) (fun g2 => ?_)
  refine Sy.nil ?_
  refine Sy.then_ ?_
  refine Sy.seq ?_
  refine Sy.regionD (fun j => j == 4 || j == 5) (by kernel_rfl) ?_
  refine Sy.stepD 0 rfl (by kernel_rfl) (fun _ _ _ _ h => h) (by kernel_rfl) (pv x y i) (Quiet.load 0 g0 0 9 26 26 (pcs x y i) _ _ rfl (by kernel_rfl) (by kernel_rfl) Try.underlying26 rfl (by kernel_rfl) _ (by kernel_rfl) (Nat.le_of_ble_eq_true (by kernel_rfl))) ?_
  refine Sy.stepD 1 rfl (by kernel_rfl) (fun _ _ _ _ h => h) (by kernel_rfl) (pv u.val v.val false) (Quiet.call 47 #[pv x y i] (fun _ => by kernel_rfl) (fun w => by have hrr := right_c w x y i (by first | assumption | exact lt4 _ | decide +kernel) (by first | assumption | exact lt4 _ | decide +kernel); rw [h] at hrr; exact hrr)) ?_
  refine Sy.stepDB 2 [3, 4, 5] rfl (by kernel_rfl) (fun _ _ _ _ h => h) (by kernel_rfl) (pv x2 y2 i2) (Quiet.load 1 g1 0 9 26 26 (pcs x2 y2 i2) _ _ rfl (by kernel_rfl) (by kernel_rfl) Try.underlying26 rfl (by kernel_rfl) _ (by kernel_rfl) (Nat.le_of_ble_eq_true (by kernel_rfl))) ?_
  refine Sy.stepD 3 rfl (by kernel_rfl) (fun _ _ _ _ h => h) (by kernel_rfl) (pv 0 0 true) (Quiet.call 47 #[pv x2 y2 i2] (fun _ => by kernel_rfl) (fun w => by have hrr := right_c w x2 y2 i2 (by first | assumption | exact lt4 _ | decide +kernel) (by first | assumption | exact lt4 _ | decide +kernel); rw [k] at hrr; exact hrr)) ?_
  refine Sy.writeD 4 rfl (by kernel_rfl) (by rfl) (by kernel_rfl) 0 g0 26 (pcs x y i) (pcs u.val v.val false) (by kernel_rfl) (Writes.store 0 26 (pcs u.val v.val false) _ _ rfl (by kernel_rfl) (by kernel_rfl) (by kernel_rfl) (Nat.le_of_ble_eq_true (by kernel_rfl)) (by kernel_rfl) (by kernel_rfl)) ?_
  refine Sy.writeD 5 rfl (by kernel_rfl) (by rfl) (by kernel_rfl) 1 g1 26 (pcs x2 y2 i2) (pcs 0 0 true) (by kernel_rfl) (Writes.store 0 26 (pcs 0 0 true) _ _ rfl (by kernel_rfl) (by kernel_rfl) (by kernel_rfl) (Nat.le_of_ble_eq_true (by kernel_rfl)) (by kernel_rfl) (by kernel_rfl)) ?_
  refine Sy.doneD (by kernel_rfl) ?_
  refine Sy.then_ ?_
  refine Sy.seq ?_
  refine Sy.block ?_
  refine Sy.seq ?_
  refine Sy.regionD (fun j => false) (by kernel_rfl) ?_
  refine Sy.stepD 0 rfl (by kernel_rfl) (fun _ _ _ _ h => h) (by kernel_rfl) (pv u.val v.val false) (Quiet.load 0 g0 0 9 26 26 (pcs u.val v.val false) _ _ rfl (by kernel_rfl) (by kernel_rfl) Try.underlying26 rfl (by kernel_rfl) _ (by kernel_rfl) (Nat.le_of_ble_eq_true (by kernel_rfl))) ?_
  refine Sy.stepD 1 rfl (by kernel_rfl) (fun _ _ _ _ h => h) (by kernel_rfl) (pv 0 0 true) (Quiet.call 31 #[] (fun _ => by kernel_rfl) (zero_c)) ?_
  refine Sy.stepD 2 rfl (by kernel_rfl) (fun _ _ _ _ h => h) (by kernel_rfl) (.bool false) (Quiet.pure (fun w => eql_pt_ne w _ _ _ _ _ _ _ _ _ _ rfl rfl rfl (by first | assumption | exact lt4 _ | decide +kernel) (by first | assumption | exact lt4 _ | decide +kernel) (by first | assumption | exact lt4 _ | decide +kernel) (by first | assumption | exact lt4 _ | decide +kernel) (by decide))) ?_
  refine Sy.stepD 3 rfl (by kernel_rfl) (fun _ _ _ _ h => h) (by kernel_rfl) (.bool false) (Quiet.pure (fun _ => by kernel_rfl)) ?_
  refine Sy.doneD (by kernel_rfl) ?_
  refine Sy.then_ ?_
  refine Sy.cond_f (by kernel_rfl) (by kernel_rfl) ?_
  refine Sy.seq ?_
  refine Sy.regionD (fun j => false) (by kernel_rfl) ?_
  refine Sy.stepD 0 rfl (by kernel_rfl) (fun _ _ _ _ h => h) (by kernel_rfl) (pv 0 0 true) (Quiet.load 1 g1 0 9 26 26 (pcs 0 0 true) _ _ rfl (by kernel_rfl) (by kernel_rfl) Try.underlying26 rfl (by kernel_rfl) _ (by kernel_rfl) (Nat.le_of_ble_eq_true (by kernel_rfl))) ?_
  refine Sy.stepD 1 rfl (by kernel_rfl) (fun _ _ _ _ h => h) (by kernel_rfl) (pv 0 0 true) (Quiet.call 31 #[] (fun _ => by kernel_rfl) (zero_c)) ?_
  refine Sy.stepD 2 rfl (by kernel_rfl) (fun _ _ _ _ h => h) (by kernel_rfl) (.bool true) (Quiet.pure (fun w => eql_pt w _ _ _ _ 0 0 true 0 0 true rfl rfl rfl (by decide) (by decide) (by decide) (by decide))) ?_
  refine Sy.stepD 3 rfl (by kernel_rfl) (fun _ _ _ _ h => h) (by kernel_rfl) (.bool true) (Quiet.pure (fun _ => by kernel_rfl)) ?_
  refine Sy.doneD (by kernel_rfl) ?_
  refine Sy.then_ ?_
  refine Sy.cond_t (by kernel_rfl) (by kernel_rfl) ?_
  refine Sy.seq ?_
  refine Sy.region ?_
  refine Sy.step (by kernel_rfl) (pv u.val v.val false) (Quiet.load 0 g0 0 9 26 26 (pcs u.val v.val false) _ _ rfl (by kernel_rfl) (by kernel_rfl) Try.underlying26 rfl (by kernel_rfl) _ (by kernel_rfl) (Nat.le_of_ble_eq_true (by kernel_rfl))) ?_
  refine Sy.write (by kernel_rfl) 2 g2 26 (pcs 0 0 false) (pcs u.val v.val false) (by kernel_rfl) (Writes.store 0 26 (pcs u.val v.val false) _ _ rfl (by kernel_rfl) (by kernel_rfl) (by kernel_rfl) (Nat.le_of_ble_eq_true (by kernel_rfl)) (by kernel_rfl) (by kernel_rfl)) ?_
  refine Sy.nil ?_
  refine Sy.then_ ?_
  refine Sy.ret ?_
  refine Sy.in_ret ?_
  refine Sy.then_ret ?_
  rw [show (ptv (some (u, v)) : Value) = pv u.val v.val false from rfl]
  exact Sy.ret1 (v := pv u.val v.val false) rfl (.inl (Res.cell (ty' := 26) g2 2 (pcs u.val v.val false) _ (by kernel_rfl) (by kernel_rfl) Try.underlying26 rfl (by kernel_rfl) (by kernel_rfl)))
set_option maxHeartbeats 4000000 in
set_option maxRecDepth 100000 in
theorem add_ss (w : World) (x y : Nat) (i : Bool) (x2 y2 : Nat) (i2 : Bool) (hx : x < K4) (hy : y < K4) (hx2 : x2 < K4) (hy2 : y2 < K4) (u v c d : Fp) (h : dec x y i = some (u, v)) (k : dec x2 y2 i2 = some (c, d)) (ho : v * v = u * u * u + 7) (hk : d * d = c * c * c + 7) : Calls Try.prog 17 #[pv x y i, pv x2 y2 i2] w (Gets w (ptv (Ec.add finv (some (u, v)) (some (c, d))))) := by
  refine Sy.enter (args := [pv x y i, pv x2 y2 i2]) Try.func17 rfl (Nat.le_of_ble_eq_true (by kernel_rfl)) ?_
  refine Sy.seq ?_
  refine Sy.region ?_
  refine Sy.make (by kernel_rfl) 26 (pcs x y i) ptr (fun _ => by kernel_rfl) (fun g0 => ?_)
  refine Sy.make (by kernel_rfl) 26 (pcs x2 y2 i2) ptr (fun _ => by kernel_rfl) (fun g1 => ?_)
  refine Sy.make (by kernel_rfl) 26 (pcs 0 0 false) ptr (fun _ => by kernel_rfl) (fun g2 => ?_)
  refine Sy.nil ?_
  refine Sy.then_ ?_
  refine Sy.seq ?_
  refine Sy.regionD (fun j => j == 4 || j == 5) (by kernel_rfl) ?_
  refine Sy.stepD 0 rfl (by kernel_rfl) (fun _ _ _ _ h => h) (by kernel_rfl) (pv x y i) (Quiet.load 0 g0 0 9 26 26 (pcs x y i) _ _ rfl (by kernel_rfl) (by kernel_rfl) Try.underlying26 rfl (by kernel_rfl) _ (by kernel_rfl) (Nat.le_of_ble_eq_true (by kernel_rfl))) ?_
  refine Sy.stepD 1 rfl (by kernel_rfl) (fun _ _ _ _ h => h) (by kernel_rfl) (pv u.val v.val false) (Quiet.call 47 #[pv x y i] (fun _ => by kernel_rfl) (fun w => by have hrr := right_c w x y i (by first | assumption | exact lt4 _ | decide +kernel) (by first | assumption | exact lt4 _ | decide +kernel); rw [h] at hrr; exact hrr)) ?_
  refine Sy.stepDB 2 [3, 4, 5] rfl (by kernel_rfl) (fun _ _ _ _ h => h) (by kernel_rfl) (pv x2 y2 i2) (Quiet.load 1 g1 0 9 26 26 (pcs x2 y2 i2) _ _ rfl (by kernel_rfl) (by kernel_rfl) Try.underlying26 rfl (by kernel_rfl) _ (by kernel_rfl) (Nat.le_of_ble_eq_true (by kernel_rfl))) ?_
  refine Sy.stepD 3 rfl (by kernel_rfl) (fun _ _ _ _ h => h) (by kernel_rfl) (pv c.val d.val false) (Quiet.call 47 #[pv x2 y2 i2] (fun _ => by kernel_rfl) (fun w => by have hrr := right_c w x2 y2 i2 (by first | assumption | exact lt4 _ | decide +kernel) (by first | assumption | exact lt4 _ | decide +kernel); rw [k] at hrr; exact hrr)) ?_
  refine Sy.writeD 4 rfl (by kernel_rfl) (by rfl) (by kernel_rfl) 0 g0 26 (pcs x y i) (pcs u.val v.val false) (by kernel_rfl) (Writes.store 0 26 (pcs u.val v.val false) _ _ rfl (by kernel_rfl) (by kernel_rfl) (by kernel_rfl) (Nat.le_of_ble_eq_true (by kernel_rfl)) (by kernel_rfl) (by kernel_rfl)) ?_
  refine Sy.writeD 5 rfl (by kernel_rfl) (by rfl) (by kernel_rfl) 1 g1 26 (pcs x2 y2 i2) (pcs c.val d.val false) (by kernel_rfl) (Writes.store 0 26 (pcs c.val d.val false) _ _ rfl (by kernel_rfl) (by kernel_rfl) (by kernel_rfl) (Nat.le_of_ble_eq_true (by kernel_rfl)) (by kernel_rfl) (by kernel_rfl)) ?_
  refine Sy.doneD (by kernel_rfl) ?_
  refine Sy.then_ ?_
  refine Sy.seq ?_
  refine Sy.block ?_
  refine Sy.seq ?_
  refine Sy.regionD (fun j => false) (by kernel_rfl) ?_
  refine Sy.stepD 0 rfl (by kernel_rfl) (fun _ _ _ _ h => h) (by kernel_rfl) (pv u.val v.val false) (Quiet.load 0 g0 0 9 26 26 (pcs u.val v.val false) _ _ rfl (by kernel_rfl) (by kernel_rfl) Try.underlying26 rfl (by kernel_rfl) _ (by kernel_rfl) (Nat.le_of_ble_eq_true (by kernel_rfl))) ?_
  refine Sy.stepD 1 rfl (by kernel_rfl) (fun _ _ _ _ h => h) (by kernel_rfl) (pv 0 0 true) (Quiet.call 31 #[] (fun _ => by kernel_rfl) (zero_c)) ?_
  refine Sy.stepD 2 rfl (by kernel_rfl) (fun _ _ _ _ h => h) (by kernel_rfl) (.bool false) (Quiet.pure (fun w => eql_pt_ne w _ _ _ _ _ _ _ _ _ _ rfl rfl rfl (by first | assumption | exact lt4 _ | decide +kernel) (by first | assumption | exact lt4 _ | decide +kernel) (by first | assumption | exact lt4 _ | decide +kernel) (by first | assumption | exact lt4 _ | decide +kernel) (by decide))) ?_
  refine Sy.stepD 3 rfl (by kernel_rfl) (fun _ _ _ _ h => h) (by kernel_rfl) (.bool false) (Quiet.pure (fun _ => by kernel_rfl)) ?_
  refine Sy.doneD (by kernel_rfl) ?_
  refine Sy.then_ ?_
  refine Sy.cond_f (by kernel_rfl) (by kernel_rfl) ?_
  refine Sy.seq ?_
  refine Sy.regionD (fun j => false) (by kernel_rfl) ?_
  refine Sy.stepD 0 rfl (by kernel_rfl) (fun _ _ _ _ h => h) (by kernel_rfl) (pv c.val d.val false) (Quiet.load 1 g1 0 9 26 26 (pcs c.val d.val false) _ _ rfl (by kernel_rfl) (by kernel_rfl) Try.underlying26 rfl (by kernel_rfl) _ (by kernel_rfl) (Nat.le_of_ble_eq_true (by kernel_rfl))) ?_
  refine Sy.stepD 1 rfl (by kernel_rfl) (fun _ _ _ _ h => h) (by kernel_rfl) (pv 0 0 true) (Quiet.call 31 #[] (fun _ => by kernel_rfl) (zero_c)) ?_
  refine Sy.stepD 2 rfl (by kernel_rfl) (fun _ _ _ _ h => h) (by kernel_rfl) (.bool false) (Quiet.pure (fun w => eql_pt_ne w _ _ _ _ _ _ _ _ _ _ rfl rfl rfl (by first | assumption | exact lt4 _ | decide +kernel) (by first | assumption | exact lt4 _ | decide +kernel) (by first | assumption | exact lt4 _ | decide +kernel) (by first | assumption | exact lt4 _ | decide +kernel) (by decide))) ?_
  refine Sy.stepD 3 rfl (by kernel_rfl) (fun _ _ _ _ h => h) (by kernel_rfl) (.bool false) (Quiet.pure (fun _ => by kernel_rfl)) ?_
  refine Sy.doneD (by kernel_rfl) ?_
  refine Sy.then_ ?_
  refine Sy.cond_f (by kernel_rfl) (by kernel_rfl) ?_
  refine Sy.seq ?_
  refine Sy.regionD (fun j => false) (by kernel_rfl) ?_
  refine Sy.stepD 0 rfl (by kernel_rfl) (fun _ _ _ _ h => h) (by kernel_rfl) (pv u.val v.val false) (Quiet.load 0 g0 0 9 26 26 (pcs u.val v.val false) _ _ rfl (by kernel_rfl) (by kernel_rfl) Try.underlying26 rfl (by kernel_rfl) _ (by kernel_rfl) (Nat.le_of_ble_eq_true (by kernel_rfl))) ?_
  refine Sy.stepD 1 rfl (by kernel_rfl) (fun _ _ _ _ h => h) (by kernel_rfl) (pv c.val d.val false) (Quiet.load 1 g1 0 9 26 26 (pcs c.val d.val false) _ _ rfl (by kernel_rfl) (by kernel_rfl) Try.underlying26 rfl (by kernel_rfl) _ (by kernel_rfl) (Nat.le_of_ble_eq_true (by kernel_rfl))) ?_
  obtain ⟨z1, hz1⟩ : ∃ z : Fp, z = -d := ⟨_, rfl⟩
  refine Sy.stepD 2 rfl (by kernel_rfl) (fun _ _ _ _ h => h) (by kernel_rfl) (pv c.val z1.val false) (Quiet.call 15 #[pv c.val d.val false] (fun _ => by kernel_rfl) (fun w => by rw [hz1]; exact neg_pt w c d (by assumption))) ?_
  obtain ⟨b1, hb1⟩ : ∃ z : Bool, z = sameB u.val v.val false c.val z1.val false := ⟨_, rfl⟩
  refine Sy.stepD 3 rfl (by kernel_rfl) (fun _ _ _ _ h => h) (by kernel_rfl) (.bool b1) (Quiet.pure (fun w => by rw [hb1]; exact eql_pt w _ _ _ _ _ _ _ _ _ _ rfl rfl rfl (by first | assumption | exact lt4 _ | decide +kernel) (by first | assumption | exact lt4 _ | decide +kernel) (by first | assumption | exact lt4 _ | decide +kernel) (by first | assumption | exact lt4 _ | decide +kernel))) ?_
  refine Sy.stepD 4 rfl (by kernel_rfl) (fun _ _ _ _ h => h) (by kernel_rfl) (.bool b1) (Quiet.pure (fun _ => by kernel_rfl)) ?_
  refine Sy.doneD (by kernel_rfl) ?_
  refine Sy.then_ ?_
  cases b1
  · have ha : ¬ (u = c ∧ v + d = 0) := by
      rintro ⟨e1, e2⟩
      have e := sameB_fin u v c z1
      rw [← hb1] at e
      refine of_decide_eq_false e.symm ⟨e1, ?_⟩
      rw [hz1]
      clear e ho hk hz1 h k
      grobner
    have hs : u = c → v = d := fun e => Classical.byContradiction fun e2 => Ec.off fld ho hk (fun t => e2 t.2) ha e
    refine Sy.cond_f (by kernel_rfl) (by kernel_rfl) ?_
    refine Sy.skip ?_
    refine Sy.in_ ?_
    refine Sy.then_ ?_
    refine Sy.seq ?_
    refine Sy.region ?_
    refine Sy.step (by kernel_rfl) (pv u.val v.val false) (Quiet.load 0 g0 0 9 26 26 (pcs u.val v.val false) _ _ rfl (by kernel_rfl) (by kernel_rfl) Try.underlying26 rfl (by kernel_rfl) _ (by kernel_rfl) (Nat.le_of_ble_eq_true (by kernel_rfl))) ?_
    refine Sy.step (by kernel_rfl) (pv c.val d.val false) (Quiet.load 1 g1 0 9 26 26 (pcs c.val d.val false) _ _ rfl (by kernel_rfl) (by kernel_rfl) Try.underlying26 rfl (by kernel_rfl) _ (by kernel_rfl) (Nat.le_of_ble_eq_true (by kernel_rfl))) ?_
    obtain ⟨z2, hz2⟩ : ∃ z : Fp, z = Ec.slp finv u v c d := ⟨_, rfl⟩
    refine Sy.step (by kernel_rfl) (fv z2.val) (Quiet.call 51 #[pv u.val v.val false, pv c.val d.val false] (fun _ => by kernel_rfl) (by rw [hz2]; exact fun w => slope_c w u v c d (by assumption))) ?_
    refine Sy.make (by kernel_rfl) 24 (fcs 0) ptr (fun _ => by kernel_rfl) (fun g3 => ?_)
    refine Sy.write (by kernel_rfl) 3 g3 24 (fcs 0) (fcs z2.val) (by kernel_rfl) (Writes.store 0 24 (fcs z2.val) _ _ rfl (by kernel_rfl) (by kernel_rfl) (by kernel_rfl) (Nat.le_of_ble_eq_true (by kernel_rfl)) (by kernel_rfl) (by kernel_rfl)) ?_
    refine Sy.nil ?_
    refine Sy.then_ ?_
    refine Sy.seq ?_
    refine Sy.regionD (fun j => j == 10) (by kernel_rfl) ?_
    refine Sy.stepD 0 rfl (by kernel_rfl) (fun _ _ _ _ h => h) (by kernel_rfl) (fv z2.val) (Quiet.load 3 g3 0 4 24 24 (fcs z2.val) _ _ rfl (by kernel_rfl) (by kernel_rfl) Try.underlying24 rfl (by kernel_rfl) _ (by kernel_rfl) (Nat.le_of_ble_eq_true (by kernel_rfl))) ?_
    refine Sy.stepD 1 rfl (by kernel_rfl) (fun _ _ _ _ h => h) (by kernel_rfl) (fv z2.val) (Quiet.load 3 g3 0 4 24 24 (fcs z2.val) _ _ rfl (by kernel_rfl) (by kernel_rfl) Try.underlying24 rfl (by kernel_rfl) _ (by kernel_rfl) (Nat.le_of_ble_eq_true (by kernel_rfl))) ?_
    obtain ⟨z3, hz3⟩ : ∃ z : Fp, z = z2 * z2 := ⟨_, rfl⟩
    refine Sy.stepD 2 rfl (by kernel_rfl) (fun _ _ _ _ h => h) (by kernel_rfl) (fv z3.val) (Quiet.call 39 #[fv z2.val, fv z2.val] (fun _ => by kernel_rfl) (by rw [hz3]; exact mul_c z2 z2)) ?_
    refine Sy.stepD 3 rfl (by kernel_rfl) (fun _ _ _ _ h => h) (by kernel_rfl) (.pointer (some ⟨g0, 0, none⟩)) (Quiet.pure (fun _ => by kernel_rfl)) ?_
    refine Sy.stepD 4 rfl (by kernel_rfl) (fun _ _ _ _ h => h) (by kernel_rfl) (fv u.val) (Quiet.load 0 g0 0 4 26 24 (pcs u.val v.val false) _ _ rfl (by kernel_rfl) (by kernel_rfl) Try.underlying24 rfl (by kernel_rfl) _ (by kernel_rfl) (Nat.le_of_ble_eq_true (by kernel_rfl))) ?_
    obtain ⟨z4, hz4⟩ : ∃ z : Fp, z = z3 - u := ⟨_, rfl⟩
    refine Sy.stepD 5 rfl (by kernel_rfl) (fun _ _ _ _ h => h) (by kernel_rfl) (fv z4.val) (Quiet.call 52 #[fv z3.val, fv u.val] (fun _ => by kernel_rfl) (by rw [hz4]; exact sub_c z3 u)) ?_
    refine Sy.stepD 6 rfl (by kernel_rfl) (fun _ _ _ _ h => h) (by kernel_rfl) (.pointer (some ⟨g1, 0, none⟩)) (Quiet.pure (fun _ => by kernel_rfl)) ?_
    refine Sy.stepD 7 rfl (by kernel_rfl) (fun _ _ _ _ h => h) (by kernel_rfl) (fv c.val) (Quiet.load 1 g1 0 4 26 24 (pcs c.val d.val false) _ _ rfl (by kernel_rfl) (by kernel_rfl) Try.underlying24 rfl (by kernel_rfl) _ (by kernel_rfl) (Nat.le_of_ble_eq_true (by kernel_rfl))) ?_
    obtain ⟨z5, hz5⟩ : ∃ z : Fp, z = z4 - c := ⟨_, rfl⟩
    refine Sy.stepD 8 rfl (by kernel_rfl) (fun _ _ _ _ h => h) (by kernel_rfl) (fv z5.val) (Quiet.call 52 #[fv z4.val, fv c.val] (fun _ => by kernel_rfl) (by rw [hz5]; exact sub_c z4 c)) ?_
    refine Sy.makeD 9 rfl (by kernel_rfl) (by kernel_rfl) 24 (fcs 0) ptr (fun _ => by kernel_rfl) (fun g4 => ?_)
    refine Sy.writeD 10 rfl (by kernel_rfl) (by rfl) (by kernel_rfl) 4 g4 24 (fcs 0) (fcs z5.val) (by kernel_rfl) (Writes.store 0 24 (fcs z5.val) _ _ rfl (by kernel_rfl) (by kernel_rfl) (by kernel_rfl) (Nat.le_of_ble_eq_true (by kernel_rfl)) (by kernel_rfl) (by kernel_rfl)) ?_
    refine Sy.doneD (by kernel_rfl) ?_
    refine Sy.then_ ?_
    refine Sy.seq ?_
    refine Sy.regionD (fun j => j == 10) (by kernel_rfl) ?_
    refine Sy.stepD 0 rfl (by kernel_rfl) (fun _ _ _ _ h => h) (by kernel_rfl) (fv z2.val) (Quiet.load 3 g3 0 4 24 24 (fcs z2.val) _ _ rfl (by kernel_rfl) (by kernel_rfl) Try.underlying24 rfl (by kernel_rfl) _ (by kernel_rfl) (Nat.le_of_ble_eq_true (by kernel_rfl))) ?_
    refine Sy.stepD 1 rfl (by kernel_rfl) (fun _ _ _ _ h => h) (by kernel_rfl) (.pointer (some ⟨g0, 0, none⟩)) (Quiet.pure (fun _ => by kernel_rfl)) ?_
    refine Sy.stepD 2 rfl (by kernel_rfl) (fun _ _ _ _ h => h) (by kernel_rfl) (fv u.val) (Quiet.load 0 g0 0 4 26 24 (pcs u.val v.val false) _ _ rfl (by kernel_rfl) (by kernel_rfl) Try.underlying24 rfl (by kernel_rfl) _ (by kernel_rfl) (Nat.le_of_ble_eq_true (by kernel_rfl))) ?_
    refine Sy.stepD 3 rfl (by kernel_rfl) (fun _ _ _ _ h => h) (by kernel_rfl) (fv z5.val) (Quiet.load 4 g4 0 4 24 24 (fcs z5.val) _ _ rfl (by kernel_rfl) (by kernel_rfl) Try.underlying24 rfl (by kernel_rfl) _ (by kernel_rfl) (Nat.le_of_ble_eq_true (by kernel_rfl))) ?_
    obtain ⟨z6, hz6⟩ : ∃ z : Fp, z = u - z5 := ⟨_, rfl⟩
    refine Sy.stepD 4 rfl (by kernel_rfl) (fun _ _ _ _ h => h) (by kernel_rfl) (fv z6.val) (Quiet.call 52 #[fv u.val, fv z5.val] (fun _ => by kernel_rfl) (by rw [hz6]; exact sub_c u z5)) ?_
    obtain ⟨z7, hz7⟩ : ∃ z : Fp, z = z2 * z6 := ⟨_, rfl⟩
    refine Sy.stepD 5 rfl (by kernel_rfl) (fun _ _ _ _ h => h) (by kernel_rfl) (fv z7.val) (Quiet.call 39 #[fv z2.val, fv z6.val] (fun _ => by kernel_rfl) (by rw [hz7]; exact mul_c z2 z6)) ?_
    refine Sy.stepD 6 rfl (by kernel_rfl) (fun _ _ _ _ h => h) (by kernel_rfl) (.pointer (some ⟨g0, 4, none⟩)) (Quiet.pure (fun _ => by kernel_rfl)) ?_
    refine Sy.stepD 7 rfl (by kernel_rfl) (fun _ _ _ _ h => h) (by kernel_rfl) (fv v.val) (Quiet.load 0 g0 4 4 26 24 (pcs u.val v.val false) _ _ rfl (by kernel_rfl) (by kernel_rfl) Try.underlying24 rfl (by kernel_rfl) _ (by kernel_rfl) (Nat.le_of_ble_eq_true (by kernel_rfl))) ?_
    obtain ⟨z8, hz8⟩ : ∃ z : Fp, z = z7 - v := ⟨_, rfl⟩
    refine Sy.stepD 8 rfl (by kernel_rfl) (fun _ _ _ _ h => h) (by kernel_rfl) (fv z8.val) (Quiet.call 52 #[fv z7.val, fv v.val] (fun _ => by kernel_rfl) (by rw [hz8]; exact sub_c z7 v)) ?_
    refine Sy.makeD 9 rfl (by kernel_rfl) (by kernel_rfl) 24 (fcs 0) ptr (fun _ => by kernel_rfl) (fun g5 => ?_)
    refine Sy.writeD 10 rfl (by kernel_rfl) (by rfl) (by kernel_rfl) 5 g5 24 (fcs 0) (fcs z8.val) (by kernel_rfl) (Writes.store 0 24 (fcs z8.val) _ _ rfl (by kernel_rfl) (by kernel_rfl) (by kernel_rfl) (Nat.le_of_ble_eq_true (by kernel_rfl)) (by kernel_rfl) (by kernel_rfl)) ?_
    refine Sy.doneD (by kernel_rfl) ?_
    refine Sy.then_ ?_
    refine Sy.seq ?_
    refine Sy.region ?_
    refine Sy.step (by kernel_rfl) (fv z5.val) (Quiet.load 4 g4 0 4 24 24 (fcs z5.val) _ _ rfl (by kernel_rfl) (by kernel_rfl) Try.underlying24 rfl (by kernel_rfl) _ (by kernel_rfl) (Nat.le_of_ble_eq_true (by kernel_rfl))) ?_
    refine Sy.step (by kernel_rfl) (fv z8.val) (Quiet.load 5 g5 0 4 24 24 (fcs z8.val) _ _ rfl (by kernel_rfl) (by kernel_rfl) Try.underlying24 rfl (by kernel_rfl) _ (by kernel_rfl) (Nat.le_of_ble_eq_true (by kernel_rfl))) ?_
    refine Sy.step (by kernel_rfl) (pv z5.val z8.val false) (Quiet.pure (fun _ => by kernel_rfl)) ?_
    refine Sy.write (by kernel_rfl) 2 g2 26 (pcs 0 0 false) (pcs z5.val z8.val false) (by kernel_rfl) (Writes.store 0 26 (pcs z5.val z8.val false) _ _ rfl (by kernel_rfl) (by kernel_rfl) (by kernel_rfl) (Nat.le_of_ble_eq_true (by kernel_rfl)) (by kernel_rfl) (by kernel_rfl)) ?_
    refine Sy.nil ?_
    refine Sy.then_ ?_
    refine Sy.ret ?_
    rw [show (ptv (Ec.add finv (some (u, v)) (some (c, d))) : Value) = pv z5.val z8.val false from by simp only [Ec.add]; rw [if_neg ha, ← hz2]; unfold Ec.y3 Ec.x3 ptv; rw [hz8, hz7, hz6, hz5, hz4, hz3]]
    exact Sy.ret1 (v := pv z5.val z8.val false) rfl (.inl (Res.cell (ty' := 26) g2 2 (pcs z5.val z8.val false) _ (by kernel_rfl) (by kernel_rfl) Try.underlying26 rfl (by kernel_rfl) (by kernel_rfl)))
  · have ha : u = c ∧ v + d = 0 := by
      have e := sameB_fin u v c z1
      rw [← hb1] at e
      have e := of_decide_eq_true e.symm
      refine ⟨e.1, ?_⟩
      rw [e.2, hz1]
      clear e ho hk hz1 h k
      grobner
    refine Sy.cond_t (by kernel_rfl) (by kernel_rfl) ?_
    refine Sy.seq ?_
    refine Sy.region ?_
    refine Sy.step (by kernel_rfl) (pv 0 0 true) (Quiet.call 31 #[] (fun _ => by kernel_rfl) (zero_c)) ?_
    refine Sy.write (by kernel_rfl) 2 g2 26 (pcs 0 0 false) (pcs 0 0 true) (by kernel_rfl) (Writes.store 0 26 (pcs 0 0 true) _ _ rfl (by kernel_rfl) (by kernel_rfl) (by kernel_rfl) (Nat.le_of_ble_eq_true (by kernel_rfl)) (by kernel_rfl) (by kernel_rfl)) ?_
    refine Sy.nil ?_
    refine Sy.then_ ?_
    refine Sy.ret ?_
    refine Sy.in_ret ?_
    refine Sy.then_ret ?_
    rw [show (ptv (Ec.add finv (some (u, v)) (some (c, d))) : Value) = pv 0 0 true from by simp only [Ec.add]; rw [if_pos ha]; rfl]
    exact Sy.ret1 (v := pv 0 0 true) rfl (.inl (Res.cell (ty' := 26) g2 2 (pcs 0 0 true) _ (by kernel_rfl) (by kernel_rfl) Try.underlying26 rfl (by kernel_rfl) (by kernel_rfl)))
/-- every sum -/
theorem add_any (w : World) (x y : Nat) (i : Bool) (x2 y2 : Nat) (i2 : Bool) (hx : x < K4) (hy : y < K4) (hx2 : x2 < K4) (hy2 : y2 < K4) : Calls Try.prog 17 #[pv x y i, pv x2 y2 i2] w (Gets w (ptv (Ec.add finv (dec x y i) (dec x2 y2 i2)))) := by
  have o1 := dec_on x y i
  have o2 := dec_on x2 y2 i2
  rcases h : dec x y i with _ | ⟨u, v⟩ <;> rcases k : dec x2 y2 i2 with _ | ⟨c, d⟩
  · exact add_nn w x y i x2 y2 i2 hx hy hx2 hy2 h k
  · exact add_ns w x y i x2 y2 i2 hx hy hx2 hy2 c d h k
  · exact add_sn w x y i x2 y2 i2 hx hy hx2 hy2 u v h k
  · rw [h] at o1
    rw [k] at o2
    exact add_ss w x y i x2 y2 i2 hx hy hx2 hy2 u v c d h k o1 o2
end Go.Proofs.Ytlojidnlkflpnaa.Cu
