/-
  curve: the small ones.
-/
import Derived.Test.YtlojidnlkflpnaaPnt
namespace Go.Proofs.Ytlojidnlkflpnaa.Cu
open Go.RowKit Go.Proofs.Ytlojidnlkflpnaa Go.Proofs.Ytlojidnlkflpnaa.Sy

/-- two numbers compared by an operation -/
theorem eql_fe (w : World) (F : Slots) (o : Oper) (x y : Operand) (n m : Nat) {yt : TypeId} (ho : o.op = .binOp .eql 24 x y yt) (hx : evF F x = fv n) (hy : evF F y = fv m) (hn : n < K4) (hm : m < K4) : (execOp (evF F) o).run Try.prog w = .ok (.value (.bool (decide (n = m)))) w := by
  have h1 := run_eqGuard_fv .eql x y n m w
  have h2 := run_eql_fv w n m hn hm
  unfold execOp
  simp only [ho, hx, hy, Sem.run_bind, h1, h2, Result.andThen_ok, Sem.run_pure]
theorem eql_pt (w : World) (F : Slots) (o : Oper) (x y : Operand) (a b : Nat) (i : Bool) (c d : Nat) (j : Bool) {yt : TypeId} (ho : o.op = .binOp .eql 26 x y yt) (hx : evF F x = pv a b i) (hy : evF F y = pv c d j) (ha : a < K4) (hb : b < K4) (hc : c < K4) (hd : d < K4) : (execOp (evF F) o).run Try.prog w = .ok (.value (.bool (sameB a b i c d j))) w := by
  have h1 := run_eqGuard_pv .eql x y a b i c d j w
  have h2 := run_eql_pv w a b i c d j ha hb hc hd
  unfold execOp
  simp only [ho, hx, hy, Sem.run_bind, h1, h2, Result.andThen_ok, Sem.run_pure]
set_option maxHeartbeats 4000000 in
set_option maxRecDepth 100000 in
theorem zero_c (w : World)  : Calls Try.prog 31 #[] w (Gets w (pv 0 0 true)) := by
  refine Sy.enter (args := []) Try.func31 rfl (Nat.le_of_ble_eq_true (by kernel_rfl)) ?_
  refine Sy.seq ?_
  refine Sy.region ?_
  refine Sy.make (by kernel_rfl) 26 (pcs 0 0 false) ptr (fun _ => by kernel_rfl) (fun g0 => ?_)
  refine Sy.nil ?_
  refine Sy.then_ ?_
  refine Sy.seq ?_
  refine Sy.region ?_
  refine Sy.step (by kernel_rfl) (pv 0 0 true) (Quiet.pure (fun _ => by kernel_rfl)) ?_
  refine Sy.write (by kernel_rfl) 0 g0 26 (pcs 0 0 false) (pcs 0 0 true) (by kernel_rfl) (Writes.store 0 26 (pcs 0 0 true) _ _ rfl (by kernel_rfl) (by kernel_rfl) (by kernel_rfl) (Nat.le_of_ble_eq_true (by kernel_rfl)) (by kernel_rfl) (by kernel_rfl)) ?_
  refine Sy.nil ?_
  refine Sy.then_ ?_
  refine Sy.ret ?_
  exact Sy.ret1 (v := pv 0 0 true) rfl (.inl (Res.cell (ty' := 26) g0 0 (pcs 0 0 true) _ (by kernel_rfl) (by kernel_rfl) Try.underlying26 rfl (by kernel_rfl) (by kernel_rfl)))
def gx : Fp := ⟨55066263022277343669578718895168534326250603453777594175500187360389116729240, by decide +kernel⟩
def gy : Fp := ⟨32670510020758816978083085130507043184471273380659243275938904335757337482424, by decide +kernel⟩
def bP : Pt := some (gx, gy)
theorem bP_on : Ec.On bP := by
  show gy * gy = gx * gx * gx + 7
  decide +kernel
set_option maxHeartbeats 4000000 in
set_option maxRecDepth 100000 in
theorem base_c (w : World)  : Calls Try.prog 36 #[] w (Gets w (ptv bP)) := by
  refine Sy.enter (args := []) Try.func36 rfl (Nat.le_of_ble_eq_true (by kernel_rfl)) ?_
  refine Sy.seq ?_
  refine Sy.region ?_
  refine Sy.make (by kernel_rfl) 26 (pcs 0 0 false) ptr (fun _ => by kernel_rfl) (fun g0 => ?_)
  refine Sy.nil ?_
  refine Sy.then_ ?_
  refine Sy.seq ?_
  refine Sy.region ?_
  refine Sy.step (by kernel_rfl) (fv 55066263022277343669578718895168534326250603453777594175500187360389116729240) (Quiet.pure (fun _ => by kernel_rfl)) ?_
  refine Sy.step (by kernel_rfl) (fv 32670510020758816978083085130507043184471273380659243275938904335757337482424) (Quiet.pure (fun _ => by kernel_rfl)) ?_
  refine Sy.step (by kernel_rfl) (pv 55066263022277343669578718895168534326250603453777594175500187360389116729240 32670510020758816978083085130507043184471273380659243275938904335757337482424 false) (Quiet.pure (fun _ => by kernel_rfl)) ?_
  refine Sy.write (by kernel_rfl) 0 g0 26 (pcs 0 0 false) (pcs 55066263022277343669578718895168534326250603453777594175500187360389116729240 32670510020758816978083085130507043184471273380659243275938904335757337482424 false) (by kernel_rfl) (Writes.store 0 26 (pcs 55066263022277343669578718895168534326250603453777594175500187360389116729240 32670510020758816978083085130507043184471273380659243275938904335757337482424 false) _ _ rfl (by kernel_rfl) (by kernel_rfl) (by kernel_rfl) (Nat.le_of_ble_eq_true (by kernel_rfl)) (by kernel_rfl) (by kernel_rfl)) ?_
  refine Sy.nil ?_
  refine Sy.then_ ?_
  refine Sy.ret ?_
  rw [show (ptv bP : Value) = pv 55066263022277343669578718895168534326250603453777594175500187360389116729240 32670510020758816978083085130507043184471273380659243275938904335757337482424 false from by kernel_rfl]
  exact Sy.ret1 (v := pv 55066263022277343669578718895168534326250603453777594175500187360389116729240 32670510020758816978083085130507043184471273380659243275938904335757337482424 false) rfl (.inl (Res.cell (ty' := 26) g0 0 (pcs 55066263022277343669578718895168534326250603453777594175500187360389116729240 32670510020758816978083085130507043184471273380659243275938904335757337482424 false) _ (by kernel_rfl) (by kernel_rfl) Try.underlying26 rfl (by kernel_rfl) (by kernel_rfl)))
set_option maxHeartbeats 4000000 in
set_option maxRecDepth 100000 in
theorem square_c (w : World) (x : Fp) : Calls Try.prog 40 #[fv x.val] w (Gets w (fv (x * x * x + 7).val)) := by
  refine Sy.enter (args := [fv x.val]) Try.func40 rfl (Nat.le_of_ble_eq_true (by kernel_rfl)) ?_
  refine Sy.seq ?_
  refine Sy.region ?_
  refine Sy.make (by kernel_rfl) 24 (fcs x.val) ptr (fun _ => by kernel_rfl) (fun g0 => ?_)
  refine Sy.make (by kernel_rfl) 24 (fcs 0) ptr (fun _ => by kernel_rfl) (fun g1 => ?_)
  refine Sy.nil ?_
  refine Sy.then_ ?_
  refine Sy.seq ?_
  refine Sy.regionD (fun j => j == 7) (by kernel_rfl) ?_
  refine Sy.stepD 0 rfl (by kernel_rfl) (fun _ _ _ _ h => h) (by kernel_rfl) (fv x.val) (Quiet.load 0 g0 0 4 24 24 (fcs x.val) _ _ rfl (by kernel_rfl) (by kernel_rfl) Try.underlying24 rfl (by kernel_rfl) _ (by kernel_rfl) (Nat.le_of_ble_eq_true (by kernel_rfl))) ?_
  refine Sy.stepD 1 rfl (by kernel_rfl) (fun _ _ _ _ h => h) (by kernel_rfl) (fv x.val) (Quiet.load 0 g0 0 4 24 24 (fcs x.val) _ _ rfl (by kernel_rfl) (by kernel_rfl) Try.underlying24 rfl (by kernel_rfl) _ (by kernel_rfl) (Nat.le_of_ble_eq_true (by kernel_rfl))) ?_
  obtain ⟨z1, hz1⟩ : ∃ z : Fp, z = x * x := ⟨_, rfl⟩
  refine Sy.stepD 2 rfl (by kernel_rfl) (fun _ _ _ _ h => h) (by kernel_rfl) (fv z1.val) (Quiet.call 39 #[fv x.val, fv x.val] (fun _ => by kernel_rfl) (by rw [hz1]; exact mul_c x x)) ?_
  refine Sy.stepD 3 rfl (by kernel_rfl) (fun _ _ _ _ h => h) (by kernel_rfl) (fv x.val) (Quiet.load 0 g0 0 4 24 24 (fcs x.val) _ _ rfl (by kernel_rfl) (by kernel_rfl) Try.underlying24 rfl (by kernel_rfl) _ (by kernel_rfl) (Nat.le_of_ble_eq_true (by kernel_rfl))) ?_
  obtain ⟨z2, hz2⟩ : ∃ z : Fp, z = z1 * x := ⟨_, rfl⟩
  refine Sy.stepD 4 rfl (by kernel_rfl) (fun _ _ _ _ h => h) (by kernel_rfl) (fv z2.val) (Quiet.call 39 #[fv z1.val, fv x.val] (fun _ => by kernel_rfl) (by rw [hz2]; exact mul_c z1 x)) ?_
  obtain ⟨z3, hz3⟩ : ∃ z : Fp, z = (nat 7 (by decide +kernel) : Fp) := ⟨_, rfl⟩
  refine Sy.stepD 5 rfl (by kernel_rfl) (fun _ _ _ _ h => h) (by kernel_rfl) (fv z3.val) (Quiet.call 84 #[.int .u64 7] (fun _ => by kernel_rfl) (by rw [hz3]; exact of_c 7 (by decide +kernel) (by decide))) ?_
  obtain ⟨z4, hz4⟩ : ∃ z : Fp, z = z2 + z3 := ⟨_, rfl⟩
  refine Sy.stepD 6 rfl (by kernel_rfl) (fun _ _ _ _ h => h) (by kernel_rfl) (fv z4.val) (Quiet.call 83 #[fv z2.val, fv z3.val] (fun _ => by kernel_rfl) (by rw [hz4]; exact add_c z2 z3)) ?_
  refine Sy.writeD 7 rfl (by kernel_rfl) (by rfl) (by kernel_rfl) 1 g1 24 (fcs 0) (fcs z4.val) (by kernel_rfl) (Writes.store 0 24 (fcs z4.val) _ _ rfl (by kernel_rfl) (by kernel_rfl) (by kernel_rfl) (Nat.le_of_ble_eq_true (by kernel_rfl)) (by kernel_rfl) (by kernel_rfl)) ?_
  refine Sy.doneD (by kernel_rfl) ?_
  refine Sy.then_ ?_
  refine Sy.ret ?_
  rw [show (fv (x * x * x + 7).val : Value) = fv z4.val from by rw [hz4, hz3, hz2, hz1]; rfl]
  exact Sy.ret1 (v := fv z4.val) rfl (.inl (Res.cell (ty' := 24) g1 1 (fcs z4.val) _ (by kernel_rfl) (by kernel_rfl) Try.underlying24 rfl (by kernel_rfl) (by kernel_rfl)))
theorem rightB_inf (x y : Nat) : sameB x y true 0 0 true = rightB x y true := by
  unfold sameB rightB
  simp
theorem fp_of {x z : Nat} (h1 : z = x % pM) (h2 : true = decide (z = x)) : ∃ u : Fp, x = u.val := by
  have h3 : z = x := of_decide_eq_true h2.symm
  exact ⟨⟨x, by rw [← h3, h1]; exact mod_lt_p x⟩, rfl⟩
theorem not_fp {x z : Nat} (h1 : z = x % pM) (h2 : false = decide (z = x)) : ¬ x < pM := fun h => by
  rw [h1, Nat.mod_eq_of_lt h] at h2
  simp at h2
theorem rb_x {x : Nat} (h : ¬ x < pM) (y : Nat) : rightB x y false = false := by unfold rightB; simp [h]
theorem rb_y {y : Nat} (h : ¬ y < pM) (x : Nat) : rightB x y false = false := by unfold rightB; simp [h]
theorem rb_xy (x y : Fp) : rightB x.val y.val false = decide ((y * y).val = (x * x * x + 7).val) := by
  unfold rightB
  simp only [Bool.false_eq_true, if_false, x.isLt, y.isLt, decide_true, Bool.true_and]
  rfl
set_option maxHeartbeats 4000000 in
set_option maxRecDepth 100000 in
theorem right_b (w : World) (x y : Nat) (i : Bool) (hx : x < K4) (hy : y < K4) : Calls Try.prog 13 #[pv x y i] w (Gets w (.bool (rightB x y i))) := by
  refine Sy.enter (args := [pv x y i]) Try.func13 rfl (Nat.le_of_ble_eq_true (by kernel_rfl)) ?_
  refine Sy.seq ?_
  refine Sy.region ?_
  refine Sy.make (by kernel_rfl) 26 (pcs x y i) ptr (fun _ => by kernel_rfl) (fun g0 => ?_)
  refine Sy.step (by kernel_rfl) (.bool false) (Quiet.pure (fun _ => by kernel_rfl)) ?_
  refine Sy.nil ?_
  refine Sy.then_ ?_
  refine Sy.seq ?_
  refine Sy.seq ?_
  refine Sy.region ?_
  refine Sy.step (by kernel_rfl) (.pointer (some ⟨g0, 8, none⟩)) (Quiet.pure (fun _ => by kernel_rfl)) ?_
  refine Sy.step (by kernel_rfl) (.bool i) (Quiet.cell 0 g0 8 26 4 (pcs x y i) _ _ rfl (by kernel_rfl) (by kernel_rfl) Try.underlying4 rfl _ (by kernel_rfl)) ?_
  refine Sy.nil ?_
  refine Sy.then_ ?_
  cases i
  · refine Sy.cond_f (by kernel_rfl) (by kernel_rfl) ?_
    refine Sy.skip ?_
    refine Sy.then_ ?_
    refine Sy.seq ?_
    refine Sy.regionD (fun j => false) (by kernel_rfl) ?_
    refine Sy.stepD 0 rfl (by kernel_rfl) (fun _ _ _ _ h => h) (by kernel_rfl) (.pointer (some ⟨g0, 0, none⟩)) (Quiet.pure (fun _ => by kernel_rfl)) ?_
    refine Sy.stepD 1 rfl (by kernel_rfl) (fun _ _ _ _ h => h) (by kernel_rfl) (fv x) (Quiet.load 0 g0 0 4 26 24 (pcs x y false) _ _ rfl (by kernel_rfl) (by kernel_rfl) Try.underlying24 rfl (by kernel_rfl) _ (by kernel_rfl) (Nat.le_of_ble_eq_true (by kernel_rfl))) ?_
    obtain ⟨z1, hz1⟩ : ∃ z : Nat, z = x % pM := ⟨_, rfl⟩
    have lz1 : z1 < K4 := by rw [hz1]; exact mod_lt x
    refine Sy.stepD 2 rfl (by kernel_rfl) (fun _ _ _ _ h => h) (by kernel_rfl) (fv z1) (Quiet.call 38 #[fv x] (fun _ => by kernel_rfl) (fun w => by rw [hz1]; exact norm_any w x (by first | assumption | exact lt4 _))) ?_
    refine Sy.stepD 3 rfl (by kernel_rfl) (fun _ _ _ _ h => h) (by kernel_rfl) (.pointer (some ⟨g0, 0, none⟩)) (Quiet.pure (fun _ => by kernel_rfl)) ?_
    refine Sy.stepD 4 rfl (by kernel_rfl) (fun _ _ _ _ h => h) (by kernel_rfl) (fv x) (Quiet.load 0 g0 0 4 26 24 (pcs x y false) _ _ rfl (by kernel_rfl) (by kernel_rfl) Try.underlying24 rfl (by kernel_rfl) _ (by kernel_rfl) (Nat.le_of_ble_eq_true (by kernel_rfl))) ?_
    obtain ⟨b1, hb1⟩ : ∃ z : Bool, z = decide (z1 = x) := ⟨_, rfl⟩
    refine Sy.stepD 5 rfl (by kernel_rfl) (fun _ _ _ _ h => h) (by kernel_rfl) (.bool b1) (Quiet.pure (fun w => by rw [hb1]; exact eql_fe w _ _ _ _ _ _ rfl rfl rfl (by first | assumption | exact lt4 _ | decide +kernel) (by first | assumption | exact lt4 _ | decide +kernel))) ?_
    refine Sy.stepD 6 rfl (by kernel_rfl) (fun _ _ _ _ h => h) (by kernel_rfl) (.bool b1) (Quiet.pure (fun _ => by kernel_rfl)) ?_
    cases b1
    · refine Sy.passD 7 rfl (by kernel_rfl) (fun _ _ _ _ h => h) (by kernel_rfl) (by kernel_rfl) ?_
      refine Sy.passD 8 rfl (by kernel_rfl) (fun _ _ _ _ h => h) (by kernel_rfl) (by kernel_rfl) ?_
      refine Sy.passD 9 rfl (by kernel_rfl) (fun _ _ _ _ h => h) (by kernel_rfl) (by kernel_rfl) ?_
      refine Sy.passD 10 rfl (by kernel_rfl) (fun _ _ _ _ h => h) (by kernel_rfl) (by kernel_rfl) ?_
      refine Sy.passD 11 rfl (by kernel_rfl) (fun _ _ _ _ h => h) (by kernel_rfl) (by kernel_rfl) ?_
      refine Sy.passD 12 rfl (by kernel_rfl) (fun _ _ _ _ h => h) (by kernel_rfl) (by kernel_rfl) ?_
      refine Sy.stepD 13 rfl (by kernel_rfl) (fun _ _ _ _ h => h) (by kernel_rfl) (.bool false) (Quiet.pure (fun _ => by kernel_rfl)) ?_
      refine Sy.stepD 14 rfl (by kernel_rfl) (fun _ _ _ _ h => h) (by kernel_rfl) (.bool false) (Quiet.pure (fun _ => by kernel_rfl)) ?_
      refine Sy.doneD (by kernel_rfl) ?_
      refine Sy.then_ ?_
      refine Sy.seq ?_
      refine Sy.regionD (fun j => false) (by kernel_rfl) ?_
      refine Sy.stepD 0 rfl (by kernel_rfl) (fun _ _ _ _ h => h) (by kernel_rfl) (.bool false) (Quiet.pure (fun _ => by kernel_rfl)) ?_
      refine Sy.stepD 1 rfl (by kernel_rfl) (fun _ _ _ _ h => h) (by kernel_rfl) (.bool false) (Quiet.pure (fun _ => by kernel_rfl)) ?_
      refine Sy.passD 2 rfl (by kernel_rfl) (fun _ _ _ _ h => h) (by kernel_rfl) (by kernel_rfl) ?_
      refine Sy.passD 3 rfl (by kernel_rfl) (fun _ _ _ _ h => h) (by kernel_rfl) (by kernel_rfl) ?_
      refine Sy.passD 4 rfl (by kernel_rfl) (fun _ _ _ _ h => h) (by kernel_rfl) (by kernel_rfl) ?_
      refine Sy.passD 5 rfl (by kernel_rfl) (fun _ _ _ _ h => h) (by kernel_rfl) (by kernel_rfl) ?_
      refine Sy.passD 6 rfl (by kernel_rfl) (fun _ _ _ _ h => h) (by kernel_rfl) (by kernel_rfl) ?_
      refine Sy.passD 7 rfl (by kernel_rfl) (fun _ _ _ _ h => h) (by kernel_rfl) (by kernel_rfl) ?_
      refine Sy.passD 8 rfl (by kernel_rfl) (fun _ _ _ _ h => h) (by kernel_rfl) (by kernel_rfl) ?_
      refine Sy.passD 9 rfl (by kernel_rfl) (fun _ _ _ _ h => h) (by kernel_rfl) (by kernel_rfl) ?_
      refine Sy.passD 10 rfl (by kernel_rfl) (fun _ _ _ _ h => h) (by kernel_rfl) (by kernel_rfl) ?_
      refine Sy.stepD 11 rfl (by kernel_rfl) (fun _ _ _ _ h => h) (by kernel_rfl) (.bool false) (Quiet.pure (fun _ => by kernel_rfl)) ?_
      refine Sy.stepD 12 rfl (by kernel_rfl) (fun _ _ _ _ h => h) (by kernel_rfl) (.bool false) (Quiet.pure (fun _ => by kernel_rfl)) ?_
      refine Sy.doneD (by kernel_rfl) ?_
      refine Sy.then_ ?_
      refine Sy.ret ?_
      rw [show (.bool (rightB x y false) : Value) = .bool false from by rw [rb_x (not_fp hz1 hb1)]]
      exact Sy.ret1 (v := .bool false) rfl (.inl (show _ = _ by kernel_rfl))
    · obtain ⟨ux, rfl⟩ := fp_of hz1 hb1
      refine Sy.stepD 7 rfl (by kernel_rfl) (fun _ _ _ _ h => h) (by kernel_rfl) (.pointer (some ⟨g0, 4, none⟩)) (Quiet.pure (fun _ => by kernel_rfl)) ?_
      refine Sy.stepD 8 rfl (by kernel_rfl) (fun _ _ _ _ h => h) (by kernel_rfl) (fv y) (Quiet.load 0 g0 4 4 26 24 (pcs ux.val y false) _ _ rfl (by kernel_rfl) (by kernel_rfl) Try.underlying24 rfl (by kernel_rfl) _ (by kernel_rfl) (Nat.le_of_ble_eq_true (by kernel_rfl))) ?_
      obtain ⟨z2, hz2⟩ : ∃ z : Nat, z = y % pM := ⟨_, rfl⟩
      have lz2 : z2 < K4 := by rw [hz2]; exact mod_lt y
      refine Sy.stepD 9 rfl (by kernel_rfl) (fun _ _ _ _ h => h) (by kernel_rfl) (fv z2) (Quiet.call 38 #[fv y] (fun _ => by kernel_rfl) (fun w => by rw [hz2]; exact norm_any w y (by first | assumption | exact lt4 _))) ?_
      refine Sy.stepD 10 rfl (by kernel_rfl) (fun _ _ _ _ h => h) (by kernel_rfl) (.pointer (some ⟨g0, 4, none⟩)) (Quiet.pure (fun _ => by kernel_rfl)) ?_
      refine Sy.stepD 11 rfl (by kernel_rfl) (fun _ _ _ _ h => h) (by kernel_rfl) (fv y) (Quiet.load 0 g0 4 4 26 24 (pcs ux.val y false) _ _ rfl (by kernel_rfl) (by kernel_rfl) Try.underlying24 rfl (by kernel_rfl) _ (by kernel_rfl) (Nat.le_of_ble_eq_true (by kernel_rfl))) ?_
      obtain ⟨b2, hb2⟩ : ∃ z : Bool, z = decide (z2 = y) := ⟨_, rfl⟩
      refine Sy.stepD 12 rfl (by kernel_rfl) (fun _ _ _ _ h => h) (by kernel_rfl) (.bool b2) (Quiet.pure (fun w => by rw [hb2]; exact eql_fe w _ _ _ _ _ _ rfl rfl rfl (by first | assumption | exact lt4 _ | decide +kernel) (by first | assumption | exact lt4 _ | decide +kernel))) ?_
      refine Sy.stepD 13 rfl (by kernel_rfl) (fun _ _ _ _ h => h) (by kernel_rfl) (.bool b2) (Quiet.pure (fun _ => by kernel_rfl)) ?_
      refine Sy.stepD 14 rfl (by kernel_rfl) (fun _ _ _ _ h => h) (by kernel_rfl) (.bool b2) (Quiet.pure (fun _ => by kernel_rfl)) ?_
      refine Sy.doneD (by kernel_rfl) ?_
      refine Sy.then_ ?_
      refine Sy.seq ?_
      refine Sy.regionD (fun j => false) (by kernel_rfl) ?_
      refine Sy.stepD 0 rfl (by kernel_rfl) (fun _ _ _ _ h => h) (by kernel_rfl) (.bool b2) (Quiet.pure (fun _ => by kernel_rfl)) ?_
      refine Sy.stepD 1 rfl (by kernel_rfl) (fun _ _ _ _ h => h) (by kernel_rfl) (.bool b2) (Quiet.pure (fun _ => by kernel_rfl)) ?_
      cases b2
      · refine Sy.passD 2 rfl (by kernel_rfl) (fun _ _ _ _ h => h) (by kernel_rfl) (by kernel_rfl) ?_
        refine Sy.passD 3 rfl (by kernel_rfl) (fun _ _ _ _ h => h) (by kernel_rfl) (by kernel_rfl) ?_
        refine Sy.passD 4 rfl (by kernel_rfl) (fun _ _ _ _ h => h) (by kernel_rfl) (by kernel_rfl) ?_
        refine Sy.passD 5 rfl (by kernel_rfl) (fun _ _ _ _ h => h) (by kernel_rfl) (by kernel_rfl) ?_
        refine Sy.passD 6 rfl (by kernel_rfl) (fun _ _ _ _ h => h) (by kernel_rfl) (by kernel_rfl) ?_
        refine Sy.passD 7 rfl (by kernel_rfl) (fun _ _ _ _ h => h) (by kernel_rfl) (by kernel_rfl) ?_
        refine Sy.passD 8 rfl (by kernel_rfl) (fun _ _ _ _ h => h) (by kernel_rfl) (by kernel_rfl) ?_
        refine Sy.passD 9 rfl (by kernel_rfl) (fun _ _ _ _ h => h) (by kernel_rfl) (by kernel_rfl) ?_
        refine Sy.passD 10 rfl (by kernel_rfl) (fun _ _ _ _ h => h) (by kernel_rfl) (by kernel_rfl) ?_
        refine Sy.stepD 11 rfl (by kernel_rfl) (fun _ _ _ _ h => h) (by kernel_rfl) (.bool false) (Quiet.pure (fun _ => by kernel_rfl)) ?_
        refine Sy.stepD 12 rfl (by kernel_rfl) (fun _ _ _ _ h => h) (by kernel_rfl) (.bool false) (Quiet.pure (fun _ => by kernel_rfl)) ?_
        refine Sy.doneD (by kernel_rfl) ?_
        refine Sy.then_ ?_
        refine Sy.ret ?_
        rw [show (.bool (rightB ux.val y false) : Value) = .bool false from by rw [rb_y (not_fp hz2 hb2)]]
        exact Sy.ret1 (v := .bool false) rfl (.inl (show _ = _ by kernel_rfl))
      · obtain ⟨uy, rfl⟩ := fp_of hz2 hb2
        refine Sy.stepD 2 rfl (by kernel_rfl) (fun _ _ _ _ h => h) (by kernel_rfl) (.pointer (some ⟨g0, 4, none⟩)) (Quiet.pure (fun _ => by kernel_rfl)) ?_
        refine Sy.stepD 3 rfl (by kernel_rfl) (fun _ _ _ _ h => h) (by kernel_rfl) (fv uy.val) (Quiet.load 0 g0 4 4 26 24 (pcs ux.val uy.val false) _ _ rfl (by kernel_rfl) (by kernel_rfl) Try.underlying24 rfl (by kernel_rfl) _ (by kernel_rfl) (Nat.le_of_ble_eq_true (by kernel_rfl))) ?_
        refine Sy.stepD 4 rfl (by kernel_rfl) (fun _ _ _ _ h => h) (by kernel_rfl) (.pointer (some ⟨g0, 4, none⟩)) (Quiet.pure (fun _ => by kernel_rfl)) ?_
        refine Sy.stepD 5 rfl (by kernel_rfl) (fun _ _ _ _ h => h) (by kernel_rfl) (fv uy.val) (Quiet.load 0 g0 4 4 26 24 (pcs ux.val uy.val false) _ _ rfl (by kernel_rfl) (by kernel_rfl) Try.underlying24 rfl (by kernel_rfl) _ (by kernel_rfl) (Nat.le_of_ble_eq_true (by kernel_rfl))) ?_
        obtain ⟨z3, hz3⟩ : ∃ z : Fp, z = uy * uy := ⟨_, rfl⟩
        refine Sy.stepD 6 rfl (by kernel_rfl) (fun _ _ _ _ h => h) (by kernel_rfl) (fv z3.val) (Quiet.call 39 #[fv uy.val, fv uy.val] (fun _ => by kernel_rfl) (by rw [hz3]; exact mul_c uy uy)) ?_
        refine Sy.stepD 7 rfl (by kernel_rfl) (fun _ _ _ _ h => h) (by kernel_rfl) (.pointer (some ⟨g0, 0, none⟩)) (Quiet.pure (fun _ => by kernel_rfl)) ?_
        refine Sy.stepD 8 rfl (by kernel_rfl) (fun _ _ _ _ h => h) (by kernel_rfl) (fv ux.val) (Quiet.load 0 g0 0 4 26 24 (pcs ux.val uy.val false) _ _ rfl (by kernel_rfl) (by kernel_rfl) Try.underlying24 rfl (by kernel_rfl) _ (by kernel_rfl) (Nat.le_of_ble_eq_true (by kernel_rfl))) ?_
        obtain ⟨z4, hz4⟩ : ∃ z : Fp, z = ux * ux * ux + 7 := ⟨_, rfl⟩
        refine Sy.stepD 9 rfl (by kernel_rfl) (fun _ _ _ _ h => h) (by kernel_rfl) (fv z4.val) (Quiet.call 40 #[fv ux.val] (fun _ => by kernel_rfl) (by rw [hz4]; exact fun w => square_c w ux)) ?_
        obtain ⟨b3, hb3⟩ : ∃ z : Bool, z = decide (z3.val = z4.val) := ⟨_, rfl⟩
        refine Sy.stepD 10 rfl (by kernel_rfl) (fun _ _ _ _ h => h) (by kernel_rfl) (.bool b3) (Quiet.pure (fun w => by rw [hb3]; exact eql_fe w _ _ _ _ _ _ rfl rfl rfl (by first | assumption | exact lt4 _ | decide +kernel) (by first | assumption | exact lt4 _ | decide +kernel))) ?_
        refine Sy.stepD 11 rfl (by kernel_rfl) (fun _ _ _ _ h => h) (by kernel_rfl) (.bool b3) (Quiet.pure (fun _ => by kernel_rfl)) ?_
        refine Sy.stepD 12 rfl (by kernel_rfl) (fun _ _ _ _ h => h) (by kernel_rfl) (.bool b3) (Quiet.pure (fun _ => by kernel_rfl)) ?_
        refine Sy.doneD (by kernel_rfl) ?_
        refine Sy.then_ ?_
        refine Sy.ret ?_
        rw [show (.bool (rightB ux.val uy.val false) : Value) = .bool b3 from by rw [hb3, rb_xy]; simp only [hz3, hz4]]
        exact Sy.ret1 (v := .bool b3) rfl (.inl (show _ = _ by kernel_rfl))
  · refine Sy.cond_t (by kernel_rfl) (by kernel_rfl) ?_
    refine Sy.seq ?_
    refine Sy.regionD (fun j => false) (by kernel_rfl) ?_
    refine Sy.stepD 0 rfl (by kernel_rfl) (fun _ _ _ _ h => h) (by kernel_rfl) (pv x y true) (Quiet.load 0 g0 0 9 26 26 (pcs x y true) _ _ rfl (by kernel_rfl) (by kernel_rfl) Try.underlying26 rfl (by kernel_rfl) _ (by kernel_rfl) (Nat.le_of_ble_eq_true (by kernel_rfl))) ?_
    refine Sy.stepD 1 rfl (by kernel_rfl) (fun _ _ _ _ h => h) (by kernel_rfl) (pv 0 0 true) (Quiet.call 31 #[] (fun _ => by kernel_rfl) (zero_c)) ?_
    obtain ⟨b4, hb4⟩ : ∃ z : Bool, z = sameB x y true 0 0 true := ⟨_, rfl⟩
    refine Sy.stepD 2 rfl (by kernel_rfl) (fun _ _ _ _ h => h) (by kernel_rfl) (.bool b4) (Quiet.pure (fun w => by rw [hb4]; exact eql_pt w _ _ _ _ _ _ _ _ _ _ rfl rfl rfl (by first | assumption | exact lt4 _ | decide +kernel) (by first | assumption | exact lt4 _ | decide +kernel) (by first | assumption | exact lt4 _ | decide +kernel) (by first | assumption | exact lt4 _ | decide +kernel))) ?_
    refine Sy.stepD 3 rfl (by kernel_rfl) (fun _ _ _ _ h => h) (by kernel_rfl) (.bool b4) (Quiet.pure (fun _ => by kernel_rfl)) ?_
    refine Sy.doneD (by kernel_rfl) ?_
    refine Sy.then_ ?_
    refine Sy.ret ?_
    refine Sy.then_ret ?_
    rw [show (.bool (rightB x y true) : Value) = .bool b4 from by rw [hb4, rightB_inf]]
    exact Sy.ret1 (v := .bool b4) rfl (.inl (show _ = _ by kernel_rfl))
set_option maxHeartbeats 4000000 in
set_option maxRecDepth 100000 in
theorem right_c (w : World) (x y : Nat) (i : Bool) (hx : x < K4) (hy : y < K4) : Calls Try.prog 47 #[pv x y i] w (Gets w (ptv (dec x y i))) := by
  refine Sy.enter (args := [pv x y i]) Try.func47 rfl (Nat.le_of_ble_eq_true (by kernel_rfl)) ?_
  refine Sy.seq ?_
  refine Sy.region ?_
  refine Sy.make (by kernel_rfl) 26 (pcs x y i) ptr (fun _ => by kernel_rfl) (fun g0 => ?_)
  refine Sy.make (by kernel_rfl) 26 (pcs 0 0 false) ptr (fun _ => by kernel_rfl) (fun g1 => ?_)
  refine Sy.nil ?_
  refine Sy.then_ ?_
  refine Sy.seq ?_
  refine Sy.seq ?_
  refine Sy.region ?_
  refine Sy.step (by kernel_rfl) (pv x y i) (Quiet.load 0 g0 0 9 26 26 (pcs x y i) _ _ rfl (by kernel_rfl) (by kernel_rfl) Try.underlying26 rfl (by kernel_rfl) _ (by kernel_rfl) (Nat.le_of_ble_eq_true (by kernel_rfl))) ?_
  obtain ⟨b1, hb1⟩ : ∃ z : Bool, z = rightB x y i := ⟨_, rfl⟩
  refine Sy.step (by kernel_rfl) (.bool b1) (Quiet.call 13 #[pv x y i] (fun _ => by kernel_rfl) (by rw [hb1]; exact fun w => right_b w x y i (by first | assumption | exact lt4 _ | decide +kernel) (by first | assumption | exact lt4 _ | decide +kernel))) ?_
  cases b1
  · refine Sy.step (by kernel_rfl) (.bool true) (Quiet.pure (fun _ => by kernel_rfl)) ?_
    refine Sy.nil ?_
    refine Sy.then_ ?_
    refine Sy.cond_t (by kernel_rfl) (by kernel_rfl) ?_
    refine Sy.seq ?_
    refine Sy.region ?_
    refine Sy.step (by kernel_rfl) (pv 0 0 true) (Quiet.call 31 #[] (fun _ => by kernel_rfl) (zero_c)) ?_
    refine Sy.write (by kernel_rfl) 1 g1 26 (pcs 0 0 false) (pcs 0 0 true) (by kernel_rfl) (Writes.store 0 26 (pcs 0 0 true) _ _ rfl (by kernel_rfl) (by kernel_rfl) (by kernel_rfl) (Nat.le_of_ble_eq_true (by kernel_rfl)) (by kernel_rfl) (by kernel_rfl)) ?_
    refine Sy.nil ?_
    refine Sy.then_ ?_
    refine Sy.ret ?_
    refine Sy.then_ret ?_
    rw [show (ptv (dec x y i) : Value) = pv 0 0 true from ptv_wrong x y i hb1.symm]
    exact Sy.ret1 (v := pv 0 0 true) rfl (.inl (Res.cell (ty' := 26) g1 1 (pcs 0 0 true) _ (by kernel_rfl) (by kernel_rfl) Try.underlying26 rfl (by kernel_rfl) (by kernel_rfl)))
  · refine Sy.step (by kernel_rfl) (.bool false) (Quiet.pure (fun _ => by kernel_rfl)) ?_
    refine Sy.nil ?_
    refine Sy.then_ ?_
    refine Sy.cond_f (by kernel_rfl) (by kernel_rfl) ?_
    refine Sy.skip ?_
    refine Sy.then_ ?_
    refine Sy.seq ?_
    refine Sy.region ?_
    refine Sy.step (by kernel_rfl) (pv x y i) (Quiet.load 0 g0 0 9 26 26 (pcs x y i) _ _ rfl (by kernel_rfl) (by kernel_rfl) Try.underlying26 rfl (by kernel_rfl) _ (by kernel_rfl) (Nat.le_of_ble_eq_true (by kernel_rfl))) ?_
    refine Sy.write (by kernel_rfl) 1 g1 26 (pcs 0 0 false) (pcs x y i) (by kernel_rfl) (Writes.store 0 26 (pcs x y i) _ _ rfl (by kernel_rfl) (by kernel_rfl) (by kernel_rfl) (Nat.le_of_ble_eq_true (by kernel_rfl)) (by kernel_rfl) (by kernel_rfl)) ?_
    refine Sy.nil ?_
    refine Sy.then_ ?_
    refine Sy.ret ?_
    rw [show (ptv (dec x y i) : Value) = pv x y i from ptv_right x y i hb1.symm]
    exact Sy.ret1 (v := pv x y i) rfl (.inl (Res.cell (ty' := 26) g1 1 (pcs x y i) _ (by kernel_rfl) (by kernel_rfl) Try.underlying26 rfl (by kernel_rfl) (by kernel_rfl)))
end Go.Proofs.Ytlojidnlkflpnaa.Cu
