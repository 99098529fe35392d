/-
  curve: the document's Right, Taken, Neg, Add.
-/
import Derived.Test.YtlojidnlkflpnaaCrvB
import Derived.Test.YtlojidnlkflpnaaRefPow
import Derived.Test.YtlojidnlkflpnaaRefBytes
namespace Go.Proofs.Ytlojidnlkflpnaa.Cu
open Go.RowKit Go.Proofs.Ytlojidnlkflpnaa Go.Proofs.Ytlojidnlkflpnaa.Sy

def modcs : Array Value := #[.int .u64 18446744069414583343, .int .u64 18446744073709551615, .int .u64 18446744073709551615, .int .u64 18446744073709551615, .int .u64 4294968273, .int .u64 0, .int .u64 0]
def mod0 : Array Value := #[.int .u64 0, .int .u64 0, .int .u64 0, .int .u64 0, .int .u64 0, .int .u64 0, .int .u64 0]
theorem refmul_c (w : World) (a b : Fp) : Calls Try.prog 75 #[.agg modcs, fv a.val, fv b.val] w (Gets w (fv (a * b).val)) := mulR_any w a.val b.val (lt4 a) (lt4 b)
theorem refadd_c (w : World) (a b : Fp) : Calls Try.prog 74 #[.agg modcs, fv a.val, fv b.val] w (Gets w (fv (a + b).val)) := addR_any w a.val b.val (lt4 a) (lt4 b)
theorem refsub_c (w : World) (a b : Fp) : Calls Try.prog 91 #[.agg modcs, fv a.val, fv b.val] w (Gets w (fv (a - b).val)) := by rw [← val_sub]; exact subR_any w a.val b.val (lt4 a) (lt4 b)
theorem refneg_c (w : World) (a : Fp) : Calls Try.prog 50 #[.agg modcs, fv a.val] w (Gets w (fv (-a).val)) := by rw [← val_neg]; exact negR_any w a.val (lt4 a)
theorem inv_pw (a : Nat) : invR a = pw a (115792089237316195423570985008687907853269984665640564039457584007908834671663 - 2) := by
  have h := invR_pow a
  rw [invR_red] at h
  rw [h, ← eInv_is]
  rfl
theorem refinv_c (w : World) (a : Fp) : Calls Try.prog 55 #[.agg modcs, fv a.val] w (Gets w (fv (finv a).val)) := by
  have e : (finv a).val = invR a.val := rfl
  have h := invRef_any w a.val (lt4 a)
  rw [← inv_pw, ← e] at h
  exact h
theorem eql_num (w : World) (F : Slots) (o : Oper) (x y : Operand) (n m : Nat) {yt : TypeId} (ho : o.op = .binOp .eql 62 x y yt) (hx : evF F x = fv n) (hy : evF F y = fv m) (hn : n < K4) (hm : m < K4) : (execOp (evF F) o).run Try.prog w = .ok (.value (.bool (decide (n = m)))) w := by
  have h1 := Nm.run_eqGuard_fv .eql x y n m w
  have h2 := Nm.run_eql_fv w n m hn hm
  unfold execOp
  simp only [ho, hx, hy, Sem.run_bind, h1, h2, Result.andThen_ok, Sem.run_pure]
theorem neq_num (w : World) (F : Slots) (o : Oper) (x y : Operand) (n m : Nat) {yt : TypeId} (ho : o.op = .binOp .neq 62 x y yt) (hx : evF F x = fv n) (hy : evF F y = fv m) (hn : n < K4) (hm : m < K4) : (execOp (evF F) o).run Try.prog w = .ok (.value (.bool (decide (n ≠ m)))) w := by
  have h1 := Nm.run_eqGuard_fv .neq x y n m w
  have h2 := Nm.run_neq_fv w n m hn hm
  unfold execOp
  simp only [ho, hx, hy, Sem.run_bind, h1, h2, Result.andThen_ok, Sem.run_pure]
set_option maxRecDepth 100000 in
theorem small_c (w : World) (k : Nat) (hk : k < 18446744073709551616) : Calls Try.prog 86 #[.int .u64 (k : Int)] w (Gets w (fv k)) := by
  rw [fv_small k hk]
  refine Sy.enter (args := [.int .u64 (k : Int)]) Try.func86 rfl (Nat.le_of_ble_eq_true (by kernel_rfl)) ?_
  refine Sy.seq ?_
  refine Sy.region ?_
  refine Sy.make (by kernel_rfl) 62 (fcs 0) ptr (fun _ => by kernel_rfl) (fun g0 => ?_)
  refine Sy.nil ?_
  refine Sy.then_ ?_
  refine Sy.seq ?_
  refine Sy.region ?_
  refine Sy.step (by kernel_rfl) (.int .u64 (k : Int)) (Quiet.pure (fun _ => by kernel_rfl)) ?_
  refine Sy.step (by kernel_rfl) (.agg #[.int .u64 (k : Int), .int .u64 0, .int .u64 0, .int .u64 0]) (Quiet.pure (fun _ => by kernel_rfl)) ?_
  refine Sy.write (by kernel_rfl) 0 g0 62 (fcs 0) #[.int .u64 (k : Int), .int .u64 0, .int .u64 0, .int .u64 0] (by kernel_rfl) (Writes.store 0 62 #[.int .u64 (k : Int), .int .u64 0, .int .u64 0, .int .u64 0] _ _ rfl (by kernel_rfl) (by kernel_rfl) (by kernel_rfl) (Nat.le_of_ble_eq_true (by kernel_rfl)) (by kernel_rfl) (by kernel_rfl)) ?_
  refine Sy.nil ?_
  refine Sy.then_ ?_
  refine Sy.ret ?_
  exact Sy.ret1 rfl (.inl (Res.cell (ty' := 62) g0 0 #[.int .u64 (k : Int), .int .u64 0, .int .u64 0, .int .u64 0] _ (by kernel_rfl) (by kernel_rfl) Try.underlying62 rfl (by kernel_rfl) (by kernel_rfl)))
set_option maxHeartbeats 4000000 in
set_option maxRecDepth 100000 in
theorem mulR_c (w : World) (a b : Fp) : Calls Try.prog 45 #[fv a.val, fv b.val] w (Gets w (fv (a * b).val)) := by
  refine Sy.enter (args := [fv a.val, fv b.val]) Try.func45 rfl (Nat.le_of_ble_eq_true (by kernel_rfl)) ?_
  refine Sy.seq ?_
  refine Sy.region ?_
  refine Sy.make (by kernel_rfl) 62 (fcs a.val) ptr (fun _ => by kernel_rfl) (fun g0 => ?_)
  refine Sy.make (by kernel_rfl) 62 (fcs b.val) ptr (fun _ => by kernel_rfl) (fun g1 => ?_)
  refine Sy.make (by kernel_rfl) 62 (fcs 0) ptr (fun _ => by kernel_rfl) (fun g2 => ?_)
  refine Sy.nil ?_
  refine Sy.then_ ?_
  refine Sy.seq ?_
  refine Sy.regionD (fun j => j == 4) (by kernel_rfl) ?_
  refine Sy.stepD 0 rfl (by kernel_rfl) (fun _ _ _ _ h => h) (by kernel_rfl) (.agg modcs) (Quiet.call 43 #[] (fun _ => by kernel_rfl) (refP_any)) ?_
  refine Sy.stepD 1 rfl (by kernel_rfl) (fun _ _ _ _ h => h) (by kernel_rfl) (fv a.val) (Quiet.load 0 g0 0 4 62 62 (fcs a.val) _ _ rfl (by kernel_rfl) (by kernel_rfl) Try.underlying62 rfl (by kernel_rfl) _ (by kernel_rfl) (Nat.le_of_ble_eq_true (by kernel_rfl))) ?_
  refine Sy.stepD 2 rfl (by kernel_rfl) (fun _ _ _ _ h => h) (by kernel_rfl) (fv b.val) (Quiet.load 1 g1 0 4 62 62 (fcs b.val) _ _ rfl (by kernel_rfl) (by kernel_rfl) Try.underlying62 rfl (by kernel_rfl) _ (by kernel_rfl) (Nat.le_of_ble_eq_true (by kernel_rfl))) ?_
  obtain ⟨z1, hz1⟩ : ∃ z : Fp, z = a * b := ⟨_, rfl⟩
  refine Sy.stepD 3 rfl (by kernel_rfl) (fun _ _ _ _ h => h) (by kernel_rfl) (fv z1.val) (Quiet.call 75 #[.agg modcs, fv a.val, fv b.val] (fun _ => by kernel_rfl) (fun w => by rw [hz1]; exact refmul_c w a b)) ?_
  refine Sy.writeD 4 rfl (by kernel_rfl) (by rfl) (by kernel_rfl) 2 g2 62 (fcs 0) (fcs z1.val) (by kernel_rfl) (Writes.store 0 62 (fcs z1.val) _ _ rfl (by kernel_rfl) (by kernel_rfl) (by kernel_rfl) (Nat.le_of_ble_eq_true (by kernel_rfl)) (by kernel_rfl) (by kernel_rfl)) ?_
  refine Sy.doneD (by kernel_rfl) ?_
  refine Sy.then_ ?_
  refine Sy.ret ?_
  rw [show (fv (a * b).val : Value) = fv z1.val from by rw [hz1]]
  exact Sy.ret1 (v := fv z1.val) rfl (.inl (Res.cell (ty' := 62) g2 2 (fcs z1.val) _ (by kernel_rfl) (by kernel_rfl) Try.underlying62 rfl (by kernel_rfl) (by kernel_rfl)))
set_option maxHeartbeats 4000000 in
set_option maxRecDepth 100000 in
theorem addR_c (w : World) (a b : Fp) : Calls Try.prog 54 #[fv a.val, fv b.val] w (Gets w (fv (a + b).val)) := by
  refine Sy.enter (args := [fv a.val, fv b.val]) Try.func54 rfl (Nat.le_of_ble_eq_true (by kernel_rfl)) ?_
  refine Sy.seq ?_
  refine Sy.region ?_
  refine Sy.make (by kernel_rfl) 62 (fcs a.val) ptr (fun _ => by kernel_rfl) (fun g0 => ?_)
  refine Sy.make (by kernel_rfl) 62 (fcs b.val) ptr (fun _ => by kernel_rfl) (fun g1 => ?_)
  refine Sy.make (by kernel_rfl) 62 (fcs 0) ptr (fun _ => by kernel_rfl) (fun g2 => ?_)
  refine Sy.nil ?_
  refine Sy.then_ ?_
  refine Sy.seq ?_
  refine Sy.regionD (fun j => j == 4) (by kernel_rfl) ?_
  refine Sy.stepD 0 rfl (by kernel_rfl) (fun _ _ _ _ h => h) (by kernel_rfl) (.agg modcs) (Quiet.call 43 #[] (fun _ => by kernel_rfl) (refP_any)) ?_
  refine Sy.stepD 1 rfl (by kernel_rfl) (fun _ _ _ _ h => h) (by kernel_rfl) (fv a.val) (Quiet.load 0 g0 0 4 62 62 (fcs a.val) _ _ rfl (by kernel_rfl) (by kernel_rfl) Try.underlying62 rfl (by kernel_rfl) _ (by kernel_rfl) (Nat.le_of_ble_eq_true (by kernel_rfl))) ?_
  refine Sy.stepD 2 rfl (by kernel_rfl) (fun _ _ _ _ h => h) (by kernel_rfl) (fv b.val) (Quiet.load 1 g1 0 4 62 62 (fcs b.val) _ _ rfl (by kernel_rfl) (by kernel_rfl) Try.underlying62 rfl (by kernel_rfl) _ (by kernel_rfl) (Nat.le_of_ble_eq_true (by kernel_rfl))) ?_
  obtain ⟨z1, hz1⟩ : ∃ z : Fp, z = a + b := ⟨_, rfl⟩
  refine Sy.stepD 3 rfl (by kernel_rfl) (fun _ _ _ _ h => h) (by kernel_rfl) (fv z1.val) (Quiet.call 74 #[.agg modcs, fv a.val, fv b.val] (fun _ => by kernel_rfl) (fun w => by rw [hz1]; exact refadd_c w a b)) ?_
  refine Sy.writeD 4 rfl (by kernel_rfl) (by rfl) (by kernel_rfl) 2 g2 62 (fcs 0) (fcs z1.val) (by kernel_rfl) (Writes.store 0 62 (fcs z1.val) _ _ rfl (by kernel_rfl) (by kernel_rfl) (by kernel_rfl) (Nat.le_of_ble_eq_true (by kernel_rfl)) (by kernel_rfl) (by kernel_rfl)) ?_
  refine Sy.doneD (by kernel_rfl) ?_
  refine Sy.then_ ?_
  refine Sy.ret ?_
  rw [show (fv (a + b).val : Value) = fv z1.val from by rw [hz1]]
  exact Sy.ret1 (v := fv z1.val) rfl (.inl (Res.cell (ty' := 62) g2 2 (fcs z1.val) _ (by kernel_rfl) (by kernel_rfl) Try.underlying62 rfl (by kernel_rfl) (by kernel_rfl)))
set_option maxHeartbeats 4000000 in
set_option maxRecDepth 100000 in
theorem subR_c (w : World) (a b : Fp) : Calls Try.prog 53 #[fv a.val, fv b.val] w (Gets w (fv (a - b).val)) := by
  refine Sy.enter (args := [fv a.val, fv b.val]) Try.func53 rfl (Nat.le_of_ble_eq_true (by kernel_rfl)) ?_
  refine Sy.seq ?_
  refine Sy.region ?_
  refine Sy.make (by kernel_rfl) 62 (fcs a.val) ptr (fun _ => by kernel_rfl) (fun g0 => ?_)
  refine Sy.make (by kernel_rfl) 62 (fcs b.val) ptr (fun _ => by kernel_rfl) (fun g1 => ?_)
  refine Sy.make (by kernel_rfl) 62 (fcs 0) ptr (fun _ => by kernel_rfl) (fun g2 => ?_)
  refine Sy.nil ?_
  refine Sy.then_ ?_
  refine Sy.seq ?_
  refine Sy.regionD (fun j => j == 4) (by kernel_rfl) ?_
  refine Sy.stepD 0 rfl (by kernel_rfl) (fun _ _ _ _ h => h) (by kernel_rfl) (.agg modcs) (Quiet.call 43 #[] (fun _ => by kernel_rfl) (refP_any)) ?_
  refine Sy.stepD 1 rfl (by kernel_rfl) (fun _ _ _ _ h => h) (by kernel_rfl) (fv a.val) (Quiet.load 0 g0 0 4 62 62 (fcs a.val) _ _ rfl (by kernel_rfl) (by kernel_rfl) Try.underlying62 rfl (by kernel_rfl) _ (by kernel_rfl) (Nat.le_of_ble_eq_true (by kernel_rfl))) ?_
  refine Sy.stepD 2 rfl (by kernel_rfl) (fun _ _ _ _ h => h) (by kernel_rfl) (fv b.val) (Quiet.load 1 g1 0 4 62 62 (fcs b.val) _ _ rfl (by kernel_rfl) (by kernel_rfl) Try.underlying62 rfl (by kernel_rfl) _ (by kernel_rfl) (Nat.le_of_ble_eq_true (by kernel_rfl))) ?_
  obtain ⟨z1, hz1⟩ : ∃ z : Fp, z = a - b := ⟨_, rfl⟩
  refine Sy.stepD 3 rfl (by kernel_rfl) (fun _ _ _ _ h => h) (by kernel_rfl) (fv z1.val) (Quiet.call 91 #[.agg modcs, fv a.val, fv b.val] (fun _ => by kernel_rfl) (fun w => by rw [hz1]; exact refsub_c w a b)) ?_
  refine Sy.writeD 4 rfl (by kernel_rfl) (by rfl) (by kernel_rfl) 2 g2 62 (fcs 0) (fcs z1.val) (by kernel_rfl) (Writes.store 0 62 (fcs z1.val) _ _ rfl (by kernel_rfl) (by kernel_rfl) (by kernel_rfl) (Nat.le_of_ble_eq_true (by kernel_rfl)) (by kernel_rfl) (by kernel_rfl)) ?_
  refine Sy.doneD (by kernel_rfl) ?_
  refine Sy.then_ ?_
  refine Sy.ret ?_
  rw [show (fv (a - b).val : Value) = fv z1.val from by rw [hz1]]
  exact Sy.ret1 (v := fv z1.val) rfl (.inl (Res.cell (ty' := 62) g2 2 (fcs z1.val) _ (by kernel_rfl) (by kernel_rfl) Try.underlying62 rfl (by kernel_rfl) (by kernel_rfl)))
set_option maxHeartbeats 4000000 in
set_option maxRecDepth 100000 in
theorem zeroR_c (w : World)  : Calls Try.prog 41 #[] w (Gets w (pv 0 0 true)) := by
  refine Sy.enter (args := []) Try.func41 rfl (Nat.le_of_ble_eq_true (by kernel_rfl)) ?_
  refine Sy.seq ?_
  refine Sy.region ?_
  refine Sy.make (by kernel_rfl) 26 (pcs 0 0 false) ptr (fun _ => by kernel_rfl) (fun g0 => ?_)
  refine Sy.nil ?_
  refine Sy.then_ ?_
  refine Sy.seq ?_
  refine Sy.region ?_
  refine Sy.step (by kernel_rfl) (pv 0 0 true) (Quiet.pure (fun _ => by kernel_rfl)) ?_
  refine Sy.write (by kernel_rfl) 0 g0 26 (pcs 0 0 false) (pcs 0 0 true) (by kernel_rfl) (Writes.store 0 26 (pcs 0 0 true) _ _ rfl (by kernel_rfl) (by kernel_rfl) (by kernel_rfl) (Nat.le_of_ble_eq_true (by kernel_rfl)) (by kernel_rfl) (by kernel_rfl)) ?_
  refine Sy.nil ?_
  refine Sy.then_ ?_
  refine Sy.ret ?_
  exact Sy.ret1 (v := pv 0 0 true) rfl (.inl (Res.cell (ty' := 26) g0 0 (pcs 0 0 true) _ (by kernel_rfl) (by kernel_rfl) Try.underlying26 rfl (by kernel_rfl) (by kernel_rfl)))
set_option maxHeartbeats 4000000 in
set_option maxRecDepth 100000 in
theorem baseR_c (w : World)  : Calls Try.prog 37 #[] w (Gets w (ptv bP)) := by
  refine Sy.enter (args := []) Try.func37 rfl (Nat.le_of_ble_eq_true (by kernel_rfl)) ?_
  refine Sy.seq ?_
  refine Sy.region ?_
  refine Sy.make (by kernel_rfl) 26 (pcs 0 0 false) ptr (fun _ => by kernel_rfl) (fun g0 => ?_)
  refine Sy.nil ?_
  refine Sy.then_ ?_
  refine Sy.seq ?_
  refine Sy.region ?_
  refine Sy.step (by kernel_rfl) (fv 55066263022277343669578718895168534326250603453777594175500187360389116729240) (Quiet.pure (fun _ => by kernel_rfl)) ?_
  refine Sy.step (by kernel_rfl) (fv 32670510020758816978083085130507043184471273380659243275938904335757337482424) (Quiet.pure (fun _ => by kernel_rfl)) ?_
  refine Sy.step (by kernel_rfl) (pv 55066263022277343669578718895168534326250603453777594175500187360389116729240 32670510020758816978083085130507043184471273380659243275938904335757337482424 false) (Quiet.pure (fun _ => by kernel_rfl)) ?_
  refine Sy.write (by kernel_rfl) 0 g0 26 (pcs 0 0 false) (pcs 55066263022277343669578718895168534326250603453777594175500187360389116729240 32670510020758816978083085130507043184471273380659243275938904335757337482424 false) (by kernel_rfl) (Writes.store 0 26 (pcs 55066263022277343669578718895168534326250603453777594175500187360389116729240 32670510020758816978083085130507043184471273380659243275938904335757337482424 false) _ _ rfl (by kernel_rfl) (by kernel_rfl) (by kernel_rfl) (Nat.le_of_ble_eq_true (by kernel_rfl)) (by kernel_rfl) (by kernel_rfl)) ?_
  refine Sy.nil ?_
  refine Sy.then_ ?_
  refine Sy.ret ?_
  rw [show (ptv bP : Value) = pv 55066263022277343669578718895168534326250603453777594175500187360389116729240 32670510020758816978083085130507043184471273380659243275938904335757337482424 false from by kernel_rfl]
  exact Sy.ret1 (v := pv 55066263022277343669578718895168534326250603453777594175500187360389116729240 32670510020758816978083085130507043184471273380659243275938904335757337482424 false) rfl (.inl (Res.cell (ty' := 26) g0 0 (pcs 55066263022277343669578718895168534326250603453777594175500187360389116729240 32670510020758816978083085130507043184471273380659243275938904335757337482424 false) _ (by kernel_rfl) (by kernel_rfl) Try.underlying26 rfl (by kernel_rfl) (by kernel_rfl)))
set_option maxHeartbeats 4000000 in
set_option maxRecDepth 100000 in
theorem cubeR_c (w : World) (x : Fp) : Calls Try.prog 46 #[fv x.val] w (Gets w (fv (x * x * x + 7).val)) := by
  refine Sy.enter (args := [fv x.val]) Try.func46 rfl (Nat.le_of_ble_eq_true (by kernel_rfl)) ?_
  refine Sy.seq ?_
  refine Sy.region ?_
  refine Sy.make (by kernel_rfl) 62 (fcs x.val) ptr (fun _ => by kernel_rfl) (fun g0 => ?_)
  refine Sy.make (by kernel_rfl) 62 (fcs 0) ptr (fun _ => by kernel_rfl) (fun g1 => ?_)
  refine Sy.nil ?_
  refine Sy.then_ ?_
  refine Sy.seq ?_
  refine Sy.regionD (fun j => j == 7) (by kernel_rfl) ?_
  refine Sy.stepD 0 rfl (by kernel_rfl) (fun _ _ _ _ h => h) (by kernel_rfl) (fv x.val) (Quiet.load 0 g0 0 4 62 62 (fcs x.val) _ _ rfl (by kernel_rfl) (by kernel_rfl) Try.underlying62 rfl (by kernel_rfl) _ (by kernel_rfl) (Nat.le_of_ble_eq_true (by kernel_rfl))) ?_
  refine Sy.stepD 1 rfl (by kernel_rfl) (fun _ _ _ _ h => h) (by kernel_rfl) (fv x.val) (Quiet.load 0 g0 0 4 62 62 (fcs x.val) _ _ rfl (by kernel_rfl) (by kernel_rfl) Try.underlying62 rfl (by kernel_rfl) _ (by kernel_rfl) (Nat.le_of_ble_eq_true (by kernel_rfl))) ?_
  refine Sy.stepD 2 rfl (by kernel_rfl) (fun _ _ _ _ h => h) (by kernel_rfl) (fv x.val) (Quiet.load 0 g0 0 4 62 62 (fcs x.val) _ _ rfl (by kernel_rfl) (by kernel_rfl) Try.underlying62 rfl (by kernel_rfl) _ (by kernel_rfl) (Nat.le_of_ble_eq_true (by kernel_rfl))) ?_
  obtain ⟨z1, hz1⟩ : ∃ z : Fp, z = x * x := ⟨_, rfl⟩
  refine Sy.stepD 3 rfl (by kernel_rfl) (fun _ _ _ _ h => h) (by kernel_rfl) (fv z1.val) (Quiet.call 45 #[fv x.val, fv x.val] (fun _ => by kernel_rfl) (fun w => by rw [hz1]; exact mulR_c w x x)) ?_
  obtain ⟨z2, hz2⟩ : ∃ z : Fp, z = x * z1 := ⟨_, rfl⟩
  refine Sy.stepD 4 rfl (by kernel_rfl) (fun _ _ _ _ h => h) (by kernel_rfl) (fv z2.val) (Quiet.call 45 #[fv x.val, fv z1.val] (fun _ => by kernel_rfl) (fun w => by rw [hz2]; exact mulR_c w x z1)) ?_
  obtain ⟨z3, hz3⟩ : ∃ z : Fp, z = (7 : Fp) := ⟨_, rfl⟩
  refine Sy.stepD 5 rfl (by kernel_rfl) (fun _ _ _ _ h => h) (by kernel_rfl) (fv z3.val) (Quiet.call 86 #[.int .u64 7] (fun _ => by kernel_rfl) (fun w => by rw [hz3]; exact small_c w 7 (by decide))) ?_
  obtain ⟨z4, hz4⟩ : ∃ z : Fp, z = z2 + z3 := ⟨_, rfl⟩
  refine Sy.stepD 6 rfl (by kernel_rfl) (fun _ _ _ _ h => h) (by kernel_rfl) (fv z4.val) (Quiet.call 54 #[fv z2.val, fv z3.val] (fun _ => by kernel_rfl) (fun w => by rw [hz4]; exact addR_c w z2 z3)) ?_
  refine Sy.writeD 7 rfl (by kernel_rfl) (by rfl) (by kernel_rfl) 1 g1 62 (fcs 0) (fcs z4.val) (by kernel_rfl) (Writes.store 0 62 (fcs z4.val) _ _ rfl (by kernel_rfl) (by kernel_rfl) (by kernel_rfl) (Nat.le_of_ble_eq_true (by kernel_rfl)) (by kernel_rfl) (by kernel_rfl)) ?_
  refine Sy.doneD (by kernel_rfl) ?_
  refine Sy.then_ ?_
  refine Sy.ret ?_
  rw [show (fv (x * x * x + 7).val : Value) = fv z4.val from by
    refine congrArg (fun t : Fp => fv t.val) ?_
    grobner]
  exact Sy.ret1 (v := fv z4.val) rfl (.inl (Res.cell (ty' := 62) g1 1 (fcs z4.val) _ (by kernel_rfl) (by kernel_rfl) Try.underlying62 rfl (by kernel_rfl) (by kernel_rfl)))
set_option maxHeartbeats 4000000 in
set_option maxRecDepth 100000 in
theorem pointR_c (w : World) (x y : Nat) (hx : x < K4) (hy : y < K4) : Calls Try.prog 49 #[fv x, fv y] w (Gets w (pv x y false)) := by
  refine Sy.enter (args := [fv x, fv y]) Try.func49 rfl (Nat.le_of_ble_eq_true (by kernel_rfl)) ?_
  refine Sy.seq ?_
  refine Sy.region ?_
  refine Sy.make (by kernel_rfl) 62 (fcs x) ptr (fun _ => by kernel_rfl) (fun g0 => ?_)
  refine Sy.make (by kernel_rfl) 62 (fcs y) ptr (fun _ => by kernel_rfl) (fun g1 => ?_)
  refine Sy.make (by kernel_rfl) 26 (pcs 0 0 false) ptr (fun _ => by kernel_rfl) (fun g2 => ?_)
  refine Sy.nil ?_
  refine Sy.then_ ?_
  refine Sy.seq ?_
  refine Sy.regionD (fun j => j == 5) (by kernel_rfl) ?_
  refine Sy.stepD 0 rfl (by kernel_rfl) (fun _ _ _ _ h => h) (by kernel_rfl) (fv x) (Quiet.load 0 g0 0 4 62 62 (fcs x) _ _ rfl (by kernel_rfl) (by kernel_rfl) Try.underlying62 rfl (by kernel_rfl) _ (by kernel_rfl) (Nat.le_of_ble_eq_true (by kernel_rfl))) ?_
  refine Sy.stepD 1 rfl (by kernel_rfl) (fun _ _ _ _ h => h) (by kernel_rfl) (fv x) (Quiet.call 87 #[fv x] (fun _ => by kernel_rfl) (fun w => refFe_any w x (by first | assumption | exact lt4 _ | decide +kernel))) ?_
  refine Sy.stepD 2 rfl (by kernel_rfl) (fun _ _ _ _ h => h) (by kernel_rfl) (fv y) (Quiet.load 1 g1 0 4 62 62 (fcs y) _ _ rfl (by kernel_rfl) (by kernel_rfl) Try.underlying62 rfl (by kernel_rfl) _ (by kernel_rfl) (Nat.le_of_ble_eq_true (by kernel_rfl))) ?_
  refine Sy.stepD 3 rfl (by kernel_rfl) (fun _ _ _ _ h => h) (by kernel_rfl) (fv y) (Quiet.call 87 #[fv y] (fun _ => by kernel_rfl) (fun w => refFe_any w y (by first | assumption | exact lt4 _ | decide +kernel))) ?_
  refine Sy.stepD 4 rfl (by kernel_rfl) (fun _ _ _ _ h => h) (by kernel_rfl) (pv x y false) (Quiet.pure (fun _ => by kernel_rfl)) ?_
  refine Sy.writeD 5 rfl (by kernel_rfl) (by rfl) (by kernel_rfl) 2 g2 26 (pcs 0 0 false) (pcs x y false) (by kernel_rfl) (Writes.store 0 26 (pcs x y false) _ _ rfl (by kernel_rfl) (by kernel_rfl) (by kernel_rfl) (Nat.le_of_ble_eq_true (by kernel_rfl)) (by kernel_rfl) (by kernel_rfl)) ?_
  refine Sy.doneD (by kernel_rfl) ?_
  refine Sy.then_ ?_
  refine Sy.ret ?_
  exact Sy.ret1 (v := pv x y false) rfl (.inl (Res.cell (ty' := 26) g2 2 (pcs x y false) _ (by kernel_rfl) (by kernel_rfl) Try.underlying26 rfl (by kernel_rfl) (by kernel_rfl)))
set_option maxHeartbeats 4000000 in
set_option maxRecDepth 100000 in
theorem rightR_b (w : World) (x y : Nat) (i : Bool) (hx : x < K4) (hy : y < K4) : Calls Try.prog 14 #[pv x y i] w (Gets w (.bool (rightB x y i))) := by
  refine Sy.enter (args := [pv x y i]) Try.func14 rfl (Nat.le_of_ble_eq_true (by kernel_rfl)) ?_
  refine Sy.seq ?_
  refine Sy.region ?_
  refine Sy.make (by kernel_rfl) 26 (pcs x y i) ptr (fun _ => by kernel_rfl) (fun g0 => ?_)
  refine Sy.step (by kernel_rfl) (.bool false) (Quiet.pure (fun _ => by kernel_rfl)) ?_
  refine Sy.nil ?_
  refine Sy.then_ ?_
  refine Sy.seq ?_
  refine Sy.seq ?_
  refine Sy.region ?_
  refine Sy.step (by kernel_rfl) (.pointer (some ⟨g0, 8, none⟩)) (Quiet.pure (fun _ => by kernel_rfl)) ?_
  refine Sy.step (by kernel_rfl) (.bool i) (Quiet.cell 0 g0 8 26 4 (pcs x y i) _ _ rfl (by kernel_rfl) (by kernel_rfl) Try.underlying4 rfl _ (by kernel_rfl)) ?_
  refine Sy.nil ?_
  refine Sy.then_ ?_
  cases i
  · refine Sy.cond_f (by kernel_rfl) (by kernel_rfl) ?_
    refine Sy.skip ?_
    refine Sy.then_ ?_
    refine Sy.seq ?_
    refine Sy.region ?_
    refine Sy.step (by kernel_rfl) (.pointer (some ⟨g0, 0, none⟩)) (Quiet.pure (fun _ => by kernel_rfl)) ?_
    refine Sy.step (by kernel_rfl) (fv x) (Quiet.load 0 g0 0 4 26 24 (pcs x y false) _ _ rfl (by kernel_rfl) (by kernel_rfl) Try.underlying24 rfl (by kernel_rfl) _ (by kernel_rfl) (Nat.le_of_ble_eq_true (by kernel_rfl))) ?_
    refine Sy.step (by kernel_rfl) (fv x) (Quiet.call 42 #[fv x] (fun _ => by kernel_rfl) (fun w => refOf_any w x (by first | assumption | exact lt4 _ | decide +kernel))) ?_
    refine Sy.make (by kernel_rfl) 62 (fcs 0) ptr (fun _ => by kernel_rfl) (fun g1 => ?_)
    refine Sy.write (by kernel_rfl) 1 g1 62 (fcs 0) (fcs x) (by kernel_rfl) (Writes.store 0 62 (fcs x) _ _ rfl (by kernel_rfl) (by kernel_rfl) (by kernel_rfl) (Nat.le_of_ble_eq_true (by kernel_rfl)) (by kernel_rfl) (by kernel_rfl)) ?_
    refine Sy.nil ?_
    refine Sy.then_ ?_
    refine Sy.seq ?_
    refine Sy.region ?_
    refine Sy.step (by kernel_rfl) (.pointer (some ⟨g0, 4, none⟩)) (Quiet.pure (fun _ => by kernel_rfl)) ?_
    refine Sy.step (by kernel_rfl) (fv y) (Quiet.load 0 g0 4 4 26 24 (pcs x y false) _ _ rfl (by kernel_rfl) (by kernel_rfl) Try.underlying24 rfl (by kernel_rfl) _ (by kernel_rfl) (Nat.le_of_ble_eq_true (by kernel_rfl))) ?_
    refine Sy.step (by kernel_rfl) (fv y) (Quiet.call 42 #[fv y] (fun _ => by kernel_rfl) (fun w => refOf_any w y (by first | assumption | exact lt4 _ | decide +kernel))) ?_
    refine Sy.make (by kernel_rfl) 62 (fcs 0) ptr (fun _ => by kernel_rfl) (fun g2 => ?_)
    refine Sy.write (by kernel_rfl) 2 g2 62 (fcs 0) (fcs y) (by kernel_rfl) (Writes.store 0 62 (fcs y) _ _ rfl (by kernel_rfl) (by kernel_rfl) (by kernel_rfl) (Nat.le_of_ble_eq_true (by kernel_rfl)) (by kernel_rfl) (by kernel_rfl)) ?_
    refine Sy.nil ?_
    refine Sy.then_ ?_
    refine Sy.seq ?_
    refine Sy.region ?_
    refine Sy.step (by kernel_rfl) (.agg modcs) (Quiet.call 43 #[] (fun _ => by kernel_rfl) (refP_any)) ?_
    refine Sy.make (by kernel_rfl) 66 mod0 ptr (fun _ => by kernel_rfl) (fun g3 => ?_)
    refine Sy.write (by kernel_rfl) 3 g3 66 mod0 modcs (by kernel_rfl) (Writes.store 0 66 modcs _ _ rfl (by kernel_rfl) (by kernel_rfl) (by kernel_rfl) (Nat.le_of_ble_eq_true (by kernel_rfl)) (by kernel_rfl) (by kernel_rfl)) ?_
    refine Sy.nil ?_
    refine Sy.then_ ?_
    refine Sy.seq ?_
    refine Sy.region ?_
    refine Sy.step (by kernel_rfl) (.agg modcs) (Quiet.load 3 g3 0 7 66 66 modcs _ _ rfl (by kernel_rfl) (by kernel_rfl) Try.underlying66 rfl (by kernel_rfl) _ (by kernel_rfl) (Nat.le_of_ble_eq_true (by kernel_rfl))) ?_
    refine Sy.step (by kernel_rfl) (fv x) (Quiet.load 1 g1 0 4 62 62 (fcs x) _ _ rfl (by kernel_rfl) (by kernel_rfl) Try.underlying62 rfl (by kernel_rfl) _ (by kernel_rfl) (Nat.le_of_ble_eq_true (by kernel_rfl))) ?_
    obtain ⟨b1, hb1⟩ : ∃ z : Bool, z = decide (x < pM) := ⟨_, rfl⟩
    refine Sy.step (by kernel_rfl) (.bool b1) (Quiet.call 44 #[.agg modcs, fv x] (fun _ => by kernel_rfl) (fun w => by rw [hb1]; exact rightR_any w x (by first | assumption | exact lt4 _ | decide +kernel))) ?_
    refine Sy.step (by kernel_rfl) (.bool b1) (Quiet.pure (fun _ => by kernel_rfl)) ?_
    refine Sy.nil ?_
    refine Sy.then_ ?_
    refine Sy.seq ?_
    refine Sy.region ?_
    refine Sy.step (by kernel_rfl) (.agg modcs) (Quiet.load 3 g3 0 7 66 66 modcs _ _ rfl (by kernel_rfl) (by kernel_rfl) Try.underlying66 rfl (by kernel_rfl) _ (by kernel_rfl) (Nat.le_of_ble_eq_true (by kernel_rfl))) ?_
    refine Sy.step (by kernel_rfl) (fv y) (Quiet.load 2 g2 0 4 62 62 (fcs y) _ _ rfl (by kernel_rfl) (by kernel_rfl) Try.underlying62 rfl (by kernel_rfl) _ (by kernel_rfl) (Nat.le_of_ble_eq_true (by kernel_rfl))) ?_
    obtain ⟨b2, hb2⟩ : ∃ z : Bool, z = decide (y < pM) := ⟨_, rfl⟩
    refine Sy.step (by kernel_rfl) (.bool b2) (Quiet.call 44 #[.agg modcs, fv y] (fun _ => by kernel_rfl) (fun w => by rw [hb2]; exact rightR_any w y (by first | assumption | exact lt4 _ | decide +kernel))) ?_
    refine Sy.step (by kernel_rfl) (.bool b2) (Quiet.pure (fun _ => by kernel_rfl)) ?_
    refine Sy.nil ?_
    refine Sy.then_ ?_
    refine Sy.seq ?_
    refine Sy.regionD (fun j => false) (by kernel_rfl) ?_
    refine Sy.stepD 0 rfl (by kernel_rfl) (fun _ _ _ _ h => h) (by kernel_rfl) (.bool b1) (Quiet.pure (fun _ => by kernel_rfl)) ?_
    refine Sy.stepD 1 rfl (by kernel_rfl) (fun _ _ _ _ h => h) (by kernel_rfl) (.bool b1) (Quiet.pure (fun _ => by kernel_rfl)) ?_
    cases b1
    · refine Sy.passD 2 rfl (by kernel_rfl) (fun _ _ _ _ h => h) (by kernel_rfl) (by kernel_rfl) ?_
      refine Sy.stepD 3 rfl (by kernel_rfl) (fun _ _ _ _ h => h) (by kernel_rfl) (.bool false) (Quiet.pure (fun _ => by kernel_rfl)) ?_
      refine Sy.stepD 4 rfl (by kernel_rfl) (fun _ _ _ _ h => h) (by kernel_rfl) (.bool false) (Quiet.pure (fun _ => by kernel_rfl)) ?_
      refine Sy.passD 5 rfl (by kernel_rfl) (fun _ _ _ _ h => h) (by kernel_rfl) (by kernel_rfl) ?_
      refine Sy.passD 6 rfl (by kernel_rfl) (fun _ _ _ _ h => h) (by kernel_rfl) (by kernel_rfl) ?_
      refine Sy.passD 7 rfl (by kernel_rfl) (fun _ _ _ _ h => h) (by kernel_rfl) (by kernel_rfl) ?_
      refine Sy.passD 8 rfl (by kernel_rfl) (fun _ _ _ _ h => h) (by kernel_rfl) (by kernel_rfl) ?_
      refine Sy.passD 9 rfl (by kernel_rfl) (fun _ _ _ _ h => h) (by kernel_rfl) (by kernel_rfl) ?_
      refine Sy.passD 10 rfl (by kernel_rfl) (fun _ _ _ _ h => h) (by kernel_rfl) (by kernel_rfl) ?_
      refine Sy.stepD 11 rfl (by kernel_rfl) (fun _ _ _ _ h => h) (by kernel_rfl) (.bool false) (Quiet.pure (fun _ => by kernel_rfl)) ?_
      refine Sy.stepD 12 rfl (by kernel_rfl) (fun _ _ _ _ h => h) (by kernel_rfl) (.bool false) (Quiet.pure (fun _ => by kernel_rfl)) ?_
      refine Sy.doneD (by kernel_rfl) ?_
      refine Sy.then_ ?_
      refine Sy.ret ?_
      rw [show (.bool (rightB x y false) : Value) = .bool false from by rw [rb_x (of_decide_eq_false hb1.symm)]]
      exact Sy.ret1 (v := .bool false) rfl (.inl (show _ = _ by kernel_rfl))
    · obtain ⟨ux, rfl⟩ : ∃ u : Fp, x = u.val := ⟨⟨x, of_decide_eq_true hb1.symm⟩, rfl⟩
      refine Sy.stepD 2 rfl (by kernel_rfl) (fun _ _ _ _ h => h) (by kernel_rfl) (.bool b2) (Quiet.pure (fun _ => by kernel_rfl)) ?_
      refine Sy.stepD 3 rfl (by kernel_rfl) (fun _ _ _ _ h => h) (by kernel_rfl) (.bool b2) (Quiet.pure (fun _ => by kernel_rfl)) ?_
      refine Sy.stepD 4 rfl (by kernel_rfl) (fun _ _ _ _ h => h) (by kernel_rfl) (.bool b2) (Quiet.pure (fun _ => by kernel_rfl)) ?_
      cases b2
      · refine Sy.passD 5 rfl (by kernel_rfl) (fun _ _ _ _ h => h) (by kernel_rfl) (by kernel_rfl) ?_
        refine Sy.passD 6 rfl (by kernel_rfl) (fun _ _ _ _ h => h) (by kernel_rfl) (by kernel_rfl) ?_
        refine Sy.passD 7 rfl (by kernel_rfl) (fun _ _ _ _ h => h) (by kernel_rfl) (by kernel_rfl) ?_
        refine Sy.passD 8 rfl (by kernel_rfl) (fun _ _ _ _ h => h) (by kernel_rfl) (by kernel_rfl) ?_
        refine Sy.passD 9 rfl (by kernel_rfl) (fun _ _ _ _ h => h) (by kernel_rfl) (by kernel_rfl) ?_
        refine Sy.passD 10 rfl (by kernel_rfl) (fun _ _ _ _ h => h) (by kernel_rfl) (by kernel_rfl) ?_
        refine Sy.stepD 11 rfl (by kernel_rfl) (fun _ _ _ _ h => h) (by kernel_rfl) (.bool false) (Quiet.pure (fun _ => by kernel_rfl)) ?_
        refine Sy.stepD 12 rfl (by kernel_rfl) (fun _ _ _ _ h => h) (by kernel_rfl) (.bool false) (Quiet.pure (fun _ => by kernel_rfl)) ?_
        refine Sy.doneD (by kernel_rfl) ?_
        refine Sy.then_ ?_
        refine Sy.ret ?_
        rw [show (.bool (rightB ux.val y false) : Value) = .bool false from by rw [rb_y (of_decide_eq_false hb2.symm)]]
        exact Sy.ret1 (v := .bool false) rfl (.inl (show _ = _ by kernel_rfl))
      · obtain ⟨uy, rfl⟩ : ∃ u : Fp, y = u.val := ⟨⟨y, of_decide_eq_true hb2.symm⟩, rfl⟩
        refine Sy.stepD 5 rfl (by kernel_rfl) (fun _ _ _ _ h => h) (by kernel_rfl) (fv uy.val) (Quiet.load 2 g2 0 4 62 62 (fcs uy.val) _ _ rfl (by kernel_rfl) (by kernel_rfl) Try.underlying62 rfl (by kernel_rfl) _ (by kernel_rfl) (Nat.le_of_ble_eq_true (by kernel_rfl))) ?_
        refine Sy.stepD 6 rfl (by kernel_rfl) (fun _ _ _ _ h => h) (by kernel_rfl) (fv uy.val) (Quiet.load 2 g2 0 4 62 62 (fcs uy.val) _ _ rfl (by kernel_rfl) (by kernel_rfl) Try.underlying62 rfl (by kernel_rfl) _ (by kernel_rfl) (Nat.le_of_ble_eq_true (by kernel_rfl))) ?_
        obtain ⟨z1, hz1⟩ : ∃ z : Fp, z = uy * uy := ⟨_, rfl⟩
        refine Sy.stepD 7 rfl (by kernel_rfl) (fun _ _ _ _ h => h) (by kernel_rfl) (fv z1.val) (Quiet.call 45 #[fv uy.val, fv uy.val] (fun _ => by kernel_rfl) (fun w => by rw [hz1]; exact mulR_c w uy uy)) ?_
        refine Sy.stepD 8 rfl (by kernel_rfl) (fun _ _ _ _ h => h) (by kernel_rfl) (fv ux.val) (Quiet.load 1 g1 0 4 62 62 (fcs ux.val) _ _ rfl (by kernel_rfl) (by kernel_rfl) Try.underlying62 rfl (by kernel_rfl) _ (by kernel_rfl) (Nat.le_of_ble_eq_true (by kernel_rfl))) ?_
        obtain ⟨z2, hz2⟩ : ∃ z : Fp, z = ux * ux * ux + 7 := ⟨_, rfl⟩
        refine Sy.stepD 9 rfl (by kernel_rfl) (fun _ _ _ _ h => h) (by kernel_rfl) (fv z2.val) (Quiet.call 46 #[fv ux.val] (fun _ => by kernel_rfl) (fun w => by rw [hz2]; exact cubeR_c w ux)) ?_
        obtain ⟨b3, hb3⟩ : ∃ z : Bool, z = decide (z1.val = z2.val) := ⟨_, rfl⟩
        refine Sy.stepD 10 rfl (by kernel_rfl) (fun _ _ _ _ h => h) (by kernel_rfl) (.bool b3) (Quiet.pure (fun w => by rw [hb3]; exact eql_num w _ _ _ _ _ _ rfl rfl rfl (by first | assumption | exact lt4 _ | decide +kernel) (by first | assumption | exact lt4 _ | decide +kernel))) ?_
        refine Sy.stepD 11 rfl (by kernel_rfl) (fun _ _ _ _ h => h) (by kernel_rfl) (.bool b3) (Quiet.pure (fun _ => by kernel_rfl)) ?_
        refine Sy.stepD 12 rfl (by kernel_rfl) (fun _ _ _ _ h => h) (by kernel_rfl) (.bool b3) (Quiet.pure (fun _ => by kernel_rfl)) ?_
        refine Sy.doneD (by kernel_rfl) ?_
        refine Sy.then_ ?_
        refine Sy.ret ?_
        rw [show (.bool (rightB ux.val uy.val false) : Value) = .bool b3 from by rw [hb3, rb_xy]; simp only [hz2, hz1]]
        exact Sy.ret1 (v := .bool b3) rfl (.inl (show _ = _ by kernel_rfl))
  · refine Sy.cond_t (by kernel_rfl) (by kernel_rfl) ?_
    refine Sy.seq ?_
    refine Sy.regionD (fun j => false) (by kernel_rfl) ?_
    refine Sy.stepD 0 rfl (by kernel_rfl) (fun _ _ _ _ h => h) (by kernel_rfl) (pv x y true) (Quiet.load 0 g0 0 9 26 26 (pcs x y true) _ _ rfl (by kernel_rfl) (by kernel_rfl) Try.underlying26 rfl (by kernel_rfl) _ (by kernel_rfl) (Nat.le_of_ble_eq_true (by kernel_rfl))) ?_
    refine Sy.stepD 1 rfl (by kernel_rfl) (fun _ _ _ _ h => h) (by kernel_rfl) (pv 0 0 true) (Quiet.call 41 #[] (fun _ => by kernel_rfl) (zeroR_c)) ?_
    obtain ⟨b4, hb4⟩ : ∃ z : Bool, z = sameB x y true 0 0 true := ⟨_, rfl⟩
    refine Sy.stepD 2 rfl (by kernel_rfl) (fun _ _ _ _ h => h) (by kernel_rfl) (.bool b4) (Quiet.pure (fun w => by rw [hb4]; exact eql_pt w _ _ _ _ _ _ _ _ _ _ rfl rfl rfl (by first | assumption | exact lt4 _ | decide +kernel) (by first | assumption | exact lt4 _ | decide +kernel) (by first | assumption | exact lt4 _ | decide +kernel) (by first | assumption | exact lt4 _ | decide +kernel))) ?_
    refine Sy.stepD 3 rfl (by kernel_rfl) (fun _ _ _ _ h => h) (by kernel_rfl) (.bool b4) (Quiet.pure (fun _ => by kernel_rfl)) ?_
    refine Sy.doneD (by kernel_rfl) ?_
    refine Sy.then_ ?_
    refine Sy.ret ?_
    refine Sy.then_ret ?_
    rw [show (.bool (rightB x y true) : Value) = .bool b4 from by rw [hb4, rightB_inf]]
    exact Sy.ret1 (v := .bool b4) rfl (.inl (show _ = _ by kernel_rfl))
set_option maxHeartbeats 4000000 in
set_option maxRecDepth 100000 in
theorem taken_c (w : World) (x y : Nat) (i : Bool) (hx : x < K4) (hy : y < K4) : Calls Try.prog 30 #[pv x y i] w (Gets w (ptv (dec x y i))) := by
  refine Sy.enter (args := [pv x y i]) Try.func30 rfl (Nat.le_of_ble_eq_true (by kernel_rfl)) ?_
  refine Sy.seq ?_
  refine Sy.region ?_
  refine Sy.make (by kernel_rfl) 26 (pcs x y i) ptr (fun _ => by kernel_rfl) (fun g0 => ?_)
  refine Sy.make (by kernel_rfl) 26 (pcs 0 0 false) ptr (fun _ => by kernel_rfl) (fun g1 => ?_)
  refine Sy.nil ?_
  refine Sy.then_ ?_
  refine Sy.seq ?_
  refine Sy.region ?_
  refine Sy.step (by kernel_rfl) (pv x y i) (Quiet.load 0 g0 0 9 26 26 (pcs x y i) _ _ rfl (by kernel_rfl) (by kernel_rfl) Try.underlying26 rfl (by kernel_rfl) _ (by kernel_rfl) (Nat.le_of_ble_eq_true (by kernel_rfl))) ?_
  obtain ⟨b1, hb1⟩ : ∃ z : Bool, z = rightB x y i := ⟨_, rfl⟩
  refine Sy.step (by kernel_rfl) (.bool b1) (Quiet.call 14 #[pv x y i] (fun _ => by kernel_rfl) (by rw [hb1]; exact fun w => rightR_b w x y i (by first | assumption | exact lt4 _ | decide +kernel) (by first | assumption | exact lt4 _ | decide +kernel))) ?_
  refine Sy.step (by kernel_rfl) (.bool b1) (Quiet.pure (fun _ => by kernel_rfl)) ?_
  refine Sy.nil ?_
  refine Sy.then_ ?_
  refine Sy.seq ?_
  refine Sy.seq ?_
  refine Sy.region ?_
  refine Sy.step (by kernel_rfl) (.bool b1) (Quiet.pure (fun _ => by kernel_rfl)) ?_
  cases b1
  · refine Sy.step (by kernel_rfl) (.bool true) (Quiet.pure (fun _ => by kernel_rfl)) ?_
    refine Sy.nil ?_
    refine Sy.then_ ?_
    refine Sy.cond_t (by kernel_rfl) (by kernel_rfl) ?_
    refine Sy.seq ?_
    refine Sy.region ?_
    refine Sy.step (by kernel_rfl) (pv 0 0 true) (Quiet.call 41 #[] (fun _ => by kernel_rfl) (zeroR_c)) ?_
    refine Sy.write (by kernel_rfl) 1 g1 26 (pcs 0 0 false) (pcs 0 0 true) (by kernel_rfl) (Writes.store 0 26 (pcs 0 0 true) _ _ rfl (by kernel_rfl) (by kernel_rfl) (by kernel_rfl) (Nat.le_of_ble_eq_true (by kernel_rfl)) (by kernel_rfl) (by kernel_rfl)) ?_
    refine Sy.nil ?_
    refine Sy.then_ ?_
    refine Sy.ret ?_
    refine Sy.then_ret ?_
    rw [show (ptv (dec x y i) : Value) = pv 0 0 true from ptv_wrong x y i hb1.symm]
    exact Sy.ret1 (v := pv 0 0 true) rfl (.inl (Res.cell (ty' := 26) g1 1 (pcs 0 0 true) _ (by kernel_rfl) (by kernel_rfl) Try.underlying26 rfl (by kernel_rfl) (by kernel_rfl)))
  · refine Sy.step (by kernel_rfl) (.bool false) (Quiet.pure (fun _ => by kernel_rfl)) ?_
    refine Sy.nil ?_
    refine Sy.then_ ?_
    refine Sy.cond_f (by kernel_rfl) (by kernel_rfl) ?_
    refine Sy.skip ?_
    refine Sy.then_ ?_
    refine Sy.seq ?_
    refine Sy.region ?_
    refine Sy.step (by kernel_rfl) (pv x y i) (Quiet.load 0 g0 0 9 26 26 (pcs x y i) _ _ rfl (by kernel_rfl) (by kernel_rfl) Try.underlying26 rfl (by kernel_rfl) _ (by kernel_rfl) (Nat.le_of_ble_eq_true (by kernel_rfl))) ?_
    refine Sy.write (by kernel_rfl) 1 g1 26 (pcs 0 0 false) (pcs x y i) (by kernel_rfl) (Writes.store 0 26 (pcs x y i) _ _ rfl (by kernel_rfl) (by kernel_rfl) (by kernel_rfl) (Nat.le_of_ble_eq_true (by kernel_rfl)) (by kernel_rfl) (by kernel_rfl)) ?_
    refine Sy.nil ?_
    refine Sy.then_ ?_
    refine Sy.ret ?_
    rw [show (ptv (dec x y i) : Value) = pv x y i from ptv_right x y i hb1.symm]
    exact Sy.ret1 (v := pv x y i) rfl (.inl (Res.cell (ty' := 26) g1 1 (pcs x y i) _ (by kernel_rfl) (by kernel_rfl) Try.underlying26 rfl (by kernel_rfl) (by kernel_rfl)))
set_option maxHeartbeats 4000000 in
set_option maxRecDepth 100000 in
theorem negRe_none (w : World) (x y : Nat) (i : Bool) (hx : x < K4) (hy : y < K4) (h : dec x y i = none) : Calls Try.prog 16 #[pv x y i] w (Gets w (ptv (Ec.neg none))) := by
  refine Sy.enter (args := [pv x y i]) Try.func16 rfl (Nat.le_of_ble_eq_true (by kernel_rfl)) ?_
  refine Sy.seq ?_
  refine Sy.region ?_
  refine Sy.make (by kernel_rfl) 26 (pcs x y i) ptr (fun _ => by kernel_rfl) (fun g0 => ?_)
  refine Sy.make (by kernel_rfl) 26 (pcs 0 0 false) ptr (fun _ => by kernel_rfl) (fun g1 => ?_)
  refine Sy.nil ?_
  refine Sy.then_ ?_
  refine Sy.seq ?_
  refine Sy.region ?_
  refine Sy.step (by kernel_rfl) (pv x y i) (Quiet.load 0 g0 0 9 26 26 (pcs x y i) _ _ rfl (by kernel_rfl) (by kernel_rfl) Try.underlying26 rfl (by kernel_rfl) _ (by kernel_rfl) (Nat.le_of_ble_eq_true (by kernel_rfl))) ?_
  refine Sy.step (by kernel_rfl) (pv 0 0 true) (Quiet.call 30 #[pv x y i] (fun _ => by kernel_rfl) (fun w => by have hrr := taken_c w x y i (by first | assumption | exact lt4 _ | decide +kernel) (by first | assumption | exact lt4 _ | decide +kernel); rw [h] at hrr; exact hrr)) ?_
  refine Sy.write (by kernel_rfl) 0 g0 26 (pcs x y i) (pcs 0 0 true) (by kernel_rfl) (Writes.store 0 26 (pcs 0 0 true) _ _ rfl (by kernel_rfl) (by kernel_rfl) (by kernel_rfl) (Nat.le_of_ble_eq_true (by kernel_rfl)) (by kernel_rfl) (by kernel_rfl)) ?_
  refine Sy.nil ?_
  refine Sy.then_ ?_
  refine Sy.seq ?_
  refine Sy.seq ?_
  refine Sy.region ?_
  refine Sy.step (by kernel_rfl) (.pointer (some ⟨g0, 8, none⟩)) (Quiet.pure (fun _ => by kernel_rfl)) ?_
  refine Sy.step (by kernel_rfl) (.bool true) (Quiet.cell 0 g0 8 26 4 (pcs 0 0 true) _ _ rfl (by kernel_rfl) (by kernel_rfl) Try.underlying4 rfl _ (by kernel_rfl)) ?_
  refine Sy.nil ?_
  refine Sy.then_ ?_
  refine Sy.cond_t (by kernel_rfl) (by kernel_rfl) ?_
  refine Sy.seq ?_
  refine Sy.region ?_
  refine Sy.step (by kernel_rfl) (pv 0 0 true) (Quiet.load 0 g0 0 9 26 26 (pcs 0 0 true) _ _ rfl (by kernel_rfl) (by kernel_rfl) Try.underlying26 rfl (by kernel_rfl) _ (by kernel_rfl) (Nat.le_of_ble_eq_true (by kernel_rfl))) ?_
  refine Sy.write (by kernel_rfl) 1 g1 26 (pcs 0 0 false) (pcs 0 0 true) (by kernel_rfl) (Writes.store 0 26 (pcs 0 0 true) _ _ rfl (by kernel_rfl) (by kernel_rfl) (by kernel_rfl) (Nat.le_of_ble_eq_true (by kernel_rfl)) (by kernel_rfl) (by kernel_rfl)) ?_
  refine Sy.nil ?_
  refine Sy.then_ ?_
  refine Sy.ret ?_
  refine Sy.then_ret ?_
  rw [show (ptv (Ec.neg none) : Value) = pv 0 0 true from rfl]
  exact Sy.ret1 (v := pv 0 0 true) rfl (.inl (Res.cell (ty' := 26) g1 1 (pcs 0 0 true) _ (by kernel_rfl) (by kernel_rfl) Try.underlying26 rfl (by kernel_rfl) (by kernel_rfl)))
set_option maxHeartbeats 4000000 in
set_option maxRecDepth 100000 in
theorem negRe_some (w : World) (x y : Nat) (i : Bool) (hx : x < K4) (hy : y < K4) (u v : Fp) (h : dec x y i = some (u, v)) : Calls Try.prog 16 #[pv x y i] w (Gets w (ptv (Ec.neg (some (u, v))))) := by
  refine Sy.enter (args := [pv x y i]) Try.func16 rfl (Nat.le_of_ble_eq_true (by kernel_rfl)) ?_
  refine Sy.seq ?_
  refine Sy.region ?_
  refine Sy.make (by kernel_rfl) 26 (pcs x y i) ptr (fun _ => by kernel_rfl) (fun g0 => ?_)
  refine Sy.make (by kernel_rfl) 26 (pcs 0 0 false) ptr (fun _ => by kernel_rfl) (fun g1 => ?_)
  refine Sy.nil ?_
  refine Sy.then_ ?_
  refine Sy.seq ?_
  refine Sy.region ?_
  refine Sy.step (by kernel_rfl) (pv x y i) (Quiet.load 0 g0 0 9 26 26 (pcs x y i) _ _ rfl (by kernel_rfl) (by kernel_rfl) Try.underlying26 rfl (by kernel_rfl) _ (by kernel_rfl) (Nat.le_of_ble_eq_true (by kernel_rfl))) ?_
  refine Sy.step (by kernel_rfl) (pv u.val v.val false) (Quiet.call 30 #[pv x y i] (fun _ => by kernel_rfl) (fun w => by have hrr := taken_c w x y i (by first | assumption | exact lt4 _ | decide +kernel) (by first | assumption | exact lt4 _ | decide +kernel); rw [h] at hrr; exact hrr)) ?_
  refine Sy.write (by kernel_rfl) 0 g0 26 (pcs x y i) (pcs u.val v.val false) (by kernel_rfl) (Writes.store 0 26 (pcs u.val v.val false) _ _ rfl (by kernel_rfl) (by kernel_rfl) (by kernel_rfl) (Nat.le_of_ble_eq_true (by kernel_rfl)) (by kernel_rfl) (by kernel_rfl)) ?_
  refine Sy.nil ?_
  refine Sy.then_ ?_
  refine Sy.seq ?_
  refine Sy.seq ?_
  refine Sy.region ?_
  refine Sy.step (by kernel_rfl) (.pointer (some ⟨g0, 8, none⟩)) (Quiet.pure (fun _ => by kernel_rfl)) ?_
  refine Sy.step (by kernel_rfl) (.bool false) (Quiet.cell 0 g0 8 26 4 (pcs u.val v.val false) _ _ rfl (by kernel_rfl) (by kernel_rfl) Try.underlying4 rfl _ (by kernel_rfl)) ?_
  refine Sy.nil ?_
  refine Sy.then_ ?_
  refine Sy.cond_f (by kernel_rfl) (by kernel_rfl) ?_
  refine Sy.skip ?_
  refine Sy.then_ ?_
  refine Sy.seq ?_
  refine Sy.regionD (fun j => j == 9) (by kernel_rfl) ?_
  refine Sy.stepD 0 rfl (by kernel_rfl) (fun _ _ _ _ h => h) (by kernel_rfl) (.pointer (some ⟨g0, 0, none⟩)) (Quiet.pure (fun _ => by kernel_rfl)) ?_
  refine Sy.stepD 1 rfl (by kernel_rfl) (fun _ _ _ _ h => h) (by kernel_rfl) (fv u.val) (Quiet.load 0 g0 0 4 26 24 (pcs u.val v.val false) _ _ rfl (by kernel_rfl) (by kernel_rfl) Try.underlying24 rfl (by kernel_rfl) _ (by kernel_rfl) (Nat.le_of_ble_eq_true (by kernel_rfl))) ?_
  refine Sy.stepD 2 rfl (by kernel_rfl) (fun _ _ _ _ h => h) (by kernel_rfl) (fv u.val) (Quiet.call 42 #[fv u.val] (fun _ => by kernel_rfl) (fun w => refOf_any w u.val (by first | assumption | exact lt4 _ | decide +kernel))) ?_
  refine Sy.stepD 3 rfl (by kernel_rfl) (fun _ _ _ _ h => h) (by kernel_rfl) (.agg modcs) (Quiet.call 43 #[] (fun _ => by kernel_rfl) (refP_any)) ?_
  refine Sy.stepD 4 rfl (by kernel_rfl) (fun _ _ _ _ h => h) (by kernel_rfl) (.pointer (some ⟨g0, 4, none⟩)) (Quiet.pure (fun _ => by kernel_rfl)) ?_
  refine Sy.stepD 5 rfl (by kernel_rfl) (fun _ _ _ _ h => h) (by kernel_rfl) (fv v.val) (Quiet.load 0 g0 4 4 26 24 (pcs u.val v.val false) _ _ rfl (by kernel_rfl) (by kernel_rfl) Try.underlying24 rfl (by kernel_rfl) _ (by kernel_rfl) (Nat.le_of_ble_eq_true (by kernel_rfl))) ?_
  refine Sy.stepD 6 rfl (by kernel_rfl) (fun _ _ _ _ h => h) (by kernel_rfl) (fv v.val) (Quiet.call 42 #[fv v.val] (fun _ => by kernel_rfl) (fun w => refOf_any w v.val (by first | assumption | exact lt4 _ | decide +kernel))) ?_
  obtain ⟨z1, hz1⟩ : ∃ z : Fp, z = -v := ⟨_, rfl⟩
  refine Sy.stepD 7 rfl (by kernel_rfl) (fun _ _ _ _ h => h) (by kernel_rfl) (fv z1.val) (Quiet.call 50 #[.agg modcs, fv v.val] (fun _ => by kernel_rfl) (fun w => by rw [hz1]; exact refneg_c w v)) ?_
  refine Sy.stepD 8 rfl (by kernel_rfl) (fun _ _ _ _ h => h) (by kernel_rfl) (pv u.val z1.val false) (Quiet.call 49 #[fv u.val, fv z1.val] (fun _ => by kernel_rfl) (fun w => pointR_c w u.val z1.val (by first | assumption | exact lt4 _ | decide +kernel) (by first | assumption | exact lt4 _ | decide +kernel))) ?_
  refine Sy.writeD 9 rfl (by kernel_rfl) (by rfl) (by kernel_rfl) 1 g1 26 (pcs 0 0 false) (pcs u.val z1.val false) (by kernel_rfl) (Writes.store 0 26 (pcs u.val z1.val false) _ _ rfl (by kernel_rfl) (by kernel_rfl) (by kernel_rfl) (Nat.le_of_ble_eq_true (by kernel_rfl)) (by kernel_rfl) (by kernel_rfl)) ?_
  refine Sy.doneD (by kernel_rfl) ?_
  refine Sy.then_ ?_
  refine Sy.ret ?_
  rw [show (ptv (Ec.neg (some (u, v))) : Value) = pv u.val z1.val false from by rw [hz1]; rfl]
  exact Sy.ret1 (v := pv u.val z1.val false) rfl (.inl (Res.cell (ty' := 26) g1 1 (pcs u.val z1.val false) _ (by kernel_rfl) (by kernel_rfl) Try.underlying26 rfl (by kernel_rfl) (by kernel_rfl)))
theorem negRe_any (w : World) (x y : Nat) (i : Bool) (hx : x < K4) (hy : y < K4) : Calls Try.prog 16 #[pv x y i] w (Gets w (ptv (Ec.neg (dec x y i)))) := by
  rcases h : dec x y i with _ | ⟨u, v⟩
  · exact negRe_none w x y i hx hy h
  · exact negRe_some w x y i hx hy u v h
set_option maxHeartbeats 4000000 in
set_option maxRecDepth 100000 in
theorem addRe_nn (w : World) (x y : Nat) (i : Bool) (x2 y2 : Nat) (i2 : Bool) (hx : x < K4) (hy : y < K4) (hx2 : x2 < K4) (hy2 : y2 < K4) (h : dec x y i = none) (k : dec x2 y2 i2 = none) : Calls Try.prog 18 #[pv x y i, pv x2 y2 i2] w (Gets w (ptv none)) := by
  refine Sy.enter (args := [pv x y i, pv x2 y2 i2]) Try.func18 rfl (Nat.le_of_ble_eq_true (by kernel_rfl)) ?_
  refine Sy.seq ?_
  refine Sy.region ?_
  refine Sy.make (by kernel_rfl) 26 (pcs x y i) ptr (fun _ => by kernel_rfl) (fun g0 => ?_)
  refine Sy.make (by kernel_rfl) 26 (pcs x2 y2 i2) ptr (fun _ => by kernel_rfl) (fun g1 => ?_)
  refine Sy.make (by kernel_rfl) 26 (pcs 0 0 false) ptr (fun _ => by kernel_rfl) (fun g2 => ?_)
  refine Sy.nil ?_
  refine Sy.then_ ?_
  refine Sy.seq ?_
  refine Sy.region ?_
  refine Sy.step (by kernel_rfl) (pv x y i) (Quiet.load 0 g0 0 9 26 26 (pcs x y i) _ _ rfl (by kernel_rfl) (by kernel_rfl) Try.underlying26 rfl (by kernel_rfl) _ (by kernel_rfl) (Nat.le_of_ble_eq_true (by kernel_rfl))) ?_
  refine Sy.step (by kernel_rfl) (pv 0 0 true) (Quiet.call 30 #[pv x y i] (fun _ => by kernel_rfl) (fun w => by have hrr := taken_c w x y i (by first | assumption | exact lt4 _ | decide +kernel) (by first | assumption | exact lt4 _ | decide +kernel); rw [h] at hrr; exact hrr)) ?_
  refine Sy.write (by kernel_rfl) 0 g0 26 (pcs x y i) (pcs 0 0 true) (by kernel_rfl) (Writes.store 0 26 (pcs 0 0 true) _ _ rfl (by kernel_rfl) (by kernel_rfl) (by kernel_rfl) (Nat.le_of_ble_eq_true (by kernel_rfl)) (by kernel_rfl) (by kernel_rfl)) ?_
  refine Sy.nil ?_
  refine Sy.then_ ?_
  refine Sy.seq ?_
  refine Sy.region ?_
  refine Sy.step (by kernel_rfl) (pv x2 y2 i2) (Quiet.load 1 g1 0 9 26 26 (pcs x2 y2 i2) _ _ rfl (by kernel_rfl) (by kernel_rfl) Try.underlying26 rfl (by kernel_rfl) _ (by kernel_rfl) (Nat.le_of_ble_eq_true (by kernel_rfl))) ?_
  refine Sy.step (by kernel_rfl) (pv 0 0 true) (Quiet.call 30 #[pv x2 y2 i2] (fun _ => by kernel_rfl) (fun w => by have hrr := taken_c w x2 y2 i2 (by first | assumption | exact lt4 _ | decide +kernel) (by first | assumption | exact lt4 _ | decide +kernel); rw [k] at hrr; exact hrr)) ?_
  refine Sy.write (by kernel_rfl) 1 g1 26 (pcs x2 y2 i2) (pcs 0 0 true) (by kernel_rfl) (Writes.store 0 26 (pcs 0 0 true) _ _ rfl (by kernel_rfl) (by kernel_rfl) (by kernel_rfl) (Nat.le_of_ble_eq_true (by kernel_rfl)) (by kernel_rfl) (by kernel_rfl)) ?_
  refine Sy.nil ?_
  refine Sy.then_ ?_
  refine Sy.seq ?_
  refine Sy.seq ?_
  refine Sy.region ?_
  refine Sy.step (by kernel_rfl) (.pointer (some ⟨g0, 8, none⟩)) (Quiet.pure (fun _ => by kernel_rfl)) ?_
  refine Sy.step (by kernel_rfl) (.bool true) (Quiet.cell 0 g0 8 26 4 (pcs 0 0 true) _ _ rfl (by kernel_rfl) (by kernel_rfl) Try.underlying4 rfl _ (by kernel_rfl)) ?_
  refine Sy.nil ?_
  refine Sy.then_ ?_
  refine Sy.cond_t (by kernel_rfl) (by kernel_rfl) ?_
  refine Sy.seq ?_
  refine Sy.region ?_
  refine Sy.step (by kernel_rfl) (pv 0 0 true) (Quiet.load 1 g1 0 9 26 26 (pcs 0 0 true) _ _ rfl (by kernel_rfl) (by kernel_rfl) Try.underlying26 rfl (by kernel_rfl) _ (by kernel_rfl) (Nat.le_of_ble_eq_true (by kernel_rfl))) ?_
  refine Sy.write (by kernel_rfl) 2 g2 26 (pcs 0 0 false) (pcs 0 0 true) (by kernel_rfl) (Writes.store 0 26 (pcs 0 0 true) _ _ rfl (by kernel_rfl) (by kernel_rfl) (by kernel_rfl) (Nat.le_of_ble_eq_true (by kernel_rfl)) (by kernel_rfl) (by kernel_rfl)) ?_
  refine Sy.nil ?_
  refine Sy.then_ ?_
  refine Sy.ret ?_
  refine Sy.then_ret ?_
  rw [show (ptv none : Value) = pv 0 0 true from rfl]
  exact Sy.ret1 (v := pv 0 0 true) rfl (.inl (Res.cell (ty' := 26) g2 2 (pcs 0 0 true) _ (by kernel_rfl) (by kernel_rfl) Try.underlying26 rfl (by kernel_rfl) (by kernel_rfl)))
set_option maxHeartbeats 4000000 in
set_option maxRecDepth 100000 in
theorem addRe_ns (w : World) (x y : Nat) (i : Bool) (x2 y2 : Nat) (i2 : Bool) (hx : x < K4) (hy : y < K4) (hx2 : x2 < K4) (hy2 : y2 < K4) (c d : Fp) (h : dec x y i = none) (k : dec x2 y2 i2 = some (c, d)) : Calls Try.prog 18 #[pv x y i, pv x2 y2 i2] w (Gets w (ptv (some (c, d)))) := by
  refine Sy.enter (args := [pv x y i, pv x2 y2 i2]) Try.func18 rfl (Nat.le_of_ble_eq_true (by kernel_rfl)) ?_
  refine Sy.seq ?_
  refine Sy.region ?_
  refine Sy.make (by kernel_rfl) 26 (pcs x y i) ptr (fun _ => by kernel_rfl) (fun g0 => ?_)
  refine Sy.make (by kernel_rfl) 26 (pcs x2 y2 i2) ptr (fun _ => by kernel_rfl) (fun g1 => ?_)
  refine Sy.make (by kernel_rfl) 26 (pcs 0 0 false) ptr (fun _ => by kernel_rfl) (fun g2 => ?_)
  refine Sy.nil ?_
  refine Sy.then_ ?_
  refine Sy.seq ?_
  refine Sy.region ?_
  refine Sy.step (by kernel_rfl) (pv x y i) (Quiet.load 0 g0 0 9 26 26 (pcs x y i) _ _ rfl (by kernel_rfl) (by kernel_rfl) Try.underlying26 rfl (by kernel_rfl) _ (by kernel_rfl) (Nat.le_of_ble_eq_true (by kernel_rfl))) ?_
  refine Sy.step (by kernel_rfl) (pv 0 0 true) (Quiet.call 30 #[pv x y i] (fun _ => by kernel_rfl) (fun w => by have hrr := taken_c w x y i (by first | assumption | exact lt4 _ | decide +kernel) (by first | assumption | exact lt4 _ | decide +kernel); rw [h] at hrr; exact hrr)) ?_
  refine Sy.write (by kernel_rfl) 0 g0 26 (pcs x y i) (pcs 0 0 true) (by kernel_rfl) (Writes.store 0 26 (pcs 0 0 true) _ _ rfl (by kernel_rfl) (by kernel_rfl) (by kernel_rfl) (Nat.le_of_ble_eq_true (by kernel_rfl)) (by kernel_rfl) (by kernel_rfl)) ?_
  refine Sy.nil ?_
  refine Sy.then_ ?_
  refine Sy.seq ?_
  refine Sy.region ?_
  refine Sy.step (by kernel_rfl) (pv x2 y2 i2) (Quiet.load 1 g1 0 9 26 26 (pcs x2 y2 i2) _ _ rfl (by kernel_rfl) (by kernel_rfl) Try.underlying26 rfl (by kernel_rfl) _ (by kernel_rfl) (Nat.le_of_ble_eq_true (by kernel_rfl))) ?_
  refine Sy.step (by kernel_rfl) (pv c.val d.val false) (Quiet.call 30 #[pv x2 y2 i2] (fun _ => by kernel_rfl) (fun w => by have hrr := taken_c w x2 y2 i2 (by first | assumption | exact lt4 _ | decide +kernel) (by first | assumption | exact lt4 _ | decide +kernel); rw [k] at hrr; exact hrr)) ?_
  refine Sy.write (by kernel_rfl) 1 g1 26 (pcs x2 y2 i2) (pcs c.val d.val false) (by kernel_rfl) (Writes.store 0 26 (pcs c.val d.val false) _ _ rfl (by kernel_rfl) (by kernel_rfl) (by kernel_rfl) (Nat.le_of_ble_eq_true (by kernel_rfl)) (by kernel_rfl) (by kernel_rfl)) ?_
  refine Sy.nil ?_
  refine Sy.then_ ?_
  refine Sy.seq ?_
  refine Sy.seq ?_
  refine Sy.region ?_
  refine Sy.step (by kernel_rfl) (.pointer (some ⟨g0, 8, none⟩)) (Quiet.pure (fun _ => by kernel_rfl)) ?_
  refine Sy.step (by kernel_rfl) (.bool true) (Quiet.cell 0 g0 8 26 4 (pcs 0 0 true) _ _ rfl (by kernel_rfl) (by kernel_rfl) Try.underlying4 rfl _ (by kernel_rfl)) ?_
  refine Sy.nil ?_
  refine Sy.then_ ?_
  refine Sy.cond_t (by kernel_rfl) (by kernel_rfl) ?_
  refine Sy.seq ?_
  refine Sy.region ?_
  refine Sy.step (by kernel_rfl) (pv c.val d.val false) (Quiet.load 1 g1 0 9 26 26 (pcs c.val d.val false) _ _ rfl (by kernel_rfl) (by kernel_rfl) Try.underlying26 rfl (by kernel_rfl) _ (by kernel_rfl) (Nat.le_of_ble_eq_true (by kernel_rfl))) ?_
  refine Sy.write (by kernel_rfl) 2 g2 26 (pcs 0 0 false) (pcs c.val d.val false) (by kernel_rfl) (Writes.store 0 26 (pcs c.val d.val false) _ _ rfl (by kernel_rfl) (by kernel_rfl) (by kernel_rfl) (Nat.le_of_ble_eq_true (by kernel_rfl)) (by kernel_rfl) (by kernel_rfl)) ?_
  refine Sy.nil ?_
  refine Sy.then_ ?_
  refine Sy.ret ?_
  refine Sy.then_ret ?_
  rw [show (ptv (some (c, d)) : Value) = pv c.val d.val false from rfl]
  exact Sy.ret1 (v := pv c.val d.val false) rfl (.inl (Res.cell (ty' := 26) g2 2 (pcs c.val d.val false) _ (by kernel_rfl) (by kernel_rfl) Try.underlying26 rfl (by kernel_rfl) (by kernel_rfl)))
set_option maxHeartbeats 4000000 in
set_option maxRecDepth 100000 in
theorem addRe_sn (w : World) (x y : Nat) (i : Bool) (x2 y2 : Nat) (i2 : Bool) (hx : x < K4) (hy : y < K4) (hx2 : x2 < K4) (hy2 : y2 < K4) (u v : Fp) (h : dec x y i = some (u, v)) (k : dec x2 y2 i2 = none) : Calls Try.prog 18 #[pv x y i, pv x2 y2 i2] w (Gets w (ptv (some (u, v)))) := by
  refine Sy.enter (args := [pv x y i, pv x2 y2 i2]) Try.func18 rfl (Nat.le_of_ble_eq_true (by kernel_rfl)) ?_
  refine Sy.seq ?_
  refine Sy.region ?_
  refine Sy.make (by kernel_rfl) 26 (pcs x y i) ptr (fun _ => by kernel_rfl) (fun g0 => ?_)
  refine Sy.make (by kernel_rfl) 26 (pcs x2 y2 i2) ptr (fun _ => by kernel_rfl) (fun g1 => ?_)
  refine Sy.make (by kernel_rfl) 26 (pcs 0 0 false) ptr (fun _ => by kernel_rfl) (fun g2 => ?_)
  refine Sy.nil ?_
  refine Sy.then_ ?_
  refine Sy.seq ?_
  refine Sy.region ?_
  refine Sy.step (by kernel_rfl) (pv x y i) (Quiet.load 0 g0 0 9 26 26 (pcs x y i) _ _ rfl (by kernel_rfl) (by kernel_rfl) Try.underlying26 rfl (by kernel_rfl) _ (by kernel_rfl) (Nat.le_of_ble_eq_true (by kernel_rfl))) ?_
  refine Sy.step (by kernel_rfl) (pv u.val v.val false) (Quiet.call 30 #[pv x y i] (fun _ => by kernel_rfl) (fun w => by have hrr := taken_c w x y i (by first | assumption | exact lt4 _ | decide +kernel) (by first | assumption | exact lt4 _ | decide +kernel); rw [h] at hrr; exact hrr)) ?_
  refine Sy.write (by kernel_rfl) 0 g0 26 (pcs x y i) (pcs u.val v.val false) (by kernel_rfl) (Writes.store 0 26 (pcs u.val v.val false) _ _ rfl (by kernel_rfl) (by kernel_rfl) (by kernel_rfl) (Nat.le_of_ble_eq_true (by kernel_rfl)) (by kernel_rfl) (by kernel_rfl)) ?_
  refine Sy.nil ?_
  refine Sy.then_ ?_
  refine Sy.seq ?_
  refine Sy.region ?_
  refine Sy.step (by kernel_rfl) (pv x2 y2 i2) (Quiet.load 1 g1 0 9 26 26 (pcs x2 y2 i2) _ _ rfl (by kernel_rfl) (by kernel_rfl) Try.underlying26 rfl (by kernel_rfl) _ (by kernel_rfl) (Nat.le_of_ble_eq_true (by kernel_rfl))) ?_
  refine Sy.step (by kernel_rfl) (pv 0 0 true) (Quiet.call 30 #[pv x2 y2 i2] (fun _ => by kernel_rfl) (fun w => by have hrr := taken_c w x2 y2 i2 (by first | assumption | exact lt4 _ | decide +kernel) (by first | assumption | exact lt4 _ | decide +kernel); rw [k] at hrr; exact hrr)) ?_
  refine Sy.write (by kernel_rfl) 1 g1 26 (pcs x2 y2 i2) (pcs 0 0 true) (by kernel_rfl) (Writes.store 0 26 (pcs 0 0 true) _ _ rfl (by kernel_rfl) (by kernel_rfl) (by kernel_rfl) (Nat.le_of_ble_eq_true (by kernel_rfl)) (by kernel_rfl) (by kernel_rfl)) ?_
  refine Sy.nil ?_
  refine Sy.then_ ?_
  refine Sy.seq ?_
  refine Sy.seq ?_
  refine Sy.region ?_
  refine Sy.step (by kernel_rfl) (.pointer (some ⟨g0, 8, none⟩)) (Quiet.pure (fun _ => by kernel_rfl)) ?_
  refine Sy.step (by kernel_rfl) (.bool false) (Quiet.cell 0 g0 8 26 4 (pcs u.val v.val false) _ _ rfl (by kernel_rfl) (by kernel_rfl) Try.underlying4 rfl _ (by kernel_rfl)) ?_
  refine Sy.nil ?_
  refine Sy.then_ ?_
  refine Sy.cond_f (by kernel_rfl) (by kernel_rfl) ?_
  refine Sy.skip ?_
  refine Sy.then_ ?_
  refine Sy.seq ?_
  refine Sy.seq ?_
  refine Sy.region ?_
  refine Sy.step (by kernel_rfl) (.pointer (some ⟨g1, 8, none⟩)) (Quiet.pure (fun _ => by kernel_rfl)) ?_
  refine Sy.step (by kernel_rfl) (.bool true) (Quiet.cell 1 g1 8 26 4 (pcs 0 0 true) _ _ rfl (by kernel_rfl) (by kernel_rfl) Try.underlying4 rfl _ (by kernel_rfl)) ?_
  refine Sy.nil ?_
  refine Sy.then_ ?_
  refine Sy.cond_t (by kernel_rfl) (by kernel_rfl) ?_
  refine Sy.seq ?_
  refine Sy.region ?_
  refine Sy.step (by kernel_rfl) (pv u.val v.val false) (Quiet.load 0 g0 0 9 26 26 (pcs u.val v.val false) _ _ rfl (by kernel_rfl) (by kernel_rfl) Try.underlying26 rfl (by kernel_rfl) _ (by kernel_rfl) (Nat.le_of_ble_eq_true (by kernel_rfl))) ?_
  refine Sy.write (by kernel_rfl) 2 g2 26 (pcs 0 0 false) (pcs u.val v.val false) (by kernel_rfl) (Writes.store 0 26 (pcs u.val v.val false) _ _ rfl (by kernel_rfl) (by kernel_rfl) (by kernel_rfl) (Nat.le_of_ble_eq_true (by kernel_rfl)) (by kernel_rfl) (by kernel_rfl)) ?_
  refine Sy.nil ?_
  refine Sy.then_ ?_
  refine Sy.ret ?_
  refine Sy.then_ret ?_
  rw [show (ptv (some (u, v)) : Value) = pv u.val v.val false from rfl]
  exact Sy.ret1 (v := pv u.val v.val false) rfl (.inl (Res.cell (ty' := 26) g2 2 (pcs u.val v.val false) _ (by kernel_rfl) (by kernel_rfl) Try.underlying26 rfl (by kernel_rfl) (by kernel_rfl)))
set_option maxHeartbeats 4000000 in
set_option maxRecDepth 100000 in
theorem addRe_ss (w : World) (x y : Nat) (i : Bool) (x2 y2 : Nat) (i2 : Bool) (hx : x < K4) (hy : y < K4) (hx2 : x2 < K4) (hy2 : y2 < K4) (u v c d : Fp) (h : dec x y i = some (u, v)) (k : dec x2 y2 i2 = some (c, d)) (ho : v * v = u * u * u + 7) (hk : d * d = c * c * c + 7) : Calls Try.prog 18 #[pv x y i, pv x2 y2 i2] w (Gets w (ptv (Ec.add finv (some (u, v)) (some (c, d))))) := by
  refine Sy.enter (args := [pv x y i, pv x2 y2 i2]) Try.func18 rfl (Nat.le_of_ble_eq_true (by kernel_rfl)) ?_
  refine Sy.seq ?_
  refine Sy.region ?_
  refine Sy.make (by kernel_rfl) 26 (pcs x y i) ptr (fun _ => by kernel_rfl) (fun g0 => ?_)
  refine Sy.make (by kernel_rfl) 26 (pcs x2 y2 i2) ptr (fun _ => by kernel_rfl) (fun g1 => ?_)
  refine Sy.make (by kernel_rfl) 26 (pcs 0 0 false) ptr (fun _ => by kernel_rfl) (fun g2 => ?_)
  refine Sy.nil ?_
  refine Sy.then_ ?_
  refine Sy.seq ?_
  refine Sy.region ?_
  refine Sy.step (by kernel_rfl) (pv x y i) (Quiet.load 0 g0 0 9 26 26 (pcs x y i) _ _ rfl (by kernel_rfl) (by kernel_rfl) Try.underlying26 rfl (by kernel_rfl) _ (by kernel_rfl) (Nat.le_of_ble_eq_true (by kernel_rfl))) ?_
  refine Sy.step (by kernel_rfl) (pv u.val v.val false) (Quiet.call 30 #[pv x y i] (fun _ => by kernel_rfl) (fun w => by have hrr := taken_c w x y i (by first | assumption | exact lt4 _ | decide +kernel) (by first | assumption | exact lt4 _ | decide +kernel); rw [h] at hrr; exact hrr)) ?_
  refine Sy.write (by kernel_rfl) 0 g0 26 (pcs x y i) (pcs u.val v.val false) (by kernel_rfl) (Writes.store 0 26 (pcs u.val v.val false) _ _ rfl (by kernel_rfl) (by kernel_rfl) (by kernel_rfl) (Nat.le_of_ble_eq_true (by kernel_rfl)) (by kernel_rfl) (by kernel_rfl)) ?_
  refine Sy.nil ?_
  refine Sy.then_ ?_
  refine Sy.seq ?_
  refine Sy.region ?_
  refine Sy.step (by kernel_rfl) (pv x2 y2 i2) (Quiet.load 1 g1 0 9 26 26 (pcs x2 y2 i2) _ _ rfl (by kernel_rfl) (by kernel_rfl) Try.underlying26 rfl (by kernel_rfl) _ (by kernel_rfl) (Nat.le_of_ble_eq_true (by kernel_rfl))) ?_
  refine Sy.step (by kernel_rfl) (pv c.val d.val false) (Quiet.call 30 #[pv x2 y2 i2] (fun _ => by kernel_rfl) (fun w => by have hrr := taken_c w x2 y2 i2 (by first | assumption | exact lt4 _ | decide +kernel) (by first | assumption | exact lt4 _ | decide +kernel); rw [k] at hrr; exact hrr)) ?_
  refine Sy.write (by kernel_rfl) 1 g1 26 (pcs x2 y2 i2) (pcs c.val d.val false) (by kernel_rfl) (Writes.store 0 26 (pcs c.val d.val false) _ _ rfl (by kernel_rfl) (by kernel_rfl) (by kernel_rfl) (Nat.le_of_ble_eq_true (by kernel_rfl)) (by kernel_rfl) (by kernel_rfl)) ?_
  refine Sy.nil ?_
  refine Sy.then_ ?_
  refine Sy.seq ?_
  refine Sy.seq ?_
  refine Sy.region ?_
  refine Sy.step (by kernel_rfl) (.pointer (some ⟨g0, 8, none⟩)) (Quiet.pure (fun _ => by kernel_rfl)) ?_
  refine Sy.step (by kernel_rfl) (.bool false) (Quiet.cell 0 g0 8 26 4 (pcs u.val v.val false) _ _ rfl (by kernel_rfl) (by kernel_rfl) Try.underlying4 rfl _ (by kernel_rfl)) ?_
  refine Sy.nil ?_
  refine Sy.then_ ?_
  refine Sy.cond_f (by kernel_rfl) (by kernel_rfl) ?_
  refine Sy.skip ?_
  refine Sy.then_ ?_
  refine Sy.seq ?_
  refine Sy.seq ?_
  refine Sy.region ?_
  refine Sy.step (by kernel_rfl) (.pointer (some ⟨g1, 8, none⟩)) (Quiet.pure (fun _ => by kernel_rfl)) ?_
  refine Sy.step (by kernel_rfl) (.bool false) (Quiet.cell 1 g1 8 26 4 (pcs c.val d.val false) _ _ rfl (by kernel_rfl) (by kernel_rfl) Try.underlying4 rfl _ (by kernel_rfl)) ?_
  refine Sy.nil ?_
  refine Sy.then_ ?_
  refine Sy.cond_f (by kernel_rfl) (by kernel_rfl) ?_
  refine Sy.skip ?_
  refine Sy.then_ ?_
  refine Sy.seq ?_
  refine Sy.region ?_
  refine Sy.step (by kernel_rfl) (.pointer (some ⟨g0, 0, none⟩)) (Quiet.pure (fun _ => by kernel_rfl)) ?_
  refine Sy.step (by kernel_rfl) (fv u.val) (Quiet.load 0 g0 0 4 26 24 (pcs u.val v.val false) _ _ rfl (by kernel_rfl) (by kernel_rfl) Try.underlying24 rfl (by kernel_rfl) _ (by kernel_rfl) (Nat.le_of_ble_eq_true (by kernel_rfl))) ?_
  refine Sy.step (by kernel_rfl) (fv u.val) (Quiet.call 42 #[fv u.val] (fun _ => by kernel_rfl) (fun w => refOf_any w u.val (by first | assumption | exact lt4 _ | decide +kernel))) ?_
  refine Sy.make (by kernel_rfl) 62 (fcs 0) ptr (fun _ => by kernel_rfl) (fun g3 => ?_)
  refine Sy.write (by kernel_rfl) 3 g3 62 (fcs 0) (fcs u.val) (by kernel_rfl) (Writes.store 0 62 (fcs u.val) _ _ rfl (by kernel_rfl) (by kernel_rfl) (by kernel_rfl) (Nat.le_of_ble_eq_true (by kernel_rfl)) (by kernel_rfl) (by kernel_rfl)) ?_
  refine Sy.nil ?_
  refine Sy.then_ ?_
  refine Sy.seq ?_
  refine Sy.region ?_
  refine Sy.step (by kernel_rfl) (.pointer (some ⟨g0, 4, none⟩)) (Quiet.pure (fun _ => by kernel_rfl)) ?_
  refine Sy.step (by kernel_rfl) (fv v.val) (Quiet.load 0 g0 4 4 26 24 (pcs u.val v.val false) _ _ rfl (by kernel_rfl) (by kernel_rfl) Try.underlying24 rfl (by kernel_rfl) _ (by kernel_rfl) (Nat.le_of_ble_eq_true (by kernel_rfl))) ?_
  refine Sy.step (by kernel_rfl) (fv v.val) (Quiet.call 42 #[fv v.val] (fun _ => by kernel_rfl) (fun w => refOf_any w v.val (by first | assumption | exact lt4 _ | decide +kernel))) ?_
  refine Sy.make (by kernel_rfl) 62 (fcs 0) ptr (fun _ => by kernel_rfl) (fun g4 => ?_)
  refine Sy.write (by kernel_rfl) 4 g4 62 (fcs 0) (fcs v.val) (by kernel_rfl) (Writes.store 0 62 (fcs v.val) _ _ rfl (by kernel_rfl) (by kernel_rfl) (by kernel_rfl) (Nat.le_of_ble_eq_true (by kernel_rfl)) (by kernel_rfl) (by kernel_rfl)) ?_
  refine Sy.nil ?_
  refine Sy.then_ ?_
  refine Sy.seq ?_
  refine Sy.region ?_
  refine Sy.step (by kernel_rfl) (.pointer (some ⟨g1, 0, none⟩)) (Quiet.pure (fun _ => by kernel_rfl)) ?_
  refine Sy.step (by kernel_rfl) (fv c.val) (Quiet.load 1 g1 0 4 26 24 (pcs c.val d.val false) _ _ rfl (by kernel_rfl) (by kernel_rfl) Try.underlying24 rfl (by kernel_rfl) _ (by kernel_rfl) (Nat.le_of_ble_eq_true (by kernel_rfl))) ?_
  refine Sy.step (by kernel_rfl) (fv c.val) (Quiet.call 42 #[fv c.val] (fun _ => by kernel_rfl) (fun w => refOf_any w c.val (by first | assumption | exact lt4 _ | decide +kernel))) ?_
  refine Sy.make (by kernel_rfl) 62 (fcs 0) ptr (fun _ => by kernel_rfl) (fun g5 => ?_)
  refine Sy.write (by kernel_rfl) 5 g5 62 (fcs 0) (fcs c.val) (by kernel_rfl) (Writes.store 0 62 (fcs c.val) _ _ rfl (by kernel_rfl) (by kernel_rfl) (by kernel_rfl) (Nat.le_of_ble_eq_true (by kernel_rfl)) (by kernel_rfl) (by kernel_rfl)) ?_
  refine Sy.nil ?_
  refine Sy.then_ ?_
  refine Sy.seq ?_
  refine Sy.region ?_
  refine Sy.step (by kernel_rfl) (.pointer (some ⟨g1, 4, none⟩)) (Quiet.pure (fun _ => by kernel_rfl)) ?_
  refine Sy.step (by kernel_rfl) (fv d.val) (Quiet.load 1 g1 4 4 26 24 (pcs c.val d.val false) _ _ rfl (by kernel_rfl) (by kernel_rfl) Try.underlying24 rfl (by kernel_rfl) _ (by kernel_rfl) (Nat.le_of_ble_eq_true (by kernel_rfl))) ?_
  refine Sy.step (by kernel_rfl) (fv d.val) (Quiet.call 42 #[fv d.val] (fun _ => by kernel_rfl) (fun w => refOf_any w d.val (by first | assumption | exact lt4 _ | decide +kernel))) ?_
  refine Sy.make (by kernel_rfl) 62 (fcs 0) ptr (fun _ => by kernel_rfl) (fun g6 => ?_)
  refine Sy.write (by kernel_rfl) 6 g6 62 (fcs 0) (fcs d.val) (by kernel_rfl) (Writes.store 0 62 (fcs d.val) _ _ rfl (by kernel_rfl) (by kernel_rfl) (by kernel_rfl) (Nat.le_of_ble_eq_true (by kernel_rfl)) (by kernel_rfl) (by kernel_rfl)) ?_
  refine Sy.nil ?_
  refine Sy.then_ ?_
  refine Sy.seq ?_
  refine Sy.region ?_
  refine Sy.step (by kernel_rfl) (fv d.val) (Quiet.load 6 g6 0 4 62 62 (fcs d.val) _ _ rfl (by kernel_rfl) (by kernel_rfl) Try.underlying62 rfl (by kernel_rfl) _ (by kernel_rfl) (Nat.le_of_ble_eq_true (by kernel_rfl))) ?_
  refine Sy.step (by kernel_rfl) (fv v.val) (Quiet.load 4 g4 0 4 62 62 (fcs v.val) _ _ rfl (by kernel_rfl) (by kernel_rfl) Try.underlying62 rfl (by kernel_rfl) _ (by kernel_rfl) (Nat.le_of_ble_eq_true (by kernel_rfl))) ?_
  obtain ⟨z1, hz1⟩ : ∃ z : Fp, z = d - v := ⟨_, rfl⟩
  refine Sy.step (by kernel_rfl) (fv z1.val) (Quiet.call 53 #[fv d.val, fv v.val] (fun _ => by kernel_rfl) (fun w => by rw [hz1]; exact subR_c w d v)) ?_
  refine Sy.make (by kernel_rfl) 62 (fcs 0) ptr (fun _ => by kernel_rfl) (fun g7 => ?_)
  refine Sy.write (by kernel_rfl) 7 g7 62 (fcs 0) (fcs z1.val) (by kernel_rfl) (Writes.store 0 62 (fcs z1.val) _ _ rfl (by kernel_rfl) (by kernel_rfl) (by kernel_rfl) (Nat.le_of_ble_eq_true (by kernel_rfl)) (by kernel_rfl) (by kernel_rfl)) ?_
  refine Sy.nil ?_
  refine Sy.then_ ?_
  refine Sy.seq ?_
  refine Sy.region ?_
  refine Sy.step (by kernel_rfl) (fv c.val) (Quiet.load 5 g5 0 4 62 62 (fcs c.val) _ _ rfl (by kernel_rfl) (by kernel_rfl) Try.underlying62 rfl (by kernel_rfl) _ (by kernel_rfl) (Nat.le_of_ble_eq_true (by kernel_rfl))) ?_
  refine Sy.step (by kernel_rfl) (fv u.val) (Quiet.load 3 g3 0 4 62 62 (fcs u.val) _ _ rfl (by kernel_rfl) (by kernel_rfl) Try.underlying62 rfl (by kernel_rfl) _ (by kernel_rfl) (Nat.le_of_ble_eq_true (by kernel_rfl))) ?_
  obtain ⟨z2, hz2⟩ : ∃ z : Fp, z = c - u := ⟨_, rfl⟩
  refine Sy.step (by kernel_rfl) (fv z2.val) (Quiet.call 53 #[fv c.val, fv u.val] (fun _ => by kernel_rfl) (fun w => by rw [hz2]; exact subR_c w c u)) ?_
  refine Sy.make (by kernel_rfl) 62 (fcs 0) ptr (fun _ => by kernel_rfl) (fun g8 => ?_)
  refine Sy.write (by kernel_rfl) 8 g8 62 (fcs 0) (fcs z2.val) (by kernel_rfl) (Writes.store 0 62 (fcs z2.val) _ _ rfl (by kernel_rfl) (by kernel_rfl) (by kernel_rfl) (Nat.le_of_ble_eq_true (by kernel_rfl)) (by kernel_rfl) (by kernel_rfl)) ?_
  refine Sy.nil ?_
  refine Sy.then_ ?_
  refine Sy.seq ?_
  refine Sy.seq ?_
  refine Sy.region ?_
  refine Sy.step (by kernel_rfl) (fv u.val) (Quiet.load 3 g3 0 4 62 62 (fcs u.val) _ _ rfl (by kernel_rfl) (by kernel_rfl) Try.underlying62 rfl (by kernel_rfl) _ (by kernel_rfl) (Nat.le_of_ble_eq_true (by kernel_rfl))) ?_
  refine Sy.step (by kernel_rfl) (fv c.val) (Quiet.load 5 g5 0 4 62 62 (fcs c.val) _ _ rfl (by kernel_rfl) (by kernel_rfl) Try.underlying62 rfl (by kernel_rfl) _ (by kernel_rfl) (Nat.le_of_ble_eq_true (by kernel_rfl))) ?_
  obtain ⟨b1, hb1⟩ : ∃ z : Bool, z = decide (u.val = c.val) := ⟨_, rfl⟩
  refine Sy.step (by kernel_rfl) (.bool b1) (Quiet.pure (fun w => by rw [hb1]; exact eql_num w _ _ _ _ _ _ rfl rfl rfl (by first | assumption | exact lt4 _ | decide +kernel) (by first | assumption | exact lt4 _ | decide +kernel))) ?_
  refine Sy.nil ?_
  refine Sy.then_ ?_
  cases b1
  · have e1 : u ≠ c := fun e => of_decide_eq_false hb1.symm (congrArg Fin.val e)
    refine Sy.cond_f (by kernel_rfl) (by kernel_rfl) ?_
    refine Sy.skip ?_
    refine Sy.then_ ?_
    refine Sy.seq ?_
    refine Sy.regionD (fun j => j == 6) (by kernel_rfl) ?_
    refine Sy.stepD 0 rfl (by kernel_rfl) (fun _ _ _ _ h => h) (by kernel_rfl) (fv z1.val) (Quiet.load 7 g7 0 4 62 62 (fcs z1.val) _ _ rfl (by kernel_rfl) (by kernel_rfl) Try.underlying62 rfl (by kernel_rfl) _ (by kernel_rfl) (Nat.le_of_ble_eq_true (by kernel_rfl))) ?_
    refine Sy.stepD 1 rfl (by kernel_rfl) (fun _ _ _ _ h => h) (by kernel_rfl) (.agg modcs) (Quiet.call 43 #[] (fun _ => by kernel_rfl) (refP_any)) ?_
    refine Sy.stepD 2 rfl (by kernel_rfl) (fun _ _ _ _ h => h) (by kernel_rfl) (fv z2.val) (Quiet.load 8 g8 0 4 62 62 (fcs z2.val) _ _ rfl (by kernel_rfl) (by kernel_rfl) Try.underlying62 rfl (by kernel_rfl) _ (by kernel_rfl) (Nat.le_of_ble_eq_true (by kernel_rfl))) ?_
    obtain ⟨z3, hz3⟩ : ∃ z : Fp, z = finv z2 := ⟨_, rfl⟩
    refine Sy.stepD 3 rfl (by kernel_rfl) (fun _ _ _ _ h => h) (by kernel_rfl) (fv z3.val) (Quiet.call 55 #[.agg modcs, fv z2.val] (fun _ => by kernel_rfl) (fun w => by rw [hz3]; exact refinv_c w z2)) ?_
    obtain ⟨z4, hz4⟩ : ∃ z : Fp, z = z1 * z3 := ⟨_, rfl⟩
    refine Sy.stepD 4 rfl (by kernel_rfl) (fun _ _ _ _ h => h) (by kernel_rfl) (fv z4.val) (Quiet.call 45 #[fv z1.val, fv z3.val] (fun _ => by kernel_rfl) (fun w => by rw [hz4]; exact mulR_c w z1 z3)) ?_
    refine Sy.makeD 5 rfl (by kernel_rfl) (by kernel_rfl) 62 (fcs 0) ptr (fun _ => by kernel_rfl) (fun g9 => ?_)
    refine Sy.writeD 6 rfl (by kernel_rfl) (by rfl) (by kernel_rfl) 9 g9 62 (fcs 0) (fcs z4.val) (by kernel_rfl) (Writes.store 0 62 (fcs z4.val) _ _ rfl (by kernel_rfl) (by kernel_rfl) (by kernel_rfl) (Nat.le_of_ble_eq_true (by kernel_rfl)) (by kernel_rfl) (by kernel_rfl)) ?_
    refine Sy.doneD (by kernel_rfl) ?_
    refine Sy.then_ ?_
    refine Sy.seq ?_
    refine Sy.regionD (fun j => j == 8) (by kernel_rfl) ?_
    refine Sy.stepD 0 rfl (by kernel_rfl) (fun _ _ _ _ h => h) (by kernel_rfl) (fv z4.val) (Quiet.load 9 g9 0 4 62 62 (fcs z4.val) _ _ rfl (by kernel_rfl) (by kernel_rfl) Try.underlying62 rfl (by kernel_rfl) _ (by kernel_rfl) (Nat.le_of_ble_eq_true (by kernel_rfl))) ?_
    refine Sy.stepD 1 rfl (by kernel_rfl) (fun _ _ _ _ h => h) (by kernel_rfl) (fv z4.val) (Quiet.load 9 g9 0 4 62 62 (fcs z4.val) _ _ rfl (by kernel_rfl) (by kernel_rfl) Try.underlying62 rfl (by kernel_rfl) _ (by kernel_rfl) (Nat.le_of_ble_eq_true (by kernel_rfl))) ?_
    obtain ⟨z5, hz5⟩ : ∃ z : Fp, z = z4 * z4 := ⟨_, rfl⟩
    refine Sy.stepD 2 rfl (by kernel_rfl) (fun _ _ _ _ h => h) (by kernel_rfl) (fv z5.val) (Quiet.call 45 #[fv z4.val, fv z4.val] (fun _ => by kernel_rfl) (fun w => by rw [hz5]; exact mulR_c w z4 z4)) ?_
    refine Sy.stepD 3 rfl (by kernel_rfl) (fun _ _ _ _ h => h) (by kernel_rfl) (fv u.val) (Quiet.load 3 g3 0 4 62 62 (fcs u.val) _ _ rfl (by kernel_rfl) (by kernel_rfl) Try.underlying62 rfl (by kernel_rfl) _ (by kernel_rfl) (Nat.le_of_ble_eq_true (by kernel_rfl))) ?_
    obtain ⟨z6, hz6⟩ : ∃ z : Fp, z = z5 - u := ⟨_, rfl⟩
    refine Sy.stepD 4 rfl (by kernel_rfl) (fun _ _ _ _ h => h) (by kernel_rfl) (fv z6.val) (Quiet.call 53 #[fv z5.val, fv u.val] (fun _ => by kernel_rfl) (fun w => by rw [hz6]; exact subR_c w z5 u)) ?_
    refine Sy.stepD 5 rfl (by kernel_rfl) (fun _ _ _ _ h => h) (by kernel_rfl) (fv c.val) (Quiet.load 5 g5 0 4 62 62 (fcs c.val) _ _ rfl (by kernel_rfl) (by kernel_rfl) Try.underlying62 rfl (by kernel_rfl) _ (by kernel_rfl) (Nat.le_of_ble_eq_true (by kernel_rfl))) ?_
    obtain ⟨z7, hz7⟩ : ∃ z : Fp, z = z6 - c := ⟨_, rfl⟩
    refine Sy.stepD 6 rfl (by kernel_rfl) (fun _ _ _ _ h => h) (by kernel_rfl) (fv z7.val) (Quiet.call 53 #[fv z6.val, fv c.val] (fun _ => by kernel_rfl) (fun w => by rw [hz7]; exact subR_c w z6 c)) ?_
    refine Sy.makeD 7 rfl (by kernel_rfl) (by kernel_rfl) 62 (fcs 0) ptr (fun _ => by kernel_rfl) (fun g10 => ?_)
    refine Sy.writeD 8 rfl (by kernel_rfl) (by rfl) (by kernel_rfl) 10 g10 62 (fcs 0) (fcs z7.val) (by kernel_rfl) (Writes.store 0 62 (fcs z7.val) _ _ rfl (by kernel_rfl) (by kernel_rfl) (by kernel_rfl) (Nat.le_of_ble_eq_true (by kernel_rfl)) (by kernel_rfl) (by kernel_rfl)) ?_
    refine Sy.doneD (by kernel_rfl) ?_
    refine Sy.then_ ?_
    refine Sy.seq ?_
    refine Sy.regionD (fun j => j == 9) (by kernel_rfl) ?_
    refine Sy.stepD 0 rfl (by kernel_rfl) (fun _ _ _ _ h => h) (by kernel_rfl) (fv z7.val) (Quiet.load 10 g10 0 4 62 62 (fcs z7.val) _ _ rfl (by kernel_rfl) (by kernel_rfl) Try.underlying62 rfl (by kernel_rfl) _ (by kernel_rfl) (Nat.le_of_ble_eq_true (by kernel_rfl))) ?_
    refine Sy.stepD 1 rfl (by kernel_rfl) (fun _ _ _ _ h => h) (by kernel_rfl) (fv z4.val) (Quiet.load 9 g9 0 4 62 62 (fcs z4.val) _ _ rfl (by kernel_rfl) (by kernel_rfl) Try.underlying62 rfl (by kernel_rfl) _ (by kernel_rfl) (Nat.le_of_ble_eq_true (by kernel_rfl))) ?_
    refine Sy.stepD 2 rfl (by kernel_rfl) (fun _ _ _ _ h => h) (by kernel_rfl) (fv u.val) (Quiet.load 3 g3 0 4 62 62 (fcs u.val) _ _ rfl (by kernel_rfl) (by kernel_rfl) Try.underlying62 rfl (by kernel_rfl) _ (by kernel_rfl) (Nat.le_of_ble_eq_true (by kernel_rfl))) ?_
    refine Sy.stepD 3 rfl (by kernel_rfl) (fun _ _ _ _ h => h) (by kernel_rfl) (fv z7.val) (Quiet.load 10 g10 0 4 62 62 (fcs z7.val) _ _ rfl (by kernel_rfl) (by kernel_rfl) Try.underlying62 rfl (by kernel_rfl) _ (by kernel_rfl) (Nat.le_of_ble_eq_true (by kernel_rfl))) ?_
    obtain ⟨z8, hz8⟩ : ∃ z : Fp, z = u - z7 := ⟨_, rfl⟩
    refine Sy.stepD 4 rfl (by kernel_rfl) (fun _ _ _ _ h => h) (by kernel_rfl) (fv z8.val) (Quiet.call 53 #[fv u.val, fv z7.val] (fun _ => by kernel_rfl) (fun w => by rw [hz8]; exact subR_c w u z7)) ?_
    obtain ⟨z9, hz9⟩ : ∃ z : Fp, z = z4 * z8 := ⟨_, rfl⟩
    refine Sy.stepD 5 rfl (by kernel_rfl) (fun _ _ _ _ h => h) (by kernel_rfl) (fv z9.val) (Quiet.call 45 #[fv z4.val, fv z8.val] (fun _ => by kernel_rfl) (fun w => by rw [hz9]; exact mulR_c w z4 z8)) ?_
    refine Sy.stepD 6 rfl (by kernel_rfl) (fun _ _ _ _ h => h) (by kernel_rfl) (fv v.val) (Quiet.load 4 g4 0 4 62 62 (fcs v.val) _ _ rfl (by kernel_rfl) (by kernel_rfl) Try.underlying62 rfl (by kernel_rfl) _ (by kernel_rfl) (Nat.le_of_ble_eq_true (by kernel_rfl))) ?_
    obtain ⟨z10, hz10⟩ : ∃ z : Fp, z = z9 - v := ⟨_, rfl⟩
    refine Sy.stepD 7 rfl (by kernel_rfl) (fun _ _ _ _ h => h) (by kernel_rfl) (fv z10.val) (Quiet.call 53 #[fv z9.val, fv v.val] (fun _ => by kernel_rfl) (fun w => by rw [hz10]; exact subR_c w z9 v)) ?_
    refine Sy.stepD 8 rfl (by kernel_rfl) (fun _ _ _ _ h => h) (by kernel_rfl) (pv z7.val z10.val false) (Quiet.call 49 #[fv z7.val, fv z10.val] (fun _ => by kernel_rfl) (fun w => pointR_c w z7.val z10.val (by first | assumption | exact lt4 _ | decide +kernel) (by first | assumption | exact lt4 _ | decide +kernel))) ?_
    refine Sy.writeD 9 rfl (by kernel_rfl) (by rfl) (by kernel_rfl) 2 g2 26 (pcs 0 0 false) (pcs z7.val z10.val false) (by kernel_rfl) (Writes.store 0 26 (pcs z7.val z10.val false) _ _ rfl (by kernel_rfl) (by kernel_rfl) (by kernel_rfl) (Nat.le_of_ble_eq_true (by kernel_rfl)) (by kernel_rfl) (by kernel_rfl)) ?_
    refine Sy.doneD (by kernel_rfl) ?_
    refine Sy.then_ ?_
    refine Sy.ret ?_
    have ha : ¬ (u = c ∧ v + d = 0) := fun t => e1 t.1
    have hs : z4 = Ec.slp finv u v c d := by
      unfold Ec.slp
      rw [if_neg e1]
      clear h k ho hk hb1 ha e1
      grobner
    rw [show (ptv (Ec.add finv (some (u, v)) (some (c, d))) : Value) = pv z7.val z10.val false from by simp only [Ec.add]; rw [if_neg ha, ← hs]; unfold Ec.y3 Ec.x3 ptv; rw [hz10, hz9, hz8, hz7, hz6, hz5]]
    exact Sy.ret1 (v := pv z7.val z10.val false) rfl (.inl (Res.cell (ty' := 26) g2 2 (pcs z7.val z10.val false) _ (by kernel_rfl) (by kernel_rfl) Try.underlying26 rfl (by kernel_rfl) (by kernel_rfl)))
  · have e1 : u = c := Fin.ext (of_decide_eq_true hb1.symm)
    refine Sy.cond_t (by kernel_rfl) (by kernel_rfl) ?_
    refine Sy.seq ?_
    refine Sy.seq ?_
    refine Sy.region ?_
    refine Sy.step (by kernel_rfl) (fv v.val) (Quiet.load 4 g4 0 4 62 62 (fcs v.val) _ _ rfl (by kernel_rfl) (by kernel_rfl) Try.underlying62 rfl (by kernel_rfl) _ (by kernel_rfl) (Nat.le_of_ble_eq_true (by kernel_rfl))) ?_
    refine Sy.step (by kernel_rfl) (fv d.val) (Quiet.load 6 g6 0 4 62 62 (fcs d.val) _ _ rfl (by kernel_rfl) (by kernel_rfl) Try.underlying62 rfl (by kernel_rfl) _ (by kernel_rfl) (Nat.le_of_ble_eq_true (by kernel_rfl))) ?_
    obtain ⟨b2, hb2⟩ : ∃ z : Bool, z = decide (v.val ≠ d.val) := ⟨_, rfl⟩
    refine Sy.step (by kernel_rfl) (.bool b2) (Quiet.pure (fun w => by rw [hb2]; exact neq_num w _ _ _ _ _ _ rfl rfl rfl (by first | assumption | exact lt4 _ | decide +kernel) (by first | assumption | exact lt4 _ | decide +kernel))) ?_
    refine Sy.step (by kernel_rfl) (.bool b2) (Quiet.pure (fun _ => by kernel_rfl)) ?_
    cases b2
    · have e2 : v = d := Fin.ext (Decidable.of_not_not (of_decide_eq_false hb2.symm))
      refine Sy.step (by kernel_rfl) (fv v.val) (Quiet.load 4 g4 0 4 62 62 (fcs v.val) _ _ rfl (by kernel_rfl) (by kernel_rfl) Try.underlying62 rfl (by kernel_rfl) _ (by kernel_rfl) (Nat.le_of_ble_eq_true (by kernel_rfl))) ?_
      refine Sy.step (by kernel_rfl) (fv 0) (Quiet.pure (fun _ => by kernel_rfl)) ?_
      obtain ⟨b3, hb3⟩ : ∃ z : Bool, z = decide (v.val = 0) := ⟨_, rfl⟩
      refine Sy.step (by kernel_rfl) (.bool b3) (Quiet.pure (fun w => by rw [hb3]; exact eql_num w _ _ _ _ _ _ rfl rfl rfl (by first | assumption | exact lt4 _ | decide +kernel) (by first | assumption | exact lt4 _ | decide +kernel))) ?_
      refine Sy.step (by kernel_rfl) (.bool b3) (Quiet.pure (fun _ => by kernel_rfl)) ?_
      refine Sy.nil ?_
      refine Sy.then_ ?_
      cases b3
      · refine Sy.cond_f (by kernel_rfl) (by kernel_rfl) ?_
        refine Sy.skip ?_
        refine Sy.then_ ?_
        refine Sy.seq ?_
        refine Sy.region ?_
        refine Sy.step (by kernel_rfl) (fv u.val) (Quiet.load 3 g3 0 4 62 62 (fcs u.val) _ _ rfl (by kernel_rfl) (by kernel_rfl) Try.underlying62 rfl (by kernel_rfl) _ (by kernel_rfl) (Nat.le_of_ble_eq_true (by kernel_rfl))) ?_
        refine Sy.step (by kernel_rfl) (fv u.val) (Quiet.load 3 g3 0 4 62 62 (fcs u.val) _ _ rfl (by kernel_rfl) (by kernel_rfl) Try.underlying62 rfl (by kernel_rfl) _ (by kernel_rfl) (Nat.le_of_ble_eq_true (by kernel_rfl))) ?_
        obtain ⟨z11, hz11⟩ : ∃ z : Fp, z = u * u := ⟨_, rfl⟩
        refine Sy.step (by kernel_rfl) (fv z11.val) (Quiet.call 45 #[fv u.val, fv u.val] (fun _ => by kernel_rfl) (fun w => by rw [hz11]; exact mulR_c w u u)) ?_
        refine Sy.make (by kernel_rfl) 62 (fcs 0) ptr (fun _ => by kernel_rfl) (fun g9 => ?_)
        refine Sy.write (by kernel_rfl) 9 g9 62 (fcs 0) (fcs z11.val) (by kernel_rfl) (Writes.store 0 62 (fcs z11.val) _ _ rfl (by kernel_rfl) (by kernel_rfl) (by kernel_rfl) (Nat.le_of_ble_eq_true (by kernel_rfl)) (by kernel_rfl) (by kernel_rfl)) ?_
        refine Sy.nil ?_
        refine Sy.then_ ?_
        refine Sy.seq ?_
        refine Sy.regionD (fun j => j == 5) (by kernel_rfl) ?_
        refine Sy.stepD 0 rfl (by kernel_rfl) (fun _ _ _ _ h => h) (by kernel_rfl) (fv z11.val) (Quiet.load 9 g9 0 4 62 62 (fcs z11.val) _ _ rfl (by kernel_rfl) (by kernel_rfl) Try.underlying62 rfl (by kernel_rfl) _ (by kernel_rfl) (Nat.le_of_ble_eq_true (by kernel_rfl))) ?_
        refine Sy.stepD 1 rfl (by kernel_rfl) (fun _ _ _ _ h => h) (by kernel_rfl) (fv z11.val) (Quiet.load 9 g9 0 4 62 62 (fcs z11.val) _ _ rfl (by kernel_rfl) (by kernel_rfl) Try.underlying62 rfl (by kernel_rfl) _ (by kernel_rfl) (Nat.le_of_ble_eq_true (by kernel_rfl))) ?_
        refine Sy.stepD 2 rfl (by kernel_rfl) (fun _ _ _ _ h => h) (by kernel_rfl) (fv z11.val) (Quiet.load 9 g9 0 4 62 62 (fcs z11.val) _ _ rfl (by kernel_rfl) (by kernel_rfl) Try.underlying62 rfl (by kernel_rfl) _ (by kernel_rfl) (Nat.le_of_ble_eq_true (by kernel_rfl))) ?_
        obtain ⟨z12, hz12⟩ : ∃ z : Fp, z = z11 + z11 := ⟨_, rfl⟩
        refine Sy.stepD 3 rfl (by kernel_rfl) (fun _ _ _ _ h => h) (by kernel_rfl) (fv z12.val) (Quiet.call 54 #[fv z11.val, fv z11.val] (fun _ => by kernel_rfl) (fun w => by rw [hz12]; exact addR_c w z11 z11)) ?_
        obtain ⟨z13, hz13⟩ : ∃ z : Fp, z = z11 + z12 := ⟨_, rfl⟩
        refine Sy.stepD 4 rfl (by kernel_rfl) (fun _ _ _ _ h => h) (by kernel_rfl) (fv z13.val) (Quiet.call 54 #[fv z11.val, fv z12.val] (fun _ => by kernel_rfl) (fun w => by rw [hz13]; exact addR_c w z11 z12)) ?_
        refine Sy.writeD 5 rfl (by kernel_rfl) (by rfl) (by kernel_rfl) 7 g7 62 (fcs z1.val) (fcs z13.val) (by kernel_rfl) (Writes.store 0 62 (fcs z13.val) _ _ rfl (by kernel_rfl) (by kernel_rfl) (by kernel_rfl) (Nat.le_of_ble_eq_true (by kernel_rfl)) (by kernel_rfl) (by kernel_rfl)) ?_
        refine Sy.doneD (by kernel_rfl) ?_
        refine Sy.then_ ?_
        refine Sy.region ?_
        refine Sy.step (by kernel_rfl) (fv v.val) (Quiet.load 4 g4 0 4 62 62 (fcs v.val) _ _ rfl (by kernel_rfl) (by kernel_rfl) Try.underlying62 rfl (by kernel_rfl) _ (by kernel_rfl) (Nat.le_of_ble_eq_true (by kernel_rfl))) ?_
        refine Sy.step (by kernel_rfl) (fv v.val) (Quiet.load 4 g4 0 4 62 62 (fcs v.val) _ _ rfl (by kernel_rfl) (by kernel_rfl) Try.underlying62 rfl (by kernel_rfl) _ (by kernel_rfl) (Nat.le_of_ble_eq_true (by kernel_rfl))) ?_
        obtain ⟨z14, hz14⟩ : ∃ z : Fp, z = v + v := ⟨_, rfl⟩
        refine Sy.step (by kernel_rfl) (fv z14.val) (Quiet.call 54 #[fv v.val, fv v.val] (fun _ => by kernel_rfl) (fun w => by rw [hz14]; exact addR_c w v v)) ?_
        refine Sy.write (by kernel_rfl) 8 g8 62 (fcs z2.val) (fcs z14.val) (by kernel_rfl) (Writes.store 0 62 (fcs z14.val) _ _ rfl (by kernel_rfl) (by kernel_rfl) (by kernel_rfl) (Nat.le_of_ble_eq_true (by kernel_rfl)) (by kernel_rfl) (by kernel_rfl)) ?_
        refine Sy.nil ?_
        refine Sy.then_ ?_
        refine Sy.seq ?_
        refine Sy.regionD (fun j => j == 6) (by kernel_rfl) ?_
        refine Sy.stepD 0 rfl (by kernel_rfl) (fun _ _ _ _ h => h) (by kernel_rfl) (fv z13.val) (Quiet.load 7 g7 0 4 62 62 (fcs z13.val) _ _ rfl (by kernel_rfl) (by kernel_rfl) Try.underlying62 rfl (by kernel_rfl) _ (by kernel_rfl) (Nat.le_of_ble_eq_true (by kernel_rfl))) ?_
        refine Sy.stepD 1 rfl (by kernel_rfl) (fun _ _ _ _ h => h) (by kernel_rfl) (.agg modcs) (Quiet.call 43 #[] (fun _ => by kernel_rfl) (refP_any)) ?_
        refine Sy.stepD 2 rfl (by kernel_rfl) (fun _ _ _ _ h => h) (by kernel_rfl) (fv z14.val) (Quiet.load 8 g8 0 4 62 62 (fcs z14.val) _ _ rfl (by kernel_rfl) (by kernel_rfl) Try.underlying62 rfl (by kernel_rfl) _ (by kernel_rfl) (Nat.le_of_ble_eq_true (by kernel_rfl))) ?_
        obtain ⟨z15, hz15⟩ : ∃ z : Fp, z = finv z14 := ⟨_, rfl⟩
        refine Sy.stepD 3 rfl (by kernel_rfl) (fun _ _ _ _ h => h) (by kernel_rfl) (fv z15.val) (Quiet.call 55 #[.agg modcs, fv z14.val] (fun _ => by kernel_rfl) (fun w => by rw [hz15]; exact refinv_c w z14)) ?_
        obtain ⟨z16, hz16⟩ : ∃ z : Fp, z = z13 * z15 := ⟨_, rfl⟩
        refine Sy.stepD 4 rfl (by kernel_rfl) (fun _ _ _ _ h => h) (by kernel_rfl) (fv z16.val) (Quiet.call 45 #[fv z13.val, fv z15.val] (fun _ => by kernel_rfl) (fun w => by rw [hz16]; exact mulR_c w z13 z15)) ?_
        refine Sy.makeD 5 rfl (by kernel_rfl) (by kernel_rfl) 62 (fcs 0) ptr (fun _ => by kernel_rfl) (fun g10 => ?_)
        refine Sy.writeD 6 rfl (by kernel_rfl) (by rfl) (by kernel_rfl) 10 g10 62 (fcs 0) (fcs z16.val) (by kernel_rfl) (Writes.store 0 62 (fcs z16.val) _ _ rfl (by kernel_rfl) (by kernel_rfl) (by kernel_rfl) (Nat.le_of_ble_eq_true (by kernel_rfl)) (by kernel_rfl) (by kernel_rfl)) ?_
        refine Sy.doneD (by kernel_rfl) ?_
        refine Sy.then_ ?_
        refine Sy.seq ?_
        refine Sy.regionD (fun j => j == 8) (by kernel_rfl) ?_
        refine Sy.stepD 0 rfl (by kernel_rfl) (fun _ _ _ _ h => h) (by kernel_rfl) (fv z16.val) (Quiet.load 10 g10 0 4 62 62 (fcs z16.val) _ _ rfl (by kernel_rfl) (by kernel_rfl) Try.underlying62 rfl (by kernel_rfl) _ (by kernel_rfl) (Nat.le_of_ble_eq_true (by kernel_rfl))) ?_
        refine Sy.stepD 1 rfl (by kernel_rfl) (fun _ _ _ _ h => h) (by kernel_rfl) (fv z16.val) (Quiet.load 10 g10 0 4 62 62 (fcs z16.val) _ _ rfl (by kernel_rfl) (by kernel_rfl) Try.underlying62 rfl (by kernel_rfl) _ (by kernel_rfl) (Nat.le_of_ble_eq_true (by kernel_rfl))) ?_
        obtain ⟨z17, hz17⟩ : ∃ z : Fp, z = z16 * z16 := ⟨_, rfl⟩
        refine Sy.stepD 2 rfl (by kernel_rfl) (fun _ _ _ _ h => h) (by kernel_rfl) (fv z17.val) (Quiet.call 45 #[fv z16.val, fv z16.val] (fun _ => by kernel_rfl) (fun w => by rw [hz17]; exact mulR_c w z16 z16)) ?_
        refine Sy.stepD 3 rfl (by kernel_rfl) (fun _ _ _ _ h => h) (by kernel_rfl) (fv u.val) (Quiet.load 3 g3 0 4 62 62 (fcs u.val) _ _ rfl (by kernel_rfl) (by kernel_rfl) Try.underlying62 rfl (by kernel_rfl) _ (by kernel_rfl) (Nat.le_of_ble_eq_true (by kernel_rfl))) ?_
        obtain ⟨z18, hz18⟩ : ∃ z : Fp, z = z17 - u := ⟨_, rfl⟩
        refine Sy.stepD 4 rfl (by kernel_rfl) (fun _ _ _ _ h => h) (by kernel_rfl) (fv z18.val) (Quiet.call 53 #[fv z17.val, fv u.val] (fun _ => by kernel_rfl) (fun w => by rw [hz18]; exact subR_c w z17 u)) ?_
        refine Sy.stepD 5 rfl (by kernel_rfl) (fun _ _ _ _ h => h) (by kernel_rfl) (fv c.val) (Quiet.load 5 g5 0 4 62 62 (fcs c.val) _ _ rfl (by kernel_rfl) (by kernel_rfl) Try.underlying62 rfl (by kernel_rfl) _ (by kernel_rfl) (Nat.le_of_ble_eq_true (by kernel_rfl))) ?_
        obtain ⟨z19, hz19⟩ : ∃ z : Fp, z = z18 - c := ⟨_, rfl⟩
        refine Sy.stepD 6 rfl (by kernel_rfl) (fun _ _ _ _ h => h) (by kernel_rfl) (fv z19.val) (Quiet.call 53 #[fv z18.val, fv c.val] (fun _ => by kernel_rfl) (fun w => by rw [hz19]; exact subR_c w z18 c)) ?_
        refine Sy.makeD 7 rfl (by kernel_rfl) (by kernel_rfl) 62 (fcs 0) ptr (fun _ => by kernel_rfl) (fun g11 => ?_)
        refine Sy.writeD 8 rfl (by kernel_rfl) (by rfl) (by kernel_rfl) 11 g11 62 (fcs 0) (fcs z19.val) (by kernel_rfl) (Writes.store 0 62 (fcs z19.val) _ _ rfl (by kernel_rfl) (by kernel_rfl) (by kernel_rfl) (Nat.le_of_ble_eq_true (by kernel_rfl)) (by kernel_rfl) (by kernel_rfl)) ?_
        refine Sy.doneD (by kernel_rfl) ?_
        refine Sy.then_ ?_
        refine Sy.seq ?_
        refine Sy.regionD (fun j => j == 9) (by kernel_rfl) ?_
        refine Sy.stepD 0 rfl (by kernel_rfl) (fun _ _ _ _ h => h) (by kernel_rfl) (fv z19.val) (Quiet.load 11 g11 0 4 62 62 (fcs z19.val) _ _ rfl (by kernel_rfl) (by kernel_rfl) Try.underlying62 rfl (by kernel_rfl) _ (by kernel_rfl) (Nat.le_of_ble_eq_true (by kernel_rfl))) ?_
        refine Sy.stepD 1 rfl (by kernel_rfl) (fun _ _ _ _ h => h) (by kernel_rfl) (fv z16.val) (Quiet.load 10 g10 0 4 62 62 (fcs z16.val) _ _ rfl (by kernel_rfl) (by kernel_rfl) Try.underlying62 rfl (by kernel_rfl) _ (by kernel_rfl) (Nat.le_of_ble_eq_true (by kernel_rfl))) ?_
        refine Sy.stepD 2 rfl (by kernel_rfl) (fun _ _ _ _ h => h) (by kernel_rfl) (fv u.val) (Quiet.load 3 g3 0 4 62 62 (fcs u.val) _ _ rfl (by kernel_rfl) (by kernel_rfl) Try.underlying62 rfl (by kernel_rfl) _ (by kernel_rfl) (Nat.le_of_ble_eq_true (by kernel_rfl))) ?_
        refine Sy.stepD 3 rfl (by kernel_rfl) (fun _ _ _ _ h => h) (by kernel_rfl) (fv z19.val) (Quiet.load 11 g11 0 4 62 62 (fcs z19.val) _ _ rfl (by kernel_rfl) (by kernel_rfl) Try.underlying62 rfl (by kernel_rfl) _ (by kernel_rfl) (Nat.le_of_ble_eq_true (by kernel_rfl))) ?_
        obtain ⟨z20, hz20⟩ : ∃ z : Fp, z = u - z19 := ⟨_, rfl⟩
        refine Sy.stepD 4 rfl (by kernel_rfl) (fun _ _ _ _ h => h) (by kernel_rfl) (fv z20.val) (Quiet.call 53 #[fv u.val, fv z19.val] (fun _ => by kernel_rfl) (fun w => by rw [hz20]; exact subR_c w u z19)) ?_
        obtain ⟨z21, hz21⟩ : ∃ z : Fp, z = z16 * z20 := ⟨_, rfl⟩
        refine Sy.stepD 5 rfl (by kernel_rfl) (fun _ _ _ _ h => h) (by kernel_rfl) (fv z21.val) (Quiet.call 45 #[fv z16.val, fv z20.val] (fun _ => by kernel_rfl) (fun w => by rw [hz21]; exact mulR_c w z16 z20)) ?_
        refine Sy.stepD 6 rfl (by kernel_rfl) (fun _ _ _ _ h => h) (by kernel_rfl) (fv v.val) (Quiet.load 4 g4 0 4 62 62 (fcs v.val) _ _ rfl (by kernel_rfl) (by kernel_rfl) Try.underlying62 rfl (by kernel_rfl) _ (by kernel_rfl) (Nat.le_of_ble_eq_true (by kernel_rfl))) ?_
        obtain ⟨z22, hz22⟩ : ∃ z : Fp, z = z21 - v := ⟨_, rfl⟩
        refine Sy.stepD 7 rfl (by kernel_rfl) (fun _ _ _ _ h => h) (by kernel_rfl) (fv z22.val) (Quiet.call 53 #[fv z21.val, fv v.val] (fun _ => by kernel_rfl) (fun w => by rw [hz22]; exact subR_c w z21 v)) ?_
        refine Sy.stepD 8 rfl (by kernel_rfl) (fun _ _ _ _ h => h) (by kernel_rfl) (pv z19.val z22.val false) (Quiet.call 49 #[fv z19.val, fv z22.val] (fun _ => by kernel_rfl) (fun w => pointR_c w z19.val z22.val (by first | assumption | exact lt4 _ | decide +kernel) (by first | assumption | exact lt4 _ | decide +kernel))) ?_
        refine Sy.writeD 9 rfl (by kernel_rfl) (by rfl) (by kernel_rfl) 2 g2 26 (pcs 0 0 false) (pcs z19.val z22.val false) (by kernel_rfl) (Writes.store 0 26 (pcs z19.val z22.val false) _ _ rfl (by kernel_rfl) (by kernel_rfl) (by kernel_rfl) (Nat.le_of_ble_eq_true (by kernel_rfl)) (by kernel_rfl) (by kernel_rfl)) ?_
        refine Sy.doneD (by kernel_rfl) ?_
        refine Sy.then_ ?_
        refine Sy.ret ?_
        have ha : ¬ (u = c ∧ v + d = 0) := fun t => no_two u v ho (fld.two v (e2 ▸ t.2))
        have hs : z16 = Ec.slp finv u v c d := by
          unfold Ec.slp
          rw [if_pos e1]
          clear h k ho hk hb1 hb2 hb3 ha e1 e2
          grobner
        rw [show (ptv (Ec.add finv (some (u, v)) (some (c, d))) : Value) = pv z19.val z22.val false from by simp only [Ec.add]; rw [if_neg ha, ← hs]; unfold Ec.y3 Ec.x3 ptv; rw [hz22, hz21, hz20, hz19, hz18, hz17]]
        exact Sy.ret1 (v := pv z19.val z22.val false) rfl (.inl (Res.cell (ty' := 26) g2 2 (pcs z19.val z22.val false) _ (by kernel_rfl) (by kernel_rfl) Try.underlying26 rfl (by kernel_rfl) (by kernel_rfl)))
      · exact absurd (Fin.ext (of_decide_eq_true hb3.symm)) (no_two u v ho)
    · have e2 : v ≠ d := fun e => of_decide_eq_true hb2.symm (congrArg Fin.val e)
      refine Sy.pass (by kernel_rfl) (by kernel_rfl) ?_
      refine Sy.pass (by kernel_rfl) (by kernel_rfl) ?_
      refine Sy.pass (by kernel_rfl) (by kernel_rfl) ?_
      refine Sy.step (by kernel_rfl) (.bool true) (Quiet.pure (fun _ => by kernel_rfl)) ?_
      refine Sy.nil ?_
      refine Sy.then_ ?_
      refine Sy.cond_t (by kernel_rfl) (by kernel_rfl) ?_
      refine Sy.seq ?_
      refine Sy.region ?_
      refine Sy.step (by kernel_rfl) (pv 0 0 true) (Quiet.call 41 #[] (fun _ => by kernel_rfl) (zeroR_c)) ?_
      refine Sy.write (by kernel_rfl) 2 g2 26 (pcs 0 0 false) (pcs 0 0 true) (by kernel_rfl) (Writes.store 0 26 (pcs 0 0 true) _ _ rfl (by kernel_rfl) (by kernel_rfl) (by kernel_rfl) (Nat.le_of_ble_eq_true (by kernel_rfl)) (by kernel_rfl) (by kernel_rfl)) ?_
      refine Sy.nil ?_
      refine Sy.then_ ?_
      refine Sy.ret ?_
      refine Sy.then_ret ?_
      refine Sy.then_ret ?_
      rw [show (ptv (Ec.add finv (some (u, v)) (some (c, d))) : Value) = pv 0 0 true from by simp only [Ec.add]; rw [if_pos ⟨e1, Classical.byContradiction fun t => Ec.off fld ho hk (fun q => e2 q.2) (fun q => t q.2) e1⟩]; rfl]
      exact Sy.ret1 (v := pv 0 0 true) rfl (.inl (Res.cell (ty' := 26) g2 2 (pcs 0 0 true) _ (by kernel_rfl) (by kernel_rfl) Try.underlying26 rfl (by kernel_rfl) (by kernel_rfl)))
/-- the document's every sum -/
theorem addRe_any (w : World) (x y : Nat) (i : Bool) (x2 y2 : Nat) (i2 : Bool) (hx : x < K4) (hy : y < K4) (hx2 : x2 < K4) (hy2 : y2 < K4) : Calls Try.prog 18 #[pv x y i, pv x2 y2 i2] w (Gets w (ptv (Ec.add finv (dec x y i) (dec x2 y2 i2)))) := by
  have o1 := dec_on x y i
  have o2 := dec_on x2 y2 i2
  rcases h : dec x y i with _ | ⟨u, v⟩ <;> rcases k : dec x2 y2 i2 with _ | ⟨c, d⟩
  · exact addRe_nn w x y i x2 y2 i2 hx hy hx2 hy2 h k
  · exact addRe_ns w x y i x2 y2 i2 hx hy hx2 hy2 c d h k
  · exact addRe_sn w x y i x2 y2 i2 hx hy hx2 hy2 u v h k
  · rw [h] at o1
    rw [k] at o2
    exact addRe_ss w x y i x2 y2 i2 hx hy hx2 hy2 u v c d h k o1 o2
end Go.Proofs.Ytlojidnlkflpnaa.Cu
