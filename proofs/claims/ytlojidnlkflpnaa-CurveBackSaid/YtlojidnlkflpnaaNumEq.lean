/-
  The document's numbers compared with == and !=.
-/
import Derived.Test.YtlojidnlkflpnaaFeEq
namespace Go.Proofs.Ytlojidnlkflpnaa.Nm
open Go.RowKit Go.Lib

theorem run_equalIn_fv (W : World) (n m : Nat) (hn : n < 115792089237316195423570985008687907853269984665640564039457584007913129639936) (hm : m < 115792089237316195423570985008687907853269984665640564039457584007913129639936) : (Op.equalIn 10000 62 (fv n) (fv m)).run Try.prog W = .ok (decide (n = m)) W := by
  rw [fv_wl, fv_wl]
  have h := run_equalIn_words W 9998 62 22 4 Try.underlying62 Try.underlying22 (fun W => by kernel_rfl) (wl n) (wl m) rfl rfl
  rw [wl_beq hn hm] at h
  exact h
theorem run_eql_fv (W : World) (n m : Nat) (hn : n < 115792089237316195423570985008687907853269984665640564039457584007913129639936) (hm : m < 115792089237316195423570985008687907853269984665640564039457584007913129639936) : (binOp .eql 62 (fv n) (fv m)).run Try.prog W = .ok (.bool (decide (n = m))) W := by
  have h := run_equalIn_fv W n m hn hm
  rw [fv_wl, fv_wl] at h ⊢
  rw [run_eql_struct, h]
  rfl
theorem run_neq_fv (W : World) (n m : Nat) (hn : n < 115792089237316195423570985008687907853269984665640564039457584007913129639936) (hm : m < 115792089237316195423570985008687907853269984665640564039457584007913129639936) : (binOp .neq 62 (fv n) (fv m)).run Try.prog W = .ok (.bool (decide (n ≠ m))) W := by
  have h := run_equalIn_fv W n m hn hm
  rw [fv_wl, fv_wl] at h ⊢
  rw [run_neq_struct, h]
  by_cases e : n = m <;> simp [e]

theorem run_eqGuard_fv (op : BinOp) (x y : Operand) (n m : Nat) (W : World) : (eqGuard op 62 x y (fv n) (fv m)).run Try.prog W = .ok () W := by
  rw [fv_fcs, fv_fcs]
  go_simp

end Go.Proofs.Ytlojidnlkflpnaa.Nm
