/-
  Powers modulo p; fe.square, fe.join.
-/
import Derived.Test.YtlojidnlkflpnaaFeMul2
import Derived.Test.YtlojidnlkflpnaaFeNum
namespace Go.Proofs.Ytlojidnlkflpnaa
open Go.RowKit Go.Lib

/-- squared so many times -/
def sqI (x : Nat) : Nat → Nat
  | 0 => x
  | n + 1 => mulP (sqI x n) (sqI x n)
theorem sqI_lt (x n : Nat) (hx : x < 115792089237316195423570985008687907853269984665640564039457584007913129639936) : sqI x n < 115792089237316195423570985008687907853269984665640564039457584007913129639936 := by
  cases n with
  | zero => exact hx
  | succ n => exact mulP_lt _ _
theorem mulP_mod (x y : Nat) : mulP x y % pM = x * y % pM := by unfold mulP; rw [Nat.mod_mod]
theorem mul_pow {a x y i j : Nat} (hx : x % pM = a ^ i % pM) (hy : y % pM = a ^ j % pM) : mulP x y % pM = a ^ (i + j) % pM := by
  rw [mulP_mod, Nat.mul_mod, hx, hy, ← Nat.mul_mod, ← Nat.pow_add]
theorem sqI_pow {a x i : Nat} (hx : x % pM = a ^ i % pM) : ∀ n, sqI x n % pM = a ^ (i * 2 ^ n) % pM
  | 0 => by rw [Nat.pow_zero, Nat.mul_one]; exact hx
  | n + 1 => by
    rw [sqI, mul_pow (sqI_pow hx n) (sqI_pow hx n), Nat.pow_succ]
    congr 2
    rw [← Nat.mul_assoc, Nat.mul_two]
def jn (x d y : Nat) : Nat := mulP (sqI x d) y
theorem jn_lt (x d y : Nat) : jn x d y < 115792089237316195423570985008687907853269984665640564039457584007913129639936 := mulP_lt _ _
theorem jn_pow {a x y i j d : Nat} (hx : x % pM = a ^ i % pM) (hy : y % pM = a ^ j % pM) : jn x d y % pM = a ^ (i * 2 ^ d + j) % pM := mul_pow (sqI_pow hx d) hy

set_option maxHeartbeats 1000000 in
set_option maxRecDepth 100000 in
theorem square_any (w : World) (x d : Nat) (hx : x < 115792089237316195423570985008687907853269984665640564039457584007913129639936) (hd : d ≤ 1000) : Calls Try.prog 101 #[fv x, .int .i64 (d : Int)] w fun e w' => e = .returned (fv (sqI x d)) ∧ Below w.heap.size w w' := by
  obtain ⟨x0, x1, x2, x3, fx⟩ := words_fv x hx
  have FX := Lib.hid fx
  have HX := Lib.hid hx
  have HD := Lib.hid hd
  have hd' : (d : Int) ≤ 1000 := by omega
  rw [fx]
  clear fx hx hd
  go_enter Try.func101, Try.ntmps101
  go_wp2_with fail
  go_loopw [6] (fun i wr => ∃ k v : Nat, k ≤ d ∧ i = .int .i64 (k : Int) ∧ Hid (v = sqI x k) ∧ Below w.heap.size w wr ∧ Blk wr w.heap.size 24 (fcs v) ∧ Blk wr (w.heap.size + 1) 24 #[.int .u64 0, .int .u64 0, .int .u64 0, .int .u64 0]) (fun i _ => d - (intOf i).toNat)
  case atStart => exact ⟨0, x, Nat.zero_le _, rfl, Lib.hid rfl, below_alloc2 w _ _, Blk.eq_ ((Blk.new w _ _).alloc _) (fcs_words FX.out).symm, blk_new2 w _ _ _⟩
  case round =>
    obtain ⟨k, v, hk, rfl, HV, hb, hB, hR⟩ := hrel
    have HL : Hid (v < 115792089237316195423570985008687907853269984665640564039457584007913129639936) := Lib.hid (by rw [HV.out]; exact sqI_lt x k HX.out)
    by_cases hlt : k < d
    · have p1 : (k : Int) < (d : Int) := by omega
      go_wp2_with (first | ((with_reducible refine here_load (d := some 8) ?_); refine wpList_load_fv rfl _ _ rfl (w.heap.size) rfl (v) _ _ _ (hB) (fv_fcs v) Try.underlying24 rfl (by kernel_rfl) ?_) | ((with_reducible refine here_load (d := some 9) ?_); refine wpList_load_fv rfl _ _ rfl (w.heap.size) rfl (v) _ _ _ (hB) (fv_fcs v) Try.underlying24 rfl (by kernel_rfl) ?_))
      refine (mulF_any _ v v HL.out HL.out).mono ?_
      rintro e w1 ⟨rfl, hb1⟩
      obtain ⟨z, hz⟩ : ∃ z, z = mulP v v := ⟨_, rfl⟩
      have HZ := Lib.hid hz
      rw [← hz]
      clear hz
      have hB1 := Gr.blk hb1 hB
      have hR1 := Gr.blk hb1 hR
      have hbb := Below.gr hb hb1
      clear hb hb1 hB hR
      go_wp2_with (first | ((with_reducible refine here_store ?_); refine wpList_store_blk rfl _ _ _ rfl (w.heap.size) (fcs (z)) rfl rfl _ _ (hB1) (by kernel_rfl) (by rfl) (fcs_one _) ?_; intro w2 hL2 hB2 hK2; have hR2 := hK2 _ (by omega) _ _ hR1))
      go_roundw
      case rel => exact ⟨k + 1, z, by omega, by simp <;> rfl, Lib.hid (by rw [HZ.out, HV.out]; rfl), hbb.trans (hB2 _ (by omega)), hL2, hR2⟩
      case measure => simp [intOf]; omega
    · have p1 : ¬ (k : Int) < (d : Int) := by omega
      obtain rfl : k = d := by omega
      go_wp2_with (first | ((with_reducible refine here_load (d := some 12) ?_); refine wpList_load_fv rfl _ _ rfl (w.heap.size) rfl (v) _ _ _ (hB) (fv_fcs v) Try.underlying24 rfl (by kernel_rfl) ?_) | ((with_reducible refine here_store ?_); refine wpList_store_blk rfl _ _ _ rfl (w.heap.size + 1) (fcs (v)) rfl rfl _ _ (hR) (by kernel_rfl) (by rfl) (fcs_one _) ?_; intro w2 hL2 hB2 hK2))
      exact bodyPost_ret (results_cell_row rfl _ _ (w.heap.size + 1) _ _ (0, 0) _ rfl hL2 Try.underlying24 rfl (by kernel_rfl)) rfl ⟨by rw [HV.out]; rfl, hb.trans (hB2 _ (by omega))⟩
end Go.Proofs.Ytlojidnlkflpnaa
