/-
  math/bits.Mul64, fe.times.
-/
import Derived.Test.YtlojidnlkflpnaaFeOrd
namespace Go.Proofs.Ytlojidnlkflpnaa
open Go.RowKit Go.Lib

namespace M64
theorem maskN (a : Nat) (ha : a < 18446744073709551616) : bits .and .u64 (a : Int) 4294967295 = ((a % 4294967296 : Nat) : Int) := by
  have h := bits_and_u64_nat a 4294967295 ha (by omega)
  have e : a &&& 4294967295 = a % 4294967296 := Nat.and_two_pow_sub_one_eq_mod a 32
  rw [e] at h
  exact h
theorem divN (a : Nat) : (a : Int) / 4294967296 = ((a / 4294967296 : Nat) : Int) := by omega
theorem mulN (a b : Nat) : (a : Int) * (b : Int) = ((a * b : Nat) : Int) := (Int.natCast_mul a b).symm
theorem addN (a b : Nat) : (a : Int) + (b : Int) = ((a + b : Nat) : Int) := (Int.natCast_add a b).symm
theorem wrapN (a : Nat) (ha : a < 18446744073709551616) : IntKind.u64.wrap (a : Int) = (a : Int) := by rw [IntKind.wrap_u64]; omega
theorem wrapM (a : Nat) : IntKind.u64.wrap (a : Int) = ((a % 18446744073709551616 : Nat) : Int) := by rw [IntKind.wrap_u64]; omega
end M64

set_option maxHeartbeats 1000000 in
theorem mul64_any (w : World) (x y : Nat) (hx : x < 18446744073709551616) (hy : y < 18446744073709551616) :
    Calls Try.prog 81 #[.int .u64 x, .int .u64 y] w fun e w' => e = .returned (.tuple #[.int .u64 ((x * y / 18446744073709551616 : Nat) : Int), .int .u64 ((x * y % 18446744073709551616 : Nat) : Int)]) ∧ w' = w := by
  obtain ⟨bd, bt, bw, hhi⟩ := Lib.mul64_hi x y hx hy
  have ba := Lib.half_mul_le (a := x / 4294967296) (b := y / 4294967296) (by omega) (by omega)
  have bb := Lib.half_mul_le (a := x / 4294967296) (b := y % 4294967296) (by omega) (by omega)
  have bc := Lib.half_mul_le (a := x % 4294967296) (b := y / 4294967296) (by omega) (by omega)
  have ba' : x / 4294967296 * (y / 4294967296) < 18446744073709551616 := by omega
  have bb' : x / 4294967296 * (y % 4294967296) < 18446744073709551616 := by omega
  have bc' : x % 4294967296 * (y / 4294967296) < 18446744073709551616 := by omega
  have bh1 : x / 4294967296 * (y / 4294967296) + (x / 4294967296 * (y % 4294967296) + x % 4294967296 * (y % 4294967296) / 4294967296) / 4294967296 < 18446744073709551616 := by omega
  have bh : x / 4294967296 * (y / 4294967296) + (x / 4294967296 * (y % 4294967296) + x % 4294967296 * (y % 4294967296) / 4294967296) / 4294967296 + ((x / 4294967296 * (y % 4294967296) + x % 4294967296 * (y % 4294967296) / 4294967296) % 4294967296 + x % 4294967296 * (y / 4294967296)) / 4294967296 < 18446744073709551616 := by omega
  go_enter Try.func81, Try.ntmps81
  go_wp2
  simp only [M64.maskN x hx, M64.maskN y hy, M64.divN, M64.mulN, M64.addN, M64.wrapN _ bd, M64.wrapN _ bb', M64.wrapN _ bt, M64.maskN _ bt, M64.wrapN _ bc', M64.wrapN _ bw, M64.wrapN _ ba', M64.wrapN _ bh1, M64.wrapN _ bh, M64.wrapM (x * y)]
  rw [hhi]
  exact bodyPost_ret (v := .tuple #[_, _]) (by simp [results, Try.results81, go_sem]) rfl ⟨rfl, rfl⟩
theorem mul64_at (w : World) (x y hi lo : Nat) (hx : x < 18446744073709551616) (hy : y < 18446744073709551616) (hlo : lo < 18446744073709551616) (he : lo + 18446744073709551616 * hi = x * y) :
    Calls Try.prog 81 #[.int .u64 x, .int .u64 y] w fun e w' => e = .returned (.tuple #[.int .u64 (hi : Int), .int .u64 (lo : Int)]) ∧ w' = w := by
  have e1 : x * y / 18446744073709551616 = hi := by omega
  have e2 : x * y % 18446744073709551616 = lo := by omega
  have h := mul64_any w x y hx hy
  rw [e1, e2] at h
  exact h
theorem mul_ex (x y : Nat) (hx : x < 18446744073709551616) (hy : y < 18446744073709551616) : ∃ hi lo : Nat, lo < 18446744073709551616 ∧ hi + 2 ≤ 18446744073709551616 ∧ lo + 18446744073709551616 * hi = x * y := by
  have h : x * y ≤ 18446744073709551615 * 18446744073709551615 := Nat.mul_le_mul (by omega) (by omega)
  exact ⟨x * y / 18446744073709551616, x * y % 18446744073709551616, by omega, by omega, by omega⟩

set_option maxHeartbeats 1000000 in
theorem times_at {v : Value} (w : World) (x m s t : Nat) (h1 : fv x = v) (hx : x < 115792089237316195423570985008687907853269984665640564039457584007913129639936) (hm : m < 18446744073709551616) (hs : s < 115792089237316195423570985008687907853269984665640564039457584007913129639936) (he : s + 115792089237316195423570985008687907853269984665640564039457584007913129639936 * t = x * m) :
    Calls Try.prog 80 #[v, .int .u64 (m : Int)] w fun e w' => e = .returned (.tuple #[fv s, .int .u64 (t : Int)]) ∧ Below w.heap.size w w' := by
  subst h1
  obtain ⟨x0, x1, x2, x3, a0, a1, a2, a3, ex, fx⟩ := words_of x hx
  obtain ⟨p0, q0, b0, c0, e0⟩ := mul_ex x0 m a0 hm
  obtain ⟨p1, q1, b1, c1, e1⟩ := mul_ex x1 m a1 hm
  obtain ⟨p2, q2, b2, c2, e2⟩ := mul_ex x2 m a2 hm
  obtain ⟨p3, q3, b3, c3, e3⟩ := mul_ex x3 m a3 hm
  have em : x * m = x0 * m + 18446744073709551616 * (x1 * m) + 340282366920938463463374607431768211456 * (x2 * m) + 6277101735386680763835789423207666416102355444464034512896 * (x3 * m) := by rw [ex, row_mul]
  have fl := fv_mk q0 q1 q2 q3 b0 b1 b2 b3
  have fh := fv_mk 0 p0 p1 p2 (by omega) (by omega) (by omega) (by omega)
  obtain ⟨L, hL⟩ : ∃ L, L = q0 + 18446744073709551616 * q1 + 340282366920938463463374607431768211456 * q2 + 6277101735386680763835789423207666416102355444464034512896 * q3 := ⟨_, rfl⟩
  obtain ⟨H, hH⟩ : ∃ H, H = 0 + 18446744073709551616 * p0 + 340282366920938463463374607431768211456 * p1 + 6277101735386680763835789423207666416102355444464034512896 * p2 := ⟨_, rfl⟩
  obtain ⟨k, hk⟩ : ∃ k, L + H = s + 115792089237316195423570985008687907853269984665640564039457584007913129639936 * k ∧ t = p3 + k := by
    refine ⟨t - p3, ?_, ?_⟩ <;> omega
  have hLt : L < 115792089237316195423570985008687907853269984665640564039457584007913129639936 := by omega
  have hHt : H < 115792089237316195423570985008687907853269984665640564039457584007913129639936 := by omega
  have hp := fun w => plus_at w L H s k rfl rfl hLt hHt hs hk.1.symm
  rw [← hL] at fl
  rw [← hH] at fh
  have m0 := fun w => mul64_at w x0 m p0 q0 a0 hm b0 e0
  have m1 := fun w => mul64_at w x1 m p1 q1 a1 hm b1 e1
  have m2 := fun w => mul64_at w x2 m p2 q2 a2 hm b2 e2
  have m3 := fun w => mul64_at w x3 m p3 q3 a3 hm b3 e3
  have hadd : (p3 : Int) + (k : Int) = (t : Int) := by omega
  have ht : t < 18446744073709551616 := by omega
  have hp := fun w => plus_at w L H s k fl.symm fh.symm hLt hHt hs hk.1.symm
  rw [fx]
  clear ex fx a0 a1 a2 a3 b0 b1 b2 b3 c0 c1 c2 c3 e0 e1 e2 e3 em fl fh hL hH hk hLt hHt he hs hx hm
  go_enter Try.func80, Try.ntmps80
  go_wp2_with fail
  refine (m0 _).mono ?_
  rintro e w1 ⟨rfl, rfl⟩
  go_wp2_with fail
  refine (m1 _).mono ?_
  rintro e w1 ⟨rfl, rfl⟩
  go_wp2_with fail
  refine (m2 _).mono ?_
  rintro e w1 ⟨rfl, rfl⟩
  go_wp2_with fail
  refine (m3 _).mono ?_
  rintro e w1 ⟨rfl, rfl⟩
  go_wp2_with fail
  refine (hp _).mono ?_
  rintro e w1 ⟨rfl, hb⟩
  have hR : Blk w1 (w.heap.size + 1) 102 _ := Gr.blk hb (blk_new2 w _ _ _)
  have hB : Below w.heap.size w w1 := Below.gr (below_alloc2 w _ _) hb
  go_wp2_with (first | ((with_reducible refine here_store ?_); refine wpList_store_blk rfl _ _ _ rfl (w.heap.size + 1) (fcs (s)) rfl rfl _ _ (hR) (by kernel_rfl) (by rfl) (fcs_one _) ?_; intro w2 hL2 hB2 hK2) | ((with_reducible refine here_load (d := some 56) ?_); refine wpList_load_fv rfl _ _ rfl (w.heap.size + 1) rfl (s) _ _ _ (hL2) (fv_fcs s) Try.underlying102 rfl (by kernel_rfl) ?_) | ((with_reducible refine here_store ?_); refine wpList_store_blk rfl _ _ _ rfl (w.heap.size + 1) (fcs (s)) rfl rfl _ _ (hL2) (by kernel_rfl) (by rfl) (fcs_one _) ?_; intro w3 hL3 hB3 hK3))
  exact bodyPost_ret (res_cell_tmp rfl _ _ (w.heap.size + 1) _ _ _ _ rfl hL3 rfl Try.underlying102 rfl (by kernel_rfl)) rfl ⟨rfl, hB.trans ((hB2 _ (by omega)).trans (hB3 _ (by omega)))⟩
end Go.Proofs.Ytlojidnlkflpnaa
