/-
  scalar.step, product.
-/
import Derived.Test.YtajjjdmjlloifaaScOps
import Derived.Test.YtajjjdmjlloifaaFeMul
import Derived.Test.YtajjjdmjlloifaaOrdV
namespace Go.Proofs.Ytajjjdmjlloifaa.Sc
open Go.RowKit Go.Lib

def v8P (a b c d e f g h : Nat) : Nat := a + 18446744073709551616 * b + 340282366920938463463374607431768211456 * c + 6277101735386680763835789423207666416102355444464034512896 * d + 115792089237316195423570985008687907853269984665640564039457584007913129639936 * e + 2135987035920910082395021706169552114602704522356652769947041607822219725780640550022962086936576 * f + 39402006196394479212279040100143613805079739270465446667948293404245721771497210611414266254884915640806627990306816 * g + 726838724295606890549323807888004534353641360687318060281490199180639288113397923326191050713763565560762521606266177933534601628614656 * h
theorem step_ex (v m x y : Nat) (hv : v < 18446744073709551616) (hm : m < 18446744073709551616) (hx : x < 18446744073709551616) (hy : y < 18446744073709551616) : ∃ lo hi : Nat, lo < 18446744073709551616 ∧ hi < 18446744073709551616 ∧ lo + 18446744073709551616 * hi = v * m + x + y := by
  have h : v * m ≤ 18446744073709551615 * 18446744073709551615 := Nat.mul_le_mul (by omega) (by omega)
  exact ⟨(v * m + x + y) % 18446744073709551616, (v * m + x + y) / 18446744073709551616, by omega, by omega, by omega⟩
set_option maxHeartbeats 1000000 in
theorem step_at (w : World) (v m x y lo hi : Nat) (hv : v < 18446744073709551616) (hm : m < 18446744073709551616) (hx : x < 18446744073709551616) (hy : y < 18446744073709551616) (hlo : lo < 18446744073709551616) (he : lo + 18446744073709551616 * hi = v * m + x + y) :
    Calls Try.prog 76 #[.int .u64 (v : Int), .int .u64 (m : Int), .int .u64 (x : Int), .int .u64 (y : Int)] w fun e w' => e = .returned (.tuple #[.int .u64 (lo : Int), .int .u64 (hi : Int)]) ∧ w' = w := by
  have h : v * m ≤ 18446744073709551615 * 18446744073709551615 := Nat.mul_le_mul (by omega) (by omega)
  obtain ⟨p, q, bq, bp, hpq⟩ := mul_ex v m hv hm
  obtain ⟨s, k, bs, bk, hsk, ra⟩ := add0_ex q x bq hx
  obtain ⟨t, l, bt, bl, htl, rb⟩ := add0_ex s y bs hy
  have hsum : p + k + l < 18446744073709551616 := by omega
  have hsum1 : p + k < 18446744073709551616 := by omega
  obtain rfl : t = lo := by omega
  have HI : Hid (hi = p + k + l) := Lib.hid (by omega)
  have cm := fun w => mul64_at w v m p q hv hm bq hpq
  clear h hpq hsk htl he hlo bs bq bp
  go_enter Try.func76, Try.ntmps76
  go_wp2_with fail
  refine (cm _).mono ?_
  rintro e w1 ⟨rfl, rfl⟩
  go_wp2
  go_ret2
  exact ⟨by rw [HI.out]; rfl, rfl⟩
theorem below5P (w : World) (a b c d e : Obj) : Below w.heap.size w (((((w.alloc a).alloc b).alloc c).alloc d).alloc e) := ((below_alloc3 w a b c).alloc (by simp <;> omega) _).alloc (by simp <;> omega) _
theorem blk5P (w : World) (a b c d : Obj) (t : TypeId) (cs : Array Value) : Blk (((((w.alloc a).alloc b).alloc c).alloc d).alloc (.cells cs t)) (w.heap.size + 4) t cs := by
  have h := Blk.new ((((w.alloc a).alloc b).alloc c).alloc d) t cs
  have e : ((((w.alloc a).alloc b).alloc c).alloc d).heap.size = w.heap.size + 4 := by simp
  rwa [e] at h

set_option maxHeartbeats 100000000 in
set_option maxRecDepth 100000 in
theorem product_any (w : World) (x y lo hi : Nat) (hx : x < 115792089237316195423570985008687907853269984665640564039457584007913129639936) (hy : y < 115792089237316195423570985008687907853269984665640564039457584007913129639936) (hlo : lo < 115792089237316195423570985008687907853269984665640564039457584007913129639936) (_ : hi < 115792089237316195423570985008687907853269984665640564039457584007913129639936) (he : lo + 115792089237316195423570985008687907853269984665640564039457584007913129639936 * hi = x * y) : Calls Try.prog 69 #[fv x, fv y] w fun e w' => e = .returned (.tuple #[fv lo, fv hi]) ∧ Below w.heap.size w w' := by
  obtain ⟨x0, x1, x2, x3, a0, a1, a2, a3, ex, fx⟩ := words_of x hx
  obtain ⟨y0, y1, y2, y3, b0, b1, b2, b3, ey, fy⟩ := words_of y hy
  obtain ⟨t00, ht00⟩ : ∃ t, t = x0 * y0 := ⟨_, rfl⟩
  obtain ⟨t01, ht01⟩ : ∃ t, t = x0 * y1 := ⟨_, rfl⟩
  obtain ⟨t02, ht02⟩ : ∃ t, t = x0 * y2 := ⟨_, rfl⟩
  obtain ⟨t03, ht03⟩ : ∃ t, t = x0 * y3 := ⟨_, rfl⟩
  obtain ⟨t10, ht10⟩ : ∃ t, t = x1 * y0 := ⟨_, rfl⟩
  obtain ⟨t11, ht11⟩ : ∃ t, t = x1 * y1 := ⟨_, rfl⟩
  obtain ⟨t12, ht12⟩ : ∃ t, t = x1 * y2 := ⟨_, rfl⟩
  obtain ⟨t13, ht13⟩ : ∃ t, t = x1 * y3 := ⟨_, rfl⟩
  obtain ⟨t20, ht20⟩ : ∃ t, t = x2 * y0 := ⟨_, rfl⟩
  obtain ⟨t21, ht21⟩ : ∃ t, t = x2 * y1 := ⟨_, rfl⟩
  obtain ⟨t22, ht22⟩ : ∃ t, t = x2 * y2 := ⟨_, rfl⟩
  obtain ⟨t23, ht23⟩ : ∃ t, t = x2 * y3 := ⟨_, rfl⟩
  obtain ⟨t30, ht30⟩ : ∃ t, t = x3 * y0 := ⟨_, rfl⟩
  obtain ⟨t31, ht31⟩ : ∃ t, t = x3 * y1 := ⟨_, rfl⟩
  obtain ⟨t32, ht32⟩ : ∃ t, t = x3 * y2 := ⟨_, rfl⟩
  obtain ⟨t33, ht33⟩ : ∃ t, t = x3 * y3 := ⟨_, rfl⟩
  have m1 : x * y = x0 * y + 18446744073709551616 * (x1 * y) + 340282366920938463463374607431768211456 * (x2 * y) + 6277101735386680763835789423207666416102355444464034512896 * (x3 * y) := by
    conv => lhs; rw [ex]
    exact row_mul x0 x1 x2 x3 y
  have n0 : x0 * y = x0 * y0 + 18446744073709551616 * (x0 * y1) + 340282366920938463463374607431768211456 * (x0 * y2) + 6277101735386680763835789423207666416102355444464034512896 * (x0 * y3) := by
    conv => lhs; rw [ey]
    exact col_mul x0 y0 y1 y2 y3
  have n1 : x1 * y = x1 * y0 + 18446744073709551616 * (x1 * y1) + 340282366920938463463374607431768211456 * (x1 * y2) + 6277101735386680763835789423207666416102355444464034512896 * (x1 * y3) := by
    conv => lhs; rw [ey]
    exact col_mul x1 y0 y1 y2 y3
  have n2 : x2 * y = x2 * y0 + 18446744073709551616 * (x2 * y1) + 340282366920938463463374607431768211456 * (x2 * y2) + 6277101735386680763835789423207666416102355444464034512896 * (x2 * y3) := by
    conv => lhs; rw [ey]
    exact col_mul x2 y0 y1 y2 y3
  have n3 : x3 * y = x3 * y0 + 18446744073709551616 * (x3 * y1) + 340282366920938463463374607431768211456 * (x3 * y2) + 6277101735386680763835789423207666416102355444464034512896 * (x3 * y3) := by
    conv => lhs; rw [ey]
    exact col_mul x3 y0 y1 y2 y3
  have hxy : 0 + 1 * t00 + 18446744073709551616 * t01 + 340282366920938463463374607431768211456 * t02 + 6277101735386680763835789423207666416102355444464034512896 * t03 + 18446744073709551616 * t10 + 340282366920938463463374607431768211456 * t11 + 6277101735386680763835789423207666416102355444464034512896 * t12 + 115792089237316195423570985008687907853269984665640564039457584007913129639936 * t13 + 340282366920938463463374607431768211456 * t20 + 6277101735386680763835789423207666416102355444464034512896 * t21 + 115792089237316195423570985008687907853269984665640564039457584007913129639936 * t22 + 2135987035920910082395021706169552114602704522356652769947041607822219725780640550022962086936576 * t23 + 6277101735386680763835789423207666416102355444464034512896 * t30 + 115792089237316195423570985008687907853269984665640564039457584007913129639936 * t31 + 2135987035920910082395021706169552114602704522356652769947041607822219725780640550022962086936576 * t32 + 39402006196394479212279040100143613805079739270465446667948293404245721771497210611414266254884915640806627990306816 * t33 = x * y := by
    rw [m1, n0, n1, n2, n3]
    simp only [ht00, ht01, ht02, ht03, ht10, ht11, ht12, ht13, ht20, ht21, ht22, ht23, ht30, ht31, ht32, ht33]
    omega
  clear m1 n0 n1 n2 n3
  have cF : ∀ (r0 r1 r2 r3 r4 r5 r6 r7 : Nat), (r0 < 18446744073709551616 ∧ r1 < 18446744073709551616 ∧ r2 < 18446744073709551616 ∧ r3 < 18446744073709551616 ∧ r4 < 18446744073709551616 ∧ r5 < 18446744073709551616 ∧ r6 < 18446744073709551616 ∧ r7 < 18446744073709551616) → v8P r0 r1 r2 r3 r4 r5 r6 r7 = 0 + 1 * t00 + 18446744073709551616 * t01 + 340282366920938463463374607431768211456 * t02 + 6277101735386680763835789423207666416102355444464034512896 * t03 + 18446744073709551616 * t10 + 340282366920938463463374607431768211456 * t11 + 6277101735386680763835789423207666416102355444464034512896 * t12 + 115792089237316195423570985008687907853269984665640564039457584007913129639936 * t13 + 340282366920938463463374607431768211456 * t20 + 6277101735386680763835789423207666416102355444464034512896 * t21 + 115792089237316195423570985008687907853269984665640564039457584007913129639936 * t22 + 2135987035920910082395021706169552114602704522356652769947041607822219725780640550022962086936576 * t23 + 6277101735386680763835789423207666416102355444464034512896 * t30 + 115792089237316195423570985008687907853269984665640564039457584007913129639936 * t31 + 2135987035920910082395021706169552114602704522356652769947041607822219725780640550022962086936576 * t32 + 39402006196394479212279040100143613805079739270465446667948293404245721771497210611414266254884915640806627990306816 * t33 → fv lo = .agg #[.int .u64 (r0 : Int), .int .u64 (r1 : Int), .int .u64 (r2 : Int), .int .u64 (r3 : Int)] ∧ fv hi = .agg #[.int .u64 (r4 : Int), .int .u64 (r5 : Int), .int .u64 (r6 : Int), .int .u64 (r7 : Int)] := by
    intro r0 r1 r2 r3 r4 r5 r6 r7 hlt hv
    obtain ⟨l0, l1, l2, l3, l4, l5, l6, l7⟩ := hlt
    rw [hxy, ← he] at hv
    simp only [v8P] at hv
    have e1 : lo = r0 + 18446744073709551616 * r1 + 340282366920938463463374607431768211456 * r2 + 6277101735386680763835789423207666416102355444464034512896 * r3 := by omega
    have e2 : hi = r4 + 18446744073709551616 * r5 + 340282366920938463463374607431768211456 * r6 + 6277101735386680763835789423207666416102355444464034512896 * r7 := by omega
    rw [e1, e2]
    exact ⟨(fv_mk r0 r1 r2 r3 l0 l1 l2 l3).symm, (fv_mk r4 r5 r6 r7 l4 l5 l6 l7).symm⟩
  have HT := Lib.hid (And.intro (And.intro a0 (And.intro a1 (And.intro a2 a3))) (And.intro (And.intro b0 (And.intro b1 (And.intro b2 b3))) (And.intro ht00 (And.intro ht01 (And.intro ht02 (And.intro ht03 (And.intro ht10 (And.intro ht11 (And.intro ht12 (And.intro ht13 (And.intro ht20 (And.intro ht21 (And.intro ht22 (And.intro ht23 (And.intro ht30 (And.intro ht31 (And.intro ht32 (And.intro ht33 trivial))))))))))))))))))
  rw [fx, fy]
  clear fx fy ex ey hx hy he hlo hxy a0 a1 a2 a3 b0 b1 b2 b3 ht00 ht01 ht02 ht03 ht10 ht11 ht12 ht13 ht20 ht21 ht22 ht23 ht30 ht31 ht32 ht33
  go_enter Try.func69, Try.ntmps69
  go_wp2_with fail
  have ix0 : ∀ W, (Instr.index 36 (.agg #[.int .u64 (x0 : Int), .int .u64 (x1 : Int), .int .u64 (x2 : Int), .int .u64 (x3 : Int)]) (.int .i64 0)).run Try.prog W = .ok (.int .u64 (x0 : Int)) W := fun W => by kernel_rfl
  have ix1 : ∀ W, (Instr.index 36 (.agg #[.int .u64 (x0 : Int), .int .u64 (x1 : Int), .int .u64 (x2 : Int), .int .u64 (x3 : Int)]) (.int .i64 1)).run Try.prog W = .ok (.int .u64 (x1 : Int)) W := fun W => by kernel_rfl
  have ix2 : ∀ W, (Instr.index 36 (.agg #[.int .u64 (x0 : Int), .int .u64 (x1 : Int), .int .u64 (x2 : Int), .int .u64 (x3 : Int)]) (.int .i64 2)).run Try.prog W = .ok (.int .u64 (x2 : Int)) W := fun W => by kernel_rfl
  have ix3 : ∀ W, (Instr.index 36 (.agg #[.int .u64 (x0 : Int), .int .u64 (x1 : Int), .int .u64 (x2 : Int), .int .u64 (x3 : Int)]) (.int .i64 3)).run Try.prog W = .ok (.int .u64 (x3 : Int)) W := fun W => by kernel_rfl
  have iy0 : ∀ W, (Instr.index 36 (.agg #[.int .u64 (y0 : Int), .int .u64 (y1 : Int), .int .u64 (y2 : Int), .int .u64 (y3 : Int)]) (.int .i64 0)).run Try.prog W = .ok (.int .u64 (y0 : Int)) W := fun W => by kernel_rfl
  have iy1 : ∀ W, (Instr.index 36 (.agg #[.int .u64 (y0 : Int), .int .u64 (y1 : Int), .int .u64 (y2 : Int), .int .u64 (y3 : Int)]) (.int .i64 1)).run Try.prog W = .ok (.int .u64 (y1 : Int)) W := fun W => by kernel_rfl
  have iy2 : ∀ W, (Instr.index 36 (.agg #[.int .u64 (y0 : Int), .int .u64 (y1 : Int), .int .u64 (y2 : Int), .int .u64 (y3 : Int)]) (.int .i64 2)).run Try.prog W = .ok (.int .u64 (y2 : Int)) W := fun W => by kernel_rfl
  have iy3 : ∀ W, (Instr.index 36 (.agg #[.int .u64 (y0 : Int), .int .u64 (y1 : Int), .int .u64 (y2 : Int), .int .u64 (y3 : Int)]) (.int .i64 3)).run Try.prog W = .ok (.int .u64 (y3 : Int)) W := fun W => by kernel_rfl
  go_loopw [13] (fun i wr => Below w.heap.size w wr ∧ Blk wr (w.heap.size + 1) 36 #[.int .u64 (y0 : Int), .int .u64 (y1 : Int), .int .u64 (y2 : Int), .int .u64 (y3 : Int)] ∧ Blk wr (w.heap.size + 2) 36 #[.int .u64 0, .int .u64 0, .int .u64 0, .int .u64 0] ∧ Blk wr (w.heap.size + 3) 36 #[.int .u64 0, .int .u64 0, .int .u64 0, .int .u64 0] ∧ Hid ((i = .int .i64 0 ∧ Blk wr (w.heap.size + 4) 88 #[.int .u64 0, .int .u64 0, .int .u64 0, .int .u64 0, .int .u64 0, .int .u64 0, .int .u64 0, .int .u64 0] ∧ (True) ∧ v8P 0 0 0 0 0 0 0 0 = 0) ∨ (i = .int .i64 1 ∧ ∃ r0 r1 r2 r3 r4 : Nat, Blk wr (w.heap.size + 4) 88 #[.int .u64 (r0 : Int), .int .u64 (r1 : Int), .int .u64 (r2 : Int), .int .u64 (r3 : Int), .int .u64 (r4 : Int), .int .u64 0, .int .u64 0, .int .u64 0] ∧ (r0 < 18446744073709551616 ∧ r1 < 18446744073709551616 ∧ r2 < 18446744073709551616 ∧ r3 < 18446744073709551616 ∧ r4 < 18446744073709551616) ∧ v8P r0 r1 r2 r3 r4 0 0 0 = 0 + 1 * t00 + 18446744073709551616 * t01 + 340282366920938463463374607431768211456 * t02 + 6277101735386680763835789423207666416102355444464034512896 * t03) ∨ (i = .int .i64 2 ∧ ∃ r0 r1 r2 r3 r4 r5 : Nat, Blk wr (w.heap.size + 4) 88 #[.int .u64 (r0 : Int), .int .u64 (r1 : Int), .int .u64 (r2 : Int), .int .u64 (r3 : Int), .int .u64 (r4 : Int), .int .u64 (r5 : Int), .int .u64 0, .int .u64 0] ∧ (r0 < 18446744073709551616 ∧ r1 < 18446744073709551616 ∧ r2 < 18446744073709551616 ∧ r3 < 18446744073709551616 ∧ r4 < 18446744073709551616 ∧ r5 < 18446744073709551616) ∧ v8P r0 r1 r2 r3 r4 r5 0 0 = 0 + 1 * t00 + 18446744073709551616 * t01 + 340282366920938463463374607431768211456 * t02 + 6277101735386680763835789423207666416102355444464034512896 * t03 + 18446744073709551616 * t10 + 340282366920938463463374607431768211456 * t11 + 6277101735386680763835789423207666416102355444464034512896 * t12 + 115792089237316195423570985008687907853269984665640564039457584007913129639936 * t13) ∨ (i = .int .i64 3 ∧ ∃ r0 r1 r2 r3 r4 r5 r6 : Nat, Blk wr (w.heap.size + 4) 88 #[.int .u64 (r0 : Int), .int .u64 (r1 : Int), .int .u64 (r2 : Int), .int .u64 (r3 : Int), .int .u64 (r4 : Int), .int .u64 (r5 : Int), .int .u64 (r6 : Int), .int .u64 0] ∧ (r0 < 18446744073709551616 ∧ r1 < 18446744073709551616 ∧ r2 < 18446744073709551616 ∧ r3 < 18446744073709551616 ∧ r4 < 18446744073709551616 ∧ r5 < 18446744073709551616 ∧ r6 < 18446744073709551616) ∧ v8P r0 r1 r2 r3 r4 r5 r6 0 = 0 + 1 * t00 + 18446744073709551616 * t01 + 340282366920938463463374607431768211456 * t02 + 6277101735386680763835789423207666416102355444464034512896 * t03 + 18446744073709551616 * t10 + 340282366920938463463374607431768211456 * t11 + 6277101735386680763835789423207666416102355444464034512896 * t12 + 115792089237316195423570985008687907853269984665640564039457584007913129639936 * t13 + 340282366920938463463374607431768211456 * t20 + 6277101735386680763835789423207666416102355444464034512896 * t21 + 115792089237316195423570985008687907853269984665640564039457584007913129639936 * t22 + 2135987035920910082395021706169552114602704522356652769947041607822219725780640550022962086936576 * t23) ∨ (i = .int .i64 4 ∧ ∃ r0 r1 r2 r3 r4 r5 r6 r7 : Nat, Blk wr (w.heap.size + 4) 88 #[.int .u64 (r0 : Int), .int .u64 (r1 : Int), .int .u64 (r2 : Int), .int .u64 (r3 : Int), .int .u64 (r4 : Int), .int .u64 (r5 : Int), .int .u64 (r6 : Int), .int .u64 (r7 : Int)] ∧ (r0 < 18446744073709551616 ∧ r1 < 18446744073709551616 ∧ r2 < 18446744073709551616 ∧ r3 < 18446744073709551616 ∧ r4 < 18446744073709551616 ∧ r5 < 18446744073709551616 ∧ r6 < 18446744073709551616 ∧ r7 < 18446744073709551616) ∧ v8P r0 r1 r2 r3 r4 r5 r6 r7 = 0 + 1 * t00 + 18446744073709551616 * t01 + 340282366920938463463374607431768211456 * t02 + 6277101735386680763835789423207666416102355444464034512896 * t03 + 18446744073709551616 * t10 + 340282366920938463463374607431768211456 * t11 + 6277101735386680763835789423207666416102355444464034512896 * t12 + 115792089237316195423570985008687907853269984665640564039457584007913129639936 * t13 + 340282366920938463463374607431768211456 * t20 + 6277101735386680763835789423207666416102355444464034512896 * t21 + 115792089237316195423570985008687907853269984665640564039457584007913129639936 * t22 + 2135987035920910082395021706169552114602704522356652769947041607822219725780640550022962086936576 * t23 + 6277101735386680763835789423207666416102355444464034512896 * t30 + 115792089237316195423570985008687907853269984665640564039457584007913129639936 * t31 + 2135987035920910082395021706169552114602704522356652769947041607822219725780640550022962086936576 * t32 + 39402006196394479212279040100143613805079739270465446667948293404245721771497210611414266254884915640806627990306816 * t33))) (fun i _ => 4 - (intOf i).toNat)
  case atStart => exact ⟨below5P w _ _ _ _ _, (((blk_new2 w _ _ _).alloc _).alloc _).alloc _, ((blk_new3 w _ _ _ _).alloc _).alloc _, (blk_new4 w _ _ _ _ _).alloc _, Lib.hid (.inl ⟨rfl, blk5P w _ _ _ _ _ _, trivial, by simp only [v8P]⟩)⟩
  case round =>
    obtain ⟨hb, BY, BL, BH, HI⟩ := hrel
    rcases HI.out with ⟨rfl, X⟩ | ⟨rfl, X⟩ | ⟨rfl, X⟩ | ⟨rfl, X⟩ | ⟨rfl, X⟩
    · clear HI
      obtain ⟨BW, hlt, hval⟩ := X
      have HL := Lib.hid (And.intro hlt hval)
      clear hlt hval
      go_wp2_with (first | ((with_reducible refine here_load (d := some 17) ?_); refine wpList_load_blk rfl _ _ rfl (w.heap.size + 1) rfl _ _ _ BY Try.underlying36 rfl (by kernel_rfl) ?_))
      obtain ⟨hlt, hval⟩ := HL.out
      go_loopw [9, 18] (fun cv j wr => Below w.heap.size w wr ∧ Blk wr (w.heap.size + 1) 36 #[.int .u64 (y0 : Int), .int .u64 (y1 : Int), .int .u64 (y2 : Int), .int .u64 (y3 : Int)] ∧ Blk wr (w.heap.size + 2) 36 #[.int .u64 0, .int .u64 0, .int .u64 0, .int .u64 0] ∧ Blk wr (w.heap.size + 3) 36 #[.int .u64 0, .int .u64 0, .int .u64 0, .int .u64 0] ∧ Hid ((j = .int .i64 0 ∧ ∃ r0 r1 r2 r3 c : Nat, cv = .int .u64 (c : Int) ∧ Blk wr (w.heap.size + 4) 88 #[.int .u64 (r0 : Int), .int .u64 (r1 : Int), .int .u64 (r2 : Int), .int .u64 (r3 : Int), .int .u64 0, .int .u64 0, .int .u64 0, .int .u64 0] ∧ (r0 < 18446744073709551616 ∧ r1 < 18446744073709551616 ∧ r2 < 18446744073709551616 ∧ r3 < 18446744073709551616) ∧ c = 0 ∧ v8P r0 r1 r2 r3 0 0 0 0 + 1 * c = 0) ∨ (j = .int .i64 1 ∧ ∃ r0 r1 r2 r3 c : Nat, cv = .int .u64 (c : Int) ∧ Blk wr (w.heap.size + 4) 88 #[.int .u64 (r0 : Int), .int .u64 (r1 : Int), .int .u64 (r2 : Int), .int .u64 (r3 : Int), .int .u64 0, .int .u64 0, .int .u64 0, .int .u64 0] ∧ (r0 < 18446744073709551616 ∧ r1 < 18446744073709551616 ∧ r2 < 18446744073709551616 ∧ r3 < 18446744073709551616) ∧ c < 18446744073709551616 ∧ v8P r0 r1 r2 r3 0 0 0 0 + 18446744073709551616 * c = 0 + 1 * t00) ∨ (j = .int .i64 2 ∧ ∃ r0 r1 r2 r3 c : Nat, cv = .int .u64 (c : Int) ∧ Blk wr (w.heap.size + 4) 88 #[.int .u64 (r0 : Int), .int .u64 (r1 : Int), .int .u64 (r2 : Int), .int .u64 (r3 : Int), .int .u64 0, .int .u64 0, .int .u64 0, .int .u64 0] ∧ (r0 < 18446744073709551616 ∧ r1 < 18446744073709551616 ∧ r2 < 18446744073709551616 ∧ r3 < 18446744073709551616) ∧ c < 18446744073709551616 ∧ v8P r0 r1 r2 r3 0 0 0 0 + 340282366920938463463374607431768211456 * c = 0 + 1 * t00 + 18446744073709551616 * t01) ∨ (j = .int .i64 3 ∧ ∃ r0 r1 r2 r3 c : Nat, cv = .int .u64 (c : Int) ∧ Blk wr (w.heap.size + 4) 88 #[.int .u64 (r0 : Int), .int .u64 (r1 : Int), .int .u64 (r2 : Int), .int .u64 (r3 : Int), .int .u64 0, .int .u64 0, .int .u64 0, .int .u64 0] ∧ (r0 < 18446744073709551616 ∧ r1 < 18446744073709551616 ∧ r2 < 18446744073709551616 ∧ r3 < 18446744073709551616) ∧ c < 18446744073709551616 ∧ v8P r0 r1 r2 r3 0 0 0 0 + 6277101735386680763835789423207666416102355444464034512896 * c = 0 + 1 * t00 + 18446744073709551616 * t01 + 340282366920938463463374607431768211456 * t02) ∨ (j = .int .i64 4 ∧ ∃ r0 r1 r2 r3 c : Nat, cv = .int .u64 (c : Int) ∧ Blk wr (w.heap.size + 4) 88 #[.int .u64 (r0 : Int), .int .u64 (r1 : Int), .int .u64 (r2 : Int), .int .u64 (r3 : Int), .int .u64 0, .int .u64 0, .int .u64 0, .int .u64 0] ∧ (r0 < 18446744073709551616 ∧ r1 < 18446744073709551616 ∧ r2 < 18446744073709551616 ∧ r3 < 18446744073709551616) ∧ c < 18446744073709551616 ∧ v8P r0 r1 r2 r3 0 0 0 0 + 115792089237316195423570985008687907853269984665640564039457584007913129639936 * c = 0 + 1 * t00 + 18446744073709551616 * t01 + 340282366920938463463374607431768211456 * t02 + 6277101735386680763835789423207666416102355444464034512896 * t03))) (fun _ j _ => 4 - (intOf j).toNat)
      case atStart => exact ⟨hb, BY, BL, BH, Lib.hid (.inl ⟨rfl, 0, 0, 0, 0, 0, rfl, BW, ⟨by omega, by omega, by omega, by omega⟩, rfl, by omega⟩)⟩
      case round =>
        clear hb BY BL BH BW hlt hval HL
        obtain ⟨hb, BY, BL, BH, HI⟩ := hrel
        rcases HI.out with ⟨rfl, X⟩ | ⟨rfl, X⟩ | ⟨rfl, X⟩ | ⟨rfl, X⟩ | ⟨rfl, X⟩
        · clear HI
          obtain ⟨r0, r1, r2, r3, c, rfl, BW, ⟨b0, b1, b2, b3⟩, hc, hval⟩ := X
          have hc1 : c < 18446744073709551616 := by omega
          obtain ⟨yy, cc, bY, bC, hml⟩ := step_ex x0 y0 r0 c HT.out.1.1 HT.out.2.1.1 b0 hc1
          have cs := fun w => step_at w x0 y0 r0 c yy cc HT.out.1.1 HT.out.2.1.1 b0 hc1 bY hml
          rw [← HT.out.2.2.1] at hml
          have hnew : v8P yy r1 r2 r3 0 0 0 0 + 18446744073709551616 * cc = 0 + 1 * t00 := by
            simp only [v8P] at hval ⊢
            omega
          have HN := Lib.hid (And.intro hnew (And.intro (And.intro b0 (And.intro b1 (And.intro b2 b3))) (And.intro bY bC)))
          have pa : wr.cell? ⟨w.heap.size + 4, 0, none⟩ = some (.int .u64 (r0 : Int)) := BW.cell 0
          have pf := BW.frozen 0
          clear hval hnew hml bY bC hc hc1 b0 b1 b2 b3
          go_wp2_with fail
          refine (cs _).mono ?_
          rintro e u ⟨rfl, rfl⟩
          go_wp2
          obtain ⟨hnew, ⟨b0, b1, b2, b3⟩, bY, bC⟩ := HN.out
          refine ⟨⟨(hb.setCell (by show w.heap.size ≤ w.heap.size + 4; omega) _), (BY.far (by show w.heap.size + 1 ≠ w.heap.size + 4; omega) _), (BL.far (by show w.heap.size + 2 ≠ w.heap.size + 4; omega) _), (BH.far (by show w.heap.size + 3 ≠ w.heap.size + 4; omega) _), Lib.hid (.inr (.inl (⟨rfl, yy, r1, r2, r3, cc, rfl, BW.set_ 0 _, ⟨bY, b1, b2, b3⟩, bC, hnew⟩)))⟩, by decide⟩
        · clear HI
          obtain ⟨r0, r1, r2, r3, c, rfl, BW, ⟨b0, b1, b2, b3⟩, hc, hval⟩ := X
          have hc1 : c < 18446744073709551616 := by omega
          obtain ⟨yy, cc, bY, bC, hml⟩ := step_ex x0 y1 r1 c HT.out.1.1 HT.out.2.1.2.1 b1 hc1
          have cs := fun w => step_at w x0 y1 r1 c yy cc HT.out.1.1 HT.out.2.1.2.1 b1 hc1 bY hml
          rw [← HT.out.2.2.2.1] at hml
          have hnew : v8P r0 yy r2 r3 0 0 0 0 + 340282366920938463463374607431768211456 * cc = 0 + 1 * t00 + 18446744073709551616 * t01 := by
            simp only [v8P] at hval ⊢
            omega
          have HN := Lib.hid (And.intro hnew (And.intro (And.intro b0 (And.intro b1 (And.intro b2 b3))) (And.intro bY bC)))
          have pa : wr.cell? ⟨w.heap.size + 4, 1, none⟩ = some (.int .u64 (r1 : Int)) := BW.cell 1
          have pf := BW.frozen 1
          clear hval hnew hml bY bC hc hc1 b0 b1 b2 b3
          go_wp2_with fail
          refine (cs _).mono ?_
          rintro e u ⟨rfl, rfl⟩
          go_wp2
          obtain ⟨hnew, ⟨b0, b1, b2, b3⟩, bY, bC⟩ := HN.out
          refine ⟨⟨(hb.setCell (by show w.heap.size ≤ w.heap.size + 4; omega) _), (BY.far (by show w.heap.size + 1 ≠ w.heap.size + 4; omega) _), (BL.far (by show w.heap.size + 2 ≠ w.heap.size + 4; omega) _), (BH.far (by show w.heap.size + 3 ≠ w.heap.size + 4; omega) _), Lib.hid (.inr (.inr (.inl (⟨rfl, r0, yy, r2, r3, cc, rfl, BW.set_ 1 _, ⟨b0, bY, b2, b3⟩, bC, hnew⟩))))⟩, by decide⟩
        · clear HI
          obtain ⟨r0, r1, r2, r3, c, rfl, BW, ⟨b0, b1, b2, b3⟩, hc, hval⟩ := X
          have hc1 : c < 18446744073709551616 := by omega
          obtain ⟨yy, cc, bY, bC, hml⟩ := step_ex x0 y2 r2 c HT.out.1.1 HT.out.2.1.2.2.1 b2 hc1
          have cs := fun w => step_at w x0 y2 r2 c yy cc HT.out.1.1 HT.out.2.1.2.2.1 b2 hc1 bY hml
          rw [← HT.out.2.2.2.2.1] at hml
          have hnew : v8P r0 r1 yy r3 0 0 0 0 + 6277101735386680763835789423207666416102355444464034512896 * cc = 0 + 1 * t00 + 18446744073709551616 * t01 + 340282366920938463463374607431768211456 * t02 := by
            simp only [v8P] at hval ⊢
            omega
          have HN := Lib.hid (And.intro hnew (And.intro (And.intro b0 (And.intro b1 (And.intro b2 b3))) (And.intro bY bC)))
          have pa : wr.cell? ⟨w.heap.size + 4, 2, none⟩ = some (.int .u64 (r2 : Int)) := BW.cell 2
          have pf := BW.frozen 2
          clear hval hnew hml bY bC hc hc1 b0 b1 b2 b3
          go_wp2_with fail
          refine (cs _).mono ?_
          rintro e u ⟨rfl, rfl⟩
          go_wp2
          obtain ⟨hnew, ⟨b0, b1, b2, b3⟩, bY, bC⟩ := HN.out
          refine ⟨⟨(hb.setCell (by show w.heap.size ≤ w.heap.size + 4; omega) _), (BY.far (by show w.heap.size + 1 ≠ w.heap.size + 4; omega) _), (BL.far (by show w.heap.size + 2 ≠ w.heap.size + 4; omega) _), (BH.far (by show w.heap.size + 3 ≠ w.heap.size + 4; omega) _), Lib.hid (.inr (.inr (.inr (.inl (⟨rfl, r0, r1, yy, r3, cc, rfl, BW.set_ 2 _, ⟨b0, b1, bY, b3⟩, bC, hnew⟩)))))⟩, by decide⟩
        · clear HI
          obtain ⟨r0, r1, r2, r3, c, rfl, BW, ⟨b0, b1, b2, b3⟩, hc, hval⟩ := X
          have hc1 : c < 18446744073709551616 := by omega
          obtain ⟨yy, cc, bY, bC, hml⟩ := step_ex x0 y3 r3 c HT.out.1.1 HT.out.2.1.2.2.2 b3 hc1
          have cs := fun w => step_at w x0 y3 r3 c yy cc HT.out.1.1 HT.out.2.1.2.2.2 b3 hc1 bY hml
          rw [← HT.out.2.2.2.2.2.1] at hml
          have hnew : v8P r0 r1 r2 yy 0 0 0 0 + 115792089237316195423570985008687907853269984665640564039457584007913129639936 * cc = 0 + 1 * t00 + 18446744073709551616 * t01 + 340282366920938463463374607431768211456 * t02 + 6277101735386680763835789423207666416102355444464034512896 * t03 := by
            simp only [v8P] at hval ⊢
            omega
          have HN := Lib.hid (And.intro hnew (And.intro (And.intro b0 (And.intro b1 (And.intro b2 b3))) (And.intro bY bC)))
          have pa : wr.cell? ⟨w.heap.size + 4, 3, none⟩ = some (.int .u64 (r3 : Int)) := BW.cell 3
          have pf := BW.frozen 3
          clear hval hnew hml bY bC hc hc1 b0 b1 b2 b3
          go_wp2_with fail
          refine (cs _).mono ?_
          rintro e u ⟨rfl, rfl⟩
          go_wp2
          obtain ⟨hnew, ⟨b0, b1, b2, b3⟩, bY, bC⟩ := HN.out
          refine ⟨⟨(hb.setCell (by show w.heap.size ≤ w.heap.size + 4; omega) _), (BY.far (by show w.heap.size + 1 ≠ w.heap.size + 4; omega) _), (BL.far (by show w.heap.size + 2 ≠ w.heap.size + 4; omega) _), (BH.far (by show w.heap.size + 3 ≠ w.heap.size + 4; omega) _), Lib.hid (.inr (.inr (.inr (.inr (⟨rfl, r0, r1, r2, yy, cc, rfl, BW.set_ 3 _, ⟨b0, b1, b2, bY⟩, bC, hnew⟩)))))⟩, by decide⟩
        · clear HI
          obtain ⟨r0, r1, r2, r3, c, rfl, BW, ⟨b0, b1, b2, b3⟩, hc, hval⟩ := X
          have HV := Lib.hid (And.intro hval hc)
          have HB := Lib.hid (And.intro b0 (And.intro b1 (And.intro b2 b3)))
          have pa : wr.cell? ⟨w.heap.size + 4, 4, none⟩ = some (.int .u64 0) := BW.cell 4
          have pf := BW.frozen 4
          clear hval hc b0 b1 b2 b3
          go_wp2
          obtain ⟨b0, b1, b2, b3⟩ := HB.out
          refine ⟨⟨(hb.setCell (by show w.heap.size ≤ w.heap.size + 4; omega) _), (BY.far (by show w.heap.size + 1 ≠ w.heap.size + 4; omega) _), (BL.far (by show w.heap.size + 2 ≠ w.heap.size + 4; omega) _), (BH.far (by show w.heap.size + 3 ≠ w.heap.size + 4; omega) _), Lib.hid (.inr (.inl (⟨rfl, r0, r1, r2, r3, c, BW.set_ 4 _, ⟨b0, b1, b2, b3, HV.out.2⟩, by have := HV.out.1; simp only [v8P] at this ⊢; omega⟩)))⟩, by decide⟩
    · clear HI
      obtain ⟨r0, r1, r2, r3, r4, BW, hlt, hval⟩ := X
      have HL := Lib.hid (And.intro hlt hval)
      clear hlt hval
      go_wp2_with (first | ((with_reducible refine here_load (d := some 17) ?_); refine wpList_load_blk rfl _ _ rfl (w.heap.size + 1) rfl _ _ _ BY Try.underlying36 rfl (by kernel_rfl) ?_))
      obtain ⟨hlt, hval⟩ := HL.out
      go_loopw [9, 18] (fun cv j wr => Below w.heap.size w wr ∧ Blk wr (w.heap.size + 1) 36 #[.int .u64 (y0 : Int), .int .u64 (y1 : Int), .int .u64 (y2 : Int), .int .u64 (y3 : Int)] ∧ Blk wr (w.heap.size + 2) 36 #[.int .u64 0, .int .u64 0, .int .u64 0, .int .u64 0] ∧ Blk wr (w.heap.size + 3) 36 #[.int .u64 0, .int .u64 0, .int .u64 0, .int .u64 0] ∧ Hid ((j = .int .i64 0 ∧ ∃ r0 r1 r2 r3 r4 c : Nat, cv = .int .u64 (c : Int) ∧ Blk wr (w.heap.size + 4) 88 #[.int .u64 (r0 : Int), .int .u64 (r1 : Int), .int .u64 (r2 : Int), .int .u64 (r3 : Int), .int .u64 (r4 : Int), .int .u64 0, .int .u64 0, .int .u64 0] ∧ (r0 < 18446744073709551616 ∧ r1 < 18446744073709551616 ∧ r2 < 18446744073709551616 ∧ r3 < 18446744073709551616 ∧ r4 < 18446744073709551616) ∧ c = 0 ∧ v8P r0 r1 r2 r3 r4 0 0 0 + 18446744073709551616 * c = 0 + 1 * t00 + 18446744073709551616 * t01 + 340282366920938463463374607431768211456 * t02 + 6277101735386680763835789423207666416102355444464034512896 * t03) ∨ (j = .int .i64 1 ∧ ∃ r0 r1 r2 r3 r4 c : Nat, cv = .int .u64 (c : Int) ∧ Blk wr (w.heap.size + 4) 88 #[.int .u64 (r0 : Int), .int .u64 (r1 : Int), .int .u64 (r2 : Int), .int .u64 (r3 : Int), .int .u64 (r4 : Int), .int .u64 0, .int .u64 0, .int .u64 0] ∧ (r0 < 18446744073709551616 ∧ r1 < 18446744073709551616 ∧ r2 < 18446744073709551616 ∧ r3 < 18446744073709551616 ∧ r4 < 18446744073709551616) ∧ c < 18446744073709551616 ∧ v8P r0 r1 r2 r3 r4 0 0 0 + 340282366920938463463374607431768211456 * c = 0 + 1 * t00 + 18446744073709551616 * t01 + 340282366920938463463374607431768211456 * t02 + 6277101735386680763835789423207666416102355444464034512896 * t03 + 18446744073709551616 * t10) ∨ (j = .int .i64 2 ∧ ∃ r0 r1 r2 r3 r4 c : Nat, cv = .int .u64 (c : Int) ∧ Blk wr (w.heap.size + 4) 88 #[.int .u64 (r0 : Int), .int .u64 (r1 : Int), .int .u64 (r2 : Int), .int .u64 (r3 : Int), .int .u64 (r4 : Int), .int .u64 0, .int .u64 0, .int .u64 0] ∧ (r0 < 18446744073709551616 ∧ r1 < 18446744073709551616 ∧ r2 < 18446744073709551616 ∧ r3 < 18446744073709551616 ∧ r4 < 18446744073709551616) ∧ c < 18446744073709551616 ∧ v8P r0 r1 r2 r3 r4 0 0 0 + 6277101735386680763835789423207666416102355444464034512896 * c = 0 + 1 * t00 + 18446744073709551616 * t01 + 340282366920938463463374607431768211456 * t02 + 6277101735386680763835789423207666416102355444464034512896 * t03 + 18446744073709551616 * t10 + 340282366920938463463374607431768211456 * t11) ∨ (j = .int .i64 3 ∧ ∃ r0 r1 r2 r3 r4 c : Nat, cv = .int .u64 (c : Int) ∧ Blk wr (w.heap.size + 4) 88 #[.int .u64 (r0 : Int), .int .u64 (r1 : Int), .int .u64 (r2 : Int), .int .u64 (r3 : Int), .int .u64 (r4 : Int), .int .u64 0, .int .u64 0, .int .u64 0] ∧ (r0 < 18446744073709551616 ∧ r1 < 18446744073709551616 ∧ r2 < 18446744073709551616 ∧ r3 < 18446744073709551616 ∧ r4 < 18446744073709551616) ∧ c < 18446744073709551616 ∧ v8P r0 r1 r2 r3 r4 0 0 0 + 115792089237316195423570985008687907853269984665640564039457584007913129639936 * c = 0 + 1 * t00 + 18446744073709551616 * t01 + 340282366920938463463374607431768211456 * t02 + 6277101735386680763835789423207666416102355444464034512896 * t03 + 18446744073709551616 * t10 + 340282366920938463463374607431768211456 * t11 + 6277101735386680763835789423207666416102355444464034512896 * t12) ∨ (j = .int .i64 4 ∧ ∃ r0 r1 r2 r3 r4 c : Nat, cv = .int .u64 (c : Int) ∧ Blk wr (w.heap.size + 4) 88 #[.int .u64 (r0 : Int), .int .u64 (r1 : Int), .int .u64 (r2 : Int), .int .u64 (r3 : Int), .int .u64 (r4 : Int), .int .u64 0, .int .u64 0, .int .u64 0] ∧ (r0 < 18446744073709551616 ∧ r1 < 18446744073709551616 ∧ r2 < 18446744073709551616 ∧ r3 < 18446744073709551616 ∧ r4 < 18446744073709551616) ∧ c < 18446744073709551616 ∧ v8P r0 r1 r2 r3 r4 0 0 0 + 2135987035920910082395021706169552114602704522356652769947041607822219725780640550022962086936576 * c = 0 + 1 * t00 + 18446744073709551616 * t01 + 340282366920938463463374607431768211456 * t02 + 6277101735386680763835789423207666416102355444464034512896 * t03 + 18446744073709551616 * t10 + 340282366920938463463374607431768211456 * t11 + 6277101735386680763835789423207666416102355444464034512896 * t12 + 115792089237316195423570985008687907853269984665640564039457584007913129639936 * t13))) (fun _ j _ => 4 - (intOf j).toNat)
      case atStart => exact ⟨hb, BY, BL, BH, Lib.hid (.inl ⟨rfl, r0, r1, r2, r3, r4, 0, rfl, BW, hlt, rfl, by omega⟩)⟩
      case round =>
        clear hb BY BL BH BW hlt hval HL
        obtain ⟨hb, BY, BL, BH, HI⟩ := hrel
        rcases HI.out with ⟨rfl, X⟩ | ⟨rfl, X⟩ | ⟨rfl, X⟩ | ⟨rfl, X⟩ | ⟨rfl, X⟩
        · clear HI
          obtain ⟨r0, r1, r2, r3, r4, c, rfl, BW, ⟨b0, b1, b2, b3, b4⟩, hc, hval⟩ := X
          have hc1 : c < 18446744073709551616 := by omega
          obtain ⟨yy, cc, bY, bC, hml⟩ := step_ex x1 y0 r1 c HT.out.1.2.1 HT.out.2.1.1 b1 hc1
          have cs := fun w => step_at w x1 y0 r1 c yy cc HT.out.1.2.1 HT.out.2.1.1 b1 hc1 bY hml
          rw [← HT.out.2.2.2.2.2.2.1] at hml
          have hnew : v8P r0 yy r2 r3 r4 0 0 0 + 340282366920938463463374607431768211456 * cc = 0 + 1 * t00 + 18446744073709551616 * t01 + 340282366920938463463374607431768211456 * t02 + 6277101735386680763835789423207666416102355444464034512896 * t03 + 18446744073709551616 * t10 := by
            simp only [v8P] at hval ⊢
            omega
          have HN := Lib.hid (And.intro hnew (And.intro (And.intro b0 (And.intro b1 (And.intro b2 (And.intro b3 b4)))) (And.intro bY bC)))
          have pa : wr.cell? ⟨w.heap.size + 4, 1, none⟩ = some (.int .u64 (r1 : Int)) := BW.cell 1
          have pf := BW.frozen 1
          clear hval hnew hml bY bC hc hc1 b0 b1 b2 b3 b4
          go_wp2_with fail
          refine (cs _).mono ?_
          rintro e u ⟨rfl, rfl⟩
          go_wp2
          obtain ⟨hnew, ⟨b0, b1, b2, b3, b4⟩, bY, bC⟩ := HN.out
          refine ⟨⟨(hb.setCell (by show w.heap.size ≤ w.heap.size + 4; omega) _), (BY.far (by show w.heap.size + 1 ≠ w.heap.size + 4; omega) _), (BL.far (by show w.heap.size + 2 ≠ w.heap.size + 4; omega) _), (BH.far (by show w.heap.size + 3 ≠ w.heap.size + 4; omega) _), Lib.hid (.inr (.inl (⟨rfl, r0, yy, r2, r3, r4, cc, rfl, BW.set_ 1 _, ⟨b0, bY, b2, b3, b4⟩, bC, hnew⟩)))⟩, by decide⟩
        · clear HI
          obtain ⟨r0, r1, r2, r3, r4, c, rfl, BW, ⟨b0, b1, b2, b3, b4⟩, hc, hval⟩ := X
          have hc1 : c < 18446744073709551616 := by omega
          obtain ⟨yy, cc, bY, bC, hml⟩ := step_ex x1 y1 r2 c HT.out.1.2.1 HT.out.2.1.2.1 b2 hc1
          have cs := fun w => step_at w x1 y1 r2 c yy cc HT.out.1.2.1 HT.out.2.1.2.1 b2 hc1 bY hml
          rw [← HT.out.2.2.2.2.2.2.2.1] at hml
          have hnew : v8P r0 r1 yy r3 r4 0 0 0 + 6277101735386680763835789423207666416102355444464034512896 * cc = 0 + 1 * t00 + 18446744073709551616 * t01 + 340282366920938463463374607431768211456 * t02 + 6277101735386680763835789423207666416102355444464034512896 * t03 + 18446744073709551616 * t10 + 340282366920938463463374607431768211456 * t11 := by
            simp only [v8P] at hval ⊢
            omega
          have HN := Lib.hid (And.intro hnew (And.intro (And.intro b0 (And.intro b1 (And.intro b2 (And.intro b3 b4)))) (And.intro bY bC)))
          have pa : wr.cell? ⟨w.heap.size + 4, 2, none⟩ = some (.int .u64 (r2 : Int)) := BW.cell 2
          have pf := BW.frozen 2
          clear hval hnew hml bY bC hc hc1 b0 b1 b2 b3 b4
          go_wp2_with fail
          refine (cs _).mono ?_
          rintro e u ⟨rfl, rfl⟩
          go_wp2
          obtain ⟨hnew, ⟨b0, b1, b2, b3, b4⟩, bY, bC⟩ := HN.out
          refine ⟨⟨(hb.setCell (by show w.heap.size ≤ w.heap.size + 4; omega) _), (BY.far (by show w.heap.size + 1 ≠ w.heap.size + 4; omega) _), (BL.far (by show w.heap.size + 2 ≠ w.heap.size + 4; omega) _), (BH.far (by show w.heap.size + 3 ≠ w.heap.size + 4; omega) _), Lib.hid (.inr (.inr (.inl (⟨rfl, r0, r1, yy, r3, r4, cc, rfl, BW.set_ 2 _, ⟨b0, b1, bY, b3, b4⟩, bC, hnew⟩))))⟩, by decide⟩
        · clear HI
          obtain ⟨r0, r1, r2, r3, r4, c, rfl, BW, ⟨b0, b1, b2, b3, b4⟩, hc, hval⟩ := X
          have hc1 : c < 18446744073709551616 := by omega
          obtain ⟨yy, cc, bY, bC, hml⟩ := step_ex x1 y2 r3 c HT.out.1.2.1 HT.out.2.1.2.2.1 b3 hc1
          have cs := fun w => step_at w x1 y2 r3 c yy cc HT.out.1.2.1 HT.out.2.1.2.2.1 b3 hc1 bY hml
          rw [← HT.out.2.2.2.2.2.2.2.2.1] at hml
          have hnew : v8P r0 r1 r2 yy r4 0 0 0 + 115792089237316195423570985008687907853269984665640564039457584007913129639936 * cc = 0 + 1 * t00 + 18446744073709551616 * t01 + 340282366920938463463374607431768211456 * t02 + 6277101735386680763835789423207666416102355444464034512896 * t03 + 18446744073709551616 * t10 + 340282366920938463463374607431768211456 * t11 + 6277101735386680763835789423207666416102355444464034512896 * t12 := by
            simp only [v8P] at hval ⊢
            omega
          have HN := Lib.hid (And.intro hnew (And.intro (And.intro b0 (And.intro b1 (And.intro b2 (And.intro b3 b4)))) (And.intro bY bC)))
          have pa : wr.cell? ⟨w.heap.size + 4, 3, none⟩ = some (.int .u64 (r3 : Int)) := BW.cell 3
          have pf := BW.frozen 3
          clear hval hnew hml bY bC hc hc1 b0 b1 b2 b3 b4
          go_wp2_with fail
          refine (cs _).mono ?_
          rintro e u ⟨rfl, rfl⟩
          go_wp2
          obtain ⟨hnew, ⟨b0, b1, b2, b3, b4⟩, bY, bC⟩ := HN.out
          refine ⟨⟨(hb.setCell (by show w.heap.size ≤ w.heap.size + 4; omega) _), (BY.far (by show w.heap.size + 1 ≠ w.heap.size + 4; omega) _), (BL.far (by show w.heap.size + 2 ≠ w.heap.size + 4; omega) _), (BH.far (by show w.heap.size + 3 ≠ w.heap.size + 4; omega) _), Lib.hid (.inr (.inr (.inr (.inl (⟨rfl, r0, r1, r2, yy, r4, cc, rfl, BW.set_ 3 _, ⟨b0, b1, b2, bY, b4⟩, bC, hnew⟩)))))⟩, by decide⟩
        · clear HI
          obtain ⟨r0, r1, r2, r3, r4, c, rfl, BW, ⟨b0, b1, b2, b3, b4⟩, hc, hval⟩ := X
          have hc1 : c < 18446744073709551616 := by omega
          obtain ⟨yy, cc, bY, bC, hml⟩ := step_ex x1 y3 r4 c HT.out.1.2.1 HT.out.2.1.2.2.2 b4 hc1
          have cs := fun w => step_at w x1 y3 r4 c yy cc HT.out.1.2.1 HT.out.2.1.2.2.2 b4 hc1 bY hml
          rw [← HT.out.2.2.2.2.2.2.2.2.2.1] at hml
          have hnew : v8P r0 r1 r2 r3 yy 0 0 0 + 2135987035920910082395021706169552114602704522356652769947041607822219725780640550022962086936576 * cc = 0 + 1 * t00 + 18446744073709551616 * t01 + 340282366920938463463374607431768211456 * t02 + 6277101735386680763835789423207666416102355444464034512896 * t03 + 18446744073709551616 * t10 + 340282366920938463463374607431768211456 * t11 + 6277101735386680763835789423207666416102355444464034512896 * t12 + 115792089237316195423570985008687907853269984665640564039457584007913129639936 * t13 := by
            simp only [v8P] at hval ⊢
            omega
          have HN := Lib.hid (And.intro hnew (And.intro (And.intro b0 (And.intro b1 (And.intro b2 (And.intro b3 b4)))) (And.intro bY bC)))
          have pa : wr.cell? ⟨w.heap.size + 4, 4, none⟩ = some (.int .u64 (r4 : Int)) := BW.cell 4
          have pf := BW.frozen 4
          clear hval hnew hml bY bC hc hc1 b0 b1 b2 b3 b4
          go_wp2_with fail
          refine (cs _).mono ?_
          rintro e u ⟨rfl, rfl⟩
          go_wp2
          obtain ⟨hnew, ⟨b0, b1, b2, b3, b4⟩, bY, bC⟩ := HN.out
          refine ⟨⟨(hb.setCell (by show w.heap.size ≤ w.heap.size + 4; omega) _), (BY.far (by show w.heap.size + 1 ≠ w.heap.size + 4; omega) _), (BL.far (by show w.heap.size + 2 ≠ w.heap.size + 4; omega) _), (BH.far (by show w.heap.size + 3 ≠ w.heap.size + 4; omega) _), Lib.hid (.inr (.inr (.inr (.inr (⟨rfl, r0, r1, r2, r3, yy, cc, rfl, BW.set_ 4 _, ⟨b0, b1, b2, b3, bY⟩, bC, hnew⟩)))))⟩, by decide⟩
        · clear HI
          obtain ⟨r0, r1, r2, r3, r4, c, rfl, BW, ⟨b0, b1, b2, b3, b4⟩, hc, hval⟩ := X
          have HV := Lib.hid (And.intro hval hc)
          have HB := Lib.hid (And.intro b0 (And.intro b1 (And.intro b2 (And.intro b3 b4))))
          have pa : wr.cell? ⟨w.heap.size + 4, 5, none⟩ = some (.int .u64 0) := BW.cell 5
          have pf := BW.frozen 5
          clear hval hc b0 b1 b2 b3 b4
          go_wp2
          obtain ⟨b0, b1, b2, b3, b4⟩ := HB.out
          refine ⟨⟨(hb.setCell (by show w.heap.size ≤ w.heap.size + 4; omega) _), (BY.far (by show w.heap.size + 1 ≠ w.heap.size + 4; omega) _), (BL.far (by show w.heap.size + 2 ≠ w.heap.size + 4; omega) _), (BH.far (by show w.heap.size + 3 ≠ w.heap.size + 4; omega) _), Lib.hid (.inr (.inr (.inl (⟨rfl, r0, r1, r2, r3, r4, c, BW.set_ 5 _, ⟨b0, b1, b2, b3, b4, HV.out.2⟩, by have := HV.out.1; simp only [v8P] at this ⊢; omega⟩))))⟩, by decide⟩
    · clear HI
      obtain ⟨r0, r1, r2, r3, r4, r5, BW, hlt, hval⟩ := X
      have HL := Lib.hid (And.intro hlt hval)
      clear hlt hval
      go_wp2_with (first | ((with_reducible refine here_load (d := some 17) ?_); refine wpList_load_blk rfl _ _ rfl (w.heap.size + 1) rfl _ _ _ BY Try.underlying36 rfl (by kernel_rfl) ?_))
      obtain ⟨hlt, hval⟩ := HL.out
      go_loopw [9, 18] (fun cv j wr => Below w.heap.size w wr ∧ Blk wr (w.heap.size + 1) 36 #[.int .u64 (y0 : Int), .int .u64 (y1 : Int), .int .u64 (y2 : Int), .int .u64 (y3 : Int)] ∧ Blk wr (w.heap.size + 2) 36 #[.int .u64 0, .int .u64 0, .int .u64 0, .int .u64 0] ∧ Blk wr (w.heap.size + 3) 36 #[.int .u64 0, .int .u64 0, .int .u64 0, .int .u64 0] ∧ Hid ((j = .int .i64 0 ∧ ∃ r0 r1 r2 r3 r4 r5 c : Nat, cv = .int .u64 (c : Int) ∧ Blk wr (w.heap.size + 4) 88 #[.int .u64 (r0 : Int), .int .u64 (r1 : Int), .int .u64 (r2 : Int), .int .u64 (r3 : Int), .int .u64 (r4 : Int), .int .u64 (r5 : Int), .int .u64 0, .int .u64 0] ∧ (r0 < 18446744073709551616 ∧ r1 < 18446744073709551616 ∧ r2 < 18446744073709551616 ∧ r3 < 18446744073709551616 ∧ r4 < 18446744073709551616 ∧ r5 < 18446744073709551616) ∧ c = 0 ∧ v8P r0 r1 r2 r3 r4 r5 0 0 + 340282366920938463463374607431768211456 * c = 0 + 1 * t00 + 18446744073709551616 * t01 + 340282366920938463463374607431768211456 * t02 + 6277101735386680763835789423207666416102355444464034512896 * t03 + 18446744073709551616 * t10 + 340282366920938463463374607431768211456 * t11 + 6277101735386680763835789423207666416102355444464034512896 * t12 + 115792089237316195423570985008687907853269984665640564039457584007913129639936 * t13) ∨ (j = .int .i64 1 ∧ ∃ r0 r1 r2 r3 r4 r5 c : Nat, cv = .int .u64 (c : Int) ∧ Blk wr (w.heap.size + 4) 88 #[.int .u64 (r0 : Int), .int .u64 (r1 : Int), .int .u64 (r2 : Int), .int .u64 (r3 : Int), .int .u64 (r4 : Int), .int .u64 (r5 : Int), .int .u64 0, .int .u64 0] ∧ (r0 < 18446744073709551616 ∧ r1 < 18446744073709551616 ∧ r2 < 18446744073709551616 ∧ r3 < 18446744073709551616 ∧ r4 < 18446744073709551616 ∧ r5 < 18446744073709551616) ∧ c < 18446744073709551616 ∧ v8P r0 r1 r2 r3 r4 r5 0 0 + 6277101735386680763835789423207666416102355444464034512896 * c = 0 + 1 * t00 + 18446744073709551616 * t01 + 340282366920938463463374607431768211456 * t02 + 6277101735386680763835789423207666416102355444464034512896 * t03 + 18446744073709551616 * t10 + 340282366920938463463374607431768211456 * t11 + 6277101735386680763835789423207666416102355444464034512896 * t12 + 115792089237316195423570985008687907853269984665640564039457584007913129639936 * t13 + 340282366920938463463374607431768211456 * t20) ∨ (j = .int .i64 2 ∧ ∃ r0 r1 r2 r3 r4 r5 c : Nat, cv = .int .u64 (c : Int) ∧ Blk wr (w.heap.size + 4) 88 #[.int .u64 (r0 : Int), .int .u64 (r1 : Int), .int .u64 (r2 : Int), .int .u64 (r3 : Int), .int .u64 (r4 : Int), .int .u64 (r5 : Int), .int .u64 0, .int .u64 0] ∧ (r0 < 18446744073709551616 ∧ r1 < 18446744073709551616 ∧ r2 < 18446744073709551616 ∧ r3 < 18446744073709551616 ∧ r4 < 18446744073709551616 ∧ r5 < 18446744073709551616) ∧ c < 18446744073709551616 ∧ v8P r0 r1 r2 r3 r4 r5 0 0 + 115792089237316195423570985008687907853269984665640564039457584007913129639936 * c = 0 + 1 * t00 + 18446744073709551616 * t01 + 340282366920938463463374607431768211456 * t02 + 6277101735386680763835789423207666416102355444464034512896 * t03 + 18446744073709551616 * t10 + 340282366920938463463374607431768211456 * t11 + 6277101735386680763835789423207666416102355444464034512896 * t12 + 115792089237316195423570985008687907853269984665640564039457584007913129639936 * t13 + 340282366920938463463374607431768211456 * t20 + 6277101735386680763835789423207666416102355444464034512896 * t21) ∨ (j = .int .i64 3 ∧ ∃ r0 r1 r2 r3 r4 r5 c : Nat, cv = .int .u64 (c : Int) ∧ Blk wr (w.heap.size + 4) 88 #[.int .u64 (r0 : Int), .int .u64 (r1 : Int), .int .u64 (r2 : Int), .int .u64 (r3 : Int), .int .u64 (r4 : Int), .int .u64 (r5 : Int), .int .u64 0, .int .u64 0] ∧ (r0 < 18446744073709551616 ∧ r1 < 18446744073709551616 ∧ r2 < 18446744073709551616 ∧ r3 < 18446744073709551616 ∧ r4 < 18446744073709551616 ∧ r5 < 18446744073709551616) ∧ c < 18446744073709551616 ∧ v8P r0 r1 r2 r3 r4 r5 0 0 + 2135987035920910082395021706169552114602704522356652769947041607822219725780640550022962086936576 * c = 0 + 1 * t00 + 18446744073709551616 * t01 + 340282366920938463463374607431768211456 * t02 + 6277101735386680763835789423207666416102355444464034512896 * t03 + 18446744073709551616 * t10 + 340282366920938463463374607431768211456 * t11 + 6277101735386680763835789423207666416102355444464034512896 * t12 + 115792089237316195423570985008687907853269984665640564039457584007913129639936 * t13 + 340282366920938463463374607431768211456 * t20 + 6277101735386680763835789423207666416102355444464034512896 * t21 + 115792089237316195423570985008687907853269984665640564039457584007913129639936 * t22) ∨ (j = .int .i64 4 ∧ ∃ r0 r1 r2 r3 r4 r5 c : Nat, cv = .int .u64 (c : Int) ∧ Blk wr (w.heap.size + 4) 88 #[.int .u64 (r0 : Int), .int .u64 (r1 : Int), .int .u64 (r2 : Int), .int .u64 (r3 : Int), .int .u64 (r4 : Int), .int .u64 (r5 : Int), .int .u64 0, .int .u64 0] ∧ (r0 < 18446744073709551616 ∧ r1 < 18446744073709551616 ∧ r2 < 18446744073709551616 ∧ r3 < 18446744073709551616 ∧ r4 < 18446744073709551616 ∧ r5 < 18446744073709551616) ∧ c < 18446744073709551616 ∧ v8P r0 r1 r2 r3 r4 r5 0 0 + 39402006196394479212279040100143613805079739270465446667948293404245721771497210611414266254884915640806627990306816 * c = 0 + 1 * t00 + 18446744073709551616 * t01 + 340282366920938463463374607431768211456 * t02 + 6277101735386680763835789423207666416102355444464034512896 * t03 + 18446744073709551616 * t10 + 340282366920938463463374607431768211456 * t11 + 6277101735386680763835789423207666416102355444464034512896 * t12 + 115792089237316195423570985008687907853269984665640564039457584007913129639936 * t13 + 340282366920938463463374607431768211456 * t20 + 6277101735386680763835789423207666416102355444464034512896 * t21 + 115792089237316195423570985008687907853269984665640564039457584007913129639936 * t22 + 2135987035920910082395021706169552114602704522356652769947041607822219725780640550022962086936576 * t23))) (fun _ j _ => 4 - (intOf j).toNat)
      case atStart => exact ⟨hb, BY, BL, BH, Lib.hid (.inl ⟨rfl, r0, r1, r2, r3, r4, r5, 0, rfl, BW, hlt, rfl, by omega⟩)⟩
      case round =>
        clear hb BY BL BH BW hlt hval HL
        obtain ⟨hb, BY, BL, BH, HI⟩ := hrel
        rcases HI.out with ⟨rfl, X⟩ | ⟨rfl, X⟩ | ⟨rfl, X⟩ | ⟨rfl, X⟩ | ⟨rfl, X⟩
        · clear HI
          obtain ⟨r0, r1, r2, r3, r4, r5, c, rfl, BW, ⟨b0, b1, b2, b3, b4, b5⟩, hc, hval⟩ := X
          have hc1 : c < 18446744073709551616 := by omega
          obtain ⟨yy, cc, bY, bC, hml⟩ := step_ex x2 y0 r2 c HT.out.1.2.2.1 HT.out.2.1.1 b2 hc1
          have cs := fun w => step_at w x2 y0 r2 c yy cc HT.out.1.2.2.1 HT.out.2.1.1 b2 hc1 bY hml
          rw [← HT.out.2.2.2.2.2.2.2.2.2.2.1] at hml
          have hnew : v8P r0 r1 yy r3 r4 r5 0 0 + 6277101735386680763835789423207666416102355444464034512896 * cc = 0 + 1 * t00 + 18446744073709551616 * t01 + 340282366920938463463374607431768211456 * t02 + 6277101735386680763835789423207666416102355444464034512896 * t03 + 18446744073709551616 * t10 + 340282366920938463463374607431768211456 * t11 + 6277101735386680763835789423207666416102355444464034512896 * t12 + 115792089237316195423570985008687907853269984665640564039457584007913129639936 * t13 + 340282366920938463463374607431768211456 * t20 := by
            simp only [v8P] at hval ⊢
            omega
          have HN := Lib.hid (And.intro hnew (And.intro (And.intro b0 (And.intro b1 (And.intro b2 (And.intro b3 (And.intro b4 b5))))) (And.intro bY bC)))
          have pa : wr.cell? ⟨w.heap.size + 4, 2, none⟩ = some (.int .u64 (r2 : Int)) := BW.cell 2
          have pf := BW.frozen 2
          clear hval hnew hml bY bC hc hc1 b0 b1 b2 b3 b4 b5
          go_wp2_with fail
          refine (cs _).mono ?_
          rintro e u ⟨rfl, rfl⟩
          go_wp2
          obtain ⟨hnew, ⟨b0, b1, b2, b3, b4, b5⟩, bY, bC⟩ := HN.out
          refine ⟨⟨(hb.setCell (by show w.heap.size ≤ w.heap.size + 4; omega) _), (BY.far (by show w.heap.size + 1 ≠ w.heap.size + 4; omega) _), (BL.far (by show w.heap.size + 2 ≠ w.heap.size + 4; omega) _), (BH.far (by show w.heap.size + 3 ≠ w.heap.size + 4; omega) _), Lib.hid (.inr (.inl (⟨rfl, r0, r1, yy, r3, r4, r5, cc, rfl, BW.set_ 2 _, ⟨b0, b1, bY, b3, b4, b5⟩, bC, hnew⟩)))⟩, by decide⟩
        · clear HI
          obtain ⟨r0, r1, r2, r3, r4, r5, c, rfl, BW, ⟨b0, b1, b2, b3, b4, b5⟩, hc, hval⟩ := X
          have hc1 : c < 18446744073709551616 := by omega
          obtain ⟨yy, cc, bY, bC, hml⟩ := step_ex x2 y1 r3 c HT.out.1.2.2.1 HT.out.2.1.2.1 b3 hc1
          have cs := fun w => step_at w x2 y1 r3 c yy cc HT.out.1.2.2.1 HT.out.2.1.2.1 b3 hc1 bY hml
          rw [← HT.out.2.2.2.2.2.2.2.2.2.2.2.1] at hml
          have hnew : v8P r0 r1 r2 yy r4 r5 0 0 + 115792089237316195423570985008687907853269984665640564039457584007913129639936 * cc = 0 + 1 * t00 + 18446744073709551616 * t01 + 340282366920938463463374607431768211456 * t02 + 6277101735386680763835789423207666416102355444464034512896 * t03 + 18446744073709551616 * t10 + 340282366920938463463374607431768211456 * t11 + 6277101735386680763835789423207666416102355444464034512896 * t12 + 115792089237316195423570985008687907853269984665640564039457584007913129639936 * t13 + 340282366920938463463374607431768211456 * t20 + 6277101735386680763835789423207666416102355444464034512896 * t21 := by
            simp only [v8P] at hval ⊢
            omega
          have HN := Lib.hid (And.intro hnew (And.intro (And.intro b0 (And.intro b1 (And.intro b2 (And.intro b3 (And.intro b4 b5))))) (And.intro bY bC)))
          have pa : wr.cell? ⟨w.heap.size + 4, 3, none⟩ = some (.int .u64 (r3 : Int)) := BW.cell 3
          have pf := BW.frozen 3
          clear hval hnew hml bY bC hc hc1 b0 b1 b2 b3 b4 b5
          go_wp2_with fail
          refine (cs _).mono ?_
          rintro e u ⟨rfl, rfl⟩
          go_wp2
          obtain ⟨hnew, ⟨b0, b1, b2, b3, b4, b5⟩, bY, bC⟩ := HN.out
          refine ⟨⟨(hb.setCell (by show w.heap.size ≤ w.heap.size + 4; omega) _), (BY.far (by show w.heap.size + 1 ≠ w.heap.size + 4; omega) _), (BL.far (by show w.heap.size + 2 ≠ w.heap.size + 4; omega) _), (BH.far (by show w.heap.size + 3 ≠ w.heap.size + 4; omega) _), Lib.hid (.inr (.inr (.inl (⟨rfl, r0, r1, r2, yy, r4, r5, cc, rfl, BW.set_ 3 _, ⟨b0, b1, b2, bY, b4, b5⟩, bC, hnew⟩))))⟩, by decide⟩
        · clear HI
          obtain ⟨r0, r1, r2, r3, r4, r5, c, rfl, BW, ⟨b0, b1, b2, b3, b4, b5⟩, hc, hval⟩ := X
          have hc1 : c < 18446744073709551616 := by omega
          obtain ⟨yy, cc, bY, bC, hml⟩ := step_ex x2 y2 r4 c HT.out.1.2.2.1 HT.out.2.1.2.2.1 b4 hc1
          have cs := fun w => step_at w x2 y2 r4 c yy cc HT.out.1.2.2.1 HT.out.2.1.2.2.1 b4 hc1 bY hml
          rw [← HT.out.2.2.2.2.2.2.2.2.2.2.2.2.1] at hml
          have hnew : v8P r0 r1 r2 r3 yy r5 0 0 + 2135987035920910082395021706169552114602704522356652769947041607822219725780640550022962086936576 * cc = 0 + 1 * t00 + 18446744073709551616 * t01 + 340282366920938463463374607431768211456 * t02 + 6277101735386680763835789423207666416102355444464034512896 * t03 + 18446744073709551616 * t10 + 340282366920938463463374607431768211456 * t11 + 6277101735386680763835789423207666416102355444464034512896 * t12 + 115792089237316195423570985008687907853269984665640564039457584007913129639936 * t13 + 340282366920938463463374607431768211456 * t20 + 6277101735386680763835789423207666416102355444464034512896 * t21 + 115792089237316195423570985008687907853269984665640564039457584007913129639936 * t22 := by
            simp only [v8P] at hval ⊢
            omega
          have HN := Lib.hid (And.intro hnew (And.intro (And.intro b0 (And.intro b1 (And.intro b2 (And.intro b3 (And.intro b4 b5))))) (And.intro bY bC)))
          have pa : wr.cell? ⟨w.heap.size + 4, 4, none⟩ = some (.int .u64 (r4 : Int)) := BW.cell 4
          have pf := BW.frozen 4
          clear hval hnew hml bY bC hc hc1 b0 b1 b2 b3 b4 b5
          go_wp2_with fail
          refine (cs _).mono ?_
          rintro e u ⟨rfl, rfl⟩
          go_wp2
          obtain ⟨hnew, ⟨b0, b1, b2, b3, b4, b5⟩, bY, bC⟩ := HN.out
          refine ⟨⟨(hb.setCell (by show w.heap.size ≤ w.heap.size + 4; omega) _), (BY.far (by show w.heap.size + 1 ≠ w.heap.size + 4; omega) _), (BL.far (by show w.heap.size + 2 ≠ w.heap.size + 4; omega) _), (BH.far (by show w.heap.size + 3 ≠ w.heap.size + 4; omega) _), Lib.hid (.inr (.inr (.inr (.inl (⟨rfl, r0, r1, r2, r3, yy, r5, cc, rfl, BW.set_ 4 _, ⟨b0, b1, b2, b3, bY, b5⟩, bC, hnew⟩)))))⟩, by decide⟩
        · clear HI
          obtain ⟨r0, r1, r2, r3, r4, r5, c, rfl, BW, ⟨b0, b1, b2, b3, b4, b5⟩, hc, hval⟩ := X
          have hc1 : c < 18446744073709551616 := by omega
          obtain ⟨yy, cc, bY, bC, hml⟩ := step_ex x2 y3 r5 c HT.out.1.2.2.1 HT.out.2.1.2.2.2 b5 hc1
          have cs := fun w => step_at w x2 y3 r5 c yy cc HT.out.1.2.2.1 HT.out.2.1.2.2.2 b5 hc1 bY hml
          rw [← HT.out.2.2.2.2.2.2.2.2.2.2.2.2.2.1] at hml
          have hnew : v8P r0 r1 r2 r3 r4 yy 0 0 + 39402006196394479212279040100143613805079739270465446667948293404245721771497210611414266254884915640806627990306816 * cc = 0 + 1 * t00 + 18446744073709551616 * t01 + 340282366920938463463374607431768211456 * t02 + 6277101735386680763835789423207666416102355444464034512896 * t03 + 18446744073709551616 * t10 + 340282366920938463463374607431768211456 * t11 + 6277101735386680763835789423207666416102355444464034512896 * t12 + 115792089237316195423570985008687907853269984665640564039457584007913129639936 * t13 + 340282366920938463463374607431768211456 * t20 + 6277101735386680763835789423207666416102355444464034512896 * t21 + 115792089237316195423570985008687907853269984665640564039457584007913129639936 * t22 + 2135987035920910082395021706169552114602704522356652769947041607822219725780640550022962086936576 * t23 := by
            simp only [v8P] at hval ⊢
            omega
          have HN := Lib.hid (And.intro hnew (And.intro (And.intro b0 (And.intro b1 (And.intro b2 (And.intro b3 (And.intro b4 b5))))) (And.intro bY bC)))
          have pa : wr.cell? ⟨w.heap.size + 4, 5, none⟩ = some (.int .u64 (r5 : Int)) := BW.cell 5
          have pf := BW.frozen 5
          clear hval hnew hml bY bC hc hc1 b0 b1 b2 b3 b4 b5
          go_wp2_with fail
          refine (cs _).mono ?_
          rintro e u ⟨rfl, rfl⟩
          go_wp2
          obtain ⟨hnew, ⟨b0, b1, b2, b3, b4, b5⟩, bY, bC⟩ := HN.out
          refine ⟨⟨(hb.setCell (by show w.heap.size ≤ w.heap.size + 4; omega) _), (BY.far (by show w.heap.size + 1 ≠ w.heap.size + 4; omega) _), (BL.far (by show w.heap.size + 2 ≠ w.heap.size + 4; omega) _), (BH.far (by show w.heap.size + 3 ≠ w.heap.size + 4; omega) _), Lib.hid (.inr (.inr (.inr (.inr (⟨rfl, r0, r1, r2, r3, r4, yy, cc, rfl, BW.set_ 5 _, ⟨b0, b1, b2, b3, b4, bY⟩, bC, hnew⟩)))))⟩, by decide⟩
        · clear HI
          obtain ⟨r0, r1, r2, r3, r4, r5, c, rfl, BW, ⟨b0, b1, b2, b3, b4, b5⟩, hc, hval⟩ := X
          have HV := Lib.hid (And.intro hval hc)
          have HB := Lib.hid (And.intro b0 (And.intro b1 (And.intro b2 (And.intro b3 (And.intro b4 b5)))))
          have pa : wr.cell? ⟨w.heap.size + 4, 6, none⟩ = some (.int .u64 0) := BW.cell 6
          have pf := BW.frozen 6
          clear hval hc b0 b1 b2 b3 b4 b5
          go_wp2
          obtain ⟨b0, b1, b2, b3, b4, b5⟩ := HB.out
          refine ⟨⟨(hb.setCell (by show w.heap.size ≤ w.heap.size + 4; omega) _), (BY.far (by show w.heap.size + 1 ≠ w.heap.size + 4; omega) _), (BL.far (by show w.heap.size + 2 ≠ w.heap.size + 4; omega) _), (BH.far (by show w.heap.size + 3 ≠ w.heap.size + 4; omega) _), Lib.hid (.inr (.inr (.inr (.inl (⟨rfl, r0, r1, r2, r3, r4, r5, c, BW.set_ 6 _, ⟨b0, b1, b2, b3, b4, b5, HV.out.2⟩, by have := HV.out.1; simp only [v8P] at this ⊢; omega⟩)))))⟩, by decide⟩
    · clear HI
      obtain ⟨r0, r1, r2, r3, r4, r5, r6, BW, hlt, hval⟩ := X
      have HL := Lib.hid (And.intro hlt hval)
      clear hlt hval
      go_wp2_with (first | ((with_reducible refine here_load (d := some 17) ?_); refine wpList_load_blk rfl _ _ rfl (w.heap.size + 1) rfl _ _ _ BY Try.underlying36 rfl (by kernel_rfl) ?_))
      obtain ⟨hlt, hval⟩ := HL.out
      go_loopw [9, 18] (fun cv j wr => Below w.heap.size w wr ∧ Blk wr (w.heap.size + 1) 36 #[.int .u64 (y0 : Int), .int .u64 (y1 : Int), .int .u64 (y2 : Int), .int .u64 (y3 : Int)] ∧ Blk wr (w.heap.size + 2) 36 #[.int .u64 0, .int .u64 0, .int .u64 0, .int .u64 0] ∧ Blk wr (w.heap.size + 3) 36 #[.int .u64 0, .int .u64 0, .int .u64 0, .int .u64 0] ∧ Hid ((j = .int .i64 0 ∧ ∃ r0 r1 r2 r3 r4 r5 r6 c : Nat, cv = .int .u64 (c : Int) ∧ Blk wr (w.heap.size + 4) 88 #[.int .u64 (r0 : Int), .int .u64 (r1 : Int), .int .u64 (r2 : Int), .int .u64 (r3 : Int), .int .u64 (r4 : Int), .int .u64 (r5 : Int), .int .u64 (r6 : Int), .int .u64 0] ∧ (r0 < 18446744073709551616 ∧ r1 < 18446744073709551616 ∧ r2 < 18446744073709551616 ∧ r3 < 18446744073709551616 ∧ r4 < 18446744073709551616 ∧ r5 < 18446744073709551616 ∧ r6 < 18446744073709551616) ∧ c = 0 ∧ v8P r0 r1 r2 r3 r4 r5 r6 0 + 6277101735386680763835789423207666416102355444464034512896 * c = 0 + 1 * t00 + 18446744073709551616 * t01 + 340282366920938463463374607431768211456 * t02 + 6277101735386680763835789423207666416102355444464034512896 * t03 + 18446744073709551616 * t10 + 340282366920938463463374607431768211456 * t11 + 6277101735386680763835789423207666416102355444464034512896 * t12 + 115792089237316195423570985008687907853269984665640564039457584007913129639936 * t13 + 340282366920938463463374607431768211456 * t20 + 6277101735386680763835789423207666416102355444464034512896 * t21 + 115792089237316195423570985008687907853269984665640564039457584007913129639936 * t22 + 2135987035920910082395021706169552114602704522356652769947041607822219725780640550022962086936576 * t23) ∨ (j = .int .i64 1 ∧ ∃ r0 r1 r2 r3 r4 r5 r6 c : Nat, cv = .int .u64 (c : Int) ∧ Blk wr (w.heap.size + 4) 88 #[.int .u64 (r0 : Int), .int .u64 (r1 : Int), .int .u64 (r2 : Int), .int .u64 (r3 : Int), .int .u64 (r4 : Int), .int .u64 (r5 : Int), .int .u64 (r6 : Int), .int .u64 0] ∧ (r0 < 18446744073709551616 ∧ r1 < 18446744073709551616 ∧ r2 < 18446744073709551616 ∧ r3 < 18446744073709551616 ∧ r4 < 18446744073709551616 ∧ r5 < 18446744073709551616 ∧ r6 < 18446744073709551616) ∧ c < 18446744073709551616 ∧ v8P r0 r1 r2 r3 r4 r5 r6 0 + 115792089237316195423570985008687907853269984665640564039457584007913129639936 * c = 0 + 1 * t00 + 18446744073709551616 * t01 + 340282366920938463463374607431768211456 * t02 + 6277101735386680763835789423207666416102355444464034512896 * t03 + 18446744073709551616 * t10 + 340282366920938463463374607431768211456 * t11 + 6277101735386680763835789423207666416102355444464034512896 * t12 + 115792089237316195423570985008687907853269984665640564039457584007913129639936 * t13 + 340282366920938463463374607431768211456 * t20 + 6277101735386680763835789423207666416102355444464034512896 * t21 + 115792089237316195423570985008687907853269984665640564039457584007913129639936 * t22 + 2135987035920910082395021706169552114602704522356652769947041607822219725780640550022962086936576 * t23 + 6277101735386680763835789423207666416102355444464034512896 * t30) ∨ (j = .int .i64 2 ∧ ∃ r0 r1 r2 r3 r4 r5 r6 c : Nat, cv = .int .u64 (c : Int) ∧ Blk wr (w.heap.size + 4) 88 #[.int .u64 (r0 : Int), .int .u64 (r1 : Int), .int .u64 (r2 : Int), .int .u64 (r3 : Int), .int .u64 (r4 : Int), .int .u64 (r5 : Int), .int .u64 (r6 : Int), .int .u64 0] ∧ (r0 < 18446744073709551616 ∧ r1 < 18446744073709551616 ∧ r2 < 18446744073709551616 ∧ r3 < 18446744073709551616 ∧ r4 < 18446744073709551616 ∧ r5 < 18446744073709551616 ∧ r6 < 18446744073709551616) ∧ c < 18446744073709551616 ∧ v8P r0 r1 r2 r3 r4 r5 r6 0 + 2135987035920910082395021706169552114602704522356652769947041607822219725780640550022962086936576 * c = 0 + 1 * t00 + 18446744073709551616 * t01 + 340282366920938463463374607431768211456 * t02 + 6277101735386680763835789423207666416102355444464034512896 * t03 + 18446744073709551616 * t10 + 340282366920938463463374607431768211456 * t11 + 6277101735386680763835789423207666416102355444464034512896 * t12 + 115792089237316195423570985008687907853269984665640564039457584007913129639936 * t13 + 340282366920938463463374607431768211456 * t20 + 6277101735386680763835789423207666416102355444464034512896 * t21 + 115792089237316195423570985008687907853269984665640564039457584007913129639936 * t22 + 2135987035920910082395021706169552114602704522356652769947041607822219725780640550022962086936576 * t23 + 6277101735386680763835789423207666416102355444464034512896 * t30 + 115792089237316195423570985008687907853269984665640564039457584007913129639936 * t31) ∨ (j = .int .i64 3 ∧ ∃ r0 r1 r2 r3 r4 r5 r6 c : Nat, cv = .int .u64 (c : Int) ∧ Blk wr (w.heap.size + 4) 88 #[.int .u64 (r0 : Int), .int .u64 (r1 : Int), .int .u64 (r2 : Int), .int .u64 (r3 : Int), .int .u64 (r4 : Int), .int .u64 (r5 : Int), .int .u64 (r6 : Int), .int .u64 0] ∧ (r0 < 18446744073709551616 ∧ r1 < 18446744073709551616 ∧ r2 < 18446744073709551616 ∧ r3 < 18446744073709551616 ∧ r4 < 18446744073709551616 ∧ r5 < 18446744073709551616 ∧ r6 < 18446744073709551616) ∧ c < 18446744073709551616 ∧ v8P r0 r1 r2 r3 r4 r5 r6 0 + 39402006196394479212279040100143613805079739270465446667948293404245721771497210611414266254884915640806627990306816 * c = 0 + 1 * t00 + 18446744073709551616 * t01 + 340282366920938463463374607431768211456 * t02 + 6277101735386680763835789423207666416102355444464034512896 * t03 + 18446744073709551616 * t10 + 340282366920938463463374607431768211456 * t11 + 6277101735386680763835789423207666416102355444464034512896 * t12 + 115792089237316195423570985008687907853269984665640564039457584007913129639936 * t13 + 340282366920938463463374607431768211456 * t20 + 6277101735386680763835789423207666416102355444464034512896 * t21 + 115792089237316195423570985008687907853269984665640564039457584007913129639936 * t22 + 2135987035920910082395021706169552114602704522356652769947041607822219725780640550022962086936576 * t23 + 6277101735386680763835789423207666416102355444464034512896 * t30 + 115792089237316195423570985008687907853269984665640564039457584007913129639936 * t31 + 2135987035920910082395021706169552114602704522356652769947041607822219725780640550022962086936576 * t32) ∨ (j = .int .i64 4 ∧ ∃ r0 r1 r2 r3 r4 r5 r6 c : Nat, cv = .int .u64 (c : Int) ∧ Blk wr (w.heap.size + 4) 88 #[.int .u64 (r0 : Int), .int .u64 (r1 : Int), .int .u64 (r2 : Int), .int .u64 (r3 : Int), .int .u64 (r4 : Int), .int .u64 (r5 : Int), .int .u64 (r6 : Int), .int .u64 0] ∧ (r0 < 18446744073709551616 ∧ r1 < 18446744073709551616 ∧ r2 < 18446744073709551616 ∧ r3 < 18446744073709551616 ∧ r4 < 18446744073709551616 ∧ r5 < 18446744073709551616 ∧ r6 < 18446744073709551616) ∧ c < 18446744073709551616 ∧ v8P r0 r1 r2 r3 r4 r5 r6 0 + 726838724295606890549323807888004534353641360687318060281490199180639288113397923326191050713763565560762521606266177933534601628614656 * c = 0 + 1 * t00 + 18446744073709551616 * t01 + 340282366920938463463374607431768211456 * t02 + 6277101735386680763835789423207666416102355444464034512896 * t03 + 18446744073709551616 * t10 + 340282366920938463463374607431768211456 * t11 + 6277101735386680763835789423207666416102355444464034512896 * t12 + 115792089237316195423570985008687907853269984665640564039457584007913129639936 * t13 + 340282366920938463463374607431768211456 * t20 + 6277101735386680763835789423207666416102355444464034512896 * t21 + 115792089237316195423570985008687907853269984665640564039457584007913129639936 * t22 + 2135987035920910082395021706169552114602704522356652769947041607822219725780640550022962086936576 * t23 + 6277101735386680763835789423207666416102355444464034512896 * t30 + 115792089237316195423570985008687907853269984665640564039457584007913129639936 * t31 + 2135987035920910082395021706169552114602704522356652769947041607822219725780640550022962086936576 * t32 + 39402006196394479212279040100143613805079739270465446667948293404245721771497210611414266254884915640806627990306816 * t33))) (fun _ j _ => 4 - (intOf j).toNat)
      case atStart => exact ⟨hb, BY, BL, BH, Lib.hid (.inl ⟨rfl, r0, r1, r2, r3, r4, r5, r6, 0, rfl, BW, hlt, rfl, by omega⟩)⟩
      case round =>
        clear hb BY BL BH BW hlt hval HL
        obtain ⟨hb, BY, BL, BH, HI⟩ := hrel
        rcases HI.out with ⟨rfl, X⟩ | ⟨rfl, X⟩ | ⟨rfl, X⟩ | ⟨rfl, X⟩ | ⟨rfl, X⟩
        · clear HI
          obtain ⟨r0, r1, r2, r3, r4, r5, r6, c, rfl, BW, ⟨b0, b1, b2, b3, b4, b5, b6⟩, hc, hval⟩ := X
          have hc1 : c < 18446744073709551616 := by omega
          obtain ⟨yy, cc, bY, bC, hml⟩ := step_ex x3 y0 r3 c HT.out.1.2.2.2 HT.out.2.1.1 b3 hc1
          have cs := fun w => step_at w x3 y0 r3 c yy cc HT.out.1.2.2.2 HT.out.2.1.1 b3 hc1 bY hml
          rw [← HT.out.2.2.2.2.2.2.2.2.2.2.2.2.2.2.1] at hml
          have hnew : v8P r0 r1 r2 yy r4 r5 r6 0 + 115792089237316195423570985008687907853269984665640564039457584007913129639936 * cc = 0 + 1 * t00 + 18446744073709551616 * t01 + 340282366920938463463374607431768211456 * t02 + 6277101735386680763835789423207666416102355444464034512896 * t03 + 18446744073709551616 * t10 + 340282366920938463463374607431768211456 * t11 + 6277101735386680763835789423207666416102355444464034512896 * t12 + 115792089237316195423570985008687907853269984665640564039457584007913129639936 * t13 + 340282366920938463463374607431768211456 * t20 + 6277101735386680763835789423207666416102355444464034512896 * t21 + 115792089237316195423570985008687907853269984665640564039457584007913129639936 * t22 + 2135987035920910082395021706169552114602704522356652769947041607822219725780640550022962086936576 * t23 + 6277101735386680763835789423207666416102355444464034512896 * t30 := by
            simp only [v8P] at hval ⊢
            omega
          have HN := Lib.hid (And.intro hnew (And.intro (And.intro b0 (And.intro b1 (And.intro b2 (And.intro b3 (And.intro b4 (And.intro b5 b6)))))) (And.intro bY bC)))
          have pa : wr.cell? ⟨w.heap.size + 4, 3, none⟩ = some (.int .u64 (r3 : Int)) := BW.cell 3
          have pf := BW.frozen 3
          clear hval hnew hml bY bC hc hc1 b0 b1 b2 b3 b4 b5 b6
          go_wp2_with fail
          refine (cs _).mono ?_
          rintro e u ⟨rfl, rfl⟩
          go_wp2
          obtain ⟨hnew, ⟨b0, b1, b2, b3, b4, b5, b6⟩, bY, bC⟩ := HN.out
          refine ⟨⟨(hb.setCell (by show w.heap.size ≤ w.heap.size + 4; omega) _), (BY.far (by show w.heap.size + 1 ≠ w.heap.size + 4; omega) _), (BL.far (by show w.heap.size + 2 ≠ w.heap.size + 4; omega) _), (BH.far (by show w.heap.size + 3 ≠ w.heap.size + 4; omega) _), Lib.hid (.inr (.inl (⟨rfl, r0, r1, r2, yy, r4, r5, r6, cc, rfl, BW.set_ 3 _, ⟨b0, b1, b2, bY, b4, b5, b6⟩, bC, hnew⟩)))⟩, by decide⟩
        · clear HI
          obtain ⟨r0, r1, r2, r3, r4, r5, r6, c, rfl, BW, ⟨b0, b1, b2, b3, b4, b5, b6⟩, hc, hval⟩ := X
          have hc1 : c < 18446744073709551616 := by omega
          obtain ⟨yy, cc, bY, bC, hml⟩ := step_ex x3 y1 r4 c HT.out.1.2.2.2 HT.out.2.1.2.1 b4 hc1
          have cs := fun w => step_at w x3 y1 r4 c yy cc HT.out.1.2.2.2 HT.out.2.1.2.1 b4 hc1 bY hml
          rw [← HT.out.2.2.2.2.2.2.2.2.2.2.2.2.2.2.2.1] at hml
          have hnew : v8P r0 r1 r2 r3 yy r5 r6 0 + 2135987035920910082395021706169552114602704522356652769947041607822219725780640550022962086936576 * cc = 0 + 1 * t00 + 18446744073709551616 * t01 + 340282366920938463463374607431768211456 * t02 + 6277101735386680763835789423207666416102355444464034512896 * t03 + 18446744073709551616 * t10 + 340282366920938463463374607431768211456 * t11 + 6277101735386680763835789423207666416102355444464034512896 * t12 + 115792089237316195423570985008687907853269984665640564039457584007913129639936 * t13 + 340282366920938463463374607431768211456 * t20 + 6277101735386680763835789423207666416102355444464034512896 * t21 + 115792089237316195423570985008687907853269984665640564039457584007913129639936 * t22 + 2135987035920910082395021706169552114602704522356652769947041607822219725780640550022962086936576 * t23 + 6277101735386680763835789423207666416102355444464034512896 * t30 + 115792089237316195423570985008687907853269984665640564039457584007913129639936 * t31 := by
            simp only [v8P] at hval ⊢
            omega
          have HN := Lib.hid (And.intro hnew (And.intro (And.intro b0 (And.intro b1 (And.intro b2 (And.intro b3 (And.intro b4 (And.intro b5 b6)))))) (And.intro bY bC)))
          have pa : wr.cell? ⟨w.heap.size + 4, 4, none⟩ = some (.int .u64 (r4 : Int)) := BW.cell 4
          have pf := BW.frozen 4
          clear hval hnew hml bY bC hc hc1 b0 b1 b2 b3 b4 b5 b6
          go_wp2_with fail
          refine (cs _).mono ?_
          rintro e u ⟨rfl, rfl⟩
          go_wp2
          obtain ⟨hnew, ⟨b0, b1, b2, b3, b4, b5, b6⟩, bY, bC⟩ := HN.out
          refine ⟨⟨(hb.setCell (by show w.heap.size ≤ w.heap.size + 4; omega) _), (BY.far (by show w.heap.size + 1 ≠ w.heap.size + 4; omega) _), (BL.far (by show w.heap.size + 2 ≠ w.heap.size + 4; omega) _), (BH.far (by show w.heap.size + 3 ≠ w.heap.size + 4; omega) _), Lib.hid (.inr (.inr (.inl (⟨rfl, r0, r1, r2, r3, yy, r5, r6, cc, rfl, BW.set_ 4 _, ⟨b0, b1, b2, b3, bY, b5, b6⟩, bC, hnew⟩))))⟩, by decide⟩
        · clear HI
          obtain ⟨r0, r1, r2, r3, r4, r5, r6, c, rfl, BW, ⟨b0, b1, b2, b3, b4, b5, b6⟩, hc, hval⟩ := X
          have hc1 : c < 18446744073709551616 := by omega
          obtain ⟨yy, cc, bY, bC, hml⟩ := step_ex x3 y2 r5 c HT.out.1.2.2.2 HT.out.2.1.2.2.1 b5 hc1
          have cs := fun w => step_at w x3 y2 r5 c yy cc HT.out.1.2.2.2 HT.out.2.1.2.2.1 b5 hc1 bY hml
          rw [← HT.out.2.2.2.2.2.2.2.2.2.2.2.2.2.2.2.2.1] at hml
          have hnew : v8P r0 r1 r2 r3 r4 yy r6 0 + 39402006196394479212279040100143613805079739270465446667948293404245721771497210611414266254884915640806627990306816 * cc = 0 + 1 * t00 + 18446744073709551616 * t01 + 340282366920938463463374607431768211456 * t02 + 6277101735386680763835789423207666416102355444464034512896 * t03 + 18446744073709551616 * t10 + 340282366920938463463374607431768211456 * t11 + 6277101735386680763835789423207666416102355444464034512896 * t12 + 115792089237316195423570985008687907853269984665640564039457584007913129639936 * t13 + 340282366920938463463374607431768211456 * t20 + 6277101735386680763835789423207666416102355444464034512896 * t21 + 115792089237316195423570985008687907853269984665640564039457584007913129639936 * t22 + 2135987035920910082395021706169552114602704522356652769947041607822219725780640550022962086936576 * t23 + 6277101735386680763835789423207666416102355444464034512896 * t30 + 115792089237316195423570985008687907853269984665640564039457584007913129639936 * t31 + 2135987035920910082395021706169552114602704522356652769947041607822219725780640550022962086936576 * t32 := by
            simp only [v8P] at hval ⊢
            omega
          have HN := Lib.hid (And.intro hnew (And.intro (And.intro b0 (And.intro b1 (And.intro b2 (And.intro b3 (And.intro b4 (And.intro b5 b6)))))) (And.intro bY bC)))
          have pa : wr.cell? ⟨w.heap.size + 4, 5, none⟩ = some (.int .u64 (r5 : Int)) := BW.cell 5
          have pf := BW.frozen 5
          clear hval hnew hml bY bC hc hc1 b0 b1 b2 b3 b4 b5 b6
          go_wp2_with fail
          refine (cs _).mono ?_
          rintro e u ⟨rfl, rfl⟩
          go_wp2
          obtain ⟨hnew, ⟨b0, b1, b2, b3, b4, b5, b6⟩, bY, bC⟩ := HN.out
          refine ⟨⟨(hb.setCell (by show w.heap.size ≤ w.heap.size + 4; omega) _), (BY.far (by show w.heap.size + 1 ≠ w.heap.size + 4; omega) _), (BL.far (by show w.heap.size + 2 ≠ w.heap.size + 4; omega) _), (BH.far (by show w.heap.size + 3 ≠ w.heap.size + 4; omega) _), Lib.hid (.inr (.inr (.inr (.inl (⟨rfl, r0, r1, r2, r3, r4, yy, r6, cc, rfl, BW.set_ 5 _, ⟨b0, b1, b2, b3, b4, bY, b6⟩, bC, hnew⟩)))))⟩, by decide⟩
        · clear HI
          obtain ⟨r0, r1, r2, r3, r4, r5, r6, c, rfl, BW, ⟨b0, b1, b2, b3, b4, b5, b6⟩, hc, hval⟩ := X
          have hc1 : c < 18446744073709551616 := by omega
          obtain ⟨yy, cc, bY, bC, hml⟩ := step_ex x3 y3 r6 c HT.out.1.2.2.2 HT.out.2.1.2.2.2 b6 hc1
          have cs := fun w => step_at w x3 y3 r6 c yy cc HT.out.1.2.2.2 HT.out.2.1.2.2.2 b6 hc1 bY hml
          rw [← HT.out.2.2.2.2.2.2.2.2.2.2.2.2.2.2.2.2.2.1] at hml
          have hnew : v8P r0 r1 r2 r3 r4 r5 yy 0 + 726838724295606890549323807888004534353641360687318060281490199180639288113397923326191050713763565560762521606266177933534601628614656 * cc = 0 + 1 * t00 + 18446744073709551616 * t01 + 340282366920938463463374607431768211456 * t02 + 6277101735386680763835789423207666416102355444464034512896 * t03 + 18446744073709551616 * t10 + 340282366920938463463374607431768211456 * t11 + 6277101735386680763835789423207666416102355444464034512896 * t12 + 115792089237316195423570985008687907853269984665640564039457584007913129639936 * t13 + 340282366920938463463374607431768211456 * t20 + 6277101735386680763835789423207666416102355444464034512896 * t21 + 115792089237316195423570985008687907853269984665640564039457584007913129639936 * t22 + 2135987035920910082395021706169552114602704522356652769947041607822219725780640550022962086936576 * t23 + 6277101735386680763835789423207666416102355444464034512896 * t30 + 115792089237316195423570985008687907853269984665640564039457584007913129639936 * t31 + 2135987035920910082395021706169552114602704522356652769947041607822219725780640550022962086936576 * t32 + 39402006196394479212279040100143613805079739270465446667948293404245721771497210611414266254884915640806627990306816 * t33 := by
            simp only [v8P] at hval ⊢
            omega
          have HN := Lib.hid (And.intro hnew (And.intro (And.intro b0 (And.intro b1 (And.intro b2 (And.intro b3 (And.intro b4 (And.intro b5 b6)))))) (And.intro bY bC)))
          have pa : wr.cell? ⟨w.heap.size + 4, 6, none⟩ = some (.int .u64 (r6 : Int)) := BW.cell 6
          have pf := BW.frozen 6
          clear hval hnew hml bY bC hc hc1 b0 b1 b2 b3 b4 b5 b6
          go_wp2_with fail
          refine (cs _).mono ?_
          rintro e u ⟨rfl, rfl⟩
          go_wp2
          obtain ⟨hnew, ⟨b0, b1, b2, b3, b4, b5, b6⟩, bY, bC⟩ := HN.out
          refine ⟨⟨(hb.setCell (by show w.heap.size ≤ w.heap.size + 4; omega) _), (BY.far (by show w.heap.size + 1 ≠ w.heap.size + 4; omega) _), (BL.far (by show w.heap.size + 2 ≠ w.heap.size + 4; omega) _), (BH.far (by show w.heap.size + 3 ≠ w.heap.size + 4; omega) _), Lib.hid (.inr (.inr (.inr (.inr (⟨rfl, r0, r1, r2, r3, r4, r5, yy, cc, rfl, BW.set_ 6 _, ⟨b0, b1, b2, b3, b4, b5, bY⟩, bC, hnew⟩)))))⟩, by decide⟩
        · clear HI
          obtain ⟨r0, r1, r2, r3, r4, r5, r6, c, rfl, BW, ⟨b0, b1, b2, b3, b4, b5, b6⟩, hc, hval⟩ := X
          have HV := Lib.hid (And.intro hval hc)
          have HB := Lib.hid (And.intro b0 (And.intro b1 (And.intro b2 (And.intro b3 (And.intro b4 (And.intro b5 b6))))))
          have pa : wr.cell? ⟨w.heap.size + 4, 7, none⟩ = some (.int .u64 0) := BW.cell 7
          have pf := BW.frozen 7
          clear hval hc b0 b1 b2 b3 b4 b5 b6
          go_wp2
          obtain ⟨b0, b1, b2, b3, b4, b5, b6⟩ := HB.out
          refine ⟨⟨(hb.setCell (by show w.heap.size ≤ w.heap.size + 4; omega) _), (BY.far (by show w.heap.size + 1 ≠ w.heap.size + 4; omega) _), (BL.far (by show w.heap.size + 2 ≠ w.heap.size + 4; omega) _), (BH.far (by show w.heap.size + 3 ≠ w.heap.size + 4; omega) _), Lib.hid (.inr (.inr (.inr (.inr (⟨rfl, r0, r1, r2, r3, r4, r5, r6, c, BW.set_ 7 _, ⟨b0, b1, b2, b3, b4, b5, b6, HV.out.2⟩, by have := HV.out.1; simp only [v8P] at this ⊢; omega⟩)))))⟩, by decide⟩
    · clear HI
      obtain ⟨r0, r1, r2, r3, r4, r5, r6, r7, BW, hlt, hval⟩ := X
      have cf := Lib.hid (cF r0 r1 r2 r3 r4 r5 r6 r7 hlt hval)
      have lW := BW.lt
      have q0 : wr.cell? ⟨w.heap.size + 4, 0, none⟩ = some (.int .u64 (r0 : Int)) := BW.cell 0
      have q1 : wr.cell? ⟨w.heap.size + 4, 1, none⟩ = some (.int .u64 (r1 : Int)) := BW.cell 1
      have q2 : wr.cell? ⟨w.heap.size + 4, 2, none⟩ = some (.int .u64 (r2 : Int)) := BW.cell 2
      have q3 : wr.cell? ⟨w.heap.size + 4, 3, none⟩ = some (.int .u64 (r3 : Int)) := BW.cell 3
      have q4 : wr.cell? ⟨w.heap.size + 4, 4, none⟩ = some (.int .u64 (r4 : Int)) := BW.cell 4
      have q5 : wr.cell? ⟨w.heap.size + 4, 5, none⟩ = some (.int .u64 (r5 : Int)) := BW.cell 5
      have q6 : wr.cell? ⟨w.heap.size + 4, 6, none⟩ = some (.int .u64 (r6 : Int)) := BW.cell 6
      have q7 : wr.cell? ⟨w.heap.size + 4, 7, none⟩ = some (.int .u64 (r7 : Int)) := BW.cell 7
      obtain ⟨V, hV⟩ : ∃ V : List (Nat × Obj), V = [(w.heap.size + 2, .cells #[.int .u64 (r0 : Int), .int .u64 (r1 : Int), .int .u64 (r2 : Int), .int .u64 (r3 : Int)] 36), (w.heap.size + 3, .cells #[.int .u64 (r4 : Int), .int .u64 (r5 : Int), .int .u64 (r6 : Int), .int .u64 (r7 : Int)] 36)] := ⟨_, rfl⟩
      have hf : V.all (fun x => x.1 != w.heap.size + 4) = true := by rw [hV]; simp
      have hm1 : (w.heap.size + 2, Obj.cells #[.int .u64 (r0 : Int), .int .u64 (r1 : Int), .int .u64 (r2 : Int), .int .u64 (r3 : Int)] 36) ∈ V := by rw [hV]; simp
      have hm2 : (w.heap.size + 3, Obj.cells #[.int .u64 (r4 : Int), .int .u64 (r5 : Int), .int .u64 (r6 : Int), .int .u64 (r7 : Int)] 36) ∈ V := by rw [hV]; simp
      have hv1 : ∀ o, (w.heap.size + 2, o) ∈ V → o = Obj.cells #[.int .u64 (r0 : Int), .int .u64 (r1 : Int), .int .u64 (r2 : Int), .int .u64 (r3 : Int)] 36 := by rw [hV]; intro o h; simpa using h
      have hv2 : ∀ o, (w.heap.size + 3, o) ∈ V → o = Obj.cells #[.int .u64 (r4 : Int), .int .u64 (r5 : Int), .int .u64 (r6 : Int), .int .u64 (r7 : Int)] 36 := by rw [hV]; intro o h; simpa using h
      have hs1 : ∀ o, (w.heap.size + 2, o) ∈ V → ∃ c : Array Value, o = .cells c 36 ∧ c.size = 4 := fun o h => ⟨_, hv1 o h, rfl⟩
      have hs2 : ∀ o, (w.heap.size + 3, o) ∈ V → ∃ c : Array Value, o = .cells c 36 ∧ c.size = 4 := fun o h => ⟨_, hv2 o h, rfl⟩
      have hbe : ∀ x ∈ V, w.heap.size ≤ x.1 := by rw [hV]; intro x h; simp at h; rcases h with rfl | rfl <;> simp
      clear cF hlt hval BY hV HT ix0 ix1 ix2 ix3 iy0 iy1 iy2 iy3 BW
      go_wp2
      refine wp_region_V V (by kernel_rfl) ?_
      try simp only [Act.put]
      refine wpAnyV_take 0 rfl (by kernel_rfl) (fun _ _ _ h => h) (YieldsV.pure (by rfl) (fun w9 _ => by go_simp; try with_reducible rfl)) ?_
      try simp only [Act.put, List.setIfInBounds_toArray, List.set_cons_zero, List.set_cons_succ]
      refine wpAnyV_take 1 rfl (by kernel_rfl) (fun _ _ _ h => h) (YieldsV.pure (v := .int .u64 (r0 : Int)) (by rfl) (fun w9 h9 => by have hz := (GrV.cell (p := ⟨w.heap.size + 4, 0, none⟩) h9 lW hf).trans q0; go_simp; first | done | simp [hz])) ?_
      try simp only [Act.put, List.setIfInBounds_toArray, List.set_cons_zero, List.set_cons_succ]
      refine wpAnyV_take 2 rfl (by kernel_rfl) (fun _ _ _ h => h) (YieldsV.pure (by rfl) (fun w9 _ => by go_simp; try with_reducible rfl)) ?_
      try simp only [Act.put, List.setIfInBounds_toArray, List.set_cons_zero, List.set_cons_succ]
      refine wpAnyV_take 3 rfl (by kernel_rfl) (fun _ _ _ h => h) (YieldsV.pure (v := .int .u64 (r1 : Int)) (by rfl) (fun w9 h9 => by have hz := (GrV.cell (p := ⟨w.heap.size + 4, 1, none⟩) h9 lW hf).trans q1; go_simp; first | done | simp [hz])) ?_
      try simp only [Act.put, List.setIfInBounds_toArray, List.set_cons_zero, List.set_cons_succ]
      refine wpAnyV_take 4 rfl (by kernel_rfl) (fun _ _ _ h => h) (YieldsV.pure (by rfl) (fun w9 _ => by go_simp; try with_reducible rfl)) ?_
      try simp only [Act.put, List.setIfInBounds_toArray, List.set_cons_zero, List.set_cons_succ]
      refine wpAnyV_take 5 rfl (by kernel_rfl) (fun _ _ _ h => h) (YieldsV.pure (v := .int .u64 (r2 : Int)) (by rfl) (fun w9 h9 => by have hz := (GrV.cell (p := ⟨w.heap.size + 4, 2, none⟩) h9 lW hf).trans q2; go_simp; first | done | simp [hz])) ?_
      try simp only [Act.put, List.setIfInBounds_toArray, List.set_cons_zero, List.set_cons_succ]
      refine wpAnyV_take 6 rfl (by kernel_rfl) (fun _ _ _ h => h) (YieldsV.pure (by rfl) (fun w9 _ => by go_simp; try with_reducible rfl)) ?_
      try simp only [Act.put, List.setIfInBounds_toArray, List.set_cons_zero, List.set_cons_succ]
      refine wpAnyV_take 7 rfl (by kernel_rfl) (fun _ _ _ h => h) (YieldsV.pure (v := .int .u64 (r3 : Int)) (by rfl) (fun w9 h9 => by have hz := (GrV.cell (p := ⟨w.heap.size + 4, 3, none⟩) h9 lW hf).trans q3; go_simp; first | done | simp [hz])) ?_
      try simp only [Act.put, List.setIfInBounds_toArray, List.set_cons_zero, List.set_cons_succ]
      refine wpAnyV_take 8 rfl (by kernel_rfl) (fun _ _ _ h => h) (YieldsV.pure (by rfl) (fun w9 _ => by go_simp; try with_reducible rfl)) ?_
      try simp only [Act.put, List.setIfInBounds_toArray, List.set_cons_zero, List.set_cons_succ]
      refine wpAnyV_take 9 rfl (by kernel_rfl) (fun _ _ _ h => h) (YieldsV.pure (by rfl) (fun w9 _ => by go_simp; try with_reducible rfl)) ?_
      try simp only [Act.put, List.setIfInBounds_toArray, List.set_cons_zero, List.set_cons_succ]
      refine wpAnyV_take 10 rfl (by kernel_rfl) (fun _ _ _ h => h) (YieldsV.pure (v := .int .u64 (r4 : Int)) (by rfl) (fun w9 h9 => by have hz := (GrV.cell (p := ⟨w.heap.size + 4, 4, none⟩) h9 lW hf).trans q4; go_simp; first | done | simp [hz])) ?_
      try simp only [Act.put, List.setIfInBounds_toArray, List.set_cons_zero, List.set_cons_succ]
      refine wpAnyV_take 11 rfl (by kernel_rfl) (fun _ _ _ h => h) (YieldsV.pure (by rfl) (fun w9 _ => by go_simp; try with_reducible rfl)) ?_
      try simp only [Act.put, List.setIfInBounds_toArray, List.set_cons_zero, List.set_cons_succ]
      refine wpAnyV_take 12 rfl (by kernel_rfl) (fun _ _ _ h => h) (YieldsV.pure (v := .int .u64 (r5 : Int)) (by rfl) (fun w9 h9 => by have hz := (GrV.cell (p := ⟨w.heap.size + 4, 5, none⟩) h9 lW hf).trans q5; go_simp; first | done | simp [hz])) ?_
      try simp only [Act.put, List.setIfInBounds_toArray, List.set_cons_zero, List.set_cons_succ]
      refine wpAnyV_take 13 rfl (by kernel_rfl) (fun _ _ _ h => h) (YieldsV.pure (by rfl) (fun w9 _ => by go_simp; try with_reducible rfl)) ?_
      try simp only [Act.put, List.setIfInBounds_toArray, List.set_cons_zero, List.set_cons_succ]
      refine wpAnyV_take 14 rfl (by kernel_rfl) (fun _ _ _ h => h) (YieldsV.pure (v := .int .u64 (r6 : Int)) (by rfl) (fun w9 h9 => by have hz := (GrV.cell (p := ⟨w.heap.size + 4, 6, none⟩) h9 lW hf).trans q6; go_simp; first | done | simp [hz])) ?_
      try simp only [Act.put, List.setIfInBounds_toArray, List.set_cons_zero, List.set_cons_succ]
      refine wpAnyV_take 15 rfl (by kernel_rfl) (fun _ _ _ h => h) (YieldsV.pure (by rfl) (fun w9 _ => by go_simp; try with_reducible rfl)) ?_
      try simp only [Act.put, List.setIfInBounds_toArray, List.set_cons_zero, List.set_cons_succ]
      refine wpAnyV_take 16 rfl (by kernel_rfl) (fun _ _ _ h => h) (YieldsV.pure (v := .int .u64 (r7 : Int)) (by rfl) (fun w9 h9 => by have hz := (GrV.cell (p := ⟨w.heap.size + 4, 7, none⟩) h9 lW hf).trans q7; go_simp; first | done | simp [hz])) ?_
      try simp only [Act.put, List.setIfInBounds_toArray, List.set_cons_zero, List.set_cons_succ]
      refine wpAnyV_take 17 rfl (by kernel_rfl) (fun _ _ _ h => h) (YieldsV.pure (by rfl) (fun w9 _ => by go_simp; try with_reducible rfl)) ?_
      try simp only [Act.put, List.setIfInBounds_toArray, List.set_cons_zero, List.set_cons_succ]
      refine wpAnyV_store 18 rfl (by kernel_rfl) (by rfl) _ _ _ rfl (w.heap.size + 2) (#[.int .u64 (r0 : Int), .int .u64 (r1 : Int), .int .u64 (r2 : Int), .int .u64 (r3 : Int)]) rfl rfl _ hm1 (fun w1 h1 => h1.some (n := 4) BL rfl hs1) (by kernel_rfl) (by simp [Value.oneCell']) (fun u1 g1 v1 hB1 hL1 => ?_)
      try simp only [Act.put]
      refine wpAnyV_store 19 rfl (by kernel_rfl) (by rfl) _ _ _ rfl (w.heap.size + 3) (#[.int .u64 (r4 : Int), .int .u64 (r5 : Int), .int .u64 (r6 : Int), .int .u64 (r7 : Int)]) rfl rfl _ hm2 (fun w1 h1 => ((g1.trans hB1).trans h1).some (n := 4) BH rfl hs2) (by kernel_rfl) (by simp [Value.oneCell']) (fun u2 g2 v2 hB2 hL2 => ?_)
      try simp only [Act.put]
      refine wpAnyV_done (by kernel_rfl) (fun v hv => ?_)
      have f1 := GrV.done ((g2.trans hB2).trans hv) hL1 hv1
      have f2 := hv.done hL2 hv2
      have hbz := hb.trans ((((g1.trans hB1).trans g2).trans hB2).trans hv |>.below hb.size hbe)
      clear hv g1 g2 hB1 hB2
      go_wp2
      exact bodyPost_ret (res_two_cells rfl _ _ (w.heap.size + 2) (w.heap.size + 3) _ _ _ _ _ _ rfl f1 rfl f2 Try.underlying36 rfl (by kernel_rfl) Try.underlying36 rfl (by kernel_rfl)) rfl ⟨by rw [cf.out.1, cf.out.2], hbz⟩
end Go.Proofs.Ytajjjdmjlloifaa.Sc
