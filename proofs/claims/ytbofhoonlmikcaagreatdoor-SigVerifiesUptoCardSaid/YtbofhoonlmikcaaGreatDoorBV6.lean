/-
  Texts of ours, put together: ScProd, ScMul, Concat, SigD, SigE, CrvY, RefNumber, CrvE, CrvZ, SigF, SigG, ScNum, EcN, SigM, SigN.
-/
import Derived.Test.YtbofhoonlmikcaaGreatDoorBV5
set_option linter.unusedVariables false
set_option linter.unusedSimpArgs false
section
namespace Go.Proofs.YtbofhoonlmikcaaGreatDoor.Sc
open Go.RowKit Go.Lib

def v8P (a b c d e f g h : Nat) : Nat := a + 18446744073709551616 * b + 340282366920938463463374607431768211456 * c + 6277101735386680763835789423207666416102355444464034512896 * d + 115792089237316195423570985008687907853269984665640564039457584007913129639936 * e + 2135987035920910082395021706169552114602704522356652769947041607822219725780640550022962086936576 * f + 39402006196394479212279040100143613805079739270465446667948293404245721771497210611414266254884915640806627990306816 * g + 726838724295606890549323807888004534353641360687318060281490199180639288113397923326191050713763565560762521606266177933534601628614656 * h
theorem step_ex (v m x y : Nat) (hv : v < 18446744073709551616) (hm : m < 18446744073709551616) (hx : x < 18446744073709551616) (hy : y < 18446744073709551616) : ∃ lo hi : Nat, lo < 18446744073709551616 ∧ hi < 18446744073709551616 ∧ lo + 18446744073709551616 * hi = v * m + x + y := by
 have h : v * m ≤ 18446744073709551615 * 18446744073709551615 := Nat.mul_le_mul (by omega) (by omega)
 exact ⟨(v * m + x + y) % 18446744073709551616, (v * m + x + y) / 18446744073709551616, by omega, by omega, by omega⟩
set_option maxHeartbeats 1000000 in
theorem step_at (w : World) (v m x y lo hi : Nat) (hv : v < 18446744073709551616) (hm : m < 18446744073709551616) (hx : x < 18446744073709551616) (hy : y < 18446744073709551616) (hlo : lo < 18446744073709551616) (he : lo + 18446744073709551616 * hi = v * m + x + y) :
  Calls Tryz.prog 171 #[.int .u64 (v : Int), .int .u64 (m : Int), .int .u64 (x : Int), .int .u64 (y : Int)] w fun e w' => e = .returned (.tuple #[.int .u64 (lo : Int), .int .u64 (hi : Int)]) ∧ w' = w := by
 have h : v * m ≤ 18446744073709551615 * 18446744073709551615 := Nat.mul_le_mul (by omega) (by omega)
 obtain ⟨p, q, bq, bp, hpq⟩ := mul_ex v m hv hm
 obtain ⟨s, k, bs, bk, hsk, ra⟩ := add0_ex q x bq hx
 obtain ⟨t, l, bt, bl, htl, rb⟩ := add0_ex s y bs hy
 have hsum : p + k + l < 18446744073709551616 := by omega
 have hsum1 : p + k < 18446744073709551616 := by omega
 obtain rfl : t = lo := by omega
 have HI : Hid (hi = p + k + l) := Lib.hid (by omega)
 have cm := fun w => mul64_at w v m p q hv hm bq hpq
 clear h hpq hsk htl he hlo bs bq bp
 go_enter Tryz.func171, Tryz.ntmps171
 go_wp2_with fail
 refine (cm _).mono ?_
 rintro e w1 ⟨rfl, rfl⟩
 go_wp2
 go_ret2
 exact ⟨by rw [HI.out]; rfl, rfl⟩
theorem below5P (w : World) (a b c d e : Obj) : Below w.heap.size w (((((w.alloc a).alloc b).alloc c).alloc d).alloc e) := ((below_alloc3 w a b c).alloc (by simp <;> omega) _).alloc (by simp <;> omega) _
theorem blk5P (w : World) (a b c d : Obj) (t : TypeId) (cs : Array Value) : Blk (((((w.alloc a).alloc b).alloc c).alloc d).alloc (.cells cs t)) (w.heap.size + 4) t cs := by
 have h := Blk.new ((((w.alloc a).alloc b).alloc c).alloc d) t cs
 have e : ((((w.alloc a).alloc b).alloc c).alloc d).heap.size = w.heap.size + 4 := by simp
 rwa [e] at h

set_option maxHeartbeats 100000000 in
set_option maxRecDepth 100000 in
theorem product_any (w : World) (x y lo hi : Nat) (hx : x < 115792089237316195423570985008687907853269984665640564039457584007913129639936) (hy : y < 115792089237316195423570985008687907853269984665640564039457584007913129639936) (hlo : lo < 115792089237316195423570985008687907853269984665640564039457584007913129639936) (_ : hi < 115792089237316195423570985008687907853269984665640564039457584007913129639936) (he : lo + 115792089237316195423570985008687907853269984665640564039457584007913129639936 * hi = x * y) : Calls Tryz.prog 135 #[fv x, fv y] w fun e w' => e = .returned (.tuple #[fv lo, fv hi]) ∧ Below w.heap.size w w' := by
 obtain ⟨x0, x1, x2, x3, a0, a1, a2, a3, ex, fx⟩ := words_of x hx
 obtain ⟨y0, y1, y2, y3, b0, b1, b2, b3, ey, fy⟩ := words_of y hy
 obtain ⟨t00, ht00⟩ : ∃ t, t = x0 * y0 := ⟨_, rfl⟩
 obtain ⟨t01, ht01⟩ : ∃ t, t = x0 * y1 := ⟨_, rfl⟩
 obtain ⟨t02, ht02⟩ : ∃ t, t = x0 * y2 := ⟨_, rfl⟩
 obtain ⟨t03, ht03⟩ : ∃ t, t = x0 * y3 := ⟨_, rfl⟩
 obtain ⟨t10, ht10⟩ : ∃ t, t = x1 * y0 := ⟨_, rfl⟩
 obtain ⟨t11, ht11⟩ : ∃ t, t = x1 * y1 := ⟨_, rfl⟩
 obtain ⟨t12, ht12⟩ : ∃ t, t = x1 * y2 := ⟨_, rfl⟩
 obtain ⟨t13, ht13⟩ : ∃ t, t = x1 * y3 := ⟨_, rfl⟩
 obtain ⟨t20, ht20⟩ : ∃ t, t = x2 * y0 := ⟨_, rfl⟩
 obtain ⟨t21, ht21⟩ : ∃ t, t = x2 * y1 := ⟨_, rfl⟩
 obtain ⟨t22, ht22⟩ : ∃ t, t = x2 * y2 := ⟨_, rfl⟩
 obtain ⟨t23, ht23⟩ : ∃ t, t = x2 * y3 := ⟨_, rfl⟩
 obtain ⟨t30, ht30⟩ : ∃ t, t = x3 * y0 := ⟨_, rfl⟩
 obtain ⟨t31, ht31⟩ : ∃ t, t = x3 * y1 := ⟨_, rfl⟩
 obtain ⟨t32, ht32⟩ : ∃ t, t = x3 * y2 := ⟨_, rfl⟩
 obtain ⟨t33, ht33⟩ : ∃ t, t = x3 * y3 := ⟨_, rfl⟩
 have m1 : x * y = x0 * y + 18446744073709551616 * (x1 * y) + 340282366920938463463374607431768211456 * (x2 * y) + 6277101735386680763835789423207666416102355444464034512896 * (x3 * y) := by
  conv => lhs; rw [ex]
  exact row_mul x0 x1 x2 x3 y
 have n0 : x0 * y = x0 * y0 + 18446744073709551616 * (x0 * y1) + 340282366920938463463374607431768211456 * (x0 * y2) + 6277101735386680763835789423207666416102355444464034512896 * (x0 * y3) := by
  conv => lhs; rw [ey]
  exact col_mul x0 y0 y1 y2 y3
 have n1 : x1 * y = x1 * y0 + 18446744073709551616 * (x1 * y1) + 340282366920938463463374607431768211456 * (x1 * y2) + 6277101735386680763835789423207666416102355444464034512896 * (x1 * y3) := by
  conv => lhs; rw [ey]
  exact col_mul x1 y0 y1 y2 y3
 have n2 : x2 * y = x2 * y0 + 18446744073709551616 * (x2 * y1) + 340282366920938463463374607431768211456 * (x2 * y2) + 6277101735386680763835789423207666416102355444464034512896 * (x2 * y3) := by
  conv => lhs; rw [ey]
  exact col_mul x2 y0 y1 y2 y3
 have n3 : x3 * y = x3 * y0 + 18446744073709551616 * (x3 * y1) + 340282366920938463463374607431768211456 * (x3 * y2) + 6277101735386680763835789423207666416102355444464034512896 * (x3 * y3) := by
  conv => lhs; rw [ey]
  exact col_mul x3 y0 y1 y2 y3
 have hxy : 0 + 1 * t00 + 18446744073709551616 * t01 + 340282366920938463463374607431768211456 * t02 + 6277101735386680763835789423207666416102355444464034512896 * t03 + 18446744073709551616 * t10 + 340282366920938463463374607431768211456 * t11 + 6277101735386680763835789423207666416102355444464034512896 * t12 + 115792089237316195423570985008687907853269984665640564039457584007913129639936 * t13 + 340282366920938463463374607431768211456 * t20 + 6277101735386680763835789423207666416102355444464034512896 * t21 + 115792089237316195423570985008687907853269984665640564039457584007913129639936 * t22 + 2135987035920910082395021706169552114602704522356652769947041607822219725780640550022962086936576 * t23 + 6277101735386680763835789423207666416102355444464034512896 * t30 + 115792089237316195423570985008687907853269984665640564039457584007913129639936 * t31 + 2135987035920910082395021706169552114602704522356652769947041607822219725780640550022962086936576 * t32 + 39402006196394479212279040100143613805079739270465446667948293404245721771497210611414266254884915640806627990306816 * t33 = x * y := by
  rw [m1, n0, n1, n2, n3]
  simp only [ht00, ht01, ht02, ht03, ht10, ht11, ht12, ht13, ht20, ht21, ht22, ht23, ht30, ht31, ht32, ht33]
  omega
 clear m1 n0 n1 n2 n3
 have cF : ∀ (r0 r1 r2 r3 r4 r5 r6 r7 : Nat), (r0 < 18446744073709551616 ∧ r1 < 18446744073709551616 ∧ r2 < 18446744073709551616 ∧ r3 < 18446744073709551616 ∧ r4 < 18446744073709551616 ∧ r5 < 18446744073709551616 ∧ r6 < 18446744073709551616 ∧ r7 < 18446744073709551616) → v8P r0 r1 r2 r3 r4 r5 r6 r7 = 0 + 1 * t00 + 18446744073709551616 * t01 + 340282366920938463463374607431768211456 * t02 + 6277101735386680763835789423207666416102355444464034512896 * t03 + 18446744073709551616 * t10 + 340282366920938463463374607431768211456 * t11 + 6277101735386680763835789423207666416102355444464034512896 * t12 + 115792089237316195423570985008687907853269984665640564039457584007913129639936 * t13 + 340282366920938463463374607431768211456 * t20 + 6277101735386680763835789423207666416102355444464034512896 * t21 + 115792089237316195423570985008687907853269984665640564039457584007913129639936 * t22 + 2135987035920910082395021706169552114602704522356652769947041607822219725780640550022962086936576 * t23 + 6277101735386680763835789423207666416102355444464034512896 * t30 + 115792089237316195423570985008687907853269984665640564039457584007913129639936 * t31 + 2135987035920910082395021706169552114602704522356652769947041607822219725780640550022962086936576 * t32 + 39402006196394479212279040100143613805079739270465446667948293404245721771497210611414266254884915640806627990306816 * t33 → fv lo = .agg #[.int .u64 (r0 : Int), .int .u64 (r1 : Int), .int .u64 (r2 : Int), .int .u64 (r3 : Int)] ∧ fv hi = .agg #[.int .u64 (r4 : Int), .int .u64 (r5 : Int), .int .u64 (r6 : Int), .int .u64 (r7 : Int)] := by
  intro r0 r1 r2 r3 r4 r5 r6 r7 hlt hv
  obtain ⟨l0, l1, l2, l3, l4, l5, l6, l7⟩ := hlt
  rw [hxy, ← he] at hv
  simp only [v8P] at hv
  have e1 : lo = r0 + 18446744073709551616 * r1 + 340282366920938463463374607431768211456 * r2 + 6277101735386680763835789423207666416102355444464034512896 * r3 := by omega
  have e2 : hi = r4 + 18446744073709551616 * r5 + 340282366920938463463374607431768211456 * r6 + 6277101735386680763835789423207666416102355444464034512896 * r7 := by omega
  rw [e1, e2]
  exact ⟨(fv_mk r0 r1 r2 r3 l0 l1 l2 l3).symm, (fv_mk r4 r5 r6 r7 l4 l5 l6 l7).symm⟩
 have HT := Lib.hid (And.intro (And.intro a0 (And.intro a1 (And.intro a2 a3))) (And.intro (And.intro b0 (And.intro b1 (And.intro b2 b3))) (And.intro ht00 (And.intro ht01 (And.intro ht02 (And.intro ht03 (And.intro ht10 (And.intro ht11 (And.intro ht12 (And.intro ht13 (And.intro ht20 (And.intro ht21 (And.intro ht22 (And.intro ht23 (And.intro ht30 (And.intro ht31 (And.intro ht32 (And.intro ht33 trivial))))))))))))))))))
 rw [fx, fy]
 clear fx fy ex ey hx hy he hlo hxy a0 a1 a2 a3 b0 b1 b2 b3 ht00 ht01 ht02 ht03 ht10 ht11 ht12 ht13 ht20 ht21 ht22 ht23 ht30 ht31 ht32 ht33
 go_enter Tryz.func135, Tryz.ntmps135
 go_wp2_with fail
 have ix0 : ∀ W, (Instr.index 24 (.agg #[.int .u64 (x0 : Int), .int .u64 (x1 : Int), .int .u64 (x2 : Int), .int .u64 (x3 : Int)]) (.int .i64 0)).run Tryz.prog W = .ok (.int .u64 (x0 : Int)) W := fun W => by kernel_rfl
 have ix1 : ∀ W, (Instr.index 24 (.agg #[.int .u64 (x0 : Int), .int .u64 (x1 : Int), .int .u64 (x2 : Int), .int .u64 (x3 : Int)]) (.int .i64 1)).run Tryz.prog W = .ok (.int .u64 (x1 : Int)) W := fun W => by kernel_rfl
 have ix2 : ∀ W, (Instr.index 24 (.agg #[.int .u64 (x0 : Int), .int .u64 (x1 : Int), .int .u64 (x2 : Int), .int .u64 (x3 : Int)]) (.int .i64 2)).run Tryz.prog W = .ok (.int .u64 (x2 : Int)) W := fun W => by kernel_rfl
 have ix3 : ∀ W, (Instr.index 24 (.agg #[.int .u64 (x0 : Int), .int .u64 (x1 : Int), .int .u64 (x2 : Int), .int .u64 (x3 : Int)]) (.int .i64 3)).run Tryz.prog W = .ok (.int .u64 (x3 : Int)) W := fun W => by kernel_rfl
 have iy0 : ∀ W, (Instr.index 24 (.agg #[.int .u64 (y0 : Int), .int .u64 (y1 : Int), .int .u64 (y2 : Int), .int .u64 (y3 : Int)]) (.int .i64 0)).run Tryz.prog W = .ok (.int .u64 (y0 : Int)) W := fun W => by kernel_rfl
 have iy1 : ∀ W, (Instr.index 24 (.agg #[.int .u64 (y0 : Int), .int .u64 (y1 : Int), .int .u64 (y2 : Int), .int .u64 (y3 : Int)]) (.int .i64 1)).run Tryz.prog W = .ok (.int .u64 (y1 : Int)) W := fun W => by kernel_rfl
 have iy2 : ∀ W, (Instr.index 24 (.agg #[.int .u64 (y0 : Int), .int .u64 (y1 : Int), .int .u64 (y2 : Int), .int .u64 (y3 : Int)]) (.int .i64 2)).run Tryz.prog W = .ok (.int .u64 (y2 : Int)) W := fun W => by kernel_rfl
 have iy3 : ∀ W, (Instr.index 24 (.agg #[.int .u64 (y0 : Int), .int .u64 (y1 : Int), .int .u64 (y2 : Int), .int .u64 (y3 : Int)]) (.int .i64 3)).run Tryz.prog W = .ok (.int .u64 (y3 : Int)) W := fun W => by kernel_rfl
 go_loopw [13] (fun i wr => Below w.heap.size w wr ∧ Blk wr (w.heap.size + 1) 24 #[.int .u64 (y0 : Int), .int .u64 (y1 : Int), .int .u64 (y2 : Int), .int .u64 (y3 : Int)] ∧ Blk wr (w.heap.size + 2) 24 #[.int .u64 0, .int .u64 0, .int .u64 0, .int .u64 0] ∧ Blk wr (w.heap.size + 3) 24 #[.int .u64 0, .int .u64 0, .int .u64 0, .int .u64 0] ∧ Hid ((i = .int .i64 0 ∧ Blk wr (w.heap.size + 4) 160 #[.int .u64 0, .int .u64 0, .int .u64 0, .int .u64 0, .int .u64 0, .int .u64 0, .int .u64 0, .int .u64 0] ∧ (True) ∧ v8P 0 0 0 0 0 0 0 0 = 0) ∨ (i = .int .i64 1 ∧ ∃ r0 r1 r2 r3 r4 : Nat, Blk wr (w.heap.size + 4) 160 #[.int .u64 (r0 : Int), .int .u64 (r1 : Int), .int .u64 (r2 : Int), .int .u64 (r3 : Int), .int .u64 (r4 : Int), .int .u64 0, .int .u64 0, .int .u64 0] ∧ (r0 < 18446744073709551616 ∧ r1 < 18446744073709551616 ∧ r2 < 18446744073709551616 ∧ r3 < 18446744073709551616 ∧ r4 < 18446744073709551616) ∧ v8P r0 r1 r2 r3 r4 0 0 0 = 0 + 1 * t00 + 18446744073709551616 * t01 + 340282366920938463463374607431768211456 * t02 + 6277101735386680763835789423207666416102355444464034512896 * t03) ∨ (i = .int .i64 2 ∧ ∃ r0 r1 r2 r3 r4 r5 : Nat, Blk wr (w.heap.size + 4) 160 #[.int .u64 (r0 : Int), .int .u64 (r1 : Int), .int .u64 (r2 : Int), .int .u64 (r3 : Int), .int .u64 (r4 : Int), .int .u64 (r5 : Int), .int .u64 0, .int .u64 0] ∧ (r0 < 18446744073709551616 ∧ r1 < 18446744073709551616 ∧ r2 < 18446744073709551616 ∧ r3 < 18446744073709551616 ∧ r4 < 18446744073709551616 ∧ r5 < 18446744073709551616) ∧ v8P r0 r1 r2 r3 r4 r5 0 0 = 0 + 1 * t00 + 18446744073709551616 * t01 + 340282366920938463463374607431768211456 * t02 + 6277101735386680763835789423207666416102355444464034512896 * t03 + 18446744073709551616 * t10 + 340282366920938463463374607431768211456 * t11 + 6277101735386680763835789423207666416102355444464034512896 * t12 + 115792089237316195423570985008687907853269984665640564039457584007913129639936 * t13) ∨ (i = .int .i64 3 ∧ ∃ r0 r1 r2 r3 r4 r5 r6 : Nat, Blk wr (w.heap.size + 4) 160 #[.int .u64 (r0 : Int), .int .u64 (r1 : Int), .int .u64 (r2 : Int), .int .u64 (r3 : Int), .int .u64 (r4 : Int), .int .u64 (r5 : Int), .int .u64 (r6 : Int), .int .u64 0] ∧ (r0 < 18446744073709551616 ∧ r1 < 18446744073709551616 ∧ r2 < 18446744073709551616 ∧ r3 < 18446744073709551616 ∧ r4 < 18446744073709551616 ∧ r5 < 18446744073709551616 ∧ r6 < 18446744073709551616) ∧ v8P r0 r1 r2 r3 r4 r5 r6 0 = 0 + 1 * t00 + 18446744073709551616 * t01 + 340282366920938463463374607431768211456 * t02 + 6277101735386680763835789423207666416102355444464034512896 * t03 + 18446744073709551616 * t10 + 340282366920938463463374607431768211456 * t11 + 6277101735386680763835789423207666416102355444464034512896 * t12 + 115792089237316195423570985008687907853269984665640564039457584007913129639936 * t13 + 340282366920938463463374607431768211456 * t20 + 6277101735386680763835789423207666416102355444464034512896 * t21 + 115792089237316195423570985008687907853269984665640564039457584007913129639936 * t22 + 2135987035920910082395021706169552114602704522356652769947041607822219725780640550022962086936576 * t23) ∨ (i = .int .i64 4 ∧ ∃ r0 r1 r2 r3 r4 r5 r6 r7 : Nat, Blk wr (w.heap.size + 4) 160 #[.int .u64 (r0 : Int), .int .u64 (r1 : Int), .int .u64 (r2 : Int), .int .u64 (r3 : Int), .int .u64 (r4 : Int), .int .u64 (r5 : Int), .int .u64 (r6 : Int), .int .u64 (r7 : Int)] ∧ (r0 < 18446744073709551616 ∧ r1 < 18446744073709551616 ∧ r2 < 18446744073709551616 ∧ r3 < 18446744073709551616 ∧ r4 < 18446744073709551616 ∧ r5 < 18446744073709551616 ∧ r6 < 18446744073709551616 ∧ r7 < 18446744073709551616) ∧ v8P r0 r1 r2 r3 r4 r5 r6 r7 = 0 + 1 * t00 + 18446744073709551616 * t01 + 340282366920938463463374607431768211456 * t02 + 6277101735386680763835789423207666416102355444464034512896 * t03 + 18446744073709551616 * t10 + 340282366920938463463374607431768211456 * t11 + 6277101735386680763835789423207666416102355444464034512896 * t12 + 115792089237316195423570985008687907853269984665640564039457584007913129639936 * t13 + 340282366920938463463374607431768211456 * t20 + 6277101735386680763835789423207666416102355444464034512896 * t21 + 115792089237316195423570985008687907853269984665640564039457584007913129639936 * t22 + 2135987035920910082395021706169552114602704522356652769947041607822219725780640550022962086936576 * t23 + 6277101735386680763835789423207666416102355444464034512896 * t30 + 115792089237316195423570985008687907853269984665640564039457584007913129639936 * t31 + 2135987035920910082395021706169552114602704522356652769947041607822219725780640550022962086936576 * t32 + 39402006196394479212279040100143613805079739270465446667948293404245721771497210611414266254884915640806627990306816 * t33))) (fun i _ => 4 - (intOf i).toNat)
 case atStart => exact ⟨below5P w _ _ _ _ _, (((blk_new2 w _ _ _).alloc _).alloc _).alloc _, ((blk_new3 w _ _ _ _).alloc _).alloc _, (blk_new4 w _ _ _ _ _).alloc _, Lib.hid (.inl ⟨rfl, blk5P w _ _ _ _ _ _, trivial, by simp only [v8P]⟩)⟩
 case round =>
  obtain ⟨hb, BY, BL, BH, HI⟩ := hrel
  rcases HI.out with ⟨rfl, X⟩ | ⟨rfl, X⟩ | ⟨rfl, X⟩ | ⟨rfl, X⟩ | ⟨rfl, X⟩
  ·clear HI
   obtain ⟨BW, hlt, hval⟩ := X
   have HL := Lib.hid (And.intro hlt hval)
   clear hlt hval
   go_wp2_with (first | ((with_reducible refine here_load (d := some 17) ?_); refine wpList_load_blk rfl _ _ rfl (w.heap.size + 1) rfl _ _ _ BY Tryz.underlying24 rfl (by kernel_rfl) ?_))
   obtain ⟨hlt, hval⟩ := HL.out
   go_loopw [9, 18] (fun cv j wr => Below w.heap.size w wr ∧ Blk wr (w.heap.size + 1) 24 #[.int .u64 (y0 : Int), .int .u64 (y1 : Int), .int .u64 (y2 : Int), .int .u64 (y3 : Int)] ∧ Blk wr (w.heap.size + 2) 24 #[.int .u64 0, .int .u64 0, .int .u64 0, .int .u64 0] ∧ Blk wr (w.heap.size + 3) 24 #[.int .u64 0, .int .u64 0, .int .u64 0, .int .u64 0] ∧ Hid ((j = .int .i64 0 ∧ ∃ r0 r1 r2 r3 c : Nat, cv = .int .u64 (c : Int) ∧ Blk wr (w.heap.size + 4) 160 #[.int .u64 (r0 : Int), .int .u64 (r1 : Int), .int .u64 (r2 : Int), .int .u64 (r3 : Int), .int .u64 0, .int .u64 0, .int .u64 0, .int .u64 0] ∧ (r0 < 18446744073709551616 ∧ r1 < 18446744073709551616 ∧ r2 < 18446744073709551616 ∧ r3 < 18446744073709551616) ∧ c = 0 ∧ v8P r0 r1 r2 r3 0 0 0 0 + 1 * c = 0) ∨ (j = .int .i64 1 ∧ ∃ r0 r1 r2 r3 c : Nat, cv = .int .u64 (c : Int) ∧ Blk wr (w.heap.size + 4) 160 #[.int .u64 (r0 : Int), .int .u64 (r1 : Int), .int .u64 (r2 : Int), .int .u64 (r3 : Int), .int .u64 0, .int .u64 0, .int .u64 0, .int .u64 0] ∧ (r0 < 18446744073709551616 ∧ r1 < 18446744073709551616 ∧ r2 < 18446744073709551616 ∧ r3 < 18446744073709551616) ∧ c < 18446744073709551616 ∧ v8P r0 r1 r2 r3 0 0 0 0 + 18446744073709551616 * c = 0 + 1 * t00) ∨ (j = .int .i64 2 ∧ ∃ r0 r1 r2 r3 c : Nat, cv = .int .u64 (c : Int) ∧ Blk wr (w.heap.size + 4) 160 #[.int .u64 (r0 : Int), .int .u64 (r1 : Int), .int .u64 (r2 : Int), .int .u64 (r3 : Int), .int .u64 0, .int .u64 0, .int .u64 0, .int .u64 0] ∧ (r0 < 18446744073709551616 ∧ r1 < 18446744073709551616 ∧ r2 < 18446744073709551616 ∧ r3 < 18446744073709551616) ∧ c < 18446744073709551616 ∧ v8P r0 r1 r2 r3 0 0 0 0 + 340282366920938463463374607431768211456 * c = 0 + 1 * t00 + 18446744073709551616 * t01) ∨ (j = .int .i64 3 ∧ ∃ r0 r1 r2 r3 c : Nat, cv = .int .u64 (c : Int) ∧ Blk wr (w.heap.size + 4) 160 #[.int .u64 (r0 : Int), .int .u64 (r1 : Int), .int .u64 (r2 : Int), .int .u64 (r3 : Int), .int .u64 0, .int .u64 0, .int .u64 0, .int .u64 0] ∧ (r0 < 18446744073709551616 ∧ r1 < 18446744073709551616 ∧ r2 < 18446744073709551616 ∧ r3 < 18446744073709551616) ∧ c < 18446744073709551616 ∧ v8P r0 r1 r2 r3 0 0 0 0 + 6277101735386680763835789423207666416102355444464034512896 * c = 0 + 1 * t00 + 18446744073709551616 * t01 + 340282366920938463463374607431768211456 * t02) ∨ (j = .int .i64 4 ∧ ∃ r0 r1 r2 r3 c : Nat, cv = .int .u64 (c : Int) ∧ Blk wr (w.heap.size + 4) 160 #[.int .u64 (r0 : Int), .int .u64 (r1 : Int), .int .u64 (r2 : Int), .int .u64 (r3 : Int), .int .u64 0, .int .u64 0, .int .u64 0, .int .u64 0] ∧ (r0 < 18446744073709551616 ∧ r1 < 18446744073709551616 ∧ r2 < 18446744073709551616 ∧ r3 < 18446744073709551616) ∧ c < 18446744073709551616 ∧ v8P r0 r1 r2 r3 0 0 0 0 + 115792089237316195423570985008687907853269984665640564039457584007913129639936 * c = 0 + 1 * t00 + 18446744073709551616 * t01 + 340282366920938463463374607431768211456 * t02 + 6277101735386680763835789423207666416102355444464034512896 * t03))) (fun _ j _ => 4 - (intOf j).toNat)
   case atStart => exact ⟨hb, BY, BL, BH, Lib.hid (.inl ⟨rfl, 0, 0, 0, 0, 0, rfl, BW, ⟨by omega, by omega, by omega, by omega⟩, rfl, by omega⟩)⟩
   case round =>
    clear hb BY BL BH BW hlt hval HL
    obtain ⟨hb, BY, BL, BH, HI⟩ := hrel
    rcases HI.out with ⟨rfl, X⟩ | ⟨rfl, X⟩ | ⟨rfl, X⟩ | ⟨rfl, X⟩ | ⟨rfl, X⟩
    ·clear HI
     obtain ⟨r0, r1, r2, r3, c, rfl, BW, ⟨b0, b1, b2, b3⟩, hc, hval⟩ := X
     have hc1 : c < 18446744073709551616 := by omega
     obtain ⟨yy, cc, bY, bC, hml⟩ := step_ex x0 y0 r0 c HT.out.1.1 HT.out.2.1.1 b0 hc1
     have cs := fun w => step_at w x0 y0 r0 c yy cc HT.out.1.1 HT.out.2.1.1 b0 hc1 bY hml
     rw [← HT.out.2.2.1] at hml
     have hnew : v8P yy r1 r2 r3 0 0 0 0 + 18446744073709551616 * cc = 0 + 1 * t00 := by
      simp only [v8P] at hval ⊢
      omega
     have HN := Lib.hid (And.intro hnew (And.intro (And.intro b0 (And.intro b1 (And.intro b2 b3))) (And.intro bY bC)))
     have pa : wr.cell? ⟨w.heap.size + 4, 0, none⟩ = some (.int .u64 (r0 : Int)) := BW.cell 0
     have pf := BW.frozen 0
     clear hval hnew hml bY bC hc hc1 b0 b1 b2 b3
     go_wp2_with fail
     refine (cs _).mono ?_
     rintro e u ⟨rfl, rfl⟩
     go_wp2
     obtain ⟨hnew, ⟨b0, b1, b2, b3⟩, bY, bC⟩ := HN.out
     refine ⟨⟨(hb.setCell (by show w.heap.size ≤ w.heap.size + 4; omega) _), (BY.far (by show w.heap.size + 1 ≠ w.heap.size + 4; omega) _), (BL.far (by show w.heap.size + 2 ≠ w.heap.size + 4; omega) _), (BH.far (by show w.heap.size + 3 ≠ w.heap.size + 4; omega) _), Lib.hid (.inr (.inl (⟨rfl, yy, r1, r2, r3, cc, rfl, BW.set_ 0 _, ⟨bY, b1, b2, b3⟩, bC, hnew⟩)))⟩, by decide⟩
    ·clear HI
     obtain ⟨r0, r1, r2, r3, c, rfl, BW, ⟨b0, b1, b2, b3⟩, hc, hval⟩ := X
     have hc1 : c < 18446744073709551616 := by omega
     obtain ⟨yy, cc, bY, bC, hml⟩ := step_ex x0 y1 r1 c HT.out.1.1 HT.out.2.1.2.1 b1 hc1
     have cs := fun w => step_at w x0 y1 r1 c yy cc HT.out.1.1 HT.out.2.1.2.1 b1 hc1 bY hml
     rw [← HT.out.2.2.2.1] at hml
     have hnew : v8P r0 yy r2 r3 0 0 0 0 + 340282366920938463463374607431768211456 * cc = 0 + 1 * t00 + 18446744073709551616 * t01 := by
      simp only [v8P] at hval ⊢
      omega
     have HN := Lib.hid (And.intro hnew (And.intro (And.intro b0 (And.intro b1 (And.intro b2 b3))) (And.intro bY bC)))
     have pa : wr.cell? ⟨w.heap.size + 4, 1, none⟩ = some (.int .u64 (r1 : Int)) := BW.cell 1
     have pf := BW.frozen 1
     clear hval hnew hml bY bC hc hc1 b0 b1 b2 b3
     go_wp2_with fail
     refine (cs _).mono ?_
     rintro e u ⟨rfl, rfl⟩
     go_wp2
     obtain ⟨hnew, ⟨b0, b1, b2, b3⟩, bY, bC⟩ := HN.out
     refine ⟨⟨(hb.setCell (by show w.heap.size ≤ w.heap.size + 4; omega) _), (BY.far (by show w.heap.size + 1 ≠ w.heap.size + 4; omega) _), (BL.far (by show w.heap.size + 2 ≠ w.heap.size + 4; omega) _), (BH.far (by show w.heap.size + 3 ≠ w.heap.size + 4; omega) _), Lib.hid (.inr (.inr (.inl (⟨rfl, r0, yy, r2, r3, cc, rfl, BW.set_ 1 _, ⟨b0, bY, b2, b3⟩, bC, hnew⟩))))⟩, by decide⟩
    ·clear HI
     obtain ⟨r0, r1, r2, r3, c, rfl, BW, ⟨b0, b1, b2, b3⟩, hc, hval⟩ := X
     have hc1 : c < 18446744073709551616 := by omega
     obtain ⟨yy, cc, bY, bC, hml⟩ := step_ex x0 y2 r2 c HT.out.1.1 HT.out.2.1.2.2.1 b2 hc1
     have cs := fun w => step_at w x0 y2 r2 c yy cc HT.out.1.1 HT.out.2.1.2.2.1 b2 hc1 bY hml
     rw [← HT.out.2.2.2.2.1] at hml
     have hnew : v8P r0 r1 yy r3 0 0 0 0 + 6277101735386680763835789423207666416102355444464034512896 * cc = 0 + 1 * t00 + 18446744073709551616 * t01 + 340282366920938463463374607431768211456 * t02 := by
      simp only [v8P] at hval ⊢
      omega
     have HN := Lib.hid (And.intro hnew (And.intro (And.intro b0 (And.intro b1 (And.intro b2 b3))) (And.intro bY bC)))
     have pa : wr.cell? ⟨w.heap.size + 4, 2, none⟩ = some (.int .u64 (r2 : Int)) := BW.cell 2
     have pf := BW.frozen 2
     clear hval hnew hml bY bC hc hc1 b0 b1 b2 b3
     go_wp2_with fail
     refine (cs _).mono ?_
     rintro e u ⟨rfl, rfl⟩
     go_wp2
     obtain ⟨hnew, ⟨b0, b1, b2, b3⟩, bY, bC⟩ := HN.out
     refine ⟨⟨(hb.setCell (by show w.heap.size ≤ w.heap.size + 4; omega) _), (BY.far (by show w.heap.size + 1 ≠ w.heap.size + 4; omega) _), (BL.far (by show w.heap.size + 2 ≠ w.heap.size + 4; omega) _), (BH.far (by show w.heap.size + 3 ≠ w.heap.size + 4; omega) _), Lib.hid (.inr (.inr (.inr (.inl (⟨rfl, r0, r1, yy, r3, cc, rfl, BW.set_ 2 _, ⟨b0, b1, bY, b3⟩, bC, hnew⟩)))))⟩, by decide⟩
    ·clear HI
     obtain ⟨r0, r1, r2, r3, c, rfl, BW, ⟨b0, b1, b2, b3⟩, hc, hval⟩ := X
     have hc1 : c < 18446744073709551616 := by omega
     obtain ⟨yy, cc, bY, bC, hml⟩ := step_ex x0 y3 r3 c HT.out.1.1 HT.out.2.1.2.2.2 b3 hc1
     have cs := fun w => step_at w x0 y3 r3 c yy cc HT.out.1.1 HT.out.2.1.2.2.2 b3 hc1 bY hml
     rw [← HT.out.2.2.2.2.2.1] at hml
     have hnew : v8P r0 r1 r2 yy 0 0 0 0 + 115792089237316195423570985008687907853269984665640564039457584007913129639936 * cc = 0 + 1 * t00 + 18446744073709551616 * t01 + 340282366920938463463374607431768211456 * t02 + 6277101735386680763835789423207666416102355444464034512896 * t03 := by
      simp only [v8P] at hval ⊢
      omega
     have HN := Lib.hid (And.intro hnew (And.intro (And.intro b0 (And.intro b1 (And.intro b2 b3))) (And.intro bY bC)))
     have pa : wr.cell? ⟨w.heap.size + 4, 3, none⟩ = some (.int .u64 (r3 : Int)) := BW.cell 3
     have pf := BW.frozen 3
     clear hval hnew hml bY bC hc hc1 b0 b1 b2 b3
     go_wp2_with fail
     refine (cs _).mono ?_
     rintro e u ⟨rfl, rfl⟩
     go_wp2
     obtain ⟨hnew, ⟨b0, b1, b2, b3⟩, bY, bC⟩ := HN.out
     refine ⟨⟨(hb.setCell (by show w.heap.size ≤ w.heap.size + 4; omega) _), (BY.far (by show w.heap.size + 1 ≠ w.heap.size + 4; omega) _), (BL.far (by show w.heap.size + 2 ≠ w.heap.size + 4; omega) _), (BH.far (by show w.heap.size + 3 ≠ w.heap.size + 4; omega) _), Lib.hid (.inr (.inr (.inr (.inr (⟨rfl, r0, r1, r2, yy, cc, rfl, BW.set_ 3 _, ⟨b0, b1, b2, bY⟩, bC, hnew⟩)))))⟩, by decide⟩
    ·clear HI
     obtain ⟨r0, r1, r2, r3, c, rfl, BW, ⟨b0, b1, b2, b3⟩, hc, hval⟩ := X
     have HV := Lib.hid (And.intro hval hc)
     have HB := Lib.hid (And.intro b0 (And.intro b1 (And.intro b2 b3)))
     have pa : wr.cell? ⟨w.heap.size + 4, 4, none⟩ = some (.int .u64 0) := BW.cell 4
     have pf := BW.frozen 4
     clear hval hc b0 b1 b2 b3
     go_wp2
     obtain ⟨b0, b1, b2, b3⟩ := HB.out
     refine ⟨⟨(hb.setCell (by show w.heap.size ≤ w.heap.size + 4; omega) _), (BY.far (by show w.heap.size + 1 ≠ w.heap.size + 4; omega) _), (BL.far (by show w.heap.size + 2 ≠ w.heap.size + 4; omega) _), (BH.far (by show w.heap.size + 3 ≠ w.heap.size + 4; omega) _), Lib.hid (.inr (.inl (⟨rfl, r0, r1, r2, r3, c, BW.set_ 4 _, ⟨b0, b1, b2, b3, HV.out.2⟩, by have := HV.out.1; simp only [v8P] at this ⊢; omega⟩)))⟩, by decide⟩
  ·clear HI
   obtain ⟨r0, r1, r2, r3, r4, BW, hlt, hval⟩ := X
   have HL := Lib.hid (And.intro hlt hval)
   clear hlt hval
   go_wp2_with (first | ((with_reducible refine here_load (d := some 17) ?_); refine wpList_load_blk rfl _ _ rfl (w.heap.size + 1) rfl _ _ _ BY Tryz.underlying24 rfl (by kernel_rfl) ?_))
   obtain ⟨hlt, hval⟩ := HL.out
   go_loopw [9, 18] (fun cv j wr => Below w.heap.size w wr ∧ Blk wr (w.heap.size + 1) 24 #[.int .u64 (y0 : Int), .int .u64 (y1 : Int), .int .u64 (y2 : Int), .int .u64 (y3 : Int)] ∧ Blk wr (w.heap.size + 2) 24 #[.int .u64 0, .int .u64 0, .int .u64 0, .int .u64 0] ∧ Blk wr (w.heap.size + 3) 24 #[.int .u64 0, .int .u64 0, .int .u64 0, .int .u64 0] ∧ Hid ((j = .int .i64 0 ∧ ∃ r0 r1 r2 r3 r4 c : Nat, cv = .int .u64 (c : Int) ∧ Blk wr (w.heap.size + 4) 160 #[.int .u64 (r0 : Int), .int .u64 (r1 : Int), .int .u64 (r2 : Int), .int .u64 (r3 : Int), .int .u64 (r4 : Int), .int .u64 0, .int .u64 0, .int .u64 0] ∧ (r0 < 18446744073709551616 ∧ r1 < 18446744073709551616 ∧ r2 < 18446744073709551616 ∧ r3 < 18446744073709551616 ∧ r4 < 18446744073709551616) ∧ c = 0 ∧ v8P r0 r1 r2 r3 r4 0 0 0 + 18446744073709551616 * c = 0 + 1 * t00 + 18446744073709551616 * t01 + 340282366920938463463374607431768211456 * t02 + 6277101735386680763835789423207666416102355444464034512896 * t03) ∨ (j = .int .i64 1 ∧ ∃ r0 r1 r2 r3 r4 c : Nat, cv = .int .u64 (c : Int) ∧ Blk wr (w.heap.size + 4) 160 #[.int .u64 (r0 : Int), .int .u64 (r1 : Int), .int .u64 (r2 : Int), .int .u64 (r3 : Int), .int .u64 (r4 : Int), .int .u64 0, .int .u64 0, .int .u64 0] ∧ (r0 < 18446744073709551616 ∧ r1 < 18446744073709551616 ∧ r2 < 18446744073709551616 ∧ r3 < 18446744073709551616 ∧ r4 < 18446744073709551616) ∧ c < 18446744073709551616 ∧ v8P r0 r1 r2 r3 r4 0 0 0 + 340282366920938463463374607431768211456 * c = 0 + 1 * t00 + 18446744073709551616 * t01 + 340282366920938463463374607431768211456 * t02 + 6277101735386680763835789423207666416102355444464034512896 * t03 + 18446744073709551616 * t10) ∨ (j = .int .i64 2 ∧ ∃ r0 r1 r2 r3 r4 c : Nat, cv = .int .u64 (c : Int) ∧ Blk wr (w.heap.size + 4) 160 #[.int .u64 (r0 : Int), .int .u64 (r1 : Int), .int .u64 (r2 : Int), .int .u64 (r3 : Int), .int .u64 (r4 : Int), .int .u64 0, .int .u64 0, .int .u64 0] ∧ (r0 < 18446744073709551616 ∧ r1 < 18446744073709551616 ∧ r2 < 18446744073709551616 ∧ r3 < 18446744073709551616 ∧ r4 < 18446744073709551616) ∧ c < 18446744073709551616 ∧ v8P r0 r1 r2 r3 r4 0 0 0 + 6277101735386680763835789423207666416102355444464034512896 * c = 0 + 1 * t00 + 18446744073709551616 * t01 + 340282366920938463463374607431768211456 * t02 + 6277101735386680763835789423207666416102355444464034512896 * t03 + 18446744073709551616 * t10 + 340282366920938463463374607431768211456 * t11) ∨ (j = .int .i64 3 ∧ ∃ r0 r1 r2 r3 r4 c : Nat, cv = .int .u64 (c : Int) ∧ Blk wr (w.heap.size + 4) 160 #[.int .u64 (r0 : Int), .int .u64 (r1 : Int), .int .u64 (r2 : Int), .int .u64 (r3 : Int), .int .u64 (r4 : Int), .int .u64 0, .int .u64 0, .int .u64 0] ∧ (r0 < 18446744073709551616 ∧ r1 < 18446744073709551616 ∧ r2 < 18446744073709551616 ∧ r3 < 18446744073709551616 ∧ r4 < 18446744073709551616) ∧ c < 18446744073709551616 ∧ v8P r0 r1 r2 r3 r4 0 0 0 + 115792089237316195423570985008687907853269984665640564039457584007913129639936 * c = 0 + 1 * t00 + 18446744073709551616 * t01 + 340282366920938463463374607431768211456 * t02 + 6277101735386680763835789423207666416102355444464034512896 * t03 + 18446744073709551616 * t10 + 340282366920938463463374607431768211456 * t11 + 6277101735386680763835789423207666416102355444464034512896 * t12) ∨ (j = .int .i64 4 ∧ ∃ r0 r1 r2 r3 r4 c : Nat, cv = .int .u64 (c : Int) ∧ Blk wr (w.heap.size + 4) 160 #[.int .u64 (r0 : Int), .int .u64 (r1 : Int), .int .u64 (r2 : Int), .int .u64 (r3 : Int), .int .u64 (r4 : Int), .int .u64 0, .int .u64 0, .int .u64 0] ∧ (r0 < 18446744073709551616 ∧ r1 < 18446744073709551616 ∧ r2 < 18446744073709551616 ∧ r3 < 18446744073709551616 ∧ r4 < 18446744073709551616) ∧ c < 18446744073709551616 ∧ v8P r0 r1 r2 r3 r4 0 0 0 + 2135987035920910082395021706169552114602704522356652769947041607822219725780640550022962086936576 * c = 0 + 1 * t00 + 18446744073709551616 * t01 + 340282366920938463463374607431768211456 * t02 + 6277101735386680763835789423207666416102355444464034512896 * t03 + 18446744073709551616 * t10 + 340282366920938463463374607431768211456 * t11 + 6277101735386680763835789423207666416102355444464034512896 * t12 + 115792089237316195423570985008687907853269984665640564039457584007913129639936 * t13))) (fun _ j _ => 4 - (intOf j).toNat)
   case atStart => exact ⟨hb, BY, BL, BH, Lib.hid (.inl ⟨rfl, r0, r1, r2, r3, r4, 0, rfl, BW, hlt, rfl, by omega⟩)⟩
   case round =>
    clear hb BY BL BH BW hlt hval HL
    obtain ⟨hb, BY, BL, BH, HI⟩ := hrel
    rcases HI.out with ⟨rfl, X⟩ | ⟨rfl, X⟩ | ⟨rfl, X⟩ | ⟨rfl, X⟩ | ⟨rfl, X⟩
    ·clear HI
     obtain ⟨r0, r1, r2, r3, r4, c, rfl, BW, ⟨b0, b1, b2, b3, b4⟩, hc, hval⟩ := X
     have hc1 : c < 18446744073709551616 := by omega
     obtain ⟨yy, cc, bY, bC, hml⟩ := step_ex x1 y0 r1 c HT.out.1.2.1 HT.out.2.1.1 b1 hc1
     have cs := fun w => step_at w x1 y0 r1 c yy cc HT.out.1.2.1 HT.out.2.1.1 b1 hc1 bY hml
     rw [← HT.out.2.2.2.2.2.2.1] at hml
     have hnew : v8P r0 yy r2 r3 r4 0 0 0 + 340282366920938463463374607431768211456 * cc = 0 + 1 * t00 + 18446744073709551616 * t01 + 340282366920938463463374607431768211456 * t02 + 6277101735386680763835789423207666416102355444464034512896 * t03 + 18446744073709551616 * t10 := by
      simp only [v8P] at hval ⊢
      omega
     have HN := Lib.hid (And.intro hnew (And.intro (And.intro b0 (And.intro b1 (And.intro b2 (And.intro b3 b4)))) (And.intro bY bC)))
     have pa : wr.cell? ⟨w.heap.size + 4, 1, none⟩ = some (.int .u64 (r1 : Int)) := BW.cell 1
     have pf := BW.frozen 1
     clear hval hnew hml bY bC hc hc1 b0 b1 b2 b3 b4
     go_wp2_with fail
     refine (cs _).mono ?_
     rintro e u ⟨rfl, rfl⟩
     go_wp2
     obtain ⟨hnew, ⟨b0, b1, b2, b3, b4⟩, bY, bC⟩ := HN.out
     refine ⟨⟨(hb.setCell (by show w.heap.size ≤ w.heap.size + 4; omega) _), (BY.far (by show w.heap.size + 1 ≠ w.heap.size + 4; omega) _), (BL.far (by show w.heap.size + 2 ≠ w.heap.size + 4; omega) _), (BH.far (by show w.heap.size + 3 ≠ w.heap.size + 4; omega) _), Lib.hid (.inr (.inl (⟨rfl, r0, yy, r2, r3, r4, cc, rfl, BW.set_ 1 _, ⟨b0, bY, b2, b3, b4⟩, bC, hnew⟩)))⟩, by decide⟩
    ·clear HI
     obtain ⟨r0, r1, r2, r3, r4, c, rfl, BW, ⟨b0, b1, b2, b3, b4⟩, hc, hval⟩ := X
     have hc1 : c < 18446744073709551616 := by omega
     obtain ⟨yy, cc, bY, bC, hml⟩ := step_ex x1 y1 r2 c HT.out.1.2.1 HT.out.2.1.2.1 b2 hc1
     have cs := fun w => step_at w x1 y1 r2 c yy cc HT.out.1.2.1 HT.out.2.1.2.1 b2 hc1 bY hml
     rw [← HT.out.2.2.2.2.2.2.2.1] at hml
     have hnew : v8P r0 r1 yy r3 r4 0 0 0 + 6277101735386680763835789423207666416102355444464034512896 * cc = 0 + 1 * t00 + 18446744073709551616 * t01 + 340282366920938463463374607431768211456 * t02 + 6277101735386680763835789423207666416102355444464034512896 * t03 + 18446744073709551616 * t10 + 340282366920938463463374607431768211456 * t11 := by
      simp only [v8P] at hval ⊢
      omega
     have HN := Lib.hid (And.intro hnew (And.intro (And.intro b0 (And.intro b1 (And.intro b2 (And.intro b3 b4)))) (And.intro bY bC)))
     have pa : wr.cell? ⟨w.heap.size + 4, 2, none⟩ = some (.int .u64 (r2 : Int)) := BW.cell 2
     have pf := BW.frozen 2
     clear hval hnew hml bY bC hc hc1 b0 b1 b2 b3 b4
     go_wp2_with fail
     refine (cs _).mono ?_
     rintro e u ⟨rfl, rfl⟩
     go_wp2
     obtain ⟨hnew, ⟨b0, b1, b2, b3, b4⟩, bY, bC⟩ := HN.out
     refine ⟨⟨(hb.setCell (by show w.heap.size ≤ w.heap.size + 4; omega) _), (BY.far (by show w.heap.size + 1 ≠ w.heap.size + 4; omega) _), (BL.far (by show w.heap.size + 2 ≠ w.heap.size + 4; omega) _), (BH.far (by show w.heap.size + 3 ≠ w.heap.size + 4; omega) _), Lib.hid (.inr (.inr (.inl (⟨rfl, r0, r1, yy, r3, r4, cc, rfl, BW.set_ 2 _, ⟨b0, b1, bY, b3, b4⟩, bC, hnew⟩))))⟩, by decide⟩
    ·clear HI
     obtain ⟨r0, r1, r2, r3, r4, c, rfl, BW, ⟨b0, b1, b2, b3, b4⟩, hc, hval⟩ := X
     have hc1 : c < 18446744073709551616 := by omega
     obtain ⟨yy, cc, bY, bC, hml⟩ := step_ex x1 y2 r3 c HT.out.1.2.1 HT.out.2.1.2.2.1 b3 hc1
     have cs := fun w => step_at w x1 y2 r3 c yy cc HT.out.1.2.1 HT.out.2.1.2.2.1 b3 hc1 bY hml
     rw [← HT.out.2.2.2.2.2.2.2.2.1] at hml
     have hnew : v8P r0 r1 r2 yy r4 0 0 0 + 115792089237316195423570985008687907853269984665640564039457584007913129639936 * cc = 0 + 1 * t00 + 18446744073709551616 * t01 + 340282366920938463463374607431768211456 * t02 + 6277101735386680763835789423207666416102355444464034512896 * t03 + 18446744073709551616 * t10 + 340282366920938463463374607431768211456 * t11 + 6277101735386680763835789423207666416102355444464034512896 * t12 := by
      simp only [v8P] at hval ⊢
      omega
     have HN := Lib.hid (And.intro hnew (And.intro (And.intro b0 (And.intro b1 (And.intro b2 (And.intro b3 b4)))) (And.intro bY bC)))
     have pa : wr.cell? ⟨w.heap.size + 4, 3, none⟩ = some (.int .u64 (r3 : Int)) := BW.cell 3
     have pf := BW.frozen 3
     clear hval hnew hml bY bC hc hc1 b0 b1 b2 b3 b4
     go_wp2_with fail
     refine (cs _).mono ?_
     rintro e u ⟨rfl, rfl⟩
     go_wp2
     obtain ⟨hnew, ⟨b0, b1, b2, b3, b4⟩, bY, bC⟩ := HN.out
     refine ⟨⟨(hb.setCell (by show w.heap.size ≤ w.heap.size + 4; omega) _), (BY.far (by show w.heap.size + 1 ≠ w.heap.size + 4; omega) _), (BL.far (by show w.heap.size + 2 ≠ w.heap.size + 4; omega) _), (BH.far (by show w.heap.size + 3 ≠ w.heap.size + 4; omega) _), Lib.hid (.inr (.inr (.inr (.inl (⟨rfl, r0, r1, r2, yy, r4, cc, rfl, BW.set_ 3 _, ⟨b0, b1, b2, bY, b4⟩, bC, hnew⟩)))))⟩, by decide⟩
    ·clear HI
     obtain ⟨r0, r1, r2, r3, r4, c, rfl, BW, ⟨b0, b1, b2, b3, b4⟩, hc, hval⟩ := X
     have hc1 : c < 18446744073709551616 := by omega
     obtain ⟨yy, cc, bY, bC, hml⟩ := step_ex x1 y3 r4 c HT.out.1.2.1 HT.out.2.1.2.2.2 b4 hc1
     have cs := fun w => step_at w x1 y3 r4 c yy cc HT.out.1.2.1 HT.out.2.1.2.2.2 b4 hc1 bY hml
     rw [← HT.out.2.2.2.2.2.2.2.2.2.1] at hml
     have hnew : v8P r0 r1 r2 r3 yy 0 0 0 + 2135987035920910082395021706169552114602704522356652769947041607822219725780640550022962086936576 * cc = 0 + 1 * t00 + 18446744073709551616 * t01 + 340282366920938463463374607431768211456 * t02 + 6277101735386680763835789423207666416102355444464034512896 * t03 + 18446744073709551616 * t10 + 340282366920938463463374607431768211456 * t11 + 6277101735386680763835789423207666416102355444464034512896 * t12 + 115792089237316195423570985008687907853269984665640564039457584007913129639936 * t13 := by
      simp only [v8P] at hval ⊢
      omega
     have HN := Lib.hid (And.intro hnew (And.intro (And.intro b0 (And.intro b1 (And.intro b2 (And.intro b3 b4)))) (And.intro bY bC)))
     have pa : wr.cell? ⟨w.heap.size + 4, 4, none⟩ = some (.int .u64 (r4 : Int)) := BW.cell 4
     have pf := BW.frozen 4
     clear hval hnew hml bY bC hc hc1 b0 b1 b2 b3 b4
     go_wp2_with fail
     refine (cs _).mono ?_
     rintro e u ⟨rfl, rfl⟩
     go_wp2
     obtain ⟨hnew, ⟨b0, b1, b2, b3, b4⟩, bY, bC⟩ := HN.out
     refine ⟨⟨(hb.setCell (by show w.heap.size ≤ w.heap.size + 4; omega) _), (BY.far (by show w.heap.size + 1 ≠ w.heap.size + 4; omega) _), (BL.far (by show w.heap.size + 2 ≠ w.heap.size + 4; omega) _), (BH.far (by show w.heap.size + 3 ≠ w.heap.size + 4; omega) _), Lib.hid (.inr (.inr (.inr (.inr (⟨rfl, r0, r1, r2, r3, yy, cc, rfl, BW.set_ 4 _, ⟨b0, b1, b2, b3, bY⟩, bC, hnew⟩)))))⟩, by decide⟩
    ·clear HI
     obtain ⟨r0, r1, r2, r3, r4, c, rfl, BW, ⟨b0, b1, b2, b3, b4⟩, hc, hval⟩ := X
     have HV := Lib.hid (And.intro hval hc)
     have HB := Lib.hid (And.intro b0 (And.intro b1 (And.intro b2 (And.intro b3 b4))))
     have pa : wr.cell? ⟨w.heap.size + 4, 5, none⟩ = some (.int .u64 0) := BW.cell 5
     have pf := BW.frozen 5
     clear hval hc b0 b1 b2 b3 b4
     go_wp2
     obtain ⟨b0, b1, b2, b3, b4⟩ := HB.out
     refine ⟨⟨(hb.setCell (by show w.heap.size ≤ w.heap.size + 4; omega) _), (BY.far (by show w.heap.size + 1 ≠ w.heap.size + 4; omega) _), (BL.far (by show w.heap.size + 2 ≠ w.heap.size + 4; omega) _), (BH.far (by show w.heap.size + 3 ≠ w.heap.size + 4; omega) _), Lib.hid (.inr (.inr (.inl (⟨rfl, r0, r1, r2, r3, r4, c, BW.set_ 5 _, ⟨b0, b1, b2, b3, b4, HV.out.2⟩, by have := HV.out.1; simp only [v8P] at this ⊢; omega⟩))))⟩, by decide⟩
  ·clear HI
   obtain ⟨r0, r1, r2, r3, r4, r5, BW, hlt, hval⟩ := X
   have HL := Lib.hid (And.intro hlt hval)
   clear hlt hval
   go_wp2_with (first | ((with_reducible refine here_load (d := some 17) ?_); refine wpList_load_blk rfl _ _ rfl (w.heap.size + 1) rfl _ _ _ BY Tryz.underlying24 rfl (by kernel_rfl) ?_))
   obtain ⟨hlt, hval⟩ := HL.out
   go_loopw [9, 18] (fun cv j wr => Below w.heap.size w wr ∧ Blk wr (w.heap.size + 1) 24 #[.int .u64 (y0 : Int), .int .u64 (y1 : Int), .int .u64 (y2 : Int), .int .u64 (y3 : Int)] ∧ Blk wr (w.heap.size + 2) 24 #[.int .u64 0, .int .u64 0, .int .u64 0, .int .u64 0] ∧ Blk wr (w.heap.size + 3) 24 #[.int .u64 0, .int .u64 0, .int .u64 0, .int .u64 0] ∧ Hid ((j = .int .i64 0 ∧ ∃ r0 r1 r2 r3 r4 r5 c : Nat, cv = .int .u64 (c : Int) ∧ Blk wr (w.heap.size + 4) 160 #[.int .u64 (r0 : Int), .int .u64 (r1 : Int), .int .u64 (r2 : Int), .int .u64 (r3 : Int), .int .u64 (r4 : Int), .int .u64 (r5 : Int), .int .u64 0, .int .u64 0] ∧ (r0 < 18446744073709551616 ∧ r1 < 18446744073709551616 ∧ r2 < 18446744073709551616 ∧ r3 < 18446744073709551616 ∧ r4 < 18446744073709551616 ∧ r5 < 18446744073709551616) ∧ c = 0 ∧ v8P r0 r1 r2 r3 r4 r5 0 0 + 340282366920938463463374607431768211456 * c = 0 + 1 * t00 + 18446744073709551616 * t01 + 340282366920938463463374607431768211456 * t02 + 6277101735386680763835789423207666416102355444464034512896 * t03 + 18446744073709551616 * t10 + 340282366920938463463374607431768211456 * t11 + 6277101735386680763835789423207666416102355444464034512896 * t12 + 115792089237316195423570985008687907853269984665640564039457584007913129639936 * t13) ∨ (j = .int .i64 1 ∧ ∃ r0 r1 r2 r3 r4 r5 c : Nat, cv = .int .u64 (c : Int) ∧ Blk wr (w.heap.size + 4) 160 #[.int .u64 (r0 : Int), .int .u64 (r1 : Int), .int .u64 (r2 : Int), .int .u64 (r3 : Int), .int .u64 (r4 : Int), .int .u64 (r5 : Int), .int .u64 0, .int .u64 0] ∧ (r0 < 18446744073709551616 ∧ r1 < 18446744073709551616 ∧ r2 < 18446744073709551616 ∧ r3 < 18446744073709551616 ∧ r4 < 18446744073709551616 ∧ r5 < 18446744073709551616) ∧ c < 18446744073709551616 ∧ v8P r0 r1 r2 r3 r4 r5 0 0 + 6277101735386680763835789423207666416102355444464034512896 * c = 0 + 1 * t00 + 18446744073709551616 * t01 + 340282366920938463463374607431768211456 * t02 + 6277101735386680763835789423207666416102355444464034512896 * t03 + 18446744073709551616 * t10 + 340282366920938463463374607431768211456 * t11 + 6277101735386680763835789423207666416102355444464034512896 * t12 + 115792089237316195423570985008687907853269984665640564039457584007913129639936 * t13 + 340282366920938463463374607431768211456 * t20) ∨ (j = .int .i64 2 ∧ ∃ r0 r1 r2 r3 r4 r5 c : Nat, cv = .int .u64 (c : Int) ∧ Blk wr (w.heap.size + 4) 160 #[.int .u64 (r0 : Int), .int .u64 (r1 : Int), .int .u64 (r2 : Int), .int .u64 (r3 : Int), .int .u64 (r4 : Int), .int .u64 (r5 : Int), .int .u64 0, .int .u64 0] ∧ (r0 < 18446744073709551616 ∧ r1 < 18446744073709551616 ∧ r2 < 18446744073709551616 ∧ r3 < 18446744073709551616 ∧ r4 < 18446744073709551616 ∧ r5 < 18446744073709551616) ∧ c < 18446744073709551616 ∧ v8P r0 r1 r2 r3 r4 r5 0 0 + 115792089237316195423570985008687907853269984665640564039457584007913129639936 * c = 0 + 1 * t00 + 18446744073709551616 * t01 + 340282366920938463463374607431768211456 * t02 + 6277101735386680763835789423207666416102355444464034512896 * t03 + 18446744073709551616 * t10 + 340282366920938463463374607431768211456 * t11 + 6277101735386680763835789423207666416102355444464034512896 * t12 + 115792089237316195423570985008687907853269984665640564039457584007913129639936 * t13 + 340282366920938463463374607431768211456 * t20 + 6277101735386680763835789423207666416102355444464034512896 * t21) ∨ (j = .int .i64 3 ∧ ∃ r0 r1 r2 r3 r4 r5 c : Nat, cv = .int .u64 (c : Int) ∧ Blk wr (w.heap.size + 4) 160 #[.int .u64 (r0 : Int), .int .u64 (r1 : Int), .int .u64 (r2 : Int), .int .u64 (r3 : Int), .int .u64 (r4 : Int), .int .u64 (r5 : Int), .int .u64 0, .int .u64 0] ∧ (r0 < 18446744073709551616 ∧ r1 < 18446744073709551616 ∧ r2 < 18446744073709551616 ∧ r3 < 18446744073709551616 ∧ r4 < 18446744073709551616 ∧ r5 < 18446744073709551616) ∧ c < 18446744073709551616 ∧ v8P r0 r1 r2 r3 r4 r5 0 0 + 2135987035920910082395021706169552114602704522356652769947041607822219725780640550022962086936576 * c = 0 + 1 * t00 + 18446744073709551616 * t01 + 340282366920938463463374607431768211456 * t02 + 6277101735386680763835789423207666416102355444464034512896 * t03 + 18446744073709551616 * t10 + 340282366920938463463374607431768211456 * t11 + 6277101735386680763835789423207666416102355444464034512896 * t12 + 115792089237316195423570985008687907853269984665640564039457584007913129639936 * t13 + 340282366920938463463374607431768211456 * t20 + 6277101735386680763835789423207666416102355444464034512896 * t21 + 115792089237316195423570985008687907853269984665640564039457584007913129639936 * t22) ∨ (j = .int .i64 4 ∧ ∃ r0 r1 r2 r3 r4 r5 c : Nat, cv = .int .u64 (c : Int) ∧ Blk wr (w.heap.size + 4) 160 #[.int .u64 (r0 : Int), .int .u64 (r1 : Int), .int .u64 (r2 : Int), .int .u64 (r3 : Int), .int .u64 (r4 : Int), .int .u64 (r5 : Int), .int .u64 0, .int .u64 0] ∧ (r0 < 18446744073709551616 ∧ r1 < 18446744073709551616 ∧ r2 < 18446744073709551616 ∧ r3 < 18446744073709551616 ∧ r4 < 18446744073709551616 ∧ r5 < 18446744073709551616) ∧ c < 18446744073709551616 ∧ v8P r0 r1 r2 r3 r4 r5 0 0 + 39402006196394479212279040100143613805079739270465446667948293404245721771497210611414266254884915640806627990306816 * c = 0 + 1 * t00 + 18446744073709551616 * t01 + 340282366920938463463374607431768211456 * t02 + 6277101735386680763835789423207666416102355444464034512896 * t03 + 18446744073709551616 * t10 + 340282366920938463463374607431768211456 * t11 + 6277101735386680763835789423207666416102355444464034512896 * t12 + 115792089237316195423570985008687907853269984665640564039457584007913129639936 * t13 + 340282366920938463463374607431768211456 * t20 + 6277101735386680763835789423207666416102355444464034512896 * t21 + 115792089237316195423570985008687907853269984665640564039457584007913129639936 * t22 + 2135987035920910082395021706169552114602704522356652769947041607822219725780640550022962086936576 * t23))) (fun _ j _ => 4 - (intOf j).toNat)
   case atStart => exact ⟨hb, BY, BL, BH, Lib.hid (.inl ⟨rfl, r0, r1, r2, r3, r4, r5, 0, rfl, BW, hlt, rfl, by omega⟩)⟩
   case round =>
    clear hb BY BL BH BW hlt hval HL
    obtain ⟨hb, BY, BL, BH, HI⟩ := hrel
    rcases HI.out with ⟨rfl, X⟩ | ⟨rfl, X⟩ | ⟨rfl, X⟩ | ⟨rfl, X⟩ | ⟨rfl, X⟩
    ·clear HI
     obtain ⟨r0, r1, r2, r3, r4, r5, c, rfl, BW, ⟨b0, b1, b2, b3, b4, b5⟩, hc, hval⟩ := X
     have hc1 : c < 18446744073709551616 := by omega
     obtain ⟨yy, cc, bY, bC, hml⟩ := step_ex x2 y0 r2 c HT.out.1.2.2.1 HT.out.2.1.1 b2 hc1
     have cs := fun w => step_at w x2 y0 r2 c yy cc HT.out.1.2.2.1 HT.out.2.1.1 b2 hc1 bY hml
     rw [← HT.out.2.2.2.2.2.2.2.2.2.2.1] at hml
     have hnew : v8P r0 r1 yy r3 r4 r5 0 0 + 6277101735386680763835789423207666416102355444464034512896 * cc = 0 + 1 * t00 + 18446744073709551616 * t01 + 340282366920938463463374607431768211456 * t02 + 6277101735386680763835789423207666416102355444464034512896 * t03 + 18446744073709551616 * t10 + 340282366920938463463374607431768211456 * t11 + 6277101735386680763835789423207666416102355444464034512896 * t12 + 115792089237316195423570985008687907853269984665640564039457584007913129639936 * t13 + 340282366920938463463374607431768211456 * t20 := by
      simp only [v8P] at hval ⊢
      omega
     have HN := Lib.hid (And.intro hnew (And.intro (And.intro b0 (And.intro b1 (And.intro b2 (And.intro b3 (And.intro b4 b5))))) (And.intro bY bC)))
     have pa : wr.cell? ⟨w.heap.size + 4, 2, none⟩ = some (.int .u64 (r2 : Int)) := BW.cell 2
     have pf := BW.frozen 2
     clear hval hnew hml bY bC hc hc1 b0 b1 b2 b3 b4 b5
     go_wp2_with fail
     refine (cs _).mono ?_
     rintro e u ⟨rfl, rfl⟩
     go_wp2
     obtain ⟨hnew, ⟨b0, b1, b2, b3, b4, b5⟩, bY, bC⟩ := HN.out
     refine ⟨⟨(hb.setCell (by show w.heap.size ≤ w.heap.size + 4; omega) _), (BY.far (by show w.heap.size + 1 ≠ w.heap.size + 4; omega) _), (BL.far (by show w.heap.size + 2 ≠ w.heap.size + 4; omega) _), (BH.far (by show w.heap.size + 3 ≠ w.heap.size + 4; omega) _), Lib.hid (.inr (.inl (⟨rfl, r0, r1, yy, r3, r4, r5, cc, rfl, BW.set_ 2 _, ⟨b0, b1, bY, b3, b4, b5⟩, bC, hnew⟩)))⟩, by decide⟩
    ·clear HI
     obtain ⟨r0, r1, r2, r3, r4, r5, c, rfl, BW, ⟨b0, b1, b2, b3, b4, b5⟩, hc, hval⟩ := X
     have hc1 : c < 18446744073709551616 := by omega
     obtain ⟨yy, cc, bY, bC, hml⟩ := step_ex x2 y1 r3 c HT.out.1.2.2.1 HT.out.2.1.2.1 b3 hc1
     have cs := fun w => step_at w x2 y1 r3 c yy cc HT.out.1.2.2.1 HT.out.2.1.2.1 b3 hc1 bY hml
     rw [← HT.out.2.2.2.2.2.2.2.2.2.2.2.1] at hml
     have hnew : v8P r0 r1 r2 yy r4 r5 0 0 + 115792089237316195423570985008687907853269984665640564039457584007913129639936 * cc = 0 + 1 * t00 + 18446744073709551616 * t01 + 340282366920938463463374607431768211456 * t02 + 6277101735386680763835789423207666416102355444464034512896 * t03 + 18446744073709551616 * t10 + 340282366920938463463374607431768211456 * t11 + 6277101735386680763835789423207666416102355444464034512896 * t12 + 115792089237316195423570985008687907853269984665640564039457584007913129639936 * t13 + 340282366920938463463374607431768211456 * t20 + 6277101735386680763835789423207666416102355444464034512896 * t21 := by
      simp only [v8P] at hval ⊢
      omega
     have HN := Lib.hid (And.intro hnew (And.intro (And.intro b0 (And.intro b1 (And.intro b2 (And.intro b3 (And.intro b4 b5))))) (And.intro bY bC)))
     have pa : wr.cell? ⟨w.heap.size + 4, 3, none⟩ = some (.int .u64 (r3 : Int)) := BW.cell 3
     have pf := BW.frozen 3
     clear hval hnew hml bY bC hc hc1 b0 b1 b2 b3 b4 b5
     go_wp2_with fail
     refine (cs _).mono ?_
     rintro e u ⟨rfl, rfl⟩
     go_wp2
     obtain ⟨hnew, ⟨b0, b1, b2, b3, b4, b5⟩, bY, bC⟩ := HN.out
     refine ⟨⟨(hb.setCell (by show w.heap.size ≤ w.heap.size + 4; omega) _), (BY.far (by show w.heap.size + 1 ≠ w.heap.size + 4; omega) _), (BL.far (by show w.heap.size + 2 ≠ w.heap.size + 4; omega) _), (BH.far (by show w.heap.size + 3 ≠ w.heap.size + 4; omega) _), Lib.hid (.inr (.inr (.inl (⟨rfl, r0, r1, r2, yy, r4, r5, cc, rfl, BW.set_ 3 _, ⟨b0, b1, b2, bY, b4, b5⟩, bC, hnew⟩))))⟩, by decide⟩
    ·clear HI
     obtain ⟨r0, r1, r2, r3, r4, r5, c, rfl, BW, ⟨b0, b1, b2, b3, b4, b5⟩, hc, hval⟩ := X
     have hc1 : c < 18446744073709551616 := by omega
     obtain ⟨yy, cc, bY, bC, hml⟩ := step_ex x2 y2 r4 c HT.out.1.2.2.1 HT.out.2.1.2.2.1 b4 hc1
     have cs := fun w => step_at w x2 y2 r4 c yy cc HT.out.1.2.2.1 HT.out.2.1.2.2.1 b4 hc1 bY hml
     rw [← HT.out.2.2.2.2.2.2.2.2.2.2.2.2.1] at hml
     have hnew : v8P r0 r1 r2 r3 yy r5 0 0 + 2135987035920910082395021706169552114602704522356652769947041607822219725780640550022962086936576 * cc = 0 + 1 * t00 + 18446744073709551616 * t01 + 340282366920938463463374607431768211456 * t02 + 6277101735386680763835789423207666416102355444464034512896 * t03 + 18446744073709551616 * t10 + 340282366920938463463374607431768211456 * t11 + 6277101735386680763835789423207666416102355444464034512896 * t12 + 115792089237316195423570985008687907853269984665640564039457584007913129639936 * t13 + 340282366920938463463374607431768211456 * t20 + 6277101735386680763835789423207666416102355444464034512896 * t21 + 115792089237316195423570985008687907853269984665640564039457584007913129639936 * t22 := by
      simp only [v8P] at hval ⊢
      omega
     have HN := Lib.hid (And.intro hnew (And.intro (And.intro b0 (And.intro b1 (And.intro b2 (And.intro b3 (And.intro b4 b5))))) (And.intro bY bC)))
     have pa : wr.cell? ⟨w.heap.size + 4, 4, none⟩ = some (.int .u64 (r4 : Int)) := BW.cell 4
     have pf := BW.frozen 4
     clear hval hnew hml bY bC hc hc1 b0 b1 b2 b3 b4 b5
     go_wp2_with fail
     refine (cs _).mono ?_
     rintro e u ⟨rfl, rfl⟩
     go_wp2
     obtain ⟨hnew, ⟨b0, b1, b2, b3, b4, b5⟩, bY, bC⟩ := HN.out
     refine ⟨⟨(hb.setCell (by show w.heap.size ≤ w.heap.size + 4; omega) _), (BY.far (by show w.heap.size + 1 ≠ w.heap.size + 4; omega) _), (BL.far (by show w.heap.size + 2 ≠ w.heap.size + 4; omega) _), (BH.far (by show w.heap.size + 3 ≠ w.heap.size + 4; omega) _), Lib.hid (.inr (.inr (.inr (.inl (⟨rfl, r0, r1, r2, r3, yy, r5, cc, rfl, BW.set_ 4 _, ⟨b0, b1, b2, b3, bY, b5⟩, bC, hnew⟩)))))⟩, by decide⟩
    ·clear HI
     obtain ⟨r0, r1, r2, r3, r4, r5, c, rfl, BW, ⟨b0, b1, b2, b3, b4, b5⟩, hc, hval⟩ := X
     have hc1 : c < 18446744073709551616 := by omega
     obtain ⟨yy, cc, bY, bC, hml⟩ := step_ex x2 y3 r5 c HT.out.1.2.2.1 HT.out.2.1.2.2.2 b5 hc1
     have cs := fun w => step_at w x2 y3 r5 c yy cc HT.out.1.2.2.1 HT.out.2.1.2.2.2 b5 hc1 bY hml
     rw [← HT.out.2.2.2.2.2.2.2.2.2.2.2.2.2.1] at hml
     have hnew : v8P r0 r1 r2 r3 r4 yy 0 0 + 39402006196394479212279040100143613805079739270465446667948293404245721771497210611414266254884915640806627990306816 * cc = 0 + 1 * t00 + 18446744073709551616 * t01 + 340282366920938463463374607431768211456 * t02 + 6277101735386680763835789423207666416102355444464034512896 * t03 + 18446744073709551616 * t10 + 340282366920938463463374607431768211456 * t11 + 6277101735386680763835789423207666416102355444464034512896 * t12 + 115792089237316195423570985008687907853269984665640564039457584007913129639936 * t13 + 340282366920938463463374607431768211456 * t20 + 6277101735386680763835789423207666416102355444464034512896 * t21 + 115792089237316195423570985008687907853269984665640564039457584007913129639936 * t22 + 2135987035920910082395021706169552114602704522356652769947041607822219725780640550022962086936576 * t23 := by
      simp only [v8P] at hval ⊢
      omega
     have HN := Lib.hid (And.intro hnew (And.intro (And.intro b0 (And.intro b1 (And.intro b2 (And.intro b3 (And.intro b4 b5))))) (And.intro bY bC)))
     have pa : wr.cell? ⟨w.heap.size + 4, 5, none⟩ = some (.int .u64 (r5 : Int)) := BW.cell 5
     have pf := BW.frozen 5
     clear hval hnew hml bY bC hc hc1 b0 b1 b2 b3 b4 b5
     go_wp2_with fail
     refine (cs _).mono ?_
     rintro e u ⟨rfl, rfl⟩
     go_wp2
     obtain ⟨hnew, ⟨b0, b1, b2, b3, b4, b5⟩, bY, bC⟩ := HN.out
     refine ⟨⟨(hb.setCell (by show w.heap.size ≤ w.heap.size + 4; omega) _), (BY.far (by show w.heap.size + 1 ≠ w.heap.size + 4; omega) _), (BL.far (by show w.heap.size + 2 ≠ w.heap.size + 4; omega) _), (BH.far (by show w.heap.size + 3 ≠ w.heap.size + 4; omega) _), Lib.hid (.inr (.inr (.inr (.inr (⟨rfl, r0, r1, r2, r3, r4, yy, cc, rfl, BW.set_ 5 _, ⟨b0, b1, b2, b3, b4, bY⟩, bC, hnew⟩)))))⟩, by decide⟩
    ·clear HI
     obtain ⟨r0, r1, r2, r3, r4, r5, c, rfl, BW, ⟨b0, b1, b2, b3, b4, b5⟩, hc, hval⟩ := X
     have HV := Lib.hid (And.intro hval hc)
     have HB := Lib.hid (And.intro b0 (And.intro b1 (And.intro b2 (And.intro b3 (And.intro b4 b5)))))
     have pa : wr.cell? ⟨w.heap.size + 4, 6, none⟩ = some (.int .u64 0) := BW.cell 6
     have pf := BW.frozen 6
     clear hval hc b0 b1 b2 b3 b4 b5
     go_wp2
     obtain ⟨b0, b1, b2, b3, b4, b5⟩ := HB.out
     refine ⟨⟨(hb.setCell (by show w.heap.size ≤ w.heap.size + 4; omega) _), (BY.far (by show w.heap.size + 1 ≠ w.heap.size + 4; omega) _), (BL.far (by show w.heap.size + 2 ≠ w.heap.size + 4; omega) _), (BH.far (by show w.heap.size + 3 ≠ w.heap.size + 4; omega) _), Lib.hid (.inr (.inr (.inr (.inl (⟨rfl, r0, r1, r2, r3, r4, r5, c, BW.set_ 6 _, ⟨b0, b1, b2, b3, b4, b5, HV.out.2⟩, by have := HV.out.1; simp only [v8P] at this ⊢; omega⟩)))))⟩, by decide⟩
  ·clear HI
   obtain ⟨r0, r1, r2, r3, r4, r5, r6, BW, hlt, hval⟩ := X
   have HL := Lib.hid (And.intro hlt hval)
   clear hlt hval
   go_wp2_with (first | ((with_reducible refine here_load (d := some 17) ?_); refine wpList_load_blk rfl _ _ rfl (w.heap.size + 1) rfl _ _ _ BY Tryz.underlying24 rfl (by kernel_rfl) ?_))
   obtain ⟨hlt, hval⟩ := HL.out
   go_loopw [9, 18] (fun cv j wr => Below w.heap.size w wr ∧ Blk wr (w.heap.size + 1) 24 #[.int .u64 (y0 : Int), .int .u64 (y1 : Int), .int .u64 (y2 : Int), .int .u64 (y3 : Int)] ∧ Blk wr (w.heap.size + 2) 24 #[.int .u64 0, .int .u64 0, .int .u64 0, .int .u64 0] ∧ Blk wr (w.heap.size + 3) 24 #[.int .u64 0, .int .u64 0, .int .u64 0, .int .u64 0] ∧ Hid ((j = .int .i64 0 ∧ ∃ r0 r1 r2 r3 r4 r5 r6 c : Nat, cv = .int .u64 (c : Int) ∧ Blk wr (w.heap.size + 4) 160 #[.int .u64 (r0 : Int), .int .u64 (r1 : Int), .int .u64 (r2 : Int), .int .u64 (r3 : Int), .int .u64 (r4 : Int), .int .u64 (r5 : Int), .int .u64 (r6 : Int), .int .u64 0] ∧ (r0 < 18446744073709551616 ∧ r1 < 18446744073709551616 ∧ r2 < 18446744073709551616 ∧ r3 < 18446744073709551616 ∧ r4 < 18446744073709551616 ∧ r5 < 18446744073709551616 ∧ r6 < 18446744073709551616) ∧ c = 0 ∧ v8P r0 r1 r2 r3 r4 r5 r6 0 + 6277101735386680763835789423207666416102355444464034512896 * c = 0 + 1 * t00 + 18446744073709551616 * t01 + 340282366920938463463374607431768211456 * t02 + 6277101735386680763835789423207666416102355444464034512896 * t03 + 18446744073709551616 * t10 + 340282366920938463463374607431768211456 * t11 + 6277101735386680763835789423207666416102355444464034512896 * t12 + 115792089237316195423570985008687907853269984665640564039457584007913129639936 * t13 + 340282366920938463463374607431768211456 * t20 + 6277101735386680763835789423207666416102355444464034512896 * t21 + 115792089237316195423570985008687907853269984665640564039457584007913129639936 * t22 + 2135987035920910082395021706169552114602704522356652769947041607822219725780640550022962086936576 * t23) ∨ (j = .int .i64 1 ∧ ∃ r0 r1 r2 r3 r4 r5 r6 c : Nat, cv = .int .u64 (c : Int) ∧ Blk wr (w.heap.size + 4) 160 #[.int .u64 (r0 : Int), .int .u64 (r1 : Int), .int .u64 (r2 : Int), .int .u64 (r3 : Int), .int .u64 (r4 : Int), .int .u64 (r5 : Int), .int .u64 (r6 : Int), .int .u64 0] ∧ (r0 < 18446744073709551616 ∧ r1 < 18446744073709551616 ∧ r2 < 18446744073709551616 ∧ r3 < 18446744073709551616 ∧ r4 < 18446744073709551616 ∧ r5 < 18446744073709551616 ∧ r6 < 18446744073709551616) ∧ c < 18446744073709551616 ∧ v8P r0 r1 r2 r3 r4 r5 r6 0 + 115792089237316195423570985008687907853269984665640564039457584007913129639936 * c = 0 + 1 * t00 + 18446744073709551616 * t01 + 340282366920938463463374607431768211456 * t02 + 6277101735386680763835789423207666416102355444464034512896 * t03 + 18446744073709551616 * t10 + 340282366920938463463374607431768211456 * t11 + 6277101735386680763835789423207666416102355444464034512896 * t12 + 115792089237316195423570985008687907853269984665640564039457584007913129639936 * t13 + 340282366920938463463374607431768211456 * t20 + 6277101735386680763835789423207666416102355444464034512896 * t21 + 115792089237316195423570985008687907853269984665640564039457584007913129639936 * t22 + 2135987035920910082395021706169552114602704522356652769947041607822219725780640550022962086936576 * t23 + 6277101735386680763835789423207666416102355444464034512896 * t30) ∨ (j = .int .i64 2 ∧ ∃ r0 r1 r2 r3 r4 r5 r6 c : Nat, cv = .int .u64 (c : Int) ∧ Blk wr (w.heap.size + 4) 160 #[.int .u64 (r0 : Int), .int .u64 (r1 : Int), .int .u64 (r2 : Int), .int .u64 (r3 : Int), .int .u64 (r4 : Int), .int .u64 (r5 : Int), .int .u64 (r6 : Int), .int .u64 0] ∧ (r0 < 18446744073709551616 ∧ r1 < 18446744073709551616 ∧ r2 < 18446744073709551616 ∧ r3 < 18446744073709551616 ∧ r4 < 18446744073709551616 ∧ r5 < 18446744073709551616 ∧ r6 < 18446744073709551616) ∧ c < 18446744073709551616 ∧ v8P r0 r1 r2 r3 r4 r5 r6 0 + 2135987035920910082395021706169552114602704522356652769947041607822219725780640550022962086936576 * c = 0 + 1 * t00 + 18446744073709551616 * t01 + 340282366920938463463374607431768211456 * t02 + 6277101735386680763835789423207666416102355444464034512896 * t03 + 18446744073709551616 * t10 + 340282366920938463463374607431768211456 * t11 + 6277101735386680763835789423207666416102355444464034512896 * t12 + 115792089237316195423570985008687907853269984665640564039457584007913129639936 * t13 + 340282366920938463463374607431768211456 * t20 + 6277101735386680763835789423207666416102355444464034512896 * t21 + 115792089237316195423570985008687907853269984665640564039457584007913129639936 * t22 + 2135987035920910082395021706169552114602704522356652769947041607822219725780640550022962086936576 * t23 + 6277101735386680763835789423207666416102355444464034512896 * t30 + 115792089237316195423570985008687907853269984665640564039457584007913129639936 * t31) ∨ (j = .int .i64 3 ∧ ∃ r0 r1 r2 r3 r4 r5 r6 c : Nat, cv = .int .u64 (c : Int) ∧ Blk wr (w.heap.size + 4) 160 #[.int .u64 (r0 : Int), .int .u64 (r1 : Int), .int .u64 (r2 : Int), .int .u64 (r3 : Int), .int .u64 (r4 : Int), .int .u64 (r5 : Int), .int .u64 (r6 : Int), .int .u64 0] ∧ (r0 < 18446744073709551616 ∧ r1 < 18446744073709551616 ∧ r2 < 18446744073709551616 ∧ r3 < 18446744073709551616 ∧ r4 < 18446744073709551616 ∧ r5 < 18446744073709551616 ∧ r6 < 18446744073709551616) ∧ c < 18446744073709551616 ∧ v8P r0 r1 r2 r3 r4 r5 r6 0 + 39402006196394479212279040100143613805079739270465446667948293404245721771497210611414266254884915640806627990306816 * c = 0 + 1 * t00 + 18446744073709551616 * t01 + 340282366920938463463374607431768211456 * t02 + 6277101735386680763835789423207666416102355444464034512896 * t03 + 18446744073709551616 * t10 + 340282366920938463463374607431768211456 * t11 + 6277101735386680763835789423207666416102355444464034512896 * t12 + 115792089237316195423570985008687907853269984665640564039457584007913129639936 * t13 + 340282366920938463463374607431768211456 * t20 + 6277101735386680763835789423207666416102355444464034512896 * t21 + 115792089237316195423570985008687907853269984665640564039457584007913129639936 * t22 + 2135987035920910082395021706169552114602704522356652769947041607822219725780640550022962086936576 * t23 + 6277101735386680763835789423207666416102355444464034512896 * t30 + 115792089237316195423570985008687907853269984665640564039457584007913129639936 * t31 + 2135987035920910082395021706169552114602704522356652769947041607822219725780640550022962086936576 * t32) ∨ (j = .int .i64 4 ∧ ∃ r0 r1 r2 r3 r4 r5 r6 c : Nat, cv = .int .u64 (c : Int) ∧ Blk wr (w.heap.size + 4) 160 #[.int .u64 (r0 : Int), .int .u64 (r1 : Int), .int .u64 (r2 : Int), .int .u64 (r3 : Int), .int .u64 (r4 : Int), .int .u64 (r5 : Int), .int .u64 (r6 : Int), .int .u64 0] ∧ (r0 < 18446744073709551616 ∧ r1 < 18446744073709551616 ∧ r2 < 18446744073709551616 ∧ r3 < 18446744073709551616 ∧ r4 < 18446744073709551616 ∧ r5 < 18446744073709551616 ∧ r6 < 18446744073709551616) ∧ c < 18446744073709551616 ∧ v8P r0 r1 r2 r3 r4 r5 r6 0 + 726838724295606890549323807888004534353641360687318060281490199180639288113397923326191050713763565560762521606266177933534601628614656 * c = 0 + 1 * t00 + 18446744073709551616 * t01 + 340282366920938463463374607431768211456 * t02 + 6277101735386680763835789423207666416102355444464034512896 * t03 + 18446744073709551616 * t10 + 340282366920938463463374607431768211456 * t11 + 6277101735386680763835789423207666416102355444464034512896 * t12 + 115792089237316195423570985008687907853269984665640564039457584007913129639936 * t13 + 340282366920938463463374607431768211456 * t20 + 6277101735386680763835789423207666416102355444464034512896 * t21 + 115792089237316195423570985008687907853269984665640564039457584007913129639936 * t22 + 2135987035920910082395021706169552114602704522356652769947041607822219725780640550022962086936576 * t23 + 6277101735386680763835789423207666416102355444464034512896 * t30 + 115792089237316195423570985008687907853269984665640564039457584007913129639936 * t31 + 2135987035920910082395021706169552114602704522356652769947041607822219725780640550022962086936576 * t32 + 39402006196394479212279040100143613805079739270465446667948293404245721771497210611414266254884915640806627990306816 * t33))) (fun _ j _ => 4 - (intOf j).toNat)
   case atStart => exact ⟨hb, BY, BL, BH, Lib.hid (.inl ⟨rfl, r0, r1, r2, r3, r4, r5, r6, 0, rfl, BW, hlt, rfl, by omega⟩)⟩
   case round =>
    clear hb BY BL BH BW hlt hval HL
    obtain ⟨hb, BY, BL, BH, HI⟩ := hrel
    rcases HI.out with ⟨rfl, X⟩ | ⟨rfl, X⟩ | ⟨rfl, X⟩ | ⟨rfl, X⟩ | ⟨rfl, X⟩
    ·clear HI
     obtain ⟨r0, r1, r2, r3, r4, r5, r6, c, rfl, BW, ⟨b0, b1, b2, b3, b4, b5, b6⟩, hc, hval⟩ := X
     have hc1 : c < 18446744073709551616 := by omega
     obtain ⟨yy, cc, bY, bC, hml⟩ := step_ex x3 y0 r3 c HT.out.1.2.2.2 HT.out.2.1.1 b3 hc1
     have cs := fun w => step_at w x3 y0 r3 c yy cc HT.out.1.2.2.2 HT.out.2.1.1 b3 hc1 bY hml
     rw [← HT.out.2.2.2.2.2.2.2.2.2.2.2.2.2.2.1] at hml
     have hnew : v8P r0 r1 r2 yy r4 r5 r6 0 + 115792089237316195423570985008687907853269984665640564039457584007913129639936 * cc = 0 + 1 * t00 + 18446744073709551616 * t01 + 340282366920938463463374607431768211456 * t02 + 6277101735386680763835789423207666416102355444464034512896 * t03 + 18446744073709551616 * t10 + 340282366920938463463374607431768211456 * t11 + 6277101735386680763835789423207666416102355444464034512896 * t12 + 115792089237316195423570985008687907853269984665640564039457584007913129639936 * t13 + 340282366920938463463374607431768211456 * t20 + 6277101735386680763835789423207666416102355444464034512896 * t21 + 115792089237316195423570985008687907853269984665640564039457584007913129639936 * t22 + 2135987035920910082395021706169552114602704522356652769947041607822219725780640550022962086936576 * t23 + 6277101735386680763835789423207666416102355444464034512896 * t30 := by
      simp only [v8P] at hval ⊢
      omega
     have HN := Lib.hid (And.intro hnew (And.intro (And.intro b0 (And.intro b1 (And.intro b2 (And.intro b3 (And.intro b4 (And.intro b5 b6)))))) (And.intro bY bC)))
     have pa : wr.cell? ⟨w.heap.size + 4, 3, none⟩ = some (.int .u64 (r3 : Int)) := BW.cell 3
     have pf := BW.frozen 3
     clear hval hnew hml bY bC hc hc1 b0 b1 b2 b3 b4 b5 b6
     go_wp2_with fail
     refine (cs _).mono ?_
     rintro e u ⟨rfl, rfl⟩
     go_wp2
     obtain ⟨hnew, ⟨b0, b1, b2, b3, b4, b5, b6⟩, bY, bC⟩ := HN.out
     refine ⟨⟨(hb.setCell (by show w.heap.size ≤ w.heap.size + 4; omega) _), (BY.far (by show w.heap.size + 1 ≠ w.heap.size + 4; omega) _), (BL.far (by show w.heap.size + 2 ≠ w.heap.size + 4; omega) _), (BH.far (by show w.heap.size + 3 ≠ w.heap.size + 4; omega) _), Lib.hid (.inr (.inl (⟨rfl, r0, r1, r2, yy, r4, r5, r6, cc, rfl, BW.set_ 3 _, ⟨b0, b1, b2, bY, b4, b5, b6⟩, bC, hnew⟩)))⟩, by decide⟩
    ·clear HI
     obtain ⟨r0, r1, r2, r3, r4, r5, r6, c, rfl, BW, ⟨b0, b1, b2, b3, b4, b5, b6⟩, hc, hval⟩ := X
     have hc1 : c < 18446744073709551616 := by omega
     obtain ⟨yy, cc, bY, bC, hml⟩ := step_ex x3 y1 r4 c HT.out.1.2.2.2 HT.out.2.1.2.1 b4 hc1
     have cs := fun w => step_at w x3 y1 r4 c yy cc HT.out.1.2.2.2 HT.out.2.1.2.1 b4 hc1 bY hml
     rw [← HT.out.2.2.2.2.2.2.2.2.2.2.2.2.2.2.2.1] at hml
     have hnew : v8P r0 r1 r2 r3 yy r5 r6 0 + 2135987035920910082395021706169552114602704522356652769947041607822219725780640550022962086936576 * cc = 0 + 1 * t00 + 18446744073709551616 * t01 + 340282366920938463463374607431768211456 * t02 + 6277101735386680763835789423207666416102355444464034512896 * t03 + 18446744073709551616 * t10 + 340282366920938463463374607431768211456 * t11 + 6277101735386680763835789423207666416102355444464034512896 * t12 + 115792089237316195423570985008687907853269984665640564039457584007913129639936 * t13 + 340282366920938463463374607431768211456 * t20 + 6277101735386680763835789423207666416102355444464034512896 * t21 + 115792089237316195423570985008687907853269984665640564039457584007913129639936 * t22 + 2135987035920910082395021706169552114602704522356652769947041607822219725780640550022962086936576 * t23 + 6277101735386680763835789423207666416102355444464034512896 * t30 + 115792089237316195423570985008687907853269984665640564039457584007913129639936 * t31 := by
      simp only [v8P] at hval ⊢
      omega
     have HN := Lib.hid (And.intro hnew (And.intro (And.intro b0 (And.intro b1 (And.intro b2 (And.intro b3 (And.intro b4 (And.intro b5 b6)))))) (And.intro bY bC)))
     have pa : wr.cell? ⟨w.heap.size + 4, 4, none⟩ = some (.int .u64 (r4 : Int)) := BW.cell 4
     have pf := BW.frozen 4
     clear hval hnew hml bY bC hc hc1 b0 b1 b2 b3 b4 b5 b6
     go_wp2_with fail
     refine (cs _).mono ?_
     rintro e u ⟨rfl, rfl⟩
     go_wp2
     obtain ⟨hnew, ⟨b0, b1, b2, b3, b4, b5, b6⟩, bY, bC⟩ := HN.out
     refine ⟨⟨(hb.setCell (by show w.heap.size ≤ w.heap.size + 4; omega) _), (BY.far (by show w.heap.size + 1 ≠ w.heap.size + 4; omega) _), (BL.far (by show w.heap.size + 2 ≠ w.heap.size + 4; omega) _), (BH.far (by show w.heap.size + 3 ≠ w.heap.size + 4; omega) _), Lib.hid (.inr (.inr (.inl (⟨rfl, r0, r1, r2, r3, yy, r5, r6, cc, rfl, BW.set_ 4 _, ⟨b0, b1, b2, b3, bY, b5, b6⟩, bC, hnew⟩))))⟩, by decide⟩
    ·clear HI
     obtain ⟨r0, r1, r2, r3, r4, r5, r6, c, rfl, BW, ⟨b0, b1, b2, b3, b4, b5, b6⟩, hc, hval⟩ := X
     have hc1 : c < 18446744073709551616 := by omega
     obtain ⟨yy, cc, bY, bC, hml⟩ := step_ex x3 y2 r5 c HT.out.1.2.2.2 HT.out.2.1.2.2.1 b5 hc1
     have cs := fun w => step_at w x3 y2 r5 c yy cc HT.out.1.2.2.2 HT.out.2.1.2.2.1 b5 hc1 bY hml
     rw [← HT.out.2.2.2.2.2.2.2.2.2.2.2.2.2.2.2.2.1] at hml
     have hnew : v8P r0 r1 r2 r3 r4 yy r6 0 + 39402006196394479212279040100143613805079739270465446667948293404245721771497210611414266254884915640806627990306816 * cc = 0 + 1 * t00 + 18446744073709551616 * t01 + 340282366920938463463374607431768211456 * t02 + 6277101735386680763835789423207666416102355444464034512896 * t03 + 18446744073709551616 * t10 + 340282366920938463463374607431768211456 * t11 + 6277101735386680763835789423207666416102355444464034512896 * t12 + 115792089237316195423570985008687907853269984665640564039457584007913129639936 * t13 + 340282366920938463463374607431768211456 * t20 + 6277101735386680763835789423207666416102355444464034512896 * t21 + 115792089237316195423570985008687907853269984665640564039457584007913129639936 * t22 + 2135987035920910082395021706169552114602704522356652769947041607822219725780640550022962086936576 * t23 + 6277101735386680763835789423207666416102355444464034512896 * t30 + 115792089237316195423570985008687907853269984665640564039457584007913129639936 * t31 + 2135987035920910082395021706169552114602704522356652769947041607822219725780640550022962086936576 * t32 := by
      simp only [v8P] at hval ⊢
      omega
     have HN := Lib.hid (And.intro hnew (And.intro (And.intro b0 (And.intro b1 (And.intro b2 (And.intro b3 (And.intro b4 (And.intro b5 b6)))))) (And.intro bY bC)))
     have pa : wr.cell? ⟨w.heap.size + 4, 5, none⟩ = some (.int .u64 (r5 : Int)) := BW.cell 5
     have pf := BW.frozen 5
     clear hval hnew hml bY bC hc hc1 b0 b1 b2 b3 b4 b5 b6
     go_wp2_with fail
     refine (cs _).mono ?_
     rintro e u ⟨rfl, rfl⟩
     go_wp2
     obtain ⟨hnew, ⟨b0, b1, b2, b3, b4, b5, b6⟩, bY, bC⟩ := HN.out
     refine ⟨⟨(hb.setCell (by show w.heap.size ≤ w.heap.size + 4; omega) _), (BY.far (by show w.heap.size + 1 ≠ w.heap.size + 4; omega) _), (BL.far (by show w.heap.size + 2 ≠ w.heap.size + 4; omega) _), (BH.far (by show w.heap.size + 3 ≠ w.heap.size + 4; omega) _), Lib.hid (.inr (.inr (.inr (.inl (⟨rfl, r0, r1, r2, r3, r4, yy, r6, cc, rfl, BW.set_ 5 _, ⟨b0, b1, b2, b3, b4, bY, b6⟩, bC, hnew⟩)))))⟩, by decide⟩
    ·clear HI
     obtain ⟨r0, r1, r2, r3, r4, r5, r6, c, rfl, BW, ⟨b0, b1, b2, b3, b4, b5, b6⟩, hc, hval⟩ := X
     have hc1 : c < 18446744073709551616 := by omega
     obtain ⟨yy, cc, bY, bC, hml⟩ := step_ex x3 y3 r6 c HT.out.1.2.2.2 HT.out.2.1.2.2.2 b6 hc1
     have cs := fun w => step_at w x3 y3 r6 c yy cc HT.out.1.2.2.2 HT.out.2.1.2.2.2 b6 hc1 bY hml
     rw [← HT.out.2.2.2.2.2.2.2.2.2.2.2.2.2.2.2.2.2.1] at hml
     have hnew : v8P r0 r1 r2 r3 r4 r5 yy 0 + 726838724295606890549323807888004534353641360687318060281490199180639288113397923326191050713763565560762521606266177933534601628614656 * cc = 0 + 1 * t00 + 18446744073709551616 * t01 + 340282366920938463463374607431768211456 * t02 + 6277101735386680763835789423207666416102355444464034512896 * t03 + 18446744073709551616 * t10 + 340282366920938463463374607431768211456 * t11 + 6277101735386680763835789423207666416102355444464034512896 * t12 + 115792089237316195423570985008687907853269984665640564039457584007913129639936 * t13 + 340282366920938463463374607431768211456 * t20 + 6277101735386680763835789423207666416102355444464034512896 * t21 + 115792089237316195423570985008687907853269984665640564039457584007913129639936 * t22 + 2135987035920910082395021706169552114602704522356652769947041607822219725780640550022962086936576 * t23 + 6277101735386680763835789423207666416102355444464034512896 * t30 + 115792089237316195423570985008687907853269984665640564039457584007913129639936 * t31 + 2135987035920910082395021706169552114602704522356652769947041607822219725780640550022962086936576 * t32 + 39402006196394479212279040100143613805079739270465446667948293404245721771497210611414266254884915640806627990306816 * t33 := by
      simp only [v8P] at hval ⊢
      omega
     have HN := Lib.hid (And.intro hnew (And.intro (And.intro b0 (And.intro b1 (And.intro b2 (And.intro b3 (And.intro b4 (And.intro b5 b6)))))) (And.intro bY bC)))
     have pa : wr.cell? ⟨w.heap.size + 4, 6, none⟩ = some (.int .u64 (r6 : Int)) := BW.cell 6
     have pf := BW.frozen 6
     clear hval hnew hml bY bC hc hc1 b0 b1 b2 b3 b4 b5 b6
     go_wp2_with fail
     refine (cs _).mono ?_
     rintro e u ⟨rfl, rfl⟩
     go_wp2
     obtain ⟨hnew, ⟨b0, b1, b2, b3, b4, b5, b6⟩, bY, bC⟩ := HN.out
     refine ⟨⟨(hb.setCell (by show w.heap.size ≤ w.heap.size + 4; omega) _), (BY.far (by show w.heap.size + 1 ≠ w.heap.size + 4; omega) _), (BL.far (by show w.heap.size + 2 ≠ w.heap.size + 4; omega) _), (BH.far (by show w.heap.size + 3 ≠ w.heap.size + 4; omega) _), Lib.hid (.inr (.inr (.inr (.inr (⟨rfl, r0, r1, r2, r3, r4, r5, yy, cc, rfl, BW.set_ 6 _, ⟨b0, b1, b2, b3, b4, b5, bY⟩, bC, hnew⟩)))))⟩, by decide⟩
    ·clear HI
     obtain ⟨r0, r1, r2, r3, r4, r5, r6, c, rfl, BW, ⟨b0, b1, b2, b3, b4, b5, b6⟩, hc, hval⟩ := X
     have HV := Lib.hid (And.intro hval hc)
     have HB := Lib.hid (And.intro b0 (And.intro b1 (And.intro b2 (And.intro b3 (And.intro b4 (And.intro b5 b6))))))
     have pa : wr.cell? ⟨w.heap.size + 4, 7, none⟩ = some (.int .u64 0) := BW.cell 7
     have pf := BW.frozen 7
     clear hval hc b0 b1 b2 b3 b4 b5 b6
     go_wp2
     obtain ⟨b0, b1, b2, b3, b4, b5, b6⟩ := HB.out
     refine ⟨⟨(hb.setCell (by show w.heap.size ≤ w.heap.size + 4; omega) _), (BY.far (by show w.heap.size + 1 ≠ w.heap.size + 4; omega) _), (BL.far (by show w.heap.size + 2 ≠ w.heap.size + 4; omega) _), (BH.far (by show w.heap.size + 3 ≠ w.heap.size + 4; omega) _), Lib.hid (.inr (.inr (.inr (.inr (⟨rfl, r0, r1, r2, r3, r4, r5, r6, c, BW.set_ 7 _, ⟨b0, b1, b2, b3, b4, b5, b6, HV.out.2⟩, by have := HV.out.1; simp only [v8P] at this ⊢; omega⟩)))))⟩, by decide⟩
  ·clear HI
   obtain ⟨r0, r1, r2, r3, r4, r5, r6, r7, BW, hlt, hval⟩ := X
   have cf := Lib.hid (cF r0 r1 r2 r3 r4 r5 r6 r7 hlt hval)
   have lW := BW.lt
   have q0 : wr.cell? ⟨w.heap.size + 4, 0, none⟩ = some (.int .u64 (r0 : Int)) := BW.cell 0
   have q1 : wr.cell? ⟨w.heap.size + 4, 1, none⟩ = some (.int .u64 (r1 : Int)) := BW.cell 1
   have q2 : wr.cell? ⟨w.heap.size + 4, 2, none⟩ = some (.int .u64 (r2 : Int)) := BW.cell 2
   have q3 : wr.cell? ⟨w.heap.size + 4, 3, none⟩ = some (.int .u64 (r3 : Int)) := BW.cell 3
   have q4 : wr.cell? ⟨w.heap.size + 4, 4, none⟩ = some (.int .u64 (r4 : Int)) := BW.cell 4
   have q5 : wr.cell? ⟨w.heap.size + 4, 5, none⟩ = some (.int .u64 (r5 : Int)) := BW.cell 5
   have q6 : wr.cell? ⟨w.heap.size + 4, 6, none⟩ = some (.int .u64 (r6 : Int)) := BW.cell 6
   have q7 : wr.cell? ⟨w.heap.size + 4, 7, none⟩ = some (.int .u64 (r7 : Int)) := BW.cell 7
   obtain ⟨V, hV⟩ : ∃ V : List (Nat × Obj), V = [(w.heap.size + 2, .cells #[.int .u64 (r0 : Int), .int .u64 (r1 : Int), .int .u64 (r2 : Int), .int .u64 (r3 : Int)] 24), (w.heap.size + 3, .cells #[.int .u64 (r4 : Int), .int .u64 (r5 : Int), .int .u64 (r6 : Int), .int .u64 (r7 : Int)] 24)] := ⟨_, rfl⟩
   have hf : V.all (fun x => x.1 != w.heap.size + 4) = true := by rw [hV]; simp
   have hm1 : (w.heap.size + 2, Obj.cells #[.int .u64 (r0 : Int), .int .u64 (r1 : Int), .int .u64 (r2 : Int), .int .u64 (r3 : Int)] 24) ∈ V := by rw [hV]; simp
   have hm2 : (w.heap.size + 3, Obj.cells #[.int .u64 (r4 : Int), .int .u64 (r5 : Int), .int .u64 (r6 : Int), .int .u64 (r7 : Int)] 24) ∈ V := by rw [hV]; simp
   have hv1 : ∀ o, (w.heap.size + 2, o) ∈ V → o = Obj.cells #[.int .u64 (r0 : Int), .int .u64 (r1 : Int), .int .u64 (r2 : Int), .int .u64 (r3 : Int)] 24 := by rw [hV]; intro o h; simpa using h
   have hv2 : ∀ o, (w.heap.size + 3, o) ∈ V → o = Obj.cells #[.int .u64 (r4 : Int), .int .u64 (r5 : Int), .int .u64 (r6 : Int), .int .u64 (r7 : Int)] 24 := by rw [hV]; intro o h; simpa using h
   have hs1 : ∀ o, (w.heap.size + 2, o) ∈ V → ∃ c : Array Value, o = .cells c 24 ∧ c.size = 4 := fun o h => ⟨_, hv1 o h, rfl⟩
   have hs2 : ∀ o, (w.heap.size + 3, o) ∈ V → ∃ c : Array Value, o = .cells c 24 ∧ c.size = 4 := fun o h => ⟨_, hv2 o h, rfl⟩
   have hbe : ∀ x ∈ V, w.heap.size ≤ x.1 := by rw [hV]; intro x h; simp at h; rcases h with rfl | rfl <;> simp
   clear cF hlt hval BY hV HT ix0 ix1 ix2 ix3 iy0 iy1 iy2 iy3 BW
   go_wp2
   refine wp_region_V V (by kernel_rfl) ?_
   try simp only [Act.put]
   refine wpAnyV_take 0 rfl (by kernel_rfl) (fun _ _ _ h => h) (YieldsV.pure (by rfl) (fun w9 _ => by go_simp; try with_reducible rfl)) ?_
   try simp only [Act.put, aA, aZ, aS]
   refine wpAnyV_take 1 rfl (by kernel_rfl) (fun _ _ _ h => h) (YieldsV.pure (v := .int .u64 (r0 : Int)) (by rfl) (fun w9 h9 => by have hz := (GrV.cell (p := ⟨w.heap.size + 4, 0, none⟩) h9 lW hf).trans q0; go_simp; first | done | simp [hz])) ?_
   try simp only [Act.put, aA, aZ, aS]
   refine wpAnyV_take 2 rfl (by kernel_rfl) (fun _ _ _ h => h) (YieldsV.pure (by rfl) (fun w9 _ => by go_simp; try with_reducible rfl)) ?_
   try simp only [Act.put, aA, aZ, aS]
   refine wpAnyV_take 3 rfl (by kernel_rfl) (fun _ _ _ h => h) (YieldsV.pure (v := .int .u64 (r1 : Int)) (by rfl) (fun w9 h9 => by have hz := (GrV.cell (p := ⟨w.heap.size + 4, 1, none⟩) h9 lW hf).trans q1; go_simp; first | done | simp [hz])) ?_
   try simp only [Act.put, aA, aZ, aS]
   refine wpAnyV_take 4 rfl (by kernel_rfl) (fun _ _ _ h => h) (YieldsV.pure (by rfl) (fun w9 _ => by go_simp; try with_reducible rfl)) ?_
   try simp only [Act.put, aA, aZ, aS]
   refine wpAnyV_take 5 rfl (by kernel_rfl) (fun _ _ _ h => h) (YieldsV.pure (v := .int .u64 (r2 : Int)) (by rfl) (fun w9 h9 => by have hz := (GrV.cell (p := ⟨w.heap.size + 4, 2, none⟩) h9 lW hf).trans q2; go_simp; first | done | simp [hz])) ?_
   try simp only [Act.put, aA, aZ, aS]
   refine wpAnyV_take 6 rfl (by kernel_rfl) (fun _ _ _ h => h) (YieldsV.pure (by rfl) (fun w9 _ => by go_simp; try with_reducible rfl)) ?_
   try simp only [Act.put, aA, aZ, aS]
   refine wpAnyV_take 7 rfl (by kernel_rfl) (fun _ _ _ h => h) (YieldsV.pure (v := .int .u64 (r3 : Int)) (by rfl) (fun w9 h9 => by have hz := (GrV.cell (p := ⟨w.heap.size + 4, 3, none⟩) h9 lW hf).trans q3; go_simp; first | done | simp [hz])) ?_
   try simp only [Act.put, aA, aZ, aS]
   refine wpAnyV_take 8 rfl (by kernel_rfl) (fun _ _ _ h => h) (YieldsV.pure (by rfl) (fun w9 _ => by go_simp; try with_reducible rfl)) ?_
   try simp only [Act.put, aA, aZ, aS]
   refine wpAnyV_take 9 rfl (by kernel_rfl) (fun _ _ _ h => h) (YieldsV.pure (by rfl) (fun w9 _ => by go_simp; try with_reducible rfl)) ?_
   try simp only [Act.put, aA, aZ, aS]
   refine wpAnyV_take 10 rfl (by kernel_rfl) (fun _ _ _ h => h) (YieldsV.pure (v := .int .u64 (r4 : Int)) (by rfl) (fun w9 h9 => by have hz := (GrV.cell (p := ⟨w.heap.size + 4, 4, none⟩) h9 lW hf).trans q4; go_simp; first | done | simp [hz])) ?_
   try simp only [Act.put, aA, aZ, aS]
   refine wpAnyV_take 11 rfl (by kernel_rfl) (fun _ _ _ h => h) (YieldsV.pure (by rfl) (fun w9 _ => by go_simp; try with_reducible rfl)) ?_
   try simp only [Act.put, aA, aZ, aS]
   refine wpAnyV_take 12 rfl (by kernel_rfl) (fun _ _ _ h => h) (YieldsV.pure (v := .int .u64 (r5 : Int)) (by rfl) (fun w9 h9 => by have hz := (GrV.cell (p := ⟨w.heap.size + 4, 5, none⟩) h9 lW hf).trans q5; go_simp; first | done | simp [hz])) ?_
   try simp only [Act.put, aA, aZ, aS]
   refine wpAnyV_take 13 rfl (by kernel_rfl) (fun _ _ _ h => h) (YieldsV.pure (by rfl) (fun w9 _ => by go_simp; try with_reducible rfl)) ?_
   try simp only [Act.put, aA, aZ, aS]
   refine wpAnyV_take 14 rfl (by kernel_rfl) (fun _ _ _ h => h) (YieldsV.pure (v := .int .u64 (r6 : Int)) (by rfl) (fun w9 h9 => by have hz := (GrV.cell (p := ⟨w.heap.size + 4, 6, none⟩) h9 lW hf).trans q6; go_simp; first | done | simp [hz])) ?_
   try simp only [Act.put, aA, aZ, aS]
   refine wpAnyV_take 15 rfl (by kernel_rfl) (fun _ _ _ h => h) (YieldsV.pure (by rfl) (fun w9 _ => by go_simp; try with_reducible rfl)) ?_
   try simp only [Act.put, aA, aZ, aS]
   refine wpAnyV_take 16 rfl (by kernel_rfl) (fun _ _ _ h => h) (YieldsV.pure (v := .int .u64 (r7 : Int)) (by rfl) (fun w9 h9 => by have hz := (GrV.cell (p := ⟨w.heap.size + 4, 7, none⟩) h9 lW hf).trans q7; go_simp; first | done | simp [hz])) ?_
   try simp only [Act.put, aA, aZ, aS]
   refine wpAnyV_take 17 rfl (by kernel_rfl) (fun _ _ _ h => h) (YieldsV.pure (by rfl) (fun w9 _ => by go_simp; try with_reducible rfl)) ?_
   try simp only [Act.put, aA, aZ, aS]
   refine wpAnyV_store 18 rfl (by kernel_rfl) (by rfl) _ _ _ rfl (w.heap.size + 2) (#[.int .u64 (r0 : Int), .int .u64 (r1 : Int), .int .u64 (r2 : Int), .int .u64 (r3 : Int)]) rfl rfl _ hm1 (fun w1 h1 => h1.some (n := 4) BL rfl hs1) (by kernel_rfl) (by simp [Value.oneCell']) (fun u1 g1 v1 hB1 hL1 => ?_)
   try simp only [Act.put]
   refine wpAnyV_store 19 rfl (by kernel_rfl) (by rfl) _ _ _ rfl (w.heap.size + 3) (#[.int .u64 (r4 : Int), .int .u64 (r5 : Int), .int .u64 (r6 : Int), .int .u64 (r7 : Int)]) rfl rfl _ hm2 (fun w1 h1 => ((g1.trans hB1).trans h1).some (n := 4) BH rfl hs2) (by kernel_rfl) (by simp [Value.oneCell']) (fun u2 g2 v2 hB2 hL2 => ?_)
   try simp only [Act.put]
   refine wpAnyV_done (by kernel_rfl) (fun v hv => ?_)
   have f1 := GrV.done ((g2.trans hB2).trans hv) hL1 hv1
   have f2 := hv.done hL2 hv2
   have hbz := hb.trans ((((g1.trans hB1).trans g2).trans hB2).trans hv |>.below hb.size hbe)
   clear hv g1 g2 hB1 hB2
   go_wp2
   exact bodyPost_ret (res_two_cells rfl _ _ (w.heap.size + 2) (w.heap.size + 3) _ _ _ _ _ _ rfl f1 rfl f2 Tryz.underlying24 rfl (by kernel_rfl) Tryz.underlying24 rfl (by kernel_rfl)) rfl ⟨by rw [cf.out.1, cf.out.2], hbz⟩
end Go.Proofs.YtbofhoonlmikcaaGreatDoor.Sc

end
section
namespace Go.Proofs.YtbofhoonlmikcaaGreatDoor.Sc
open Go.RowKit Go.Lib

theorem mul_step (s h l h' s' : Nat) (hl : l + 115792089237316195423570985008687907853269984665640564039457584007913129639936 * h' = h * 432420386565659656852420866394968145599) (hs : s' = addP s l) : (s' + 115792089237316195423570985008687907853269984665640564039457584007913129639936 * h') % pM = (s + 115792089237316195423570985008687907853269984665640564039457584007913129639936 * h) % pM := by
 rw [hs, addP, Nat.mod_add_mod]
 refine mod_of_mult (k := h) ?_
 omega
theorem fold_ex (h : Nat) (_ : h < 115792089237316195423570985008687907853269984665640564039457584007913129639936) : ∃ l h' : Nat, l < 115792089237316195423570985008687907853269984665640564039457584007913129639936 ∧ l + 115792089237316195423570985008687907853269984665640564039457584007913129639936 * h' = h * 432420386565659656852420866394968145599 := ⟨h * 432420386565659656852420866394968145599 % 115792089237316195423570985008687907853269984665640564039457584007913129639936, h * 432420386565659656852420866394968145599 / 115792089237316195423570985008687907853269984665640564039457584007913129639936, by omega, by omega⟩
theorem gap_at (w : World) (g : Nat) (hg : g = 432420386565659656852420866394968145599) : Calls Tryz.prog 136 #[] w fun e w' => e = .returned (fv g) ∧ Below w.heap.size w w' := by
 subst hg; exact gap_any w

set_option maxHeartbeats 8000000 in
set_option maxRecDepth 100000 in
theorem mulF_any (w : World) (x y : Nat) (hx : x < 115792089237316195423570985008687907853269984665640564039457584007913129639936) (hy : y < 115792089237316195423570985008687907853269984665640564039457584007913129639936) : Calls Tryz.prog 84 #[fv x, fv y] w fun e w' => e = .returned (fv (mulP x y)) ∧ Below w.heap.size w w' := by
 have hxy : x * y ≤ 115792089237316195423570985008687907853269984665640564039457584007913129639935 * 115792089237316195423570985008687907853269984665640564039457584007913129639935 := Nat.mul_le_mul (by omega) (by omega)
 obtain ⟨s0, h0, ls0, lh0, e0⟩ : ∃ lo hi : Nat, lo < 115792089237316195423570985008687907853269984665640564039457584007913129639936 ∧ hi < 115792089237316195423570985008687907853269984665640564039457584007913129639936 ∧ lo + 115792089237316195423570985008687907853269984665640564039457584007913129639936 * hi = x * y := ⟨x * y % 115792089237316195423570985008687907853269984665640564039457584007913129639936, x * y / 115792089237316195423570985008687907853269984665640564039457584007913129639936, by omega, by omega, by omega⟩
 obtain ⟨l1, h1, ll1, e1⟩ := fold_ex h0 lh0
 have lh1 : h1 ≤ 432420386565659656852420866394968145599 := by omega
 obtain ⟨l2, h2, ll2, e2⟩ := fold_ex h1 (by omega)
 have lh2 : h2 ≤ 2 := by omega
 obtain ⟨l3, h3, ll3, e3⟩ := fold_ex h2 (by omega)
 have lh3 : h3 = 0 := by omega
 obtain ⟨s1, hs1⟩ : ∃ s, s = addP s0 l1 := ⟨_, rfl⟩
 obtain ⟨s2, hs2⟩ : ∃ s, s = addP s1 l2 := ⟨_, rfl⟩
 obtain ⟨s3, hs3⟩ : ∃ s, s = addP s2 l3 := ⟨_, rfl⟩
 have ls1 : s1 < 115792089237316195423570985008687907853269984665640564039457584007913129639936 := by rw [hs1]; exact addP_lt _ _
 have ls2 : s2 < 115792089237316195423570985008687907853269984665640564039457584007913129639936 := by rw [hs2]; exact addP_lt _ _
 have hfin : mulP x y = s3 := by
  have q1 := mul_step s0 h0 l1 h1 s1 e1 hs1
  have q2 := mul_step s1 h1 l2 h2 s2 e2 hs2
  have q3 := mul_step s2 h2 l3 h3 s3 e3 hs3
  rw [q2, q1, e0, lh3, Nat.mul_zero, Nat.add_zero] at q3
  have : s3 % pM = s3 := by rw [hs3, addP, Nat.mod_mod]
  rw [mulP, ← q3, this]
 obtain ⟨g, hg⟩ : ∃ g, g = 432420386565659656852420866394968145599 := ⟨_, rfl⟩
 have cg := fun w => gap_at w g hg
 have cp := fun w => product_any w x y s0 h0 hx hy ls0 lh0 e0
 have p1 := fun w => product_any w h0 g l1 h1 lh0 (by omega) ll1 (by omega) (by rw [hg]; exact e1)
 have p2 := fun w => product_any w h1 g l2 h2 (by omega) (by omega) ll2 (by omega) (by rw [hg]; exact e2)
 have p3 := fun w => product_any w h2 g l3 h3 (by omega) (by omega) ll3 (by omega) (by rw [hg]; exact e3)
 have c1 : ∀ w, Calls Tryz.prog 83 #[fv s0, fv l1] w fun e w' => e = .returned (fv s1) ∧ Below w.heap.size w w' := by
  intro w; rw [hs1]; exact addF_any w s0 l1 ls0 ll1
 have c2 : ∀ w, Calls Tryz.prog 83 #[fv s1, fv l2] w fun e w' => e = .returned (fv s2) ∧ Below w.heap.size w w' := by
  intro w; rw [hs2]; exact addF_any w s1 l2 ls1 ll2
 have c3 : ∀ w, Calls Tryz.prog 83 #[fv s2, fv l3] w fun e w' => e = .returned (fv s3) ∧ Below w.heap.size w w' := by
  intro w; rw [hs3]; exact addF_any w s2 l3 ls2 ll3
 rw [hfin]
 obtain ⟨x0, x1, x2, x3, fx⟩ := words_fv x hx
 obtain ⟨y0, y1, y2, y3, fy⟩ := words_fv y hy
 have FX := Lib.hid fx
 have FY := Lib.hid fy
 rw [fx, fy]
 clear fx fy hx hy hxy ls0 lh0 e0 ll1 e1 lh1 ll2 e2 lh2 ll3 e3 lh3 hs1 hs2 hs3 ls1 ls2 hfin hg
 go_enter Tryz.func84, Tryz.ntmps84
 go_wp2_with (first | ((with_reducible refine here_load (d := some 9) ?_); refine wpList_load_fv rfl _ _ rfl (w.heap.size) rfl (x) _ _ _ (((Blk.new w _ _).alloc _).alloc _) (FX.out) Tryz.underlying24 rfl (by kernel_rfl) ?_) | ((with_reducible refine here_load (d := some 10) ?_); refine wpList_load_fv rfl _ _ rfl (w.heap.size + 1) rfl (y) _ _ _ ((blk_new2 w _ _ _).alloc _) (FY.out) Tryz.underlying24 rfl (by kernel_rfl) ?_))
 refine (cp _).mono ?_
 rintro e w1 ⟨rfl, k1⟩
 have BR : Blk w1 (w.heap.size + 2) 24 _ := Gr.blk k1 (blk_new3 w _ _ _ _)
 have hB := Below.gr (below_alloc3 w _ _ _) k1
 have sz : w.heap.size + 2 < w1.heap.size := BR.lt
 clear k1 cp
 go_wp2_with (first | ((with_reducible refine here_store ?_); refine wpList_store_blk rfl _ _ _ rfl (w1.heap.size) (fcs (s0)) rfl rfl _ _ ((Blk.new w1 _ _).alloc _) (by kernel_rfl) (by rfl) (fcs_one _) ?_; intro w2 hL2 hB2' hK2; have CR2 := hK2 _ (by omega) _ _ ((BR.alloc _).alloc _); have CH2 := hK2 _ (by omega) _ _ (blk_new2 w1 _ _ _); have hB2 := ((hB.alloc (by omega) _).alloc (by simp <;> omega) _).trans (hB2' _ (by omega))) | ((with_reducible refine here_store ?_); refine wpList_store_blk rfl _ _ _ rfl (w1.heap.size + 1) (fcs (h0)) rfl rfl _ _ (CH2) (by kernel_rfl) (by rfl) (fcs_one _) ?_; intro w3 hL3 hB3' hK3; have CR3 := hK3 _ (by omega) _ _ CR2; have CS3 := hK3 _ (by omega) _ _ hL2; have hB3 := hB2.trans (hB3' _ (by omega))))
 go_loopw [14] (fun i wr => Below w.heap.size w wr ∧ Blk wr (w.heap.size + 2) 24 #[.int .u64 0, .int .u64 0, .int .u64 0, .int .u64 0] ∧ Hid ((i = .int .i64 0 ∧ Blk wr w1.heap.size 24 (fcs s0) ∧ Blk wr (w1.heap.size + 1) 24 (fcs h0)) ∨ (i = .int .i64 1 ∧ Blk wr w1.heap.size 24 (fcs s1) ∧ Blk wr (w1.heap.size + 1) 24 (fcs h1)) ∨ (i = .int .i64 2 ∧ Blk wr w1.heap.size 24 (fcs s2) ∧ Blk wr (w1.heap.size + 1) 24 (fcs h2)) ∨ (i = .int .i64 3 ∧ Blk wr w1.heap.size 24 (fcs s3) ∧ Blk wr (w1.heap.size + 1) 24 (fcs h3)))) (fun i _ => 3 - (intOf i).toNat)
 case atStart => exact ⟨hB3, CR3, Lib.hid (.inl ⟨rfl, CS3, hL3⟩)⟩
 case round =>
  obtain ⟨hb, CR, HI⟩ := hrel
  rcases HI.out with ⟨rfl, BS, BH⟩ | ⟨rfl, BS, BH⟩ | ⟨rfl, BS, BH⟩ | ⟨rfl, BS, BH⟩
  ·clear HI
   have szr : w1.heap.size + 1 < wr.heap.size := BH.lt
   go_wp2
   refine wp_region_G (fun j => j == 6 || j == 7) (by kernel_rfl) ?_
   try simp only [Act.put]
   refine tkw 0 rfl (YieldsG.loadF (by rfl) _ _ rfl (w1.heap.size + 1) rfl (h0) _ _ (BH.alloc _) (fv_fcs _) Tryz.underlying24 rfl (by kernel_rfl)) ?_
   try simp only [Act.put, aA, aZ, aS]
   refine tkw 1 rfl (YieldsG.call (v := fv g) (by rfl) 136 _ (fun w9 => by go_simp; try (first | with_reducible rfl | rfl)) (fun w9 h9 => cg w9)) ?_
   try simp only [Act.put, aA, aZ, aS]
   refine tkw 2 rfl (YieldsG.call (v := .tuple #[fv l1, fv h1]) (by rfl) 135 _ (fun w9 => by go_simp; try (first | with_reducible rfl | rfl)) (fun w9 h9 => p1 w9)) ?_
   try simp only [Act.put, aA, aZ, aS]
   refine tk 3 rfl ?_
   try simp only [Act.put, aA, aZ, aS]
   refine tk 4 rfl ?_
   try simp only [Act.put, aA, aZ, aS]
   refine wpAnyG_takeA 5 rfl (by kernel_rfl) (fun _ _ _ h => h) (fun _ => YieldsG.pure (by rfl) (fun w9 _ => by go_simp; try with_reducible rfl)) ?_
   try simp only [Act.put, aA, aZ, aS]
   refine wpAnyG_storeK 6 rfl (by kernel_rfl) (by rfl) _ _ _ rfl (wr.heap.size) (fcs l1) rfl rfl _ _ (Blk.new wr _ _) (by kernel_rfl) (by rfl) (fcs_one _) rfl (fun u1 g1 v1 hB1 hK1 hL1 => ?_)
   try simp only [Act.put]
   have BH1 := hK1 _ (by omega) _ _ (Gr.blk g1 (BH.alloc _))
   have BS1 := hK1 _ (by omega) _ _ (Gr.blk g1 (BS.alloc _))
   have CR1 := hK1 _ (by omega) _ _ (Gr.blk g1 (CR.alloc _))
   have hb1 := (Below.gr (hb.alloc (by omega) _) g1).trans (hB1 _ (by omega))
   refine wpAnyG_storeK 7 rfl (by kernel_rfl) (by rfl) _ _ _ rfl (w1.heap.size + 1) (fcs h1) rfl rfl _ _ (BH1) (by kernel_rfl) (by rfl) (fcs_one _) rfl (fun u2 g2 v2 hB2 hK2 hL2 => ?_)
   try simp only [Act.put]
   have BL2 := hK2 _ (by omega) _ _ (Gr.blk g2 hL1)
   have BS2 := hK2 _ (by omega) _ _ (Gr.blk g2 BS1)
   have CR2 := hK2 _ (by omega) _ _ (Gr.blk g2 CR1)
   have hb2 := (Below.gr hb1 g2).trans (hB2 _ (by omega))
   refine wpAnyG_done (by kernel_rfl) (fun v hv => ?_)
   have DH := Gr.blk hv hL2
   have DL := Gr.blk hv BL2
   have DS := Gr.blk hv BS2
   have DR := Gr.blk hv CR2
   have hbv := Below.gr hb2 hv
   clear hv g1 g2 BH1 BS1 CR1 hb1 BL2 BS2 CR2 hb2 hL1 hL2 hB1 hB2 hK1 hK2
   go_wp2_with (first | ((with_reducible refine here_load (d := some 22) ?_); refine wpList_load_fv rfl _ _ rfl (w1.heap.size) rfl (s0) _ _ _ (DS) (fv_fcs _) Tryz.underlying24 rfl (by kernel_rfl) ?_) | ((with_reducible refine here_load (d := some 23) ?_); refine wpList_load_fv rfl _ _ rfl (wr.heap.size) rfl (l1) _ _ _ (DL) (fv_fcs _) Tryz.underlying24 rfl (by kernel_rfl) ?_))
   refine (c1 _).mono ?_
   rintro e y1 ⟨rfl, k1⟩
   have EH := Gr.blk k1 DH
   have ES := Gr.blk k1 DS
   have ER := Gr.blk k1 DR
   have hby := Below.gr hbv k1
   clear k1
   go_wp2_with (first | ((with_reducible refine here_store ?_); refine wpList_store_blk rfl _ _ _ rfl (w1.heap.size) (fcs (s1)) rfl rfl _ _ (ES) (by kernel_rfl) (by rfl) (fcs_one _) ?_; intro y2 hLy hBy hKy))
   exact ⟨⟨hby.trans (hBy _ (by omega)), hKy _ (by omega) _ _ ER, Lib.hid (.inr (.inl (⟨rfl, hLy, hKy _ (by omega) _ _ EH⟩)))⟩, by decide⟩
  ·clear HI
   have szr : w1.heap.size + 1 < wr.heap.size := BH.lt
   go_wp2
   refine wp_region_G (fun j => j == 6 || j == 7) (by kernel_rfl) ?_
   try simp only [Act.put]
   refine tkw 0 rfl (YieldsG.loadF (by rfl) _ _ rfl (w1.heap.size + 1) rfl (h1) _ _ (BH.alloc _) (fv_fcs _) Tryz.underlying24 rfl (by kernel_rfl)) ?_
   try simp only [Act.put, aA, aZ, aS]
   refine tkw 1 rfl (YieldsG.call (v := fv g) (by rfl) 136 _ (fun w9 => by go_simp; try (first | with_reducible rfl | rfl)) (fun w9 h9 => cg w9)) ?_
   try simp only [Act.put, aA, aZ, aS]
   refine tkw 2 rfl (YieldsG.call (v := .tuple #[fv l2, fv h2]) (by rfl) 135 _ (fun w9 => by go_simp; try (first | with_reducible rfl | rfl)) (fun w9 h9 => p2 w9)) ?_
   try simp only [Act.put, aA, aZ, aS]
   refine tk 3 rfl ?_
   try simp only [Act.put, aA, aZ, aS]
   refine tk 4 rfl ?_
   try simp only [Act.put, aA, aZ, aS]
   refine wpAnyG_takeA 5 rfl (by kernel_rfl) (fun _ _ _ h => h) (fun _ => YieldsG.pure (by rfl) (fun w9 _ => by go_simp; try with_reducible rfl)) ?_
   try simp only [Act.put, aA, aZ, aS]
   refine wpAnyG_storeK 6 rfl (by kernel_rfl) (by rfl) _ _ _ rfl (wr.heap.size) (fcs l2) rfl rfl _ _ (Blk.new wr _ _) (by kernel_rfl) (by rfl) (fcs_one _) rfl (fun u1 g1 v1 hB1 hK1 hL1 => ?_)
   try simp only [Act.put]
   have BH1 := hK1 _ (by omega) _ _ (Gr.blk g1 (BH.alloc _))
   have BS1 := hK1 _ (by omega) _ _ (Gr.blk g1 (BS.alloc _))
   have CR1 := hK1 _ (by omega) _ _ (Gr.blk g1 (CR.alloc _))
   have hb1 := (Below.gr (hb.alloc (by omega) _) g1).trans (hB1 _ (by omega))
   refine wpAnyG_storeK 7 rfl (by kernel_rfl) (by rfl) _ _ _ rfl (w1.heap.size + 1) (fcs h2) rfl rfl _ _ (BH1) (by kernel_rfl) (by rfl) (fcs_one _) rfl (fun u2 g2 v2 hB2 hK2 hL2 => ?_)
   try simp only [Act.put]
   have BL2 := hK2 _ (by omega) _ _ (Gr.blk g2 hL1)
   have BS2 := hK2 _ (by omega) _ _ (Gr.blk g2 BS1)
   have CR2 := hK2 _ (by omega) _ _ (Gr.blk g2 CR1)
   have hb2 := (Below.gr hb1 g2).trans (hB2 _ (by omega))
   refine wpAnyG_done (by kernel_rfl) (fun v hv => ?_)
   have DH := Gr.blk hv hL2
   have DL := Gr.blk hv BL2
   have DS := Gr.blk hv BS2
   have DR := Gr.blk hv CR2
   have hbv := Below.gr hb2 hv
   clear hv g1 g2 BH1 BS1 CR1 hb1 BL2 BS2 CR2 hb2 hL1 hL2 hB1 hB2 hK1 hK2
   go_wp2_with (first | ((with_reducible refine here_load (d := some 22) ?_); refine wpList_load_fv rfl _ _ rfl (w1.heap.size) rfl (s1) _ _ _ (DS) (fv_fcs _) Tryz.underlying24 rfl (by kernel_rfl) ?_) | ((with_reducible refine here_load (d := some 23) ?_); refine wpList_load_fv rfl _ _ rfl (wr.heap.size) rfl (l2) _ _ _ (DL) (fv_fcs _) Tryz.underlying24 rfl (by kernel_rfl) ?_))
   refine (c2 _).mono ?_
   rintro e y1 ⟨rfl, k1⟩
   have EH := Gr.blk k1 DH
   have ES := Gr.blk k1 DS
   have ER := Gr.blk k1 DR
   have hby := Below.gr hbv k1
   clear k1
   go_wp2_with (first | ((with_reducible refine here_store ?_); refine wpList_store_blk rfl _ _ _ rfl (w1.heap.size) (fcs (s2)) rfl rfl _ _ (ES) (by kernel_rfl) (by rfl) (fcs_one _) ?_; intro y2 hLy hBy hKy))
   exact ⟨⟨hby.trans (hBy _ (by omega)), hKy _ (by omega) _ _ ER, Lib.hid (.inr (.inr (.inl (⟨rfl, hLy, hKy _ (by omega) _ _ EH⟩))))⟩, by decide⟩
  ·clear HI
   have szr : w1.heap.size + 1 < wr.heap.size := BH.lt
   go_wp2
   refine wp_region_G (fun j => j == 6 || j == 7) (by kernel_rfl) ?_
   try simp only [Act.put]
   refine tkw 0 rfl (YieldsG.loadF (by rfl) _ _ rfl (w1.heap.size + 1) rfl (h2) _ _ (BH.alloc _) (fv_fcs _) Tryz.underlying24 rfl (by kernel_rfl)) ?_
   try simp only [Act.put, aA, aZ, aS]
   refine tkw 1 rfl (YieldsG.call (v := fv g) (by rfl) 136 _ (fun w9 => by go_simp; try (first | with_reducible rfl | rfl)) (fun w9 h9 => cg w9)) ?_
   try simp only [Act.put, aA, aZ, aS]
   refine tkw 2 rfl (YieldsG.call (v := .tuple #[fv l3, fv h3]) (by rfl) 135 _ (fun w9 => by go_simp; try (first | with_reducible rfl | rfl)) (fun w9 h9 => p3 w9)) ?_
   try simp only [Act.put, aA, aZ, aS]
   refine tk 3 rfl ?_
   try simp only [Act.put, aA, aZ, aS]
   refine tk 4 rfl ?_
   try simp only [Act.put, aA, aZ, aS]
   refine wpAnyG_takeA 5 rfl (by kernel_rfl) (fun _ _ _ h => h) (fun _ => YieldsG.pure (by rfl) (fun w9 _ => by go_simp; try with_reducible rfl)) ?_
   try simp only [Act.put, aA, aZ, aS]
   refine wpAnyG_storeK 6 rfl (by kernel_rfl) (by rfl) _ _ _ rfl (wr.heap.size) (fcs l3) rfl rfl _ _ (Blk.new wr _ _) (by kernel_rfl) (by rfl) (fcs_one _) rfl (fun u1 g1 v1 hB1 hK1 hL1 => ?_)
   try simp only [Act.put]
   have BH1 := hK1 _ (by omega) _ _ (Gr.blk g1 (BH.alloc _))
   have BS1 := hK1 _ (by omega) _ _ (Gr.blk g1 (BS.alloc _))
   have CR1 := hK1 _ (by omega) _ _ (Gr.blk g1 (CR.alloc _))
   have hb1 := (Below.gr (hb.alloc (by omega) _) g1).trans (hB1 _ (by omega))
   refine wpAnyG_storeK 7 rfl (by kernel_rfl) (by rfl) _ _ _ rfl (w1.heap.size + 1) (fcs h3) rfl rfl _ _ (BH1) (by kernel_rfl) (by rfl) (fcs_one _) rfl (fun u2 g2 v2 hB2 hK2 hL2 => ?_)
   try simp only [Act.put]
   have BL2 := hK2 _ (by omega) _ _ (Gr.blk g2 hL1)
   have BS2 := hK2 _ (by omega) _ _ (Gr.blk g2 BS1)
   have CR2 := hK2 _ (by omega) _ _ (Gr.blk g2 CR1)
   have hb2 := (Below.gr hb1 g2).trans (hB2 _ (by omega))
   refine wpAnyG_done (by kernel_rfl) (fun v hv => ?_)
   have DH := Gr.blk hv hL2
   have DL := Gr.blk hv BL2
   have DS := Gr.blk hv BS2
   have DR := Gr.blk hv CR2
   have hbv := Below.gr hb2 hv
   clear hv g1 g2 BH1 BS1 CR1 hb1 BL2 BS2 CR2 hb2 hL1 hL2 hB1 hB2 hK1 hK2
   go_wp2_with (first | ((with_reducible refine here_load (d := some 22) ?_); refine wpList_load_fv rfl _ _ rfl (w1.heap.size) rfl (s2) _ _ _ (DS) (fv_fcs _) Tryz.underlying24 rfl (by kernel_rfl) ?_) | ((with_reducible refine here_load (d := some 23) ?_); refine wpList_load_fv rfl _ _ rfl (wr.heap.size) rfl (l3) _ _ _ (DL) (fv_fcs _) Tryz.underlying24 rfl (by kernel_rfl) ?_))
   refine (c3 _).mono ?_
   rintro e y1 ⟨rfl, k1⟩
   have EH := Gr.blk k1 DH
   have ES := Gr.blk k1 DS
   have ER := Gr.blk k1 DR
   have hby := Below.gr hbv k1
   clear k1
   go_wp2_with (first | ((with_reducible refine here_store ?_); refine wpList_store_blk rfl _ _ _ rfl (w1.heap.size) (fcs (s3)) rfl rfl _ _ (ES) (by kernel_rfl) (by rfl) (fcs_one _) ?_; intro y2 hLy hBy hKy))
   exact ⟨⟨hby.trans (hBy _ (by omega)), hKy _ (by omega) _ _ ER, Lib.hid (.inr (.inr (.inr (⟨rfl, hLy, hKy _ (by omega) _ _ EH⟩))))⟩, by decide⟩
  ·clear HI
   go_wp2_with (first | ((with_reducible refine here_load (d := some 26) ?_); refine wpList_load_fv rfl _ _ rfl (w1.heap.size) rfl (s3) _ _ _ (BS) (fv_fcs _) Tryz.underlying24 rfl (by kernel_rfl) ?_) | ((with_reducible refine here_store ?_); refine wpList_store_blk rfl _ _ _ rfl (w.heap.size + 2) (fcs (s3)) rfl rfl _ _ (CR) (by kernel_rfl) (by rfl) (fcs_one _) ?_; intro w9 hL9 hB9 hK9))
   exact bodyPost_ret (results_cell_row rfl _ _ (w.heap.size + 2) _ _ (0, 0) _ rfl hL9 Tryz.underlying24 rfl (by kernel_rfl)) rfl ⟨rfl, hb.trans (hB9 _ (by omega))⟩
end Go.Proofs.YtbofhoonlmikcaaGreatDoor.Sc

end
section
namespace Go.Proofs.YtbofhoonlmikcaaGreatDoor.Sh
open Go.RowKit Sp

set_option maxHeartbeats 2000000 in
set_option maxRecDepth 100000 in
theorem grow_nil (w : World) (n : Nat) (h0 : 0 < n) (hn : n ≤ 1000000) :
    Calls Tryz.prog 137 #[.slice none 0 0, .int .i64 n] w fun e w' => ∃ v, e = .returned v ∧ OwnB w' w.heap.size v [] ∧ Below w.heap.size w w' := by
  obtain ⟨i, hi, hz0, hz1, hz2⟩ := info_parts infoByte
  have q0 : (0 : Int) < (n : Int) := by omega
  have q1 : (n : Int) ≤ 1000000 := by omega
  have hrun : ∀ ty, (Builtin.append_ #[25, 3] ty #[.slice none 0 0, .int .i64 n]).run Tryz.prog w = _ := fun ty =>
    Lib.run_append_nil_zeros w 25 3 ty 5 i (.int .u8 0) .i64 .i64 Tryz.underlying25 Tryz.underlying3 hi hz0 n h0 (by omega) (by omega) (by rw [hz2]; omega)
  have HI := Lib.hid hrun
  clear hrun hi hz0 hz1 hz2
  have hcap := grownCap_ge w n 0 5
  have hcap2 : grownCap w n 0 5 ≤ 9223372036854775807 := by have := grownCap_le_maxLen w n 0 5 (by simp [maxLen]; omega); simpa [maxLen] using this
  obtain ⟨c, hc⟩ : ∃ c, c = grownCap w n 0 5 := ⟨_, rfl⟩
  rw [← hc] at hcap hcap2
  have HCc := Lib.hid hc
  clear hc
  go_enter Tryz.func137, Tryz.ntmps137
  go_wp2_with (at_builtin; refine Lib.wpList_append_run _ rfl _ _ _ _ rfl _ _ rfl rfl _ _ (HI.out _) ?_)
  rw [← HCc.out]
  go_wp2
  go_ret
  refine ⟨_, rfl, ?_, ?_⟩
  · have h := World.ownsRow_made (base := w.heap.size) (e := 5) (size := 1) w.drew (Builtin.zeroCells (Value.int .u8 0).cells n ++ Builtin.zeroCells (Value.int .u8 0).cells (c - n)) c (by simp) (by simpa [maxLen] using hcap2) (by simp [size_zeroCells, Value.cells]; omega)
    exact h
  · exact ((Below.refl _ _).drew).alloc (Nat.le_refl _) _

set_option maxHeartbeats 4000000 in
set_option maxRecDepth 100000 in
theorem concat_any (w : World) (T : Option Addr) (ts : List Tx) (ct : Nat) (hT : Texts w T ts) (h0 : 0 < (cat ts).length) (hm : (cat ts).length ≤ 1000000) (hn : ts.length ≤ 1000000) :
    Calls Tryz.prog 85 #[.slice T ts.length ct] w fun e w' => ∃ v, e = .returned v ∧ OwnB w' w.heap.size v (cat ts) ∧ Below w.heap.size w w' := by
  have HT := Lib.hid hT
  clear hT
  obtain ⟨M, hM⟩ : ∃ M, M = (cat ts).length := ⟨_, rfl⟩
  rw [← hM] at h0 hm
  have HM := Lib.hid hM
  clear hM
  have q0 : (0 : Int) < (M : Int) := by omega
  have q1 : (M : Int) ≤ 1000000 := by omega
  go_enter Tryz.func85, Tryz.ntmps85
  go_wp2
  go_loopw [3, 11] (fun s i wr => ∃ k z : Nat, k ≤ ts.length ∧ i = .int .i64 k ∧ s = .int .i64 z ∧ z = (cat (ts.take k)).length ∧ wr = w)
    (fun _ i _ => ts.length - (intOf i).toNat)
  case atStart => exact ⟨0, 0, Nat.zero_le _, rfl, rfl, rfl, rfl⟩
  case round =>
    obtain ⟨k, z, hk, rfl, rfl, hz, hw⟩ := hrel
    have hw' := hw.symm
    clear hw
    subst hw'
    have hzM : z ≤ M := by rw [hz, HM.out]; exact cat_le ts k
    have HZ := Lib.hid hz
    clear hz
    by_cases hlt : k < ts.length
    · obtain ⟨x, hx⟩ : ∃ x, ts[k]? = some x := ⟨ts[k], List.getElem?_eq_getElem hlt⟩
      obtain ⟨b, o, rfl, hbl, htx⟩ := HT.out (fun e => by rw [e] at hlt; exact absurd hlt (Nat.not_lt_zero _))
      have hc : w.cell? ⟨b, o + k, none⟩ = some (.slice x.A x.l.length x.c) := (htx k x hx).1
      obtain ⟨L, hL⟩ : ∃ L, L = x.l.length := ⟨_, rfl⟩
      rw [← hL] at hc
      have hlx : z + L ≤ M := by rw [HZ.out, HM.out, hL]; exact cat_next ts k x hx
      have q2 : (0 : Int) ≤ (z : Int) := by omega
      have q3 : (0 : Int) ≤ (L : Int) := by omega
      have q4 : (z : Int) + (L : Int) ≤ 1000000 := by omega
      have HX := Lib.hid (And.intro hx hL)
      clear hx htx hL
      go_wp2
      go_roundw
      case rel => exact ⟨k + 1, z + L, by omega, by go_num, by go_num, by rw [cat_step ts k x HX.out.1, List.length_append, ← HZ.out, ← HX.out.2], by first | trivial | rfl⟩
      case measure => simp [intOf]; omega
    · obtain rfl : k = ts.length := by omega
      obtain rfl : z = M := by rw [HZ.out, HM.out, List.take_length]
      clear hlt
      go_wp2_with fail
      refine (grow_nil w z (by omega) hm).mono ?_
      rintro e w1 ⟨v, rfl, hown, hb⟩
      go_wp2
      go_loopw [6, 27] (fun v i wq => ∃ (k : Nat) (v0 : Value), k ≤ ts.length ∧ v0 = v ∧ i = .int .i64 k ∧ OwnB wq w.heap.size v0 (cat (ts.take k)) ∧ Below w.heap.size w wq)
        (fun _ i _ => ts.length - (intOf i).toNat)
      case atStart => exact ⟨0, _, Nat.zero_le _, rfl, rfl, hown, hb⟩
      case round =>
        clear hown hb
        obtain ⟨k, v0, hk, rfl, rfl, hown, hb⟩ := hrel
        by_cases hlt : k < ts.length
        · obtain ⟨x, hx⟩ : ∃ x, ts[k]? = some x := ⟨ts[k], List.getElem?_eq_getElem hlt⟩
          obtain ⟨b, o, rfl, hbl, htx⟩ := HT.out (fun e => by rw [e] at hlt; exact absurd hlt (Nat.not_lt_zero _))
          have hc : wr.cell? ⟨b, o + k, none⟩ = some (.slice x.A x.l.length x.c) := (hb.cell (p := ⟨b, o + k, none⟩) hbl).trans (htx k x hx).1
          have hok := (htx k x hx).2.below hb
          have hlx := cat_next ts k x hx
          have HX := Lib.hid (And.intro hx (And.intro hok hlx))
          clear hx htx hok hlx
          go_wp2_with (at_builtin
                       refine wpList_append_bytes rfl (.tmp 31) (.tmp 32) rfl w.heap.size v0 (cat (ts.take k)) rfl hown x.A x.l x.c rfl HX.out.2.1.1 (by have := HX.out.2.2; have := HM.out; omega) hb.size ?_
                       intro v7 w7 hv7 hg7
                       have hb7 := below_own hb hown hg7 (Nat.le_refl _) hb.size)
          go_roundw
          case rel => exact ⟨k + 1, v7, by omega, rfl, by go_num, by rw [cat_step ts k x HX.out.1]; exact hv7, hb7⟩
          case measure => simp [intOf]; omega
        · obtain rfl : k = ts.length := by omega
          rw [List.take_length] at hown
          go_wp2
          go_ret
          exact ⟨_, rfl, hown, hb⟩
end Go.Proofs.YtbofhoonlmikcaaGreatDoor.Sh

end
section
namespace Go.Proofs.YtbofhoonlmikcaaGreatDoor.Cu
open Go.RowKit Go.Proofs.YtbofhoonlmikcaaGreatDoor Go.Proofs.YtbofhoonlmikcaaGreatDoor.Sy
set_option maxRecDepth 100000
set_option maxHeartbeats 4000000

theorem own_row2 {l : List UInt8} {k : Nat} {sp : List Value} (h : l.length = k) : (((l.map bv ++ sp).toArray).toList.drop 0).take k = l.map bv := by
 rw [List.drop_zero, List.take_append_of_le_length (by rw [List.length_map, h]; exact Nat.le_refl _), List.take_of_length_le (by rw [List.length_map, h]; exact Nat.le_refl _)]
theorem own_agg {l : List UInt8} {k : Nat} {sp : List Value} (h : l.length = k) : Value.agg ((((l.map bv ++ sp).toArray).toList.drop 0).take k).toArray = .agg (l.map bv).toArray := congrArg (fun l : List Value => Value.agg l.toArray) (own_row2 h)
theorem own_sz2 {l : List UInt8} {k : Nat} {sp : List Value} (h : l.length = k) : 0 + k ≤ ((l.map bv ++ sp).toArray).size := by
 simp only [List.size_toArray, List.length_append, List.length_map]
 omega
theorem concat2_c (w : World) (g g1 g2 : Nat) (t t1 t2 : TypeId) (x y : List UInt8) (hx : x.length = 32) (hy : y.length = 32)
  (h1 : Blk w g1 t1 (x.map bv).toArray) (h2 : Blk w g2 t2 (y.map bv).toArray) (hb : Blk w g t #[.slice (some ⟨g1, 0, none⟩) 32 32, .slice (some ⟨g2, 0, none⟩) 32 32]) :
  Calls Tryz.prog 85 #[.slice (some ⟨g, 0, none⟩) 2 2] w (GetsN w (fun vq Mq => ∃ (g : Nat) (sp : List Value) (cap : Nat), vq = .slice (some ⟨g, 0, none⟩) 64 cap ∧ Mq = [(g, 5, ((x ++ y).map bv ++ sp).toArray)])) := by
 have e : Sh.cat [⟨some ⟨g1, 0, none⟩, x, 32⟩, ⟨some ⟨g2, 0, none⟩, y, 32⟩] = x ++ y := by simp [Sh.cat]
 have hl : (x ++ y).length = 64 := by rw [List.length_append, hx, hy]
 have hb' : Blk w g t (([⟨some ⟨g1, 0, none⟩, x, 32⟩, ⟨some ⟨g2, 0, none⟩, y, 32⟩] : List Sh.Tx).map Sh.Tx.val).toArray := by
  rw [List.map_cons, List.map_cons, List.map_nil, val_key hx, val_key hy]
  exact hb
 refine (Sh.concat_any w _ _ 2 (texts_blk hb' (fun z hz => ?_)) (by rw [e, hl]; decide) (by rw [e, hl]; decide) (by show 2 ≤ 1000000; decide)).mono ?_
 ·simp only [List.mem_cons, List.not_mem_nil, or_false] at hz
  rcases hz with rfl | rfl
  ·exact ok_key h1 hx
  ·exact ok_key h2 hy
 rintro e' w' ⟨v, rfl, ho, hb2⟩
 rw [e] at ho
 unfold Sh.OwnB at ho
 rw [hl] at ho
 rcases ho.2 with ⟨_, h0⟩ | ⟨g', cap', cur, hv, hg, hk, q3, q4, q5, q6⟩
 ·cases h0
 ·subst hv
  have hc : cur = ((x ++ y).map bv ++ cur.toList.drop 64).toArray := by
   rw [Nat.mul_one] at q6
   rw [← q6, List.take_append_drop]
  refine ⟨_, [(g', 5, cur)], rfl, ⟨g', cur.toList.drop 64, cap', rfl, by rw [← hc]⟩, hb2, fun g1 t1 cs1 hm => ?_, by simp⟩
  simp only [List.mem_singleton, Prod.mk.injEq] at hm
  obtain ⟨rfl, rfl, rfl⟩ := hm
  exact ⟨hg, hk⟩
def ansS (d : Nat) (key m : List UInt8) (k : Nat) : Nat := Sc.addP (evD k) (Sc.mulP (chalS (evX (evP k)) key m) d)
def sigS (d : Nat) (key m : List UInt8) (k : Nat) : List UInt8 := evX (evP k) ++ bytesS (ansS d key m k % Sc.pM)
theorem sigS_length (d : Nat) (key m : List UInt8) (k : Nat) : (sigS d key m k).length = 64 := by
 unfold sigS
 rw [List.length_append, evX_length, bytesS_length]
theorem evD_lt (k : Nat) (hk : k < K4) : evD k < K4 := by
 unfold evD
 split
 ·decide
 ·split
  ·exact Sc.mod_lt _
  ·exact hk
theorem chalS_lt (x key m : List UInt8) : chalS x key m < K4 := Sc.mod_lt _
theorem cat_length {x y : List UInt8} (hx : x.length = 32) (hy : y.length = 32) : (x ++ y).length = 64 := by rw [List.length_append, hx, hy]
theorem sign_none (w : World) (d k : Nat) (hd : d < K4) (hk : k < K4) (hsm : (evP k).isSome = false) (key : List UInt8) (hkey : key.length = 32) (A : Option Addr) (m : List UInt8) (n c : Nat) (hn : m.length = n) (hm : n ≤ 999999900) (hc : n ≤ c) (hc2 : c ≤ 9223372036854775807) (hs : Sh.Src w A m) (ht : Sh.TabAt w 1) : Calls Tryz.prog 40 #[fv d, .agg (key.map bv).toArray, .slice A n c, fv k] w (Gets w (.tuple #[.agg ((List.replicate 64 (0 : UInt8)).map bv).toArray, .bool false])) := by
 refine Sy.enter (args := [fv d, .agg (key.map bv).toArray, .slice A n c, fv k]) Tryz.func40 rfl kL ?_
 refine sC ?_
 refine sM 24 (fcs d) (fun g0 => ?_)
 refine sM 31 (key.map bv).toArray (fun g1 => ?_)
 refine sM 24 (fcs k) (fun g2 => ?_)
 refine sM 27 (Zl 64).toArray (fun g3 => ?_)
 refine sP (.bool false) ?_
 refine sA ?_
 refine sS (fv k) (qL 2 g2 0 4 24 24 (fcs k) rfl Tryz.underlying24) <| sS (.tuple #[fv (evD k), .agg ((evX (evP k)).map bv).toArray, .bool false]) (qF 39 #[fv k] (fun w => by have q := even_any w k hk; rw [hsm] at q; exact q)) <| sP (.tuple #[fv (evD k), .agg ((evX (evP k)).map bv).toArray, .bool false]) <| sP (fv (evD k)) <| sP (.agg ((evX (evP k)).map bv).toArray) <| sP (.bool false) ?_
 refine sM 31 (Zl 32).toArray (fun g4 => ?_)
 refine sW 2 g2 24 (fcs k) (fcs (evD k)) (wS 0 24 (fcs (evD k)) rfl) <| sW 4 g4 31 (Zl 32).toArray ((evX (evP k)).map bv).toArray (Writes.store 0 31 ((evX (evP k)).map bv).toArray _ _ rfl kR kR (by rw [key_sz (evX (evP k)) (evX_length _)]; kernel_rfl) (by rw [key_sz (evX (evP k)) (evX_length _)]; exact Nat.le_of_ble_eq_true kR) (key_one _) (key_set _ _ (by rw [(evX_length _)]; kernel_rfl))) <| sP (.bool false) ?_
 refine sG <| Sy.seq <| sC ?_
 refine sP (.bool false) <| sP (.bool true) ?_
 refine sG <| sT <| sC ?_
 refine sP (.agg ((Zl 64) : List Value).toArray) <| sW 3 g3 27 (Zl 64).toArray (Zl 64).toArray (wS 0 27 (Zl 64).toArray rfl) <| sP (.bool false) ?_
 refine sG <| Sy.ret <| Sy.then_ret ?_
 rw [show (.tuple #[.agg ((List.replicate 64 (0 : UInt8)).map bv).toArray, .bool false] : Value) = .tuple #[.agg ((Zl 64) : List Value).toArray, .bool false] from by kernel_rfl]
 exact Sy.ret2 (v := .agg ((Zl 64) : List Value).toArray) (u := .bool false) rfl (.inl (Res.cell (ty' := 27) g3 3 (Zl 64).toArray _ kR kR Tryz.underlying27 rfl kR kR)) (.inl (show _ = _ by kernel_rfl))
theorem sign_some (w : World) (d k : Nat) (hd : d < K4) (hk : k < K4) (hsm : (evP k).isSome = true) (key : List UInt8) (hkey : key.length = 32) (A : Option Addr) (m : List UInt8) (n c : Nat) (hn : m.length = n) (hm : n ≤ 999999900) (hc : n ≤ c) (hc2 : c ≤ 9223372036854775807) (hs : Sh.Src w A m) (ht : Sh.TabAt w 1) : Calls Tryz.prog 40 #[fv d, .agg (key.map bv).toArray, .slice A n c, fv k] w (Gets w (.tuple #[.agg ((sigS d key m k).map bv).toArray, .bool true])) := by
 refine Sy.enter (args := [fv d, .agg (key.map bv).toArray, .slice A n c, fv k]) Tryz.func40 rfl kL ?_
 refine sC ?_
 refine sM 24 (fcs d) (fun g0 => ?_)
 refine sM 31 (key.map bv).toArray (fun g1 => ?_)
 refine sM 24 (fcs k) (fun g2 => ?_)
 refine sM 27 (Zl 64).toArray (fun g3 => ?_)
 refine sP (.bool false) ?_
 refine sA ?_
 refine sS (fv k) (qL 2 g2 0 4 24 24 (fcs k) rfl Tryz.underlying24) <| sS (.tuple #[fv (evD k), .agg ((evX (evP k)).map bv).toArray, .bool true]) (qF 39 #[fv k] (fun w => by have q := even_any w k hk; rw [hsm] at q; exact q)) <| sP (.tuple #[fv (evD k), .agg ((evX (evP k)).map bv).toArray, .bool true]) <| sP (fv (evD k)) <| sP (.agg ((evX (evP k)).map bv).toArray) <| sP (.bool true) ?_
 refine sM 31 (Zl 32).toArray (fun g4 => ?_)
 refine sW 2 g2 24 (fcs k) (fcs (evD k)) (wS 0 24 (fcs (evD k)) rfl) <| sW 4 g4 31 (Zl 32).toArray ((evX (evP k)).map bv).toArray (Writes.store 0 31 ((evX (evP k)).map bv).toArray _ _ rfl kR kR (by rw [key_sz (evX (evP k)) (evX_length _)]; kernel_rfl) (by rw [key_sz (evX (evP k)) (evX_length _)]; exact Nat.le_of_ble_eq_true kR) (key_one _) (key_set _ _ (by rw [(evX_length _)]; kernel_rfl))) <| sP (.bool true) ?_
 refine sG <| Sy.seq <| sC ?_
 refine sP (.bool true) <| sP (.bool false) ?_
 refine sG <| sU <| Sy.skip <| sB ?_
 refine sS (.agg ((evX (evP k)).map bv).toArray) (Quiet.load 4 g4 0 32 31 31 ((evX (evP k)).map bv).toArray _ _ rfl kR kR Tryz.underlying31 rfl kR _ (key_whole (evX (evP k)) (evX_length _)) (key_size (evX (evP k)) (evX_length _))) <| sS (.agg (key.map bv).toArray) (Quiet.load 1 g1 0 32 31 31 (key.map bv).toArray _ _ rfl kR kR Tryz.underlying31 rfl kR _ (key_whole key hkey) (key_size key hkey)) <| sP (.slice A n c) <| sS (fv (chalS (evX (evP k)) key m)) (qG 52 #[.agg ((evX (evP k)).map bv).toArray, .agg (key.map bv).toArray, .slice A n c] (fun w hw => challenge_any w (evX (evP k)) key (evX_length _) hkey A m n c hn hm hc hc2 (hs.below hw.below) (ht.below hw.below ht.lt))) ?_
 refine sM 24 (fcs 0) (fun g5 => ?_)
 refine sW 5 g5 24 (fcs 0) (fcs (chalS (evX (evP k)) key m)) (wS 0 24 (fcs (chalS (evX (evP k)) key m)) rfl) ?_
 refine sH (fun j => j == 7) ?_
 refine sD 0 rfl (fv (evD k)) (qL 2 g2 0 4 24 24 (fcs (evD k)) rfl Tryz.underlying24) <| sD 1 rfl (fv (chalS (evX (evP k)) key m)) (qL 5 g5 0 4 24 24 (fcs (chalS (evX (evP k)) key m)) rfl Tryz.underlying24) <| sD 2 rfl (fv d) (qL 0 g0 0 4 24 24 (fcs d) rfl Tryz.underlying24) <| sD 3 rfl (fv (Sc.mulP (chalS (evX (evP k)) key m) d)) (qF 84 #[fv (chalS (evX (evP k)) key m), fv d] (fun w => Sc.mulF_any w _ _ (chalS_lt _ _ _) hd)) <| sD 4 rfl (fv (ansS d key m k)) (qF 83 #[fv (evD k), fv (Sc.mulP (chalS (evX (evP k)) key m) d)] (fun w => Sc.addF_any w _ _ (evD_lt k hk) (Sc.mod_lt _))) <| sD 5 rfl (.agg ((bytesS (ansS d key m k % Sc.pM)).map bv).toArray) (qF 82 #[fv (ansS d key m k)] (fun w => Sc.bytes_any w _ (Sc.mod_lt _))) ?_
 refine Sy.makeD 6 rfl kR kR 30 (Zl 32).toArray ptr kF (fun g6 => ?_)
 refine Sy.writeD 7 rfl kR (by rfl) kR 6 g6 30 (Zl 32).toArray ((bytesS (ansS d key m k % Sc.pM)).map bv).toArray kR (Writes.store 0 30 ((bytesS (ansS d key m k % Sc.pM)).map bv).toArray _ _ rfl kR kR (by rw [key_sz (bytesS (ansS d key m k % Sc.pM)) (bytesS_length _)]; kernel_rfl) (by rw [key_sz (bytesS (ansS d key m k % Sc.pM)) (bytesS_length _)]; exact Nat.le_of_ble_eq_true kR) (key_one _) (key_set _ _ (by rw [(bytesS_length _)]; kernel_rfl))) ?_
 refine sE ?_
 refine sR (fun j => j == 6) ?_
 refine sZ 0 rfl (.slice (some ⟨g4, 0, none⟩) 32 32) <| sZ 1 rfl (.slice (some ⟨g6, 0, none⟩) 32 32) ?_
 refine Sy.makeD 2 rfl kR kR 25 #[.slice (some ⟨g4, 0, none⟩) 32 32, .slice (some ⟨g6, 0, none⟩) 32 32] (fun g => .slice (some ⟨g, 0, none⟩) 2 2) kF (fun g7 => ?_)
 refine Sy.callND 3 rfl kR kR 85 #[.slice (some ⟨g7, 0, none⟩) 2 2] kF (fun vq Mq => ∃ (g : Nat) (sp : List Value) (cap : Nat), vq = .slice (some ⟨g, 0, none⟩) 64 cap ∧ Mq = [(g, 5, (((evX (evP k)) ++ (bytesS (ansS d key m k % Sc.pM))).map bv ++ sp).toArray)]) (fun w hw => concat2_c w g7 g4 g6 _ _ _ (evX (evP k)) (bytesS (ansS d key m k % Sc.pM)) (evX_length _) (bytesS_length _) (hw.get (i := 4) rfl) (hw.get (i := 6) rfl) (hw.get (i := 7) rfl)) (fun vq Mq hR0 => ?_)
 obtain ⟨g9, sp9, cp9, rfl, rfl⟩ := hR0
 refine sZ 4 rfl (.pointer (some ⟨g9, 0, none⟩)) <| sD 5 rfl (.agg (((evX (evP k)) ++ (bytesS (ansS d key m k % Sc.pM))).map bv).toArray) (Quiet.load 8 g9 0 64 5 27 (((evX (evP k)) ++ (bytesS (ansS d key m k % Sc.pM))).map bv ++ sp9).toArray _ _ rfl kR kR Tryz.underlying27 rfl kR _ (own_agg (cat_length (evX_length _) (bytesS_length _))) (own_sz2 (cat_length (evX_length _) (bytesS_length _)))) <| sX 6 rfl 3 g3 27 (Zl 64).toArray (((evX (evP k)) ++ (bytesS (ansS d key m k % Sc.pM))).map bv).toArray (Writes.store 0 27 (((evX (evP k)) ++ (bytesS (ansS d key m k % Sc.pM))).map bv).toArray _ _ rfl kR kR (by rw [key_sz ((evX (evP k)) ++ (bytesS (ansS d key m k % Sc.pM))) (cat_length (evX_length _) (bytesS_length _))]; kernel_rfl) (by rw [key_sz ((evX (evP k)) ++ (bytesS (ansS d key m k % Sc.pM))) (cat_length (evX_length _) (bytesS_length _))]; exact Nat.le_of_ble_eq_true kR) (key_one _) (key_set _ _ (by rw [(cat_length (evX_length _) (bytesS_length _))]; kernel_rfl))) ?_
 refine Sy.anyOf [7] kR (by decide) (Sy.each1 ?_)
 refine Sy.oneQuiet rfl kR (.bool true) qP ?_
 refine sI ?_
 refine Sy.ret ?_
 exact Sy.ret2 (v := .agg (((evX (evP k)) ++ (bytesS (ansS d key m k % Sc.pM))).map bv).toArray) (u := .bool true) rfl (.inl (Res.cell (ty' := 27) g3 3 (((evX (evP k)) ++ (bytesS (ansS d key m k % Sc.pM))).map bv).toArray _ kR kR Tryz.underlying27 rfl (by rw [key_sz ((evX (evP k)) ++ (bytesS (ansS d key m k % Sc.pM))) (cat_length (evX_length _) (bytesS_length _))]; kernel_rfl) kR)) (.inl (show _ = _ by kernel_rfl))
end Go.Proofs.YtbofhoonlmikcaaGreatDoor.Cu

end
section
namespace Go.Proofs.YtbofhoonlmikcaaGreatDoor.Cu
open Go.RowKit Go.Proofs.YtbofhoonlmikcaaGreatDoor Go.Proofs.YtbofhoonlmikcaaGreatDoor.Sy
set_option maxRecDepth 100000
set_option maxHeartbeats 4000000

def nonS (sec : Nat) (m : List UInt8) : Nat := nonceS (evD sec) (evX (evP sec)) m
theorem nonS_lt (sec : Nat) (m : List UInt8) : nonS sec m < K4 := Sc.mod_lt _
def signB (sec : Nat) (m : List UInt8) : Bool := (evP sec).isSome && (evP (nonS sec m)).isSome
def signL (sec : Nat) (m : List UInt8) : List UInt8 := if signB sec m = true then sigS (evD sec) (evX (evP sec)) m (nonS sec m) else List.replicate 64 0
theorem Sign_no (w : World) (sec : Nat) (hsec : sec < K4) (hsm : (evP sec).isSome = false) (A : Option Addr) (m : List UInt8) (n c : Nat) (hn : m.length = n) (hm : n ≤ 999999900) (hc : n ≤ c) (hc2 : c ≤ 9223372036854775807) (hs : Sh.Src w A m) (ht : Sh.TabAt w 1) : Calls Tryz.prog 12 #[fv sec, .slice A n c] w (Gets w (.tuple #[.agg ((List.replicate 64 (0 : UInt8)).map bv).toArray, .bool false])) := by
 refine Sy.enter (args := [fv sec, .slice A n c]) Tryz.func12 rfl kL ?_
 refine sC ?_
 refine sM 24 (fcs sec) (fun g0 => ?_)
 refine sM 27 (Zl 64).toArray (fun g1 => ?_)
 refine sP (.bool false) ?_
 refine sA ?_
 refine sS (fv sec) (qL 0 g0 0 4 24 24 (fcs sec) rfl Tryz.underlying24) <| sS (.tuple #[fv (evD sec), .agg ((evX (evP sec)).map bv).toArray, .bool false]) (qF 39 #[fv sec] (fun w => by have q := even_any w sec hsec; rw [hsm] at q; exact q)) <| sP (.tuple #[fv (evD sec), .agg ((evX (evP sec)).map bv).toArray, .bool false]) <| sP (fv (evD sec)) <| sP (.agg ((evX (evP sec)).map bv).toArray) <| sP (.bool false) ?_
 refine sM 24 (fcs 0) (fun g2 => ?_)
 refine sM 31 (Zl 32).toArray (fun g3 => ?_)
 refine sW 2 g2 24 (fcs 0) (fcs (evD sec)) (wS 0 24 (fcs (evD sec)) rfl) <| sW 3 g3 31 (Zl 32).toArray ((evX (evP sec)).map bv).toArray (Writes.store 0 31 ((evX (evP sec)).map bv).toArray _ _ rfl kR kR (by rw [key_sz (evX (evP sec)) (evX_length _)]; kernel_rfl) (by rw [key_sz (evX (evP sec)) (evX_length _)]; exact Nat.le_of_ble_eq_true kR) (key_one _) (key_set _ _ (by rw [(evX_length _)]; kernel_rfl))) <| sP (.bool false) ?_
 refine sG <| Sy.seq <| sC ?_
 refine sP (.bool false) <| sP (.bool true) ?_
 refine sG <| sT <| sC ?_
 refine sP (.agg ((Zl 64) : List Value).toArray) <| sW 1 g1 27 (Zl 64).toArray (Zl 64).toArray (wS 0 27 (Zl 64).toArray rfl) <| sP (.bool false) ?_
 refine sG <| Sy.ret <| Sy.then_ret ?_
 rw [show (.tuple #[.agg ((List.replicate 64 (0 : UInt8)).map bv).toArray, .bool false] : Value) = .tuple #[.agg ((Zl 64) : List Value).toArray, .bool false] from by kernel_rfl]
 exact Sy.ret2 (v := .agg ((Zl 64) : List Value).toArray) (u := .bool false) rfl (.inl (Res.cell (ty' := 27) g1 1 (Zl 64).toArray _ kR kR Tryz.underlying27 rfl kR kR)) (.inl (show _ = _ by kernel_rfl))
theorem Sign_no2 (w : World) (sec : Nat) (hsec : sec < K4) (hsm : (evP sec).isSome = true) (A : Option Addr) (m : List UInt8) (n c : Nat) (hn : m.length = n) (hm : n ≤ 999999900) (hc : n ≤ c) (hc2 : c ≤ 9223372036854775807) (hs : Sh.Src w A m) (ht : Sh.TabAt w 1) (hsk : (evP (nonS sec m)).isSome = false) : Calls Tryz.prog 12 #[fv sec, .slice A n c] w (Gets w (.tuple #[.agg ((List.replicate 64 (0 : UInt8)).map bv).toArray, .bool false])) := by
 refine Sy.enter (args := [fv sec, .slice A n c]) Tryz.func12 rfl kL ?_
 refine sC ?_
 refine sM 24 (fcs sec) (fun g0 => ?_)
 refine sM 27 (Zl 64).toArray (fun g1 => ?_)
 refine sP (.bool false) ?_
 refine sA ?_
 refine sS (fv sec) (qL 0 g0 0 4 24 24 (fcs sec) rfl Tryz.underlying24) <| sS (.tuple #[fv (evD sec), .agg ((evX (evP sec)).map bv).toArray, .bool true]) (qF 39 #[fv sec] (fun w => by have q := even_any w sec hsec; rw [hsm] at q; exact q)) <| sP (.tuple #[fv (evD sec), .agg ((evX (evP sec)).map bv).toArray, .bool true]) <| sP (fv (evD sec)) <| sP (.agg ((evX (evP sec)).map bv).toArray) <| sP (.bool true) ?_
 refine sM 24 (fcs 0) (fun g2 => ?_)
 refine sM 31 (Zl 32).toArray (fun g3 => ?_)
 refine sW 2 g2 24 (fcs 0) (fcs (evD sec)) (wS 0 24 (fcs (evD sec)) rfl) <| sW 3 g3 31 (Zl 32).toArray ((evX (evP sec)).map bv).toArray (Writes.store 0 31 ((evX (evP sec)).map bv).toArray _ _ rfl kR kR (by rw [key_sz (evX (evP sec)) (evX_length _)]; kernel_rfl) (by rw [key_sz (evX (evP sec)) (evX_length _)]; exact Nat.le_of_ble_eq_true kR) (key_one _) (key_set _ _ (by rw [(evX_length _)]; kernel_rfl))) <| sP (.bool true) ?_
 refine sG <| Sy.seq <| sC ?_
 refine sP (.bool true) <| sP (.bool false) ?_
 refine sG <| sU <| Sy.skip ?_
 refine sR (fun j => j == 10) ?_
 refine sD 0 rfl (fv (evD sec)) (qL 2 g2 0 4 24 24 (fcs (evD sec)) rfl Tryz.underlying24) <| sD 1 rfl (.agg ((evX (evP sec)).map bv).toArray) (Quiet.load 3 g3 0 32 31 31 ((evX (evP sec)).map bv).toArray _ _ rfl kR kR Tryz.underlying31 rfl kR _ (key_whole (evX (evP sec)) (evX_length _)) (key_size (evX (evP sec)) (evX_length _))) <| sZ 2 rfl (.slice A n c) <| sD 3 rfl (fv (evD sec)) (qL 2 g2 0 4 24 24 (fcs (evD sec)) rfl Tryz.underlying24) <| sD 4 rfl (.agg ((evX (evP sec)).map bv).toArray) (Quiet.load 3 g3 0 32 31 31 ((evX (evP sec)).map bv).toArray _ _ rfl kR kR Tryz.underlying31 rfl kR _ (key_whole (evX (evP sec)) (evX_length _)) (key_size (evX (evP sec)) (evX_length _))) <| sZ 5 rfl (.slice A n c) <| sD 6 rfl (fv (nonS sec m)) (qG 41 #[fv (evD sec), .agg ((evX (evP sec)).map bv).toArray, .slice A n c] (fun w hw => nonce_any w _ (evD_lt sec hsec) _ (evX_length _) A m n c hn hm hc hc2 (hs.below hw.below) (ht.below hw.below ht.lt))) <| sD 7 rfl (.tuple #[.agg ((List.replicate 64 (0 : UInt8)).map bv).toArray, .bool false]) (qG 40 #[fv (evD sec), .agg ((evX (evP sec)).map bv).toArray, .slice A n c, fv (nonS sec m)] (fun w hw => sign_none w _ _ (evD_lt sec hsec) (nonS_lt sec m) hsk _ (evX_length _) A m n c hn hm hc hc2 (hs.below hw.below) (ht.below hw.below ht.lt))) ?_
 refine sZ 8 rfl (.agg ((List.replicate 64 (0 : UInt8)).map bv).toArray) <| sZ 9 rfl (.bool false) <| sX 10 rfl 1 g1 27 (Zl 64).toArray ((List.replicate 64 (0 : UInt8)).map bv).toArray (Writes.store 0 27 ((List.replicate 64 (0 : UInt8)).map bv).toArray _ _ rfl kR kR (by rw [key_sz (List.replicate 64 (0 : UInt8)) (List.length_replicate)]; kernel_rfl) (by rw [key_sz (List.replicate 64 (0 : UInt8)) (List.length_replicate)]; exact Nat.le_of_ble_eq_true kR) (key_one _) (key_set _ _ (by rw [(List.length_replicate)]; kernel_rfl))) ?_
 refine Sy.anyOf [11] kR (by decide) (Sy.each1 ?_)
 refine Sy.oneQuiet rfl kR (.bool false) qP ?_
 refine sI ?_
 refine Sy.ret ?_
 exact Sy.ret2 (v := .agg ((List.replicate 64 (0 : UInt8)).map bv).toArray) (u := .bool false) rfl (.inl (Res.cell (ty' := 27) g1 1 ((List.replicate 64 (0 : UInt8)).map bv).toArray _ kR kR Tryz.underlying27 rfl (by rw [key_sz (List.replicate 64 (0 : UInt8)) (List.length_replicate)]; kernel_rfl) kR)) (.inl (show _ = _ by kernel_rfl))
theorem Sign_yes (w : World) (sec : Nat) (hsec : sec < K4) (hsm : (evP sec).isSome = true) (A : Option Addr) (m : List UInt8) (n c : Nat) (hn : m.length = n) (hm : n ≤ 999999900) (hc : n ≤ c) (hc2 : c ≤ 9223372036854775807) (hs : Sh.Src w A m) (ht : Sh.TabAt w 1) (hsk : (evP (nonS sec m)).isSome = true) : Calls Tryz.prog 12 #[fv sec, .slice A n c] w (Gets w (.tuple #[.agg ((sigS (evD sec) (evX (evP sec)) m (nonS sec m)).map bv).toArray, .bool true])) := by
 refine Sy.enter (args := [fv sec, .slice A n c]) Tryz.func12 rfl kL ?_
 refine sC ?_
 refine sM 24 (fcs sec) (fun g0 => ?_)
 refine sM 27 (Zl 64).toArray (fun g1 => ?_)
 refine sP (.bool false) ?_
 refine sA ?_
 refine sS (fv sec) (qL 0 g0 0 4 24 24 (fcs sec) rfl Tryz.underlying24) <| sS (.tuple #[fv (evD sec), .agg ((evX (evP sec)).map bv).toArray, .bool true]) (qF 39 #[fv sec] (fun w => by have q := even_any w sec hsec; rw [hsm] at q; exact q)) <| sP (.tuple #[fv (evD sec), .agg ((evX (evP sec)).map bv).toArray, .bool true]) <| sP (fv (evD sec)) <| sP (.agg ((evX (evP sec)).map bv).toArray) <| sP (.bool true) ?_
 refine sM 24 (fcs 0) (fun g2 => ?_)
 refine sM 31 (Zl 32).toArray (fun g3 => ?_)
 refine sW 2 g2 24 (fcs 0) (fcs (evD sec)) (wS 0 24 (fcs (evD sec)) rfl) <| sW 3 g3 31 (Zl 32).toArray ((evX (evP sec)).map bv).toArray (Writes.store 0 31 ((evX (evP sec)).map bv).toArray _ _ rfl kR kR (by rw [key_sz (evX (evP sec)) (evX_length _)]; kernel_rfl) (by rw [key_sz (evX (evP sec)) (evX_length _)]; exact Nat.le_of_ble_eq_true kR) (key_one _) (key_set _ _ (by rw [(evX_length _)]; kernel_rfl))) <| sP (.bool true) ?_
 refine sG <| Sy.seq <| sC ?_
 refine sP (.bool true) <| sP (.bool false) ?_
 refine sG <| sU <| Sy.skip ?_
 refine sR (fun j => j == 10) ?_
 refine sD 0 rfl (fv (evD sec)) (qL 2 g2 0 4 24 24 (fcs (evD sec)) rfl Tryz.underlying24) <| sD 1 rfl (.agg ((evX (evP sec)).map bv).toArray) (Quiet.load 3 g3 0 32 31 31 ((evX (evP sec)).map bv).toArray _ _ rfl kR kR Tryz.underlying31 rfl kR _ (key_whole (evX (evP sec)) (evX_length _)) (key_size (evX (evP sec)) (evX_length _))) <| sZ 2 rfl (.slice A n c) <| sD 3 rfl (fv (evD sec)) (qL 2 g2 0 4 24 24 (fcs (evD sec)) rfl Tryz.underlying24) <| sD 4 rfl (.agg ((evX (evP sec)).map bv).toArray) (Quiet.load 3 g3 0 32 31 31 ((evX (evP sec)).map bv).toArray _ _ rfl kR kR Tryz.underlying31 rfl kR _ (key_whole (evX (evP sec)) (evX_length _)) (key_size (evX (evP sec)) (evX_length _))) <| sZ 5 rfl (.slice A n c) <| sD 6 rfl (fv (nonS sec m)) (qG 41 #[fv (evD sec), .agg ((evX (evP sec)).map bv).toArray, .slice A n c] (fun w hw => nonce_any w _ (evD_lt sec hsec) _ (evX_length _) A m n c hn hm hc hc2 (hs.below hw.below) (ht.below hw.below ht.lt))) <| sD 7 rfl (.tuple #[.agg ((sigS (evD sec) (evX (evP sec)) m (nonS sec m)).map bv).toArray, .bool true]) (qG 40 #[fv (evD sec), .agg ((evX (evP sec)).map bv).toArray, .slice A n c, fv (nonS sec m)] (fun w hw => sign_some w _ _ (evD_lt sec hsec) (nonS_lt sec m) hsk _ (evX_length _) A m n c hn hm hc hc2 (hs.below hw.below) (ht.below hw.below ht.lt))) ?_
 refine sZ 8 rfl (.agg ((sigS (evD sec) (evX (evP sec)) m (nonS sec m)).map bv).toArray) <| sZ 9 rfl (.bool true) <| sX 10 rfl 1 g1 27 (Zl 64).toArray ((sigS (evD sec) (evX (evP sec)) m (nonS sec m)).map bv).toArray (Writes.store 0 27 ((sigS (evD sec) (evX (evP sec)) m (nonS sec m)).map bv).toArray _ _ rfl kR kR (by rw [key_sz (sigS (evD sec) (evX (evP sec)) m (nonS sec m)) (sigS_length _ _ _ _)]; kernel_rfl) (by rw [key_sz (sigS (evD sec) (evX (evP sec)) m (nonS sec m)) (sigS_length _ _ _ _)]; exact Nat.le_of_ble_eq_true kR) (key_one _) (key_set _ _ (by rw [(sigS_length _ _ _ _)]; kernel_rfl))) ?_
 refine Sy.anyOf [11] kR (by decide) (Sy.each1 ?_)
 refine Sy.oneQuiet rfl kR (.bool true) qP ?_
 refine sI ?_
 refine Sy.ret ?_
 exact Sy.ret2 (v := .agg ((sigS (evD sec) (evX (evP sec)) m (nonS sec m)).map bv).toArray) (u := .bool true) rfl (.inl (Res.cell (ty' := 27) g1 1 ((sigS (evD sec) (evX (evP sec)) m (nonS sec m)).map bv).toArray _ kR kR Tryz.underlying27 rfl (by rw [key_sz (sigS (evD sec) (evX (evP sec)) m (nonS sec m)) (sigS_length _ _ _ _)]; kernel_rfl) kR)) (.inl (show _ = _ by kernel_rfl))
theorem Sign_any (w : World) (sec : Nat) (hsec : sec < K4) (A : Option Addr) (m : List UInt8) (n c : Nat) (hn : m.length = n) (hm : n ≤ 999999900) (hc : n ≤ c) (hc2 : c ≤ 9223372036854775807) (hs : Sh.Src w A m) (ht : Sh.TabAt w 1) : Calls Tryz.prog 12 #[fv sec, .slice A n c] w (Gets w (.tuple #[.agg ((signL sec m).map bv).toArray, .bool (signB sec m)])) := by
 unfold signL
 cases h1 : (evP sec).isSome with
 | false =>
  rw [show signB sec m = false from by unfold signB; rw [h1]; rfl, if_neg (by decide)]
  exact Sign_no w sec hsec h1 A m n c hn hm hc hc2 hs ht
 | true =>
  cases h2 : (evP (nonS sec m)).isSome with
  | false =>
   rw [show signB sec m = false from by unfold signB; rw [h1, h2]; rfl, if_neg (by decide)]
   exact Sign_no2 w sec hsec h1 A m n c hn hm hc hc2 hs ht h2
  | true =>
   rw [show signB sec m = true from by unfold signB; rw [h1, h2]; rfl, if_pos rfl]
   exact Sign_yes w sec hsec h1 A m n c hn hm hc hc2 hs ht h2
end Go.Proofs.YtbofhoonlmikcaaGreatDoor.Cu

end
section
namespace Go.Proofs.YtbofhoonlmikcaaGreatDoor.Cu
open Go.RowKit Go.Proofs.YtbofhoonlmikcaaGreatDoor Go.Proofs.YtbofhoonlmikcaaGreatDoor.Sy
set_option maxRecDepth 100000
set_option maxHeartbeats 4000000

section
variable {P : Program} {w0 : Base} {n : Nat} {F : Slots} {L : Blocks}
end
theorem rem2 (w : World) (F : Slots) (o : Oper) (x y : Operand) (n : Nat) {yt : TypeId} (ho : o.op = .binOp .rem 22 x y yt) (hx : evF F x = .int .u64 (n : Int)) (hy : evF F y = .int .u64 2) (hn : n < 18446744073709551616) : (execOp (evF F) o).run Tryz.prog w = .ok (.value (.int .u64 ((n % 2 : Nat) : Int))) w := by
 have h : (binOp .rem 22 (.int .u64 (n : Int)) (.int .u64 2)).run Tryz.prog w = .ok (.int .u64 ((n % 2 : Nat) : Int)) w := by
  go_simp
  exact Int.tmod_eq_emod_of_nonneg (by omega)
 have h1 : (eqGuard .rem 22 x y (.int .u64 (n : Int)) (.int .u64 2)).run Tryz.prog w = .ok () w := by go_simp
 unfold execOp
 simp only [ho, hx, hy, Sem.run_bind, h1, h, Result.andThen_ok, Sem.run_pure]
end Go.Proofs.YtbofhoonlmikcaaGreatDoor.Cu

end
section
namespace Go.Proofs.YtbofhoonlmikcaaGreatDoor
open Go.RowKit Go.Lib

set_option maxHeartbeats 8000000 in
set_option maxRecDepth 100000 in
theorem numberR_any (w : World) (g cap : Nat) (l : List UInt8) (hl : l.length = 32) (hg : g < w.heap.size) (hcell : ∀ j u, l[j]? = some u → w.cell? ⟨g, j, none⟩ = some (bv u)) (_ : 32 ≤ cap) (_ : cap ≤ 9223372036854775807) : Calls Tryz.prog 54 #[.slice (some ⟨g, 0, none⟩) 32 cap] w fun e w' => e = .returned (fv (valB l)) ∧ Below w.heap.size w w' := by
 have HL := Lib.hid hl
 have HG := Lib.hid hcell
 clear hl hcell
 go_enter Tryz.func54, Tryz.ntmps54
 go_wp2_with fail
 go_loopw [4] (fun i wr => ∃ k y0 y1 y2 y3 : Nat, k ≤ 32 ∧ i = .int .i64 (k : Int) ∧ Hid (y0 = wdB l k 0 ∧ y1 = wdB l k 1 ∧ y2 = wdB l k 2 ∧ y3 = wdB l k 3) ∧ Below w.heap.size w wr ∧ Blk wr (w.heap.size + 1) 89 #[.int .u64 (y3 : Int), .int .u64 (y2 : Int), .int .u64 (y1 : Int), .int .u64 (y0 : Int)] ∧ Blk wr w.heap.size 89 #[.int .u64 0, .int .u64 0, .int .u64 0, .int .u64 0]) (fun i _ => 32 - (intOf i).toNat)
 case atStart => exact ⟨0, 0, 0, 0, 0, by omega, rfl, Lib.hid ⟨(wdB_zero l 0).symm, (wdB_zero l 1).symm, (wdB_zero l 2).symm, (wdB_zero l 3).symm⟩, below_alloc2 w _ _, blk_new2 w _ _ _, (Blk.new w _ _).alloc _⟩
 case round =>
  obtain ⟨k, y0, y1, y2, y3, hk, rfl, HY, hb, hP, hR⟩ := hrel
  have q3 : wr.cell? ⟨w.heap.size + 1, 0, none⟩ = some (.int .u64 (y3 : Int)) := hP.cell 0
  have q2 : wr.cell? ⟨w.heap.size + 1, 1, none⟩ = some (.int .u64 (y2 : Int)) := hP.cell 1
  have q1 : wr.cell? ⟨w.heap.size + 1, 2, none⟩ = some (.int .u64 (y1 : Int)) := hP.cell 2
  have q0 : wr.cell? ⟨w.heap.size + 1, 3, none⟩ = some (.int .u64 (y0 : Int)) := hP.cell 3
  have ff : ∀ j, wr.frozen? ⟨w.heap.size + 1, j, none⟩ = false := fun j => hP.frozen j
  by_cases hlt : k < 32
  ·obtain ⟨c, hc⟩ : ∃ c, l[k]? = some c := ⟨l[k]'(by rw [HL.out]; exact hlt), List.getElem?_eq_getElem _⟩
   have HC := Lib.hid hc
   obtain ⟨m, hm⟩ : ∃ m, m = c.toNat := ⟨_, rfl⟩
   have hm8 : m < 256 := by rw [hm]; exact c.toNat_lt
   have hI : wr.cell? ⟨g, k, none⟩ = some (.int .u8 (m : Int)) := by
    rw [hm]
    exact (hb.cell (p := ⟨g, k, none⟩) hg).trans (HG.out k c hc)
   have HM := Lib.hid hm
   have HR := Lib.hid (And.intro hb (And.intro hP hR))
   clear hb hP hR hc hk hm
   rcases (show k = 0 ∨ k = 1 ∨ k = 2 ∨ k = 3 ∨ k = 4 ∨ k = 5 ∨ k = 6 ∨ k = 7 ∨ k = 8 ∨ k = 9 ∨ k = 10 ∨ k = 11 ∨ k = 12 ∨ k = 13 ∨ k = 14 ∨ k = 15 ∨ k = 16 ∨ k = 17 ∨ k = 18 ∨ k = 19 ∨ k = 20 ∨ k = 21 ∨ k = 22 ∨ k = 23 ∨ k = 24 ∨ k = 25 ∨ k = 26 ∨ k = 27 ∨ k = 28 ∨ k = 29 ∨ k = 30 ∨ k = 31 by omega) with rfl | rfl | rfl | rfl | rfl | rfl | rfl | rfl | rfl | rfl | rfl | rfl | rfl | rfl | rfl | rfl | rfl | rfl | rfl | rfl | rfl | rfl | rfl | rfl | rfl | rfl | rfl | rfl | rfl | rfl | rfl | rfl
   all_goals
    first
    | ((have hy : y0 < 72057594037927936 := by rw [HY.out.1]; exact wdB_lt l _ 0 (by decide)); go_wp2; go_region; all_goals go_wp2; all_goals (refine ⟨⟨_, y0 * 256 + m, y1, y2, y3, by decide, rfl, Lib.hid ⟨by rw [HY.out.1, HM.out]; exact (wdB_step l _ 0 c HC.out (by decide)).symm, by rw [HY.out.2.1]; exact (wdB_same l _ 1 (by decide)).symm, by rw [HY.out.2.2.1]; exact (wdB_same l _ 2 (by decide)).symm, by rw [HY.out.2.2.2]; exact (wdB_same l _ 3 (by decide)).symm⟩, (HR.out.1.setCell (by show w.heap.size ≤ w.heap.size + 1; omega) _).drew, Blk.drew (Blk.eq_ (HR.out.2.1.set_ 3 _) (by rw [show ((y0 * 256 + m : Nat) : Int) = (y0 : Int) * 256 + (m : Int) by omega]; rfl)), Blk.drew (HR.out.2.2.far (by show w.heap.size ≠ w.heap.size + 1; omega) _)⟩, by simp [intOf]⟩))
    | ((have hy : y1 < 72057594037927936 := by rw [HY.out.2.1]; exact wdB_lt l _ 1 (by decide)); go_wp2; go_region; all_goals go_wp2; all_goals (refine ⟨⟨_, y0, y1 * 256 + m, y2, y3, by decide, rfl, Lib.hid ⟨by rw [HY.out.1]; exact (wdB_same l _ 0 (by decide)).symm, by rw [HY.out.2.1, HM.out]; exact (wdB_step l _ 1 c HC.out (by decide)).symm, by rw [HY.out.2.2.1]; exact (wdB_same l _ 2 (by decide)).symm, by rw [HY.out.2.2.2]; exact (wdB_same l _ 3 (by decide)).symm⟩, (HR.out.1.setCell (by show w.heap.size ≤ w.heap.size + 1; omega) _).drew, Blk.drew (Blk.eq_ (HR.out.2.1.set_ 2 _) (by rw [show ((y1 * 256 + m : Nat) : Int) = (y1 : Int) * 256 + (m : Int) by omega]; rfl)), Blk.drew (HR.out.2.2.far (by show w.heap.size ≠ w.heap.size + 1; omega) _)⟩, by simp [intOf]⟩))
    | ((have hy : y2 < 72057594037927936 := by rw [HY.out.2.2.1]; exact wdB_lt l _ 2 (by decide)); go_wp2; go_region; all_goals go_wp2; all_goals (refine ⟨⟨_, y0, y1, y2 * 256 + m, y3, by decide, rfl, Lib.hid ⟨by rw [HY.out.1]; exact (wdB_same l _ 0 (by decide)).symm, by rw [HY.out.2.1]; exact (wdB_same l _ 1 (by decide)).symm, by rw [HY.out.2.2.1, HM.out]; exact (wdB_step l _ 2 c HC.out (by decide)).symm, by rw [HY.out.2.2.2]; exact (wdB_same l _ 3 (by decide)).symm⟩, (HR.out.1.setCell (by show w.heap.size ≤ w.heap.size + 1; omega) _).drew, Blk.drew (Blk.eq_ (HR.out.2.1.set_ 1 _) (by rw [show ((y2 * 256 + m : Nat) : Int) = (y2 : Int) * 256 + (m : Int) by omega]; rfl)), Blk.drew (HR.out.2.2.far (by show w.heap.size ≠ w.heap.size + 1; omega) _)⟩, by simp [intOf]⟩))
    | ((have hy : y3 < 72057594037927936 := by rw [HY.out.2.2.2]; exact wdB_lt l _ 3 (by decide)); go_wp2; go_region; all_goals go_wp2; all_goals (refine ⟨⟨_, y0, y1, y2, y3 * 256 + m, by decide, rfl, Lib.hid ⟨by rw [HY.out.1]; exact (wdB_same l _ 0 (by decide)).symm, by rw [HY.out.2.1]; exact (wdB_same l _ 1 (by decide)).symm, by rw [HY.out.2.2.1]; exact (wdB_same l _ 2 (by decide)).symm, by rw [HY.out.2.2.2, HM.out]; exact (wdB_step l _ 3 c HC.out (by decide)).symm⟩, (HR.out.1.setCell (by show w.heap.size ≤ w.heap.size + 1; omega) _).drew, Blk.drew (Blk.eq_ (HR.out.2.1.set_ 0 _) (by rw [show ((y3 * 256 + m : Nat) : Int) = (y3 : Int) * 256 + (m : Int) by omega]; rfl)), Blk.drew (HR.out.2.2.far (by show w.heap.size ≠ w.heap.size + 1; omega) _)⟩, by simp [intOf]⟩))
  ·have p1 : ¬ (k : Int) < 32 := by omega
   obtain rfl : k = 32 := by omega
   have b0 : y0 < 18446744073709551616 := by rw [HY.out.1]; exact wdB_lt8 l _ _
   have b1 : y1 < 18446744073709551616 := by rw [HY.out.2.1]; exact wdB_lt8 l _ _
   have b2 : y2 < 18446744073709551616 := by rw [HY.out.2.2.1]; exact wdB_lt8 l _ _
   have b3 : y3 < 18446744073709551616 := by rw [HY.out.2.2.2]; exact wdB_lt8 l _ _
   obtain ⟨z, hz⟩ : ∃ z, z = y3 + 18446744073709551616 * y2 + 340282366920938463463374607431768211456 * y1 + 6277101735386680763835789423207666416102355444464034512896 * y0 := ⟨_, rfl⟩
   have fz := fv_mk y3 y2 y1 y0 b3 b2 b1 b0
   rw [← hz] at fz
   have hzv : valB l = z := by rw [wdB_all l HL.out, hz, HY.out.1, HY.out.2.1, HY.out.2.2.1, HY.out.2.2.2]
   have HZ := Lib.hid hzv
   have FZ := Lib.hid fz.symm
   have HP := Lib.hid hP
   have HR := Lib.hid hR
   clear HY b0 b1 b2 b3 hz fz hzv q0 q1 q2 q3 ff hP hR
   go_wp2_with (first | ((with_reducible refine here_load (d := some 31) ?_); refine wpList_load_fv rfl _ _ rfl (w.heap.size + 1) rfl (z) _ _ _ (HP.out) (FZ.out) Tryz.underlying89 rfl (by kernel_rfl) ?_) | ((with_reducible refine here_store ?_); refine wpList_store_blk rfl _ _ _ rfl (w.heap.size) (fcs (z)) rfl rfl _ _ (HR.out) (by kernel_rfl) (by rfl) (fcs_one _) ?_; intro vz hLz hqz hKz))
   exact bodyPost_ret (results_cell_row rfl _ _ w.heap.size _ _ (0, 0) _ rfl hLz Tryz.underlying89 rfl (by kernel_rfl)) rfl ⟨by rw [HZ.out]; rfl, hb.trans (hqz _ (by omega))⟩
end Go.Proofs.YtbofhoonlmikcaaGreatDoor

end
section
namespace Go.Proofs.YtbofhoonlmikcaaGreatDoor.Cu
open Go.RowKit Go.Proofs.YtbofhoonlmikcaaGreatDoor Go.Proofs.YtbofhoonlmikcaaGreatDoor.Sy

theorem own_cellE {w : World} {g : Nat} {t : TypeId} {m : List UInt8} {sp : List Value} (hb : Blk w g t (m.map bv ++ sp).toArray) (j : Nat) (u : UInt8) (hj : m[j]? = some u) : w.cell? ⟨g, j, none⟩ = some (bv u) := by
 refine (hb.cell j).trans ?_
 have hl := (List.getElem?_eq_some_iff.1 hj).1
 rw [List.getElem?_toArray, List.getElem?_append_left (by rw [List.length_map]; exact hl), List.getElem?_map, hj]
 rfl
set_option maxHeartbeats 4000000 in
set_option maxRecDepth 100000 in
theorem liftR_any (w : World) (l : List UInt8) (hl : l.length = 32) : Calls Tryz.prog 53 #[.agg (l.map bv).toArray] w (Gets w (.tuple #[ptv (liftP l), .bool (liftB l)])) := by
 have hv := valB_lt32 l hl
 refine Sy.enter (args := [.agg (l.map bv).toArray]) Tryz.func53 rfl kL ?_
 refine sC ?_
 refine sM 31 (l.map bv).toArray (fun g0 => ?_)
 refine sM 52 (pcs 0 0 false) (fun g1 => ?_)
 refine sP (.bool false) ?_
 refine sA ?_
 refine sP (.slice none 0 0) ?_
 refine sG <| Sy.seq <| sC ?_
 refine sP (.int .i64 0) ?_
 refine sG <| Sy.block ?_
 refine Sy.loopN (31 + 1 + 1) ?_
 refine Sy.round <| Sy.seq <| sC ?_
 refine sP (.int .i64 0) <| sP (.bool true) ?_
 refine sG <| sT <| Sy.skip <| Sy.then_ <| Sy.seq <| Sy.block <| Sy.region ?_
 refine sP (.slice none 0 0) <| sP (.int .i64 0) <| sP (.pointer (some ⟨g0, 0, none⟩)) <| sS (bv (l.getD 0 0)) (Quiet.cell 0 g0 0 31 5 (l.map bv).toArray _ _ rfl kR kR Tryz.underlying5 rfl _ (key_at l hl 0 (by decide))) ?_
 refine Sy.make kR 5 #[bv (l.getD 0 0)] (fun g => .slice (some ⟨g, 0, none⟩) 1 1) kF (fun g2 => ?_)
 refine Sy.appendNil kR 25 5 _ _ Tryz.underlying25 info_u8 rfl rfl rfl rfl _ _ rfl kR 2 g2 0 1 1 5 #[bv (l.getD 0 0)] [bv (l.getD 0 0)] kR kR kR rfl (by decide) (by intro u hu; simp only [List.mem_cons, List.not_mem_nil, or_false] at hu; subst hu; rfl) (by decide) (fun q1 c1 s1 e1 m1 => ?_)
 refine sP (.slice (some ⟨q1, 0, none⟩) 1 c1) ?_
 refine Sy.nil <| Sy.in_ <| Sy.then_ <| Sy.region ?_
 refine sP (.int .i64 0) <| sP (.int .i64 1) <| sP (.int .i64 1) ?_
 refine Sy.nil <| Sy.again ?_
 refine Sy.loopXR (T := Nat × Nat × List Value) 31 (fun k1 y1 => [(1, .pointer (some ⟨g0, 0, none⟩)), (2, .pointer (some ⟨g1, 0, none⟩)), (4, .slice (some ⟨y1.1, 0, none⟩) (k1 + 1) y1.2.1), (5, .int .i64 ((k1 + 1 : Nat) : Int))]) (fun k1 y1 => [(g0, 31, (l.map bv).toArray), (g1, 52, (pcs 0 0 false)), (y1.1, 5, ((l.take k1).map bv ++ ([bv (l.getD k1 0)] ++ y1.2.2)).toArray)]) (fun k1 y1 => y1.2.2.length + (k1 + 1) = y1.2.1 ∧ y1.2.1 ≤ maxLen) (q1, c1, s1) [true, true, false, true] ⟨e1, m1⟩ (all_cons kR (all_cons kR (all_cons kR (all_cons kR all_nil)))) kR (fun k1 y1 hk1 hh1 => ?_)
 refine Sy.seq <| sC ?_
 refine sP (.int .i64 ((k1 + 1 : Nat) : Int)) ?_
 obtain ⟨b1, hb1⟩ : ∃ z : Bool, z = decide (k1 + 1 < 32) := ⟨_, rfl⟩
 refine sS (.bool b1) (Quiet.pure (exec_int .lss _ _ _ .i64 _ _ _ rfl rfl rfl (int_lss _ _ _ _ _ (by rw [hb1]; exact decide_eq_decide.2 (by omega))))) ?_
 refine sG ?_
 cases b1
 ·have lb1 : ¬ (k1 + 1 < 32) := of_decide_eq_false hb1.symm
  refine sU <| Sy.exit <| Sy.then_exit <| Sy.then_exit ?_
  obtain rfl : k1 = 31 := by omega
  have hcp : 32 ≤ y1.2.1 ∧ y1.2.1 ≤ 9223372036854775807 := by
   have q := hh1
   simp only [maxLen] at q
   exact ⟨by omega, by omega⟩
  refine Sy.in_exit <| Sy.then_ ?_
  refine Sy.tidyC (G := [(1, .pointer (some ⟨g0, 0, none⟩)), (2, .pointer (some ⟨g1, 0, none⟩)), (4, .slice (some ⟨y1.1, 0, none⟩) 32 y1.2.1)]) (N := [(g0, 31, (l.map bv).toArray), (g1, 52, (pcs 0 0 false)), (y1.1, 5, (l.map bv ++ y1.2.2).toArray)]) [true, true, true] rfl (bcons rfl (bcons rfl (bcons (beq (congrArg List.toArray (apd_full l 31 hl))) rfl))) (all_cons kR (all_cons kR (all_cons kR all_nil))) ?_
  refine sC ?_
  refine sP (.slice (some ⟨y1.1, 0, none⟩) 32 y1.2.1) <| sS (fv (valB l)) (qG 54 #[.slice (some ⟨y1.1, 0, none⟩) 32 y1.2.1] (fun w hw => numberR_any w y1.1 y1.2.1 l hl (hw.get (i := 2) rfl).lt (own_cellE (hw.get (i := 2) rfl)) hcp.1 hcp.2)) ?_
  refine sM 89 (fcs 0) (fun g3 => ?_)
  refine sW 3 g3 89 (fcs 0) (fcs (valB l)) (wS 0 89 (fcs (valB l)) rfl) ?_
  refine sA ?_
  refine sS (fv (valB l)) (qL 3 g3 0 4 89 89 (fcs (valB l)) rfl Tryz.underlying89) ?_
  obtain ⟨z1, hz1⟩ : ∃ z : Nat, z = cubeN (valB l) := ⟨_, rfl⟩
  have lz1 : z1 < K4 := by rw [hz1]; exact cubeN_lt _
  refine sS (fv z1) (qF 109 #[fv (valB l)] (fun w => by rw [hz1]; exact cubeR_n w (valB l) lK)) ?_
  obtain ⟨r1, hr1⟩ : ∃ z : Nat, z = (sqrtS z1).1 := ⟨_, rfl⟩
  obtain ⟨k1, hk1⟩ : ∃ z : Bool, z = (sqrtS z1).2 := ⟨_, rfl⟩
  have lr1 : r1 < K4 := by rw [hr1]; exact sqrt_lt _
  refine sS (.tuple #[fv r1, .bool k1]) (qF 108 #[fv z1] (fun w => by rw [hr1, hk1, ← sqrt_is]; exact sqrtR_any w z1 lK)) <| sP (.tuple #[fv r1, .bool k1]) <| sP (fv r1) <| sP (.bool k1) ?_
  refine sM 89 (fcs 0) (fun g4 => ?_)
  refine sW 4 g4 89 (fcs 0) (fcs r1) (wS 0 89 (fcs r1) rfl) <| sP (.bool k1) ?_
  refine sH (fun j => false) ?_
  refine sD 0 rfl (.agg modcs) (qF 56 #[] (refP_any)) <| sD 1 rfl (fv (valB l)) (qL 3 g3 0 4 89 89 (fcs (valB l)) rfl Tryz.underlying89) ?_
  obtain ⟨b2, hb2⟩ : ∃ z : Bool, z = decide ((valB l) < pM) := ⟨_, rfl⟩
  refine sD 2 rfl (.bool b2) (qF 55 #[.agg modcs, fv (valB l)] (fun w => by rw [hb2]; exact rightR_any w (valB l) lK)) <| sZ 3 rfl (.bool b2) ?_
  refine sI ?_
  refine Sy.seq <| sC ?_
  refine sP (.bool k1) ?_
  cases k1
  ·refine sP (.bool true) <| sP (.bool true) ?_
   refine sN <| sN ?_
   refine sP (.bool true) ?_
   refine sG <| sT <| sC ?_
   refine sS (pv 0 0 true) (qF 62 #[] (zeroR_c)) <| sW 1 g1 52 (pcs 0 0 false) (pcs 0 0 true) (wS 0 52 (pcs 0 0 true) rfl) <| sP (.bool false) ?_
   refine sG <| Sy.ret <| Sy.then_ret ?_
   rw [show (.tuple #[ptv (liftP l), .bool (liftB l)] : Value) = .tuple #[pv 0 0 true, .bool false] from by
    have hb : liftB l = false := by unfold liftB; rw [← hz1, ← hk1]; simp
    rw [hb, lift_no hb]; rfl]
   exact Sy.ret2 (v := pv 0 0 true) (u := .bool false) rfl (.inl (Res.cell (ty' := 52) g1 1 (pcs 0 0 true) _ kR kR Tryz.underlying52 rfl kR kR)) (.inl (show _ = _ by kernel_rfl))
  ·refine sP (.bool false) <| sP (.bool false) <| sP (.bool b2) ?_
   cases b2
   ·refine sP (.bool true) <| sP (.bool true) ?_
    refine sG <| sT <| sC ?_
    refine sS (pv 0 0 true) (qF 62 #[] (zeroR_c)) <| sW 1 g1 52 (pcs 0 0 false) (pcs 0 0 true) (wS 0 52 (pcs 0 0 true) rfl) <| sP (.bool false) ?_
    refine sG <| Sy.ret <| Sy.then_ret ?_
    rw [show (.tuple #[ptv (liftP l), .bool (liftB l)] : Value) = .tuple #[pv 0 0 true, .bool false] from by
     have hb : liftB l = false := by unfold liftB; rw [← hb2]; simp
     rw [hb, lift_no hb]; rfl]
    exact Sy.ret2 (v := pv 0 0 true) (u := .bool false) rfl (.inl (Res.cell (ty' := 52) g1 1 (pcs 0 0 true) _ kR kR Tryz.underlying52 rfl kR kR)) (.inl (show _ = _ by kernel_rfl))
   ·refine sP (.bool false) <| sP (.bool false) ?_
    refine sG <| sU <| Sy.skip <| sB ?_
    refine sS (fv (valB l)) (qL 3 g3 0 4 89 89 (fcs (valB l)) rfl Tryz.underlying89) <| sS (fv r1) (qL 4 g4 0 4 89 89 (fcs r1) rfl Tryz.underlying89) <| sS (pv (valB l) r1 false) (qF 95 #[fv (valB l), fv r1] (fun w => pointR_c w (valB l) r1 lK lK)) <| sW 1 g1 52 (pcs 0 0 false) (pcs (valB l) r1 false) (wS 0 52 (pcs (valB l) r1 false) rfl) <| sP (.bool true) ?_
    refine sG <| Sy.ret ?_
    rw [show (.tuple #[ptv (liftP l), .bool (liftB l)] : Value) = .tuple #[pv (valB l) r1 false, .bool true] from by
     have hb : liftB l = true := by unfold liftB; rw [← hz1, ← hk1, ← hb2]; rfl
     obtain ⟨u2, y2, e1, e2, e3, _, _⟩ := lift_yes hb
     rw [hb, e3]
     unfold ptv
     simp only
     rw [e1, e2, ← hz1, ← hr1]]
    exact Sy.ret2 (v := pv (valB l) r1 false) (u := .bool true) rfl (.inl (Res.cell (ty' := 52) g1 1 (pcs (valB l) r1 false) _ kR kR Tryz.underlying52 rfl kR kR)) (.inl (show _ = _ by kernel_rfl))
 ·have lb1 : k1 + 1 < 32 := of_decide_eq_true hb1.symm
  refine sT <| Sy.skip <| Sy.then_ <| Sy.seq <| Sy.block <| Sy.region ?_
  refine sP (.slice (some ⟨y1.1, 0, none⟩) (k1 + 1) y1.2.1) <| sP (.int .i64 ((k1 + 1 : Nat) : Int)) <| sS (.pointer (some ⟨g0, 0 + (k1 + 1) * 1, none⟩)) (Quiet.pure (exec_atA 31 _ _ _ g0 0 _ (k1 + 1) 1 .i64 rfl rfl rfl Tryz.underlying31 kF (by omega))) <| sS (bv (l.getD (k1 + 1) 0)) (Quiet.cell 0 g0 (0 + (k1 + 1) * 1) 31 5 (l.map bv).toArray _ _ rfl kR kR Tryz.underlying5 rfl _ (key_sym hl (k := k1 + 1) (by omega) (by omega))) ?_
  refine Sy.make kR 5 #[bv (l.getD (k1 + 1) 0)] (fun g => .slice (some ⟨g, 0, none⟩) 1 1) kF (fun g5 => ?_)
  refine Sy.append kR 25 5 _ _ Tryz.underlying25 info_u8 rfl rfl rfl rfl _ _ rfl 2 y1.1 (k1 + 1) y1.2.1 ((l.take k1).map bv ++ ([bv (l.getD k1 0)] ++ y1.2.2)).toArray ((l.take (k1 + 1)).map bv) kR kR (apd_take l k1 hl y1.2.2 (by omega)) (apd_len l k1 hl (by omega)) (apd_size l k1 hl y1.2.2 hh1.1 (by omega)) hh1.2 3 g5 0 1 1 5 #[bv (l.getD (k1 + 1) 0)] [bv (l.getD (k1 + 1) 0)] kR kR kR rfl (by intro u hu; simp only [List.mem_cons, List.not_mem_nil, or_false] at hu; subst hu; rfl) (by omega) (fun q2 c2 s2 e2 m2 => ?_)
  refine sP (.slice (some ⟨q2, 0, none⟩) (k1 + 1 + 1) c2) ?_
  refine Sy.nil <| Sy.in_ <| Sy.then_ <| Sy.region ?_
  refine sP (.int .i64 ((k1 + 1 : Nat) : Int)) <| sS (.int .i64 (((k1 + 1) + 1 : Nat) : Int)) (Quiet.pure (exec_int .add _ _ _ .i64 _ _ _ rfl rfl rfl (int_add _ _ _ _ _ ((wrap_i64 (by omega) (by omega)).trans (by omega))))) <| sP (.int .i64 (((k1 + 1) + 1 : Nat) : Int)) ?_
  refine Sy.nil ?_
  exact Sy.againX ((q2, c2, s2)) [true, true, true, false] (by omega) (⟨e2, m2⟩) (all_cons kR (all_cons kR (all_cons kR (all_cons kR all_nil)))) kR
end Go.Proofs.YtbofhoonlmikcaaGreatDoor.Cu

end
section
namespace Go.Proofs.YtbofhoonlmikcaaGreatDoor.Cu
open Go.RowKit Go.Proofs.YtbofhoonlmikcaaGreatDoor Go.Proofs.YtbofhoonlmikcaaGreatDoor.Sy
set_option maxRecDepth 100000
set_option maxHeartbeats 4000000

section
variable {P : Program} {w0 : Base} {F : Slots} {L : Blocks} {o : Oper}
theorem Quiet.read {v : Value} (h : ∀ w, St w0 w L → (execOp (evF F) o).run P w = .ok (.value v) w) : Quiet P w0 F L o v := fun w hw => by
 unfold Gives; rw [h w hw]; exact ⟨rfl, Gr.refl _⟩
end
theorem str_of {w : World} {A : Option Addr} {m : List UInt8} {c : Nat} (h : Src w A m) (hm : m ≠ []) :
  (convert 25 9 (.slice A m.length c)).run Tryz.prog w = .ok (.string ⟨m.toArray⟩) w := by
 obtain ⟨b, o, rfl, _, hc⟩ := h hm
 refine run_convert_bytes_back w 25 9 5 _ c m Tryz.underlying25 Tryz.underlying5 Tryz.underlying9 (fun j hj => ?_)
 rw [addr_off]
 exact hc j _ (List.getElem?_eq_getElem hj)
theorem str_src {w0 : Base} {F : Slots} {L : Blocks} {o : Oper} (A : Option Addr) (m : List UInt8) (k c : Nat) (x : Operand) (ho : o.op = .convert 25 9 x) (hx : evF F x = .slice A k c) (hm : m.length = k) (hk : k ≠ 0) (hs : Src w0.world A m) : Quiet Tryz.prog w0 F L o (.string ⟨m.toArray⟩) := Quiet.read fun w hw => by
 have h := str_of (c := c) (hs.below hw.below) (by intro e; rw [e] at hm; exact hk hm.symm)
 rw [hm] at h
 unfold execOp
 simp only [ho, hx, Sem.run_bind, h, Result.andThen_ok, Sem.run_pure]
theorem eql_str (w : World) (F : Slots) (o : Oper) (x y : Operand) (a b : List UInt8) {yt : TypeId} (ho : o.op = .binOp .eql 9 x y yt) (hx : evF F x = .string ⟨a.toArray⟩) (hy : evF F y = .string ⟨b.toArray⟩) : (execOp (evF F) o).run Tryz.prog w = .ok (.value (.bool (decide (a = b)))) w := by
 have h1 : (eqGuard .eql 9 x y (.string ⟨a.toArray⟩) (.string ⟨b.toArray⟩)).run Tryz.prog w = .ok () w := by go_simp
 have h2 : (binOp .eql 9 (.string ⟨a.toArray⟩) (.string ⟨b.toArray⟩)).run Tryz.prog w = .ok (.bool (decide (a = b))) w := by
  by_cases e : a = b <;> simp [go_sem, ByteArray.toList_eq, e]
 unfold execOp
 simp only [ho, hx, hy, Sem.run_bind, h1, h2, Result.andThen_ok, Sem.run_pure]
end Go.Proofs.YtbofhoonlmikcaaGreatDoor.Cu

end
section
namespace Go.Proofs.YtbofhoonlmikcaaGreatDoor.Cu
open Go.RowKit Go.Proofs.YtbofhoonlmikcaaGreatDoor Go.Proofs.YtbofhoonlmikcaaGreatDoor.Sy
set_option maxRecDepth 100000
set_option maxHeartbeats 4000000

theorem equal_any (w : World) (A A2 : Option Addr) (l m : List UInt8) (n k c d : Nat) (hl : l.length = n) (hm : m.length = k) (hn : n ≠ 0) (hk : k ≠ 0) (hs : Src w A l) (ht : Src w A2 m) : Calls Tryz.prog 107 #[.slice A n c, .slice A2 k d] w (Gets w (.bool (decide (l = m)))) := by
 refine Sy.enter (args := [.slice A n c, .slice A2 k d]) Tryz.func107 rfl kL ?_
 refine sC ?_
 refine sP (.bool false) ?_
 refine sA ?_
 refine sP (.slice A n c) <| sS (.string ⟨l.toArray⟩) (str_src A l n c _ rfl rfl hl hn hs) <| sP (.slice A2 k d) <| sS (.string ⟨m.toArray⟩) (str_src A2 m k d _ rfl rfl hm hk ht) <| sS (.bool (decide (l = m))) (Quiet.pure (fun w => eql_str w _ _ _ _ l m rfl rfl rfl)) <| sP (.bool (decide (l = m))) ?_
 refine sG <| Sy.ret ?_
 exact rV (.bool (decide (l = m))) rfl
theorem src_part {w : World} {g : Nat} {t : TypeId} {l : List UInt8} (hb : Blk w g t (l.map bv).toArray) (k n : Nat) : Src w (some ⟨g, k, none⟩) ((l.drop k).take n) := fun _ => ⟨g, k, rfl, hb.lt, fun j u hj => by
 refine (hb.cell (k + j)).trans ?_
 rw [List.getElem?_take] at hj
 split at hj
 ·rw [List.getElem?_drop] at hj
  rw [List.getElem?_toArray, List.getElem?_map, hj]
  rfl
 ·cases hj⟩
theorem key_part {l : List UInt8} (k n : Nat) : Value.agg ((((l.map bv).toArray).toList.drop k).take n).toArray = .agg (((l.drop k).take n).map bv).toArray := by
 rw [List.map_take, List.map_drop]
theorem part_size {l : List UInt8} {N : Nat} (h : l.length = N) {k n : Nat} (hk : k + n ≤ N) : k + n ≤ ((l.map bv).toArray).size := by
 rw [key_sz l h]; exact hk
theorem part_len {l : List UInt8} {N : Nat} (h : l.length = N) {k n : Nat} (hk : k + n ≤ N) : ((l.drop k).take n).length = n := by
 rw [List.length_take, List.length_drop, h]; omega
def trl (k x y : Nat) (i : Bool) : List Value := fws k ++ (fws x ++ (fws y ++ [Value.bool i]))
def two (z e px py : Nat) (pi : Bool) (j : Nat) : Trm := if j = 0 then ⟨z, gx.val, gy.val, false⟩ else ⟨e, px, py, pi⟩
def rPt (z e px py : Nat) (pi : Bool) : Pt := Ec.add finv (Ec.nm finv (z % Sc.pM) bP) (Ec.nm finv (e % Sc.pM) (dec px py pi))
theorem rPt_on (z e px py : Nat) (pi : Bool) : Ec.On (rPt z e px py pi) := Ec.On.add fld (bP_on.nm fld _) ((dec_on _ _ _).nm fld _)
theorem two_c (w : World) (g : Nat) (t : TypeId) (z e px py : Nat) (pi : Bool) (hz : z < K4) (he : e < K4) (hx : px < K4) (hy : py < K4) (hb : Blk w g t (trl z gx.val gy.val false ++ trl e px py pi).toArray) : Calls Tryz.prog 65 #[.slice (some ⟨g, 0, none⟩) 2 2] w (Gets w (ptv (rPt z e px py pi))) := by
 have hr : w.rangeAt g 0 (trl z gx.val gy.val false ++ trl e px py pi) := blk_range hb (by rw [List.drop_zero]; exact List.take_of_length_le (Nat.le_refl _))
 have h := multi_any w (some ⟨g, 0, none⟩) g 0 2 2 (two z e px py pi) (Nat.le_refl _) (by decide) (fun j => by
  unfold two
  split
  ·exact ⟨hz, lt4 _, lt4 _⟩
  ·exact ⟨he, hx, hy⟩) (fun _ => ⟨rfl, hb.lt, fun j hj => by
  rcases j with _ | _ | j
  ·exact range_left hr
  ·exact range_right hr rfl
  ·omega⟩)
 have e0 : Ec.sumL finv (fun t => Ec.nm finv (two z e px py pi t).kn (two z e px py pi t).pt) (List.range 2) = rPt z e px py pi := by
  have d0 : dec gx.val gy.val false = bP := dec_fin gx gy bP_on
  unfold rPt
  rw [← d0]
  show Ec.add finv (Ec.add finv none (Ec.nm finv (z % Sc.pM) (dec gx.val gy.val false))) (Ec.nm finv (e % Sc.pM) (dec px py pi)) = _
  rw [Ec.zero_add]
 rw [e0] at h
 exact h
def ansB (s : List UInt8) (e px py : Nat) (pi : Bool) : Bool :=
 (Sc.readS ((s.drop 32).take 32)).2 && (decide ((encS (rPt (Sc.readS ((s.drop 32).take 32)).1 (Sc.negP e) px py pi)).getD 0 0 = UInt8.ofNat 2) && decide (((encS (rPt (Sc.readS ((s.drop 32).take 32)).1 (Sc.negP e) px py pi)).drop 1).take 32 = (s.drop 0).take 32))
theorem readS_lt (l : List UInt8) : (Sc.readS l).1 < K4 := by
 unfold Sc.readS
 split
 ·exact Nat.lt_trans (by assumption) (by decide)
 ·show 0 < _; decide
theorem enc_any' (w : World) {R : Pt} (h : Ec.On R) : Calls Tryz.prog 80 #[pv (pX R) (pY R) (pI R)] w (Gets w (.agg ((encS R).map bv).toArray)) := by
 have q := enc_any w (pX R) (pY R) (pI R) (pX_lt R) (pY_lt R)
 rw [dec_parts h] at q
 exact q
theorem answers_any (w : World) (s : List UInt8) (hs : s.length = 64) (e : Nat) (he : e < K4) (px py : Nat) (pi : Bool) (hpx : px < K4) (hpy : py < K4) : Calls Tryz.prog 51 #[.agg (s.map bv).toArray, fv e, pv px py pi] w (Gets w (.bool (ansB s e px py pi))) := by
 refine Sy.enter (args := [.agg (s.map bv).toArray, fv e, pv px py pi]) Tryz.func51 rfl kL ?_
 refine sC ?_
 refine sM 27 (s.map bv).toArray (fun g0 => ?_)
 refine sM 24 (fcs e) (fun g1 => ?_)
 refine sM 52 (pcs px py pi) (fun g2 => ?_)
 refine sP (.bool false) ?_
 refine sA ?_
 refine sP (.slice (some ⟨g0, 32, none⟩) 32 32) <| sP (.pointer (some ⟨g0, 32, none⟩)) <| sS (.agg (((s.drop 32).take 32).map bv).toArray) (Quiet.load 0 g0 32 32 27 30 (s.map bv).toArray _ _ rfl kR kR Tryz.underlying30 rfl kR _ (key_part 32 32) (part_size hs (by decide))) ?_
 obtain ⟨b1, hb1⟩ : ∃ z : Bool, z = (Sc.readS ((s.drop 32).take 32)).2 := ⟨_, rfl⟩
 refine sS (.tuple #[fv ((Sc.readS ((s.drop 32).take 32)).1), .bool b1]) (qF 106 #[.agg (((s.drop 32).take 32).map bv).toArray] (fun w => by rw [hb1]; exact Sc.read_any w _ (part_len hs (by decide)))) <| sP (.tuple #[fv ((Sc.readS ((s.drop 32).take 32)).1), .bool b1]) <| sP (fv ((Sc.readS ((s.drop 32).take 32)).1)) <| sP (.bool b1) ?_
 refine sM 24 (fcs 0) (fun g3 => ?_)
 refine sW 3 g3 24 (fcs 0) (fcs ((Sc.readS ((s.drop 32).take 32)).1)) (wS 0 24 (fcs ((Sc.readS ((s.drop 32).take 32)).1)) rfl) <| sP (.bool b1) ?_
 refine sG <| Sy.seq <| sC ?_
 refine sP (.bool b1) ?_
 cases b1
 ·refine sP (.bool true) ?_
  refine sG <| sT <| sC ?_
  refine sP (.bool false) ?_
  refine sG <| Sy.ret <| Sy.then_ret ?_
  rw [show (.bool (ansB s e px py pi) : Value) = .bool false from by unfold ansB; rw [← hb1]; rfl]
  exact rV (.bool false) rfl
 ·refine sP (.bool false) ?_
  refine sG <| sU <| Sy.skip ?_
  refine sR (fun j => j == 11) ?_
  refine sD 0 rfl (fv ((Sc.readS ((s.drop 32).take 32)).1)) (qL 3 g3 0 4 24 24 (fcs ((Sc.readS ((s.drop 32).take 32)).1)) rfl Tryz.underlying24) <| sD 1 rfl (pv gx.val gy.val false) (qF 67 #[] (base_c)) <| sZ 2 rfl (trv ((Sc.readS ((s.drop 32).take 32)).1) gx.val gy.val false) <| sD 3 rfl (fv e) (qL 1 g1 0 4 24 24 (fcs e) rfl Tryz.underlying24) <| sD 4 rfl (fv (Sc.negP e)) (qF 81 #[fv e] (fun w => Sc.negF_any w e he)) <| sD 5 rfl (pv px py pi) (qL 2 g2 0 9 52 52 (pcs px py pi) rfl Tryz.underlying52) <| sZ 6 rfl (trv (Sc.negP e) px py pi) ?_
  refine Sy.joinD (fun gq => [(0, .agg (s.map bv).toArray), (1, fv e), (2, pv px py pi), (3, .pointer (some ⟨g0, 0, none⟩)), (4, .pointer (some ⟨g1, 0, none⟩)), (5, .pointer (some ⟨g2, 0, none⟩)), (6, .bool false), (7, .pointer (some ⟨g3, 0, none⟩)), (8, .bool true), (9, .pointer (some ⟨(gq 1), 0, none⟩)), (10, .tuple #[fv ((Sc.readS ((s.drop 32).take 32)).1), .bool true]), (11, .slice (some ⟨g0, 32, none⟩) 32 32), (12, .pointer (some ⟨g0, 32, none⟩)), (13, .agg (((s.drop 32).take 32).map bv).toArray), (14, .tuple #[fv ((Sc.readS ((s.drop 32).take 32)).1), .bool true]), (15, fv ((Sc.readS ((s.drop 32).take 32)).1)), (16, .bool true), (17, .bool true), (18, .bool false), (19, fv ((Sc.readS ((s.drop 32).take 32)).1)), (20, pv gx.val gy.val false), (21, trv ((Sc.readS ((s.drop 32).take 32)).1) gx.val gy.val false), (22, fv e), (23, fv (Sc.negP e)), (24, pv px py pi), (25, trv (Sc.negP e) px py pi), (26, .slice (some ⟨(gq 0), 0, none⟩) 2 2), (27, pv (pX (rPt (Sc.readS ((s.drop 32).take 32)).1 (Sc.negP e) px py pi)) (pY (rPt (Sc.readS ((s.drop 32).take 32)).1 (Sc.negP e) px py pi)) (pI (rPt (Sc.readS ((s.drop 32).take 32)).1 (Sc.negP e) px py pi))), (28, .agg ((encS (rPt (Sc.readS ((s.drop 32).take 32)).1 (Sc.negP e) px py pi)).map bv).toArray)]) (fun gq => [(g0, 27, (s.map bv).toArray), (g1, 24, (fcs e)), (g2, 52, (pcs px py pi)), (g3, 24, (fcs ((Sc.readS ((s.drop 32).take 32)).1))), ((gq 0), 105, (trl ((Sc.readS ((s.drop 32).take 32)).1) gx.val gy.val false ++ (trl (Sc.negP e) px py pi)).toArray), ((gq 1), 118, (Zl 33).toArray)]) 1 #[true, true, true, true, true, true, true, true, true, true, true, false] (fun gq => ?_) (fun fin => ?_)
  ·refine Sy.writeD 11 rfl kR (by rfl) kR 5 (gq 1) 118 (Zl 33).toArray ((encS (rPt (Sc.readS ((s.drop 32).take 32)).1 (Sc.negP e) px py pi)).map bv).toArray kR (Writes.store 0 118 ((encS (rPt (Sc.readS ((s.drop 32).take 32)).1 (Sc.negP e) px py pi)).map bv).toArray _ _ rfl kR kR (by rw [key_sz (encS (rPt (Sc.readS ((s.drop 32).take 32)).1 (Sc.negP e) px py pi)) (encS_length _)]; kernel_rfl) (by rw [key_sz (encS (rPt (Sc.readS ((s.drop 32).take 32)).1 (Sc.negP e) px py pi)) (encS_length _)]; exact Nat.le_of_ble_eq_true kR) (key_one _) (key_set _ _ (by rw [(encS_length _)]; kernel_rfl))) ?_
   refine sE ?_
   refine sR (fun j => false) ?_
   refine sZ 0 rfl (.pointer (some ⟨(gq 1), 0, none⟩)) <| sD 1 rfl (bv ((encS (rPt (Sc.readS ((s.drop 32).take 32)).1 (Sc.negP e) px py pi)).getD 0 0)) (Quiet.cell 5 (gq 1) 0 118 5 ((encS (rPt (Sc.readS ((s.drop 32).take 32)).1 (Sc.negP e) px py pi)).map bv).toArray _ _ rfl kR kR Tryz.underlying5 rfl _ (key_at (encS (rPt (Sc.readS ((s.drop 32).take 32)).1 (Sc.negP e) px py pi)) (encS_length _) 0 (by decide))) ?_
   obtain ⟨b2, hb2⟩ : ∃ z : Bool, z = decide (((encS (rPt (Sc.readS ((s.drop 32).take 32)).1 (Sc.negP e) px py pi)).getD 0 0) = UInt8.ofNat 2) := ⟨_, rfl⟩
   refine sD 2 rfl (.bool b2) (Quiet.pure (fun w => by rw [hb2]; exact eql_u8 w _ _ _ _ _ 2 (by decide) rfl rfl rfl)) <| sZ 3 rfl (.bool b2) ?_
   cases b2
   ·refine sQ 4 rfl <| sQ 5 rfl <| sQ 6 rfl <| sZ 7 rfl (.bool false) <| sZ 8 rfl (.bool false) ?_
    refine sI ?_
    refine Sy.ret ?_
    rw [show (.bool (ansB s e px py pi) : Value) = .bool false from by unfold ansB; rw [← hb1, ← hb2]; rfl]
    exact rV (.bool false) rfl
   ·refine sZ 4 rfl (.slice (some ⟨(gq 1), 1, none⟩) 32 32) <| sZ 5 rfl (.slice (some ⟨g0, 0, none⟩) 32 64) ?_
    obtain ⟨b3, hb3⟩ : ∃ z : Bool, z = decide (((encS (rPt (Sc.readS ((s.drop 32).take 32)).1 (Sc.negP e) px py pi)).drop 1).take 32 = (s.drop 0).take 32) := ⟨_, rfl⟩
    refine sD 6 rfl (.bool b3) (qG 107 #[.slice (some ⟨(gq 1), 1, none⟩) 32 32, .slice (some ⟨g0, 0, none⟩) 32 64] (fun w hw => by rw [hb3]; exact equal_any w _ _ _ _ 32 32 _ _ (part_len (encS_length _) (by decide)) (part_len hs (by decide)) (by decide) (by decide) (src_part (hw.get (i := 5) rfl) 1 32) (src_part (hw.get (i := 0) rfl) 0 32))) <| sZ 7 rfl (.bool b3) <| sZ 8 rfl (.bool b3) ?_
    refine sI ?_
    refine Sy.ret ?_
    rw [show (.bool (ansB s e px py pi) : Value) = .bool b3 from by unfold ansB; rw [← hb1, ← hb2, ← hb3]; rfl]
    exact rV (.bool b3) rfl
  ·refine Sy.anyOf [7, 10] kR (by decide) (Sy.each2 ?_ ?_)
   ·refine Sy.oneMake rfl kR 105 (trl ((Sc.readS ((s.drop 32).take 32)).1) gx.val gy.val false ++ (trl (Sc.negP e) px py pi)).toArray (fun g => .slice (some ⟨g, 0, none⟩) 2 2) kF (fun g4 => ?_)
    refine Sy.anyOf [8, 10] kR (by decide) (Sy.each2 ?_ ?_)
    ·refine Sy.oneQuiet rfl kR (pv (pX (rPt (Sc.readS ((s.drop 32).take 32)).1 (Sc.negP e) px py pi)) (pY (rPt (Sc.readS ((s.drop 32).take 32)).1 (Sc.negP e) px py pi)) (pI (rPt (Sc.readS ((s.drop 32).take 32)).1 (Sc.negP e) px py pi))) (qG 65 #[.slice (some ⟨g4, 0, none⟩) 2 2] (fun w hw => by rw [← ptv_parts]; exact two_c w g4 _ _ _ px py pi (readS_lt _) (Sc.mod_lt _) hpx hpy (hw.get (i := 4) rfl))) ?_
     refine Sy.anyOf [9, 10] kR (by decide) (Sy.each2 ?_ ?_)
     ·refine Sy.oneQuiet rfl kR (.agg ((encS (rPt (Sc.readS ((s.drop 32).take 32)).1 (Sc.negP e) px py pi)).map bv).toArray) (qF 80 #[pv (pX (rPt (Sc.readS ((s.drop 32).take 32)).1 (Sc.negP e) px py pi)) (pY (rPt (Sc.readS ((s.drop 32).take 32)).1 (Sc.negP e) px py pi)) (pI (rPt (Sc.readS ((s.drop 32).take 32)).1 (Sc.negP e) px py pi))] (fun w => enc_any' w (rPt_on _ _ _ _ _))) ?_
      refine Sy.anyOf [10] kR (by decide) (Sy.each1 ?_)
      ·refine Sy.oneMake rfl kR 118 (Zl 33).toArray ptr kF (fun g5 => ?_)
       exact Sy.leafI fin (fun i => if i = 0 then g4 else g5) kR (all_cons kR (all_cons kR (all_cons kR (all_cons kR (all_cons kR (all_cons kR (all_cons kR (all_cons kR (all_cons kR (all_cons kR (all_cons kR (all_cons kR (all_cons kR (all_cons kR (all_cons kR (all_cons kR (all_cons kR (all_cons kR (all_cons kR (all_cons kR (all_cons kR (all_cons kR (all_cons kR (all_cons kR (all_cons kR (all_cons kR (all_cons kR (all_cons kR (all_cons kR all_nil))))))))))))))))))))))))))))) kR
     ·refine Sy.oneMake rfl kR 118 (Zl 33).toArray ptr kF (fun g6 => ?_)
      refine Sy.anyOf [9] kR (by decide) (Sy.each1 ?_)
      ·refine Sy.oneQuiet rfl kR (.agg ((encS (rPt (Sc.readS ((s.drop 32).take 32)).1 (Sc.negP e) px py pi)).map bv).toArray) (qF 80 #[pv (pX (rPt (Sc.readS ((s.drop 32).take 32)).1 (Sc.negP e) px py pi)) (pY (rPt (Sc.readS ((s.drop 32).take 32)).1 (Sc.negP e) px py pi)) (pI (rPt (Sc.readS ((s.drop 32).take 32)).1 (Sc.negP e) px py pi))] (fun w => enc_any' w (rPt_on _ _ _ _ _))) ?_
       exact Sy.leafI fin (fun i => if i = 0 then g4 else g6) kR (all_cons kR (all_cons kR (all_cons kR (all_cons kR (all_cons kR (all_cons kR (all_cons kR (all_cons kR (all_cons kR (all_cons kR (all_cons kR (all_cons kR (all_cons kR (all_cons kR (all_cons kR (all_cons kR (all_cons kR (all_cons kR (all_cons kR (all_cons kR (all_cons kR (all_cons kR (all_cons kR (all_cons kR (all_cons kR (all_cons kR (all_cons kR (all_cons kR (all_cons kR all_nil))))))))))))))))))))))))))))) kR
    ·refine Sy.oneMake rfl kR 118 (Zl 33).toArray ptr kF (fun g7 => ?_)
     refine Sy.anyOf [8] kR (by decide) (Sy.each1 ?_)
     ·refine Sy.oneQuiet rfl kR (pv (pX (rPt (Sc.readS ((s.drop 32).take 32)).1 (Sc.negP e) px py pi)) (pY (rPt (Sc.readS ((s.drop 32).take 32)).1 (Sc.negP e) px py pi)) (pI (rPt (Sc.readS ((s.drop 32).take 32)).1 (Sc.negP e) px py pi))) (qG 65 #[.slice (some ⟨g4, 0, none⟩) 2 2] (fun w hw => by rw [← ptv_parts]; exact two_c w g4 _ _ _ px py pi (readS_lt _) (Sc.mod_lt _) hpx hpy (hw.get (i := 4) rfl))) ?_
      refine Sy.anyOf [9] kR (by decide) (Sy.each1 ?_)
      ·refine Sy.oneQuiet rfl kR (.agg ((encS (rPt (Sc.readS ((s.drop 32).take 32)).1 (Sc.negP e) px py pi)).map bv).toArray) (qF 80 #[pv (pX (rPt (Sc.readS ((s.drop 32).take 32)).1 (Sc.negP e) px py pi)) (pY (rPt (Sc.readS ((s.drop 32).take 32)).1 (Sc.negP e) px py pi)) (pI (rPt (Sc.readS ((s.drop 32).take 32)).1 (Sc.negP e) px py pi))] (fun w => enc_any' w (rPt_on _ _ _ _ _))) ?_
       exact Sy.leafI fin (fun i => if i = 0 then g4 else g7) kR (all_cons kR (all_cons kR (all_cons kR (all_cons kR (all_cons kR (all_cons kR (all_cons kR (all_cons kR (all_cons kR (all_cons kR (all_cons kR (all_cons kR (all_cons kR (all_cons kR (all_cons kR (all_cons kR (all_cons kR (all_cons kR (all_cons kR (all_cons kR (all_cons kR (all_cons kR (all_cons kR (all_cons kR (all_cons kR (all_cons kR (all_cons kR (all_cons kR (all_cons kR all_nil))))))))))))))))))))))))))))) kR
   ·refine Sy.oneMake rfl kR 118 (Zl 33).toArray ptr kF (fun g8 => ?_)
    refine Sy.anyOf [7] kR (by decide) (Sy.each1 ?_)
    ·refine Sy.oneMake rfl kR 105 (trl ((Sc.readS ((s.drop 32).take 32)).1) gx.val gy.val false ++ (trl (Sc.negP e) px py pi)).toArray (fun g => .slice (some ⟨g, 0, none⟩) 2 2) kF (fun g9 => ?_)
     refine Sy.anyOf [8] kR (by decide) (Sy.each1 ?_)
     ·refine Sy.oneQuiet rfl kR (pv (pX (rPt (Sc.readS ((s.drop 32).take 32)).1 (Sc.negP e) px py pi)) (pY (rPt (Sc.readS ((s.drop 32).take 32)).1 (Sc.negP e) px py pi)) (pI (rPt (Sc.readS ((s.drop 32).take 32)).1 (Sc.negP e) px py pi))) (qG 65 #[.slice (some ⟨g9, 0, none⟩) 2 2] (fun w hw => by rw [← ptv_parts]; exact two_c w g9 _ _ _ px py pi (readS_lt _) (Sc.mod_lt _) hpx hpy (hw.get (i := 5) rfl))) ?_
      refine Sy.anyOf [9] kR (by decide) (Sy.each1 ?_)
      ·refine Sy.oneQuiet rfl kR (.agg ((encS (rPt (Sc.readS ((s.drop 32).take 32)).1 (Sc.negP e) px py pi)).map bv).toArray) (qF 80 #[pv (pX (rPt (Sc.readS ((s.drop 32).take 32)).1 (Sc.negP e) px py pi)) (pY (rPt (Sc.readS ((s.drop 32).take 32)).1 (Sc.negP e) px py pi)) (pI (rPt (Sc.readS ((s.drop 32).take 32)).1 (Sc.negP e) px py pi))] (fun w => enc_any' w (rPt_on _ _ _ _ _))) ?_
       exact Sy.leafS (M := [(g0, 27, (s.map bv).toArray), (g1, 24, (fcs e)), (g2, 52, (pcs px py pi)), (g3, 24, (fcs ((Sc.readS ((s.drop 32).take 32)).1)))]) (x := (g9, 105, (trl ((Sc.readS ((s.drop 32).take 32)).1) gx.val gy.val false ++ (trl (Sc.negP e) px py pi)).toArray)) (y := (g8, 118, (Zl 33).toArray)) fin (fun i => if i = 0 then g9 else g8) kR (all_cons kR (all_cons kR (all_cons kR (all_cons kR (all_cons kR (all_cons kR (all_cons kR (all_cons kR (all_cons kR (all_cons kR (all_cons kR (all_cons kR (all_cons kR (all_cons kR (all_cons kR (all_cons kR (all_cons kR (all_cons kR (all_cons kR (all_cons kR (all_cons kR (all_cons kR (all_cons kR (all_cons kR (all_cons kR (all_cons kR (all_cons kR (all_cons kR (all_cons kR all_nil))))))))))))))))))))))))))))) kR kR
end Go.Proofs.YtbofhoonlmikcaaGreatDoor.Cu

end
section
namespace Go.Proofs.YtbofhoonlmikcaaGreatDoor.Cu
open Go.RowKit Go.Proofs.YtbofhoonlmikcaaGreatDoor Go.Proofs.YtbofhoonlmikcaaGreatDoor.Sy

def verB (key m s : List UInt8) : Bool := liftB key && ansB s (chalS ((s.drop 0).take 32) key m) (pX (liftP key)) (pY (liftP key)) (pI (liftP key))
set_option maxHeartbeats 4000000 in
set_option maxRecDepth 100000 in
theorem verify_any (w : World) (key s : List UInt8) (hkey : key.length = 32) (hss : s.length = 64) (A : Option Addr) (m : List UInt8) (n c : Nat) (hn : m.length = n) (hm : n ≤ 999999900) (hc : n ≤ c) (hc2 : c ≤ 9223372036854775807) (hs : Sh.Src w A m) (ht : Sh.TabAt w 1) : Calls Tryz.prog 17 #[.agg (key.map bv).toArray, .slice A n c, .agg (s.map bv).toArray] w (Gets w (.bool (verB key m s))) := by
 refine Sy.enter (args := [.agg (key.map bv).toArray, .slice A n c, .agg (s.map bv).toArray]) Tryz.func17 rfl kL ?_
 refine sC ?_
 refine sM 31 (key.map bv).toArray (fun g0 => ?_)
 refine sM 27 (s.map bv).toArray (fun g1 => ?_)
 refine sP (.bool false) ?_
 refine sA ?_
 refine sS (.agg (key.map bv).toArray) (Quiet.load 0 g0 0 32 31 31 (key.map bv).toArray _ _ rfl kR kR Tryz.underlying31 rfl kR _ (key_whole key hkey) (key_size key hkey)) ?_
 obtain ⟨b1, hb1⟩ : ∃ z : Bool, z = liftB key := ⟨_, rfl⟩
 refine sS (.tuple #[pv (pX (liftP key)) (pY (liftP key)) (pI (liftP key)), .bool b1]) (qF 50 #[.agg (key.map bv).toArray] (fun w => by rw [← ptv_parts, hb1]; exact lift_any w key hkey)) <| sP (.tuple #[pv (pX (liftP key)) (pY (liftP key)) (pI (liftP key)), .bool b1]) <| sP (pv (pX (liftP key)) (pY (liftP key)) (pI (liftP key))) <| sP (.bool b1) ?_
 refine sM 52 (pcs 0 0 false) (fun g2 => ?_)
 refine sW 2 g2 52 (pcs 0 0 false) (pcs (pX (liftP key)) (pY (liftP key)) (pI (liftP key))) (wS 0 52 (pcs (pX (liftP key)) (pY (liftP key)) (pI (liftP key))) rfl) <| sP (.bool b1) ?_
 refine sH (fun j => false) ?_
 refine sZ 0 rfl (.bool b1) <| sZ 1 rfl (.bool b1) ?_
 cases b1
 ·refine sQ 2 rfl <| sQ 3 rfl <| sQ 4 rfl <| sQ 5 rfl <| sQ 6 rfl <| sQ 7 rfl <| sQ 8 rfl <| sQ 9 rfl ?_
  refine sQ 10 rfl <| sZ 11 rfl (.bool false) <| sZ 12 rfl (.bool false) ?_
  refine sI ?_
  refine Sy.ret ?_
  rw [show (.bool (verB key m s) : Value) = .bool false from by unfold verB; rw [← hb1]; rfl]
  exact rV (.bool false) rfl
 ·refine sD 2 rfl (.agg (s.map bv).toArray) (Quiet.load 1 g1 0 64 27 27 (s.map bv).toArray _ _ rfl kR kR Tryz.underlying27 rfl kR _ (key_whole s hss) (key_size s hss)) <| sZ 3 rfl (.slice (some ⟨g1, 0, none⟩) 32 64) <| sZ 4 rfl (.pointer (some ⟨g1, 0, none⟩)) <| sD 5 rfl (.agg (((s.drop 0).take 32).map bv).toArray) (Quiet.load 1 g1 0 32 27 31 (s.map bv).toArray _ _ rfl kR kR Tryz.underlying31 rfl kR _ (key_part 0 32) (part_size hss (by decide))) <| sD 6 rfl (.agg (key.map bv).toArray) (Quiet.load 0 g0 0 32 31 31 (key.map bv).toArray _ _ rfl kR kR Tryz.underlying31 rfl kR _ (key_whole key hkey) (key_size key hkey)) <| sZ 7 rfl (.slice A n c) <| sD 8 rfl (fv (chalS ((s.drop 0).take 32) key m)) (qG 52 #[.agg (((s.drop 0).take 32).map bv).toArray, .agg (key.map bv).toArray, .slice A n c] (fun w hw => challenge_any w _ key (part_len hss (by decide)) hkey A m n c hn hm hc hc2 (hs.below hw.below) (ht.below hw.below ht.lt))) <| sD 9 rfl (pv (pX (liftP key)) (pY (liftP key)) (pI (liftP key))) (qL 2 g2 0 9 52 52 (pcs (pX (liftP key)) (pY (liftP key)) (pI (liftP key))) rfl Tryz.underlying52) ?_
  obtain ⟨b2, hb2⟩ : ∃ z : Bool, z = ansB s (chalS ((s.drop 0).take 32) key m) (pX (liftP key)) (pY (liftP key)) (pI (liftP key)) := ⟨_, rfl⟩
  refine sD 10 rfl (.bool b2) (qF 51 #[.agg (s.map bv).toArray, fv (chalS ((s.drop 0).take 32) key m), pv (pX (liftP key)) (pY (liftP key)) (pI (liftP key))] (fun w => by rw [hb2]; exact answers_any w s hss _ (chalS_lt _ _ _) _ _ _ (pX_lt _) (pY_lt _))) <| sZ 11 rfl (.bool b2) <| sZ 12 rfl (.bool b2) ?_
  refine sI ?_
  refine Sy.ret ?_
  rw [show (.bool (verB key m s) : Value) = .bool b2 from by unfold verB; rw [← hb1, ← hb2]; rfl]
  exact rV (.bool b2) rfl
end Go.Proofs.YtbofhoonlmikcaaGreatDoor.Cu

end
section
namespace Go.Proofs.YtbofhoonlmikcaaGreatDoor.Nt

theorem pr_44706919 : Pr 44706919 := small_prime (b := 6687) (by decide) (by decide) (by decide +kernel)
theorem pr_120233 : Pr 120233 := small_prime (b := 347) (by decide) (by decide) (by decide +kernel)
theorem pr_545358713 : Pr 545358713 := small_prime (b := 23354) (by decide) (by decide) (by decide +kernel)
theorem pr_305873 : Pr 305873 := small_prime (b := 554) (by decide) (by decide) (by decide +kernel)
theorem pr_293 : Pr 293 := small_prime (b := 18) (by decide) (by decide) (by decide +kernel)
theorem pr_n1 : Pr 174723607534414371449 := by
 refine pock (F := 44706919 * 120233) (by decide) (fun r hr hrN => ?_) (by decide)
 have h0 := pock_pm 68 2 (by decide) pr_44706919 (by decide) (by decide +kernel) (by decide +kernel) (by decide) r hr hrN
 have h1 := pock_pm 68 2 (by decide) pr_120233 (by decide) (by decide +kernel) (by decide +kernel) (by decide) r hr hrN
 exact Nat.Coprime.mul_dvd_of_dvd_of_dvd (by decide) h0 h1
theorem pr_n3 : Pr 29047611873442575647497758179 := by
 refine pock (F := 545358713 * (305873 * 293)) (by decide) (fun r hr hrN => ?_) (by decide)
 have h0 := pock_pm 95 2 (by decide) pr_545358713 (by decide) (by decide +kernel) (by decide +kernel) (by decide) r hr hrN
 have h1 := pock_pm 95 2 (by decide) pr_305873 (by decide) (by decide +kernel) (by decide +kernel) (by decide) r hr hrN
 have h2 := pock_pm 95 2 (by decide) pr_293 (by decide) (by decide +kernel) (by decide +kernel) (by decide) r hr hrN
 exact Nat.Coprime.mul_dvd_of_dvd_of_dvd (by decide) h0 (Nat.Coprime.mul_dvd_of_dvd_of_dvd (by decide) h1 h2)
theorem pr_n2 : Pr 341948486974166000522343609283189 :=
 pock (F := 29047611873442575647497758179) (by decide) (fun r hr hrN => pock_pm 109 2 (by decide) pr_n3 (by decide) (by decide +kernel) (by decide +kernel) (by decide) r hr hrN) (by decide)
theorem pr_n : Pr 115792089237316195423570985008687907852837564279074904382605163141518161494337 := by
 refine pock (F := 174723607534414371449 * 341948486974166000522343609283189) (by decide) (fun r hr hrN => ?_) (by decide)
 have h0 := pock_pm 256 2 (by decide) pr_n1 (by decide) (by decide +kernel) (by decide +kernel) (by decide) r hr hrN
 have h1 := pock_pm 256 2 (by decide) pr_n2 (by decide) (by decide +kernel) (by decide +kernel) (by decide) r hr hrN
 exact Nat.Coprime.mul_dvd_of_dvd_of_dvd (by decide) h0 h1
end Go.Proofs.YtbofhoonlmikcaaGreatDoor.Nt

end
section
namespace Go.Proofs.YtbofhoonlmikcaaGreatDoor.Cu
open Go.RowKit Go.Proofs.YtbofhoonlmikcaaGreatDoor

def fm (k : Nat) : Fp := ⟨k % pM, mod_lt_p k⟩
def fc {α : Type} (x : Nat) (f : Nat → α) : α := match x with
 | 0 => f 0
 | n + 1 => f (n + 1)
theorem fc_eq {α : Type} (x : Nat) (f : Nat → α) : fc x f = f x := by cases x <;> rfl
def ml (a b : Nat) : Nat := a * b % pM
def sb (a b : Nat) : Nat := (pM - b + a) % pM
def ad (a b : Nat) : Nat := (a + b) % pM
def dbK {α : Type} (x y z : Nat) (k : Nat → Nat → Nat → α) : α :=
 fc (ml (ml x x) 3) fun u => fc (ml (ml x (ml y y)) 4) fun q => fc (sb (ml u u) (ad q q)) fun X => fc (sb (ml u (sb q X)) (ml (ml (ml y y) (ml y y)) 8)) fun Y => fc (ml (ml y z) 2) fun Z => k X Y Z
theorem dbK_eq {α : Type} (a : J) (k : Nat → Nat → Nat → α) : dbK a.x.val a.y.val a.z.val k = k (dblJ a).x.val (dblJ a).y.val (dblJ a).z.val := by
 unfold dbK
 simp only [fc_eq]
 rfl
def bJ : J := ⟨gx, gy, 1⟩
def adK {α : Type} (x y z : Nat) (k : Nat → Nat → Nat → α) : α :=
 cond (Nat.beq z 0) (k gx.val gy.val 1) <| fc (sb (ml gx.val (ml z z)) x) fun c => fc (sb (ml gy.val (ml (ml z z) z)) y) fun r =>
 cond (Nat.beq c 0 && Nat.beq r 0) (dbK x y z k) <| fc (ml (ml c c) c) fun d => fc (ml x (ml c c)) fun e =>
 fc (sb (sb (ml r r) d) (ad e e)) fun X => fc (sb (ml r (sb e X)) (ml y d)) fun Y => fc (ml z c) fun Z => k X Y Z
theorem one_ne : (1 : Fp) ≠ 0 := by decide +kernel
theorem uJ_b (a : J) : uJ a bJ = a.x := by
 show a.x * (1 * 1) = a.x
 grobner
theorem vJ_b (a : J) : vJ a bJ = a.y := by
 show a.y * (1 * 1 * 1) = a.y
 grobner
theorem zero_val (a : Fp) : Nat.beq a.val 0 = true ↔ a = 0 := by
 rw [Nat.beq_eq]
 exact ⟨fun h => Fin.ext h, fun h => by rw [h]; rfl⟩
theorem adK_eq {α : Type} (a : J) (k : Nat → Nat → Nat → α) : adK a.x.val a.y.val a.z.val k = k (addJ a bJ).x.val (addJ a bJ).y.val (addJ a bJ).z.val := by
 unfold adK
 by_cases h : a.z = 0
 ·rw [(zero_val _).2 h, addJ_1 h]
  rfl
 ·rw [show Nat.beq a.z.val 0 = false from by cases e : Nat.beq a.z.val 0 with | false => rfl | true => exact absurd ((zero_val _).1 e) h]
  simp only [cond_false, fc_eq]
  have hc : cJ a bJ = gx * (a.z * a.z) - a.x := by unfold cJ; rw [uJ_b]; rfl
  have hr : rJ a bJ = gy * (a.z * a.z * a.z) - a.y := by unfold rJ; rw [vJ_b]; rfl
  have ec : sb (ml gx.val (ml a.z.val a.z.val)) a.x.val = (cJ a bJ).val := by rw [hc]; rfl
  have er : sb (ml gy.val (ml (ml a.z.val a.z.val) a.z.val)) a.y.val = (rJ a bJ).val := by rw [hr]; rfl
  rw [ec, er]
  by_cases hz : cJ a bJ = 0 ∧ rJ a bJ = 0
  ·rw [(zero_val _).2 hz.1, (zero_val _).2 hz.2, addJ_3 h one_ne hz.1 hz.2]
   exact dbK_eq a k
  ·have e : (Nat.beq (cJ a bJ).val 0 && Nat.beq (rJ a bJ).val 0) = false := by
    cases q : (Nat.beq (cJ a bJ).val 0 && Nat.beq (rJ a bJ).val 0) with
    | false => rfl
    | true =>
     rw [Bool.and_eq_true] at q
     exact absurd ⟨(zero_val _).1 q.1, (zero_val _).1 q.2⟩ hz
   rw [e, addJ_4 h one_ne hz]
   simp only [cond_false]
   have s1 : szJ a bJ = a.z * cJ a bJ := by
    show a.z * 1 * cJ a bJ = _
    grobner
   unfold sxJ syJ sxJ
   rw [s1, uJ_b, vJ_b]
   rfl
def gK {α : Type} (m : Nat) : Nat → Nat → Nat → Nat → (Nat → Nat → Nat → α) → α
 | 0, x, y, z, k => k x y z
 | i + 1, x, y, z, k => dbK x y z fun x y z => cond (Nat.beq (m / 2 ^ i % 2) 1) (adK x y z fun x y z => gK m i x y z k) (gK m i x y z k)
theorem bJ_rep : Ec.Rep bJ bP := by
 show (1 : Fp) ≠ 0 ∧ gx = gx * (1 * 1) ∧ gy = gy * (1 * 1 * 1)
 exact ⟨one_ne, by grobner, by grobner⟩
theorem gK_rep {α : Type} (m : Nat) (k : Nat → Nat → Nat → α) : ∀ (i : Nat) (a : J) (t : Nat), Ec.Rep a (Ec.nm finv t bP) → ∃ a' : J, gK m i a.x.val a.y.val a.z.val k = k a'.x.val a'.y.val a'.z.val ∧ Ec.Rep a' (Ec.nm finv (t * 2 ^ i + m % 2 ^ i) bP)
 | 0, a, t, h => ⟨a, rfl, by rw [Nat.pow_zero, Nat.mul_one, Nat.mod_one, Nat.add_zero]; exact h⟩
 | i + 1, a, t, h => by
  have o := bP_on.nm fld t
  have h2 : Ec.Rep (dblJ a) (Ec.nm finv (t + t) bP) := by
   rw [Ec.nm_add fld bP_on]
   exact dblJ_rep o h
  show ∃ a', dbK _ _ _ _ = _ ∧ _
  rw [dbK_eq, Nat.mod_pow_succ, Nat.pow_succ]
  by_cases hb : m / 2 ^ i % 2 = 1
  ·rw [show Nat.beq (m / 2 ^ i % 2) 1 = true from by rw [hb]; rfl, cond_true, adK_eq]
   have h3 : Ec.Rep (addJ (dblJ a) bJ) (Ec.nm finv (t + t + 1) bP) := by
    rw [Ec.nm_add fld bP_on, Ec.nm_one]
    exact addJ_rep (bP_on.nm fld _) bP_on h2 bJ_rep
   obtain ⟨a', e, r⟩ := gK_rep m k i _ _ h3
   refine ⟨a', e, ?_⟩
   rw [show (t + t + 1) * 2 ^ i + m % 2 ^ i = t * (2 ^ i * 2) + (m % 2 ^ i + 2 ^ i * (m / 2 ^ i % 2)) from by rw [hb, Nat.mul_one, Nat.add_mul, Nat.one_mul, Nat.add_mul, ← Nat.mul_assoc, Nat.mul_two]; omega] at r
   exact r
  ·have h0 : m / 2 ^ i % 2 = 0 := by omega
   rw [h0]
   show ∃ a', gK m i _ _ _ k = _ ∧ _
   obtain ⟨a', e, r⟩ := gK_rep m k i _ _ h2
   refine ⟨a', e, ?_⟩
   rw [show (t + t) * 2 ^ i + m % 2 ^ i = t * (2 ^ i * 2) + (m % 2 ^ i + 2 ^ i * 0) from by rw [Nat.mul_zero, Nat.add_mul, ← Nat.mul_assoc, Nat.mul_two]; omega] at r
   exact r
def oJ : J := ⟨0, 0, 0⟩
theorem oJ_rep : Ec.Rep oJ (Ec.nm finv 0 bP) := rfl
def nN : Nat := 115792089237316195423570985008687907852837564279074904382605163141518161494337
set_option maxRecDepth 100000 in
theorem nN_big : nN % 2 ^ 256 = nN := by decide +kernel
set_option maxRecDepth 100000 in
theorem chain : gK nN 256 0 0 0 (fun _ _ z => z) = 0 := by decide +kernel
theorem gK_none {m : Nat} (hm : m % 2 ^ 256 = m) (h : gK m 256 0 0 0 (fun _ _ z => z) = 0) : Ec.nm finv m bP = none := by
 obtain ⟨a, e, r⟩ := gK_rep m (fun _ _ z => z) 256 oJ 0 oJ_rep
 rw [Nat.zero_mul, Nat.zero_add, hm] at r
 have e' : gK m 256 0 0 0 (fun _ _ z => z) = a.z.val := e
 rw [h] at e'
 have hz : a.z = 0 := Fin.ext e'.symm
 revert r
 cases Ec.nm finv m bP with
 | none => exact fun _ => rfl
 | some P =>
  obtain ⟨X, Y⟩ := P
  exact fun r => absurd hz r.1
def isK (X Y x y z : Nat) : Bool := !Nat.beq z 0 && (Nat.beq (ml (X % pM) (ml z z)) x && Nat.beq (ml (Y % pM) (ml (ml z z) z)) y)
theorem gK_some {m X Y : Nat} (hm : m % 2 ^ 256 = m) (h : gK m 256 0 0 0 (isK X Y) = true) : Ec.nm finv m bP = some (fm X, fm Y) := by
 obtain ⟨a, e, r⟩ := gK_rep m (isK X Y) 256 oJ 0 oJ_rep
 rw [Nat.zero_mul, Nat.zero_add, hm] at r
 have e' : gK m 256 0 0 0 (isK X Y) = isK X Y a.x.val a.y.val a.z.val := e
 rw [h] at e'
 have e2 := e'.symm
 unfold isK at e2
 rw [Bool.and_eq_true, Bool.and_eq_true, Bool.not_eq_true', Nat.beq_eq, Nat.beq_eq] at e2
 obtain ⟨h0, h1, h2⟩ := e2
 have hz : a.z ≠ 0 := fun q => by
  rw [(zero_val _).2 q] at h0
  cases h0
 have g1 : fm X * (a.z * a.z) = a.x := Fin.ext h1
 have g2 : fm Y * (a.z * a.z * a.z) = a.y := Fin.ext h2
 have hzz := fld.ne_mul hz hz
 have can : ∀ {u v w : Fp}, w ≠ 0 → u * w = v * w → u = v := fun {u v w} hw q => by
  have q2 : (u - v) * w = 0 := by clear hw h h0 h1 h2 g1 g2 hz hzz e e' r hm; grobner
  rcases fld.zero q2 with q3 | q3
  ·clear hw h h0 h1 h2 g1 g2 hz hzz e e' r hm q q2; grobner
  ·exact absurd q3 hw
 revert r
 cases Ec.nm finv m bP with
 | none => exact fun r => absurd r hz
 | some P =>
  obtain ⟨U, V⟩ := P
  rintro ⟨_, r1, r2⟩
  have u1 : U = fm X := can hzz (by rw [← r1, g1])
  have u2 : V = fm Y := can (fld.ne_mul hzz hz) (by rw [← r2, g2])
  rw [u1, u2]
theorem n_base : Ec.nm finv nN bP = none := gK_none nN_big chain
theorem prime_div (q : Nat) (hp : Nt.Pr q) (h1 : ¬ q = 0) (d : Nat) (h : d ∣ q) : d = 1 ∨ d = q := by
 rcases Nat.lt_or_ge d q with hlt | hge
 ·left
  have h0 : 0 < d := by
   rcases Nat.eq_zero_or_pos d with rfl | h0
   ·exact absurd (Nat.eq_zero_of_zero_dvd h) h1
   ·exact h0
  have := hp.2 d h0 hlt
  rwa [Nat.gcd_eq_left h] at this
 ·right
  exact Nat.le_antisymm (Nat.le_of_dvd (by omega) h) hge
set_option maxRecDepth 100000 in
theorem prime_nN : Nt.Pr nN := Nt.pr_n
theorem n_prime : ∀ d, d ∣ nN → d = 1 ∨ d = nN := prime_div nN prime_nN (by decide +kernel)
theorem n_any {P : Pt} (hP : Ec.On P) : Ec.nm finv nN P = none :=
 Ec.all_order fld (by decide +kernel) bP_on (by unfold bP; exact fun h => by cases h) n_base n_prime (by decide +kernel) hP
theorem nm_modN {P : Pt} (hP : Ec.On P) (k : Nat) : Ec.nm finv (k % nN) P = Ec.nm finv k P := Ec.nm_mod fld hP (n_any hP) k
end Go.Proofs.YtbofhoonlmikcaaGreatDoor.Cu

end
section
namespace Go.Proofs.YtbofhoonlmikcaaGreatDoor.Cu
open Go.RowKit Go.Proofs.YtbofhoonlmikcaaGreatDoor Go.Proofs.YtbofhoonlmikcaaGreatDoor.Sy

def evE (k : Nat) : Pt := match evP k with
 | none => none
 | some (x, y) => if y.val % 2 = 1 then some (x, -y) else some (x, y)
theorem nN_pM : nN = Sc.pM := by decide +kernel
theorem nm_p {P : Pt} (hP : Ec.On P) (k : Nat) : Ec.nm finv (k % Sc.pM) P = Ec.nm finv k P := by
 have h := nm_modN hP k
 rwa [nN_pM] at h
theorem nm_negP {P : Pt} (hP : Ec.On P) (k : Nat) : Ec.nm finv (Sc.negP k % Sc.pM) P = Ec.neg (Ec.nm finv (k % Sc.pM) P) := by
 have hlt : k % Sc.pM < Sc.pM := Sc.mod_lt_p k
 have e1 : Ec.nm finv (Sc.negP k % Sc.pM) P = Ec.nm finv (Sc.pM - k % Sc.pM) P := by
  unfold Sc.negP
  rw [nm_p hP, nm_p hP]
 have e2 : Ec.add finv (Ec.nm finv (k % Sc.pM) P) (Ec.nm finv (Sc.pM - k % Sc.pM) P) = none := by
  rw [← Ec.nm_add fld hP, show k % Sc.pM + (Sc.pM - k % Sc.pM) = Sc.pM by omega, ← nm_p hP, Nat.mod_self]
  rfl
 have o1 := hP.nm fld (k % Sc.pM)
 have o2 := hP.nm fld (Sc.pM - k % Sc.pM)
 rw [e1]
 have e3 := congrArg (Ec.add finv (Ec.neg (Ec.nm finv (k % Sc.pM) P))) e2
 rw [← Ec.assoc fld o1.neg o1 o2, Ec.neg_add, Ec.zero_add, Ec.add_zero] at e3
 exact e3
theorem evE_is (k : Nat) : Ec.nm finv (evD k % Sc.pM) bP = evE k := by
 unfold evD evE
 rcases h : evP k with _ | ⟨x, y⟩
 ·rfl
 ·show Ec.nm finv ((if y.val % 2 = 1 then Sc.negP k else k) % Sc.pM) bP = if y.val % 2 = 1 then some (x, -y) else some (x, y)
  by_cases hy : y.val % 2 = 1
  ·rw [if_pos hy, if_pos hy, nm_negP bP_on]
   have h' : Ec.nm finv (k % Sc.pM) bP = some (x, y) := h
   rw [h']
   rfl
  ·rw [if_neg hy, if_neg hy]
   exact h
theorem evE_lift {k : Nat} (h : (evP k).isSome = true) : liftP (evX (evP k)) = evE k ∧ liftB (evX (evP k)) = true := by
 have ho := evP_on k
 unfold evE
 rcases e : evP k with _ | ⟨x, y⟩
 ·rw [e] at h; cases h
 ·rw [e] at ho
  have hl := lift_x x y ho
  refine ⟨hl, ?_⟩
  cases hb : liftB (bytesS x.val) with
  | true => exact hb
  | false =>
   rw [lift_no hb] at hl
   split at hl <;> cases hl
theorem evE_enc {k : Nat} (h : (evP k).isSome = true) : encS (evE k) = 2 :: evX (evP k) := by
 have ho := evP_on k
 unfold evE
 rcases e : evP k with _ | ⟨x, y⟩
 ·rw [e] at h; cases h
 ·rw [e] at ho
  show encS (if y.val % 2 = 1 then some (x, -y) else some (x, y)) = 2 :: bytesS x.val
  by_cases hy : y.val % 2 = 1
  ·rw [if_pos hy]
   have hn := val_neg' y (no_two x y ho)
   show (if (-y).val % 2 = 1 then (3 : UInt8) else 2) :: bytesS x.val = _
   rw [if_neg (by omega)]
  ·rw [if_neg hy]
   show (if y.val % 2 = 1 then (3 : UInt8) else 2) :: bytesS x.val = _
   rw [if_neg hy]
theorem sig_first (d : Nat) (key m : List UInt8) (k : Nat) : ((sigS d key m k).drop 0).take 32 = evX (evP k) := by
 unfold sigS
 rw [List.drop_zero, List.take_append_of_le_length (by rw [evX_length]; exact Nat.le_refl _), List.take_of_length_le (by rw [evX_length]; exact Nat.le_refl _)]
theorem sig_last (d : Nat) (key m : List UInt8) (k : Nat) : ((sigS d key m k).drop 32).take 32 = bytesS (ansS d key m k % Sc.pM) := by
 unfold sigS
 rw [List.drop_append_of_le_length (by rw [evX_length]; exact Nat.le_refl _), List.drop_of_length_le (by rw [evX_length]; exact Nat.le_refl _), List.nil_append, List.take_of_length_le (by rw [bytesS_length]; exact Nat.le_refl _)]
theorem readS_bytes (z : Nat) : Sc.readS (bytesS (z % Sc.pM)) = (z % Sc.pM, true) := by
 unfold Sc.readS
 rw [valB_bytesS _ (Sc.mod_lt z), if_pos (Sc.mod_lt_p z)]
theorem rPt_sig (sec k e : Nat) {a b : Nat} {i : Bool} (hd : dec a b i = evE sec) : rPt (Sc.addP (evD k) (Sc.mulP e (evD sec)) % Sc.pM) (Sc.negP e) a b i = evE k := by
 have oB : Ec.On bP := bP_on
 have oE : Ec.On (evE sec) := by rw [← evE_is]; exact oB.nm fld _
 have oK : Ec.On (evE k) := by rw [← evE_is]; exact oB.nm fld _
 unfold rPt
 rw [hd, nm_negP oE]
 have e1 : Ec.nm finv (Sc.addP (evD k) (Sc.mulP e (evD sec)) % Sc.pM % Sc.pM) bP = Ec.add finv (evE k) (Ec.nm finv (e % Sc.pM) (evE sec)) := by
  rw [nm_p oB, nm_p oB]
  unfold Sc.addP Sc.mulP
  rw [nm_p oB, Ec.nm_add fld oB, nm_p oB, Ec.nm_mul fld oB, nm_p oE, ← evE_is k, ← evE_is sec, nm_p oB, nm_p oB]
 rw [e1]
 have o1 := oE.nm fld (e % Sc.pM)
 rw [Ec.assoc fld oK o1 o1.neg, Ec.add_neg, Ec.add_zero]
theorem verB_gen {key m s X Zb : List UInt8} {P E : Pt} {z e : Nat} (he : chalS X key m = e) (h1 : liftB key = true) (h2 : liftP key = P) (h3 : (s.drop 0).take 32 = X) (h4 : (s.drop 32).take 32 = Zb) (h5 : (Sc.readS Zb).1 = z) (h6 : (Sc.readS Zb).2 = true)
  (h7 : rPt z (Sc.negP e) (pX P) (pY P) (pI P) = E) (h8 : encS E = 2 :: X) (h9 : X.length = 32) : verB key m s = true := by
 unfold verB ansB
 rw [h3, he, h1, h2, h4, h6, h5, h7, h8]
 have h10 : (((2 : UInt8) :: X).drop 1).take 32 = X := by
  rw [List.drop_succ_cons, List.drop_zero, List.take_of_length_le (by rw [h9]; exact Nat.le_refl _)]
 rw [h10]
 simp
theorem verB_sig (sec : Nat) (m : List UInt8) (h : signB sec m = true) : verB (evX (evP sec)) m (signL sec m) = true := by
 have hs := h
 unfold signB at hs
 rw [Bool.and_eq_true] at hs
 obtain ⟨h1, h2⟩ := hs
 obtain ⟨l1, l2⟩ := evE_lift h1
 have hd : dec (pX (evE sec)) (pY (evE sec)) (pI (evE sec)) = evE sec := dec_parts (by rw [← evE_is]; exact bP_on.nm fld _)
 have e1 : signL sec m = sigS (evD sec) (evX (evP sec)) m (nonS sec m) := by
  unfold signL
  rw [if_pos h]
 rw [e1]
 generalize nonS sec m = k at h2 ⊢
 have hr := readS_bytes (ansS (evD sec) (evX (evP sec)) m k)
 exact verB_gen (e := chalS (evX (evP k)) (evX (evP sec)) m) rfl l2 l1 (sig_first _ _ _ _) (sig_last _ _ _ _) (congrArg Prod.fst hr) (congrArg Prod.snd hr) (rPt_sig sec k _ hd) (evE_enc h2) (evX_length _)
end Go.Proofs.YtbofhoonlmikcaaGreatDoor.Cu

end
section
namespace Go.Proofs.YtbofhoonlmikcaaGreatDoor.Cu
open Go.RowKit Go.Proofs.YtbofhoonlmikcaaGreatDoor Go.Proofs.YtbofhoonlmikcaaGreatDoor.Sy

def okR : Pt → Nat → Bool
 | none, _ => false
 | some (x, y), n => decide (y.val % 2 = 0) && decide (x.val = n)
def vrP (key m s : List UInt8) : Pt := Ec.add finv (Ec.nm finv ((Sc.readS ((s.drop 32).take 32)).1 % Sc.pM) bP) (Ec.neg (Ec.nm finv (chalS ((s.drop 0).take 32) key m % Sc.pM) (liftP key)))
def refB (key m s : List UInt8) : Bool := liftB key && decide (valB ((s.drop 0).take 32) < pM) && (Sc.readS ((s.drop 32).take 32)).2 && okR (vrP key m s) (valB ((s.drop 0).take 32))
theorem vrP_is (key m s : List UInt8) : rPt (Sc.readS ((s.drop 32).take 32)).1 (Sc.negP (chalS ((s.drop 0).take 32) key m)) (pX (liftP key)) (pY (liftP key)) (pI (liftP key)) = vrP key m s := by
 unfold rPt vrP
 rw [dec_parts (liftP_on key), nm_negP (liftP_on key)]
theorem code_ok (R : Pt) (X : List UInt8) (hX : X.length = 32) : (decide ((encS R).getD 0 0 = UInt8.ofNat 2) && decide (((encS R).drop 1).take 32 = X)) = (decide (valB X < pM) && okR R (valB X)) := by
 rcases R with _ | ⟨x, y⟩
 ·show (decide ((0 : UInt8) = UInt8.ofNat 2) && _) = (_ && false)
  rw [Bool.and_false, show decide ((0 : UInt8) = UInt8.ofNat 2) = false from by decide]
  rfl
 ·have e1 : ((encS (some (x, y))).drop 1).take 32 = bytesS x.val := by
   show (bytesS x.val).take 32 = _
   rw [List.take_of_length_le (by rw [bytesS_length]; exact Nat.le_refl _)]
  have e2 : decide ((encS (some (x, y))).getD 0 0 = UInt8.ofNat 2) = decide (y.val % 2 = 0) := by
   show decide ((if y.val % 2 = 1 then (3 : UInt8) else 2) = UInt8.ofNat 2) = _
   by_cases h : y.val % 2 = 1
   ·rw [if_pos h, decide_eq_false (show ¬ (3 : UInt8) = UInt8.ofNat 2 by decide), decide_eq_false (by omega)]
   ·rw [if_neg h, decide_eq_true (show (2 : UInt8) = UInt8.ofNat 2 by decide), decide_eq_true (by omega)]
  have e3 : decide (bytesS x.val = X) = (decide (valB X < pM) && decide (x.val = valB X)) := by
   by_cases h : bytesS x.val = X
   ·have hv : valB X = x.val := by rw [← h]; exact valB_bytesS _ (lt4 x)
    have hx := x.isLt
    rw [decide_eq_true h, hv, decide_eq_true rfl, decide_eq_true hx]
    rfl
   ·have hn : ¬ x.val = valB X := fun q => h (by rw [q]; exact bytesS_valB X hX)
    rw [decide_eq_false h, decide_eq_false hn, Bool.and_false]
  rw [e1, e2, e3]
  show _ = (_ && (decide (y.val % 2 = 0) && decide (x.val = valB X)))
  cases decide (y.val % 2 = 0) <;> cases decide (valB X < pM) <;> rfl
theorem ref_ver (key m s : List UInt8) (hs : s.length = 64) : refB key m s = verB key m s := by
 have h := code_ok (vrP key m s) ((s.drop 0).take 32) (part_len hs (by decide))
 unfold refB verB ansB
 rw [vrP_is, h]
 cases liftB key <;> cases decide (valB ((s.drop 0).take 32) < pM) <;> cases (Sc.readS ((s.drop 32).take 32)).2 <;> rfl
end Go.Proofs.YtbofhoonlmikcaaGreatDoor.Cu

end
