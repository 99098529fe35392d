/-
  Numbers compared with == and !=; fe.Odd.
-/
import Derived.Test.YtlojidnlkflpnaaFeMul2
import Derived.Stop.BytesEq
namespace Go.Proofs.Ytlojidnlkflpnaa
open Go.RowKit Go.Lib

theorem all_range_eqN : ∀ (xs ys : List Nat), xs.length = ys.length → ((List.range xs.length).all fun i => xs.getD i 0 == ys.getD i 0) = (xs == ys)
  | [], [], _ => rfl
  | x :: xs, y :: ys, h => by
    have ih := all_range_eqN xs ys (by simpa using h)
    rw [List.length_cons, List.range_succ_eq_map, List.all_cons, List.all_map]
    simp only [List.getD_cons_zero, Function.comp_def, List.getD_cons_succ, ih]
    simp [List.cons_beq_cons]
  | [], _ :: _, h => by simp at h
  | _ :: _, [], h => by simp at h
theorem run_equalIn_words {P : Program} (w : World) (d : Nat) (t e : TypeId) (n : Nat) (ht : P.underlying t = some (.array n e)) (he : P.underlying e = some (.int .u64)) (hsz : ∀ w, (sizeOf e).run P w = .ok 1 w)
    (xs ys : List Nat) (hx : xs.length = n) (hy : ys.length = n) :
    (Op.equalIn (d + 2) t (.agg (xs.map qv).toArray) (.agg (ys.map qv).toArray)).run P w = .ok (xs == ys) w := by
  rw [← all_range_eqN xs ys (hx.trans hy.symm), hx, List.range_eq_range', Op.equalIn]
  simp only [Sem.run_bind, run_underlying ht, Result.andThen_ok, hsz, Std.Legacy.Range.forIn_eq_forIn_range', Std.Legacy.Range.size, Nat.sub_zero, Nat.add_sub_cancel, Nat.div_one]
  have hl : ∀ i ∈ List.range' 0 n 1, i < n := fun i hi => by simpa using (List.mem_range'_1.1 hi).2
  generalize List.range' 0 n 1 = l at hl ⊢
  induction l with
  | nil => simp
  | cons i l ih =>
    have hi : i < n := hl i (by simp)
    have px : (part e (xs.map qv).toArray (i * 1)).run P w = .ok (qv (xs.getD i 0)) w := by
      simp [part, isAgg, run_underlying he, List.getD, List.getElem?_eq_getElem (show i < xs.length by omega)]
    have py : (part e (ys.map qv).toArray (i * 1)).run P w = .ok (qv (ys.getD i 0)) w := by
      simp [part, isAgg, run_underlying he, List.getD, List.getElem?_eq_getElem (show i < ys.length by omega)]
    have pe : (Op.equalIn (d + 1) e (qv (xs.getD i 0)) (qv (ys.getD i 0))).run P w = .ok (xs.getD i 0 == ys.getD i 0) w := by
      rw [qv, qv, run_equalIn_int w d e .u64 .u64 _ _ he]
      congr 1
      rw [Bool.eq_iff_iff]
      simp
      omega
    simp only [List.forIn_cons, Sem.run_bind, px, py, pe, Result.andThen_ok, List.all_cons]
    cases hb : (xs.getD i 0 == ys.getD i 0)
    · simp
    · simp only [Bool.not_true, Bool.false_eq_true, if_false, Sem.run_pure, Result.andThen_ok, Bool.true_and]
      exact ih fun j hj => hl j (by simp [hj])
def wl (n : Nat) : List Nat := [n % 18446744073709551616, n / 18446744073709551616 % 18446744073709551616, n / 340282366920938463463374607431768211456 % 18446744073709551616, n / 6277101735386680763835789423207666416102355444464034512896 % 18446744073709551616]
theorem fv_wl (n : Nat) : fv n = .agg ((wl n).map qv).toArray := rfl
theorem wl_inj {n m : Nat} (hn : n < 115792089237316195423570985008687907853269984665640564039457584007913129639936) (hm : m < 115792089237316195423570985008687907853269984665640564039457584007913129639936) (h : wl n = wl m) : n = m := by
  unfold wl at h
  simp only [List.cons.injEq, and_true] at h
  obtain ⟨h0, h1, h2, h3⟩ := h
  omega
theorem wl_beq {n m : Nat} (hn : n < 115792089237316195423570985008687907853269984665640564039457584007913129639936) (hm : m < 115792089237316195423570985008687907853269984665640564039457584007913129639936) : (wl n == wl m) = decide (n = m) := by
  by_cases h : n = m
  · subst h; simp
  · have : wl n ≠ wl m := fun e => h (wl_inj hn hm e)
    simp [h, this]
theorem run_equalIn_fv (W : World) (n m : Nat) (hn : n < 115792089237316195423570985008687907853269984665640564039457584007913129639936) (hm : m < 115792089237316195423570985008687907853269984665640564039457584007913129639936) : (Op.equalIn 10000 24 (fv n) (fv m)).run Try.prog W = .ok (decide (n = m)) W := by
  rw [fv_wl, fv_wl]
  have h := run_equalIn_words W 9998 24 22 4 Try.underlying24 Try.underlying22 (fun W => by kernel_rfl) (wl n) (wl m) rfl rfl
  rw [wl_beq hn hm] at h
  exact h
theorem run_eql_fv (W : World) (n m : Nat) (hn : n < 115792089237316195423570985008687907853269984665640564039457584007913129639936) (hm : m < 115792089237316195423570985008687907853269984665640564039457584007913129639936) : (binOp .eql 24 (fv n) (fv m)).run Try.prog W = .ok (.bool (decide (n = m))) W := by
  have h := run_equalIn_fv W n m hn hm
  rw [fv_wl, fv_wl] at h ⊢
  rw [run_eql_struct, h]
  rfl
theorem run_neq_fv (W : World) (n m : Nat) (hn : n < 115792089237316195423570985008687907853269984665640564039457584007913129639936) (hm : m < 115792089237316195423570985008687907853269984665640564039457584007913129639936) : (binOp .neq 24 (fv n) (fv m)).run Try.prog W = .ok (.bool (decide (n ≠ m))) W := by
  have h := run_equalIn_fv W n m hn hm
  rw [fv_wl, fv_wl] at h ⊢
  rw [run_neq_struct, h]
  by_cases e : n = m <;> simp [e]

theorem run_eqGuard_fv (op : BinOp) (x y : Operand) (n m : Nat) (W : World) : (eqGuard op 24 x y (fv n) (fv m)).run Try.prog W = .ok () W := by
  rw [fv_fcs, fv_fcs]
  go_simp

theorem and_one (n : Nat) (hn : n < 18446744073709551616) : bits .and .u64 (n : Int) 1 = ((n % 2 : Nat) : Int) := by
  have h := bits_and_u64_nat n 1 hn (by omega)
  have e : n &&& 1 = n % 2 := Nat.and_two_pow_sub_one_eq_mod n 1
  rw [e] at h
  exact h
set_option maxHeartbeats 1000000 in
theorem odd_any (w : World) (x : Nat) (hx : x < 115792089237316195423570985008687907853269984665640564039457584007913129639936) : Calls Try.prog 66 #[fv x] w fun e w' => e = .returned (.bool (decide (x % pM % 2 = 1))) ∧ Below w.heap.size w w' := by
  obtain ⟨z, hz⟩ : ∃ z, z = x % pM := ⟨_, rfl⟩
  have hzl : z < 115792089237316195423570985008687907853269984665640564039457584007913129639936 := by rw [hz]; exact mod_lt x
  obtain ⟨z0, z1, z2, z3, a0, a1, a2, a3, ez, fz⟩ := words_of z hzl
  obtain ⟨o, ho⟩ : ∃ o, o = z % 2 := ⟨_, rfl⟩
  have h1 : bits .and .u64 (z0 : Int) 1 = (o : Int) := by rw [and_one z0 a0, ho]; congr 1; omega
  have hN : ∀ w, Calls Try.prog 38 #[fv x] w fun e w' => e = .returned (.agg #[.int .u64 z0, .int .u64 z1, .int .u64 z2, .int .u64 z3]) ∧ Below w.heap.size w w' := by
    intro w; rw [← fz, hz]; exact norm_any w x hx
  obtain ⟨x0, x1, x2, x3, fx⟩ := words_fv x hx
  rw [fx] at hN ⊢
  rw [← hz, ← ho]
  have hol : o < 2 := by omega
  obtain ⟨b, hb⟩ : ∃ b, b = decide (o = 1) := ⟨_, rfl⟩
  have hob : ((o : Int) == 1) = b := by
    rw [hb]
    rcases (show o = 0 ∨ o = 1 by omega) with rfl | rfl <;> rfl
  rw [← hb]
  clear fx hx hz hzl ez fz ho a0 a1 a2 a3 hb hol
  have hI : ∀ W, (Instr.index 24 (.agg #[.int .u64 z0, .int .u64 z1, .int .u64 z2, .int .u64 z3]) (.int .i64 0)).run Try.prog W = .ok (.int .u64 (z0 : Int)) W := fun W => by kernel_rfl
  go_enter Try.func66, Try.ntmps66
  go_wp2_with fail
  refine (hN _).mono ?_
  rintro e w1 ⟨rfl, hb1⟩
  go_wp2
  go_ret
  exact ⟨rfl, Below.gr ((Below.refl _ _).alloc (Nat.le_refl _) _) hb1⟩
end Go.Proofs.Ytlojidnlkflpnaa
