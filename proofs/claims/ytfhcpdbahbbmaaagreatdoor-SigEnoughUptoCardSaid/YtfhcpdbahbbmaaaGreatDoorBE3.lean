/-
  Texts of ours, put together: RefNum, RefMinus, SymC, SymE, RowZ, FoldZ, RefFold, RefAdd, MulZ, RefMul, RefPow, NumB, FeOwn, RefBytes.
-/
import Derived.Test.YtfhcpdbahbbmaaaGreatDoorBE2
set_option linter.unusedVariables false
set_option linter.unusedSimpArgs false
section
namespace Go.Proofs.YtfhcpdbahbbmaaaGreatDoor
open Go.RowKit Go.Lib

def modV : Value := .agg #[.int .u64 18446744069414583343, .int .u64 18446744073709551615, .int .u64 18446744073709551615, .int .u64 18446744073709551615, .int .u64 4294968273, .int .u64 0, .int .u64 0]
theorem fv_P : fv 115792089237316195423570985008687907853269984665640564039457584007908834671663 = .agg #[.int .u64 18446744069414583343, .int .u64 18446744073709551615, .int .u64 18446744073709551615, .int .u64 18446744073709551615] := rfl

theorem refP_any (w : World) : Calls Tryz.prog 54 #[] w fun e w' => e = .returned modV ∧ Below w.heap.size w w' := by
 go_enter Tryz.func54, Tryz.ntmps54
 go_wp2
 exact bodyPost_ret (results_cell_row rfl _ _ w.heap.size _ _ (0, 0) _ rfl (heap_alloc_new w _) Tryz.underlying102 rfl (by kernel_rfl)) rfl ⟨rfl, (Below.refl _ _).alloc (Nat.le_refl _) _⟩
theorem refOf_any (w : World) (n : Nat) (hn : n < (2^256)) : Calls Tryz.prog 77 #[fv n] w fun e w' => e = .returned (fv n) ∧ Below w.heap.size w w' := by
 obtain ⟨a, b, c, d, fn⟩ := words_fv n hn
 rw [fn]
 clear fn
 go_enter Tryz.func77, Tryz.ntmps77
 go_wp2
 exact bodyPost_ret (results_cell_row rfl _ _ (w.heap.size + 1) _ _ (0, 0) _ rfl (heap_alloc2_new w _ _) Tryz.underlying97 rfl (by kernel_rfl)) rfl ⟨rfl, below_alloc2 w _ _⟩
theorem refFe_any (w : World) (n : Nat) (hn : n < (2^256)) : Calls Tryz.prog 58 #[fv n] w fun e w' => e = .returned (fv n) ∧ Below w.heap.size w w' := by
 obtain ⟨a, b, c, d, fn⟩ := words_fv n hn
 rw [fn]
 clear fn
 go_enter Tryz.func58, Tryz.ntmps58
 go_wp2
 exact bodyPost_ret (results_cell_row rfl _ _ (w.heap.size + 1) _ _ (0, 0) _ rfl (heap_alloc2_new w _ _) Tryz.underlying69 rfl (by kernel_rfl)) rfl ⟨rfl, below_alloc2 w _ _⟩

set_option maxHeartbeats 8000000 in
set_option maxRecDepth 100000 in
theorem below_at {v1 v2 : Value} (w : World) (x y : Nat) (h1 : fv x = v1) (h2 : fv y = v2) (hx : x < (2^256)) (hy : y < (2^256)) : Calls Tryz.prog 112 #[v1, v2] w fun e w' => e = .returned (.bool (decide (x < y))) ∧ Below w.heap.size w w' := by
 subst h1 h2
 obtain ⟨x0, x1, x2, x3, a0, a1, a2, a3, ex, fx⟩ := words_of x hx
 obtain ⟨y0, y1, y2, y3, b0, b1, b2, b3, ey, fy⟩ := words_of y hy
 obtain ⟨r, hr⟩ : ∃ r, r = decide (x < y) := ⟨_, rfl⟩
 have t3 : x3 ≠ y3 → r = decide ((x3 : Int) < (y3 : Int)) := fun h => by rw [hr]; congr 1; simp only [eq_iff_iff]; omega
 have t2 : x3 = y3 → x2 ≠ y2 → r = decide ((x2 : Int) < (y2 : Int)) := fun _ h => by rw [hr]; congr 1; simp only [eq_iff_iff]; omega
 have t1 : x3 = y3 → x2 = y2 → x1 ≠ y1 → r = decide ((x1 : Int) < (y1 : Int)) := fun _ _ h => by rw [hr]; congr 1; simp only [eq_iff_iff]; omega
 have t0 : x3 = y3 → x2 = y2 → x1 = y1 → x0 ≠ y0 → r = decide ((x0 : Int) < (y0 : Int)) := fun _ _ _ h => by rw [hr]; congr 1; simp only [eq_iff_iff]; omega
 have te : x3 = y3 → x2 = y2 → x1 = y1 → x0 = y0 → r = false := fun _ _ _ _ => by rw [hr]; simp only [decide_eq_false_iff_not]; omega
 have HT := Lib.hid (And.intro t3 (And.intro t2 (And.intro t1 (And.intro t0 te))))
 rw [fx, fy, ← hr]
 clear fx fy ex ey hx hy a0 a1 a2 a3 b0 b1 b2 b3 hr t3 t2 t1 t0 te
 go_enter Tryz.func112, Tryz.ntmps112
 go_wp2_with fail
 go_loopw [5] (fun i wr => Below w.heap.size w wr ∧ Blk wr w.heap.size 97 #[.int .u64 (x0 : Int), .int .u64 (x1 : Int), .int .u64 (x2 : Int), .int .u64 (x3 : Int)] ∧ Blk wr (w.heap.size + 1) 97 #[.int .u64 (y0 : Int), .int .u64 (y1 : Int), .int .u64 (y2 : Int), .int .u64 (y3 : Int)] ∧ Hid ((i = .int .i64 3) ∨ (i = .int .i64 2 ∧ x3 = y3) ∨ (i = .int .i64 1 ∧ x3 = y3 ∧ x2 = y2) ∨ (i = .int .i64 0 ∧ x3 = y3 ∧ x2 = y2 ∧ x1 = y1) ∨ (i = .int .i64 (-1) ∧ x3 = y3 ∧ x2 = y2 ∧ x1 = y1 ∧ x0 = y0))) (fun i _ => (intOf i + 1).toNat)
 case atStart => exact ⟨below_alloc2 w _ _, (Blk.new w _ _).alloc _, blk_new2 w _ _ _, Lib.hid (.inl rfl)⟩
 case round =>
  obtain ⟨hb, BX, BY, HI⟩ := hrel
  have lX := BX.lt
  have lY := BY.lt
  have qx0 : wr.cell? ⟨w.heap.size, 0, none⟩ = some (.int .u64 (x0 : Int)) := BX.cell 0
  have qy0 : wr.cell? ⟨w.heap.size + 1, 0, none⟩ = some (.int .u64 (y0 : Int)) := BY.cell 0
  have qx1 : wr.cell? ⟨w.heap.size, 1, none⟩ = some (.int .u64 (x1 : Int)) := BX.cell 1
  have qy1 : wr.cell? ⟨w.heap.size + 1, 1, none⟩ = some (.int .u64 (y1 : Int)) := BY.cell 1
  have qx2 : wr.cell? ⟨w.heap.size, 2, none⟩ = some (.int .u64 (x2 : Int)) := BX.cell 2
  have qy2 : wr.cell? ⟨w.heap.size + 1, 2, none⟩ = some (.int .u64 (y2 : Int)) := BY.cell 2
  have qx3 : wr.cell? ⟨w.heap.size, 3, none⟩ = some (.int .u64 (x3 : Int)) := BX.cell 3
  have qy3 : wr.cell? ⟨w.heap.size + 1, 3, none⟩ = some (.int .u64 (y3 : Int)) := BY.cell 3
  rcases HI.out with rfl | ⟨rfl, E⟩ | ⟨rfl, E⟩ | ⟨rfl, E⟩ | ⟨rfl, E⟩
  ·have hk : Hid (True) := Lib.hid trivial
   clear HI
   obtain ⟨b, hbd⟩ : ∃ b, b = decide (x3 ≠ y3) := ⟨_, rfl⟩
   have hbb : (!((x3 : Int) == (y3 : Int))) = b := by
    rw [hbd]
    by_cases h : x3 = y3 <;> simp [h] <;> omega
   have HB := Lib.hid hbd
   clear hbd
   go_wp2
   refine wp_region_G (fun _ => false) (by kernel_rfl) ?_
   try simp only [Act.put]
   refine tk 0 rfl ?_
   try simp only [Act.put, aA, aZ, aS]
   refine tk 1 rfl ?_
   try simp only [Act.put, aA, aZ, aS]
   refine tkw 2 rfl (YieldsG.pure (v := .int .u64 (x3 : Int)) (by rfl) (fun w9 h9 => by have hz := (Below.cell (p := ⟨w.heap.size, 3, none⟩) h9 lX).trans qx3; go_simp; first | done | simp [hz])) ?_
   try simp only [Act.put, aA, aZ, aS]
   refine tk 3 rfl ?_
   try simp only [Act.put, aA, aZ, aS]
   refine tk 4 rfl ?_
   try simp only [Act.put, aA, aZ, aS]
   refine tkw 5 rfl (YieldsG.pure (v := .int .u64 (y3 : Int)) (by rfl) (fun w9 h9 => by have hz := (Below.cell (p := ⟨w.heap.size + 1, 3, none⟩) h9 lY).trans qy3; go_simp; first | done | simp [hz])) ?_
   try simp only [Act.put, aA, aZ, aS]
   refine tkw 6 rfl (YieldsG.pure (v := .bool b) (by rfl) (fun w9 h9 => by go_simp; congr 3; all_goals (rw [HB.out]; all_goals (by_cases h : x3 = y3 <;> simp [h] <;> omega)))) ?_
   try simp only [Act.put, aA, aZ, aS]
   refine wpAnyG_done (by kernel_rfl) (fun u hu => ?_)
   have hbu := Below.gr hb hu
   have BXu := Gr.blk hu BX
   have BYu := Gr.blk hu BY
   cases b
   ·have hxy : x3 = y3 := by
     have := HB.out
     simpa using this
    have HXY := Lib.hid hxy
    clear hxy
    go_wp2
    exact ⟨⟨hbu, BXu, BYu, Lib.hid (.inr (.inl ⟨rfl, HXY.out⟩))⟩, by decide⟩
   ·have hxy : x3 ≠ y3 := by
     have := HB.out
     simpa using this
    have hr2 := Lib.hid (HT.out.1 hxy)
    have lXu := BXu.lt
    have lYu := BYu.lt
    have px : u.cell? ⟨w.heap.size, 3, none⟩ = some (.int .u64 (x3 : Int)) := BXu.cell 3
    have py : u.cell? ⟨w.heap.size + 1, 3, none⟩ = some (.int .u64 (y3 : Int)) := BYu.cell 3
    clear hxy hk HT
    go_wp2
    refine wp_region_G (fun _ => false) (by kernel_rfl) ?_
    try simp only [Act.put]
    refine tk 0 rfl ?_
    try simp only [Act.put, aA, aZ, aS]
    refine tk 1 rfl ?_
    try simp only [Act.put, aA, aZ, aS]
    refine tkw 2 rfl (YieldsG.pure (v := .int .u64 (x3 : Int)) (by rfl) (fun w9 h9 => by have hz := (Below.cell (p := ⟨w.heap.size, 3, none⟩) h9 lXu).trans px; go_simp; first | done | simp [hz])) ?_
    try simp only [Act.put, aA, aZ, aS]
    refine tk 3 rfl ?_
    try simp only [Act.put, aA, aZ, aS]
    refine tk 4 rfl ?_
    try simp only [Act.put, aA, aZ, aS]
    refine tkw 5 rfl (YieldsG.pure (v := .int .u64 (y3 : Int)) (by rfl) (fun w9 h9 => by have hz := (Below.cell (p := ⟨w.heap.size + 1, 3, none⟩) h9 lYu).trans py; go_simp; first | done | simp [hz])) ?_
    try simp only [Act.put, aA, aZ, aS]
    refine tkw 6 rfl (YieldsG.pure (v := .bool r) (by rfl) (fun w9 h9 => by go_simp; congr 3; rw [hr2.out]; all_goals (apply decide_eq_decide.2; omega))) ?_
    try simp only [Act.put, aA, aZ, aS]
    refine tk 7 rfl ?_
    try simp only [Act.put, aA, aZ, aS]
    refine wpAnyG_done (by kernel_rfl) (fun u2 hu2 => ?_)
    go_wp2
    go_ret
    exact ⟨rfl, Below.gr hbu hu2⟩
  ·have hk : Hid (x3 = y3) := Lib.hid E
   clear HI E
   obtain ⟨b, hbd⟩ : ∃ b, b = decide (x2 ≠ y2) := ⟨_, rfl⟩
   have hbb : (!((x2 : Int) == (y2 : Int))) = b := by
    rw [hbd]
    by_cases h : x2 = y2 <;> simp [h] <;> omega
   have HB := Lib.hid hbd
   clear hbd
   go_wp2
   refine wp_region_G (fun _ => false) (by kernel_rfl) ?_
   try simp only [Act.put]
   refine tk 0 rfl ?_
   try simp only [Act.put, aA, aZ, aS]
   refine tk 1 rfl ?_
   try simp only [Act.put, aA, aZ, aS]
   refine tkw 2 rfl (YieldsG.pure (v := .int .u64 (x2 : Int)) (by rfl) (fun w9 h9 => by have hz := (Below.cell (p := ⟨w.heap.size, 2, none⟩) h9 lX).trans qx2; go_simp; first | done | simp [hz])) ?_
   try simp only [Act.put, aA, aZ, aS]
   refine tk 3 rfl ?_
   try simp only [Act.put, aA, aZ, aS]
   refine tk 4 rfl ?_
   try simp only [Act.put, aA, aZ, aS]
   refine tkw 5 rfl (YieldsG.pure (v := .int .u64 (y2 : Int)) (by rfl) (fun w9 h9 => by have hz := (Below.cell (p := ⟨w.heap.size + 1, 2, none⟩) h9 lY).trans qy2; go_simp; first | done | simp [hz])) ?_
   try simp only [Act.put, aA, aZ, aS]
   refine tkw 6 rfl (YieldsG.pure (v := .bool b) (by rfl) (fun w9 h9 => by go_simp; congr 3; all_goals (rw [HB.out]; all_goals (by_cases h : x2 = y2 <;> simp [h] <;> omega)))) ?_
   try simp only [Act.put, aA, aZ, aS]
   refine wpAnyG_done (by kernel_rfl) (fun u hu => ?_)
   have hbu := Below.gr hb hu
   have BXu := Gr.blk hu BX
   have BYu := Gr.blk hu BY
   cases b
   ·have hxy : x2 = y2 := by
     have := HB.out
     simpa using this
    have HXY := Lib.hid hxy
    clear hxy
    go_wp2
    exact ⟨⟨hbu, BXu, BYu, Lib.hid (.inr (.inr (.inl ⟨rfl, hk.out, HXY.out⟩)))⟩, by decide⟩
   ·have hxy : x2 ≠ y2 := by
     have := HB.out
     simpa using this
    have hr2 := Lib.hid (HT.out.2.1 hk.out hxy)
    have lXu := BXu.lt
    have lYu := BYu.lt
    have px : u.cell? ⟨w.heap.size, 2, none⟩ = some (.int .u64 (x2 : Int)) := BXu.cell 2
    have py : u.cell? ⟨w.heap.size + 1, 2, none⟩ = some (.int .u64 (y2 : Int)) := BYu.cell 2
    clear hxy hk HT
    go_wp2
    refine wp_region_G (fun _ => false) (by kernel_rfl) ?_
    try simp only [Act.put]
    refine tk 0 rfl ?_
    try simp only [Act.put, aA, aZ, aS]
    refine tk 1 rfl ?_
    try simp only [Act.put, aA, aZ, aS]
    refine tkw 2 rfl (YieldsG.pure (v := .int .u64 (x2 : Int)) (by rfl) (fun w9 h9 => by have hz := (Below.cell (p := ⟨w.heap.size, 2, none⟩) h9 lXu).trans px; go_simp; first | done | simp [hz])) ?_
    try simp only [Act.put, aA, aZ, aS]
    refine tk 3 rfl ?_
    try simp only [Act.put, aA, aZ, aS]
    refine tk 4 rfl ?_
    try simp only [Act.put, aA, aZ, aS]
    refine tkw 5 rfl (YieldsG.pure (v := .int .u64 (y2 : Int)) (by rfl) (fun w9 h9 => by have hz := (Below.cell (p := ⟨w.heap.size + 1, 2, none⟩) h9 lYu).trans py; go_simp; first | done | simp [hz])) ?_
    try simp only [Act.put, aA, aZ, aS]
    refine tkw 6 rfl (YieldsG.pure (v := .bool r) (by rfl) (fun w9 h9 => by go_simp; congr 3; rw [hr2.out]; all_goals (apply decide_eq_decide.2; omega))) ?_
    try simp only [Act.put, aA, aZ, aS]
    refine tk 7 rfl ?_
    try simp only [Act.put, aA, aZ, aS]
    refine wpAnyG_done (by kernel_rfl) (fun u2 hu2 => ?_)
    go_wp2
    go_ret
    exact ⟨rfl, Below.gr hbu hu2⟩
  ·have hk : Hid (x3 = y3 ∧ x2 = y2) := Lib.hid E
   clear HI E
   obtain ⟨b, hbd⟩ : ∃ b, b = decide (x1 ≠ y1) := ⟨_, rfl⟩
   have hbb : (!((x1 : Int) == (y1 : Int))) = b := by
    rw [hbd]
    by_cases h : x1 = y1 <;> simp [h] <;> omega
   have HB := Lib.hid hbd
   clear hbd
   go_wp2
   refine wp_region_G (fun _ => false) (by kernel_rfl) ?_
   try simp only [Act.put]
   refine tk 0 rfl ?_
   try simp only [Act.put, aA, aZ, aS]
   refine tk 1 rfl ?_
   try simp only [Act.put, aA, aZ, aS]
   refine tkw 2 rfl (YieldsG.pure (v := .int .u64 (x1 : Int)) (by rfl) (fun w9 h9 => by have hz := (Below.cell (p := ⟨w.heap.size, 1, none⟩) h9 lX).trans qx1; go_simp; first | done | simp [hz])) ?_
   try simp only [Act.put, aA, aZ, aS]
   refine tk 3 rfl ?_
   try simp only [Act.put, aA, aZ, aS]
   refine tk 4 rfl ?_
   try simp only [Act.put, aA, aZ, aS]
   refine tkw 5 rfl (YieldsG.pure (v := .int .u64 (y1 : Int)) (by rfl) (fun w9 h9 => by have hz := (Below.cell (p := ⟨w.heap.size + 1, 1, none⟩) h9 lY).trans qy1; go_simp; first | done | simp [hz])) ?_
   try simp only [Act.put, aA, aZ, aS]
   refine tkw 6 rfl (YieldsG.pure (v := .bool b) (by rfl) (fun w9 h9 => by go_simp; congr 3; all_goals (rw [HB.out]; all_goals (by_cases h : x1 = y1 <;> simp [h] <;> omega)))) ?_
   try simp only [Act.put, aA, aZ, aS]
   refine wpAnyG_done (by kernel_rfl) (fun u hu => ?_)
   have hbu := Below.gr hb hu
   have BXu := Gr.blk hu BX
   have BYu := Gr.blk hu BY
   cases b
   ·have hxy : x1 = y1 := by
     have := HB.out
     simpa using this
    have HXY := Lib.hid hxy
    clear hxy
    go_wp2
    exact ⟨⟨hbu, BXu, BYu, Lib.hid (.inr (.inr (.inr (.inl ⟨rfl, hk.out.1, hk.out.2, HXY.out⟩))))⟩, by decide⟩
   ·have hxy : x1 ≠ y1 := by
     have := HB.out
     simpa using this
    have hr2 := Lib.hid (HT.out.2.2.1 hk.out.1 hk.out.2 hxy)
    have lXu := BXu.lt
    have lYu := BYu.lt
    have px : u.cell? ⟨w.heap.size, 1, none⟩ = some (.int .u64 (x1 : Int)) := BXu.cell 1
    have py : u.cell? ⟨w.heap.size + 1, 1, none⟩ = some (.int .u64 (y1 : Int)) := BYu.cell 1
    clear hxy hk HT
    go_wp2
    refine wp_region_G (fun _ => false) (by kernel_rfl) ?_
    try simp only [Act.put]
    refine tk 0 rfl ?_
    try simp only [Act.put, aA, aZ, aS]
    refine tk 1 rfl ?_
    try simp only [Act.put, aA, aZ, aS]
    refine tkw 2 rfl (YieldsG.pure (v := .int .u64 (x1 : Int)) (by rfl) (fun w9 h9 => by have hz := (Below.cell (p := ⟨w.heap.size, 1, none⟩) h9 lXu).trans px; go_simp; first | done | simp [hz])) ?_
    try simp only [Act.put, aA, aZ, aS]
    refine tk 3 rfl ?_
    try simp only [Act.put, aA, aZ, aS]
    refine tk 4 rfl ?_
    try simp only [Act.put, aA, aZ, aS]
    refine tkw 5 rfl (YieldsG.pure (v := .int .u64 (y1 : Int)) (by rfl) (fun w9 h9 => by have hz := (Below.cell (p := ⟨w.heap.size + 1, 1, none⟩) h9 lYu).trans py; go_simp; first | done | simp [hz])) ?_
    try simp only [Act.put, aA, aZ, aS]
    refine tkw 6 rfl (YieldsG.pure (v := .bool r) (by rfl) (fun w9 h9 => by go_simp; congr 3; rw [hr2.out]; all_goals (apply decide_eq_decide.2; omega))) ?_
    try simp only [Act.put, aA, aZ, aS]
    refine tk 7 rfl ?_
    try simp only [Act.put, aA, aZ, aS]
    refine wpAnyG_done (by kernel_rfl) (fun u2 hu2 => ?_)
    go_wp2
    go_ret
    exact ⟨rfl, Below.gr hbu hu2⟩
  ·have hk : Hid (x3 = y3 ∧ x2 = y2 ∧ x1 = y1) := Lib.hid E
   clear HI E
   obtain ⟨b, hbd⟩ : ∃ b, b = decide (x0 ≠ y0) := ⟨_, rfl⟩
   have hbb : (!((x0 : Int) == (y0 : Int))) = b := by
    rw [hbd]
    by_cases h : x0 = y0 <;> simp [h] <;> omega
   have HB := Lib.hid hbd
   clear hbd
   go_wp2
   refine wp_region_G (fun _ => false) (by kernel_rfl) ?_
   try simp only [Act.put]
   refine tk 0 rfl ?_
   try simp only [Act.put, aA, aZ, aS]
   refine tk 1 rfl ?_
   try simp only [Act.put, aA, aZ, aS]
   refine tkw 2 rfl (YieldsG.pure (v := .int .u64 (x0 : Int)) (by rfl) (fun w9 h9 => by have hz := (Below.cell (p := ⟨w.heap.size, 0, none⟩) h9 lX).trans qx0; go_simp; first | done | simp [hz])) ?_
   try simp only [Act.put, aA, aZ, aS]
   refine tk 3 rfl ?_
   try simp only [Act.put, aA, aZ, aS]
   refine tk 4 rfl ?_
   try simp only [Act.put, aA, aZ, aS]
   refine tkw 5 rfl (YieldsG.pure (v := .int .u64 (y0 : Int)) (by rfl) (fun w9 h9 => by have hz := (Below.cell (p := ⟨w.heap.size + 1, 0, none⟩) h9 lY).trans qy0; go_simp; first | done | simp [hz])) ?_
   try simp only [Act.put, aA, aZ, aS]
   refine tkw 6 rfl (YieldsG.pure (v := .bool b) (by rfl) (fun w9 h9 => by go_simp; congr 3; all_goals (rw [HB.out]; all_goals (by_cases h : x0 = y0 <;> simp [h] <;> omega)))) ?_
   try simp only [Act.put, aA, aZ, aS]
   refine wpAnyG_done (by kernel_rfl) (fun u hu => ?_)
   have hbu := Below.gr hb hu
   have BXu := Gr.blk hu BX
   have BYu := Gr.blk hu BY
   cases b
   ·have hxy : x0 = y0 := by
     have := HB.out
     simpa using this
    have HXY := Lib.hid hxy
    clear hxy
    go_wp2
    exact ⟨⟨hbu, BXu, BYu, Lib.hid (.inr (.inr (.inr (.inr ⟨rfl, hk.out.1, hk.out.2.1, hk.out.2.2, HXY.out⟩))))⟩, by decide⟩
   ·have hxy : x0 ≠ y0 := by
     have := HB.out
     simpa using this
    have hr2 := Lib.hid (HT.out.2.2.2.1 hk.out.1 hk.out.2.1 hk.out.2.2 hxy)
    have lXu := BXu.lt
    have lYu := BYu.lt
    have px : u.cell? ⟨w.heap.size, 0, none⟩ = some (.int .u64 (x0 : Int)) := BXu.cell 0
    have py : u.cell? ⟨w.heap.size + 1, 0, none⟩ = some (.int .u64 (y0 : Int)) := BYu.cell 0
    clear hxy hk HT
    go_wp2
    refine wp_region_G (fun _ => false) (by kernel_rfl) ?_
    try simp only [Act.put]
    refine tk 0 rfl ?_
    try simp only [Act.put, aA, aZ, aS]
    refine tk 1 rfl ?_
    try simp only [Act.put, aA, aZ, aS]
    refine tkw 2 rfl (YieldsG.pure (v := .int .u64 (x0 : Int)) (by rfl) (fun w9 h9 => by have hz := (Below.cell (p := ⟨w.heap.size, 0, none⟩) h9 lXu).trans px; go_simp; first | done | simp [hz])) ?_
    try simp only [Act.put, aA, aZ, aS]
    refine tk 3 rfl ?_
    try simp only [Act.put, aA, aZ, aS]
    refine tk 4 rfl ?_
    try simp only [Act.put, aA, aZ, aS]
    refine tkw 5 rfl (YieldsG.pure (v := .int .u64 (y0 : Int)) (by rfl) (fun w9 h9 => by have hz := (Below.cell (p := ⟨w.heap.size + 1, 0, none⟩) h9 lYu).trans py; go_simp; first | done | simp [hz])) ?_
    try simp only [Act.put, aA, aZ, aS]
    refine tkw 6 rfl (YieldsG.pure (v := .bool r) (by rfl) (fun w9 h9 => by go_simp; congr 3; rw [hr2.out]; all_goals (apply decide_eq_decide.2; omega))) ?_
    try simp only [Act.put, aA, aZ, aS]
    refine tk 7 rfl ?_
    try simp only [Act.put, aA, aZ, aS]
    refine wpAnyG_done (by kernel_rfl) (fun u2 hu2 => ?_)
    go_wp2
    go_ret
    exact ⟨rfl, Below.gr hbu hu2⟩
  ·have HR : Hid (r = false) := Lib.hid (HT.out.2.2.2.2 E.1 E.2.1 E.2.2.1 E.2.2.2)
   clear HI E
   go_wp2
   go_ret
   exact ⟨by rw [HR.out]; rfl, hb⟩

end Go.Proofs.YtfhcpdbahbbmaaaGreatDoor

end
section
namespace Go.Proofs.YtfhcpdbahbbmaaaGreatDoor
open Go.RowKit Go.Lib

set_option maxHeartbeats 8000000 in
set_option maxRecDepth 100000 in
theorem minusR_at {v1 v2 : Value} (w : World) (x y s k : Nat) (h1 : fv x = v1) (h2 : fv y = v2) (hx : x < (2^256)) (hy : y < (2^256)) (hs : s < (2^256)) (he : s + y = x + (2^256) * k) : Calls Tryz.prog 131 #[v1, v2] w fun e w' => e = .returned (fv s) ∧ Below w.heap.size w w' := by
 subst h1 h2
 obtain ⟨x0, x1, x2, x3, a0, a1, a2, a3, ex, fx⟩ := words_of x hx
 obtain ⟨y0, y1, y2, y3, b0, b1, b2, b3, ey, fy⟩ := words_of y hy
 obtain ⟨s0, c0, d0, k0, e0, r0⟩ := sub0_ex x0 y0 a0 b0
 obtain ⟨s1, c1, d1, k1, e1, r1⟩ := subc_ex x1 y1 c0 a1 b1 k0
 obtain ⟨s2, c2, d2, k2, e2, r2⟩ := subc_ex x2 y2 c1 a2 b2 k1
 obtain ⟨s3, c3, d3, k3, e3, r3⟩ := subc_ex x3 y3 c2 a3 b3 k2
 have fin : s0 + 18446744073709551616 * s1 + 340282366920938463463374607431768211456 * s2 + 6277101735386680763835789423207666416102355444464034512896 * s3 = s := by omega
 have hfs := fv_mk s0 s1 s2 s3 d0 d1 d2 d3
 rw [fin] at hfs
 have Fd := Lib.hid hfs
 rw [fx, fy]
 clear fx fy ex ey hx hy hs he a0 a1 a2 a3 b0 b1 b2 b3 d0 d1 d2 d3 k0 k1 k2 k3 e0 e1 e2 e3 fin hfs
 go_enter Tryz.func131, Tryz.ntmps131
 go_wp2_with fail
 go_loopw [5, 6] (fun bo i wr => Below w.heap.size w wr ∧ Blk wr (w.heap.size + 1) 97 #[.int .u64 (y0 : Int), .int .u64 (y1 : Int), .int .u64 (y2 : Int), .int .u64 (y3 : Int)] ∧ Blk wr (w.heap.size + 2) 97 #[.int .u64 0, .int .u64 0, .int .u64 0, .int .u64 0] ∧ Hid ((i = .int .i64 0 ∧ bo = .int .u64 0 ∧ Blk wr w.heap.size 97 #[.int .u64 (x0 : Int), .int .u64 (x1 : Int), .int .u64 (x2 : Int), .int .u64 (x3 : Int)]) ∨ (i = .int .i64 1 ∧ bo = .int .u64 (c0 : Int) ∧ Blk wr w.heap.size 97 #[.int .u64 (s0 : Int), .int .u64 (x1 : Int), .int .u64 (x2 : Int), .int .u64 (x3 : Int)]) ∨ (i = .int .i64 2 ∧ bo = .int .u64 (c1 : Int) ∧ Blk wr w.heap.size 97 #[.int .u64 (s0 : Int), .int .u64 (s1 : Int), .int .u64 (x2 : Int), .int .u64 (x3 : Int)]) ∨ (i = .int .i64 3 ∧ bo = .int .u64 (c2 : Int) ∧ Blk wr w.heap.size 97 #[.int .u64 (s0 : Int), .int .u64 (s1 : Int), .int .u64 (s2 : Int), .int .u64 (x3 : Int)]) ∨ (i = .int .i64 4 ∧ bo = .int .u64 (c3 : Int) ∧ Blk wr w.heap.size 97 #[.int .u64 (s0 : Int), .int .u64 (s1 : Int), .int .u64 (s2 : Int), .int .u64 (s3 : Int)]))) (fun _ i _ => 4 - (intOf i).toNat)
 case atStart => exact ⟨below_alloc3 w _ _ _, (blk_new2 w _ _ _).alloc _, blk_new3 w _ _ _ _, Lib.hid (.inl ⟨rfl, rfl, ((Blk.new w _ _).alloc _).alloc _⟩)⟩
 case round =>
  obtain ⟨hb, BY, BR, HI⟩ := hrel
  have lY := BY.lt
  have lX : w.heap.size < wr.heap.size := by omega
  have hsz : w.heap.size + 2 < wr.heap.size := BR.lt
  rcases HI.out with ⟨rfl, rfl, BX⟩ | ⟨rfl, rfl, BX⟩ | ⟨rfl, rfl, BX⟩ | ⟨rfl, rfl, BX⟩ | ⟨rfl, rfl, BX⟩
  ·clear HI
   have px : wr.cell? ⟨w.heap.size, 0, none⟩ = some (.int .u64 (x0 : Int)) := BX.cell 0
   have py : wr.cell? ⟨w.heap.size + 1, 0, none⟩ = some (.int .u64 (y0 : Int)) := BY.cell 0
   go_wp2
   refine wp_region_G (fun _ => false) (by kernel_rfl) ?_
   try simp only [Act.put]
   refine tk 0 rfl ?_
   try simp only [Act.put, aA, aZ, aS]
   refine tk 1 rfl ?_
   try simp only [Act.put, aA, aZ, aS]
   refine tkw 2 rfl (YieldsG.pure (v := .int .u64 (x0 : Int)) (by rfl) (fun w9 h9 => by have hz := (Below.cell (p := ⟨w.heap.size, 0, none⟩) h9 lX).trans px; go_simp; first | done | simp [hz])) ?_
   try simp only [Act.put, aA, aZ, aS]
   refine tk 3 rfl ?_
   try simp only [Act.put, aA, aZ, aS]
   refine tk 4 rfl ?_
   try simp only [Act.put, aA, aZ, aS]
   refine tkw 5 rfl (YieldsG.pure (v := .int .u64 (y0 : Int)) (by rfl) (fun w9 h9 => by have hz := (Below.cell (p := ⟨w.heap.size + 1, 0, none⟩) h9 lY).trans py; go_simp; first | done | simp [hz])) ?_
   try simp only [Act.put, aA, aZ, aS]
   refine tk 6 rfl ?_
   try simp only [Act.put, aA, aZ, aS]
   refine tkw 7 rfl (YieldsG.pure (v := .tuple #[.int .u64 (s0 : Int), .int .u64 (c0 : Int)]) (by rfl) (fun w9 h9 => by go_simp)) ?_
   try simp only [Act.put, aA, aZ, aS]
   refine tk 8 rfl ?_
   try simp only [Act.put, aA, aZ, aS]
   refine tk 9 rfl ?_
   try simp only [Act.put, aA, aZ, aS]
   refine tk 10 rfl ?_
   try simp only [Act.put, aA, aZ, aS]
   refine tk 11 rfl ?_
   try simp only [Act.put, aA, aZ, aS]
   refine tk 12 rfl ?_
   try simp only [Act.put, aA, aZ, aS]
   refine wpAnyG_done (by kernel_rfl) (fun u hu => ?_)
   have BXu := Gr.blk hu BX
   have BYu := Gr.blk hu BY
   have BRu := Gr.blk hu BR
   have hbu := Below.gr hb hu
   have pc : u.cell? ⟨w.heap.size, 0, none⟩ = some (.int .u64 (x0 : Int)) := BXu.cell 0
   have pf := BXu.frozen 0
   go_wp2
   refine ⟨⟨hbu.setCell (Nat.le_refl _) _, BYu.far (by show w.heap.size + 1 ≠ w.heap.size; omega) _, BRu.far (by show w.heap.size + 2 ≠ w.heap.size; omega) _, Lib.hid (.inr (.inl (⟨rfl, rfl, BXu.set_ 0 _⟩)))⟩, by decide⟩
  ·clear HI
   have px : wr.cell? ⟨w.heap.size, 1, none⟩ = some (.int .u64 (x1 : Int)) := BX.cell 1
   have py : wr.cell? ⟨w.heap.size + 1, 1, none⟩ = some (.int .u64 (y1 : Int)) := BY.cell 1
   go_wp2
   refine wp_region_G (fun _ => false) (by kernel_rfl) ?_
   try simp only [Act.put]
   refine tk 0 rfl ?_
   try simp only [Act.put, aA, aZ, aS]
   refine tk 1 rfl ?_
   try simp only [Act.put, aA, aZ, aS]
   refine tkw 2 rfl (YieldsG.pure (v := .int .u64 (x1 : Int)) (by rfl) (fun w9 h9 => by have hz := (Below.cell (p := ⟨w.heap.size, 1, none⟩) h9 lX).trans px; go_simp; first | done | simp [hz])) ?_
   try simp only [Act.put, aA, aZ, aS]
   refine tk 3 rfl ?_
   try simp only [Act.put, aA, aZ, aS]
   refine tk 4 rfl ?_
   try simp only [Act.put, aA, aZ, aS]
   refine tkw 5 rfl (YieldsG.pure (v := .int .u64 (y1 : Int)) (by rfl) (fun w9 h9 => by have hz := (Below.cell (p := ⟨w.heap.size + 1, 1, none⟩) h9 lY).trans py; go_simp; first | done | simp [hz])) ?_
   try simp only [Act.put, aA, aZ, aS]
   refine tk 6 rfl ?_
   try simp only [Act.put, aA, aZ, aS]
   refine tkw 7 rfl (YieldsG.pure (v := .tuple #[.int .u64 (s1 : Int), .int .u64 (c1 : Int)]) (by rfl) (fun w9 h9 => by go_simp)) ?_
   try simp only [Act.put, aA, aZ, aS]
   refine tk 8 rfl ?_
   try simp only [Act.put, aA, aZ, aS]
   refine tk 9 rfl ?_
   try simp only [Act.put, aA, aZ, aS]
   refine tk 10 rfl ?_
   try simp only [Act.put, aA, aZ, aS]
   refine tk 11 rfl ?_
   try simp only [Act.put, aA, aZ, aS]
   refine tk 12 rfl ?_
   try simp only [Act.put, aA, aZ, aS]
   refine wpAnyG_done (by kernel_rfl) (fun u hu => ?_)
   have BXu := Gr.blk hu BX
   have BYu := Gr.blk hu BY
   have BRu := Gr.blk hu BR
   have hbu := Below.gr hb hu
   have pc : u.cell? ⟨w.heap.size, 1, none⟩ = some (.int .u64 (x1 : Int)) := BXu.cell 1
   have pf := BXu.frozen 1
   go_wp2
   refine ⟨⟨hbu.setCell (Nat.le_refl _) _, BYu.far (by show w.heap.size + 1 ≠ w.heap.size; omega) _, BRu.far (by show w.heap.size + 2 ≠ w.heap.size; omega) _, Lib.hid (.inr (.inr (.inl (⟨rfl, rfl, BXu.set_ 1 _⟩))))⟩, by decide⟩
  ·clear HI
   have px : wr.cell? ⟨w.heap.size, 2, none⟩ = some (.int .u64 (x2 : Int)) := BX.cell 2
   have py : wr.cell? ⟨w.heap.size + 1, 2, none⟩ = some (.int .u64 (y2 : Int)) := BY.cell 2
   go_wp2
   refine wp_region_G (fun _ => false) (by kernel_rfl) ?_
   try simp only [Act.put]
   refine tk 0 rfl ?_
   try simp only [Act.put, aA, aZ, aS]
   refine tk 1 rfl ?_
   try simp only [Act.put, aA, aZ, aS]
   refine tkw 2 rfl (YieldsG.pure (v := .int .u64 (x2 : Int)) (by rfl) (fun w9 h9 => by have hz := (Below.cell (p := ⟨w.heap.size, 2, none⟩) h9 lX).trans px; go_simp; first | done | simp [hz])) ?_
   try simp only [Act.put, aA, aZ, aS]
   refine tk 3 rfl ?_
   try simp only [Act.put, aA, aZ, aS]
   refine tk 4 rfl ?_
   try simp only [Act.put, aA, aZ, aS]
   refine tkw 5 rfl (YieldsG.pure (v := .int .u64 (y2 : Int)) (by rfl) (fun w9 h9 => by have hz := (Below.cell (p := ⟨w.heap.size + 1, 2, none⟩) h9 lY).trans py; go_simp; first | done | simp [hz])) ?_
   try simp only [Act.put, aA, aZ, aS]
   refine tk 6 rfl ?_
   try simp only [Act.put, aA, aZ, aS]
   refine tkw 7 rfl (YieldsG.pure (v := .tuple #[.int .u64 (s2 : Int), .int .u64 (c2 : Int)]) (by rfl) (fun w9 h9 => by go_simp)) ?_
   try simp only [Act.put, aA, aZ, aS]
   refine tk 8 rfl ?_
   try simp only [Act.put, aA, aZ, aS]
   refine tk 9 rfl ?_
   try simp only [Act.put, aA, aZ, aS]
   refine tk 10 rfl ?_
   try simp only [Act.put, aA, aZ, aS]
   refine tk 11 rfl ?_
   try simp only [Act.put, aA, aZ, aS]
   refine tk 12 rfl ?_
   try simp only [Act.put, aA, aZ, aS]
   refine wpAnyG_done (by kernel_rfl) (fun u hu => ?_)
   have BXu := Gr.blk hu BX
   have BYu := Gr.blk hu BY
   have BRu := Gr.blk hu BR
   have hbu := Below.gr hb hu
   have pc : u.cell? ⟨w.heap.size, 2, none⟩ = some (.int .u64 (x2 : Int)) := BXu.cell 2
   have pf := BXu.frozen 2
   go_wp2
   refine ⟨⟨hbu.setCell (Nat.le_refl _) _, BYu.far (by show w.heap.size + 1 ≠ w.heap.size; omega) _, BRu.far (by show w.heap.size + 2 ≠ w.heap.size; omega) _, Lib.hid (.inr (.inr (.inr (.inl (⟨rfl, rfl, BXu.set_ 2 _⟩)))))⟩, by decide⟩
  ·clear HI
   have px : wr.cell? ⟨w.heap.size, 3, none⟩ = some (.int .u64 (x3 : Int)) := BX.cell 3
   have py : wr.cell? ⟨w.heap.size + 1, 3, none⟩ = some (.int .u64 (y3 : Int)) := BY.cell 3
   go_wp2
   refine wp_region_G (fun _ => false) (by kernel_rfl) ?_
   try simp only [Act.put]
   refine tk 0 rfl ?_
   try simp only [Act.put, aA, aZ, aS]
   refine tk 1 rfl ?_
   try simp only [Act.put, aA, aZ, aS]
   refine tkw 2 rfl (YieldsG.pure (v := .int .u64 (x3 : Int)) (by rfl) (fun w9 h9 => by have hz := (Below.cell (p := ⟨w.heap.size, 3, none⟩) h9 lX).trans px; go_simp; first | done | simp [hz])) ?_
   try simp only [Act.put, aA, aZ, aS]
   refine tk 3 rfl ?_
   try simp only [Act.put, aA, aZ, aS]
   refine tk 4 rfl ?_
   try simp only [Act.put, aA, aZ, aS]
   refine tkw 5 rfl (YieldsG.pure (v := .int .u64 (y3 : Int)) (by rfl) (fun w9 h9 => by have hz := (Below.cell (p := ⟨w.heap.size + 1, 3, none⟩) h9 lY).trans py; go_simp; first | done | simp [hz])) ?_
   try simp only [Act.put, aA, aZ, aS]
   refine tk 6 rfl ?_
   try simp only [Act.put, aA, aZ, aS]
   refine tkw 7 rfl (YieldsG.pure (v := .tuple #[.int .u64 (s3 : Int), .int .u64 (c3 : Int)]) (by rfl) (fun w9 h9 => by go_simp)) ?_
   try simp only [Act.put, aA, aZ, aS]
   refine tk 8 rfl ?_
   try simp only [Act.put, aA, aZ, aS]
   refine tk 9 rfl ?_
   try simp only [Act.put, aA, aZ, aS]
   refine tk 10 rfl ?_
   try simp only [Act.put, aA, aZ, aS]
   refine tk 11 rfl ?_
   try simp only [Act.put, aA, aZ, aS]
   refine tk 12 rfl ?_
   try simp only [Act.put, aA, aZ, aS]
   refine wpAnyG_done (by kernel_rfl) (fun u hu => ?_)
   have BXu := Gr.blk hu BX
   have BYu := Gr.blk hu BY
   have BRu := Gr.blk hu BR
   have hbu := Below.gr hb hu
   have pc : u.cell? ⟨w.heap.size, 3, none⟩ = some (.int .u64 (x3 : Int)) := BXu.cell 3
   have pf := BXu.frozen 3
   go_wp2
   refine ⟨⟨hbu.setCell (Nat.le_refl _) _, BYu.far (by show w.heap.size + 1 ≠ w.heap.size; omega) _, BRu.far (by show w.heap.size + 2 ≠ w.heap.size; omega) _, Lib.hid (.inr (.inr (.inr (.inr (⟨rfl, rfl, BXu.set_ 3 _⟩)))))⟩, by decide⟩
  ·clear HI
   have BS := BX.eq_ (fcs_words Fd.out.symm).symm
   go_wp2_with (first | ((with_reducible refine here_load (d := some 28) ?_); refine wpList_load_fv rfl _ _ rfl (w.heap.size) rfl (s) _ _ _ (BS) (fv_fcs s) Tryz.underlying97 rfl (by kernel_rfl) ?_) | ((with_reducible refine here_store ?_); refine wpList_store_blk rfl _ _ _ rfl (w.heap.size + 2) (fcs (s)) rfl rfl _ _ (BR) (by kernel_rfl) (by rfl) (fcs_one _) ?_; intro w9 hL9 hB9 hK9))
   exact bodyPost_ret (results_cell_row rfl _ _ (w.heap.size + 2) _ _ (0, 0) _ rfl hL9 Tryz.underlying97 rfl (by kernel_rfl)) rfl ⟨rfl, hb.trans (hB9 _ (by omega))⟩

theorem mod_range {w : World} {g : Nat} {t : TypeId} {a b c d : Value} {r : List Value} (h : Blk w g t (a :: b :: c :: d :: r).toArray) : w.rangeAt g 0 [a, b, c, d] := fun j v hj => by
 rw [Nat.zero_add, h.cell]
 match j, hj with
 | 0, hj => simpa using hj
 | 1, hj => simpa using hj
 | 2, hj => simpa using hj
 | 3, hj => simpa using hj
 | j + 4, hj => simp at hj
theorem wpList_load_part {P : Program} {ops : Array Oper} {rest : List Oper} {o : Oper} {a : Act} {w : World} {Q : Exit → Act → World → Prop} (hgd : o.guard = none) (ty : TypeId) (x : Operand) (ho : o.op = .load ty x)
  (g : Nat) (hx : a.eval x = .pointer (some ⟨g, 0, none⟩)) (n : Nat) (cs : List Value) (d : TypeDesc) (hr : w.rangeAt g 0 cs) (hf : fv n = .agg cs.toArray)
  (hu : P.underlying ty = some d) (hd : d.isRow = true) (hi : (P.info? ty).map (·.size) = some cs.length)
  (h : wpList P ops Q rest (a.put o.dst (fv n)) w) : wpList P ops Q (o :: rest) a w :=
 wpList_plain hgd fun K hK => by
  have hl := run_loadVar_mid (P := P) w g 0 ty cs d hr hu hd hi
  unfold Oper.wp execOp
  simp only [ho, hx, Instr.loadAt, Instr.sureAddr, Sem.run_bind, Sem.run_pure, Result.andThen_ok, hl]
  rw [← hf]
  exact hK _ _ h

set_option maxHeartbeats 2000000 in
set_option maxRecDepth 100000 in
theorem normR_any (w : World) (x : Nat) (hx : x < (2^256)) : Calls Tryz.prog 74 #[modV, fv x] w fun e w' => e = .returned (fv (x % pM)) ∧ Below w.heap.size w w' := by
 obtain ⟨z, hz⟩ : ∃ z, z = x % pM := ⟨_, rfl⟩
 obtain ⟨p, hp⟩ : ∃ p, p = 115792089237316195423570985008687907853269984665640564039457584007908834671663 := ⟨_, rfl⟩
 have hpl : p < (2^256) := by omega
 obtain ⟨b, hb⟩ : ∃ b, b = decide (x < p) := ⟨_, rfl⟩
 have cb : ∀ w, Calls Tryz.prog 112 #[fv x, fv p] w fun e w' => e = .returned (.bool b) ∧ Below w.heap.size w w' := by
  intro w; rw [hb]; exact below_at w x p rfl rfl hx hpl
 have t1 : b = true → z = x := fun h => by
  rw [hb] at h
  rw [hz]
  exact Nat.mod_eq_of_lt (by rw [pM_eq, ← hp]; simpa using h)
 have cm : b = false → ∀ w, Calls Tryz.prog 131 #[fv x, fv p] w fun e w' => e = .returned (fv z) ∧ Below w.heap.size w w' := fun h w => by
  rw [hb] at h
  have hle : ¬ x < p := by simpa using h
  have hzx : z + p = x := by rw [hz, red_once x hx, if_neg (by omega)]; omega
  exact minusR_at w x p z 0 rfl rfl hx hpl (by omega) (by omega)
 have hpc : fv p = .agg #[.int .u64 18446744069414583343, .int .u64 18446744073709551615, .int .u64 18446744073709551615, .int .u64 18446744073709551615] := by rw [hp]; exact fv_P
 obtain ⟨x0, x1, x2, x3, fx⟩ := words_fv x hx
 have FX := Lib.hid fx
 have FP := Lib.hid hpc
 rw [fx, ← hz]
 unfold modV
 clear fx hpc hx hz hp hpl hb
 go_enter Tryz.func74, Tryz.ntmps74
 go_wp2_with (first | ((with_reducible refine here_load (d := some 6) ?_); refine wpList_load_fv rfl _ _ rfl (w.heap.size + 1) rfl (x) _ _ _ ((blk_new2 w _ _ _).alloc _) (FX.out) Tryz.underlying97 rfl (by kernel_rfl) ?_) | ((with_reducible refine here_load (d := some 8) ?_); refine wpList_load_part rfl _ _ rfl w.heap.size rfl p [.int .u64 18446744069414583343, .int .u64 18446744073709551615, .int .u64 18446744073709551615, .int .u64 18446744073709551615] _ (mod_range (((Blk.new w _ _).alloc _).alloc _)) FP.out Tryz.underlying97 rfl (by kernel_rfl) ?_))
 refine (cb _).mono ?_
 rintro e w1 ⟨rfl, k1⟩
 have BM : Blk w1 w.heap.size 102 _ := Gr.blk k1 (((Blk.new w _ _).alloc _).alloc _)
 have BX : Blk w1 (w.heap.size + 1) 97 _ := Gr.blk k1 ((blk_new2 w _ _ _).alloc _)
 have BR : Blk w1 (w.heap.size + 2) 97 _ := Gr.blk k1 (blk_new3 w _ _ _ _)
 have hB := Below.gr (below_alloc3 w _ _ _) k1
 clear k1 cb
 cases b
 ·have cmm := cm rfl
  clear cm t1
  go_wp2_with (first | ((with_reducible refine here_load (d := some 12) ?_); refine wpList_load_fv rfl _ _ rfl (w.heap.size + 1) rfl (x) _ _ _ (BX) (FX.out) Tryz.underlying97 rfl (by kernel_rfl) ?_) | ((with_reducible refine here_load (d := some 14) ?_); refine wpList_load_part rfl _ _ rfl w.heap.size rfl p [.int .u64 18446744069414583343, .int .u64 18446744073709551615, .int .u64 18446744073709551615, .int .u64 18446744073709551615] _ (mod_range (BM)) FP.out Tryz.underlying97 rfl (by kernel_rfl) ?_))
  refine (cmm _).mono ?_
  rintro e w2 ⟨rfl, k2⟩
  have BR2 := Gr.blk k2 BR
  have hB2 := Below.gr hB k2
  clear k2 cmm
  go_wp2_with (first | ((with_reducible refine here_store ?_); refine wpList_store_blk rfl _ _ _ rfl (w.heap.size + 2) (fcs (z)) rfl rfl _ _ (BR2) (by kernel_rfl) (by rfl) (fcs_one _) ?_; intro w9 hL9 hB9 hK9))
  exact bodyPost_ret (results_cell_row rfl _ _ (w.heap.size + 2) _ _ (0, 0) _ rfl hL9 Tryz.underlying97 rfl (by kernel_rfl)) rfl ⟨rfl, hB2.trans (hB9 _ (by omega))⟩
 ·have HZX := Lib.hid (t1 rfl)
  clear t1 cm
  go_wp2_with (first | ((with_reducible refine here_load (d := some 11) ?_); refine wpList_load_fv rfl _ _ rfl (w.heap.size + 1) rfl (x) _ _ _ (BX) (FX.out) Tryz.underlying97 rfl (by kernel_rfl) ?_) | ((with_reducible refine here_store ?_); refine wpList_store_blk rfl _ _ _ rfl (w.heap.size + 2) (fcs (x)) rfl rfl _ _ (BR) (by kernel_rfl) (by rfl) (fcs_one _) ?_; intro w9 hL9 hB9 hK9))
  exact bodyPost_ret (results_cell_row rfl _ _ (w.heap.size + 2) _ _ (0, 0) _ rfl hL9 Tryz.underlying97 rfl (by kernel_rfl)) rfl ⟨by rw [HZX.out]; rfl, hB.trans (hB9 _ (by omega))⟩
end Go.Proofs.YtfhcpdbahbbmaaaGreatDoor

end
section
namespace Go.Proofs.YtfhcpdbahbbmaaaGreatDoor.Sy
open Go.RowKit Go.Proofs.YtfhcpdbahbbmaaaGreatDoor

section
variable {P : Program} {w0 : Base} {n : Nat} {Q : Exit → Act → World → Prop} {F : Slots} {L : Blocks} {ops : Array Oper} {o : Oper} {l : List Oper} {ex : Nat → Bool} {fuel : Nat} {listed : Array Bool}
def WritesV (P : Program) (w0 : Base) (F : Slots) (L : Blocks) (o : Oper) (g : Nat) (t : TypeId) (cs' : Array Value) (v : Value) : Prop :=
 ∀ w, St w0 w L → ∃ w', (execOp (evF F) o).run P w = .ok (.value v) w' ∧ w.grownBy w' (some g) ∧ Blk w' g t cs'
theorem writeVD (k : Nat) {oi : Oper} (hi0 : ops.toList[k]? = some oi) (hr : Region.ready .any ops listed = [k]) (hex : ex k = true) (hg : good ops n F oi = true) (i g : Nat) (t : TypeId) (cs cs' : Array Value) (v : Value) (hL : L[i]? = some (g, t, cs)) (hm : WritesV P w0 F L oi g t cs' v)
  (h : wpD P w0 n ops Q ex (putF F oi.dst v) (L.set i (g, t, cs')) fuel (listed.setIfInBounds k true)) : wpD P w0 n ops Q ex F L (fuel + 1) listed := fun a w ha hw =>
 wpAnyG_sole k hi0 hr (ha.wanted (good_spec hg).1) fun w1 h1 K hK => by
  obtain ⟨w', e1, e2, e3⟩ := hm w1 (hw.gr h1)
  unfold Oper.wp
  rw [good_exec hg ha, e1]
  exact hK _ _ (fun e => by rw [hex] at e; cases e) (h _ _ (ha.put (good_spec hg).2.2.1 _) ((hw.gr h1).set hL e2 e3))
theorem WritesV.copy (d s : Operand) (dT sT e : TypeId) (ho : o.op = .call { callee := .builtin .copy, args := #[d, s], argTypes := #[dT, sT] }) (hu : P.underlying dT = some (.slice e)) (hsz : (P.info? e).map (·.size) = some 1)
  (i g f dl dc : Nat) (t : TypeId) (cs cs' : Array Value) (hL : L[i]? = some (g, t, cs)) (hd : evF F d = .slice (some ⟨g, f, none⟩) dl dc)
  (j gx fx sl sc : Nat) (tx : TypeId) (cx : Array Value) (hLx : L[j]? = some (gx, tx, cx)) (hs : evF F s = .slice (some ⟨gx, fx, none⟩) sl sc)
  (news : List Value) (hnews : (cx.toList.drop fx).take (Nat.min sl dl) = news) (hn : news.length = Nat.min sl dl) (h1 : ∀ u ∈ news, u.oneCell' = true) (hfit : f + news.length ≤ cs.size) (hcs : setAll cs f news = cs') : WritesV P w0 F L o g t cs' (goInt news.length) := fun w hw => by
 have hb := hw.get hL
 have hbx := hw.get hLx
 have hth := hb.there f news.length hfit
 have hr := run_copy_cells (P := P) w dT sT o.type e g f dl dc ⟨gx, fx, none⟩ sl sc news hu hsz hn (fun q u hq => by
  rw [addr_off, hbx.cell]
  rw [← hnews] at hq
  have hlt : q < Nat.min sl dl := by
   have h := (List.getElem?_eq_some_iff.1 hq).1
   rw [List.length_take] at h
   exact Nat.lt_of_lt_of_le h (Nat.min_le_left _ _)
  rw [List.getElem?_take_of_lt hlt, List.getElem?_drop] at hq
  simpa using hq) (fun q hq => (hth q hq).1) (fun q hq => (hth q hq).2) h1
 refine ⟨_, ?_, only_setCells news f w (World.grownBy.refl w (some g)), hcs ▸ Blk.setCells news f w cs hb⟩
 unfold execOp
 simp only [ho, resolve, invoke, builtin, Sem.run_bind, Sem.run_pure, Result.andThen_ok, List.map_toArray, List.map_cons, List.map_nil, hs, hd, hr]
theorem all_one (l : List Value) (h : l.all (·.oneCell') = true) : ∀ u ∈ l, u.oneCell' = true := fun u hu => List.all_eq_true.1 h u hu
end
end Go.Proofs.YtfhcpdbahbbmaaaGreatDoor.Sy

end
section
namespace Go.Proofs.YtfhcpdbahbbmaaaGreatDoor.Sy
open Go.RowKit Go.Proofs.YtfhcpdbahbbmaaaGreatDoor

theorem setAll_is : ∀ (vs : List Value) (o : Nat) (cs : Array Value), o + vs.length ≤ cs.size → setAll cs o vs = (cs.toList.take o ++ (vs ++ cs.toList.drop (o + vs.length))).toArray
 | [], o, cs, _ => by simp [setAll, List.take_append_drop]
 | v :: r, o, cs, h => by
  simp only [List.length_cons] at h
  rw [setAll, setAll_is r (o + 1) _ (by simp; omega)]
  congr 1
  have hlt : o < cs.toList.length := by simp; omega
  rw [Array.toList_setIfInBounds, List.take_set, List.take_add_one, List.drop_set_of_lt (by omega), List.getElem?_eq_getElem hlt, List.set_append_right _ _ (by simp; omega)]
  have e : o + 1 + r.length = o + (r.length + 1) := by omega
  simp [Nat.min_eq_left (Nat.le_of_lt (show o < cs.size by omega)), e]
def flat (f : Nat → List Value) (n : Nat) : List Value := (List.range n).flatMap f
section
variable {s : Nat} {f : Nat → List Value}
theorem flat_succ (n : Nat) : flat f (n + 1) = flat f n ++ f n := by simp [flat, List.range_succ]
theorem flat_len (h : ∀ k, (f k).length = s) : ∀ n, (flat f n).length = n * s
 | 0 => by simp [flat]
 | n + 1 => by rw [flat_succ, List.length_append, flat_len h n, h, Nat.succ_mul]
theorem flat_add (k : Nat) : ∀ m, flat f (k + m) = flat f k ++ flat (fun j => f (k + j)) m
 | 0 => by simp [flat]
 | m + 1 => by rw [← Nat.add_assoc, flat_succ, flat_add k m, flat_succ, List.append_assoc]
theorem flat_split {n k : Nat} (hk : k < n) : flat f n = flat f k ++ (f k ++ flat (fun j => f (k + 1 + j)) (n - k - 1)) := by
 obtain ⟨m, rfl⟩ : ∃ m, n = k + 1 + m := ⟨n - k - 1, by omega⟩
 rw [flat_add, flat_succ, List.append_assoc, show k + 1 + m - k - 1 = m by omega]
theorem flat_congr {g : Nat → List Value} {n : Nat} (h : ∀ k, k < n → f k = g k) : flat f n = flat g n := by
 unfold flat
 rw [List.flatMap_def, List.flatMap_def]
 exact congrArg List.flatten (List.map_congr_left fun k hk => h k (List.mem_range.1 hk))
theorem flat_at (h : ∀ k, (f k).length = s) {n k o : Nat} (hk : k < n) (ho : o = k * s) : ((flat f n).drop o).take s = f k := by
 subst ho
 rw [flat_split hk, List.drop_append_of_le_length (by rw [flat_len h]; exact Nat.le_refl _), List.drop_eq_nil_of_le (by rw [flat_len h]; exact Nat.le_refl _), List.nil_append, List.take_append_of_le_length (by rw [h]; exact Nat.le_refl _), List.take_of_length_le (by rw [h]; exact Nat.le_refl _)]
theorem flat_in (h : ∀ k, (f k).length = s) {n k o e m : Nat} (hk : k < n) (ho : o = k * s + e) (hm : e + m ≤ s) : ((flat f n).drop o).take m = ((f k).drop e).take m := by
 subst ho
 rw [← flat_at h hk rfl, List.drop_take, List.drop_drop, List.take_take, Nat.min_eq_left (by omega)]
theorem flat_set (h : ∀ k, (f k).length = s) {v : List Value} (hv : v.length = s) {n k o : Nat} (hk : k < n) (ho : o = k * s) : setAll (flat f n).toArray o v = (flat (fun j => if j = k then v else f j) n).toArray := by
 subst ho
 have hl := flat_len h (f := f)
 have hks : k * s + s ≤ n * s := by rw [← Nat.succ_mul]; exact Nat.mul_le_mul_right s hk
 rw [setAll_is _ _ _ (by simp [hl, hv]; exact hks)]
 congr 1
 rw [flat_split hk, flat_split (f := fun j => if j = k then v else f j) hk]
 congr 1
 ·show (flat f k ++ _).take (k * s) = _
  rw [List.take_append_of_le_length (by rw [hl]; exact Nat.le_refl _), List.take_of_length_le (by rw [hl]; exact Nat.le_refl _)]
  exact flat_congr fun j hj => by rw [if_neg (by omega)]
 ·simp only [if_true]
  congr 1
  show (flat f k ++ (f k ++ _)).drop (k * s + v.length) = _
  rw [← List.append_assoc, List.drop_append_of_le_length (by rw [List.length_append, hl, h, hv]; exact Nat.le_refl _), List.drop_eq_nil_of_le (by rw [List.length_append, hl, h, hv]; exact Nat.le_refl _), List.nil_append]
  exact flat_congr fun j hj => by rw [if_neg (by omega)]
theorem flat_one (h : ∀ k, (f k).length = s) (n : Nat) (hf : ∀ k, ∀ u ∈ f k, u.oneCell' = true) : (flat f n).toArray.all (·.oneCell') = true := by
 rw [List.all_toArray, List.all_eq_true]
 intro u hu
 unfold flat at hu
 obtain ⟨k, _, hk⟩ := List.mem_flatMap.1 hu
 exact hf k u hk
theorem flat_const (c : List Value) (hc : c.length = s) (hs : 0 < s) (n : Nat) (z : Array Value) (hz : z.toList = c) : (flat (fun _ => c) n).toArray = madeCells z (n * s) := by
 have hzs : z.size = s := by rw [← Array.length_toList, hz, hc]
 apply Array.ext'
 unfold madeCells
 apply List.ext_getElem?
 intro i
 rw [Array.toList_map, Array.toList_range, List.getElem?_map]
 by_cases hi : i < n * s
 ·have hk : i / s < n := Nat.div_lt_of_lt_mul (by rw [Nat.mul_comm]; exact hi)
  have h := flat_in (s := s) (f := fun _ => c) (fun _ => hc) (n := n) (k := i / s) (o := i) (e := i % s) (m := 1) hk (by rw [Nat.mul_comm]; exact (Nat.div_add_mod i s).symm) (Nat.mod_lt _ hs)
  have h2 := congrArg (·[0]?) h
  simp only [List.getElem?_take, List.getElem?_drop, Nat.zero_lt_one, if_true, Nat.add_zero] at h2
  rw [h2, List.getElem?_range hi]
  have hm : i % s < s := Nat.mod_lt _ hs
  simp only [Option.map_some, hzs]
  rw [← hz]
  simp [hzs, hm]
 ·rw [List.getElem?_eq_none (by rw [flat_len (s := s) (fun _ => hc)]; omega), List.getElem?_eq_none (by simp; omega)]
  rfl
end

def upto (k : Nat) (A : Nat → List Value) (z : List Value) (j : Nat) : List Value := if j < k then A j else z
section
variable {s n k : Nat} {A : Nat → List Value} {z : List Value}
theorem upto_len (hA : ∀ j, (A j).length = s) (hz : z.length = s) (k : Nat) : ∀ j, (upto k A z j).length = s := fun j => by
 unfold upto
 split
 ·exact hA j
 ·exact hz
theorem upto_lt {j : Nat} (h : j < k) : upto k A z j = A j := if_pos h
theorem upto_one (hA : ∀ j, ∀ u ∈ A j, u.oneCell' = true) (hz : ∀ u ∈ z, u.oneCell' = true) (k : Nat) : ∀ j, ∀ u ∈ upto k A z j, u.oneCell' = true := fun j u hu => by
 unfold upto at hu
 split at hu
 ·exact hA j u hu
 ·exact hz u hu
theorem upto_zero : (flat (fun _ => z) n).toArray = (flat (upto 0 A z) n).toArray := congrArg List.toArray (flat_congr fun j _ => by unfold upto; rw [if_neg (by omega)])
theorem upto_all : (flat (upto n A z) n).toArray = (flat A n).toArray := congrArg List.toArray (flat_congr fun j hj => upto_lt hj)
theorem upto_set (hA : ∀ j, (A j).length = s) (hz : z.length = s) {v : List Value} (hv : A k = v) (hk : k < n) {o : Nat} (ho : o = k * s) : setAll (flat (upto k A z) n).toArray o v = (flat (upto (k + 1) A z) n).toArray := by
 rw [flat_set (upto_len hA hz k) (by rw [← hv]; exact hA k) hk ho]
 refine congrArg List.toArray (flat_congr fun j _ => ?_)
 unfold upto
 by_cases e : j = k
 ·subst e
  rw [if_pos rfl, if_pos (by omega), hv]
 ·rw [if_neg e]
  by_cases h : j < k
  ·rw [if_pos h, if_pos (by omega)]
  ·rw [if_neg h, if_neg (by omega)]
theorem upto_set1 (hA : ∀ j, (A j).length = 1) {u v : Value} (hv : A k = [v]) (hk : k < n) : (flat (upto k A [u]) n).toArray.setIfInBounds k v = (flat (upto (k + 1) A [u]) n).toArray := by
 have h := upto_set (s := 1) (z := [u]) hA rfl hv hk (Nat.mul_one k).symm
 simpa only [setAll] using h
theorem flat_load {f : Nat → List Value} (h : ∀ j, (f j).length = s) (hk : k < n) {o : Nat} (ho : o = k * s) : Value.agg (((flat f n).toArray.toList.drop o).take s).toArray = .agg (f k).toArray := by
 rw [show (flat f n).toArray.toList = flat f n from rfl, flat_at h hk ho]
theorem flat_fit {f : Nat → List Value} (h : ∀ j, (f j).length = s) (hk : k < n) {o : Nat} (ho : o = k * s) : o + s ≤ (flat f n).toArray.size := by
 have hks : k * s + s ≤ n * s := by rw [← Nat.succ_mul]; exact Nat.mul_le_mul_right s hk
 rw [List.size_toArray, flat_len h]
 omega
end

section
variable {s n m : Nat} {f : Nat → List Value}
theorem flat_whole (h : ∀ j, (f j).length = s) (hm : n * s = m) : Value.agg (((flat f n).toArray.toList.drop 0).take m).toArray = .agg (flat f n).toArray := by
 rw [show (flat f n).toArray.toList = flat f n from rfl, List.drop_zero, List.take_of_length_le (by rw [flat_len h, hm]; exact Nat.le_refl _)]
theorem flat_wsize (h : ∀ j, (f j).length = s) (hm : n * s = m) : 0 + m ≤ (flat f n).toArray.size := by
 rw [List.size_toArray, flat_len h]; omega
theorem flat_info (h : ∀ j, (f j).length = s) {x : Option Nat} (hx : x = some (n * s)) : x = some (flat f n).toArray.size := by
 rw [hx, List.size_toArray, flat_len h]
theorem flat_over (h : ∀ j, (f j).length = s) (hm : n * s = m) {cs : Array Value} (hc : cs.size = m) : 0 + (flat f n).toArray.size ≤ cs.size := by
 rw [List.size_toArray, flat_len h]; omega
theorem flat_put (h : ∀ j, (f j).length = s) {cs : Array Value} (hc : cs.size = n * s) : setAll cs 0 (flat f n).toArray.toList = (flat f n).toArray := by
 have hl : (flat f n).toArray.toList.length = cs.size := by
  rw [hc]
  exact flat_len h n
 rw [setAll_is _ _ _ (by omega), List.take_zero, List.drop_eq_nil_of_le (by rw [Array.length_toList]; omega)]
 simp
theorem flat_lt1 (h : ∀ j, (f j).length = 1) {k o : Nat} (hk : k < n) (ho : o = k * 1) : o < (flat f n).toArray.size := by
 rw [List.size_toArray, flat_len h]; omega
end

section
variable {P : Program} {w0 : Base} {n : Nat} {Q : Exit → Act → World → Prop} {F : Slots} {L : Blocks} {ops : Array Oper} {o : Oper} {l : List Oper}

theorem blk_range {w : World} {g : Nat} {t : TypeId} {cs : Array Value} (h : Blk w g t cs) {o : Nat} {vs : List Value} (e : (cs.toList.drop o).take vs.length = vs) : w.rangeAt g o vs := fun j v hj => by
 rw [h.cell]
 rw [← e] at hj
 have hlt : j < vs.length := by
  have h := (List.getElem?_eq_some_iff.1 hj).1
  rw [List.length_take] at h
  exact Nat.lt_of_lt_of_le h (Nat.min_le_left _ _)
 rw [List.getElem?_take_of_lt hlt, List.getElem?_drop] at hj
 simpa using hj
theorem range_left {w : World} {g o : Nat} {a b : List Value} (h : w.rangeAt g o (a ++ b)) : w.rangeAt g o a := fun j v hj => h j v (by rw [List.getElem?_append_left (List.getElem?_eq_some_iff.1 hj).1]; exact hj)
theorem range_right {w : World} {g o n : Nat} {a b : List Value} (h : w.rangeAt g o (a ++ b)) (hn : a.length = n) : w.rangeAt g (o + n) b := fun j v hj => by
 rw [Nat.add_assoc]
 refine h (n + j) v ?_
 rw [List.getElem?_append_right (by omega), show n + j - a.length = j by omega]
 exact hj
theorem range_flat {w : World} {g o n s k : Nat} {f : Nat → List Value} (h : w.rangeAt g o (flat f n)) (hs : ∀ j, (f j).length = s) (hk : k < n) : w.rangeAt g (o + k * s) (f k) := fun j v hj => by
 rw [Nat.add_assoc]
 refine h (k * s + j) v ?_
 have e := flat_at hs hk rfl
 rw [← e] at hj
 have hlt : j < s := by
  have h := (List.getElem?_eq_some_iff.1 hj).1
  rw [List.length_take] at h
  exact Nat.lt_of_lt_of_le h (Nat.min_le_left _ _)
 rw [List.getElem?_take_of_lt hlt, List.getElem?_drop] at hj
 exact hj

theorem exec_int (op : BinOp) (t : TypeId) (x y : Operand) {yt : TypeId} (k : IntKind) {k' : IntKind} (a b : Int) (v : Value) (ho : o.op = .binOp op t x y yt) (hx : evF F x = .int k a) (hy : evF F y = .int k' b) (h : ∀ w, (binOp op t (.int k a) (.int k' b)).run P w = .ok v w) (w : World) :
  (execOp (evF F) o).run P w = .ok (.value v) w := by
 have h1 : (eqGuard op t x y (.int k a) (.int k' b)).run P w = .ok () w := by
  unfold eqGuard
  cases op <;> rfl
 unfold execOp
 simp only [ho, hx, hy, Sem.run_bind, h1, h w, Result.andThen_ok, Sem.run_pure]
theorem wrap_i64 {z : Int} (h0 : -9223372036854775808 ≤ z) (h1 : z < 9223372036854775808) : IntKind.i64.wrap z = z := by
 unfold IntKind.wrap; simp [IntKind.bits, IntKind.signed]; omega
theorem wrap_u64 {z : Int} (h0 : 0 ≤ z) (h1 : z < 18446744073709551616) : IntKind.u64.wrap z = z := by
 unfold IntKind.wrap; simp [IntKind.bits, IntKind.signed]; omega
theorem int_add (t : TypeId) (k : IntKind) (a b c : Int) (h : k.wrap (a + b) = c) (w : World) : (binOp .add t (.int k a) (.int k b)).run P w = .ok (.int k c) w := by simp [binOp, Op.intArith, h]
theorem int_sub (t : TypeId) (k : IntKind) (a b c : Int) (h : k.wrap (a - b) = c) (w : World) : (binOp .sub t (.int k a) (.int k b)).run P w = .ok (.int k c) w := by simp [binOp, Op.intArith, h]
theorem int_mul (t : TypeId) (k : IntKind) (a b c : Int) (h : k.wrap (a * b) = c) (w : World) : (binOp .mul t (.int k a) (.int k b)).run P w = .ok (.int k c) w := by simp [binOp, Op.intArith, h]
theorem int_quo (t : TypeId) (k : IntKind) (a b c : Int) (hb : b ≠ 0) (h : k.wrap (a.tdiv b) = c) (w : World) : (binOp .quo t (.int k a) (.int k b)).run P w = .ok (.int k c) w := by simp [binOp, Op.intDiv, hb, h]
theorem int_and (t : TypeId) (k : IntKind) (a b c : Int) (h : k.wrap ((BitVec.ofInt k.bits a &&& BitVec.ofInt k.bits b).toNat : Int) = c) (w : World) : (binOp .and t (.int k a) (.int k b)).run P w = .ok (.int k c) w := by
 simp only [binOp, ne_eq, not_true_eq_false, if_false, Op.intBits, Sem.run_pure]
 rw [h]
theorem int_shr (t : TypeId) (k k' : IntKind) (a b c : Int) (hb : ¬ b < 0) (h : a.fdiv (2 ^ min b.toNat k.bits) = c) (w : World) : (binOp .shr t (.int k a) (.int k' b)).run P w = .ok (.int k c) w := by
 simp only [binOp, Op.shift, if_neg hb, Sem.run_pure, h]
theorem int_lss (t : TypeId) (k : IntKind) (a b : Int) (c : Bool) (h : decide (a < b) = c) (w : World) : (binOp .lss t (.int k a) (.int k b)).run P w = .ok (.bool c) w := by simp [binOp, Op.intCmp, ← h]
theorem int_leq (t : TypeId) (k : IntKind) (a b : Int) (c : Bool) (h : decide (a ≤ b) = c) (w : World) : (binOp .leq t (.int k a) (.int k b)).run P w = .ok (.bool c) w := by simp [binOp, Op.intCmp, ← h]
theorem int_gtr (t : TypeId) (k : IntKind) (a b : Int) (c : Bool) (h : decide (a > b) = c) (w : World) : (binOp .gtr t (.int k a) (.int k b)).run P w = .ok (.bool c) w := by simp [binOp, Op.intCmp, ← h]
theorem int_geq (t : TypeId) (k : IntKind) (a b : Int) (c : Bool) (h : decide (a ≥ b) = c) (w : World) : (binOp .geq t (.int k a) (.int k b)).run P w = .ok (.bool c) w := by simp [binOp, Op.intCmp, ← h]
theorem int_eql (t : TypeId) (k : IntKind) (a b : Int) (c : Bool) (h : decide (a = b) = c) (w : World) : (binOp .eql t (.int k a) (.int k b)).run P w = .ok (.bool c) w := by
 simp only [binOp, ne_eq, not_true_eq_false, if_false, Op.intCmp, Sem.run_pure, ← h]
 rfl
theorem int_neq (t : TypeId) (k : IntKind) (a b : Int) (c : Bool) (h : decide (a ≠ b) = c) (w : World) : (binOp .neq t (.int k a) (.int k b)).run P w = .ok (.bool c) w := by
 simp only [binOp, ne_eq, not_true_eq_false, if_false, Op.intCmp, Sem.run_pure, ← h]
 by_cases e : a = b <;> simp [e]
theorem exec_at (t e : TypeId) (x kx : Operand) (g f len cap k s : Nat) (ki : IntKind) (ho : o.op = .indexAddr t x kx) (hx : evF F x = .slice (some ⟨g, f, none⟩) len cap) (hkx : evF F kx = .int ki (k : Int)) (ht : P.underlying t = some (.slice e)) (hsz : ∀ w, (sizeOf e).run P w = .ok s w) (hk : k < len) (w : World) :
  (execOp (evF F) o).run P w = .ok (.value (.pointer (some ⟨g, f + k * s, none⟩))) w := by
 have h0 : (0 : Int) ≤ k := by omega
 have h1 : ((k : Int).toNat) = k := by omega
 unfold execOp
 simp [ho, hx, hkx, Instr.indexAt, asIntOf, run_underlying ht, hsz, h0, hk, addr_off, Result.andThen]
theorem exec_atA (t e : TypeId) (x kx : Operand) (g f m k s : Nat) (ki : IntKind) (ho : o.op = .indexAddr t x kx) (hx : evF F x = .pointer (some ⟨g, f, none⟩)) (hkx : evF F kx = .int ki (k : Int)) (ht : P.underlying t = some (.array m e)) (hsz : ∀ w, (sizeOf e).run P w = .ok s w) (hk : k < m) (w : World) :
  (execOp (evF F) o).run P w = .ok (.value (.pointer (some ⟨g, f + k * s, none⟩))) w := by
 have h0 : (0 : Int) ≤ k := by omega
 unfold execOp
 simp [ho, hx, hkx, Instr.indexAt, asIntOf, run_underlying ht, hsz, h0, hk, addr_off, Result.andThen, Instr.sureAddr]
theorem exec_sl1 (t : TypeId) (x lx : Operand) (g f len cap lo s : Nat) (kl : IntKind) (ho : o.op = .slice t x (some lx) none none) (hx : evF F x = .slice (some ⟨g, f, none⟩) len cap) (hl : evF F lx = .int kl (lo : Int)) (ht : P.underlying t = some (.slice (P.elem t))) (hsz : ∀ w, (sizeOf (P.elem t)).run P w = .ok s w) (h1 : lo ≤ len) (h2 : lo < cap) (w : World) :
  (execOp (evF F) o).run P w = .ok (.value (.slice (some ⟨g, f + lo * s, none⟩) (len - lo) (cap - lo))) w := by
 have hne : ¬ cap = lo := by omega
 have e : (Instr.sliceAt t (.slice (some ⟨g, f, none⟩) len cap) (some (.int kl (lo : Int))) none none).run P w = .ok (.slice (some ⟨g, f + lo * s, none⟩) (len - lo) (cap - lo)) w := by
  rw [run_sliceAt_slice w t _ _ _ _ ht, run_slice_l w t (some ⟨g, f, none⟩) len cap ht kl lo (by omega) (by omega)]
  simp [hsz, sliced, hne, addr_off, Result.andThen]
 unfold execOp
 simp only [ho, hx, hl, Option.map_some, Option.map_none, e, Sem.run_bind, Sem.run_pure, Result.andThen_ok]
theorem exec_sl3 (t : TypeId) (x lx hx' mx' : Operand) (g f len cap lo hi mx s : Nat) (kl kh km : IntKind) (ho : o.op = .slice t x (some lx) (some hx') (some mx')) (hx : evF F x = .slice (some ⟨g, f, none⟩) len cap) (hl : evF F lx = .int kl (lo : Int)) (hh : evF F hx' = .int kh (hi : Int)) (hm : evF F mx' = .int km (mx : Int)) (ht : P.underlying t = some (.slice (P.elem t))) (hsz : ∀ w, (sizeOf (P.elem t)).run P w = .ok s w)
  (h1 : lo ≤ hi) (h2 : hi ≤ mx) (h3 : mx ≤ cap) (h4 : lo < mx) (w : World) : (execOp (evF F) o).run P w = .ok (.value (.slice (some ⟨g, f + lo * s, none⟩) (hi - lo) (mx - lo))) w := by
 have hne : ¬ mx = lo := by omega
 have e : (Instr.sliceAt t (.slice (some ⟨g, f, none⟩) len cap) (some (.int kl (lo : Int))) (some (.int kh (hi : Int))) (some (.int km (mx : Int)))).run P w = .ok (.slice (some ⟨g, f + lo * s, none⟩) (hi - lo) (mx - lo)) w := by
  rw [run_sliceAt_slice w t _ _ _ _ ht, run_slice_lhm w t (some ⟨g, f, none⟩) len cap ht kl kh km lo hi mx (by omega) (by omega) (by omega) (by omega)]
  simp [hsz, sliced, hne, addr_off, Result.andThen]
 unfold execOp
 simp only [ho, hx, hl, hh, hm, Option.map_some, e, Sem.run_bind, Sem.run_pure, Result.andThen_ok]
theorem exec_min (x y : Operand) {ts : Array TypeId} (k : IntKind) (a b c : Nat) (ho : o.op = .call { callee := .builtin .min, args := #[x, y], argTypes := ts }) (hx : evF F x = .int k (a : Int)) (hy : evF F y = .int k (b : Int)) (h : min a b = c) (w : World) : (execOp (evF F) o).run P w = .ok (.value (.int k (c : Int))) w := by
 have e : (if (b : Int) < (a : Int) then (b : Int) else (a : Int)) = (c : Int) := by split <;> omega
 unfold execOp
 simp [ho, hx, hy, resolve, invoke, builtin, Builtin.min_, Builtin.min2, Sem.run_bind, Result.andThen]
 omega
theorem exec_idx (t e : TypeId) (x kx : Operand) (cs : Array Value) (m k : Nat) (ki : IntKind) (d : TypeDesc) (c : Value) (ho : o.op = .index t x kx) (hx : evF F x = .agg cs) (hkx : evF F kx = .int ki (k : Int)) (ht : P.underlying t = some (.array m e)) (he : P.underlying e = some d) (hd : d.isRow = false) (hsz : ∀ w, (sizeOf e).run P w = .ok 1 w) (hk : k < m) (hc : cs[k]? = some c) (w : World) :
  (execOp (evF F) o).run P w = .ok (.value c) w := by
 have h0 : (0 : Int) ≤ k := by omega
 have ha : (isAgg e).run P w = .ok false w := by
  cases d <;> first | (cases hd; done) | simp [isAgg, underlying, he]
 have pc : (part e cs ((k : Int).toNat * 1)).run P w = .ok c w := by
  simp [part, ha, hc, Result.andThen]
 unfold execOp
 simp only [ho, hx, hkx, Instr.index, asIntOf, Sem.run_bind, Sem.run_pure, Result.andThen_ok, run_underlying ht]
 rw [if_pos ⟨by omega, by omega⟩]
 simp only [Sem.run_bind, hsz, Result.andThen_ok, pc, Sem.run_pure]

def NextX {T : Type} (w0 : Base) (n N : Nat) (FF : Nat → T → Slots) (LL : Nat → T → Blocks) (H : Nat → T → Prop) (k : Nat) : Act → World → Prop := fun a w => k < N ∧ ∃ y, H (k + 1) y ∧ Fr w0.ds a n (FF (k + 1) y) ∧ St w0 w (LL (k + 1) y)
theorem loopX {T : Type} {c : Code} (N : Nat) (FF : Nat → T → Slots) (LL : Nat → T → Blocks) (H : Nat → T → Prop) (x0 : T) (m : List Bool) (h0 : H 0 x0) (hF : ∀ p ∈ FF 0 x0, F.lookup p.1 = some p.2) (hL : sel L m = LL 0 x0)
  (hr : ∀ k x, k ≤ N → H k x → wpC P w0 n (Exit.then (NextX w0 n N FF LL H k) Q) (FF k x) (LL k x) c) : wpC P w0 n Q F L (.loop c) :=
 loopI N (fun k a w => ∃ x, H k x ∧ Fr w0.ds a n (FF k x) ∧ St w0 w (LL k x)) (fun _ _ ha hw => ⟨x0, h0, ha.all hF, hL ▸ hw.less (sel_sub L m)⟩)
  fun k hk a w ⟨x, hx, ha, hw⟩ => hr k x hk hx a w ha hw
theorem againX {T : Type} {N : Nat} {FF : Nat → T → Slots} {LL : Nat → T → Blocks} {H : Nat → T → Prop} {k : Nat} {R : Exit → Act → World → Prop} (y : T) (m : List Bool) (hk : k < N) (hy : H (k + 1) y) (hF : ∀ p ∈ FF (k + 1) y, F.lookup p.1 = some p.2) (hL : sel L m = LL (k + 1) y) :
  X w0 n (Exit.then (NextX w0 n N FF LL H k) R) F L .normal := fun _ _ ha hw => ⟨hk, y, hy, ha.all hF, hL ▸ hw.less (sel_sub L m)⟩

def NextK (w0 : Base) (n N : Nat) (FF : Nat → Slots) (LL : Nat → Blocks) (k : Nat) : Act → World → Prop := fun a w => k < N ∧ Fr w0.ds a n (FF (k + 1)) ∧ St w0 w (LL (k + 1))
theorem loopK {c : Code} (N : Nat) (FF : Nat → Slots) (LL : Nat → Blocks) (m : List Bool) {M : Blocks} (hF : ∀ p ∈ FF 0, F.lookup p.1 = some p.2) (hL : sel L m = M) (hM : M = LL 0)
  (hr : ∀ k, k ≤ N → wpC P w0 n (Exit.then (NextK w0 n N FF LL k) Q) (FF k) (LL k) c) : wpC P w0 n Q F L (.loop c) :=
 loopI N (fun k a w => Fr w0.ds a n (FF k) ∧ St w0 w (LL k)) (fun _ _ ha hw => ⟨ha.all hF, hM ▸ hL ▸ hw.less (sel_sub L m)⟩)
  fun k hk a w ⟨ha, hw⟩ => hr k hk a w ha hw
theorem againK {N : Nat} {FF : Nat → Slots} {LL : Nat → Blocks} {k : Nat} {R : Exit → Act → World → Prop} (m : List Bool) {M : Blocks} (hk : k < N) (hF : ∀ p ∈ FF (k + 1), F.lookup p.1 = some p.2) (hL : sel L m = M) (hM : M = LL (k + 1)) :
  X w0 n (Exit.then (NextK w0 n N FF LL k) R) F L .normal := fun _ _ ha hw => ⟨hk, ha.all hF, hM ▸ hL ▸ hw.less (sel_sub L m)⟩
theorem tidyC {c : Code} {G : Slots} {M N : Blocks} (m : List Bool) (hM : sel L m = M) (hN : M = N) (hF : ∀ p ∈ G, F.lookup p.1 = some p.2) (h : wpC P w0 n Q G N c) : wpC P w0 n Q F L c := tidy m (hM.trans hN) hF h
theorem bcons {x y : Nat × TypeId × Array Value} {l m : Blocks} (h : x = y) (k : l = m) : x :: l = y :: m := by rw [h, k]
theorem beq {g : Nat} {t : TypeId} {a b : Array Value} (h : a = b) : (g, t, a) = (g, t, b) := by rw [h]

def NextH (w0 : Base) (n N : Nat) (H : Nat → Prop) (FF : Nat → Slots) (LL : Nat → Blocks) (k : Nat) : Act → World → Prop := fun a w => k < N ∧ H (k + 1) ∧ Fr w0.ds a n (FF (k + 1)) ∧ St w0 w (LL (k + 1))
theorem loopH {c : Code} (N : Nat) (H : Nat → Prop) (FF : Nat → Slots) (LL : Nat → Blocks) (m : List Bool) {M : Blocks} (h0 : H 0) (hF : ∀ p ∈ FF 0, F.lookup p.1 = some p.2) (hL : sel L m = M) (hM : M = LL 0)
  (hr : ∀ k, k ≤ N → H k → wpC P w0 n (Exit.then (NextH w0 n N H FF LL k) Q) (FF k) (LL k) c) : wpC P w0 n Q F L (.loop c) :=
 loopI N (fun k a w => H k ∧ Fr w0.ds a n (FF k) ∧ St w0 w (LL k)) (fun _ _ ha hw => ⟨h0, ha.all hF, hM ▸ hL ▸ hw.less (sel_sub L m)⟩)
  fun k hk a w ⟨hh, ha, hw⟩ => hr k hk hh a w ha hw
theorem againH {N : Nat} {H : Nat → Prop} {FF : Nat → Slots} {LL : Nat → Blocks} {k : Nat} {R : Exit → Act → World → Prop} (m : List Bool) {M : Blocks} (hk : k < N) (hh : H (k + 1)) (hF : ∀ p ∈ FF (k + 1), F.lookup p.1 = some p.2) (hL : sel L m = M) (hM : M = LL (k + 1)) :
  X w0 n (Exit.then (NextH w0 n N H FF LL k) R) F L .normal := fun _ _ ha hw => ⟨hk, hh, ha.all hF, hM ▸ hL ▸ hw.less (sel_sub L m)⟩

theorem Makes.slice (t e : TypeId) (i : TypeInfo) (z : Value) (s b : Nat) (x y : Operand) (kl kc : IntKind) (m : Nat) (c : List Value) (ho : o.op = .makeSlice t x y) (hx : evF F x = .int kl (m : Int)) (hy : evF F y = .int kc (m : Int)) (ht : P.underlying t = some (.slice e)) (hi : P.info? e = some i) (hz : i.zero = some z) (hs : i.size = s) (hs0 : 0 < s) (hb : i.bytes = b)
  (hc : z.cells.toList = c) (hcl : c.length = s) (hbytes : b * m ≤ 281474976710656) (h63 : m ≤ 9223372036854775807) : Makes P F o e (flat (fun _ => c) m).toArray (fun g => .slice (some ⟨g, 0, none⟩) m m) := fun w => by
 subst hs hb
 have hb : (i.bytes : Int) * (m : Int) ≤ 281474976710656 := by
  have h : ((i.bytes * m : Nat) : Int) ≤ 281474976710656 := by omega
  rwa [Int.natCast_mul] at h
 have hr := run_make (P := P) w t e i z ht hi hz kl kc m m (by omega) (Int.le_refl _) hb (by omega)
 simp only [Int.toNat_natCast] at hr
 unfold execOp
 simp only [ho, hx, hy, Sem.run_bind, Sem.run_pure, hr, Result.andThen_ok]
 rw [flat_const c hcl hs0 m z.cells hc]
end
end Go.Proofs.YtfhcpdbahbbmaaaGreatDoor.Sy

end
section
namespace Go.Proofs.YtfhcpdbahbbmaaaGreatDoor.Fz
open Go.RowKit Go.Lib Go.Proofs.YtfhcpdbahbbmaaaGreatDoor Go.Proofs.YtfhcpdbahbbmaaaGreatDoor.Sy

def vR (R : Nat → Nat) : Nat → Nat
 | 0 => 0
 | n + 1 => vR R n + R n * 18446744073709551616 ^ n
def upd (R : Nat → Nat) (k y : Nat) : Nat → Nat := fun t => if t = k then y else R t
theorem upd_ne {R : Nat → Nat} {k y t : Nat} (h : t ≠ k) : upd R k y t = R t := if_neg h
theorem upd_lt {R : Nat → Nat} {k y : Nat} (h : ∀ t, R t < 18446744073709551616) (hy : y < 18446744073709551616) (t : Nat) : upd R k y t < 18446744073709551616 := by
 unfold upd
 split
 ·exact hy
 ·exact h t
theorem vR_same {R S : Nat → Nat} : ∀ n, (∀ t, t < n → R t = S t) → vR R n = vR S n
 | 0, _ => rfl
 | n + 1, h => by
  show vR R n + _ = vR S n + _
  rw [vR_same n fun t ht => h t (by omega), h n (by omega)]
theorem vR_upd (R : Nat → Nat) (k y : Nat) : ∀ n, k < n → vR (upd R k y) n + R k * 18446744073709551616 ^ k = vR R n + y * 18446744073709551616 ^ k
 | 0, h => absurd h (Nat.not_lt_zero _)
 | n + 1, h => by
  show vR (upd R k y) n + upd R k y n * _ + _ = vR R n + R n * _ + _
  by_cases e : k = n
  ·subst e
   rw [show upd R k y k = y from if_pos rfl, vR_same (R := upd R k y) (S := R) k fun t ht => if_neg (by omega)]
   omega
  ·have h2 := vR_upd R k y n (by omega)
   rw [show upd R k y n = R n from if_neg (by omega)]
   omega
theorem vR_lt {R : Nat → Nat} (h : ∀ t, R t < 18446744073709551616) : ∀ n, vR R n < 18446744073709551616 ^ n
 | 0 => Nat.one_pos
 | n + 1 => by
  have h1 := vR_lt h n
  have h2 := h n
  show vR R n + R n * _ < _
  rw [Nat.pow_succ]
  have h3 : (R n + 1) * 18446744073709551616 ^ n ≤ 18446744073709551616 * 18446744073709551616 ^ n := Nat.mul_le_mul_right _ h2
  rw [Nat.add_mul, Nat.one_mul] at h3
  rw [Nat.mul_comm (18446744073709551616 ^ n)]
  omega
theorem vR_split (R : Nat → Nat) (a : Nat) : ∀ n, vR R (a + n) = vR R a + vR (fun t => R (a + t)) n * 18446744073709551616 ^ a
 | 0 => by
  show vR R a = vR R a + 0 * _
  rw [Nat.zero_mul, Nat.add_zero]
 | n + 1 => by
  show vR R (a + n) + R (a + n) * 18446744073709551616 ^ (a + n) = vR R a + (vR _ n + R (a + n) * _) * _
  rw [vR_split R a n, Nat.add_mul, Nat.mul_assoc, ← Nat.pow_add, Nat.add_comm n a, Nat.add_assoc]
theorem vR_zero : ∀ n, vR (fun _ => 0) n = 0
 | 0 => rfl
 | n + 1 => by
  show vR _ n + 0 * _ = 0
  rw [vR_zero n, Nat.zero_mul]
def cpy (R : Nat → Nat) (k : Nat) : Nat → Nat := fun t => if t < k then R t else 0
theorem cpy_lt {R : Nat → Nat} (h : ∀ t, R t < 18446744073709551616) (k t : Nat) : cpy R k t < 18446744073709551616 := by
 unfold cpy
 split
 ·exact h t
 ·decide
theorem cpy_succ (R : Nat → Nat) (k : Nat) : upd (cpy R k) k (R k) = cpy R (k + 1) := by
 funext t
 unfold upd cpy
 by_cases e : t = k
 ·rw [if_pos e, if_pos (by omega), e]
 ·rw [if_neg e]
  by_cases l : t < k
  ·rw [if_pos l, if_pos (by omega)]
  ·rw [if_neg l, if_neg (by omega)]
theorem vR_cpy (R : Nat → Nat) : vR (cpy R 4) 8 = vR R 4 := by
 rw [show (8 : Nat) = 4 + 4 from rfl, vR_split, vR_same (R := cpy R 4) (S := R) 4 (fun t ht => if_pos ht), vR_same (R := fun t => cpy R 4 (4 + t)) (S := fun _ => 0) 4 (fun t _ => if_neg (by omega)), vR_zero, Nat.zero_mul, Nat.add_zero]
def rw8 (R : Nat → Nat) : Array Value := #[.int .u64 ((R 0 : Nat) : Int), .int .u64 ((R 1 : Nat) : Int), .int .u64 ((R 2 : Nat) : Int), .int .u64 ((R 3 : Nat) : Int), .int .u64 ((R 4 : Nat) : Int), .int .u64 ((R 5 : Nat) : Int), .int .u64 ((R 6 : Nat) : Int), .int .u64 ((R 7 : Nat) : Int)]
theorem eight {k : Nat} (h : k < 8) : k = 0 ∨ k = 1 ∨ k = 2 ∨ k = 3 ∨ k = 4 ∨ k = 5 ∨ k = 6 ∨ k = 7 := by omega
theorem rw8_at (R : Nat → Nat) {k o : Nat} (h : k < 8) (ho : o = k) : (rw8 R)[o]? = some (.int .u64 ((R k : Nat) : Int)) := by
 subst ho
 rcases eight h with rfl | rfl | rfl | rfl | rfl | rfl | rfl | rfl <;> rfl
theorem rw8_set (R : Nat → Nat) (y : Nat) {k o : Nat} (h : k < 8) (ho : o = k) : (rw8 R).setIfInBounds o (.int .u64 ((y : Nat) : Int)) = rw8 (upd R k y) := by
 subst ho
 rcases eight h with rfl | rfl | rfl | rfl | rfl | rfl | rfl | rfl <;> rfl
theorem rw8_fit (R : Nat → Nat) {k o : Nat} (h : k < 8) (ho : o = k) : o < (rw8 R).size := by
 subst ho
 exact h
def modc (M : Nat) (lw : Nat → Nat) : Array Value := ((fcs M).toList ++ ([.int .u64 ((lw 0 : Nat) : Int), .int .u64 ((lw 1 : Nat) : Int), .int .u64 ((lw 2 : Nat) : Int)] : List Value)).toArray
theorem modc_at (M : Nat) (lw : Nat → Nat) {j o : Nat} (h : j < 3) (ho : o = 4 + j) : (modc M lw)[o]? = some (.int .u64 ((lw j : Nat) : Int)) := by
 subst ho
 have : j = 0 ∨ j = 1 ∨ j = 2 := by omega
 rcases this with rfl | rfl | rfl <;> rfl
def wd (x : Nat) (t : Nat) : Nat := x / 18446744073709551616 ^ t % 18446744073709551616
theorem wd_lt (x t : Nat) : wd x t < 18446744073709551616 := Nat.mod_lt _ (by decide)
theorem wd_all (x : Nat) : ∀ n, vR (wd x) n = x % 18446744073709551616 ^ n
 | 0 => by rw [Nat.pow_zero, Nat.mod_one]; rfl
 | n + 1 => by
  show vR (wd x) n + wd x n * _ = _
  rw [wd_all x n, Nat.mod_pow_succ, Nat.mul_comm]
  rfl
theorem fcs_at (x : Nat) {k o : Nat} (h : k < 4) (ho : o = k) : (fcs x)[o]? = some (.int .u64 ((wd x k : Nat) : Int)) := by
 subst ho
 have : o = 0 ∨ o = 1 ∨ o = 2 ∨ o = 3 := by omega
 have e0 : wd x 0 = x % 18446744073709551616 := by unfold wd; rw [Nat.pow_zero, Nat.div_one]
 have e1 : wd x 1 = x / 18446744073709551616 % 18446744073709551616 := by unfold wd; rw [Nat.pow_one]
 rcases this with rfl | rfl | rfl | rfl
 ·rw [e0]; rfl
 ·rw [e1]; rfl
 ·rfl
 ·rfl
theorem row_fv {R : Nat → Nat} (h : ∀ t, R t < 18446744073709551616) : Value.agg #[.int .u64 ((R 0 : Nat) : Int), .int .u64 ((R 1 : Nat) : Int), .int .u64 ((R 2 : Nat) : Int), .int .u64 ((R 3 : Nat) : Int)] = fv (vR R 4) := by
 rw [fv_mk _ _ _ _ (h 0) (h 1) (h 2) (h 3)]
 congr 1
 show _ = 0 + R 0 * 1 + R 1 * 18446744073709551616 + R 2 * 340282366920938463463374607431768211456 + R 3 * 6277101735386680763835789423207666416102355444464034512896
 omega
theorem stepZ {hi lo x k y l e d r c : Nat} (h1 : lo + 18446744073709551616 * hi = e * d) (h2 : x + 18446744073709551616 * k = lo + r) (h3 : y + 18446744073709551616 * l = x + c) : y + 18446744073709551616 * (hi + k + l) = e * d + r + c := by omega
theorem carryZ {hi k l y e d r c : Nat} (h : y + 18446744073709551616 * (hi + k + l) = e * d + r + c) (he : e < 18446744073709551616) (hd : d < 18446744073709551616) (hr : r < 18446744073709551616) (hc : c < 18446744073709551616) : hi + k + l < 18446744073709551616 := by
 have h2 : e * d ≤ 18446744073709551615 * 18446744073709551615 := Nat.mul_le_mul (by omega) (by omega)
 omega
theorem innerZ {v v' r P c c' y e d V LS Bi P0 : Nat} (h1 : v' + r * P = v + y * P) (h2 : v + c * P = V + e * LS * Bi) (h3 : y + 18446744073709551616 * c' = e * d + r + c) (hp : P = P0 * Bi) : v' + c' * (P * 18446744073709551616) = V + e * (LS + d * P0) * Bi := by
 grind
theorem carry2 {v v' r P c l x V : Nat} (h1 : v' + r * P = v + x * P) (h2 : v + c * P = V) (h3 : x + 18446744073709551616 * l = r + c) : v' + l * (P * 18446744073709551616) = V := by
 grind
theorem or_nat (a b : Nat) (ha : a < 18446744073709551616) (hb : b < 18446744073709551616) : IntKind.u64.wrap ((BitVec.ofInt IntKind.u64.bits (a : Int) ||| BitVec.ofInt IntKind.u64.bits (b : Int)).toNat : Int) = ((a ||| b : Nat) : Int) := by
 have hl : a ||| b < 18446744073709551616 := Nat.or_lt_two_pow (n := 64) ha hb
 have hw2 : (BitVec.ofInt 64 (a : Int) ||| BitVec.ofInt 64 (b : Int)).toNat = a ||| b := by
  rw [BitVec.toNat_or]
  simp only [BitVec.ofInt_natCast, BitVec.toNat_ofNat]
  rw [Nat.mod_eq_of_lt (by omega), Nat.mod_eq_of_lt (by omega)]
 show IntKind.u64.wrap ((BitVec.ofInt 64 (a : Int) ||| BitVec.ofInt 64 (b : Int)).toNat : Int) = _
 rw [hw2, wrap_u64 (by omega) (by omega)]
theorem int_or {P : Program} (t : TypeId) (k : IntKind) (a b c : Int) (h : k.wrap ((BitVec.ofInt k.bits a ||| BitVec.ofInt k.bits b).toNat : Int) = c) (w : World) : (binOp .or t (.int k a) (.int k b)).run P w = .ok (.int k c) w := by
 simp only [binOp, ne_eq, not_true_eq_false, if_false, Op.intBits, Sem.run_pure]
 rw [h]
theorem mulZ_any (w : World) (x y hi lo : Nat) (hx : x < 18446744073709551616) (hy : y < 18446744073709551616) (hlo : lo < 18446744073709551616) (he : lo + 18446744073709551616 * hi = x * y) :
  Calls Tryz.prog 160 #[.int .u64 ((x : Nat) : Int), .int .u64 ((y : Nat) : Int)] w (Gets w (.tuple #[.int .u64 ((hi : Nat) : Int), .int .u64 ((lo : Nat) : Int)])) :=
 (mul64_at w x y hi lo hx hy hlo he).mono fun e w' ⟨h1, h2⟩ => ⟨h1, by rw [h2]; exact Below.refl _ _⟩
theorem two_words (x y : Nat) : ∃ hi lo : Nat, lo < 18446744073709551616 ∧ lo + 18446744073709551616 * hi = x * y := ⟨x * y / 18446744073709551616, x * y % 18446744073709551616, Nat.mod_lt _ (by decide), Nat.mod_add_div _ _⟩
theorem outerM {x y i c : Nat} {y1 z : Nat → Nat} (h1 : vR y1 8 = vR (wd x) i * vR (wd y) 4) (h2 : vR z 8 + c * 18446744073709551616 ^ (i + 4) = vR y1 8 + wd x i * vR (wd y) 4 * 18446744073709551616 ^ i) (h3 : z (i + 4) = 0) (hi : i < 4) : vR (upd z (i + 4) c) 8 = vR (wd x) (i + 1) * vR (wd y) 4 := by
 have h4 := vR_upd z (i + 4) c 8 (by omega)
 rw [h3, Nat.zero_mul, Nat.add_zero] at h4
 show _ = (vR (wd x) i + wd x i * _) * _
 rw [h4, h2, h1]
 grind
theorem wd4 {x : Nat} (hx : x < (2^256)) : vR (wd x) 4 = x := by
 rw [wd_all]
 exact Nat.mod_eq_of_lt hx
end Go.Proofs.YtfhcpdbahbbmaaaGreatDoor.Fz

end
section
namespace Go.Proofs.YtfhcpdbahbbmaaaGreatDoor.Fz
open Go.RowKit Go.Lib Go.Proofs.YtfhcpdbahbbmaaaGreatDoor Go.Proofs.YtfhcpdbahbbmaaaGreatDoor.Sy

theorem or_zero {y : Nat → Nat} (h : ¬ (((y 4 ||| y 5) ||| y 6) ||| y 7 > 0)) : y 4 = 0 ∧ y 5 = 0 ∧ y 6 = 0 ∧ y 7 = 0 := by
 have h0 : ((y 4 ||| y 5) ||| y 6) ||| y 7 = 0 := by omega
 rw [Nat.or_eq_zero_iff, Nat.or_eq_zero_iff, Nat.or_eq_zero_iff] at h0
 exact ⟨h0.1.1.1, h0.1.1.2, h0.1.2, h0.2⟩
theorem vR_hi (y : Nat → Nat) : vR (fun t => y (4 + t)) 4 = 0 + y 4 * 1 + y 5 * 18446744073709551616 + y 6 * 340282366920938463463374607431768211456 + y 7 * 6277101735386680763835789423207666416102355444464034512896 := rfl
theorem vR_lowN {y : Nat → Nat} (n k : Nat) (hn : n = k + k) (e : vR (fun t => y (k + t)) k = 0) : vR y n = vR y k := by
 subst hn
 have s := vR_split y k k
 rw [e, Nat.zero_mul, Nat.add_zero] at s
 exact s
theorem vR_low {y : Nat → Nat} (h : y 4 = 0 ∧ y 5 = 0 ∧ y 6 = 0 ∧ y 7 = 0) : vR y 8 = vR y 4 := vR_lowN 8 4 rfl (by
 rw [vR_hi]
 obtain ⟨h1, h2, h3, h4⟩ := h
 omega)
theorem outerZ {M : Nat} {lw y z : Nat → Nat} (_ : ∀ t, lw t < 18446744073709551616) (hM0 : 0 < M) (hM : M + vR lw 3 = 18446744073709551616 ^ 4) (_ : ∀ t, y t < 18446744073709551616) (h : vR z 8 = vR y 4 + vR (fun t => y (4 + t)) 4 * vR lw 3) (ho : ((y 4 ||| y 5) ||| y 6) ||| y 7 > 0) : vR z 8 % M = vR y 8 % M ∧ vR z 8 < vR y 8 := by
 have e : vR y 8 = vR z 8 + vR (fun t => y (4 + t)) 4 * M := by
  rw [show (8 : Nat) = 4 + 4 from rfl, vR_split y, ← hM, show (4 + 4 : Nat) = 8 from rfl, h, Nat.mul_add]
  omega
 have hp : 0 < vR (fun t => y (4 + t)) 4 := by
  rw [vR_hi]
  rcases Nat.eq_zero_or_pos (y 4) with h4 | h4
  ·rcases Nat.eq_zero_or_pos (y 5) with h5 | h5
   ·rcases Nat.eq_zero_or_pos (y 6) with h6 | h6
    ·rcases Nat.eq_zero_or_pos (y 7) with h7 | h7
     ·rw [h4, h5, h6, h7] at ho
      exact absurd ho (by decide)
     ·omega
    ·omega
   ·omega
  ·omega
 have hpos : 0 < vR (fun t => y (4 + t)) 4 * M := Nat.mul_pos hp hM0
 refine ⟨?_, by omega⟩
 rw [e, Nat.add_mul_mod_self_right]
theorem endZ {lw y y3 z : Nat → Nat} {c i n : Nat} (hlw : ∀ t, lw t < 18446744073709551616) (hy : ∀ t, y t < 18446744073709551616) (h3 : vR y3 8 = vR y 4 + vR (fun t => y (4 + t)) i * vR lw 3) (hz : ∀ t, z t < 18446744073709551616) (h : vR z 8 + c * 18446744073709551616 ^ n = vR y3 8 + y (4 + i) * vR lw 3 * 18446744073709551616 ^ i) (hi : i < 4) (hc : c = 0 ∨ n = 8) :
  vR z 8 = vR y 4 + vR (fun t => y (4 + t)) (i + 1) * vR lw 3 := by
 have e : vR y3 8 + y (4 + i) * vR lw 3 * 18446744073709551616 ^ i = vR y 4 + vR (fun t => y (4 + t)) (i + 1) * vR lw 3 := by
  show _ = _ + (vR (fun t => y (4 + t)) i + y (4 + i) * _) * _
  rw [h3]
  grind
 rw [e] at h
 rcases hc with rfl | rfl
 ·rw [Nat.zero_mul, Nat.add_zero] at h
  exact h
 ·have h1 := vR_lt hy 4
  have h2 := vR_lt (R := fun t => y (4 + t)) (fun t => hy _) (i + 1)
  have h4 := vR_lt hlw 3
  have h5 : 18446744073709551616 ^ (i + 1) ≤ 18446744073709551616 ^ 4 := Nat.pow_le_pow_right (by decide) (by omega)
  have h6 : vR (fun t => y (4 + t)) (i + 1) * vR lw 3 ≤ 18446744073709551616 ^ 4 * 18446744073709551616 ^ 3 := Nat.mul_le_mul (by omega) (by omega)
  have h7 : (18446744073709551616 ^ 4 + 18446744073709551616 ^ 4 * 18446744073709551616 ^ 3 : Nat) < 18446744073709551616 ^ 8 := by decide
  rcases Nat.eq_zero_or_pos c with rfl | hp
  ·rw [Nat.zero_mul, Nat.add_zero] at h
   exact h
  ·have h8 : 1 * 18446744073709551616 ^ 8 ≤ c * 18446744073709551616 ^ 8 := Nat.mul_le_mul_right _ hp
   omega
set_option maxHeartbeats 4000000 in
set_option maxRecDepth 100000 in
theorem foldZ (w : World) (M : Nat) (lw : Nat → Nat) (hlw : ∀ t, lw t < 18446744073709551616) (hM0 : 0 < M) (hM : M + vR lw 3 = 18446744073709551616 ^ 4) (hnorm : ∀ w x, x < (2^256) → Calls Tryz.prog 74 #[.agg (modc M lw), fv x] w (Gets w (fv (x % M)))) (R : Nat → Nat) (hR : ∀ t, R t < 18446744073709551616) : Calls Tryz.prog 159 #[.agg (modc M lw), .agg (rw8 R)] w (Gets w (fv (vR R 8 % M))) := by
 obtain ⟨V, hV⟩ : ∃ V, V = vR R 8 % M := ⟨_, rfl⟩
 obtain ⟨V0, hV0⟩ : ∃ V, V = vR R 8 := ⟨_, rfl⟩
 rw [← hV]
 refine Sy.enter (args := [.agg (modc M lw), .agg (rw8 R)]) Tryz.func159 rfl kL ?_
 refine sC ?_
 refine sM 102 (modc M lw) (fun g0 => ?_)
 refine Sy.make kR 194 (rw8 R) ptr kF (fun g1 => ?_)
 refine sM 97 (fcs 0) (fun g2 => ?_)
 refine sG <| Sy.seq <| Sy.block ?_
 refine Sy.loopX (T := Nat → Nat) V0 (fun k1 y1 => [(2, .pointer (some ⟨g0, 0, none⟩)), (3, .pointer (some ⟨g1, 0, none⟩)), (4, .pointer (some ⟨g2, 0, none⟩))]) (fun k1 y1 => [(g0, 102, (modc M lw)), (g1, 194, (rw8 y1)), (g2, 97, (fcs 0))]) (fun k1 y1 => (∀ t, y1 t < 18446744073709551616) ∧ vR y1 8 % M = V ∧ vR y1 8 + k1 ≤ V0) R [true, true, true] (⟨hR, hV.symm, by show vR R 8 + 0 ≤ V0; omega⟩) (all_cons kR (all_cons kR (all_cons kR all_nil))) kR (fun k1 y1 hk1 hh1 => ?_)
 refine Sy.seq <| sC ?_
 refine sP (.pointer (some ⟨g1, 4, none⟩)) <| sS (.int .u64 ((y1 4 : Nat) : Int)) (Quiet.cell 1 g1 4 194 22 (rw8 y1) _ _ rfl kR kR Tryz.underlying22 rfl _ kR) <| sP (.pointer (some ⟨g1, 5, none⟩)) <| sS (.int .u64 ((y1 5 : Nat) : Int)) (Quiet.cell 1 g1 5 194 22 (rw8 y1) _ _ rfl kR kR Tryz.underlying22 rfl _ kR) <| sS (.int .u64 (((y1 4) ||| (y1 5) : Nat) : Int)) (Quiet.pure (exec_int .or _ _ _ .u64 _ _ _ rfl rfl rfl (int_or _ _ _ _ _ (or_nat _ _ (hh1.1 _) (hh1.1 _))))) <| sP (.pointer (some ⟨g1, 6, none⟩)) <| sS (.int .u64 ((y1 6 : Nat) : Int)) (Quiet.cell 1 g1 6 194 22 (rw8 y1) _ _ rfl kR kR Tryz.underlying22 rfl _ kR) <| sS (.int .u64 ((((y1 4) ||| (y1 5)) ||| (y1 6) : Nat) : Int)) (Quiet.pure (exec_int .or _ _ _ .u64 _ _ _ rfl rfl rfl (int_or _ _ _ _ _ (or_nat _ _ (Nat.or_lt_two_pow (n := 64) (hh1.1 _) (hh1.1 _)) (hh1.1 _))))) ?_
 refine sP (.pointer (some ⟨g1, 7, none⟩)) <| sS (.int .u64 ((y1 7 : Nat) : Int)) (Quiet.cell 1 g1 7 194 22 (rw8 y1) _ _ rfl kR kR Tryz.underlying22 rfl _ kR) <| sS (.int .u64 (((((y1 4) ||| (y1 5)) ||| (y1 6)) ||| (y1 7) : Nat) : Int)) (Quiet.pure (exec_int .or _ _ _ .u64 _ _ _ rfl rfl rfl (int_or _ _ _ _ _ (or_nat _ _ (Nat.or_lt_two_pow (n := 64) (Nat.or_lt_two_pow (n := 64) (hh1.1 _) (hh1.1 _)) (hh1.1 _)) (hh1.1 _))))) ?_
 obtain ⟨b1, hb1⟩ : ∃ z : Bool, z = decide ((((y1 4) ||| (y1 5)) ||| (y1 6)) ||| (y1 7) > 0) := ⟨_, rfl⟩
 refine sS (.bool b1) (Quiet.pure (exec_int .gtr _ _ _ .u64 _ _ _ rfl rfl rfl (int_gtr _ _ _ _ _ (by rw [hb1]; exact decide_eq_decide.2 (by omega))))) ?_
 refine sG ?_
 cases b1
 ·have lb1 : ¬ ((((y1 4) ||| (y1 5)) ||| (y1 6)) ||| (y1 7) > 0) := of_decide_eq_false hb1.symm
  refine sU <| Sy.exit <| Sy.then_exit <| Sy.then_exit ?_
  have hz := or_zero lb1
  have hlow := vR_low hz
  refine Sy.in_exit <| sB ?_
  refine sS (.agg (modc M lw)) (qL 0 g0 0 7 102 102 (modc M lw) rfl Tryz.underlying102) <| sP (.pointer (some ⟨g1, 0, none⟩)) <| sS (.int .u64 ((y1 0 : Nat) : Int)) (Quiet.cell 1 g1 0 194 22 (rw8 y1) _ _ rfl kR kR Tryz.underlying22 rfl _ kR) <| sP (.pointer (some ⟨g1, 1, none⟩)) <| sS (.int .u64 ((y1 1 : Nat) : Int)) (Quiet.cell 1 g1 1 194 22 (rw8 y1) _ _ rfl kR kR Tryz.underlying22 rfl _ kR) <| sP (.pointer (some ⟨g1, 2, none⟩)) <| sS (.int .u64 ((y1 2 : Nat) : Int)) (Quiet.cell 1 g1 2 194 22 (rw8 y1) _ _ rfl kR kR Tryz.underlying22 rfl _ kR) <| sP (.pointer (some ⟨g1, 3, none⟩)) ?_
  refine sS (.int .u64 ((y1 3 : Nat) : Int)) (Quiet.cell 1 g1 3 194 22 (rw8 y1) _ _ rfl kR kR Tryz.underlying22 rfl _ kR) <| sS (fv (vR y1 4)) (Quiet.pure (fun w => by rw [← row_fv hh1.1]; kernel_rfl)) <| sS (fv ((vR y1 4) % M)) (qF 74 #[.agg (modc M lw), fv (vR y1 4)] (fun w => hnorm w _ (vR_lt hh1.1 4))) <| sW 2 g2 97 (fcs 0) (fcs ((vR y1 4) % M)) (wS 0 97 (fcs ((vR y1 4) % M)) rfl) ?_
  refine sG <| Sy.ret ?_
  rw [show (fv V : Value) = fv ((vR y1 4) % M) from by rw [← hh1.2.1, hlow]]
  exact rC (v := fv ((vR y1 4) % M)) 97 g2 2 (fcs ((vR y1 4) % M)) rfl Tryz.underlying97
 ·have lb1 : (((y1 4) ||| (y1 5)) ||| (y1 6)) ||| (y1 7) > 0 := of_decide_eq_true hb1.symm
  refine sT <| Sy.skip <| Sy.then_ <| Sy.block <| sC ?_
  refine Sy.make kR 194 (rw8 (fun _ => 0)) ptr kF (fun g3 => ?_)
  refine sG <| Sy.seq <| sC ?_
  refine sP (.int .i64 0) ?_
  refine sG <| Sy.block ?_
  refine Sy.loopK 4 (fun k2 => [(2, .pointer (some ⟨g0, 0, none⟩)), (3, .pointer (some ⟨g1, 0, none⟩)), (4, .pointer (some ⟨g2, 0, none⟩)), (5, .pointer (some ⟨g3, 0, none⟩)), (6, .int .i64 ((k2 : Nat) : Int))]) (fun k2 => [(g0, 102, (modc M lw)), (g1, 194, (rw8 y1)), (g2, 97, (fcs 0)), (g3, 194, (rw8 (cpy y1 k2)))]) [true, true, true, true] (M := [(g0, 102, (modc M lw)), (g1, 194, (rw8 y1)), (g2, 97, (fcs 0)), (g3, 194, (rw8 (fun _ => 0)))]) (all_cons kR (all_cons kR (all_cons kR (all_cons kR (all_cons kR all_nil))))) kR (bcons rfl (bcons rfl (bcons rfl (bcons (beq kR) rfl)))) (fun k2 hk2 => ?_)
  refine Sy.seq <| sC ?_
  refine sP (.int .i64 ((k2 : Nat) : Int)) ?_
  obtain ⟨b2, hb2⟩ : ∃ z : Bool, z = decide (k2 < 4) := ⟨_, rfl⟩
  refine sS (.bool b2) (Quiet.pure (exec_int .lss _ _ _ .i64 _ _ _ rfl rfl rfl (int_lss _ _ _ _ _ (by rw [hb2]; exact decide_eq_decide.2 (by omega))))) ?_
  refine sG ?_
  cases b2
  ·have lb2 : ¬ (k2 < 4) := of_decide_eq_false hb2.symm
   refine sU <| Sy.exit <| Sy.then_exit <| Sy.then_exit ?_
   obtain rfl : k2 = 4 := by omega
   refine Sy.in_exit <| Sy.then_ <| Sy.seq <| sC ?_
   refine sP (.int .i64 0) ?_
   refine sG <| Sy.block ?_
   refine Sy.loopX (T := Nat → Nat) 4 (fun k3 y3 => [(2, .pointer (some ⟨g0, 0, none⟩)), (3, .pointer (some ⟨g1, 0, none⟩)), (4, .pointer (some ⟨g2, 0, none⟩)), (5, .pointer (some ⟨g3, 0, none⟩)), (7, .int .i64 ((k3 : Nat) : Int))]) (fun k3 y3 => [(g0, 102, (modc M lw)), (g1, 194, (rw8 y1)), (g2, 97, (fcs 0)), (g3, 194, (rw8 y3))]) (fun k3 y3 => (∀ t, y3 t < 18446744073709551616) ∧ vR y3 8 = vR y1 4 + vR (fun t => y1 (4 + t)) k3 * vR lw 3) (cpy y1 4) [true, true, true, true] (⟨cpy_lt hh1.1 4, (vR_cpy y1).trans (by show _ = _ + 0 * _; rw [Nat.zero_mul, Nat.add_zero])⟩) (all_cons kR (all_cons kR (all_cons kR (all_cons kR (all_cons kR all_nil))))) kR (fun k3 y3 hk3 hh3 => ?_)
   refine Sy.seq <| sC ?_
   refine sP (.int .i64 ((k3 : Nat) : Int)) ?_
   obtain ⟨b3, hb3⟩ : ∃ z : Bool, z = decide (k3 < 4) := ⟨_, rfl⟩
   refine sS (.bool b3) (Quiet.pure (exec_int .lss _ _ _ .i64 _ _ _ rfl rfl rfl (int_lss _ _ _ _ _ (by rw [hb3]; exact decide_eq_decide.2 (by omega))))) ?_
   refine sG ?_
   cases b3
   ·have lb3 : ¬ (k3 < 4) := of_decide_eq_false hb3.symm
    refine sU <| Sy.exit <| Sy.then_exit <| Sy.then_exit ?_
    obtain rfl : k3 = 4 := by omega
    refine Sy.in_exit <| Sy.then_ <| Sy.region ?_
    refine sS (.agg (rw8 y3)) (Quiet.load 3 g3 0 8 194 194 (rw8 y3) _ _ rfl kR kR Tryz.underlying194 rfl kR _ kR kL) ?_
    refine Sy.write kR 1 g1 194 (rw8 y1) (rw8 y3) kR (Writes.store 0 194 (rw8 y3) _ _ rfl kR kR kR kL kR kR) ?_
    refine Sy.nil <| Sy.in_ ?_
    have hf := outerZ hlw hM0 hM hh1.1 hh3.2 lb1
    obtain ⟨hf1, hf2⟩ := hf
    exact Sy.againX (y3) [true, true, true, false] (by have := hh1.2.2; omega) (⟨hh3.1, hf1.trans hh1.2.1, by have := hh1.2.2; omega⟩) (all_cons kR (all_cons kR (all_cons kR all_nil))) kR
   ·have lb3 : k3 < 4 := of_decide_eq_true hb3.symm
    refine sT <| Sy.skip <| Sy.then_ <| Sy.seq <| Sy.block <| sC ?_
    refine sP (.int .u64 0) ?_
    refine sG <| Sy.seq <| sC ?_
    refine sP (.int .i64 0) ?_
    refine sG <| Sy.block ?_
    refine Sy.loopX (T := (Nat → Nat) × Nat) 3 (fun k4 y4 => [(2, .pointer (some ⟨g0, 0, none⟩)), (3, .pointer (some ⟨g1, 0, none⟩)), (4, .pointer (some ⟨g2, 0, none⟩)), (5, .pointer (some ⟨g3, 0, none⟩)), (7, .int .i64 ((k3 : Nat) : Int)), (8, .int .u64 ((y4.2 : Nat) : Int)), (9, .int .i64 ((k4 : Nat) : Int))]) (fun k4 y4 => [(g0, 102, (modc M lw)), (g1, 194, (rw8 y1)), (g2, 97, (fcs 0)), (g3, 194, (rw8 y4.1))]) (fun k4 y4 => (∀ t, y4.1 t < 18446744073709551616) ∧ y4.2 < 18446744073709551616 ∧ vR y4.1 8 + y4.2 * 18446744073709551616 ^ (k3 + k4) = vR y3 8 + y1 (4 + k3) * vR lw k4 * 18446744073709551616 ^ k3) (y3, 0) [true, true, true, true] (⟨hh3.1, by show (0 : Nat) < 18446744073709551616; decide, by show vR y3 8 + 0 * _ = _ + _ * 0 * _; omega⟩) (all_cons kR (all_cons kR (all_cons kR (all_cons kR (all_cons kR (all_cons kR (all_cons kR all_nil))))))) kR (fun k4 y4 hk4 hh4 => ?_)
    refine Sy.seq <| sC ?_
    refine sP (.int .i64 ((k4 : Nat) : Int)) ?_
    obtain ⟨b4, hb4⟩ : ∃ z : Bool, z = decide (k4 < 3) := ⟨_, rfl⟩
    refine sS (.bool b4) (Quiet.pure (exec_int .lss _ _ _ .i64 _ _ _ rfl rfl rfl (int_lss _ _ _ _ _ (by rw [hb4]; exact decide_eq_decide.2 (by omega))))) ?_
    refine sG ?_
    cases b4
    ·have lb4 : ¬ (k4 < 3) := of_decide_eq_false hb4.symm
     refine sU <| Sy.exit <| Sy.then_exit <| Sy.then_exit ?_
     obtain rfl : k4 = 3 := by omega
     refine Sy.in_exit <| sB ?_
     refine sP (.int .i64 ((k3 : Nat) : Int)) <| sS (.int .i64 ((k3 + 3 : Nat) : Int)) (Quiet.pure (exec_int .add _ _ _ .i64 _ _ _ rfl rfl rfl (int_add _ _ _ _ _ ((wrap_i64 (by omega) (by omega)).trans (by omega))))) <| sP (.int .i64 ((k3 + 3 : Nat) : Int)) ?_
     refine sG <| Sy.block ?_
     refine Sy.loopX (T := (Nat → Nat) × Nat) (5 - k3) (fun k5 y5 => [(2, .pointer (some ⟨g0, 0, none⟩)), (3, .pointer (some ⟨g1, 0, none⟩)), (4, .pointer (some ⟨g2, 0, none⟩)), (5, .pointer (some ⟨g3, 0, none⟩)), (7, .int .i64 ((k3 : Nat) : Int)), (8, .int .u64 ((y5.2 : Nat) : Int)), (16, .int .i64 ((k3 + 3 + k5 : Nat) : Int))]) (fun k5 y5 => [(g0, 102, (modc M lw)), (g1, 194, (rw8 y1)), (g2, 97, (fcs 0)), (g3, 194, (rw8 y5.1))]) (fun k5 y5 => (∀ t, y5.1 t < 18446744073709551616) ∧ y5.2 < 18446744073709551616 ∧ vR y5.1 8 + y5.2 * 18446744073709551616 ^ (k3 + 3 + k5) = vR y3 8 + y1 (4 + k3) * vR lw 3 * 18446744073709551616 ^ k3) y4 [true, true, true, true] (⟨hh4.1, hh4.2.1, hh4.2.2⟩) (all_cons kR (all_cons kR (all_cons kR (all_cons kR (all_cons kR (all_cons kR (all_cons kR all_nil))))))) kR (fun k5 y5 hk5 hh5 => ?_)
     refine Sy.seq <| sC ?_
     refine sP (.int .i64 ((k3 + 3 + k5 : Nat) : Int)) ?_
     obtain ⟨b5, hb5⟩ : ∃ z : Bool, z = decide (k3 + 3 + k5 < 8) := ⟨_, rfl⟩
     refine sS (.bool b5) (Quiet.pure (exec_int .lss _ _ _ .i64 _ _ _ rfl rfl rfl (int_lss _ _ _ _ _ (by rw [hb5]; exact decide_eq_decide.2 (by omega))))) <| sP (.bool b5) ?_
     cases b5
     ·have lb5 : ¬ (k3 + 3 + k5 < 8) := of_decide_eq_false hb5.symm
      refine sN <| sN ?_
      refine sP (.bool false) ?_
      refine sG <| sU <| Sy.exit <| Sy.then_exit <| Sy.then_exit ?_
      have hfin := endZ hlw hh1.1 hh3.2 hh5.1 hh5.2.2 (by omega) (by first | (left; omega) | (right; omega))
      refine Sy.in_exit <| Sy.in_ <| Sy.then_ <| Sy.region ?_
      refine sP (.int .i64 ((k3 : Nat) : Int)) <| sS (.int .i64 ((k3 + 1 : Nat) : Int)) (Quiet.pure (exec_int .add _ _ _ .i64 _ _ _ rfl rfl rfl (int_add _ _ _ _ _ ((wrap_i64 (by omega) (by omega)).trans (by omega))))) <| sP (.int .i64 ((k3 + 1 : Nat) : Int)) ?_
      refine Sy.nil ?_
      have hq := hfin
      exact Sy.againX (y5.1) [true, true, true, true] (by omega) (⟨hh5.1, hq⟩) (all_cons kR (all_cons kR (all_cons kR (all_cons kR (all_cons kR all_nil))))) kR
     ·have lb5 : k3 + 3 + k5 < 8 := of_decide_eq_true hb5.symm
      refine sP (.int .u64 ((y5.2 : Nat) : Int)) ?_
      obtain ⟨b6, hb6⟩ : ∃ z : Bool, z = decide (y5.2 > 0) := ⟨_, rfl⟩
      refine sS (.bool b6) (Quiet.pure (exec_int .gtr _ _ _ .u64 _ _ _ rfl rfl rfl (int_gtr _ _ _ _ _ (by rw [hb6]; exact decide_eq_decide.2 (by omega))))) <| sP (.bool b6) ?_
      refine sG ?_
      cases b6
      ·have lb6 : ¬ (y5.2 > 0) := of_decide_eq_false hb6.symm
       refine sU <| Sy.exit <| Sy.then_exit <| Sy.then_exit ?_
       have hfin := endZ hlw hh1.1 hh3.2 hh5.1 hh5.2.2 (by omega) (by first | (left; omega) | (right; omega))
       refine Sy.in_exit <| Sy.in_ <| Sy.then_ <| Sy.region ?_
       refine sP (.int .i64 ((k3 : Nat) : Int)) <| sS (.int .i64 ((k3 + 1 : Nat) : Int)) (Quiet.pure (exec_int .add _ _ _ .i64 _ _ _ rfl rfl rfl (int_add _ _ _ _ _ ((wrap_i64 (by omega) (by omega)).trans (by omega))))) <| sP (.int .i64 ((k3 + 1 : Nat) : Int)) ?_
       refine Sy.nil ?_
       have hq := hfin
       exact Sy.againX (y5.1) [true, true, true, true] (by omega) (⟨hh5.1, hq⟩) (all_cons kR (all_cons kR (all_cons kR (all_cons kR (all_cons kR all_nil))))) kR
      ·have lb6 : y5.2 > 0 := of_decide_eq_true hb6.symm
       refine sT <| Sy.skip <| Sy.then_ <| Sy.seq <| Sy.block <| sC ?_
       refine sP (.int .i64 ((k3 + 3 + k5 : Nat) : Int)) <| sS (.pointer (some ⟨g3, 0 + (k3 + 3 + k5) * 1, none⟩)) (Quiet.pure (exec_atA 194 _ _ _ g3 0 _ (k3 + 3 + k5) 1 .i64 rfl rfl rfl Tryz.underlying194 kF (by omega))) <| sS (.int .u64 ((y5.1 (k3 + 3 + k5) : Nat) : Int)) (Quiet.cell 3 g3 (0 + (k3 + 3 + k5) * 1) 194 22 (rw8 y5.1) _ _ rfl kR kR Tryz.underlying22 rfl _ (rw8_at y5.1 (k := k3 + 3 + k5) (by omega) (by omega))) <| sP (.int .u64 ((y5.2 : Nat) : Int)) ?_
       obtain ⟨x1, c1, lx1, lc1, ex1, rx1⟩ := add0_ex (y5.1 (k3 + 3 + k5)) (y5.2) (by first | assumption | exact hR _ | exact hlw _ | exact wd_lt _ _ | exact hh1.1 _ | exact hh3.1 _ | exact hh4.1 _ | exact hh5.1 _ | exact hh5.2.1 | exact hh4.2.1 | decide) (by first | assumption | exact hR _ | exact hlw _ | exact wd_lt _ _ | exact hh1.1 _ | exact hh3.1 _ | exact hh4.1 _ | exact hh5.1 _ | exact hh5.2.1 | exact hh4.2.1 | decide)
       refine sS (.tuple #[.int .u64 ((x1 : Nat) : Int), .int .u64 ((c1 : Nat) : Int)]) (Quiet.pure (fun w => Eq.trans kR (rx1 w))) <| sP (.tuple #[.int .u64 ((x1 : Nat) : Int), .int .u64 ((c1 : Nat) : Int)]) <| sP (.int .u64 ((x1 : Nat) : Int)) <| sP (.int .u64 ((c1 : Nat) : Int)) <| sP (.int .u64 ((x1 : Nat) : Int)) <| sP (.int .u64 ((c1 : Nat) : Int)) ?_
       refine sA ?_
       refine sP (.int .i64 ((k3 + 3 + k5 : Nat) : Int)) <| sP (.int .u64 ((x1 : Nat) : Int)) <| sS (.pointer (some ⟨g3, 0 + (k3 + 3 + k5) * 1, none⟩)) (Quiet.pure (exec_atA 194 _ _ _ g3 0 _ (k3 + 3 + k5) 1 .i64 rfl rfl rfl Tryz.underlying194 kF (by omega))) ?_
       refine Sy.write kR 3 g3 194 (rw8 y5.1) (rw8 (upd y5.1 (k3 + 3 + k5) x1)) kR (Writes.one (0 + (k3 + 3 + k5) * 1) 22 (.int .u64 ((x1 : Nat) : Int)) _ _ rfl kR kR kR rfl rfl (rw8_fit _ (k := k3 + 3 + k5) (by omega) (by omega)) (rw8_set _ _ (by omega) (by omega))) ?_
       refine sG <| Sy.region ?_
       refine sP (.int .u64 ((c1 : Nat) : Int)) <| sP (.int .u64 ((c1 : Nat) : Int)) ?_
       refine Sy.nil <| Sy.in_ <| Sy.then_ <| Sy.region ?_
       refine sP (.int .i64 ((k3 + 3 + k5 : Nat) : Int)) <| sS (.int .i64 (((k3 + 3 + k5) + 1 : Nat) : Int)) (Quiet.pure (exec_int .add _ _ _ .i64 _ _ _ rfl rfl rfl (int_add _ _ _ _ _ ((wrap_i64 (by omega) (by omega)).trans (by omega))))) <| sP (.int .i64 (((k3 + 3 + k5) + 1 : Nat) : Int)) ?_
       refine Sy.nil ?_
       have hin := carry2 (vR_upd y5.1 (k3 + 3 + k5) x1 8 (by omega)) hh5.2.2 ex1
       exact Sy.againX ((upd y5.1 (k3 + 3 + k5) x1, c1)) [true, true, true, true] (by omega) (⟨upd_lt hh5.1 lx1, by omega, by rw [← Nat.add_assoc, Nat.pow_succ]; exact hin⟩) (all_cons kR (all_cons kR (all_cons kR (all_cons kR (all_cons kR (all_cons kR (all_cons kR all_nil))))))) kR
    ·have lb4 : k4 < 3 := of_decide_eq_true hb4.symm
     refine sT <| Sy.skip <| Sy.then_ <| Sy.seq <| Sy.block <| Sy.seq ?_
     refine Sy.regionD (fun j => false) kR ?_
     refine sZ 0 rfl (.int .i64 ((k3 : Nat) : Int)) <| sD 1 rfl (.int .i64 ((4 + k3 : Nat) : Int)) (Quiet.pure (exec_int .add _ _ _ .i64 _ _ _ rfl rfl rfl (int_add _ _ _ _ _ ((wrap_i64 (by omega) (by omega)).trans (by omega))))) <| sD 2 rfl (.pointer (some ⟨g1, 0 + (4 + k3) * 1, none⟩)) (Quiet.pure (exec_atA 194 _ _ _ g1 0 _ (4 + k3) 1 .i64 rfl rfl rfl Tryz.underlying194 kF (by omega))) <| sD 3 rfl (.int .u64 ((y1 (4 + k3) : Nat) : Int)) (Quiet.cell 1 g1 (0 + (4 + k3) * 1) 194 22 (rw8 y1) _ _ rfl kR kR Tryz.underlying22 rfl _ (rw8_at y1 (k := 4 + k3) (by omega) (by omega))) <| sZ 4 rfl (.int .i64 ((k4 : Nat) : Int)) <| sZ 5 rfl (.pointer (some ⟨g0, 4, none⟩)) <| sD 6 rfl (.pointer (some ⟨g0, 4 + k4 * 1, none⟩)) (Quiet.pure (exec_atA 100 _ _ _ g0 4 _ k4 1 .i64 rfl rfl rfl Tryz.underlying100 kF (by omega))) <| sD 7 rfl (.int .u64 ((lw k4 : Nat) : Int)) (Quiet.cell 0 g0 (4 + k4 * 1) 102 22 (modc M lw) _ _ rfl kR kR Tryz.underlying22 rfl _ (modc_at M lw (j := k4) (by omega) (by omega))) ?_
     obtain ⟨hi1, lo1, llo1, elo1⟩ := two_words (y1 (4 + k3)) (lw k4)
     refine sD 8 rfl (.tuple #[.int .u64 ((hi1 : Nat) : Int), .int .u64 ((lo1 : Nat) : Int)]) (qF 160 #[.int .u64 ((y1 (4 + k3) : Nat) : Int), .int .u64 ((lw k4 : Nat) : Int)] (fun w => mulZ_any w (y1 (4 + k3)) (lw k4) hi1 lo1 (by first | assumption | exact hR _ | exact hlw _ | exact wd_lt _ _ | exact hh1.1 _ | exact hh3.1 _ | exact hh4.1 _ | exact hh5.1 _ | exact hh5.2.1 | exact hh4.2.1 | decide) (by first | assumption | exact hR _ | exact hlw _ | exact wd_lt _ _ | exact hh1.1 _ | exact hh3.1 _ | exact hh4.1 _ | exact hh5.1 _ | exact hh5.2.1 | exact hh4.2.1 | decide) llo1 elo1)) <| sZ 9 rfl (.tuple #[.int .u64 ((hi1 : Nat) : Int), .int .u64 ((lo1 : Nat) : Int)]) <| sZ 10 rfl (.int .u64 ((hi1 : Nat) : Int)) <| sZ 11 rfl (.int .u64 ((lo1 : Nat) : Int)) <| sZ 12 rfl (.int .u64 ((hi1 : Nat) : Int)) <| sZ 13 rfl (.int .u64 ((lo1 : Nat) : Int)) ?_
     refine sE ?_
     refine sB ?_
     refine sP (.int .u64 ((lo1 : Nat) : Int)) <| sP (.int .i64 ((k3 : Nat) : Int)) <| sP (.int .i64 ((k4 : Nat) : Int)) <| sS (.int .i64 ((k3 + k4 : Nat) : Int)) (Quiet.pure (exec_int .add _ _ _ .i64 _ _ _ rfl rfl rfl (int_add _ _ _ _ _ ((wrap_i64 (by omega) (by omega)).trans (by omega))))) <| sS (.pointer (some ⟨g3, 0 + (k3 + k4) * 1, none⟩)) (Quiet.pure (exec_atA 194 _ _ _ g3 0 _ (k3 + k4) 1 .i64 rfl rfl rfl Tryz.underlying194 kF (by omega))) <| sS (.int .u64 ((y4.1 (k3 + k4) : Nat) : Int)) (Quiet.cell 3 g3 (0 + (k3 + k4) * 1) 194 22 (rw8 y4.1) _ _ rfl kR kR Tryz.underlying22 rfl _ (rw8_at y4.1 (k := k3 + k4) (by omega) (by omega))) ?_
     obtain ⟨x2, c2, lx2, lc2, ex2, rx2⟩ := add0_ex (lo1) (y4.1 (k3 + k4)) (by first | assumption | exact hR _ | exact hlw _ | exact wd_lt _ _ | exact hh1.1 _ | exact hh3.1 _ | exact hh4.1 _ | exact hh5.1 _ | exact hh5.2.1 | exact hh4.2.1 | decide) (by first | assumption | exact hR _ | exact hlw _ | exact wd_lt _ _ | exact hh1.1 _ | exact hh3.1 _ | exact hh4.1 _ | exact hh5.1 _ | exact hh5.2.1 | exact hh4.2.1 | decide)
     refine sS (.tuple #[.int .u64 ((x2 : Nat) : Int), .int .u64 ((c2 : Nat) : Int)]) (Quiet.pure (fun w => Eq.trans kR (rx2 w))) <| sP (.tuple #[.int .u64 ((x2 : Nat) : Int), .int .u64 ((c2 : Nat) : Int)]) <| sP (.int .u64 ((x2 : Nat) : Int)) <| sP (.int .u64 ((c2 : Nat) : Int)) <| sP (.int .u64 ((x2 : Nat) : Int)) <| sP (.int .u64 ((c2 : Nat) : Int)) ?_
     refine sA ?_
     refine sP (.int .u64 ((x2 : Nat) : Int)) <| sP (.int .u64 ((y4.2 : Nat) : Int)) ?_
     obtain ⟨x3, c3, lx3, lc3, ex3, rx3⟩ := add0_ex (x2) (y4.2) (by first | assumption | exact hR _ | exact hlw _ | exact wd_lt _ _ | exact hh1.1 _ | exact hh3.1 _ | exact hh4.1 _ | exact hh5.1 _ | exact hh5.2.1 | exact hh4.2.1 | decide) (by first | assumption | exact hR _ | exact hlw _ | exact wd_lt _ _ | exact hh1.1 _ | exact hh3.1 _ | exact hh4.1 _ | exact hh5.1 _ | exact hh5.2.1 | exact hh4.2.1 | decide)
     refine sS (.tuple #[.int .u64 ((x3 : Nat) : Int), .int .u64 ((c3 : Nat) : Int)]) (Quiet.pure (fun w => Eq.trans kR (rx3 w))) <| sP (.tuple #[.int .u64 ((x3 : Nat) : Int), .int .u64 ((c3 : Nat) : Int)]) <| sP (.int .u64 ((x3 : Nat) : Int)) <| sP (.int .u64 ((c3 : Nat) : Int)) <| sP (.int .u64 ((x3 : Nat) : Int)) <| sP (.int .u64 ((c3 : Nat) : Int)) ?_
     refine sA ?_
     refine sP (.int .i64 ((k3 : Nat) : Int)) <| sP (.int .i64 ((k4 : Nat) : Int)) <| sS (.int .i64 ((k3 + k4 : Nat) : Int)) (Quiet.pure (exec_int .add _ _ _ .i64 _ _ _ rfl rfl rfl (int_add _ _ _ _ _ ((wrap_i64 (by omega) (by omega)).trans (by omega))))) <| sP (.int .u64 ((x3 : Nat) : Int)) <| sS (.pointer (some ⟨g3, 0 + (k3 + k4) * 1, none⟩)) (Quiet.pure (exec_atA 194 _ _ _ g3 0 _ (k3 + k4) 1 .i64 rfl rfl rfl Tryz.underlying194 kF (by omega))) ?_
     refine Sy.write kR 3 g3 194 (rw8 y4.1) (rw8 (upd y4.1 (k3 + k4) x3)) kR (Writes.one (0 + (k3 + k4) * 1) 22 (.int .u64 ((x3 : Nat) : Int)) _ _ rfl kR kR kR rfl rfl (rw8_fit _ (k := k3 + k4) (by omega) (by omega)) (rw8_set _ _ (by omega) (by omega))) ?_
     refine sG <| Sy.region ?_
     refine sP (.int .u64 ((hi1 : Nat) : Int)) <| sP (.int .u64 ((c2 : Nat) : Int)) ?_
     have hst := stepZ elo1 ex2 ex3
     have hcar := carryZ hst (by first | assumption | exact hR _ | exact hlw _ | exact wd_lt _ _ | exact hh1.1 _ | exact hh3.1 _ | exact hh4.1 _ | exact hh5.1 _ | exact hh5.2.1 | exact hh4.2.1 | decide) (by first | assumption | exact hR _ | exact hlw _ | exact wd_lt _ _ | exact hh1.1 _ | exact hh3.1 _ | exact hh4.1 _ | exact hh5.1 _ | exact hh5.2.1 | exact hh4.2.1 | decide) (by first | assumption | exact hR _ | exact hlw _ | exact wd_lt _ _ | exact hh1.1 _ | exact hh3.1 _ | exact hh4.1 _ | exact hh5.1 _ | exact hh5.2.1 | exact hh4.2.1 | decide) hh4.2.1
     refine sS (.int .u64 ((hi1 + c2 : Nat) : Int)) (Quiet.pure (exec_int .add _ _ _ .u64 _ _ _ rfl rfl rfl (int_add _ _ _ _ _ ((wrap_u64 (by omega) (by omega)).trans (by omega))))) <| sP (.int .u64 ((c3 : Nat) : Int)) <| sS (.int .u64 (((hi1 + c2) + c3 : Nat) : Int)) (Quiet.pure (exec_int .add _ _ _ .u64 _ _ _ rfl rfl rfl (int_add _ _ _ _ _ ((wrap_u64 (by omega) (by omega)).trans (by omega))))) <| sP (.int .u64 (((hi1 + c2) + c3 : Nat) : Int)) ?_
     refine Sy.nil <| Sy.in_ <| Sy.then_ <| Sy.region ?_
     refine sP (.int .i64 ((k4 : Nat) : Int)) <| sS (.int .i64 ((k4 + 1 : Nat) : Int)) (Quiet.pure (exec_int .add _ _ _ .i64 _ _ _ rfl rfl rfl (int_add _ _ _ _ _ ((wrap_i64 (by omega) (by omega)).trans (by omega))))) <| sP (.int .i64 ((k4 + 1 : Nat) : Int)) ?_
     refine Sy.nil ?_
     have hin := innerZ (vR_upd y4.1 (k3 + k4) x3 8 (by omega)) hh4.2.2 hst (P0 := 18446744073709551616 ^ k4) (by rw [Nat.add_comm, Nat.pow_add])
     exact Sy.againX ((upd y4.1 (k3 + k4) x3, hi1 + c2 + c3)) [true, true, true, true] (by omega) (⟨upd_lt hh4.1 lx3, hcar, by rw [← Nat.add_assoc, Nat.pow_succ]; exact hin⟩) (all_cons kR (all_cons kR (all_cons kR (all_cons kR (all_cons kR (all_cons kR (all_cons kR all_nil))))))) kR
  ·have lb2 : k2 < 4 := of_decide_eq_true hb2.symm
   refine sT <| Sy.skip <| Sy.then_ <| Sy.seq <| Sy.block <| Sy.region ?_
   refine sP (.int .i64 ((k2 : Nat) : Int)) <| sP (.int .i64 ((k2 : Nat) : Int)) <| sS (.pointer (some ⟨g1, 0 + k2 * 1, none⟩)) (Quiet.pure (exec_atA 194 _ _ _ g1 0 _ k2 1 .i64 rfl rfl rfl Tryz.underlying194 kF (by omega))) <| sS (.int .u64 ((y1 k2 : Nat) : Int)) (Quiet.cell 1 g1 (0 + k2 * 1) 194 22 (rw8 y1) _ _ rfl kR kR Tryz.underlying22 rfl _ (rw8_at y1 (k := k2) (by omega) (by omega))) <| sS (.pointer (some ⟨g3, 0 + k2 * 1, none⟩)) (Quiet.pure (exec_atA 194 _ _ _ g3 0 _ k2 1 .i64 rfl rfl rfl Tryz.underlying194 kF (by omega))) ?_
   refine Sy.write kR 3 g3 194 (rw8 (cpy y1 k2)) (rw8 (upd (cpy y1 k2) k2 (y1 k2))) kR (Writes.one (0 + k2 * 1) 22 (.int .u64 ((y1 k2 : Nat) : Int)) _ _ rfl kR kR kR rfl rfl (rw8_fit _ (k := k2) (by omega) (by omega)) (rw8_set _ _ (by omega) (by omega))) ?_
   refine Sy.nil <| Sy.in_ <| Sy.then_ <| Sy.region ?_
   refine sP (.int .i64 ((k2 : Nat) : Int)) <| sS (.int .i64 ((k2 + 1 : Nat) : Int)) (Quiet.pure (exec_int .add _ _ _ .i64 _ _ _ rfl rfl rfl (int_add _ _ _ _ _ ((wrap_i64 (by omega) (by omega)).trans (by omega))))) <| sP (.int .i64 ((k2 + 1 : Nat) : Int)) ?_
   refine Sy.nil ?_
   exact Sy.againK [true, true, true, true] (M := [(g0, 102, (modc M lw)), (g1, 194, (rw8 y1)), (g2, 97, (fcs 0)), (g3, 194, (rw8 (upd (cpy y1 k2) k2 (y1 k2))))]) (by omega) (all_cons kR (all_cons kR (all_cons kR (all_cons kR (all_cons kR all_nil))))) kR (bcons rfl (bcons rfl (bcons rfl (bcons (beq (congrArg rw8 (cpy_succ _ _))) rfl))))
end Go.Proofs.YtfhcpdbahbbmaaaGreatDoor.Fz

end
section
namespace Go.Proofs.YtfhcpdbahbbmaaaGreatDoor
open Go.RowKit Go.Lib Go.Proofs.YtfhcpdbahbbmaaaGreatDoor

def val8 (a b c d e f g h : Nat) : Nat := a + 18446744073709551616 * b + 340282366920938463463374607431768211456 * c + 6277101735386680763835789423207666416102355444464034512896 * d + (2^256) * e + 2135987035920910082395021706169552114602704522356652769947041607822219725780640550022962086936576 * f + 39402006196394479212279040100143613805079739270465446667948293404245721771497210611414266254884915640806627990306816 * g + 726838724295606890549323807888004534353641360687318060281490199180639288113397923326191050713763565560762521606266177933534601628614656 * h
def r8 (a b c d e f g h : Nat) : Nat → Nat
 | 0 => a
 | 1 => b
 | 2 => c
 | 3 => d
 | 4 => e
 | 5 => f
 | 6 => g
 | 7 => h
 | _ => 0
theorem r8_val (a b c d e f g h : Nat) : Fz.vR (r8 a b c d e f g h) 8 = val8 a b c d e f g h := by
 show 0 + a * 1 + b * 18446744073709551616 + c * 340282366920938463463374607431768211456 + d * 6277101735386680763835789423207666416102355444464034512896 + e * (2^256) + f * 2135987035920910082395021706169552114602704522356652769947041607822219725780640550022962086936576 + g * 39402006196394479212279040100143613805079739270465446667948293404245721771497210611414266254884915640806627990306816 + h * 726838724295606890549323807888004534353641360687318060281490199180639288113397923326191050713763565560762521606266177933534601628614656 = val8 a b c d e f g h
 unfold val8
 omega
def lackW : Nat → Nat
 | 0 => 4294968273
 | 1 => 0
 | 2 => 0
 | _ => 0
theorem lackW_lt : ∀ t, lackW t < 18446744073709551616
 | 0 => by decide
 | 1 => by decide
 | 2 => by decide
 | _ + 3 => by show 0 < _; decide
theorem mod_row : Fz.modc pM lackW = #[.int .u64 18446744069414583343, .int .u64 18446744073709551615, .int .u64 18446744073709551615, .int .u64 18446744073709551615, .int .u64 4294968273, .int .u64 0, .int .u64 0] := by kernel_rfl
theorem lack_sum : pM + Fz.vR lackW 3 = 18446744073709551616 ^ 4 := by decide +kernel
theorem pM_pos0 : 0 < pM := by decide +kernel
theorem fold_any (w : World) (d0 d1 d2 d3 d4 d5 d6 d7 : Nat) (hd : d0 < 18446744073709551616 ∧ d1 < 18446744073709551616 ∧ d2 < 18446744073709551616 ∧ d3 < 18446744073709551616 ∧ d4 < 18446744073709551616 ∧ d5 < 18446744073709551616 ∧ d6 < 18446744073709551616 ∧ d7 < 18446744073709551616) : Calls Tryz.prog 159 #[.agg #[.int .u64 18446744069414583343, .int .u64 18446744073709551615, .int .u64 18446744073709551615, .int .u64 18446744073709551615, .int .u64 4294968273, .int .u64 0, .int .u64 0], .agg #[.int .u64 (d0 : Int), .int .u64 (d1 : Int), .int .u64 (d2 : Int), .int .u64 (d3 : Int), .int .u64 (d4 : Int), .int .u64 (d5 : Int), .int .u64 (d6 : Int), .int .u64 (d7 : Int)]] w fun e w' => e = .returned (fv (val8 d0 d1 d2 d3 d4 d5 d6 d7 % pM)) ∧ Below w.heap.size w w' := by
 have h := Fz.foldZ w pM lackW lackW_lt pM_pos0 lack_sum (fun w x hx => by rw [mod_row]; exact normR_any w x hx) (r8 d0 d1 d2 d3 d4 d5 d6 d7) (fun t => by
  obtain ⟨h0, h1, h2, h3, h4, h5, h6, h7⟩ := hd
  rcases t with _ | _ | _ | _ | _ | _ | _ | _ | t <;> first | assumption | exact Nat.zero_lt_succ _)
 rw [r8_val, mod_row] at h
 exact h
end Go.Proofs.YtfhcpdbahbbmaaaGreatDoor

end
section
namespace Go.Proofs.YtfhcpdbahbbmaaaGreatDoor
open Go.RowKit Go.Lib

theorem below_alloc4 (w : World) (a b c d : Obj) : Below w.heap.size w ((((w.alloc a).alloc b).alloc c).alloc d) := (below_alloc3 w a b c).alloc (by simp <;> omega) _
theorem below_alloc5 (w : World) (a b c d e : Obj) : Below w.heap.size w (((((w.alloc a).alloc b).alloc c).alloc d).alloc e) := (below_alloc4 w a b c d).alloc (by simp <;> omega) _
theorem blk_new5 (w : World) (a b c d : Obj) (t : TypeId) (cs : Array Value) : Blk (((((w.alloc a).alloc b).alloc c).alloc d).alloc (.cells cs t)) (w.heap.size + 4) t cs := by
 have h := Blk.new ((((w.alloc a).alloc b).alloc c).alloc d) t cs
 have e : ((((w.alloc a).alloc b).alloc c).alloc d).heap.size = w.heap.size + 4 := by simp
 rwa [e] at h
section
variable {P : Program} {ops : Array Oper}
theorem YieldsG.loadP {o : Oper} {a : Act} {w : World} {d : TypeDesc} (hw : Region.wanted o (yielded ops a.tmps) = true) (ty : TypeId) (x : Operand) (ho : o.op = .load ty x)
  (g : Nat) (hx : a.eval x = .pointer (some ⟨g, 0, none⟩)) (n : Nat) (cs : List Value) (hl : g < w.heap.size) (hr : w.rangeAt g 0 cs) (hf : fv n = .agg cs.toArray)
  (hu : P.underlying ty = some d) (hd : d.isRow = true) (hi : (P.info? ty).map (·.size) = some cs.length) : YieldsG P ops o (fv n) a w := by
 rw [hf]
 exact YieldsG.load hw ty x ho g 0 hx cs d hl hr hu hd hi
end

set_option maxHeartbeats 8000000 in
set_option maxRecDepth 100000 in
theorem addR_any (w : World) (x y : Nat) (hx : x < (2^256)) (hy : y < (2^256)) : Calls Tryz.prog 105 #[.agg #[.int .u64 18446744069414583343, .int .u64 18446744073709551615, .int .u64 18446744073709551615, .int .u64 18446744073709551615, .int .u64 4294968273, .int .u64 0, .int .u64 0], fv x, fv y] w fun e w' => e = .returned (fv (addP x y)) ∧ Below w.heap.size w w' := by
 obtain ⟨x0, x1, x2, x3, a0, a1, a2, a3, ex, fx⟩ := words_of x hx
 obtain ⟨y0, y1, y2, y3, b0, b1, b2, b3, ey, fy⟩ := words_of y hy
 obtain ⟨s0, c0, d0, k0, e0, r0⟩ := add0_ex x0 y0 a0 b0
 obtain ⟨s1, c1, d1, k1, e1, r1⟩ := addc_ex x1 y1 c0 a1 b1 k0
 obtain ⟨s2, c2, d2, k2, e2, r2⟩ := addc_ex x2 y2 c1 a2 b2 k1
 obtain ⟨s3, c3, d3, k3, e3, r3⟩ := addc_ex x3 y3 c2 a3 b3 k2
 have fin : val8 s0 s1 s2 s3 c3 0 0 0 = x + y := by simp only [val8]; omega
 obtain ⟨z, hz⟩ : ∃ z, z = addP x y := ⟨_, rfl⟩
 have cF : ∀ w, Calls Tryz.prog 159 #[.agg #[.int .u64 18446744069414583343, .int .u64 18446744073709551615, .int .u64 18446744073709551615, .int .u64 18446744073709551615, .int .u64 4294968273, .int .u64 0, .int .u64 0], .agg #[.int .u64 (s0 : Int), .int .u64 (s1 : Int), .int .u64 (s2 : Int), .int .u64 (s3 : Int), .int .u64 (c3 : Int), .int .u64 0, .int .u64 0, .int .u64 0]] w fun e w' => e = .returned (fv z) ∧ Below w.heap.size w w' := by
  intro w
  have h := fold_any w s0 s1 s2 s3 c3 0 0 0 ⟨d0, d1, d2, d3, by omega, by omega, by omega, by omega⟩
  rw [fin] at h
  rw [hz]
  exact h
 rw [fx, fy, ← hz]
 clear fx fy ex ey hx hy hz a0 a1 a2 a3 b0 b1 b2 b3 d0 d1 d2 d3 k0 k1 k2 k3 e0 e1 e2 e3 fin
 go_enter Tryz.func105, Tryz.ntmps105
 go_wp2_with fail
 go_loopw [8, 9] (fun bo i wr => Below w.heap.size w wr ∧ Blk wr w.heap.size 102 #[.int .u64 18446744069414583343, .int .u64 18446744073709551615, .int .u64 18446744073709551615, .int .u64 18446744073709551615, .int .u64 4294968273, .int .u64 0, .int .u64 0] ∧ Blk wr (w.heap.size + 1) 97 #[.int .u64 (x0 : Int), .int .u64 (x1 : Int), .int .u64 (x2 : Int), .int .u64 (x3 : Int)] ∧ Blk wr (w.heap.size + 2) 97 #[.int .u64 (y0 : Int), .int .u64 (y1 : Int), .int .u64 (y2 : Int), .int .u64 (y3 : Int)] ∧ Blk wr (w.heap.size + 3) 97 #[.int .u64 0, .int .u64 0, .int .u64 0, .int .u64 0] ∧ Hid ((i = .int .i64 0 ∧ bo = .int .u64 0 ∧ Blk wr (w.heap.size + 4) 194 #[.int .u64 0, .int .u64 0, .int .u64 0, .int .u64 0, .int .u64 0, .int .u64 0, .int .u64 0, .int .u64 0]) ∨ (i = .int .i64 1 ∧ bo = .int .u64 (c0 : Int) ∧ Blk wr (w.heap.size + 4) 194 #[.int .u64 (s0 : Int), .int .u64 0, .int .u64 0, .int .u64 0, .int .u64 0, .int .u64 0, .int .u64 0, .int .u64 0]) ∨ (i = .int .i64 2 ∧ bo = .int .u64 (c1 : Int) ∧ Blk wr (w.heap.size + 4) 194 #[.int .u64 (s0 : Int), .int .u64 (s1 : Int), .int .u64 0, .int .u64 0, .int .u64 0, .int .u64 0, .int .u64 0, .int .u64 0]) ∨ (i = .int .i64 3 ∧ bo = .int .u64 (c2 : Int) ∧ Blk wr (w.heap.size + 4) 194 #[.int .u64 (s0 : Int), .int .u64 (s1 : Int), .int .u64 (s2 : Int), .int .u64 0, .int .u64 0, .int .u64 0, .int .u64 0, .int .u64 0]) ∨ (i = .int .i64 4 ∧ bo = .int .u64 (c3 : Int) ∧ Blk wr (w.heap.size + 4) 194 #[.int .u64 (s0 : Int), .int .u64 (s1 : Int), .int .u64 (s2 : Int), .int .u64 (s3 : Int), .int .u64 0, .int .u64 0, .int .u64 0, .int .u64 0]))) (fun _ i _ => 4 - (intOf i).toNat)
 case atStart => exact ⟨below_alloc5 w _ _ _ _ _, (((((Blk.new w _ _).alloc _).alloc _).alloc _).alloc _), ((((blk_new2 w _ _ _).alloc _).alloc _).alloc _), (((blk_new3 w _ _ _ _).alloc _).alloc _), ((blk_new4 w _ _ _ _ _).alloc _), Lib.hid (.inl ⟨rfl, rfl, blk_new5 w _ _ _ _ _ _⟩)⟩
 case round =>
  obtain ⟨hb, BM, BX, BY, BR, HI⟩ := hrel
  have lX := BX.lt
  have lY := BY.lt
  have lR := BR.lt
  rcases HI.out with ⟨rfl, rfl, BW⟩ | ⟨rfl, rfl, BW⟩ | ⟨rfl, rfl, BW⟩ | ⟨rfl, rfl, BW⟩ | ⟨rfl, rfl, BW⟩
  ·clear HI
   have px : wr.cell? ⟨w.heap.size + 1, 0, none⟩ = some (.int .u64 (x0 : Int)) := BX.cell 0
   have py : wr.cell? ⟨w.heap.size + 2, 0, none⟩ = some (.int .u64 (y0 : Int)) := BY.cell 0
   go_wp2
   refine wp_region_G (fun _ => false) (by kernel_rfl) ?_
   try simp only [Act.put]
   refine tk 0 rfl ?_
   try simp only [Act.put, aA, aZ, aS]
   refine tk 1 rfl ?_
   try simp only [Act.put, aA, aZ, aS]
   refine tkw 2 rfl (YieldsG.pure (v := .int .u64 (x0 : Int)) (by rfl) (fun w9 h9 => by have hz := (Below.cell (p := ⟨w.heap.size + 1, 0, none⟩) h9 lX).trans px; go_simp; first | done | simp [hz])) ?_
   try simp only [Act.put, aA, aZ, aS]
   refine tk 3 rfl ?_
   try simp only [Act.put, aA, aZ, aS]
   refine tk 4 rfl ?_
   try simp only [Act.put, aA, aZ, aS]
   refine tkw 5 rfl (YieldsG.pure (v := .int .u64 (y0 : Int)) (by rfl) (fun w9 h9 => by have hz := (Below.cell (p := ⟨w.heap.size + 2, 0, none⟩) h9 lY).trans py; go_simp; first | done | simp [hz])) ?_
   try simp only [Act.put, aA, aZ, aS]
   refine tk 6 rfl ?_
   try simp only [Act.put, aA, aZ, aS]
   refine tkw 7 rfl (YieldsG.pure (v := .tuple #[.int .u64 (s0 : Int), .int .u64 (c0 : Int)]) (by rfl) (fun w9 h9 => by go_simp)) ?_
   try simp only [Act.put, aA, aZ, aS]
   refine tk 8 rfl ?_
   try simp only [Act.put, aA, aZ, aS]
   refine tk 9 rfl ?_
   try simp only [Act.put, aA, aZ, aS]
   refine tk 10 rfl ?_
   try simp only [Act.put, aA, aZ, aS]
   refine tk 11 rfl ?_
   try simp only [Act.put, aA, aZ, aS]
   refine tk 12 rfl ?_
   try simp only [Act.put, aA, aZ, aS]
   refine wpAnyG_done (by kernel_rfl) (fun u hu => ?_)
   have BM := Gr.blk hu BM
   have BX := Gr.blk hu BX
   have BY := Gr.blk hu BY
   have BR := Gr.blk hu BR
   have BW := Gr.blk hu BW
   have hb := Below.gr hb hu
   have pc : u.cell? ⟨w.heap.size + 4, 0, none⟩ = some (.int .u64 0) := BW.cell 0
   have pf := BW.frozen 0
   clear hu px py
   go_wp2
   refine ⟨⟨hb.setCell (by show w.heap.size ≤ w.heap.size + 4; omega) _, BM.far (by show w.heap.size ≠ w.heap.size + 4; omega) _, BX.far (by show w.heap.size + 1 ≠ w.heap.size + 4; omega) _, BY.far (by show w.heap.size + 2 ≠ w.heap.size + 4; omega) _, BR.far (by show w.heap.size + 3 ≠ w.heap.size + 4; omega) _, Lib.hid (.inr (.inl (⟨rfl, rfl, BW.set_ 0 _⟩)))⟩, by decide⟩
  ·clear HI
   have px : wr.cell? ⟨w.heap.size + 1, 1, none⟩ = some (.int .u64 (x1 : Int)) := BX.cell 1
   have py : wr.cell? ⟨w.heap.size + 2, 1, none⟩ = some (.int .u64 (y1 : Int)) := BY.cell 1
   go_wp2
   refine wp_region_G (fun _ => false) (by kernel_rfl) ?_
   try simp only [Act.put]
   refine tk 0 rfl ?_
   try simp only [Act.put, aA, aZ, aS]
   refine tk 1 rfl ?_
   try simp only [Act.put, aA, aZ, aS]
   refine tkw 2 rfl (YieldsG.pure (v := .int .u64 (x1 : Int)) (by rfl) (fun w9 h9 => by have hz := (Below.cell (p := ⟨w.heap.size + 1, 1, none⟩) h9 lX).trans px; go_simp; first | done | simp [hz])) ?_
   try simp only [Act.put, aA, aZ, aS]
   refine tk 3 rfl ?_
   try simp only [Act.put, aA, aZ, aS]
   refine tk 4 rfl ?_
   try simp only [Act.put, aA, aZ, aS]
   refine tkw 5 rfl (YieldsG.pure (v := .int .u64 (y1 : Int)) (by rfl) (fun w9 h9 => by have hz := (Below.cell (p := ⟨w.heap.size + 2, 1, none⟩) h9 lY).trans py; go_simp; first | done | simp [hz])) ?_
   try simp only [Act.put, aA, aZ, aS]
   refine tk 6 rfl ?_
   try simp only [Act.put, aA, aZ, aS]
   refine tkw 7 rfl (YieldsG.pure (v := .tuple #[.int .u64 (s1 : Int), .int .u64 (c1 : Int)]) (by rfl) (fun w9 h9 => by go_simp)) ?_
   try simp only [Act.put, aA, aZ, aS]
   refine tk 8 rfl ?_
   try simp only [Act.put, aA, aZ, aS]
   refine tk 9 rfl ?_
   try simp only [Act.put, aA, aZ, aS]
   refine tk 10 rfl ?_
   try simp only [Act.put, aA, aZ, aS]
   refine tk 11 rfl ?_
   try simp only [Act.put, aA, aZ, aS]
   refine tk 12 rfl ?_
   try simp only [Act.put, aA, aZ, aS]
   refine wpAnyG_done (by kernel_rfl) (fun u hu => ?_)
   have BM := Gr.blk hu BM
   have BX := Gr.blk hu BX
   have BY := Gr.blk hu BY
   have BR := Gr.blk hu BR
   have BW := Gr.blk hu BW
   have hb := Below.gr hb hu
   have pc : u.cell? ⟨w.heap.size + 4, 1, none⟩ = some (.int .u64 0) := BW.cell 1
   have pf := BW.frozen 1
   clear hu px py
   go_wp2
   refine ⟨⟨hb.setCell (by show w.heap.size ≤ w.heap.size + 4; omega) _, BM.far (by show w.heap.size ≠ w.heap.size + 4; omega) _, BX.far (by show w.heap.size + 1 ≠ w.heap.size + 4; omega) _, BY.far (by show w.heap.size + 2 ≠ w.heap.size + 4; omega) _, BR.far (by show w.heap.size + 3 ≠ w.heap.size + 4; omega) _, Lib.hid (.inr (.inr (.inl (⟨rfl, rfl, BW.set_ 1 _⟩))))⟩, by decide⟩
  ·clear HI
   have px : wr.cell? ⟨w.heap.size + 1, 2, none⟩ = some (.int .u64 (x2 : Int)) := BX.cell 2
   have py : wr.cell? ⟨w.heap.size + 2, 2, none⟩ = some (.int .u64 (y2 : Int)) := BY.cell 2
   go_wp2
   refine wp_region_G (fun _ => false) (by kernel_rfl) ?_
   try simp only [Act.put]
   refine tk 0 rfl ?_
   try simp only [Act.put, aA, aZ, aS]
   refine tk 1 rfl ?_
   try simp only [Act.put, aA, aZ, aS]
   refine tkw 2 rfl (YieldsG.pure (v := .int .u64 (x2 : Int)) (by rfl) (fun w9 h9 => by have hz := (Below.cell (p := ⟨w.heap.size + 1, 2, none⟩) h9 lX).trans px; go_simp; first | done | simp [hz])) ?_
   try simp only [Act.put, aA, aZ, aS]
   refine tk 3 rfl ?_
   try simp only [Act.put, aA, aZ, aS]
   refine tk 4 rfl ?_
   try simp only [Act.put, aA, aZ, aS]
   refine tkw 5 rfl (YieldsG.pure (v := .int .u64 (y2 : Int)) (by rfl) (fun w9 h9 => by have hz := (Below.cell (p := ⟨w.heap.size + 2, 2, none⟩) h9 lY).trans py; go_simp; first | done | simp [hz])) ?_
   try simp only [Act.put, aA, aZ, aS]
   refine tk 6 rfl ?_
   try simp only [Act.put, aA, aZ, aS]
   refine tkw 7 rfl (YieldsG.pure (v := .tuple #[.int .u64 (s2 : Int), .int .u64 (c2 : Int)]) (by rfl) (fun w9 h9 => by go_simp)) ?_
   try simp only [Act.put, aA, aZ, aS]
   refine tk 8 rfl ?_
   try simp only [Act.put, aA, aZ, aS]
   refine tk 9 rfl ?_
   try simp only [Act.put, aA, aZ, aS]
   refine tk 10 rfl ?_
   try simp only [Act.put, aA, aZ, aS]
   refine tk 11 rfl ?_
   try simp only [Act.put, aA, aZ, aS]
   refine tk 12 rfl ?_
   try simp only [Act.put, aA, aZ, aS]
   refine wpAnyG_done (by kernel_rfl) (fun u hu => ?_)
   have BM := Gr.blk hu BM
   have BX := Gr.blk hu BX
   have BY := Gr.blk hu BY
   have BR := Gr.blk hu BR
   have BW := Gr.blk hu BW
   have hb := Below.gr hb hu
   have pc : u.cell? ⟨w.heap.size + 4, 2, none⟩ = some (.int .u64 0) := BW.cell 2
   have pf := BW.frozen 2
   clear hu px py
   go_wp2
   refine ⟨⟨hb.setCell (by show w.heap.size ≤ w.heap.size + 4; omega) _, BM.far (by show w.heap.size ≠ w.heap.size + 4; omega) _, BX.far (by show w.heap.size + 1 ≠ w.heap.size + 4; omega) _, BY.far (by show w.heap.size + 2 ≠ w.heap.size + 4; omega) _, BR.far (by show w.heap.size + 3 ≠ w.heap.size + 4; omega) _, Lib.hid (.inr (.inr (.inr (.inl (⟨rfl, rfl, BW.set_ 2 _⟩)))))⟩, by decide⟩
  ·clear HI
   have px : wr.cell? ⟨w.heap.size + 1, 3, none⟩ = some (.int .u64 (x3 : Int)) := BX.cell 3
   have py : wr.cell? ⟨w.heap.size + 2, 3, none⟩ = some (.int .u64 (y3 : Int)) := BY.cell 3
   go_wp2
   refine wp_region_G (fun _ => false) (by kernel_rfl) ?_
   try simp only [Act.put]
   refine tk 0 rfl ?_
   try simp only [Act.put, aA, aZ, aS]
   refine tk 1 rfl ?_
   try simp only [Act.put, aA, aZ, aS]
   refine tkw 2 rfl (YieldsG.pure (v := .int .u64 (x3 : Int)) (by rfl) (fun w9 h9 => by have hz := (Below.cell (p := ⟨w.heap.size + 1, 3, none⟩) h9 lX).trans px; go_simp; first | done | simp [hz])) ?_
   try simp only [Act.put, aA, aZ, aS]
   refine tk 3 rfl ?_
   try simp only [Act.put, aA, aZ, aS]
   refine tk 4 rfl ?_
   try simp only [Act.put, aA, aZ, aS]
   refine tkw 5 rfl (YieldsG.pure (v := .int .u64 (y3 : Int)) (by rfl) (fun w9 h9 => by have hz := (Below.cell (p := ⟨w.heap.size + 2, 3, none⟩) h9 lY).trans py; go_simp; first | done | simp [hz])) ?_
   try simp only [Act.put, aA, aZ, aS]
   refine tk 6 rfl ?_
   try simp only [Act.put, aA, aZ, aS]
   refine tkw 7 rfl (YieldsG.pure (v := .tuple #[.int .u64 (s3 : Int), .int .u64 (c3 : Int)]) (by rfl) (fun w9 h9 => by go_simp)) ?_
   try simp only [Act.put, aA, aZ, aS]
   refine tk 8 rfl ?_
   try simp only [Act.put, aA, aZ, aS]
   refine tk 9 rfl ?_
   try simp only [Act.put, aA, aZ, aS]
   refine tk 10 rfl ?_
   try simp only [Act.put, aA, aZ, aS]
   refine tk 11 rfl ?_
   try simp only [Act.put, aA, aZ, aS]
   refine tk 12 rfl ?_
   try simp only [Act.put, aA, aZ, aS]
   refine wpAnyG_done (by kernel_rfl) (fun u hu => ?_)
   have BM := Gr.blk hu BM
   have BX := Gr.blk hu BX
   have BY := Gr.blk hu BY
   have BR := Gr.blk hu BR
   have BW := Gr.blk hu BW
   have hb := Below.gr hb hu
   have pc : u.cell? ⟨w.heap.size + 4, 3, none⟩ = some (.int .u64 0) := BW.cell 3
   have pf := BW.frozen 3
   clear hu px py
   go_wp2
   refine ⟨⟨hb.setCell (by show w.heap.size ≤ w.heap.size + 4; omega) _, BM.far (by show w.heap.size ≠ w.heap.size + 4; omega) _, BX.far (by show w.heap.size + 1 ≠ w.heap.size + 4; omega) _, BY.far (by show w.heap.size + 2 ≠ w.heap.size + 4; omega) _, BR.far (by show w.heap.size + 3 ≠ w.heap.size + 4; omega) _, Lib.hid (.inr (.inr (.inr (.inr (⟨rfl, rfl, BW.set_ 3 _⟩)))))⟩, by decide⟩
  ·clear HI
   have pc : wr.cell? ⟨w.heap.size + 4, 4, none⟩ = some (.int .u64 0) := BW.cell 4
   have pf := BW.frozen 4
   have BM4 : Blk (wr.setCell ⟨w.heap.size + 4, 4, none⟩ (.int .u64 (c3 : Int))) w.heap.size 102 #[.int .u64 18446744069414583343, .int .u64 18446744073709551615, .int .u64 18446744073709551615, .int .u64 18446744073709551615, .int .u64 4294968273, .int .u64 0, .int .u64 0] := BM.far (by show w.heap.size ≠ w.heap.size + 4; omega) _
   have BW4 : Blk (wr.setCell ⟨w.heap.size + 4, 4, none⟩ (.int .u64 (c3 : Int))) (w.heap.size + 4) 194 #[.int .u64 (s0 : Int), .int .u64 (s1 : Int), .int .u64 (s2 : Int), .int .u64 (s3 : Int), .int .u64 (c3 : Int), .int .u64 0, .int .u64 0, .int .u64 0] := BW.set_ 4 _
   have BR4 : Blk (wr.setCell ⟨w.heap.size + 4, 4, none⟩ (.int .u64 (c3 : Int))) (w.heap.size + 3) 97 #[.int .u64 0, .int .u64 0, .int .u64 0, .int .u64 0] := BR.far (by show w.heap.size + 3 ≠ w.heap.size + 4; omega) _
   have hb4 : Below w.heap.size w (wr.setCell ⟨w.heap.size + 4, 4, none⟩ (.int .u64 (c3 : Int))) := hb.setCell (by show w.heap.size ≤ w.heap.size + 4; omega) _
   have H4 := Lib.hid (And.intro BM4 (And.intro BW4 (And.intro BR4 hb4)))
   clear BM BX BY BR BW hb BM4 BW4 BR4 hb4
   go_wp2_with (first | ((with_reducible refine here_load (d := some 33) ?_); refine wpList_load_blk rfl _ _ rfl w.heap.size rfl _ _ _ H4.out.1 Tryz.underlying102 rfl (by kernel_rfl) ?_) | ((with_reducible refine here_load (d := some 34) ?_); refine wpList_load_blk rfl _ _ rfl (w.heap.size + 4) rfl _ _ _ H4.out.2.1 Tryz.underlying194 rfl (by kernel_rfl) ?_))
   refine (cF _).mono ?_
   rintro e u ⟨rfl, hu⟩
   have BRu := Gr.blk hu H4.out.2.2.1
   have hbu := Below.gr H4.out.2.2.2 hu
   clear hu H4 cF
   go_wp2_with (first | ((with_reducible refine here_store ?_); refine wpList_store_blk rfl _ _ _ rfl (w.heap.size + 3) (fcs (z)) rfl rfl _ _ (BRu) (by kernel_rfl) (by rfl) (fcs_one _) ?_; intro w9 hL9 hB9 hK9))
   exact bodyPost_ret (results_cell_row rfl _ _ (w.heap.size + 3) _ _ (0, 0) _ rfl hL9 Tryz.underlying97 rfl (by kernel_rfl)) rfl ⟨rfl, hbu.trans (hB9 _ (by omega))⟩

set_option maxHeartbeats 2000000 in
set_option maxRecDepth 100000 in
theorem negR_any (w : World) (x : Nat) (hx : x < (2^256)) : Calls Tryz.prog 115 #[.agg #[.int .u64 18446744069414583343, .int .u64 18446744073709551615, .int .u64 18446744073709551615, .int .u64 18446744073709551615, .int .u64 4294968273, .int .u64 0, .int .u64 0], fv x] w fun e w' => e = .returned (fv (negP x)) ∧ Below w.heap.size w w' := by
 obtain ⟨n, hn⟩ : ∃ n, n = x % pM := ⟨_, rfl⟩
 have np : n < 115792089237316195423570985008687907853269984665640564039457584007908834671663 := by rw [hn]; exact mod_lt_p x
 obtain ⟨p, hp⟩ : ∃ p, p = 115792089237316195423570985008687907853269984665640564039457584007908834671663 := ⟨_, rfl⟩
 obtain ⟨q, hq⟩ : ∃ q, q = p - n := ⟨_, rfl⟩
 obtain ⟨g, hg⟩ : ∃ g, g = negP x := ⟨_, rfl⟩
 have hgq : q % pM = g := by rw [hg, negP, ← hn, hq, hp]; rfl
 have cN : ∀ w, Calls Tryz.prog 74 #[.agg #[.int .u64 18446744069414583343, .int .u64 18446744073709551615, .int .u64 18446744073709551615, .int .u64 18446744073709551615, .int .u64 4294968273, .int .u64 0, .int .u64 0], fv x] w fun e w' => e = .returned (fv n) ∧ Below w.heap.size w w' := by
  intro w; rw [hn]; exact normR_any w x hx
 have cM : ∀ w, Calls Tryz.prog 131 #[fv p, fv n] w fun e w' => e = .returned (fv q) ∧ Below w.heap.size w w' := fun w => minusR_at w p n q 0 rfl rfl (by omega) (by omega) (by omega) (by omega)
 have cG : ∀ w, Calls Tryz.prog 74 #[.agg #[.int .u64 18446744069414583343, .int .u64 18446744073709551615, .int .u64 18446744073709551615, .int .u64 18446744073709551615, .int .u64 4294968273, .int .u64 0, .int .u64 0], fv q] w fun e w' => e = .returned (fv g) ∧ Below w.heap.size w w' := by
  intro w; rw [← hgq]; exact normR_any w q (by omega)
 have FP : Hid (fv p = .agg #[.int .u64 18446744069414583343, .int .u64 18446744073709551615, .int .u64 18446744073709551615, .int .u64 18446744073709551615]) := Lib.hid (by rw [hp]; exact fv_P)
 obtain ⟨x0, x1, x2, x3, fx⟩ := words_fv x hx
 have FX := Lib.hid fx
 rw [fx, ← hg]
 clear fx hx hn np hp hq hg hgq
 go_enter Tryz.func115, Tryz.ntmps115
 go_wp2
 refine wp_region_G (fun j => j == 8) (by kernel_rfl) ?_
 try simp only [Act.put]
 refine tkw 0 rfl (YieldsG.load (by rfl) _ _ rfl w.heap.size 0 rfl ([.int .u64 18446744069414583343, .int .u64 18446744073709551615, .int .u64 18446744073709551615, .int .u64 18446744073709551615, .int .u64 4294968273, .int .u64 0, .int .u64 0]) _ (Blk.lt (((Blk.new w _ _).alloc _).alloc _)) (Blk.range (((Blk.new w _ _).alloc _).alloc _)) Tryz.underlying102 rfl (by kernel_rfl)) ?_
 try simp only [Act.put, aA, aZ, aS]
 refine tk 1 rfl ?_
 try simp only [Act.put, aA, aZ, aS]
 refine tkw 2 rfl (YieldsG.loadP (by rfl) _ _ rfl w.heap.size rfl p _ (Blk.lt (((Blk.new w _ _).alloc _).alloc _)) (mod_range (((Blk.new w _ _).alloc _).alloc _)) FP.out Tryz.underlying97 rfl (by kernel_rfl)) ?_
 try simp only [Act.put, aA, aZ, aS]
 refine tkw 3 rfl (YieldsG.load (by rfl) _ _ rfl w.heap.size 0 rfl ([.int .u64 18446744069414583343, .int .u64 18446744073709551615, .int .u64 18446744073709551615, .int .u64 18446744073709551615, .int .u64 4294968273, .int .u64 0, .int .u64 0]) _ (Blk.lt (((Blk.new w _ _).alloc _).alloc _)) (Blk.range (((Blk.new w _ _).alloc _).alloc _)) Tryz.underlying102 rfl (by kernel_rfl)) ?_
 try simp only [Act.put, aA, aZ, aS]
 refine tkw 4 rfl (YieldsG.loadF (by rfl) _ _ rfl (w.heap.size + 1) rfl (x) _ _ ((blk_new2 w _ _ _).alloc _) (FX.out) Tryz.underlying97 rfl (by kernel_rfl)) ?_
 try simp only [Act.put, aA, aZ, aS]
 refine tkw 5 rfl (YieldsG.call (v := fv n) (by rfl) 74 _ (fun w9 => by go_simp; try (first | with_reducible rfl | rfl)) (fun w9 h9 => cN w9)) ?_
 try simp only [Act.put, aA, aZ, aS]
 refine tkw 6 rfl (YieldsG.call (v := fv q) (by rfl) 131 _ (fun w9 => by go_simp; try (first | with_reducible rfl | rfl)) (fun w9 h9 => cM w9)) ?_
 try simp only [Act.put, aA, aZ, aS]
 refine tkw 7 rfl (YieldsG.call (v := fv g) (by rfl) 74 _ (fun w9 => by go_simp; try (first | with_reducible rfl | rfl)) (fun w9 h9 => cG w9)) ?_
 try simp only [Act.put, aA, aZ, aS]
 refine wpAnyG_store 8 rfl (by kernel_rfl) (by rfl) _ _ _ rfl (w.heap.size + 2) (fcs (g)) rfl rfl _ _ (blk_new3 w _ _ _ _) (by kernel_rfl) (by rfl) (fcs_one _) rfl (fun w6 h6 w7 hB7 hL7 => ?_)
 try simp only [Act.put]
 refine wpAnyG_done (by kernel_rfl) (fun w8 h8 => ?_)
 have hfin := Gr.blk h8 hL7
 have hb9 := (Below.gr (below_alloc3 w _ _ _) h6).trans ((hB7 _ (by omega)).trans (Below.mono h8 (by have := hL7.lt; omega)))
 go_wp2
 exact bodyPost_ret (results_cell_row rfl _ _ (w.heap.size + 2) _ _ (0, 0) _ rfl hfin Tryz.underlying97 rfl (by kernel_rfl)) rfl ⟨rfl, hb9⟩

theorem sub_is (x y : Nat) : addP x (negP y) = subP x y := by
 unfold addP negP subP
 rw [Nat.add_mod_mod]
set_option maxHeartbeats 2000000 in
set_option maxRecDepth 100000 in
theorem subR_any (w : World) (x y : Nat) (hx : x < (2^256)) (hy : y < (2^256)) : Calls Tryz.prog 127 #[.agg #[.int .u64 18446744069414583343, .int .u64 18446744073709551615, .int .u64 18446744073709551615, .int .u64 18446744073709551615, .int .u64 4294968273, .int .u64 0, .int .u64 0], fv x, fv y] w fun e w' => e = .returned (fv (subP x y)) ∧ Below w.heap.size w w' := by
 obtain ⟨g, hg⟩ : ∃ g, g = negP y := ⟨_, rfl⟩
 obtain ⟨z, hz⟩ : ∃ z, z = subP x y := ⟨_, rfl⟩
 have cG : ∀ w, Calls Tryz.prog 115 #[.agg #[.int .u64 18446744069414583343, .int .u64 18446744073709551615, .int .u64 18446744073709551615, .int .u64 18446744073709551615, .int .u64 4294968273, .int .u64 0, .int .u64 0], fv y] w fun e w' => e = .returned (fv g) ∧ Below w.heap.size w w' := by
  intro w; rw [hg]; exact negR_any w y hy
 have cA : ∀ w, Calls Tryz.prog 105 #[.agg #[.int .u64 18446744069414583343, .int .u64 18446744073709551615, .int .u64 18446744073709551615, .int .u64 18446744073709551615, .int .u64 4294968273, .int .u64 0, .int .u64 0], fv x, fv g] w fun e w' => e = .returned (fv z) ∧ Below w.heap.size w w' := by
  intro w; rw [hz, ← sub_is, ← hg]; exact addR_any w x g hx (by rw [hg]; exact negP_lt _)
 obtain ⟨x0, x1, x2, x3, fx⟩ := words_fv x hx
 obtain ⟨y0, y1, y2, y3, fy⟩ := words_fv y hy
 have FX := Lib.hid fx
 have FY := Lib.hid fy
 rw [fx, fy, ← hz]
 clear fx fy hx hy hg hz
 go_enter Tryz.func127, Tryz.ntmps127
 go_wp2
 refine wp_region_G (fun j => j == 6) (by kernel_rfl) ?_
 try simp only [Act.put]
 refine tkw 0 rfl (YieldsG.load (by rfl) _ _ rfl w.heap.size 0 rfl ([.int .u64 18446744069414583343, .int .u64 18446744073709551615, .int .u64 18446744073709551615, .int .u64 18446744073709551615, .int .u64 4294968273, .int .u64 0, .int .u64 0]) _ (Blk.lt ((((Blk.new w _ _).alloc _).alloc _).alloc _)) (Blk.range ((((Blk.new w _ _).alloc _).alloc _).alloc _)) Tryz.underlying102 rfl (by kernel_rfl)) ?_
 try simp only [Act.put, aA, aZ, aS]
 refine tkw 1 rfl (YieldsG.loadF (by rfl) _ _ rfl (w.heap.size + 1) rfl (x) _ _ (((blk_new2 w _ _ _).alloc _).alloc _) (FX.out) Tryz.underlying97 rfl (by kernel_rfl)) ?_
 try simp only [Act.put, aA, aZ, aS]
 refine tkw 2 rfl (YieldsG.load (by rfl) _ _ rfl w.heap.size 0 rfl ([.int .u64 18446744069414583343, .int .u64 18446744073709551615, .int .u64 18446744073709551615, .int .u64 18446744073709551615, .int .u64 4294968273, .int .u64 0, .int .u64 0]) _ (Blk.lt ((((Blk.new w _ _).alloc _).alloc _).alloc _)) (Blk.range ((((Blk.new w _ _).alloc _).alloc _).alloc _)) Tryz.underlying102 rfl (by kernel_rfl)) ?_
 try simp only [Act.put, aA, aZ, aS]
 refine tkw 3 rfl (YieldsG.loadF (by rfl) _ _ rfl (w.heap.size + 2) rfl (y) _ _ ((blk_new3 w _ _ _ _).alloc _) (FY.out) Tryz.underlying97 rfl (by kernel_rfl)) ?_
 try simp only [Act.put, aA, aZ, aS]
 refine tkw 4 rfl (YieldsG.call (v := fv g) (by rfl) 115 _ (fun w9 => by go_simp; try (first | with_reducible rfl | rfl)) (fun w9 h9 => cG w9)) ?_
 try simp only [Act.put, aA, aZ, aS]
 refine tkw 5 rfl (YieldsG.call (v := fv z) (by rfl) 105 _ (fun w9 => by go_simp; try (first | with_reducible rfl | rfl)) (fun w9 h9 => cA w9)) ?_
 try simp only [Act.put, aA, aZ, aS]
 refine wpAnyG_store 6 rfl (by kernel_rfl) (by rfl) _ _ _ rfl (w.heap.size + 3) (fcs (z)) rfl rfl _ _ (blk_new4 w _ _ _ _ _) (by kernel_rfl) (by rfl) (fcs_one _) rfl (fun w6 h6 w7 hB7 hL7 => ?_)
 try simp only [Act.put]
 refine wpAnyG_done (by kernel_rfl) (fun w8 h8 => ?_)
 have hfin := Gr.blk h8 hL7
 have hb9 := (Below.gr (below_alloc4 w _ _ _ _) h6).trans ((hB7 _ (by omega)).trans (Below.mono h8 (by have := hL7.lt; omega)))
 go_wp2
 exact bodyPost_ret (results_cell_row rfl _ _ (w.heap.size + 3) _ _ (0, 0) _ rfl hfin Tryz.underlying97 rfl (by kernel_rfl)) rfl ⟨rfl, hb9⟩
end Go.Proofs.YtfhcpdbahbbmaaaGreatDoor

end
section
namespace Go.Proofs.YtfhcpdbahbbmaaaGreatDoor.Fz
open Go.RowKit Go.Lib Go.Proofs.YtfhcpdbahbbmaaaGreatDoor Go.Proofs.YtfhcpdbahbbmaaaGreatDoor.Sy

set_option maxHeartbeats 4000000 in
set_option maxRecDepth 100000 in
theorem mulZ (w : World) (M : Nat) (lw : Nat → Nat) (hlw : ∀ t, lw t < 18446744073709551616) (hM0 : 0 < M) (hM : M + vR lw 3 = 18446744073709551616 ^ 4) (hnorm : ∀ w x, x < (2^256) → Calls Tryz.prog 74 #[.agg (modc M lw), fv x] w (Gets w (fv (x % M)))) (x y : Nat) (hx : x < (2^256)) (hy : y < (2^256)) : Calls Tryz.prog 106 #[.agg (modc M lw), fv x, fv y] w (Gets w (fv (x * y % M))) := by
 refine Sy.enter (args := [.agg (modc M lw), fv x, fv y]) Tryz.func106 rfl kL ?_
 refine sC ?_
 refine sM 102 (modc M lw) (fun g0 => ?_)
 refine sM 97 (fcs x) (fun g1 => ?_)
 refine sM 97 (fcs y) (fun g2 => ?_)
 refine sM 97 (fcs 0) (fun g3 => ?_)
 refine sA ?_
 refine Sy.make kR 194 (rw8 (fun _ => 0)) ptr kF (fun g4 => ?_)
 refine sG <| Sy.seq <| sC ?_
 refine sP (.int .i64 0) ?_
 refine sG <| Sy.block ?_
 refine Sy.loopX (T := Nat → Nat) 4 (fun k1 y1 => [(3, .pointer (some ⟨g0, 0, none⟩)), (4, .pointer (some ⟨g1, 0, none⟩)), (5, .pointer (some ⟨g2, 0, none⟩)), (6, .pointer (some ⟨g3, 0, none⟩)), (7, .pointer (some ⟨g4, 0, none⟩)), (8, .int .i64 ((k1 : Nat) : Int))]) (fun k1 y1 => [(g0, 102, (modc M lw)), (g1, 97, (fcs x)), (g2, 97, (fcs y)), (g3, 97, (fcs 0)), (g4, 194, (rw8 y1))]) (fun k1 y1 => (∀ t, y1 t < 18446744073709551616) ∧ vR y1 8 = vR (wd x) k1 * vR (wd y) 4 ∧ ∀ t, k1 + 4 ≤ t → y1 t = 0) (fun _ => 0) [true, true, true, true, true] (⟨fun _ => by show (0 : Nat) < 18446744073709551616; decide, by rw [vR_zero]; exact (Nat.zero_mul _).symm, fun _ _ => rfl⟩) (all_cons kR (all_cons kR (all_cons kR (all_cons kR (all_cons kR (all_cons kR all_nil)))))) kR (fun k1 y1 hk1 hh1 => ?_)
 refine Sy.seq <| sC ?_
 refine sP (.int .i64 ((k1 : Nat) : Int)) ?_
 obtain ⟨b1, hb1⟩ : ∃ z : Bool, z = decide (k1 < 4) := ⟨_, rfl⟩
 refine sS (.bool b1) (Quiet.pure (exec_int .lss _ _ _ .i64 _ _ _ rfl rfl rfl (int_lss _ _ _ _ _ (by rw [hb1]; exact decide_eq_decide.2 (by omega))))) ?_
 refine sG ?_
 cases b1
 ·have lb1 : ¬ (k1 < 4) := of_decide_eq_false hb1.symm
  refine sU <| Sy.exit <| Sy.then_exit <| Sy.then_exit ?_
  obtain rfl : k1 = 4 := by omega
  refine Sy.in_exit <| sB ?_
  refine sS (.agg (modc M lw)) (qL 0 g0 0 7 102 102 (modc M lw) rfl Tryz.underlying102) <| sS (.agg (rw8 y1)) (Quiet.load 4 g4 0 8 194 194 (rw8 y1) _ _ rfl kR kR Tryz.underlying194 rfl kR _ kR kL) <| sS (fv (vR y1 8 % M)) (qF 159 #[.agg (modc M lw), .agg (rw8 y1)] (fun w => foldZ w M lw hlw hM0 hM hnorm y1 hh1.1)) <| sW 3 g3 97 (fcs 0) (fcs (vR y1 8 % M)) (wS 0 97 (fcs (vR y1 8 % M)) rfl) ?_
  refine sG <| Sy.ret ?_
  rw [show (fv (x * y % M) : Value) = fv (vR y1 8 % M) from by rw [hh1.2.1, wd4 hx, wd4 hy]]
  exact rC (v := fv (vR y1 8 % M)) 97 g3 3 (fcs (vR y1 8 % M)) rfl Tryz.underlying97
 ·have lb1 : k1 < 4 := of_decide_eq_true hb1.symm
  refine sT <| Sy.skip <| Sy.then_ <| Sy.seq <| Sy.block <| sC ?_
  refine sP (.int .u64 0) ?_
  refine sG <| Sy.seq <| sC ?_
  refine sP (.int .i64 0) ?_
  refine sG <| Sy.block ?_
  refine Sy.loopX (T := (Nat → Nat) × Nat) 4 (fun k2 y2 => [(3, .pointer (some ⟨g0, 0, none⟩)), (4, .pointer (some ⟨g1, 0, none⟩)), (5, .pointer (some ⟨g2, 0, none⟩)), (6, .pointer (some ⟨g3, 0, none⟩)), (7, .pointer (some ⟨g4, 0, none⟩)), (8, .int .i64 ((k1 : Nat) : Int)), (9, .int .u64 ((y2.2 : Nat) : Int)), (10, .int .i64 ((k2 : Nat) : Int))]) (fun k2 y2 => [(g0, 102, (modc M lw)), (g1, 97, (fcs x)), (g2, 97, (fcs y)), (g3, 97, (fcs 0)), (g4, 194, (rw8 y2.1))]) (fun k2 y2 => (∀ t, y2.1 t < 18446744073709551616) ∧ y2.2 < 18446744073709551616 ∧ vR y2.1 8 + y2.2 * 18446744073709551616 ^ (k1 + k2) = vR y1 8 + wd x k1 * vR (wd y) k2 * 18446744073709551616 ^ k1 ∧ ∀ t, k1 + 4 ≤ t → y2.1 t = 0) (y1, 0) [true, true, true, true, true] (⟨hh1.1, by show (0 : Nat) < 18446744073709551616; decide, by show vR y1 8 + 0 * _ = _ + _ * 0 * _; omega, hh1.2.2⟩) (all_cons kR (all_cons kR (all_cons kR (all_cons kR (all_cons kR (all_cons kR (all_cons kR (all_cons kR all_nil)))))))) kR (fun k2 y2 hk2 hh2 => ?_)
  refine Sy.seq <| sC ?_
  refine sP (.int .i64 ((k2 : Nat) : Int)) ?_
  obtain ⟨b2, hb2⟩ : ∃ z : Bool, z = decide (k2 < 4) := ⟨_, rfl⟩
  refine sS (.bool b2) (Quiet.pure (exec_int .lss _ _ _ .i64 _ _ _ rfl rfl rfl (int_lss _ _ _ _ _ (by rw [hb2]; exact decide_eq_decide.2 (by omega))))) ?_
  refine sG ?_
  cases b2
  ·have lb2 : ¬ (k2 < 4) := of_decide_eq_false hb2.symm
   refine sU <| Sy.exit <| Sy.then_exit <| Sy.then_exit ?_
   obtain rfl : k2 = 4 := by omega
   refine Sy.in_exit <| Sy.then_ <| Sy.region ?_
   refine sP (.int .i64 ((k1 : Nat) : Int)) <| sS (.int .i64 ((k1 + 4 : Nat) : Int)) (Quiet.pure (exec_int .add _ _ _ .i64 _ _ _ rfl rfl rfl (int_add _ _ _ _ _ ((wrap_i64 (by omega) (by omega)).trans (by omega))))) <| sP (.int .u64 ((y2.2 : Nat) : Int)) <| sS (.pointer (some ⟨g4, 0 + (k1 + 4) * 1, none⟩)) (Quiet.pure (exec_atA 194 _ _ _ g4 0 _ (k1 + 4) 1 .i64 rfl rfl rfl Tryz.underlying194 kF (by omega))) ?_
   refine Sy.write kR 4 g4 194 (rw8 y2.1) (rw8 (upd y2.1 (k1 + 4) y2.2)) kR (Writes.one (0 + (k1 + 4) * 1) 22 (.int .u64 ((y2.2 : Nat) : Int)) _ _ rfl kR kR kR rfl rfl (rw8_fit _ (k := k1 + 4) (by omega) (by omega)) (rw8_set _ _ (by omega) (by omega))) ?_
   refine Sy.nil <| Sy.in_ <| Sy.then_ <| Sy.region ?_
   refine sP (.int .i64 ((k1 : Nat) : Int)) <| sS (.int .i64 ((k1 + 1 : Nat) : Int)) (Quiet.pure (exec_int .add _ _ _ .i64 _ _ _ rfl rfl rfl (int_add _ _ _ _ _ ((wrap_i64 (by omega) (by omega)).trans (by omega))))) <| sP (.int .i64 ((k1 + 1 : Nat) : Int)) ?_
   refine Sy.nil ?_
   have hq := outerM hh1.2.1 hh2.2.2.1 (hh2.2.2.2 _ (Nat.le_refl _)) (by omega)
   exact Sy.againX (upd y2.1 (k1 + 4) y2.2) [true, true, true, true, true] (by omega) (⟨upd_lt hh2.1 hh2.2.1, hq, fun t ht => (upd_ne (by omega)).trans (hh2.2.2.2 t (by omega))⟩) (all_cons kR (all_cons kR (all_cons kR (all_cons kR (all_cons kR (all_cons kR all_nil)))))) kR
  ·have lb2 : k2 < 4 := of_decide_eq_true hb2.symm
   refine sT <| Sy.skip <| Sy.then_ <| Sy.seq <| Sy.block <| Sy.seq ?_
   refine Sy.regionD (fun j => false) kR ?_
   refine sZ 0 rfl (.int .i64 ((k1 : Nat) : Int)) <| sD 1 rfl (.pointer (some ⟨g1, 0 + k1 * 1, none⟩)) (Quiet.pure (exec_atA 97 _ _ _ g1 0 _ k1 1 .i64 rfl rfl rfl Tryz.underlying97 kF (by omega))) <| sD 2 rfl (.int .u64 ((wd x k1 : Nat) : Int)) (Quiet.cell 1 g1 (0 + k1 * 1) 97 22 (fcs x) _ _ rfl kR kR Tryz.underlying22 rfl _ (fcs_at x (k := k1) (by omega) (by omega))) <| sZ 3 rfl (.int .i64 ((k2 : Nat) : Int)) <| sD 4 rfl (.pointer (some ⟨g2, 0 + k2 * 1, none⟩)) (Quiet.pure (exec_atA 97 _ _ _ g2 0 _ k2 1 .i64 rfl rfl rfl Tryz.underlying97 kF (by omega))) <| sD 5 rfl (.int .u64 ((wd y k2 : Nat) : Int)) (Quiet.cell 2 g2 (0 + k2 * 1) 97 22 (fcs y) _ _ rfl kR kR Tryz.underlying22 rfl _ (fcs_at y (k := k2) (by omega) (by omega))) ?_
   obtain ⟨hi1, lo1, llo1, elo1⟩ := two_words (wd x k1) (wd y k2)
   refine sD 6 rfl (.tuple #[.int .u64 ((hi1 : Nat) : Int), .int .u64 ((lo1 : Nat) : Int)]) (qF 160 #[.int .u64 ((wd x k1 : Nat) : Int), .int .u64 ((wd y k2 : Nat) : Int)] (fun w => mulZ_any w (wd x k1) (wd y k2) hi1 lo1 (by first | assumption | exact wd_lt _ _ | exact hh1.1 _ | exact hh2.1 _ | exact hh2.2.1 | decide) (by first | assumption | exact wd_lt _ _ | exact hh1.1 _ | exact hh2.1 _ | exact hh2.2.1 | decide) llo1 elo1)) <| sZ 7 rfl (.tuple #[.int .u64 ((hi1 : Nat) : Int), .int .u64 ((lo1 : Nat) : Int)]) <| sZ 8 rfl (.int .u64 ((hi1 : Nat) : Int)) <| sZ 9 rfl (.int .u64 ((lo1 : Nat) : Int)) <| sZ 10 rfl (.int .u64 ((hi1 : Nat) : Int)) <| sZ 11 rfl (.int .u64 ((lo1 : Nat) : Int)) ?_
   refine sE ?_
   refine sB ?_
   refine sP (.int .u64 ((lo1 : Nat) : Int)) <| sP (.int .i64 ((k1 : Nat) : Int)) <| sP (.int .i64 ((k2 : Nat) : Int)) <| sS (.int .i64 ((k1 + k2 : Nat) : Int)) (Quiet.pure (exec_int .add _ _ _ .i64 _ _ _ rfl rfl rfl (int_add _ _ _ _ _ ((wrap_i64 (by omega) (by omega)).trans (by omega))))) <| sS (.pointer (some ⟨g4, 0 + (k1 + k2) * 1, none⟩)) (Quiet.pure (exec_atA 194 _ _ _ g4 0 _ (k1 + k2) 1 .i64 rfl rfl rfl Tryz.underlying194 kF (by omega))) <| sS (.int .u64 ((y2.1 (k1 + k2) : Nat) : Int)) (Quiet.cell 4 g4 (0 + (k1 + k2) * 1) 194 22 (rw8 y2.1) _ _ rfl kR kR Tryz.underlying22 rfl _ (rw8_at y2.1 (k := k1 + k2) (by omega) (by omega))) ?_
   obtain ⟨x1, c1, lx1, lc1, ex1, rx1⟩ := add0_ex (lo1) (y2.1 (k1 + k2)) (by first | assumption | exact wd_lt _ _ | exact hh1.1 _ | exact hh2.1 _ | exact hh2.2.1 | decide) (by first | assumption | exact wd_lt _ _ | exact hh1.1 _ | exact hh2.1 _ | exact hh2.2.1 | decide)
   refine sS (.tuple #[.int .u64 ((x1 : Nat) : Int), .int .u64 ((c1 : Nat) : Int)]) (Quiet.pure (fun w => Eq.trans kR (rx1 w))) <| sP (.tuple #[.int .u64 ((x1 : Nat) : Int), .int .u64 ((c1 : Nat) : Int)]) <| sP (.int .u64 ((x1 : Nat) : Int)) <| sP (.int .u64 ((c1 : Nat) : Int)) <| sP (.int .u64 ((x1 : Nat) : Int)) <| sP (.int .u64 ((c1 : Nat) : Int)) ?_
   refine sA ?_
   refine sP (.int .u64 ((x1 : Nat) : Int)) <| sP (.int .u64 ((y2.2 : Nat) : Int)) ?_
   obtain ⟨x2, c2, lx2, lc2, ex2, rx2⟩ := add0_ex (x1) (y2.2) (by first | assumption | exact wd_lt _ _ | exact hh1.1 _ | exact hh2.1 _ | exact hh2.2.1 | decide) (by first | assumption | exact wd_lt _ _ | exact hh1.1 _ | exact hh2.1 _ | exact hh2.2.1 | decide)
   refine sS (.tuple #[.int .u64 ((x2 : Nat) : Int), .int .u64 ((c2 : Nat) : Int)]) (Quiet.pure (fun w => Eq.trans kR (rx2 w))) <| sP (.tuple #[.int .u64 ((x2 : Nat) : Int), .int .u64 ((c2 : Nat) : Int)]) <| sP (.int .u64 ((x2 : Nat) : Int)) <| sP (.int .u64 ((c2 : Nat) : Int)) <| sP (.int .u64 ((x2 : Nat) : Int)) <| sP (.int .u64 ((c2 : Nat) : Int)) ?_
   refine sA ?_
   refine sP (.int .i64 ((k1 : Nat) : Int)) <| sP (.int .i64 ((k2 : Nat) : Int)) <| sS (.int .i64 ((k1 + k2 : Nat) : Int)) (Quiet.pure (exec_int .add _ _ _ .i64 _ _ _ rfl rfl rfl (int_add _ _ _ _ _ ((wrap_i64 (by omega) (by omega)).trans (by omega))))) <| sP (.int .u64 ((x2 : Nat) : Int)) <| sS (.pointer (some ⟨g4, 0 + (k1 + k2) * 1, none⟩)) (Quiet.pure (exec_atA 194 _ _ _ g4 0 _ (k1 + k2) 1 .i64 rfl rfl rfl Tryz.underlying194 kF (by omega))) ?_
   refine Sy.write kR 4 g4 194 (rw8 y2.1) (rw8 (upd y2.1 (k1 + k2) x2)) kR (Writes.one (0 + (k1 + k2) * 1) 22 (.int .u64 ((x2 : Nat) : Int)) _ _ rfl kR kR kR rfl rfl (rw8_fit _ (k := k1 + k2) (by omega) (by omega)) (rw8_set _ _ (by omega) (by omega))) ?_
   refine sG <| Sy.region ?_
   refine sP (.int .u64 ((hi1 : Nat) : Int)) <| sP (.int .u64 ((c1 : Nat) : Int)) ?_
   have hst := stepZ elo1 ex1 ex2
   have hcar := carryZ hst (by first | assumption | exact wd_lt _ _ | exact hh1.1 _ | exact hh2.1 _ | exact hh2.2.1 | decide) (by first | assumption | exact wd_lt _ _ | exact hh1.1 _ | exact hh2.1 _ | exact hh2.2.1 | decide) (by first | assumption | exact wd_lt _ _ | exact hh1.1 _ | exact hh2.1 _ | exact hh2.2.1 | decide) hh2.2.1
   refine sS (.int .u64 ((hi1 + c1 : Nat) : Int)) (Quiet.pure (exec_int .add _ _ _ .u64 _ _ _ rfl rfl rfl (int_add _ _ _ _ _ ((wrap_u64 (by omega) (by omega)).trans (by omega))))) <| sP (.int .u64 ((c2 : Nat) : Int)) <| sS (.int .u64 (((hi1 + c1) + c2 : Nat) : Int)) (Quiet.pure (exec_int .add _ _ _ .u64 _ _ _ rfl rfl rfl (int_add _ _ _ _ _ ((wrap_u64 (by omega) (by omega)).trans (by omega))))) <| sP (.int .u64 (((hi1 + c1) + c2 : Nat) : Int)) ?_
   refine Sy.nil <| Sy.in_ <| Sy.then_ <| Sy.region ?_
   refine sP (.int .i64 ((k2 : Nat) : Int)) <| sS (.int .i64 ((k2 + 1 : Nat) : Int)) (Quiet.pure (exec_int .add _ _ _ .i64 _ _ _ rfl rfl rfl (int_add _ _ _ _ _ ((wrap_i64 (by omega) (by omega)).trans (by omega))))) <| sP (.int .i64 ((k2 + 1 : Nat) : Int)) ?_
   refine Sy.nil ?_
   have hin := innerZ (vR_upd y2.1 (k1 + k2) x2 8 (by omega)) hh2.2.2.1 hst (P0 := 18446744073709551616 ^ k2) (by rw [Nat.add_comm, Nat.pow_add])
   exact Sy.againX ((upd y2.1 (k1 + k2) x2, hi1 + c1 + c2)) [true, true, true, true, true] (by omega) (⟨upd_lt hh2.1 lx2, hcar, by rw [← Nat.add_assoc, Nat.pow_succ]; exact hin, fun t ht => (upd_ne (by omega)).trans (hh2.2.2.2 t ht)⟩) (all_cons kR (all_cons kR (all_cons kR (all_cons kR (all_cons kR (all_cons kR (all_cons kR (all_cons kR all_nil)))))))) kR
end Go.Proofs.YtfhcpdbahbbmaaaGreatDoor.Fz

end
section
namespace Go.Proofs.YtfhcpdbahbbmaaaGreatDoor
open Go.RowKit Go.Lib Go.Proofs.YtfhcpdbahbbmaaaGreatDoor

theorem mulR_any (w : World) (x y : Nat) (hx : x < (2^256)) (hy : y < (2^256)) : Calls Tryz.prog 106 #[.agg #[.int .u64 18446744069414583343, .int .u64 18446744073709551615, .int .u64 18446744073709551615, .int .u64 18446744073709551615, .int .u64 4294968273, .int .u64 0, .int .u64 0], fv x, fv y] w fun e w' => e = .returned (fv (mulP x y)) ∧ Below w.heap.size w w' := by
 have h := Fz.mulZ w pM lackW lackW_lt pM_pos0 lack_sum (fun w x hx => by rw [mod_row]; exact normR_any w x hx) x y hx hy
 rw [mod_row] at h
 exact h
end Go.Proofs.YtfhcpdbahbbmaaaGreatDoor

end
section
namespace Go.Proofs.YtfhcpdbahbbmaaaGreatDoor
open Go.RowKit Go.Lib

def pw (x e : Nat) : Nat := x ^ e % pM
theorem pw_lt (x e : Nat) : pw x e < (2^256) := mod_lt _
theorem pw_zero (x : Nat) : pw x 0 = 1 := by unfold pw; rw [Nat.pow_zero]; decide
theorem pw_sq (x e : Nat) : mulP (pw x e) (pw x e) = pw x (2 * e) := by
 unfold mulP pw
 rw [← Nat.mul_mod, ← Nat.pow_add, Nat.two_mul]
theorem pw_mul (x e : Nat) : mulP (pw x e) x = pw x (e + 1) := by
 unfold mulP pw
 rw [Nat.mod_mul_mod, Nat.pow_succ]
theorem div_word2 (a r s : Nat) (hs : s ≤ 63) : (a + 18446744073709551616 * r) / 2 ^ s % 2 = a / 2 ^ s % 2 := by
 obtain ⟨u, hu⟩ : ∃ u, 2 ^ s * (2 * u) = 18446744073709551616 := by
  refine ⟨2 ^ (63 - s), ?_⟩
  have : 2 ^ s * 2 ^ (63 - s) = 2 ^ 63 := by rw [← Nat.pow_add]; congr 1; omega
  rw [show (2 : Nat) * 2 ^ (63 - s) = 2 ^ (63 - s) * 2 from Nat.mul_comm _ _, ← Nat.mul_assoc, this]
 rw [← hu, Nat.mul_assoc, Nat.add_mul_div_left _ _ (Nat.two_pow_pos s), Nat.mul_assoc, Nat.add_mul_mod_self_left]
theorem next_digit (e i s w r : Nat) (hz : e / 2 ^ (64 * i) = w + 18446744073709551616 * r) (hs : s ≤ 63) : e / 2 ^ (64 * i + s) = 2 * (e / 2 ^ (64 * i + (s + 1))) + w / 2 ^ s % 2 := by
 have h1 : e / 2 ^ (64 * i + s) % 2 = w / 2 ^ s % 2 := by
  rw [Nat.pow_add, ← Nat.div_div_eq_div_mul, hz, div_word2 w r s hs]
 have h2 : e / 2 ^ (64 * i + (s + 1)) = e / 2 ^ (64 * i + s) / 2 := by
  rw [← Nat.add_assoc, Nat.pow_succ, Nat.div_div_eq_div_mul]
 rw [h2, ← h1]
 omega
theorem and_bit (a s : Nat) (ha : a < 18446744073709551616) (hs : s ≤ 63) : ∃ m : Nat, bits .and .u64 (a : Int) ((2 ^ s : Nat) : Int) = (m : Int) ∧ (m = 0 ↔ a / 2 ^ s % 2 = 0) := by
 have h2 : 2 ^ s < 18446744073709551616 := by
  have : 2 ^ s ≤ 2 ^ 63 := Nat.pow_le_pow_right (by omega) hs
  omega
 refine ⟨a &&& 2 ^ s, bits_and_u64_nat a (2 ^ s) ha h2, ?_⟩
 have hb : a.testBit s = decide (a / 2 ^ s % 2 = 1) := Nat.testBit_eq_decide_div_mod_eq
 constructor
 ·intro h
  have h2 : (a &&& 2 ^ s).testBit s = false := by rw [h]; simp
  rw [Nat.testBit_and, Nat.testBit_two_pow_self, Bool.and_true, hb] at h2
  have h3 : ¬ a / 2 ^ s % 2 = 1 := by simpa using h2
  omega
 ·intro h
  have h2 : a.testBit s = false := by rw [hb]; simp; omega
  refine Nat.eq_of_testBit_eq fun j => ?_
  rw [Nat.testBit_and, Nat.zero_testBit, Nat.testBit_two_pow]
  by_cases hj : s = j
  ·subst hj; simp [h2]
  ·simp [hj]

theorem small_at (w : World) (n : Nat) (di : Int) (hdi : di = (n : Int)) (hn : n < 18446744073709551616) : Calls Tryz.prog 132 #[.int .u64 di] w fun e w' => e = .returned (fv n) ∧ Below w.heap.size w w' := by
 subst hdi
 rw [fv_small n hn]
 go_enter Tryz.func132, Tryz.ntmps132
 go_wp2
 exact bodyPost_ret (results_cell_row rfl _ _ w.heap.size _ _ (0, 0) _ rfl (heap_alloc_new w _) Tryz.underlying97 rfl (by kernel_rfl)) rfl ⟨rfl, (Below.refl _ _).alloc (Nat.le_refl _) _⟩

set_option maxHeartbeats 16000000 in
set_option maxRecDepth 100000 in
theorem power_any (w : World) (x e : Nat) (hx : x < (2^256)) (he : e < (2^256)) : Calls Tryz.prog 133 #[.agg #[.int .u64 18446744069414583343, .int .u64 18446744073709551615, .int .u64 18446744073709551615, .int .u64 18446744073709551615, .int .u64 4294968273, .int .u64 0, .int .u64 0], fv x, fv e] w fun ee w' => ee = .returned (fv (pw x e)) ∧ Below w.heap.size w w' := by
 obtain ⟨x0, x1, x2, x3, fx⟩ := words_fv x hx
 obtain ⟨e0, e1, e2, e3, b0, b1, b2, b3, ee, fe⟩ := words_of e he
 have n0 := fun s hs => next_digit e 0 s e0 (e1 + 18446744073709551616 * e2 + 340282366920938463463374607431768211456 * e3) (by omega) hs
 have n1 := fun s hs => next_digit e 1 s e1 (e2 + 18446744073709551616 * e3) (by omega) hs
 have n2 := fun s hs => next_digit e 2 s e2 e3 (by omega) hs
 have n3 := fun s hs => next_digit e 3 s e3 0 (by omega) hs
 have h256 : e / 2 ^ 256 = 0 := by omega
 have HN := Lib.hid (And.intro n0 (And.intro n1 (And.intro n2 n3)))
 have HB := Lib.hid (And.intro b0 (And.intro b1 (And.intro b2 b3)))
 have H0 := Lib.hid h256
 have FX := Lib.hid fx
 have HX := Lib.hid hx
 rw [fx, fe]
 clear fx fe ee hx he b0 b1 b2 b3 n0 n1 n2 n3 h256
 go_enter Tryz.func133, Tryz.ntmps133
 go_wp2_with fail
 obtain ⟨one, h1⟩ : ∃ one, one = 1 := ⟨_, rfl⟩
 refine (small_at _ one 1 (by rw [h1]; rfl) (by omega)).mono ?_
 rintro ez w1 ⟨rfl, g1⟩
 have BM : Blk w1 w.heap.size 102 #[.int .u64 18446744069414583343, .int .u64 18446744073709551615, .int .u64 18446744073709551615, .int .u64 18446744073709551615, .int .u64 4294968273, .int .u64 0, .int .u64 0] := Gr.blk g1 (((((Blk.new w _ _).alloc _).alloc _).alloc _))
 have BX : Blk w1 (w.heap.size + 1) 97 #[.int .u64 (x0 : Int), .int .u64 (x1 : Int), .int .u64 (x2 : Int), .int .u64 (x3 : Int)] := Gr.blk g1 ((((blk_new2 w _ _ _).alloc _).alloc _))
 have BE : Blk w1 (w.heap.size + 2) 97 #[.int .u64 (e0 : Int), .int .u64 (e1 : Int), .int .u64 (e2 : Int), .int .u64 (e3 : Int)] := Gr.blk g1 ((blk_new3 w _ _ _ _).alloc _)
 have BR : Blk w1 (w.heap.size + 3) 97 #[.int .u64 0, .int .u64 0, .int .u64 0, .int .u64 0] := Gr.blk g1 (blk_new4 w _ _ _ _ _)
 have hB := Below.gr (below_alloc4 w _ _ _ _) g1
 have sz : w.heap.size + 3 < w1.heap.size := BR.lt
 have H1 := Lib.hid h1
 clear g1 h1
 go_wp2_with (first | ((with_reducible refine here_store ?_); refine wpList_store_blk rfl _ _ _ rfl (w1.heap.size) (fcs (one)) rfl rfl _ _ (Blk.new w1 _ _) (by kernel_rfl) (by rfl) (fcs_one _) ?_; intro w2 hL2 hq2 hK2; have KM := hK2 _ (by omega) _ _ (BM.alloc _); have KX := hK2 _ (by omega) _ _ (BX.alloc _); have KE := hK2 _ (by omega) _ _ (BE.alloc _); have KR := hK2 _ (by omega) _ _ (BR.alloc _); have hB2 := (hB.alloc (by omega) _).trans (hq2 _ (by omega))))
 go_loopw [8] (fun i wr => Below w.heap.size w wr ∧ Blk wr w.heap.size 102 #[.int .u64 18446744069414583343, .int .u64 18446744073709551615, .int .u64 18446744073709551615, .int .u64 18446744073709551615, .int .u64 4294968273, .int .u64 0, .int .u64 0] ∧ Blk wr (w.heap.size + 1) 97 #[.int .u64 (x0 : Int), .int .u64 (x1 : Int), .int .u64 (x2 : Int), .int .u64 (x3 : Int)] ∧ Blk wr (w.heap.size + 2) 97 #[.int .u64 (e0 : Int), .int .u64 (e1 : Int), .int .u64 (e2 : Int), .int .u64 (e3 : Int)] ∧ Blk wr (w.heap.size + 3) 97 #[.int .u64 0, .int .u64 0, .int .u64 0, .int .u64 0] ∧ Hid ((i = .int .i64 3 ∧ Blk wr w1.heap.size 97 (fcs (pw x (e / 2 ^ 256)))) ∨ (i = .int .i64 2 ∧ Blk wr w1.heap.size 97 (fcs (pw x (e / 2 ^ 192)))) ∨ (i = .int .i64 1 ∧ Blk wr w1.heap.size 97 (fcs (pw x (e / 2 ^ 128)))) ∨ (i = .int .i64 0 ∧ Blk wr w1.heap.size 97 (fcs (pw x (e / 2 ^ 64)))) ∨ (i = .int .i64 (-1) ∧ Blk wr w1.heap.size 97 (fcs (pw x (e / 2 ^ 0)))))) (fun i _ => (intOf i + 1).toNat)
 case atStart => exact ⟨hB2, KM, KX, KE, KR, Lib.hid (.inl ⟨rfl, Blk.eq_ hL2 (by rw [H0.out, pw_zero, H1.out])⟩)⟩
 case round =>
  obtain ⟨hb, BM, BX, BE, BR, HI⟩ := hrel
  rcases HI.out with ⟨rfl, BP⟩ | ⟨rfl, BP⟩ | ⟨rfl, BP⟩ | ⟨rfl, BP⟩ | ⟨rfl, BP⟩
  ·clear HI
   go_wp2_with fail
   go_loopw [9] (fun bt wr => ∃ t : Nat, t ≤ 64 ∧ bt = .int .u64 ((2 ^ t / 2 : Nat) : Int) ∧ Below w.heap.size w wr ∧ Blk wr w.heap.size 102 #[.int .u64 18446744069414583343, .int .u64 18446744073709551615, .int .u64 18446744073709551615, .int .u64 18446744073709551615, .int .u64 4294968273, .int .u64 0, .int .u64 0] ∧ Blk wr (w.heap.size + 1) 97 #[.int .u64 (x0 : Int), .int .u64 (x1 : Int), .int .u64 (x2 : Int), .int .u64 (x3 : Int)] ∧ Blk wr (w.heap.size + 2) 97 #[.int .u64 (e0 : Int), .int .u64 (e1 : Int), .int .u64 (e2 : Int), .int .u64 (e3 : Int)] ∧ Blk wr (w.heap.size + 3) 97 #[.int .u64 0, .int .u64 0, .int .u64 0, .int .u64 0] ∧ Blk wr w1.heap.size 97 (fcs (pw x (e / 2 ^ (64 * 3 + t))))) (fun bt _ => (intOf bt).toNat)
   case atStart => exact ⟨64, by omega, rfl, hb, BM, BX, BE, BR, BP⟩
   case round =>
    clear hb BM BX BE BR BP
    obtain ⟨t, ht, rfl, hb, BM, BX, BE, BR, BP⟩ := hrel
    by_cases h0 : t = 0
    ·subst h0
     go_wp2
     refine ⟨⟨hb, BM, BX, BE, BR, Lib.hid (.inr (.inl (⟨rfl, BP⟩)))⟩, by decide⟩
    ·obtain ⟨s, hs⟩ : ∃ s, t = s + 1 := ⟨t - 1, by omega⟩
     subst hs
     have hbt : 2 ^ (s + 1) / 2 = 2 ^ s := by rw [Nat.pow_succ]; omega
     rw [hbt]
     obtain ⟨bt, hbe⟩ : ∃ bt, bt = 2 ^ s := ⟨_, rfl⟩
     have hpos : 0 < bt := by rw [hbe]; exact Nat.two_pow_pos s
     have hblt : bt < 18446744073709551616 := by
      have h63 : 2 ^ s ≤ 2 ^ 63 := Nat.pow_le_pow_right (by omega) (by omega)
      rw [hbe]
      omega
     have hhalf : bt / 2 = 2 ^ s / 2 := by rw [hbe]
     obtain ⟨m, hm, hmz⟩ := and_bit e3 s HB.out.2.2.2 (by omega)
     rw [← hbe] at hm
     have hd := HN.out.2.2.2 s (by omega)
     obtain ⟨r, hr⟩ : ∃ r, r = pw x (e / 2 ^ (64 * 3 + (s + 1))) := ⟨_, rfl⟩
     obtain ⟨q, hq⟩ : ∃ q, q = mulP r r := ⟨_, rfl⟩
     obtain ⟨v, hv⟩ : ∃ v, v = mulP q x := ⟨_, rfl⟩
     have hq2 : q = pw x (2 * (e / 2 ^ (64 * 3 + (s + 1)))) := by rw [hq, hr, pw_sq]
     have lr : r < (2^256) := by rw [hr]; exact pw_lt _ _
     have lq : q < (2^256) := by rw [hq]; exact mulP_lt _ _
     have cS : ∀ w, Calls Tryz.prog 106 #[.agg #[.int .u64 18446744069414583343, .int .u64 18446744073709551615, .int .u64 18446744073709551615, .int .u64 18446744073709551615, .int .u64 4294968273, .int .u64 0, .int .u64 0], fv r, fv r] w fun e w' => e = .returned (fv q) ∧ Below w.heap.size w w' := by
      intro w; rw [hq]; exact mulR_any w r r lr lr
     have cX : ∀ w, Calls Tryz.prog 106 #[.agg #[.int .u64 18446744069414583343, .int .u64 18446744073709551615, .int .u64 18446744073709551615, .int .u64 18446744073709551615, .int .u64 4294968273, .int .u64 0, .int .u64 0], fv q, fv x] w fun e w' => e = .returned (fv v) ∧ Below w.heap.size w w' := by
      intro w; rw [hv]; exact mulR_any w q x lq HX.out
     have hend0 : m = 0 → q = pw x (e / 2 ^ (64 * 3 + s)) := fun h => by
      rw [hq2, hd, hmz.1 h]; rfl
     have hend1 : m ≠ 0 → v = pw x (e / 2 ^ (64 * 3 + s)) := fun h => by
      have hb1 : e3 / 2 ^ s % 2 = 1 := by have := mt hmz.2 h; omega
      rw [hv, hq2, pw_mul, hd, hb1]
     have HE := Lib.hid (And.intro hend0 (And.intro hend1 (And.intro hhalf hbe)))
     rw [← hr] at BP
     have hgt : (bt : Int) > 0 := by omega
     rw [← hbe]
     clear hr hq hv hq2 lr lq hend0 hend1 hhalf hbe hd hmz hbt
     go_wp2_with (first | ((with_reducible refine here_load (d := some 19) ?_); refine wpList_load_blk rfl _ _ rfl w.heap.size rfl _ _ _ (BM) Tryz.underlying102 rfl (by kernel_rfl) ?_) | ((with_reducible refine here_load (d := some 20) ?_); refine wpList_load_fv rfl _ _ rfl (w1.heap.size) rfl (r) _ _ _ (BP) (fv_fcs r) Tryz.underlying97 rfl (by kernel_rfl) ?_) | ((with_reducible refine here_load (d := some 21) ?_); refine wpList_load_fv rfl _ _ rfl (w1.heap.size) rfl (r) _ _ _ (BP) (fv_fcs r) Tryz.underlying97 rfl (by kernel_rfl) ?_))
     refine (cS _).mono ?_
     rintro ez u ⟨rfl, gu⟩
     have EM := Gr.blk gu BM
     have EX := Gr.blk gu BX
     have EE := Gr.blk gu BE
     have ER := Gr.blk gu BR
     have EP := Gr.blk gu BP
     have hbu := Below.gr hb gu
     clear gu cS BM BX BE BR BP hb
     have lu := EP.lt
     by_cases hm0 : m = 0
     ·have hq0 := Lib.hid (HE.out.1 hm0)
      subst hm0
      clear cX
      go_wp2_with (first | ((with_reducible refine here_store ?_); refine wpList_store_blk rfl _ _ _ rfl (w1.heap.size) (fcs (q)) rfl rfl _ _ (EP) (by kernel_rfl) (by rfl) (fcs_one _) ?_; intro uz hLz hqz hKz; have FM := hKz _ (by omega) _ _ EM; have FXx := hKz _ (by omega) _ _ EX; have FE_ := hKz _ (by omega) _ _ EE; have FR := hKz _ (by omega) _ _ ER; have hbz := hbu.trans (hqz _ (by omega)); have pc : uz.cell? ⟨w.heap.size + 2, 3, none⟩ = some (.int .u64 (e3 : Int)) := FE_.cell 3))
      go_roundw
      case rel => exact ⟨s, by omega, by rw [← HE.out.2.2.1]; congr 1 <;> omega, hbz, FM, FXx, FE_, FR, Blk.eq_ hLz (by rw [hq0.out])⟩
      case measure => simp [intOf]; omega
     ·have hq1 := Lib.hid (HE.out.2.1 hm0)
      have hmi : ¬ (m : Int) = 0 := by omega
      go_wp2_with (first | ((with_reducible refine here_store ?_); refine wpList_store_blk rfl _ _ _ rfl (w1.heap.size) (fcs (q)) rfl rfl _ _ (EP) (by kernel_rfl) (by rfl) (fcs_one _) ?_; intro uz hLz hqz hKz; have FM := hKz _ (by omega) _ _ EM; have FXx := hKz _ (by omega) _ _ EX; have FE_ := hKz _ (by omega) _ _ EE; have FR := hKz _ (by omega) _ _ ER; have hbz := hbu.trans (hqz _ (by omega)); have pc : uz.cell? ⟨w.heap.size + 2, 3, none⟩ = some (.int .u64 (e3 : Int)) := FE_.cell 3) | ((with_reducible refine here_load (d := some 29) ?_); refine wpList_load_blk rfl _ _ rfl w.heap.size rfl _ _ _ (FM) Tryz.underlying102 rfl (by kernel_rfl) ?_) | ((with_reducible refine here_load (d := some 30) ?_); refine wpList_load_fv rfl _ _ rfl (w1.heap.size) rfl (q) _ _ _ (hLz) (fv_fcs q) Tryz.underlying97 rfl (by kernel_rfl) ?_) | ((with_reducible refine here_load (d := some 31) ?_); refine wpList_load_fv rfl _ _ rfl (w.heap.size + 1) rfl (x) _ _ _ (FXx) (FX.out) Tryz.underlying97 rfl (by kernel_rfl) ?_))
      refine (cX _).mono ?_
      rintro ez u2 ⟨rfl, gu⟩
      have GM := Gr.blk gu FM
      have GX := Gr.blk gu FXx
      have GE := Gr.blk gu FE_
      have GR := Gr.blk gu FR
      have GP := Gr.blk gu hLz
      have hbg := Below.gr hbz gu
      clear gu cX FM FXx FE_ FR hbz
      go_wp2_with (first | ((with_reducible refine here_store ?_); refine wpList_store_blk rfl _ _ _ rfl (w1.heap.size) (fcs (v)) rfl rfl _ _ (GP) (by kernel_rfl) (by rfl) (fcs_one _) ?_; intro uy hLy hqy hKy; have JM := hKy _ (by omega) _ _ GM; have JX := hKy _ (by omega) _ _ GX; have JE := hKy _ (by omega) _ _ GE; have JR := hKy _ (by omega) _ _ GR; have hby := hbg.trans (hqy _ (by omega))))
      go_roundw
      case rel => exact ⟨s, by omega, by rw [← HE.out.2.2.1]; congr 1 <;> omega, hby, JM, JX, JE, JR, Blk.eq_ hLy (by rw [hq1.out])⟩
      case measure => simp [intOf]; omega
  ·clear HI
   go_wp2_with fail
   go_loopw [9] (fun bt wr => ∃ t : Nat, t ≤ 64 ∧ bt = .int .u64 ((2 ^ t / 2 : Nat) : Int) ∧ Below w.heap.size w wr ∧ Blk wr w.heap.size 102 #[.int .u64 18446744069414583343, .int .u64 18446744073709551615, .int .u64 18446744073709551615, .int .u64 18446744073709551615, .int .u64 4294968273, .int .u64 0, .int .u64 0] ∧ Blk wr (w.heap.size + 1) 97 #[.int .u64 (x0 : Int), .int .u64 (x1 : Int), .int .u64 (x2 : Int), .int .u64 (x3 : Int)] ∧ Blk wr (w.heap.size + 2) 97 #[.int .u64 (e0 : Int), .int .u64 (e1 : Int), .int .u64 (e2 : Int), .int .u64 (e3 : Int)] ∧ Blk wr (w.heap.size + 3) 97 #[.int .u64 0, .int .u64 0, .int .u64 0, .int .u64 0] ∧ Blk wr w1.heap.size 97 (fcs (pw x (e / 2 ^ (64 * 2 + t))))) (fun bt _ => (intOf bt).toNat)
   case atStart => exact ⟨64, by omega, rfl, hb, BM, BX, BE, BR, BP⟩
   case round =>
    clear hb BM BX BE BR BP
    obtain ⟨t, ht, rfl, hb, BM, BX, BE, BR, BP⟩ := hrel
    by_cases h0 : t = 0
    ·subst h0
     go_wp2
     refine ⟨⟨hb, BM, BX, BE, BR, Lib.hid (.inr (.inr (.inl (⟨rfl, BP⟩))))⟩, by decide⟩
    ·obtain ⟨s, hs⟩ : ∃ s, t = s + 1 := ⟨t - 1, by omega⟩
     subst hs
     have hbt : 2 ^ (s + 1) / 2 = 2 ^ s := by rw [Nat.pow_succ]; omega
     rw [hbt]
     obtain ⟨bt, hbe⟩ : ∃ bt, bt = 2 ^ s := ⟨_, rfl⟩
     have hpos : 0 < bt := by rw [hbe]; exact Nat.two_pow_pos s
     have hblt : bt < 18446744073709551616 := by
      have h63 : 2 ^ s ≤ 2 ^ 63 := Nat.pow_le_pow_right (by omega) (by omega)
      rw [hbe]
      omega
     have hhalf : bt / 2 = 2 ^ s / 2 := by rw [hbe]
     obtain ⟨m, hm, hmz⟩ := and_bit e2 s HB.out.2.2.1 (by omega)
     rw [← hbe] at hm
     have hd := HN.out.2.2.1 s (by omega)
     obtain ⟨r, hr⟩ : ∃ r, r = pw x (e / 2 ^ (64 * 2 + (s + 1))) := ⟨_, rfl⟩
     obtain ⟨q, hq⟩ : ∃ q, q = mulP r r := ⟨_, rfl⟩
     obtain ⟨v, hv⟩ : ∃ v, v = mulP q x := ⟨_, rfl⟩
     have hq2 : q = pw x (2 * (e / 2 ^ (64 * 2 + (s + 1)))) := by rw [hq, hr, pw_sq]
     have lr : r < (2^256) := by rw [hr]; exact pw_lt _ _
     have lq : q < (2^256) := by rw [hq]; exact mulP_lt _ _
     have cS : ∀ w, Calls Tryz.prog 106 #[.agg #[.int .u64 18446744069414583343, .int .u64 18446744073709551615, .int .u64 18446744073709551615, .int .u64 18446744073709551615, .int .u64 4294968273, .int .u64 0, .int .u64 0], fv r, fv r] w fun e w' => e = .returned (fv q) ∧ Below w.heap.size w w' := by
      intro w; rw [hq]; exact mulR_any w r r lr lr
     have cX : ∀ w, Calls Tryz.prog 106 #[.agg #[.int .u64 18446744069414583343, .int .u64 18446744073709551615, .int .u64 18446744073709551615, .int .u64 18446744073709551615, .int .u64 4294968273, .int .u64 0, .int .u64 0], fv q, fv x] w fun e w' => e = .returned (fv v) ∧ Below w.heap.size w w' := by
      intro w; rw [hv]; exact mulR_any w q x lq HX.out
     have hend0 : m = 0 → q = pw x (e / 2 ^ (64 * 2 + s)) := fun h => by
      rw [hq2, hd, hmz.1 h]; rfl
     have hend1 : m ≠ 0 → v = pw x (e / 2 ^ (64 * 2 + s)) := fun h => by
      have hb1 : e2 / 2 ^ s % 2 = 1 := by have := mt hmz.2 h; omega
      rw [hv, hq2, pw_mul, hd, hb1]
     have HE := Lib.hid (And.intro hend0 (And.intro hend1 (And.intro hhalf hbe)))
     rw [← hr] at BP
     have hgt : (bt : Int) > 0 := by omega
     rw [← hbe]
     clear hr hq hv hq2 lr lq hend0 hend1 hhalf hbe hd hmz hbt
     go_wp2_with (first | ((with_reducible refine here_load (d := some 19) ?_); refine wpList_load_blk rfl _ _ rfl w.heap.size rfl _ _ _ (BM) Tryz.underlying102 rfl (by kernel_rfl) ?_) | ((with_reducible refine here_load (d := some 20) ?_); refine wpList_load_fv rfl _ _ rfl (w1.heap.size) rfl (r) _ _ _ (BP) (fv_fcs r) Tryz.underlying97 rfl (by kernel_rfl) ?_) | ((with_reducible refine here_load (d := some 21) ?_); refine wpList_load_fv rfl _ _ rfl (w1.heap.size) rfl (r) _ _ _ (BP) (fv_fcs r) Tryz.underlying97 rfl (by kernel_rfl) ?_))
     refine (cS _).mono ?_
     rintro ez u ⟨rfl, gu⟩
     have EM := Gr.blk gu BM
     have EX := Gr.blk gu BX
     have EE := Gr.blk gu BE
     have ER := Gr.blk gu BR
     have EP := Gr.blk gu BP
     have hbu := Below.gr hb gu
     clear gu cS BM BX BE BR BP hb
     have lu := EP.lt
     by_cases hm0 : m = 0
     ·have hq0 := Lib.hid (HE.out.1 hm0)
      subst hm0
      clear cX
      go_wp2_with (first | ((with_reducible refine here_store ?_); refine wpList_store_blk rfl _ _ _ rfl (w1.heap.size) (fcs (q)) rfl rfl _ _ (EP) (by kernel_rfl) (by rfl) (fcs_one _) ?_; intro uz hLz hqz hKz; have FM := hKz _ (by omega) _ _ EM; have FXx := hKz _ (by omega) _ _ EX; have FE_ := hKz _ (by omega) _ _ EE; have FR := hKz _ (by omega) _ _ ER; have hbz := hbu.trans (hqz _ (by omega)); have pc : uz.cell? ⟨w.heap.size + 2, 2, none⟩ = some (.int .u64 (e2 : Int)) := FE_.cell 2))
      go_roundw
      case rel => exact ⟨s, by omega, by rw [← HE.out.2.2.1]; congr 1 <;> omega, hbz, FM, FXx, FE_, FR, Blk.eq_ hLz (by rw [hq0.out])⟩
      case measure => simp [intOf]; omega
     ·have hq1 := Lib.hid (HE.out.2.1 hm0)
      have hmi : ¬ (m : Int) = 0 := by omega
      go_wp2_with (first | ((with_reducible refine here_store ?_); refine wpList_store_blk rfl _ _ _ rfl (w1.heap.size) (fcs (q)) rfl rfl _ _ (EP) (by kernel_rfl) (by rfl) (fcs_one _) ?_; intro uz hLz hqz hKz; have FM := hKz _ (by omega) _ _ EM; have FXx := hKz _ (by omega) _ _ EX; have FE_ := hKz _ (by omega) _ _ EE; have FR := hKz _ (by omega) _ _ ER; have hbz := hbu.trans (hqz _ (by omega)); have pc : uz.cell? ⟨w.heap.size + 2, 2, none⟩ = some (.int .u64 (e2 : Int)) := FE_.cell 2) | ((with_reducible refine here_load (d := some 29) ?_); refine wpList_load_blk rfl _ _ rfl w.heap.size rfl _ _ _ (FM) Tryz.underlying102 rfl (by kernel_rfl) ?_) | ((with_reducible refine here_load (d := some 30) ?_); refine wpList_load_fv rfl _ _ rfl (w1.heap.size) rfl (q) _ _ _ (hLz) (fv_fcs q) Tryz.underlying97 rfl (by kernel_rfl) ?_) | ((with_reducible refine here_load (d := some 31) ?_); refine wpList_load_fv rfl _ _ rfl (w.heap.size + 1) rfl (x) _ _ _ (FXx) (FX.out) Tryz.underlying97 rfl (by kernel_rfl) ?_))
      refine (cX _).mono ?_
      rintro ez u2 ⟨rfl, gu⟩
      have GM := Gr.blk gu FM
      have GX := Gr.blk gu FXx
      have GE := Gr.blk gu FE_
      have GR := Gr.blk gu FR
      have GP := Gr.blk gu hLz
      have hbg := Below.gr hbz gu
      clear gu cX FM FXx FE_ FR hbz
      go_wp2_with (first | ((with_reducible refine here_store ?_); refine wpList_store_blk rfl _ _ _ rfl (w1.heap.size) (fcs (v)) rfl rfl _ _ (GP) (by kernel_rfl) (by rfl) (fcs_one _) ?_; intro uy hLy hqy hKy; have JM := hKy _ (by omega) _ _ GM; have JX := hKy _ (by omega) _ _ GX; have JE := hKy _ (by omega) _ _ GE; have JR := hKy _ (by omega) _ _ GR; have hby := hbg.trans (hqy _ (by omega))))
      go_roundw
      case rel => exact ⟨s, by omega, by rw [← HE.out.2.2.1]; congr 1 <;> omega, hby, JM, JX, JE, JR, Blk.eq_ hLy (by rw [hq1.out])⟩
      case measure => simp [intOf]; omega
  ·clear HI
   go_wp2_with fail
   go_loopw [9] (fun bt wr => ∃ t : Nat, t ≤ 64 ∧ bt = .int .u64 ((2 ^ t / 2 : Nat) : Int) ∧ Below w.heap.size w wr ∧ Blk wr w.heap.size 102 #[.int .u64 18446744069414583343, .int .u64 18446744073709551615, .int .u64 18446744073709551615, .int .u64 18446744073709551615, .int .u64 4294968273, .int .u64 0, .int .u64 0] ∧ Blk wr (w.heap.size + 1) 97 #[.int .u64 (x0 : Int), .int .u64 (x1 : Int), .int .u64 (x2 : Int), .int .u64 (x3 : Int)] ∧ Blk wr (w.heap.size + 2) 97 #[.int .u64 (e0 : Int), .int .u64 (e1 : Int), .int .u64 (e2 : Int), .int .u64 (e3 : Int)] ∧ Blk wr (w.heap.size + 3) 97 #[.int .u64 0, .int .u64 0, .int .u64 0, .int .u64 0] ∧ Blk wr w1.heap.size 97 (fcs (pw x (e / 2 ^ (64 * 1 + t))))) (fun bt _ => (intOf bt).toNat)
   case atStart => exact ⟨64, by omega, rfl, hb, BM, BX, BE, BR, BP⟩
   case round =>
    clear hb BM BX BE BR BP
    obtain ⟨t, ht, rfl, hb, BM, BX, BE, BR, BP⟩ := hrel
    by_cases h0 : t = 0
    ·subst h0
     go_wp2
     refine ⟨⟨hb, BM, BX, BE, BR, Lib.hid (.inr (.inr (.inr (.inl (⟨rfl, BP⟩)))))⟩, by decide⟩
    ·obtain ⟨s, hs⟩ : ∃ s, t = s + 1 := ⟨t - 1, by omega⟩
     subst hs
     have hbt : 2 ^ (s + 1) / 2 = 2 ^ s := by rw [Nat.pow_succ]; omega
     rw [hbt]
     obtain ⟨bt, hbe⟩ : ∃ bt, bt = 2 ^ s := ⟨_, rfl⟩
     have hpos : 0 < bt := by rw [hbe]; exact Nat.two_pow_pos s
     have hblt : bt < 18446744073709551616 := by
      have h63 : 2 ^ s ≤ 2 ^ 63 := Nat.pow_le_pow_right (by omega) (by omega)
      rw [hbe]
      omega
     have hhalf : bt / 2 = 2 ^ s / 2 := by rw [hbe]
     obtain ⟨m, hm, hmz⟩ := and_bit e1 s HB.out.2.1 (by omega)
     rw [← hbe] at hm
     have hd := HN.out.2.1 s (by omega)
     obtain ⟨r, hr⟩ : ∃ r, r = pw x (e / 2 ^ (64 * 1 + (s + 1))) := ⟨_, rfl⟩
     obtain ⟨q, hq⟩ : ∃ q, q = mulP r r := ⟨_, rfl⟩
     obtain ⟨v, hv⟩ : ∃ v, v = mulP q x := ⟨_, rfl⟩
     have hq2 : q = pw x (2 * (e / 2 ^ (64 * 1 + (s + 1)))) := by rw [hq, hr, pw_sq]
     have lr : r < (2^256) := by rw [hr]; exact pw_lt _ _
     have lq : q < (2^256) := by rw [hq]; exact mulP_lt _ _
     have cS : ∀ w, Calls Tryz.prog 106 #[.agg #[.int .u64 18446744069414583343, .int .u64 18446744073709551615, .int .u64 18446744073709551615, .int .u64 18446744073709551615, .int .u64 4294968273, .int .u64 0, .int .u64 0], fv r, fv r] w fun e w' => e = .returned (fv q) ∧ Below w.heap.size w w' := by
      intro w; rw [hq]; exact mulR_any w r r lr lr
     have cX : ∀ w, Calls Tryz.prog 106 #[.agg #[.int .u64 18446744069414583343, .int .u64 18446744073709551615, .int .u64 18446744073709551615, .int .u64 18446744073709551615, .int .u64 4294968273, .int .u64 0, .int .u64 0], fv q, fv x] w fun e w' => e = .returned (fv v) ∧ Below w.heap.size w w' := by
      intro w; rw [hv]; exact mulR_any w q x lq HX.out
     have hend0 : m = 0 → q = pw x (e / 2 ^ (64 * 1 + s)) := fun h => by
      rw [hq2, hd, hmz.1 h]; rfl
     have hend1 : m ≠ 0 → v = pw x (e / 2 ^ (64 * 1 + s)) := fun h => by
      have hb1 : e1 / 2 ^ s % 2 = 1 := by have := mt hmz.2 h; omega
      rw [hv, hq2, pw_mul, hd, hb1]
     have HE := Lib.hid (And.intro hend0 (And.intro hend1 (And.intro hhalf hbe)))
     rw [← hr] at BP
     have hgt : (bt : Int) > 0 := by omega
     rw [← hbe]
     clear hr hq hv hq2 lr lq hend0 hend1 hhalf hbe hd hmz hbt
     go_wp2_with (first | ((with_reducible refine here_load (d := some 19) ?_); refine wpList_load_blk rfl _ _ rfl w.heap.size rfl _ _ _ (BM) Tryz.underlying102 rfl (by kernel_rfl) ?_) | ((with_reducible refine here_load (d := some 20) ?_); refine wpList_load_fv rfl _ _ rfl (w1.heap.size) rfl (r) _ _ _ (BP) (fv_fcs r) Tryz.underlying97 rfl (by kernel_rfl) ?_) | ((with_reducible refine here_load (d := some 21) ?_); refine wpList_load_fv rfl _ _ rfl (w1.heap.size) rfl (r) _ _ _ (BP) (fv_fcs r) Tryz.underlying97 rfl (by kernel_rfl) ?_))
     refine (cS _).mono ?_
     rintro ez u ⟨rfl, gu⟩
     have EM := Gr.blk gu BM
     have EX := Gr.blk gu BX
     have EE := Gr.blk gu BE
     have ER := Gr.blk gu BR
     have EP := Gr.blk gu BP
     have hbu := Below.gr hb gu
     clear gu cS BM BX BE BR BP hb
     have lu := EP.lt
     by_cases hm0 : m = 0
     ·have hq0 := Lib.hid (HE.out.1 hm0)
      subst hm0
      clear cX
      go_wp2_with (first | ((with_reducible refine here_store ?_); refine wpList_store_blk rfl _ _ _ rfl (w1.heap.size) (fcs (q)) rfl rfl _ _ (EP) (by kernel_rfl) (by rfl) (fcs_one _) ?_; intro uz hLz hqz hKz; have FM := hKz _ (by omega) _ _ EM; have FXx := hKz _ (by omega) _ _ EX; have FE_ := hKz _ (by omega) _ _ EE; have FR := hKz _ (by omega) _ _ ER; have hbz := hbu.trans (hqz _ (by omega)); have pc : uz.cell? ⟨w.heap.size + 2, 1, none⟩ = some (.int .u64 (e1 : Int)) := FE_.cell 1))
      go_roundw
      case rel => exact ⟨s, by omega, by rw [← HE.out.2.2.1]; congr 1 <;> omega, hbz, FM, FXx, FE_, FR, Blk.eq_ hLz (by rw [hq0.out])⟩
      case measure => simp [intOf]; omega
     ·have hq1 := Lib.hid (HE.out.2.1 hm0)
      have hmi : ¬ (m : Int) = 0 := by omega
      go_wp2_with (first | ((with_reducible refine here_store ?_); refine wpList_store_blk rfl _ _ _ rfl (w1.heap.size) (fcs (q)) rfl rfl _ _ (EP) (by kernel_rfl) (by rfl) (fcs_one _) ?_; intro uz hLz hqz hKz; have FM := hKz _ (by omega) _ _ EM; have FXx := hKz _ (by omega) _ _ EX; have FE_ := hKz _ (by omega) _ _ EE; have FR := hKz _ (by omega) _ _ ER; have hbz := hbu.trans (hqz _ (by omega)); have pc : uz.cell? ⟨w.heap.size + 2, 1, none⟩ = some (.int .u64 (e1 : Int)) := FE_.cell 1) | ((with_reducible refine here_load (d := some 29) ?_); refine wpList_load_blk rfl _ _ rfl w.heap.size rfl _ _ _ (FM) Tryz.underlying102 rfl (by kernel_rfl) ?_) | ((with_reducible refine here_load (d := some 30) ?_); refine wpList_load_fv rfl _ _ rfl (w1.heap.size) rfl (q) _ _ _ (hLz) (fv_fcs q) Tryz.underlying97 rfl (by kernel_rfl) ?_) | ((with_reducible refine here_load (d := some 31) ?_); refine wpList_load_fv rfl _ _ rfl (w.heap.size + 1) rfl (x) _ _ _ (FXx) (FX.out) Tryz.underlying97 rfl (by kernel_rfl) ?_))
      refine (cX _).mono ?_
      rintro ez u2 ⟨rfl, gu⟩
      have GM := Gr.blk gu FM
      have GX := Gr.blk gu FXx
      have GE := Gr.blk gu FE_
      have GR := Gr.blk gu FR
      have GP := Gr.blk gu hLz
      have hbg := Below.gr hbz gu
      clear gu cX FM FXx FE_ FR hbz
      go_wp2_with (first | ((with_reducible refine here_store ?_); refine wpList_store_blk rfl _ _ _ rfl (w1.heap.size) (fcs (v)) rfl rfl _ _ (GP) (by kernel_rfl) (by rfl) (fcs_one _) ?_; intro uy hLy hqy hKy; have JM := hKy _ (by omega) _ _ GM; have JX := hKy _ (by omega) _ _ GX; have JE := hKy _ (by omega) _ _ GE; have JR := hKy _ (by omega) _ _ GR; have hby := hbg.trans (hqy _ (by omega))))
      go_roundw
      case rel => exact ⟨s, by omega, by rw [← HE.out.2.2.1]; congr 1 <;> omega, hby, JM, JX, JE, JR, Blk.eq_ hLy (by rw [hq1.out])⟩
      case measure => simp [intOf]; omega
  ·clear HI
   go_wp2_with fail
   go_loopw [9] (fun bt wr => ∃ t : Nat, t ≤ 64 ∧ bt = .int .u64 ((2 ^ t / 2 : Nat) : Int) ∧ Below w.heap.size w wr ∧ Blk wr w.heap.size 102 #[.int .u64 18446744069414583343, .int .u64 18446744073709551615, .int .u64 18446744073709551615, .int .u64 18446744073709551615, .int .u64 4294968273, .int .u64 0, .int .u64 0] ∧ Blk wr (w.heap.size + 1) 97 #[.int .u64 (x0 : Int), .int .u64 (x1 : Int), .int .u64 (x2 : Int), .int .u64 (x3 : Int)] ∧ Blk wr (w.heap.size + 2) 97 #[.int .u64 (e0 : Int), .int .u64 (e1 : Int), .int .u64 (e2 : Int), .int .u64 (e3 : Int)] ∧ Blk wr (w.heap.size + 3) 97 #[.int .u64 0, .int .u64 0, .int .u64 0, .int .u64 0] ∧ Blk wr w1.heap.size 97 (fcs (pw x (e / 2 ^ (64 * 0 + t))))) (fun bt _ => (intOf bt).toNat)
   case atStart => exact ⟨64, by omega, rfl, hb, BM, BX, BE, BR, BP⟩
   case round =>
    clear hb BM BX BE BR BP
    obtain ⟨t, ht, rfl, hb, BM, BX, BE, BR, BP⟩ := hrel
    by_cases h0 : t = 0
    ·subst h0
     go_wp2
     refine ⟨⟨hb, BM, BX, BE, BR, Lib.hid (.inr (.inr (.inr (.inr (⟨rfl, BP⟩)))))⟩, by decide⟩
    ·obtain ⟨s, hs⟩ : ∃ s, t = s + 1 := ⟨t - 1, by omega⟩
     subst hs
     have hbt : 2 ^ (s + 1) / 2 = 2 ^ s := by rw [Nat.pow_succ]; omega
     rw [hbt]
     obtain ⟨bt, hbe⟩ : ∃ bt, bt = 2 ^ s := ⟨_, rfl⟩
     have hpos : 0 < bt := by rw [hbe]; exact Nat.two_pow_pos s
     have hblt : bt < 18446744073709551616 := by
      have h63 : 2 ^ s ≤ 2 ^ 63 := Nat.pow_le_pow_right (by omega) (by omega)
      rw [hbe]
      omega
     have hhalf : bt / 2 = 2 ^ s / 2 := by rw [hbe]
     obtain ⟨m, hm, hmz⟩ := and_bit e0 s HB.out.1 (by omega)
     rw [← hbe] at hm
     have hd := HN.out.1 s (by omega)
     obtain ⟨r, hr⟩ : ∃ r, r = pw x (e / 2 ^ (64 * 0 + (s + 1))) := ⟨_, rfl⟩
     obtain ⟨q, hq⟩ : ∃ q, q = mulP r r := ⟨_, rfl⟩
     obtain ⟨v, hv⟩ : ∃ v, v = mulP q x := ⟨_, rfl⟩
     have hq2 : q = pw x (2 * (e / 2 ^ (64 * 0 + (s + 1)))) := by rw [hq, hr, pw_sq]
     have lr : r < (2^256) := by rw [hr]; exact pw_lt _ _
     have lq : q < (2^256) := by rw [hq]; exact mulP_lt _ _
     have cS : ∀ w, Calls Tryz.prog 106 #[.agg #[.int .u64 18446744069414583343, .int .u64 18446744073709551615, .int .u64 18446744073709551615, .int .u64 18446744073709551615, .int .u64 4294968273, .int .u64 0, .int .u64 0], fv r, fv r] w fun e w' => e = .returned (fv q) ∧ Below w.heap.size w w' := by
      intro w; rw [hq]; exact mulR_any w r r lr lr
     have cX : ∀ w, Calls Tryz.prog 106 #[.agg #[.int .u64 18446744069414583343, .int .u64 18446744073709551615, .int .u64 18446744073709551615, .int .u64 18446744073709551615, .int .u64 4294968273, .int .u64 0, .int .u64 0], fv q, fv x] w fun e w' => e = .returned (fv v) ∧ Below w.heap.size w w' := by
      intro w; rw [hv]; exact mulR_any w q x lq HX.out
     have hend0 : m = 0 → q = pw x (e / 2 ^ (64 * 0 + s)) := fun h => by
      rw [hq2, hd, hmz.1 h]; rfl
     have hend1 : m ≠ 0 → v = pw x (e / 2 ^ (64 * 0 + s)) := fun h => by
      have hb1 : e0 / 2 ^ s % 2 = 1 := by have := mt hmz.2 h; omega
      rw [hv, hq2, pw_mul, hd, hb1]
     have HE := Lib.hid (And.intro hend0 (And.intro hend1 (And.intro hhalf hbe)))
     rw [← hr] at BP
     have hgt : (bt : Int) > 0 := by omega
     rw [← hbe]
     clear hr hq hv hq2 lr lq hend0 hend1 hhalf hbe hd hmz hbt
     go_wp2_with (first | ((with_reducible refine here_load (d := some 19) ?_); refine wpList_load_blk rfl _ _ rfl w.heap.size rfl _ _ _ (BM) Tryz.underlying102 rfl (by kernel_rfl) ?_) | ((with_reducible refine here_load (d := some 20) ?_); refine wpList_load_fv rfl _ _ rfl (w1.heap.size) rfl (r) _ _ _ (BP) (fv_fcs r) Tryz.underlying97 rfl (by kernel_rfl) ?_) | ((with_reducible refine here_load (d := some 21) ?_); refine wpList_load_fv rfl _ _ rfl (w1.heap.size) rfl (r) _ _ _ (BP) (fv_fcs r) Tryz.underlying97 rfl (by kernel_rfl) ?_))
     refine (cS _).mono ?_
     rintro ez u ⟨rfl, gu⟩
     have EM := Gr.blk gu BM
     have EX := Gr.blk gu BX
     have EE := Gr.blk gu BE
     have ER := Gr.blk gu BR
     have EP := Gr.blk gu BP
     have hbu := Below.gr hb gu
     clear gu cS BM BX BE BR BP hb
     have lu := EP.lt
     by_cases hm0 : m = 0
     ·have hq0 := Lib.hid (HE.out.1 hm0)
      subst hm0
      clear cX
      go_wp2_with (first | ((with_reducible refine here_store ?_); refine wpList_store_blk rfl _ _ _ rfl (w1.heap.size) (fcs (q)) rfl rfl _ _ (EP) (by kernel_rfl) (by rfl) (fcs_one _) ?_; intro uz hLz hqz hKz; have FM := hKz _ (by omega) _ _ EM; have FXx := hKz _ (by omega) _ _ EX; have FE_ := hKz _ (by omega) _ _ EE; have FR := hKz _ (by omega) _ _ ER; have hbz := hbu.trans (hqz _ (by omega)); have pc : uz.cell? ⟨w.heap.size + 2, 0, none⟩ = some (.int .u64 (e0 : Int)) := FE_.cell 0))
      go_roundw
      case rel => exact ⟨s, by omega, by rw [← HE.out.2.2.1]; congr 1 <;> omega, hbz, FM, FXx, FE_, FR, Blk.eq_ hLz (by rw [hq0.out])⟩
      case measure => simp [intOf]; omega
     ·have hq1 := Lib.hid (HE.out.2.1 hm0)
      have hmi : ¬ (m : Int) = 0 := by omega
      go_wp2_with (first | ((with_reducible refine here_store ?_); refine wpList_store_blk rfl _ _ _ rfl (w1.heap.size) (fcs (q)) rfl rfl _ _ (EP) (by kernel_rfl) (by rfl) (fcs_one _) ?_; intro uz hLz hqz hKz; have FM := hKz _ (by omega) _ _ EM; have FXx := hKz _ (by omega) _ _ EX; have FE_ := hKz _ (by omega) _ _ EE; have FR := hKz _ (by omega) _ _ ER; have hbz := hbu.trans (hqz _ (by omega)); have pc : uz.cell? ⟨w.heap.size + 2, 0, none⟩ = some (.int .u64 (e0 : Int)) := FE_.cell 0) | ((with_reducible refine here_load (d := some 29) ?_); refine wpList_load_blk rfl _ _ rfl w.heap.size rfl _ _ _ (FM) Tryz.underlying102 rfl (by kernel_rfl) ?_) | ((with_reducible refine here_load (d := some 30) ?_); refine wpList_load_fv rfl _ _ rfl (w1.heap.size) rfl (q) _ _ _ (hLz) (fv_fcs q) Tryz.underlying97 rfl (by kernel_rfl) ?_) | ((with_reducible refine here_load (d := some 31) ?_); refine wpList_load_fv rfl _ _ rfl (w.heap.size + 1) rfl (x) _ _ _ (FXx) (FX.out) Tryz.underlying97 rfl (by kernel_rfl) ?_))
      refine (cX _).mono ?_
      rintro ez u2 ⟨rfl, gu⟩
      have GM := Gr.blk gu FM
      have GX := Gr.blk gu FXx
      have GE := Gr.blk gu FE_
      have GR := Gr.blk gu FR
      have GP := Gr.blk gu hLz
      have hbg := Below.gr hbz gu
      clear gu cX FM FXx FE_ FR hbz
      go_wp2_with (first | ((with_reducible refine here_store ?_); refine wpList_store_blk rfl _ _ _ rfl (w1.heap.size) (fcs (v)) rfl rfl _ _ (GP) (by kernel_rfl) (by rfl) (fcs_one _) ?_; intro uy hLy hqy hKy; have JM := hKy _ (by omega) _ _ GM; have JX := hKy _ (by omega) _ _ GX; have JE := hKy _ (by omega) _ _ GE; have JR := hKy _ (by omega) _ _ GR; have hby := hbg.trans (hqy _ (by omega))))
      go_roundw
      case rel => exact ⟨s, by omega, by rw [← HE.out.2.2.1]; congr 1 <;> omega, hby, JM, JX, JE, JR, Blk.eq_ hLy (by rw [hq1.out])⟩
      case measure => simp [intOf]; omega
  ·clear HI
   have BP0 : Blk wr w1.heap.size 97 (fcs (pw x e)) := by
    have h := BP
    rw [Nat.pow_zero, Nat.div_one] at h
    exact h
   obtain ⟨z, hz⟩ : ∃ z, z = pw x e := ⟨_, rfl⟩
   rw [← hz] at BP0
   have HZ := Lib.hid hz
   clear hz BP
   go_wp2_with (first | ((with_reducible refine here_load (d := some 33) ?_); refine wpList_load_fv rfl _ _ rfl (w1.heap.size) rfl (z) _ _ _ (BP0) (fv_fcs z) Tryz.underlying97 rfl (by kernel_rfl) ?_) | ((with_reducible refine here_store ?_); refine wpList_store_blk rfl _ _ _ rfl (w.heap.size + 3) (fcs (z)) rfl rfl _ _ (BR) (by kernel_rfl) (by rfl) (fcs_one _) ?_; intro vz hLz hqz hKz))
   exact bodyPost_ret (results_cell_row rfl _ _ (w.heap.size + 3) _ _ (0, 0) _ rfl hLz Tryz.underlying97 rfl (by kernel_rfl)) rfl ⟨by rw [← HZ.out]; rfl, hb.trans (hqz _ (by omega))⟩

set_option maxHeartbeats 2000000 in
set_option maxRecDepth 100000 in
theorem invRef_any (w : World) (x : Nat) (hx : x < (2^256)) : Calls Tryz.prog 81 #[.agg #[.int .u64 18446744069414583343, .int .u64 18446744073709551615, .int .u64 18446744073709551615, .int .u64 18446744073709551615, .int .u64 4294968273, .int .u64 0, .int .u64 0], fv x] w fun e w' => e = .returned (fv (pw x (115792089237316195423570985008687907853269984665640564039457584007908834671663 - 2))) ∧ Below w.heap.size w w' := by
 obtain ⟨p, hp⟩ : ∃ p, p = 115792089237316195423570985008687907853269984665640564039457584007908834671663 := ⟨_, rfl⟩
 obtain ⟨n2, h2⟩ : ∃ n, n = 2 := ⟨_, rfl⟩
 obtain ⟨q, hq⟩ : ∃ q, q = 115792089237316195423570985008687907853269984665640564039457584007908834671663 - 2 := ⟨_, rfl⟩
 obtain ⟨z, hz⟩ : ∃ z, z = pw x q := ⟨_, rfl⟩
 rw [← hq, ← hz]
 have cS : ∀ w, Calls Tryz.prog 132 #[.int .u64 2] w fun e w' => e = .returned (fv n2) ∧ Below w.heap.size w w' := fun w => small_at w n2 2 (by rw [h2]; rfl) (by omega)
 have cM : ∀ w, Calls Tryz.prog 131 #[fv p, fv n2] w fun e w' => e = .returned (fv q) ∧ Below w.heap.size w w' := fun w => minusR_at w p n2 q 0 rfl rfl (by omega) (by omega) (by omega) (by omega)
 have cP : ∀ w, Calls Tryz.prog 133 #[.agg #[.int .u64 18446744069414583343, .int .u64 18446744073709551615, .int .u64 18446744073709551615, .int .u64 18446744073709551615, .int .u64 4294968273, .int .u64 0, .int .u64 0], fv x, fv q] w fun e w' => e = .returned (fv z) ∧ Below w.heap.size w w' := by
  intro w; rw [hz]; exact power_any w x q hx (by omega)
 have FP : Hid (fv p = .agg #[.int .u64 18446744069414583343, .int .u64 18446744073709551615, .int .u64 18446744073709551615, .int .u64 18446744073709551615]) := Lib.hid (by rw [hp]; exact fv_P)
 obtain ⟨x0, x1, x2, x3, fx⟩ := words_fv x hx
 have FX := Lib.hid fx
 rw [fx]
 clear fx hx hp h2 hq hz
 go_enter Tryz.func81, Tryz.ntmps81
 go_wp2
 refine wp_region_G (fun j => j == 7) (by kernel_rfl) ?_
 try simp only [Act.put]
 refine tkw 0 rfl (YieldsG.load (by rfl) _ _ rfl w.heap.size 0 rfl ([.int .u64 18446744069414583343, .int .u64 18446744073709551615, .int .u64 18446744073709551615, .int .u64 18446744073709551615, .int .u64 4294968273, .int .u64 0, .int .u64 0]) _ (Blk.lt (((Blk.new w _ _).alloc _).alloc _)) (Blk.range (((Blk.new w _ _).alloc _).alloc _)) Tryz.underlying102 rfl (by kernel_rfl)) ?_
 try simp only [Act.put, aA, aZ, aS]
 refine tkw 1 rfl (YieldsG.loadF (by rfl) _ _ rfl (w.heap.size + 1) rfl (x) _ _ ((blk_new2 w _ _ _).alloc _) (FX.out) Tryz.underlying97 rfl (by kernel_rfl)) ?_
 try simp only [Act.put, aA, aZ, aS]
 refine tk 2 rfl ?_
 try simp only [Act.put, aA, aZ, aS]
 refine tkw 3 rfl (YieldsG.loadP (by rfl) _ _ rfl w.heap.size rfl p _ (Blk.lt (((Blk.new w _ _).alloc _).alloc _)) (mod_range (((Blk.new w _ _).alloc _).alloc _)) FP.out Tryz.underlying97 rfl (by kernel_rfl)) ?_
 try simp only [Act.put, aA, aZ, aS]
 refine tkw 4 rfl (YieldsG.call (v := fv n2) (by rfl) 132 _ (fun w9 => by go_simp; try (first | with_reducible rfl | rfl)) (fun w9 h9 => cS w9)) ?_
 try simp only [Act.put, aA, aZ, aS]
 refine tkw 5 rfl (YieldsG.call (v := fv q) (by rfl) 131 _ (fun w9 => by go_simp; try (first | with_reducible rfl | rfl)) (fun w9 h9 => cM w9)) ?_
 try simp only [Act.put, aA, aZ, aS]
 refine tkw 6 rfl (YieldsG.call (v := fv z) (by rfl) 133 _ (fun w9 => by go_simp; try (first | with_reducible rfl | rfl)) (fun w9 h9 => cP w9)) ?_
 try simp only [Act.put, aA, aZ, aS]
 refine wpAnyG_store 7 rfl (by kernel_rfl) (by rfl) _ _ _ rfl (w.heap.size + 2) (fcs (z)) rfl rfl _ _ (blk_new3 w _ _ _ _) (by kernel_rfl) (by rfl) (fcs_one _) rfl (fun w6 h6 w7 hB7 hL7 => ?_)
 try simp only [Act.put]
 refine wpAnyG_done (by kernel_rfl) (fun w8 h8 => ?_)
 have hfin := Gr.blk h8 hL7
 have hb9 := (Below.gr (below_alloc3 w _ _ _) h6).trans ((hB7 _ (by omega)).trans (Below.mono h8 (by have := hL7.lt; omega)))
 go_wp2
 exact bodyPost_ret (results_cell_row rfl _ _ (w.heap.size + 2) _ _ (0, 0) _ rfl hfin Tryz.underlying97 rfl (by kernel_rfl)) rfl ⟨rfl, hb9⟩
end Go.Proofs.YtfhcpdbahbbmaaaGreatDoor

end
section
namespace Go.Proofs.YtfhcpdbahbbmaaaGreatDoor
open Go.RowKit Go.Lib

def byteN (z j : Nat) : UInt8 := UInt8.ofNat (z / 2 ^ (8 * j) % 256)
def lowB (z : Nat) : Nat → List UInt8
  | 0 => []
  | k + 1 => byteN z k :: lowB z k
theorem lowB_length (z : Nat) : ∀ k, (lowB z k).length = k
  | 0 => rfl
  | k + 1 => by rw [lowB, List.length_cons, lowB_length z k]
def bytesS (z : Nat) : List UInt8 := lowB z 32
def partB (z k : Nat) : List UInt8 := List.replicate (32 - k) 0 ++ lowB z k
theorem partB_length (z k : Nat) (h : k ≤ 32) : (partB z k).length = 32 := by simp [partB, lowB_length]; omega
theorem partB_full (z : Nat) : partB z 32 = bytesS z := by simp [partB, bytesS]
theorem partB_set (z k : Nat) (h : k < 32) : ((partB z k).map bv).toArray.setIfInBounds (31 - k) (bv (byteN z k)) = ((partB z (k + 1)).map bv).toArray := by
  rw [List.setIfInBounds_toArray]
  congr 1
  rw [← List.map_set]
  congr 1
  unfold partB
  rw [List.set_append_left _ _ (by simp; omega)]
  obtain ⟨m, hm⟩ : ∃ m, 32 - k = m + 1 := ⟨31 - k, by omega⟩
  have h2 : 32 - (k + 1) = m := by omega
  have h3 : 31 - k = m := by omega
  rw [hm, h2, h3, List.replicate_succ', List.set_append_right _ _ (by simp)]
  simp [lowB]
theorem bytesS_length (z : Nat) : (bytesS z).length = 32 := lowB_length z 32
theorem bv_byteN (z j : Nat) : bv (byteN z j) = .int .u8 ((z / 2 ^ (8 * j) % 256 : Nat) : Int) := by
  unfold bv byteN
  congr 2
  rw [UInt8.toNat_ofNat']
  omega
theorem Blk.val {w : World} {a : Addr} {v v' : Value} {g : Nat} {t : TypeId} {cs : Array Value} (h : Blk (w.setCell a v) g t cs) (e : v = v') : Blk (w.setCell a v') g t cs := e ▸ h
theorem b32_info {l : List UInt8} (h : l.length = 32) : (Tryz.prog.info? 30).map (·.size) = some (l.map bv).toArray.size := by
  simp only [List.size_toArray, List.length_map, h]
  kernel_rfl
theorem b32_one (l : List UInt8) : (l.map bv).toArray.all (·.oneCell') = true := by simp [bv, Value.oneCell']

def valB (l : List UInt8) : Nat := l.foldl (fun a b => a * 256 + b.toNat) 0
theorem valB_snoc (l : List UInt8) (c : UInt8) : valB (l ++ [c]) = valB l * 256 + c.toNat := by simp [valB, List.foldl_append]
theorem valB_lt : ∀ (n : Nat) (l : List UInt8), l.length = n → valB l < 256 ^ n
  | 0, l, h => by
    obtain rfl : l = [] := List.length_eq_zero_iff.1 h
    simp [valB]
  | n + 1, l, h => by
    have hne : l ≠ [] := by intro e; rw [e] at h; cases h
    have e := List.dropLast_concat_getLast hne
    have ih := valB_lt n l.dropLast (by rw [List.length_dropLast]; omega)
    rw [← e, valB_snoc, Nat.pow_succ]
    have := (l.getLast hne).toNat_lt
    omega
theorem valB_append (l : List UInt8) : ∀ (n : Nat) (m : List UInt8), m.length = n → valB (l ++ m) = valB l * 256 ^ n + valB m
  | 0, m, h => by
    obtain rfl : m = [] := List.length_eq_zero_iff.1 h
    simp [valB]
  | n + 1, m, h => by
    have hne : m ≠ [] := by intro e; rw [e] at h; cases h
    have e := List.dropLast_concat_getLast hne
    have ih := valB_append l n m.dropLast (by rw [List.length_dropLast]; omega)
    rw [← e, ← List.append_assoc, valB_snoc, valB_snoc, ih, Nat.pow_succ, Nat.add_mul, Nat.mul_assoc]
    omega
def wdB (l : List UInt8) (k p : Nat) : Nat := valB ((l.drop (8 * p)).take (min 8 (k - 8 * p)))
theorem wdB_zero (l : List UInt8) (p : Nat) : wdB l 0 p = 0 := by simp [wdB, valB]
theorem wdB_step (l : List UInt8) (k p : Nat) (c : UInt8) (h : l[k]? = some c) (hp : k / 8 = p) : wdB l (k + 1) p = wdB l k p * 256 + c.toNat := by
  unfold wdB
  rw [show min 8 (k + 1 - 8 * p) = (k - 8 * p) + 1 by omega, show min 8 (k - 8 * p) = k - 8 * p by omega, List.take_add_one, List.getElem?_drop, show 8 * p + (k - 8 * p) = k by omega, h]
  exact valB_snoc _ _
theorem wdB_same (l : List UInt8) (k p : Nat) (hp : k / 8 ≠ p) : wdB l (k + 1) p = wdB l k p := by
  unfold wdB
  rw [show min 8 (k + 1 - 8 * p) = min 8 (k - 8 * p) by omega]
theorem wdB_lt (l : List UInt8) (k p : Nat) (hp : k / 8 = p) : wdB l k p < 72057594037927936 := by
  unfold wdB
  have h := valB_lt _ ((l.drop (8 * p)).take (min 8 (k - 8 * p))) rfl
  refine Nat.lt_of_lt_of_le h ?_
  have : ((l.drop (8 * p)).take (min 8 (k - 8 * p))).length ≤ 7 := by rw [List.length_take]; omega
  exact Nat.pow_le_pow_right (by omega) this
theorem wdB_all (l : List UInt8) (h : l.length = 32) : valB l = wdB l 32 3 + 18446744073709551616 * wdB l 32 2 + 340282366920938463463374607431768211456 * wdB l 32 1 + 6277101735386680763835789423207666416102355444464034512896 * wdB l 32 0 := by
  have e : l = (l.take 8 ++ (l.drop 8).take 8) ++ ((l.drop 16).take 8 ++ (l.drop 24).take 8) := by
    conv => lhs; rw [← List.take_append_drop 16 l, ← List.take_append_drop 8 (l.take 16), ← List.take_append_drop 8 (l.drop 16)]
    congr 2
    · rw [List.take_take]; rfl
    · rw [List.drop_take]
    · rw [List.drop_drop, List.take_of_length_le (by simp; omega)]
  have w0 : wdB l 32 0 = valB (l.take 8) := rfl
  have w1 : wdB l 32 1 = valB ((l.drop 8).take 8) := rfl
  have w2 : wdB l 32 2 = valB ((l.drop 16).take 8) := rfl
  have w3 : wdB l 32 3 = valB ((l.drop 24).take 8) := rfl
  conv => lhs; rw [e]
  rw [valB_append _ 16 _ (by simp; omega), valB_append _ 8 _ (by simp; omega), valB_append _ 8 _ (by simp; omega), w0, w1, w2, w3]
  have p8 : (256 : Nat) ^ 8 = 18446744073709551616 := by decide
  have p16 : (256 : Nat) ^ 16 = 340282366920938463463374607431768211456 := by decide
  rw [p8, p16, Nat.add_mul, Nat.mul_assoc]
  omega
theorem wdB_lt8 (l : List UInt8) (k p : Nat) : wdB l k p < 18446744073709551616 := by
  unfold wdB
  have h := valB_lt _ ((l.drop (8 * p)).take (min 8 (k - 8 * p))) rfl
  refine Nat.lt_of_lt_of_le h ?_
  have : ((l.drop (8 * p)).take (min 8 (k - 8 * p))).length ≤ 8 := by rw [List.length_take]; omega
  exact Nat.pow_le_pow_right (by omega) this
theorem or_add (w c : Nat) (hw : w < 72057594037927936) (hc : c < 256) : bits .or .u64 ((w : Int) * 256) (c : Int) = ((w * 256 + c : Nat) : Int) := by
  have e : ((w : Int) * 256) = ((w * 256 : Nat) : Int) := by omega
  rw [e]
  have h : w * 256 ||| c = w * 256 + c := by
    have := Nat.two_pow_add_eq_or_of_lt (i := 8) (b := c) (by omega) w
    rw [Nat.mul_comm w 256]
    exact this.symm
  have hw2 : (BitVec.ofInt 64 ((w * 256 : Nat) : Int) ||| BitVec.ofInt 64 (c : Int)).toNat = w * 256 + c := by
    rw [BitVec.toNat_or]
    simp only [BitVec.ofInt_natCast, BitVec.toNat_ofNat]
    rw [Nat.mod_eq_of_lt (by omega), Nat.mod_eq_of_lt (by omega), h]
  show IntKind.u64.wrap ((BitVec.ofInt 64 ((w * 256 : Nat) : Int) ||| BitVec.ofInt 64 (c : Int)).toNat : Int) = _
  rw [hw2, IntKind.wrap_u64]
  omega
theorem run_index_b32 (W : World) (l : List UInt8) (k : Nat) (c : UInt8) (h : l[k]? = some c) (hk : k < 32) :
    (Instr.index 30 (.agg (l.map bv).toArray) (.int .i64 (k : Int))).run Tryz.prog W = .ok (bv c) W := by
  unfold Instr.index
  have hs : ∀ W, (sizeOf 5).run Tryz.prog W = .ok 1 W := fun W => by kernel_rfl
  have pc : (part 5 (l.map bv).toArray ((k : Int).toNat * 1)).run Tryz.prog W = .ok (bv c) W := by
    simp [part, isAgg, run_underlying Tryz.underlying5, h]
  simp only [asIntOf, Sem.run_bind, Sem.run_pure, Result.andThen_ok, run_underlying Tryz.underlying30]
  rw [if_pos ⟨by omega, by omega⟩]
  simp only [Sem.run_bind, hs, Result.andThen_ok, pc]

theorem p256 (k : Nat) : (2 : Nat) ^ (8 * k) = 256 ^ k := by rw [Nat.pow_mul]
theorem valB_lowB (z : Nat) : ∀ k, valB (lowB z k) = z % 256 ^ k
  | 0 => by simp [lowB, valB, Nat.mod_one]
  | k + 1 => by
    have h := valB_append [byteN z k] k (lowB z k) (lowB_length z k)
    rw [lowB]
    rw [List.singleton_append] at h
    rw [h, valB_lowB z k, Nat.mod_pow_succ]
    have e : valB [byteN z k] = z / 256 ^ k % 256 := by
      have : valB [byteN z k] = (byteN z k).toNat := by simp [valB]
      rw [this, byteN, UInt8.toNat_ofNat', p256]
      omega
    rw [e, Nat.mul_comm]
    omega
theorem valB_bytesS (z : Nat) (hz : z < (2^256)) : valB (bytesS z) = z := by
  rw [bytesS, valB_lowB]
  have : (256 : Nat) ^ 32 = (2^256) := by decide
  rw [this, Nat.mod_eq_of_lt hz]
theorem valB_inj : ∀ (n : Nat) (l m : List UInt8), l.length = n → m.length = n → valB l = valB m → l = m
  | 0, l, m, hl, hm, _ => by rw [List.length_eq_zero_iff.1 hl, List.length_eq_zero_iff.1 hm]
  | n + 1, l, m, hl, hm, h => by
    have nl : l ≠ [] := by intro e; rw [e] at hl; cases hl
    have nm : m ≠ [] := by intro e; rw [e] at hm; cases hm
    have el := List.dropLast_concat_getLast nl
    have em := List.dropLast_concat_getLast nm
    rw [← el, ← em, valB_snoc, valB_snoc] at h
    have c1 := (l.getLast nl).toNat_lt
    have c2 := (m.getLast nm).toNat_lt
    have hi := valB_inj n l.dropLast m.dropLast (by rw [List.length_dropLast]; omega) (by rw [List.length_dropLast]; omega) (by omega)
    have hc : l.getLast nl = m.getLast nm := UInt8.toNat_inj.1 (by omega)
    rw [← el, ← em, hi, hc]
theorem bytesS_valB (l : List UInt8) (h : l.length = 32) : bytesS (valB l) = l :=
  valB_inj 32 _ _ (bytesS_length _) h (valB_bytesS _ (by have := valB_lt 32 l h; have e : (256 : Nat) ^ 32 = (2^256) := by decide
                                                         omega))
theorem valB_lt32 (l : List UInt8) (h : l.length = 32) : valB l < (2^256) := by
  have := valB_lt 32 l h
  have e : (256 : Nat) ^ 32 = (2^256) := by decide
  omega
end Go.Proofs.YtfhcpdbahbbmaaaGreatDoor

end
section
namespace Go.Proofs.YtfhcpdbahbbmaaaGreatDoor
open Go.RowKit Sp

def Src (w : World) (A : Option Addr) (m : List UInt8) : Prop :=
 m ≠ [] → ∃ b o, A = some ⟨b, o, none⟩ ∧ b < w.heap.size ∧ ∀ j u, m[j]? = some u → w.cell? ⟨b, o + j, none⟩ = some (bv u)

theorem Src.keep {w w' : World} {A : Option Addr} {m : List UInt8} (h : Src w A m) (hs : w.heap.size ≤ w'.heap.size) (hk : m ≠ [] → ∀ a, A = some a → a.block < w.heap.size → w'.heap[a.block]? = w.heap[a.block]?) : Src w' A m := fun hm => by
 obtain ⟨b, o, rfl, hb, hc⟩ := h hm
 exact ⟨b, o, rfl, by omega, fun j u hu => (World.cell?_of_block (w := w) (a := ⟨b, o + j, none⟩) (show w'.heap[b]? = w.heap[b]? from hk hm ⟨b, o, none⟩ rfl hb)).trans (hc j u hu)⟩
theorem Src.below {w w' : World} {A : Option Addr} {m : List UInt8} (h : Src w A m) (hb : Below w.heap.size w w') : Src w' A m :=
 h.keep hb.size fun _ _ _ hl => hb.block _ hl

end Go.Proofs.YtfhcpdbahbbmaaaGreatDoor

end
section
namespace Go.Proofs.YtfhcpdbahbbmaaaGreatDoor
open Go.RowKit Go.Lib

set_option maxHeartbeats 2000000 in
set_option maxRecDepth 100000 in
theorem rightR_any (w : World) (x : Nat) (hx : x < (2^256)) : Calls Tryz.prog 53 #[modV, fv x] w fun e w' => e = .returned (.bool (decide (x < pM))) ∧ Below w.heap.size w w' := by
 obtain ⟨p, hp⟩ : ∃ p, p = 115792089237316195423570985008687907853269984665640564039457584007908834671663 := ⟨_, rfl⟩
 obtain ⟨b, hb⟩ : ∃ b, b = decide (x < pM) := ⟨_, rfl⟩
 have cb : ∀ w, Calls Tryz.prog 112 #[fv x, fv p] w fun e w' => e = .returned (.bool b) ∧ Below w.heap.size w w' := by
  intro w; rw [hb, pM_eq, ← hp]; exact below_at w x p rfl rfl hx (by omega)
 have hpc : fv p = .agg #[.int .u64 18446744069414583343, .int .u64 18446744073709551615, .int .u64 18446744073709551615, .int .u64 18446744073709551615] := by rw [hp]; exact fv_P
 obtain ⟨x0, x1, x2, x3, fx⟩ := words_fv x hx
 have FX := Lib.hid fx
 have FP := Lib.hid hpc
 rw [fx, ← hb]
 unfold modV
 clear fx hpc hx hp hb
 go_enter Tryz.func53, Tryz.ntmps53
 go_wp2_with (first | ((with_reducible refine here_load (d := some 5) ?_); refine wpList_load_fv rfl _ _ rfl (w.heap.size + 1) rfl (x) _ _ _ (blk_new2 w _ _ _) (FX.out) Tryz.underlying97 rfl (by kernel_rfl) ?_) | ((with_reducible refine here_load (d := some 7) ?_); refine wpList_load_part rfl _ _ rfl w.heap.size rfl p [.int .u64 18446744069414583343, .int .u64 18446744073709551615, .int .u64 18446744073709551615, .int .u64 18446744073709551615] _ (mod_range ((Blk.new w _ _).alloc _)) FP.out Tryz.underlying97 rfl (by kernel_rfl) ?_))
 refine (cb _).mono ?_
 rintro e w1 ⟨rfl, k1⟩
 go_wp2
 go_ret
 exact ⟨rfl, Below.gr (below_alloc2 w _ _) k1⟩

end Go.Proofs.YtfhcpdbahbbmaaaGreatDoor

end
