/-
  The document's numbers modulo p: P, Of, Fe, below, minus, Norm, Right.
-/
import Derived.Test.YtlojidnlkflpnaaFeEq
namespace Go.Proofs.Ytlojidnlkflpnaa
open Go.RowKit Go.Lib

/-- the modulus p as the document has it, and what it lacks -/
def modV : Value := .agg #[.int .u64 18446744069414583343, .int .u64 18446744073709551615, .int .u64 18446744073709551615, .int .u64 18446744073709551615, .int .u64 4294968273, .int .u64 0, .int .u64 0]
theorem fv_P : fv 115792089237316195423570985008687907853269984665640564039457584007908834671663 = .agg #[.int .u64 18446744069414583343, .int .u64 18446744073709551615, .int .u64 18446744073709551615, .int .u64 18446744073709551615] := rfl

theorem refP_any (w : World) : Calls Try.prog 43 #[] w fun e w' => e = .returned modV ∧ Below w.heap.size w w' := by
  go_enter Try.func43, Try.ntmps43
  go_wp2
  exact bodyPost_ret (results_cell_row rfl _ _ w.heap.size _ _ (0, 0) _ rfl (heap_alloc_new w _) Try.underlying66 rfl (by kernel_rfl)) rfl ⟨rfl, (Below.refl _ _).alloc (Nat.le_refl _) _⟩
theorem refOf_any (w : World) (n : Nat) (hn : n < 115792089237316195423570985008687907853269984665640564039457584007913129639936) : Calls Try.prog 42 #[fv n] w fun e w' => e = .returned (fv n) ∧ Below w.heap.size w w' := by
  obtain ⟨a, b, c, d, fn⟩ := words_fv n hn
  rw [fn]
  clear fn
  go_enter Try.func42, Try.ntmps42
  go_wp2
  exact bodyPost_ret (results_cell_row rfl _ _ (w.heap.size + 1) _ _ (0, 0) _ rfl (heap_alloc2_new w _ _) Try.underlying62 rfl (by kernel_rfl)) rfl ⟨rfl, below_alloc2 w _ _⟩
theorem refFe_any (w : World) (n : Nat) (hn : n < 115792089237316195423570985008687907853269984665640564039457584007913129639936) : Calls Try.prog 87 #[fv n] w fun e w' => e = .returned (fv n) ∧ Below w.heap.size w w' := by
  obtain ⟨a, b, c, d, fn⟩ := words_fv n hn
  rw [fn]
  clear fn
  go_enter Try.func87, Try.ntmps87
  go_wp2
  exact bodyPost_ret (results_cell_row rfl _ _ (w.heap.size + 1) _ _ (0, 0) _ rfl (heap_alloc2_new w _ _) Try.underlying24 rfl (by kernel_rfl)) rfl ⟨rfl, below_alloc2 w _ _⟩

set_option maxHeartbeats 8000000 in
set_option maxRecDepth 100000 in
theorem below_at {v1 v2 : Value} (w : World) (x y : Nat) (h1 : fv x = v1) (h2 : fv y = v2) (hx : x < 115792089237316195423570985008687907853269984665640564039457584007913129639936) (hy : y < 115792089237316195423570985008687907853269984665640564039457584007913129639936) : Calls Try.prog 85 #[v1, v2] w fun e w' => e = .returned (.bool (decide (x < y))) ∧ Below w.heap.size w w' := by
  subst h1 h2
  obtain ⟨x0, x1, x2, x3, a0, a1, a2, a3, ex, fx⟩ := words_of x hx
  obtain ⟨y0, y1, y2, y3, b0, b1, b2, b3, ey, fy⟩ := words_of y hy
  obtain ⟨r, hr⟩ : ∃ r, r = decide (x < y) := ⟨_, rfl⟩
  have t3 : x3 ≠ y3 → r = decide ((x3 : Int) < (y3 : Int)) := fun h => by rw [hr]; congr 1; simp only [eq_iff_iff]; omega
  have t2 : x3 = y3 → x2 ≠ y2 → r = decide ((x2 : Int) < (y2 : Int)) := fun _ h => by rw [hr]; congr 1; simp only [eq_iff_iff]; omega
  have t1 : x3 = y3 → x2 = y2 → x1 ≠ y1 → r = decide ((x1 : Int) < (y1 : Int)) := fun _ _ h => by rw [hr]; congr 1; simp only [eq_iff_iff]; omega
  have t0 : x3 = y3 → x2 = y2 → x1 = y1 → x0 ≠ y0 → r = decide ((x0 : Int) < (y0 : Int)) := fun _ _ _ h => by rw [hr]; congr 1; simp only [eq_iff_iff]; omega
  have te : x3 = y3 → x2 = y2 → x1 = y1 → x0 = y0 → r = false := fun _ _ _ _ => by rw [hr]; simp only [decide_eq_false_iff_not]; omega
  have HT := Lib.hid (And.intro t3 (And.intro t2 (And.intro t1 (And.intro t0 te))))
  rw [fx, fy, ← hr]
  clear fx fy ex ey hx hy a0 a1 a2 a3 b0 b1 b2 b3 hr t3 t2 t1 t0 te
  go_enter Try.func85, Try.ntmps85
  go_wp2_with fail
  go_loopw [5] (fun i wr => Below w.heap.size w wr ∧ Blk wr w.heap.size 62 #[.int .u64 (x0 : Int), .int .u64 (x1 : Int), .int .u64 (x2 : Int), .int .u64 (x3 : Int)] ∧ Blk wr (w.heap.size + 1) 62 #[.int .u64 (y0 : Int), .int .u64 (y1 : Int), .int .u64 (y2 : Int), .int .u64 (y3 : Int)] ∧ Hid ((i = .int .i64 3) ∨ (i = .int .i64 2 ∧ x3 = y3) ∨ (i = .int .i64 1 ∧ x3 = y3 ∧ x2 = y2) ∨ (i = .int .i64 0 ∧ x3 = y3 ∧ x2 = y2 ∧ x1 = y1) ∨ (i = .int .i64 (-1) ∧ x3 = y3 ∧ x2 = y2 ∧ x1 = y1 ∧ x0 = y0))) (fun i _ => (intOf i + 1).toNat)
  case atStart => exact ⟨below_alloc2 w _ _, (Blk.new w _ _).alloc _, blk_new2 w _ _ _, Lib.hid (.inl rfl)⟩
  case round =>
    obtain ⟨hb, BX, BY, HI⟩ := hrel
    have lX := BX.lt
    have lY := BY.lt
    have qx0 : wr.cell? ⟨w.heap.size, 0, none⟩ = some (.int .u64 (x0 : Int)) := BX.cell 0
    have qy0 : wr.cell? ⟨w.heap.size + 1, 0, none⟩ = some (.int .u64 (y0 : Int)) := BY.cell 0
    have qx1 : wr.cell? ⟨w.heap.size, 1, none⟩ = some (.int .u64 (x1 : Int)) := BX.cell 1
    have qy1 : wr.cell? ⟨w.heap.size + 1, 1, none⟩ = some (.int .u64 (y1 : Int)) := BY.cell 1
    have qx2 : wr.cell? ⟨w.heap.size, 2, none⟩ = some (.int .u64 (x2 : Int)) := BX.cell 2
    have qy2 : wr.cell? ⟨w.heap.size + 1, 2, none⟩ = some (.int .u64 (y2 : Int)) := BY.cell 2
    have qx3 : wr.cell? ⟨w.heap.size, 3, none⟩ = some (.int .u64 (x3 : Int)) := BX.cell 3
    have qy3 : wr.cell? ⟨w.heap.size + 1, 3, none⟩ = some (.int .u64 (y3 : Int)) := BY.cell 3
    rcases HI.out with rfl | ⟨rfl, E⟩ | ⟨rfl, E⟩ | ⟨rfl, E⟩ | ⟨rfl, E⟩
    · have hk : Hid (True) := Lib.hid trivial
      clear HI
      obtain ⟨b, hbd⟩ : ∃ b, b = decide (x3 ≠ y3) := ⟨_, rfl⟩
      have hbb : (!((x3 : Int) == (y3 : Int))) = b := by
        rw [hbd]
        by_cases h : x3 = y3 <;> simp [h] <;> omega
      have HB := Lib.hid hbd
      clear hbd
      go_wp2
      refine wp_region_G (fun _ => false) (by kernel_rfl) ?_
      try simp only [Act.put]
      refine wpAnyG_take 0 rfl (by kernel_rfl) (fun _ _ _ h => h) (YieldsG.pure (by rfl) (fun w9 _ => by go_simp; try with_reducible rfl)) ?_
      try simp only [Act.put, List.setIfInBounds_toArray, List.set_cons_zero, List.set_cons_succ]
      refine wpAnyG_take 1 rfl (by kernel_rfl) (fun _ _ _ h => h) (YieldsG.pure (by rfl) (fun w9 _ => by go_simp; try with_reducible rfl)) ?_
      try simp only [Act.put, List.setIfInBounds_toArray, List.set_cons_zero, List.set_cons_succ]
      refine wpAnyG_take 2 rfl (by kernel_rfl) (fun _ _ _ h => h) (YieldsG.pure (v := .int .u64 (x3 : Int)) (by rfl) (fun w9 h9 => by have hz := (Below.cell (p := ⟨w.heap.size, 3, none⟩) h9 lX).trans qx3; go_simp; first | done | simp [hz])) ?_
      try simp only [Act.put, List.setIfInBounds_toArray, List.set_cons_zero, List.set_cons_succ]
      refine wpAnyG_take 3 rfl (by kernel_rfl) (fun _ _ _ h => h) (YieldsG.pure (by rfl) (fun w9 _ => by go_simp; try with_reducible rfl)) ?_
      try simp only [Act.put, List.setIfInBounds_toArray, List.set_cons_zero, List.set_cons_succ]
      refine wpAnyG_take 4 rfl (by kernel_rfl) (fun _ _ _ h => h) (YieldsG.pure (by rfl) (fun w9 _ => by go_simp; try with_reducible rfl)) ?_
      try simp only [Act.put, List.setIfInBounds_toArray, List.set_cons_zero, List.set_cons_succ]
      refine wpAnyG_take 5 rfl (by kernel_rfl) (fun _ _ _ h => h) (YieldsG.pure (v := .int .u64 (y3 : Int)) (by rfl) (fun w9 h9 => by have hz := (Below.cell (p := ⟨w.heap.size + 1, 3, none⟩) h9 lY).trans qy3; go_simp; first | done | simp [hz])) ?_
      try simp only [Act.put, List.setIfInBounds_toArray, List.set_cons_zero, List.set_cons_succ]
      refine wpAnyG_take 6 rfl (by kernel_rfl) (fun _ _ _ h => h) (YieldsG.pure (v := .bool b) (by rfl) (fun w9 h9 => by go_simp; congr 3; all_goals (rw [HB.out]; all_goals (by_cases h : x3 = y3 <;> simp [h] <;> omega)))) ?_
      try simp only [Act.put, List.setIfInBounds_toArray, List.set_cons_zero, List.set_cons_succ]
      refine wpAnyG_done (by kernel_rfl) (fun u hu => ?_)
      have hbu := Below.gr hb hu
      have BXu := Gr.blk hu BX
      have BYu := Gr.blk hu BY
      cases b
      · have hxy : x3 = y3 := by
          have := HB.out
          simpa using this
        have HXY := Lib.hid hxy
        clear hxy
        go_wp2
        exact ⟨⟨hbu, BXu, BYu, Lib.hid (.inr (.inl ⟨rfl, HXY.out⟩))⟩, by decide⟩
      · have hxy : x3 ≠ y3 := by
          have := HB.out
          simpa using this
        have hr2 := Lib.hid (HT.out.1 hxy)
        have lXu := BXu.lt
        have lYu := BYu.lt
        have px : u.cell? ⟨w.heap.size, 3, none⟩ = some (.int .u64 (x3 : Int)) := BXu.cell 3
        have py : u.cell? ⟨w.heap.size + 1, 3, none⟩ = some (.int .u64 (y3 : Int)) := BYu.cell 3
        clear hxy hk HT
        go_wp2
        refine wp_region_G (fun _ => false) (by kernel_rfl) ?_
        try simp only [Act.put]
        refine wpAnyG_take 0 rfl (by kernel_rfl) (fun _ _ _ h => h) (YieldsG.pure (by rfl) (fun w9 _ => by go_simp; try with_reducible rfl)) ?_
        try simp only [Act.put, List.setIfInBounds_toArray, List.set_cons_zero, List.set_cons_succ]
        refine wpAnyG_take 1 rfl (by kernel_rfl) (fun _ _ _ h => h) (YieldsG.pure (by rfl) (fun w9 _ => by go_simp; try with_reducible rfl)) ?_
        try simp only [Act.put, List.setIfInBounds_toArray, List.set_cons_zero, List.set_cons_succ]
        refine wpAnyG_take 2 rfl (by kernel_rfl) (fun _ _ _ h => h) (YieldsG.pure (v := .int .u64 (x3 : Int)) (by rfl) (fun w9 h9 => by have hz := (Below.cell (p := ⟨w.heap.size, 3, none⟩) h9 lXu).trans px; go_simp; first | done | simp [hz])) ?_
        try simp only [Act.put, List.setIfInBounds_toArray, List.set_cons_zero, List.set_cons_succ]
        refine wpAnyG_take 3 rfl (by kernel_rfl) (fun _ _ _ h => h) (YieldsG.pure (by rfl) (fun w9 _ => by go_simp; try with_reducible rfl)) ?_
        try simp only [Act.put, List.setIfInBounds_toArray, List.set_cons_zero, List.set_cons_succ]
        refine wpAnyG_take 4 rfl (by kernel_rfl) (fun _ _ _ h => h) (YieldsG.pure (by rfl) (fun w9 _ => by go_simp; try with_reducible rfl)) ?_
        try simp only [Act.put, List.setIfInBounds_toArray, List.set_cons_zero, List.set_cons_succ]
        refine wpAnyG_take 5 rfl (by kernel_rfl) (fun _ _ _ h => h) (YieldsG.pure (v := .int .u64 (y3 : Int)) (by rfl) (fun w9 h9 => by have hz := (Below.cell (p := ⟨w.heap.size + 1, 3, none⟩) h9 lYu).trans py; go_simp; first | done | simp [hz])) ?_
        try simp only [Act.put, List.setIfInBounds_toArray, List.set_cons_zero, List.set_cons_succ]
        refine wpAnyG_take 6 rfl (by kernel_rfl) (fun _ _ _ h => h) (YieldsG.pure (v := .bool r) (by rfl) (fun w9 h9 => by go_simp; congr 3; rw [hr2.out]; all_goals (apply decide_eq_decide.2; omega))) ?_
        try simp only [Act.put, List.setIfInBounds_toArray, List.set_cons_zero, List.set_cons_succ]
        refine wpAnyG_take 7 rfl (by kernel_rfl) (fun _ _ _ h => h) (YieldsG.pure (by rfl) (fun w9 _ => by go_simp; try with_reducible rfl)) ?_
        try simp only [Act.put, List.setIfInBounds_toArray, List.set_cons_zero, List.set_cons_succ]
        refine wpAnyG_done (by kernel_rfl) (fun u2 hu2 => ?_)
        go_wp2
        go_ret
        exact ⟨rfl, Below.gr hbu hu2⟩
    · have hk : Hid (x3 = y3) := Lib.hid E
      clear HI E
      obtain ⟨b, hbd⟩ : ∃ b, b = decide (x2 ≠ y2) := ⟨_, rfl⟩
      have hbb : (!((x2 : Int) == (y2 : Int))) = b := by
        rw [hbd]
        by_cases h : x2 = y2 <;> simp [h] <;> omega
      have HB := Lib.hid hbd
      clear hbd
      go_wp2
      refine wp_region_G (fun _ => false) (by kernel_rfl) ?_
      try simp only [Act.put]
      refine wpAnyG_take 0 rfl (by kernel_rfl) (fun _ _ _ h => h) (YieldsG.pure (by rfl) (fun w9 _ => by go_simp; try with_reducible rfl)) ?_
      try simp only [Act.put, List.setIfInBounds_toArray, List.set_cons_zero, List.set_cons_succ]
      refine wpAnyG_take 1 rfl (by kernel_rfl) (fun _ _ _ h => h) (YieldsG.pure (by rfl) (fun w9 _ => by go_simp; try with_reducible rfl)) ?_
      try simp only [Act.put, List.setIfInBounds_toArray, List.set_cons_zero, List.set_cons_succ]
      refine wpAnyG_take 2 rfl (by kernel_rfl) (fun _ _ _ h => h) (YieldsG.pure (v := .int .u64 (x2 : Int)) (by rfl) (fun w9 h9 => by have hz := (Below.cell (p := ⟨w.heap.size, 2, none⟩) h9 lX).trans qx2; go_simp; first | done | simp [hz])) ?_
      try simp only [Act.put, List.setIfInBounds_toArray, List.set_cons_zero, List.set_cons_succ]
      refine wpAnyG_take 3 rfl (by kernel_rfl) (fun _ _ _ h => h) (YieldsG.pure (by rfl) (fun w9 _ => by go_simp; try with_reducible rfl)) ?_
      try simp only [Act.put, List.setIfInBounds_toArray, List.set_cons_zero, List.set_cons_succ]
      refine wpAnyG_take 4 rfl (by kernel_rfl) (fun _ _ _ h => h) (YieldsG.pure (by rfl) (fun w9 _ => by go_simp; try with_reducible rfl)) ?_
      try simp only [Act.put, List.setIfInBounds_toArray, List.set_cons_zero, List.set_cons_succ]
      refine wpAnyG_take 5 rfl (by kernel_rfl) (fun _ _ _ h => h) (YieldsG.pure (v := .int .u64 (y2 : Int)) (by rfl) (fun w9 h9 => by have hz := (Below.cell (p := ⟨w.heap.size + 1, 2, none⟩) h9 lY).trans qy2; go_simp; first | done | simp [hz])) ?_
      try simp only [Act.put, List.setIfInBounds_toArray, List.set_cons_zero, List.set_cons_succ]
      refine wpAnyG_take 6 rfl (by kernel_rfl) (fun _ _ _ h => h) (YieldsG.pure (v := .bool b) (by rfl) (fun w9 h9 => by go_simp; congr 3; all_goals (rw [HB.out]; all_goals (by_cases h : x2 = y2 <;> simp [h] <;> omega)))) ?_
      try simp only [Act.put, List.setIfInBounds_toArray, List.set_cons_zero, List.set_cons_succ]
      refine wpAnyG_done (by kernel_rfl) (fun u hu => ?_)
      have hbu := Below.gr hb hu
      have BXu := Gr.blk hu BX
      have BYu := Gr.blk hu BY
      cases b
      · have hxy : x2 = y2 := by
          have := HB.out
          simpa using this
        have HXY := Lib.hid hxy
        clear hxy
        go_wp2
        exact ⟨⟨hbu, BXu, BYu, Lib.hid (.inr (.inr (.inl ⟨rfl, hk.out, HXY.out⟩)))⟩, by decide⟩
      · have hxy : x2 ≠ y2 := by
          have := HB.out
          simpa using this
        have hr2 := Lib.hid (HT.out.2.1 hk.out hxy)
        have lXu := BXu.lt
        have lYu := BYu.lt
        have px : u.cell? ⟨w.heap.size, 2, none⟩ = some (.int .u64 (x2 : Int)) := BXu.cell 2
        have py : u.cell? ⟨w.heap.size + 1, 2, none⟩ = some (.int .u64 (y2 : Int)) := BYu.cell 2
        clear hxy hk HT
        go_wp2
        refine wp_region_G (fun _ => false) (by kernel_rfl) ?_
        try simp only [Act.put]
        refine wpAnyG_take 0 rfl (by kernel_rfl) (fun _ _ _ h => h) (YieldsG.pure (by rfl) (fun w9 _ => by go_simp; try with_reducible rfl)) ?_
        try simp only [Act.put, List.setIfInBounds_toArray, List.set_cons_zero, List.set_cons_succ]
        refine wpAnyG_take 1 rfl (by kernel_rfl) (fun _ _ _ h => h) (YieldsG.pure (by rfl) (fun w9 _ => by go_simp; try with_reducible rfl)) ?_
        try simp only [Act.put, List.setIfInBounds_toArray, List.set_cons_zero, List.set_cons_succ]
        refine wpAnyG_take 2 rfl (by kernel_rfl) (fun _ _ _ h => h) (YieldsG.pure (v := .int .u64 (x2 : Int)) (by rfl) (fun w9 h9 => by have hz := (Below.cell (p := ⟨w.heap.size, 2, none⟩) h9 lXu).trans px; go_simp; first | done | simp [hz])) ?_
        try simp only [Act.put, List.setIfInBounds_toArray, List.set_cons_zero, List.set_cons_succ]
        refine wpAnyG_take 3 rfl (by kernel_rfl) (fun _ _ _ h => h) (YieldsG.pure (by rfl) (fun w9 _ => by go_simp; try with_reducible rfl)) ?_
        try simp only [Act.put, List.setIfInBounds_toArray, List.set_cons_zero, List.set_cons_succ]
        refine wpAnyG_take 4 rfl (by kernel_rfl) (fun _ _ _ h => h) (YieldsG.pure (by rfl) (fun w9 _ => by go_simp; try with_reducible rfl)) ?_
        try simp only [Act.put, List.setIfInBounds_toArray, List.set_cons_zero, List.set_cons_succ]
        refine wpAnyG_take 5 rfl (by kernel_rfl) (fun _ _ _ h => h) (YieldsG.pure (v := .int .u64 (y2 : Int)) (by rfl) (fun w9 h9 => by have hz := (Below.cell (p := ⟨w.heap.size + 1, 2, none⟩) h9 lYu).trans py; go_simp; first | done | simp [hz])) ?_
        try simp only [Act.put, List.setIfInBounds_toArray, List.set_cons_zero, List.set_cons_succ]
        refine wpAnyG_take 6 rfl (by kernel_rfl) (fun _ _ _ h => h) (YieldsG.pure (v := .bool r) (by rfl) (fun w9 h9 => by go_simp; congr 3; rw [hr2.out]; all_goals (apply decide_eq_decide.2; omega))) ?_
        try simp only [Act.put, List.setIfInBounds_toArray, List.set_cons_zero, List.set_cons_succ]
        refine wpAnyG_take 7 rfl (by kernel_rfl) (fun _ _ _ h => h) (YieldsG.pure (by rfl) (fun w9 _ => by go_simp; try with_reducible rfl)) ?_
        try simp only [Act.put, List.setIfInBounds_toArray, List.set_cons_zero, List.set_cons_succ]
        refine wpAnyG_done (by kernel_rfl) (fun u2 hu2 => ?_)
        go_wp2
        go_ret
        exact ⟨rfl, Below.gr hbu hu2⟩
    · have hk : Hid (x3 = y3 ∧ x2 = y2) := Lib.hid E
      clear HI E
      obtain ⟨b, hbd⟩ : ∃ b, b = decide (x1 ≠ y1) := ⟨_, rfl⟩
      have hbb : (!((x1 : Int) == (y1 : Int))) = b := by
        rw [hbd]
        by_cases h : x1 = y1 <;> simp [h] <;> omega
      have HB := Lib.hid hbd
      clear hbd
      go_wp2
      refine wp_region_G (fun _ => false) (by kernel_rfl) ?_
      try simp only [Act.put]
      refine wpAnyG_take 0 rfl (by kernel_rfl) (fun _ _ _ h => h) (YieldsG.pure (by rfl) (fun w9 _ => by go_simp; try with_reducible rfl)) ?_
      try simp only [Act.put, List.setIfInBounds_toArray, List.set_cons_zero, List.set_cons_succ]
      refine wpAnyG_take 1 rfl (by kernel_rfl) (fun _ _ _ h => h) (YieldsG.pure (by rfl) (fun w9 _ => by go_simp; try with_reducible rfl)) ?_
      try simp only [Act.put, List.setIfInBounds_toArray, List.set_cons_zero, List.set_cons_succ]
      refine wpAnyG_take 2 rfl (by kernel_rfl) (fun _ _ _ h => h) (YieldsG.pure (v := .int .u64 (x1 : Int)) (by rfl) (fun w9 h9 => by have hz := (Below.cell (p := ⟨w.heap.size, 1, none⟩) h9 lX).trans qx1; go_simp; first | done | simp [hz])) ?_
      try simp only [Act.put, List.setIfInBounds_toArray, List.set_cons_zero, List.set_cons_succ]
      refine wpAnyG_take 3 rfl (by kernel_rfl) (fun _ _ _ h => h) (YieldsG.pure (by rfl) (fun w9 _ => by go_simp; try with_reducible rfl)) ?_
      try simp only [Act.put, List.setIfInBounds_toArray, List.set_cons_zero, List.set_cons_succ]
      refine wpAnyG_take 4 rfl (by kernel_rfl) (fun _ _ _ h => h) (YieldsG.pure (by rfl) (fun w9 _ => by go_simp; try with_reducible rfl)) ?_
      try simp only [Act.put, List.setIfInBounds_toArray, List.set_cons_zero, List.set_cons_succ]
      refine wpAnyG_take 5 rfl (by kernel_rfl) (fun _ _ _ h => h) (YieldsG.pure (v := .int .u64 (y1 : Int)) (by rfl) (fun w9 h9 => by have hz := (Below.cell (p := ⟨w.heap.size + 1, 1, none⟩) h9 lY).trans qy1; go_simp; first | done | simp [hz])) ?_
      try simp only [Act.put, List.setIfInBounds_toArray, List.set_cons_zero, List.set_cons_succ]
      refine wpAnyG_take 6 rfl (by kernel_rfl) (fun _ _ _ h => h) (YieldsG.pure (v := .bool b) (by rfl) (fun w9 h9 => by go_simp; congr 3; all_goals (rw [HB.out]; all_goals (by_cases h : x1 = y1 <;> simp [h] <;> omega)))) ?_
      try simp only [Act.put, List.setIfInBounds_toArray, List.set_cons_zero, List.set_cons_succ]
      refine wpAnyG_done (by kernel_rfl) (fun u hu => ?_)
      have hbu := Below.gr hb hu
      have BXu := Gr.blk hu BX
      have BYu := Gr.blk hu BY
      cases b
      · have hxy : x1 = y1 := by
          have := HB.out
          simpa using this
        have HXY := Lib.hid hxy
        clear hxy
        go_wp2
        exact ⟨⟨hbu, BXu, BYu, Lib.hid (.inr (.inr (.inr (.inl ⟨rfl, hk.out.1, hk.out.2, HXY.out⟩))))⟩, by decide⟩
      · have hxy : x1 ≠ y1 := by
          have := HB.out
          simpa using this
        have hr2 := Lib.hid (HT.out.2.2.1 hk.out.1 hk.out.2 hxy)
        have lXu := BXu.lt
        have lYu := BYu.lt
        have px : u.cell? ⟨w.heap.size, 1, none⟩ = some (.int .u64 (x1 : Int)) := BXu.cell 1
        have py : u.cell? ⟨w.heap.size + 1, 1, none⟩ = some (.int .u64 (y1 : Int)) := BYu.cell 1
        clear hxy hk HT
        go_wp2
        refine wp_region_G (fun _ => false) (by kernel_rfl) ?_
        try simp only [Act.put]
        refine wpAnyG_take 0 rfl (by kernel_rfl) (fun _ _ _ h => h) (YieldsG.pure (by rfl) (fun w9 _ => by go_simp; try with_reducible rfl)) ?_
        try simp only [Act.put, List.setIfInBounds_toArray, List.set_cons_zero, List.set_cons_succ]
        refine wpAnyG_take 1 rfl (by kernel_rfl) (fun _ _ _ h => h) (YieldsG.pure (by rfl) (fun w9 _ => by go_simp; try with_reducible rfl)) ?_
        try simp only [Act.put, List.setIfInBounds_toArray, List.set_cons_zero, List.set_cons_succ]
        refine wpAnyG_take 2 rfl (by kernel_rfl) (fun _ _ _ h => h) (YieldsG.pure (v := .int .u64 (x1 : Int)) (by rfl) (fun w9 h9 => by have hz := (Below.cell (p := ⟨w.heap.size, 1, none⟩) h9 lXu).trans px; go_simp; first | done | simp [hz])) ?_
        try simp only [Act.put, List.setIfInBounds_toArray, List.set_cons_zero, List.set_cons_succ]
        refine wpAnyG_take 3 rfl (by kernel_rfl) (fun _ _ _ h => h) (YieldsG.pure (by rfl) (fun w9 _ => by go_simp; try with_reducible rfl)) ?_
        try simp only [Act.put, List.setIfInBounds_toArray, List.set_cons_zero, List.set_cons_succ]
        refine wpAnyG_take 4 rfl (by kernel_rfl) (fun _ _ _ h => h) (YieldsG.pure (by rfl) (fun w9 _ => by go_simp; try with_reducible rfl)) ?_
        try simp only [Act.put, List.setIfInBounds_toArray, List.set_cons_zero, List.set_cons_succ]
        refine wpAnyG_take 5 rfl (by kernel_rfl) (fun _ _ _ h => h) (YieldsG.pure (v := .int .u64 (y1 : Int)) (by rfl) (fun w9 h9 => by have hz := (Below.cell (p := ⟨w.heap.size + 1, 1, none⟩) h9 lYu).trans py; go_simp; first | done | simp [hz])) ?_
        try simp only [Act.put, List.setIfInBounds_toArray, List.set_cons_zero, List.set_cons_succ]
        refine wpAnyG_take 6 rfl (by kernel_rfl) (fun _ _ _ h => h) (YieldsG.pure (v := .bool r) (by rfl) (fun w9 h9 => by go_simp; congr 3; rw [hr2.out]; all_goals (apply decide_eq_decide.2; omega))) ?_
        try simp only [Act.put, List.setIfInBounds_toArray, List.set_cons_zero, List.set_cons_succ]
        refine wpAnyG_take 7 rfl (by kernel_rfl) (fun _ _ _ h => h) (YieldsG.pure (by rfl) (fun w9 _ => by go_simp; try with_reducible rfl)) ?_
        try simp only [Act.put, List.setIfInBounds_toArray, List.set_cons_zero, List.set_cons_succ]
        refine wpAnyG_done (by kernel_rfl) (fun u2 hu2 => ?_)
        go_wp2
        go_ret
        exact ⟨rfl, Below.gr hbu hu2⟩
    · have hk : Hid (x3 = y3 ∧ x2 = y2 ∧ x1 = y1) := Lib.hid E
      clear HI E
      obtain ⟨b, hbd⟩ : ∃ b, b = decide (x0 ≠ y0) := ⟨_, rfl⟩
      have hbb : (!((x0 : Int) == (y0 : Int))) = b := by
        rw [hbd]
        by_cases h : x0 = y0 <;> simp [h] <;> omega
      have HB := Lib.hid hbd
      clear hbd
      go_wp2
      refine wp_region_G (fun _ => false) (by kernel_rfl) ?_
      try simp only [Act.put]
      refine wpAnyG_take 0 rfl (by kernel_rfl) (fun _ _ _ h => h) (YieldsG.pure (by rfl) (fun w9 _ => by go_simp; try with_reducible rfl)) ?_
      try simp only [Act.put, List.setIfInBounds_toArray, List.set_cons_zero, List.set_cons_succ]
      refine wpAnyG_take 1 rfl (by kernel_rfl) (fun _ _ _ h => h) (YieldsG.pure (by rfl) (fun w9 _ => by go_simp; try with_reducible rfl)) ?_
      try simp only [Act.put, List.setIfInBounds_toArray, List.set_cons_zero, List.set_cons_succ]
      refine wpAnyG_take 2 rfl (by kernel_rfl) (fun _ _ _ h => h) (YieldsG.pure (v := .int .u64 (x0 : Int)) (by rfl) (fun w9 h9 => by have hz := (Below.cell (p := ⟨w.heap.size, 0, none⟩) h9 lX).trans qx0; go_simp; first | done | simp [hz])) ?_
      try simp only [Act.put, List.setIfInBounds_toArray, List.set_cons_zero, List.set_cons_succ]
      refine wpAnyG_take 3 rfl (by kernel_rfl) (fun _ _ _ h => h) (YieldsG.pure (by rfl) (fun w9 _ => by go_simp; try with_reducible rfl)) ?_
      try simp only [Act.put, List.setIfInBounds_toArray, List.set_cons_zero, List.set_cons_succ]
      refine wpAnyG_take 4 rfl (by kernel_rfl) (fun _ _ _ h => h) (YieldsG.pure (by rfl) (fun w9 _ => by go_simp; try with_reducible rfl)) ?_
      try simp only [Act.put, List.setIfInBounds_toArray, List.set_cons_zero, List.set_cons_succ]
      refine wpAnyG_take 5 rfl (by kernel_rfl) (fun _ _ _ h => h) (YieldsG.pure (v := .int .u64 (y0 : Int)) (by rfl) (fun w9 h9 => by have hz := (Below.cell (p := ⟨w.heap.size + 1, 0, none⟩) h9 lY).trans qy0; go_simp; first | done | simp [hz])) ?_
      try simp only [Act.put, List.setIfInBounds_toArray, List.set_cons_zero, List.set_cons_succ]
      refine wpAnyG_take 6 rfl (by kernel_rfl) (fun _ _ _ h => h) (YieldsG.pure (v := .bool b) (by rfl) (fun w9 h9 => by go_simp; congr 3; all_goals (rw [HB.out]; all_goals (by_cases h : x0 = y0 <;> simp [h] <;> omega)))) ?_
      try simp only [Act.put, List.setIfInBounds_toArray, List.set_cons_zero, List.set_cons_succ]
      refine wpAnyG_done (by kernel_rfl) (fun u hu => ?_)
      have hbu := Below.gr hb hu
      have BXu := Gr.blk hu BX
      have BYu := Gr.blk hu BY
      cases b
      · have hxy : x0 = y0 := by
          have := HB.out
          simpa using this
        have HXY := Lib.hid hxy
        clear hxy
        go_wp2
        exact ⟨⟨hbu, BXu, BYu, Lib.hid (.inr (.inr (.inr (.inr ⟨rfl, hk.out.1, hk.out.2.1, hk.out.2.2, HXY.out⟩))))⟩, by decide⟩
      · have hxy : x0 ≠ y0 := by
          have := HB.out
          simpa using this
        have hr2 := Lib.hid (HT.out.2.2.2.1 hk.out.1 hk.out.2.1 hk.out.2.2 hxy)
        have lXu := BXu.lt
        have lYu := BYu.lt
        have px : u.cell? ⟨w.heap.size, 0, none⟩ = some (.int .u64 (x0 : Int)) := BXu.cell 0
        have py : u.cell? ⟨w.heap.size + 1, 0, none⟩ = some (.int .u64 (y0 : Int)) := BYu.cell 0
        clear hxy hk HT
        go_wp2
        refine wp_region_G (fun _ => false) (by kernel_rfl) ?_
        try simp only [Act.put]
        refine wpAnyG_take 0 rfl (by kernel_rfl) (fun _ _ _ h => h) (YieldsG.pure (by rfl) (fun w9 _ => by go_simp; try with_reducible rfl)) ?_
        try simp only [Act.put, List.setIfInBounds_toArray, List.set_cons_zero, List.set_cons_succ]
        refine wpAnyG_take 1 rfl (by kernel_rfl) (fun _ _ _ h => h) (YieldsG.pure (by rfl) (fun w9 _ => by go_simp; try with_reducible rfl)) ?_
        try simp only [Act.put, List.setIfInBounds_toArray, List.set_cons_zero, List.set_cons_succ]
        refine wpAnyG_take 2 rfl (by kernel_rfl) (fun _ _ _ h => h) (YieldsG.pure (v := .int .u64 (x0 : Int)) (by rfl) (fun w9 h9 => by have hz := (Below.cell (p := ⟨w.heap.size, 0, none⟩) h9 lXu).trans px; go_simp; first | done | simp [hz])) ?_
        try simp only [Act.put, List.setIfInBounds_toArray, List.set_cons_zero, List.set_cons_succ]
        refine wpAnyG_take 3 rfl (by kernel_rfl) (fun _ _ _ h => h) (YieldsG.pure (by rfl) (fun w9 _ => by go_simp; try with_reducible rfl)) ?_
        try simp only [Act.put, List.setIfInBounds_toArray, List.set_cons_zero, List.set_cons_succ]
        refine wpAnyG_take 4 rfl (by kernel_rfl) (fun _ _ _ h => h) (YieldsG.pure (by rfl) (fun w9 _ => by go_simp; try with_reducible rfl)) ?_
        try simp only [Act.put, List.setIfInBounds_toArray, List.set_cons_zero, List.set_cons_succ]
        refine wpAnyG_take 5 rfl (by kernel_rfl) (fun _ _ _ h => h) (YieldsG.pure (v := .int .u64 (y0 : Int)) (by rfl) (fun w9 h9 => by have hz := (Below.cell (p := ⟨w.heap.size + 1, 0, none⟩) h9 lYu).trans py; go_simp; first | done | simp [hz])) ?_
        try simp only [Act.put, List.setIfInBounds_toArray, List.set_cons_zero, List.set_cons_succ]
        refine wpAnyG_take 6 rfl (by kernel_rfl) (fun _ _ _ h => h) (YieldsG.pure (v := .bool r) (by rfl) (fun w9 h9 => by go_simp; congr 3; rw [hr2.out]; all_goals (apply decide_eq_decide.2; omega))) ?_
        try simp only [Act.put, List.setIfInBounds_toArray, List.set_cons_zero, List.set_cons_succ]
        refine wpAnyG_take 7 rfl (by kernel_rfl) (fun _ _ _ h => h) (YieldsG.pure (by rfl) (fun w9 _ => by go_simp; try with_reducible rfl)) ?_
        try simp only [Act.put, List.setIfInBounds_toArray, List.set_cons_zero, List.set_cons_succ]
        refine wpAnyG_done (by kernel_rfl) (fun u2 hu2 => ?_)
        go_wp2
        go_ret
        exact ⟨rfl, Below.gr hbu hu2⟩
    · have HR : Hid (r = false) := Lib.hid (HT.out.2.2.2.2 E.1 E.2.1 E.2.2.1 E.2.2.2)
      clear HI E
      go_wp2
      go_ret
      exact ⟨by rw [HR.out]; rfl, hb⟩

end Go.Proofs.Ytlojidnlkflpnaa
