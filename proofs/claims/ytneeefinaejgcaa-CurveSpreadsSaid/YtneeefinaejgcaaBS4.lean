/-
  Texts of ours, put together: ScLow, FeB32, FeRead, RefSqrt, RootNum, CrvD, CrvP, CrvQ, EcW, CrvR, SymF, SymG, CrvS, CrvT, CrvU, ScRefN, CrvV, CrvW, CrvX, PLiftL, PLift2, CurveAlive, CurveMulsL, ScNum.
-/
import Derived.Test.YtneeefinaejgcaaBS3
set_option linter.unusedVariables false
set_option linter.unusedSimpArgs false
section
namespace Go.Proofs.Ytneeefinaejgcaa.Sc
open Go.RowKit Go.Lib

theorem order_any (w : World) : Calls Try.prog 109 #[] w fun e w' => e = .returned (fv 115792089237316195423570985008687907852837564279074904382605163141518161494337) ∧ Below w.heap.size w w' := by
  go_enter Try.func109, Try.ntmps109
  go_wp2
  exact bodyPost_ret (results_cell_row rfl _ _ w.heap.size _ _ (0, 0) _ rfl (heap_alloc_new w _) Try.underlying24 rfl (by kernel_rfl)) rfl ⟨rfl, (Below.refl _ _).alloc (Nat.le_refl _) _⟩
set_option maxHeartbeats 8000000 in
set_option maxRecDepth 100000 in
theorem minus_any (w : World) (x y : Nat) (hx : x < 115792089237316195423570985008687907853269984665640564039457584007913129639936) (hy : y < 115792089237316195423570985008687907853269984665640564039457584007913129639936) : Calls Try.prog 108 #[fv x, fv y] w fun e w' => (∃ s k : Nat, s < 115792089237316195423570985008687907853269984665640564039457584007913129639936 ∧ k ≤ 1 ∧ s + y = x + 115792089237316195423570985008687907853269984665640564039457584007913129639936 * k ∧ e = .returned (.tuple #[fv s, .int .u64 (k : Int)])) ∧ Below w.heap.size w w' := by
  obtain ⟨x0, x1, x2, x3, a0, a1, a2, a3, ex, fx⟩ := words_of x hx
  obtain ⟨y0, y1, y2, y3, b0, b1, b2, b3, ey, fy⟩ := words_of y hy
  rw [fx, fy]
  obtain ⟨s0, c0, d0, k0, e0, r0⟩ := sub0_ex x0 y0 a0 b0
  obtain ⟨s1, c1, d1, k1, e1, r1⟩ := subc_ex x1 y1 c0 a1 b1 k0
  obtain ⟨s2, c2, d2, k2, e2, r2⟩ := subc_ex x2 y2 c1 a2 b2 k1
  obtain ⟨s3, c3, d3, k3, e3, r3⟩ := subc_ex x3 y3 c2 a3 b3 k2
  have fin : s0 + 18446744073709551616 * s1 + 340282366920938463463374607431768211456 * s2 + 6277101735386680763835789423207666416102355444464034512896 * s3 + y = x + 115792089237316195423570985008687907853269984665640564039457584007913129639936 * c3 := by omega
  have hs := Lib.hid (fv_mk s0 s1 s2 s3 d0 d1 d2 d3)
  have hlt := Lib.hid (fv_lt s0 s1 s2 s3 d0 d1 d2 d3)
  have HF := Lib.hid fin
  have HK := Lib.hid k3
  clear ex ey fx fy e0 e1 e2 e3 a0 a1 a2 a3 b0 b1 b2 b3 d0 d1 d2 d3 k0 k1 k2 k3 fin hx hy
  go_enter Try.func108, Try.ntmps108
  go_wp2_with fail
  go_loopw [5, 7] (fun bo i wr => Below w.heap.size w wr ∧ Blk wr w.heap.size 24 #[.int .u64 (x0 : Int), .int .u64 (x1 : Int), .int .u64 (x2 : Int), .int .u64 (x3 : Int)] ∧ Blk wr (w.heap.size + 1) 24 #[.int .u64 (y0 : Int), .int .u64 (y1 : Int), .int .u64 (y2 : Int), .int .u64 (y3 : Int)] ∧ Hid ((i = .int .i64 0 ∧ bo = .int .u64 0 ∧ Blk wr (w.heap.size + 2) 24 #[.int .u64 0, .int .u64 0, .int .u64 0, .int .u64 0]) ∨ (i = .int .i64 1 ∧ bo = .int .u64 (c0 : Int) ∧ Blk wr (w.heap.size + 2) 24 #[.int .u64 (s0 : Int), .int .u64 0, .int .u64 0, .int .u64 0]) ∨ (i = .int .i64 2 ∧ bo = .int .u64 (c1 : Int) ∧ Blk wr (w.heap.size + 2) 24 #[.int .u64 (s0 : Int), .int .u64 (s1 : Int), .int .u64 0, .int .u64 0]) ∨ (i = .int .i64 3 ∧ bo = .int .u64 (c2 : Int) ∧ Blk wr (w.heap.size + 2) 24 #[.int .u64 (s0 : Int), .int .u64 (s1 : Int), .int .u64 (s2 : Int), .int .u64 0]) ∨ (i = .int .i64 4 ∧ bo = .int .u64 (c3 : Int) ∧ Blk wr (w.heap.size + 2) 24 #[.int .u64 (s0 : Int), .int .u64 (s1 : Int), .int .u64 (s2 : Int), .int .u64 (s3 : Int)]))) (fun _ i _ => 4 - (intOf i).toNat)
  case atStart => exact ⟨below_alloc3 w _ _ _, ((Blk.new w _ _).alloc _).alloc _, (blk_new2 w _ _ _).alloc _, Lib.hid (.inl ⟨rfl, rfl, blk_new3 w _ _ _ _⟩)⟩
  case round =>
    obtain ⟨hb, BX, BY, HI⟩ := hrel
    have lX := BX.lt
    have lY := BY.lt
    rcases HI.out with ⟨rfl, rfl, BW⟩ | ⟨rfl, rfl, BW⟩ | ⟨rfl, rfl, BW⟩ | ⟨rfl, rfl, BW⟩ | ⟨rfl, rfl, BW⟩
    · clear HI
      have px : wr.cell? ⟨w.heap.size, 0, none⟩ = some (.int .u64 (x0 : Int)) := BX.cell 0
      have py : wr.cell? ⟨w.heap.size + 1, 0, none⟩ = some (.int .u64 (y0 : Int)) := BY.cell 0
      go_wp2
      refine wp_region_G (fun j => j == 13) (by kernel_rfl) ?_
      try simp only [Act.put]
      refine wpAnyG_take 0 rfl (by kernel_rfl) (fun _ _ _ h => h) (YieldsG.pure (by rfl) (fun w9 _ => by go_simp; try with_reducible rfl)) ?_
      try simp only [Act.put, List.setIfInBounds_toArray, List.set_cons_zero, List.set_cons_succ]
      refine wpAnyG_take 1 rfl (by kernel_rfl) (fun _ _ _ h => h) (YieldsG.pure (by rfl) (fun w9 _ => by go_simp; try with_reducible rfl)) ?_
      try simp only [Act.put, List.setIfInBounds_toArray, List.set_cons_zero, List.set_cons_succ]
      refine wpAnyG_take 2 rfl (by kernel_rfl) (fun _ _ _ h => h) (YieldsG.pure (by rfl) (fun w9 _ => by go_simp; try with_reducible rfl)) ?_
      try simp only [Act.put, List.setIfInBounds_toArray, List.set_cons_zero, List.set_cons_succ]
      refine wpAnyG_take 3 rfl (by kernel_rfl) (fun _ _ _ h => h) (YieldsG.pure (v := .int .u64 (x0 : Int)) (by rfl) (fun w9 h9 => by have hz := (Below.cell (p := ⟨w.heap.size, 0, none⟩) h9 lX).trans px; go_simp; first | done | simp [hz])) ?_
      try simp only [Act.put, List.setIfInBounds_toArray, List.set_cons_zero, List.set_cons_succ]
      refine wpAnyG_take 4 rfl (by kernel_rfl) (fun _ _ _ h => h) (YieldsG.pure (by rfl) (fun w9 _ => by go_simp; try with_reducible rfl)) ?_
      try simp only [Act.put, List.setIfInBounds_toArray, List.set_cons_zero, List.set_cons_succ]
      refine wpAnyG_take 5 rfl (by kernel_rfl) (fun _ _ _ h => h) (YieldsG.pure (by rfl) (fun w9 _ => by go_simp; try with_reducible rfl)) ?_
      try simp only [Act.put, List.setIfInBounds_toArray, List.set_cons_zero, List.set_cons_succ]
      refine wpAnyG_take 6 rfl (by kernel_rfl) (fun _ _ _ h => h) (YieldsG.pure (v := .int .u64 (y0 : Int)) (by rfl) (fun w9 h9 => by have hz := (Below.cell (p := ⟨w.heap.size + 1, 0, none⟩) h9 lY).trans py; go_simp; first | done | simp [hz])) ?_
      try simp only [Act.put, List.setIfInBounds_toArray, List.set_cons_zero, List.set_cons_succ]
      refine wpAnyG_take 7 rfl (by kernel_rfl) (fun _ _ _ h => h) (YieldsG.pure (by rfl) (fun w9 _ => by go_simp; try with_reducible rfl)) ?_
      try simp only [Act.put, List.setIfInBounds_toArray, List.set_cons_zero, List.set_cons_succ]
      refine wpAnyG_take 8 rfl (by kernel_rfl) (fun _ _ _ h => h) (YieldsG.pure (v := .tuple #[.int .u64 (s0 : Int), .int .u64 (c0 : Int)]) (by rfl) (fun w9 h9 => by go_simp)) ?_
      try simp only [Act.put, List.setIfInBounds_toArray, List.set_cons_zero, List.set_cons_succ]
      refine wpAnyG_take 9 rfl (by kernel_rfl) (fun _ _ _ h => h) (YieldsG.pure (by rfl) (fun w9 _ => by go_simp; try with_reducible rfl)) ?_
      try simp only [Act.put, List.setIfInBounds_toArray, List.set_cons_zero, List.set_cons_succ]
      refine wpAnyG_take 10 rfl (by kernel_rfl) (fun _ _ _ h => h) (YieldsG.pure (by rfl) (fun w9 _ => by go_simp; try with_reducible rfl)) ?_
      try simp only [Act.put, List.setIfInBounds_toArray, List.set_cons_zero, List.set_cons_succ]
      refine wpAnyG_takeA 11 rfl (by kernel_rfl) (fun _ _ _ h => h) (fun _ => YieldsG.pure (by rfl) (fun w9 _ => by go_simp; try with_reducible rfl)) ?_
      try simp only [Act.put, List.setIfInBounds_toArray, List.set_cons_zero, List.set_cons_succ]
      refine wpAnyG_take 12 rfl (by kernel_rfl) (fun _ _ _ h => h) (YieldsG.pure (by rfl) (fun w9 _ => by go_simp; try with_reducible rfl)) ?_
      try simp only [Act.put, List.setIfInBounds_toArray, List.set_cons_zero, List.set_cons_succ]
      refine wpAnyG_sole 13 rfl (by kernel_rfl) (by rfl) (fun u hu K hK => ?_)
      have BX := Gr.blk hu BX
      have BY := Gr.blk hu BY
      have BW := Gr.blk hu BW
      have hb := Below.gr hb hu
      have pc : u.cell? ⟨w.heap.size + 2, 0, none⟩ = some (.int .u64 0) := BW.cell 0
      have pf := BW.frozen 0
      clear hu px py
      go_simp
      refine hK _ _ (fun e => by cases e) ?_
      clear hK K
      have hb := hb.setCell (p := ⟨w.heap.size + 2, 0, none⟩) (by show w.heap.size ≤ w.heap.size + 2; omega) (.int .u64 (s0 : Int))
      have BX := BX.far (p := ⟨w.heap.size + 2, 0, none⟩) (by show w.heap.size ≠ w.heap.size + 2; omega) (.int .u64 (s0 : Int))
      have BY := BY.far (p := ⟨w.heap.size + 2, 0, none⟩) (by show w.heap.size + 1 ≠ w.heap.size + 2; omega) (.int .u64 (s0 : Int))
      have BW := BW.set_ 0 (.int .u64 (s0 : Int))
      refine wpAnyG_takeA 14 rfl (by kernel_rfl) (fun _ _ _ h => h) (fun _ => YieldsG.pure (by rfl) (fun w9 _ => by go_simp; try with_reducible rfl)) ?_
      try simp only [Act.put, List.setIfInBounds_toArray, List.set_cons_zero, List.set_cons_succ]
      refine wpAnyG_done (by kernel_rfl) (fun v hv => ?_)
      have hb := Below.gr hb hv
      have BX := Gr.blk hv BX
      have BY := Gr.blk hv BY
      have BW := Gr.blk hv BW
      clear hv pc pf
      go_wp2
      refine ⟨⟨hb, BX, BY, Lib.hid (.inr (.inl (⟨rfl, rfl, BW⟩)))⟩, by decide⟩
    · clear HI
      have px : wr.cell? ⟨w.heap.size, 1, none⟩ = some (.int .u64 (x1 : Int)) := BX.cell 1
      have py : wr.cell? ⟨w.heap.size + 1, 1, none⟩ = some (.int .u64 (y1 : Int)) := BY.cell 1
      go_wp2
      refine wp_region_G (fun j => j == 13) (by kernel_rfl) ?_
      try simp only [Act.put]
      refine wpAnyG_take 0 rfl (by kernel_rfl) (fun _ _ _ h => h) (YieldsG.pure (by rfl) (fun w9 _ => by go_simp; try with_reducible rfl)) ?_
      try simp only [Act.put, List.setIfInBounds_toArray, List.set_cons_zero, List.set_cons_succ]
      refine wpAnyG_take 1 rfl (by kernel_rfl) (fun _ _ _ h => h) (YieldsG.pure (by rfl) (fun w9 _ => by go_simp; try with_reducible rfl)) ?_
      try simp only [Act.put, List.setIfInBounds_toArray, List.set_cons_zero, List.set_cons_succ]
      refine wpAnyG_take 2 rfl (by kernel_rfl) (fun _ _ _ h => h) (YieldsG.pure (by rfl) (fun w9 _ => by go_simp; try with_reducible rfl)) ?_
      try simp only [Act.put, List.setIfInBounds_toArray, List.set_cons_zero, List.set_cons_succ]
      refine wpAnyG_take 3 rfl (by kernel_rfl) (fun _ _ _ h => h) (YieldsG.pure (v := .int .u64 (x1 : Int)) (by rfl) (fun w9 h9 => by have hz := (Below.cell (p := ⟨w.heap.size, 1, none⟩) h9 lX).trans px; go_simp; first | done | simp [hz])) ?_
      try simp only [Act.put, List.setIfInBounds_toArray, List.set_cons_zero, List.set_cons_succ]
      refine wpAnyG_take 4 rfl (by kernel_rfl) (fun _ _ _ h => h) (YieldsG.pure (by rfl) (fun w9 _ => by go_simp; try with_reducible rfl)) ?_
      try simp only [Act.put, List.setIfInBounds_toArray, List.set_cons_zero, List.set_cons_succ]
      refine wpAnyG_take 5 rfl (by kernel_rfl) (fun _ _ _ h => h) (YieldsG.pure (by rfl) (fun w9 _ => by go_simp; try with_reducible rfl)) ?_
      try simp only [Act.put, List.setIfInBounds_toArray, List.set_cons_zero, List.set_cons_succ]
      refine wpAnyG_take 6 rfl (by kernel_rfl) (fun _ _ _ h => h) (YieldsG.pure (v := .int .u64 (y1 : Int)) (by rfl) (fun w9 h9 => by have hz := (Below.cell (p := ⟨w.heap.size + 1, 1, none⟩) h9 lY).trans py; go_simp; first | done | simp [hz])) ?_
      try simp only [Act.put, List.setIfInBounds_toArray, List.set_cons_zero, List.set_cons_succ]
      refine wpAnyG_take 7 rfl (by kernel_rfl) (fun _ _ _ h => h) (YieldsG.pure (by rfl) (fun w9 _ => by go_simp; try with_reducible rfl)) ?_
      try simp only [Act.put, List.setIfInBounds_toArray, List.set_cons_zero, List.set_cons_succ]
      refine wpAnyG_take 8 rfl (by kernel_rfl) (fun _ _ _ h => h) (YieldsG.pure (v := .tuple #[.int .u64 (s1 : Int), .int .u64 (c1 : Int)]) (by rfl) (fun w9 h9 => by go_simp)) ?_
      try simp only [Act.put, List.setIfInBounds_toArray, List.set_cons_zero, List.set_cons_succ]
      refine wpAnyG_take 9 rfl (by kernel_rfl) (fun _ _ _ h => h) (YieldsG.pure (by rfl) (fun w9 _ => by go_simp; try with_reducible rfl)) ?_
      try simp only [Act.put, List.setIfInBounds_toArray, List.set_cons_zero, List.set_cons_succ]
      refine wpAnyG_take 10 rfl (by kernel_rfl) (fun _ _ _ h => h) (YieldsG.pure (by rfl) (fun w9 _ => by go_simp; try with_reducible rfl)) ?_
      try simp only [Act.put, List.setIfInBounds_toArray, List.set_cons_zero, List.set_cons_succ]
      refine wpAnyG_takeA 11 rfl (by kernel_rfl) (fun _ _ _ h => h) (fun _ => YieldsG.pure (by rfl) (fun w9 _ => by go_simp; try with_reducible rfl)) ?_
      try simp only [Act.put, List.setIfInBounds_toArray, List.set_cons_zero, List.set_cons_succ]
      refine wpAnyG_take 12 rfl (by kernel_rfl) (fun _ _ _ h => h) (YieldsG.pure (by rfl) (fun w9 _ => by go_simp; try with_reducible rfl)) ?_
      try simp only [Act.put, List.setIfInBounds_toArray, List.set_cons_zero, List.set_cons_succ]
      refine wpAnyG_sole 13 rfl (by kernel_rfl) (by rfl) (fun u hu K hK => ?_)
      have BX := Gr.blk hu BX
      have BY := Gr.blk hu BY
      have BW := Gr.blk hu BW
      have hb := Below.gr hb hu
      have pc : u.cell? ⟨w.heap.size + 2, 1, none⟩ = some (.int .u64 0) := BW.cell 1
      have pf := BW.frozen 1
      clear hu px py
      go_simp
      refine hK _ _ (fun e => by cases e) ?_
      clear hK K
      have hb := hb.setCell (p := ⟨w.heap.size + 2, 1, none⟩) (by show w.heap.size ≤ w.heap.size + 2; omega) (.int .u64 (s1 : Int))
      have BX := BX.far (p := ⟨w.heap.size + 2, 1, none⟩) (by show w.heap.size ≠ w.heap.size + 2; omega) (.int .u64 (s1 : Int))
      have BY := BY.far (p := ⟨w.heap.size + 2, 1, none⟩) (by show w.heap.size + 1 ≠ w.heap.size + 2; omega) (.int .u64 (s1 : Int))
      have BW := BW.set_ 1 (.int .u64 (s1 : Int))
      refine wpAnyG_takeA 14 rfl (by kernel_rfl) (fun _ _ _ h => h) (fun _ => YieldsG.pure (by rfl) (fun w9 _ => by go_simp; try with_reducible rfl)) ?_
      try simp only [Act.put, List.setIfInBounds_toArray, List.set_cons_zero, List.set_cons_succ]
      refine wpAnyG_done (by kernel_rfl) (fun v hv => ?_)
      have hb := Below.gr hb hv
      have BX := Gr.blk hv BX
      have BY := Gr.blk hv BY
      have BW := Gr.blk hv BW
      clear hv pc pf
      go_wp2
      refine ⟨⟨hb, BX, BY, Lib.hid (.inr (.inr (.inl (⟨rfl, rfl, BW⟩))))⟩, by decide⟩
    · clear HI
      have px : wr.cell? ⟨w.heap.size, 2, none⟩ = some (.int .u64 (x2 : Int)) := BX.cell 2
      have py : wr.cell? ⟨w.heap.size + 1, 2, none⟩ = some (.int .u64 (y2 : Int)) := BY.cell 2
      go_wp2
      refine wp_region_G (fun j => j == 13) (by kernel_rfl) ?_
      try simp only [Act.put]
      refine wpAnyG_take 0 rfl (by kernel_rfl) (fun _ _ _ h => h) (YieldsG.pure (by rfl) (fun w9 _ => by go_simp; try with_reducible rfl)) ?_
      try simp only [Act.put, List.setIfInBounds_toArray, List.set_cons_zero, List.set_cons_succ]
      refine wpAnyG_take 1 rfl (by kernel_rfl) (fun _ _ _ h => h) (YieldsG.pure (by rfl) (fun w9 _ => by go_simp; try with_reducible rfl)) ?_
      try simp only [Act.put, List.setIfInBounds_toArray, List.set_cons_zero, List.set_cons_succ]
      refine wpAnyG_take 2 rfl (by kernel_rfl) (fun _ _ _ h => h) (YieldsG.pure (by rfl) (fun w9 _ => by go_simp; try with_reducible rfl)) ?_
      try simp only [Act.put, List.setIfInBounds_toArray, List.set_cons_zero, List.set_cons_succ]
      refine wpAnyG_take 3 rfl (by kernel_rfl) (fun _ _ _ h => h) (YieldsG.pure (v := .int .u64 (x2 : Int)) (by rfl) (fun w9 h9 => by have hz := (Below.cell (p := ⟨w.heap.size, 2, none⟩) h9 lX).trans px; go_simp; first | done | simp [hz])) ?_
      try simp only [Act.put, List.setIfInBounds_toArray, List.set_cons_zero, List.set_cons_succ]
      refine wpAnyG_take 4 rfl (by kernel_rfl) (fun _ _ _ h => h) (YieldsG.pure (by rfl) (fun w9 _ => by go_simp; try with_reducible rfl)) ?_
      try simp only [Act.put, List.setIfInBounds_toArray, List.set_cons_zero, List.set_cons_succ]
      refine wpAnyG_take 5 rfl (by kernel_rfl) (fun _ _ _ h => h) (YieldsG.pure (by rfl) (fun w9 _ => by go_simp; try with_reducible rfl)) ?_
      try simp only [Act.put, List.setIfInBounds_toArray, List.set_cons_zero, List.set_cons_succ]
      refine wpAnyG_take 6 rfl (by kernel_rfl) (fun _ _ _ h => h) (YieldsG.pure (v := .int .u64 (y2 : Int)) (by rfl) (fun w9 h9 => by have hz := (Below.cell (p := ⟨w.heap.size + 1, 2, none⟩) h9 lY).trans py; go_simp; first | done | simp [hz])) ?_
      try simp only [Act.put, List.setIfInBounds_toArray, List.set_cons_zero, List.set_cons_succ]
      refine wpAnyG_take 7 rfl (by kernel_rfl) (fun _ _ _ h => h) (YieldsG.pure (by rfl) (fun w9 _ => by go_simp; try with_reducible rfl)) ?_
      try simp only [Act.put, List.setIfInBounds_toArray, List.set_cons_zero, List.set_cons_succ]
      refine wpAnyG_take 8 rfl (by kernel_rfl) (fun _ _ _ h => h) (YieldsG.pure (v := .tuple #[.int .u64 (s2 : Int), .int .u64 (c2 : Int)]) (by rfl) (fun w9 h9 => by go_simp)) ?_
      try simp only [Act.put, List.setIfInBounds_toArray, List.set_cons_zero, List.set_cons_succ]
      refine wpAnyG_take 9 rfl (by kernel_rfl) (fun _ _ _ h => h) (YieldsG.pure (by rfl) (fun w9 _ => by go_simp; try with_reducible rfl)) ?_
      try simp only [Act.put, List.setIfInBounds_toArray, List.set_cons_zero, List.set_cons_succ]
      refine wpAnyG_take 10 rfl (by kernel_rfl) (fun _ _ _ h => h) (YieldsG.pure (by rfl) (fun w9 _ => by go_simp; try with_reducible rfl)) ?_
      try simp only [Act.put, List.setIfInBounds_toArray, List.set_cons_zero, List.set_cons_succ]
      refine wpAnyG_takeA 11 rfl (by kernel_rfl) (fun _ _ _ h => h) (fun _ => YieldsG.pure (by rfl) (fun w9 _ => by go_simp; try with_reducible rfl)) ?_
      try simp only [Act.put, List.setIfInBounds_toArray, List.set_cons_zero, List.set_cons_succ]
      refine wpAnyG_take 12 rfl (by kernel_rfl) (fun _ _ _ h => h) (YieldsG.pure (by rfl) (fun w9 _ => by go_simp; try with_reducible rfl)) ?_
      try simp only [Act.put, List.setIfInBounds_toArray, List.set_cons_zero, List.set_cons_succ]
      refine wpAnyG_sole 13 rfl (by kernel_rfl) (by rfl) (fun u hu K hK => ?_)
      have BX := Gr.blk hu BX
      have BY := Gr.blk hu BY
      have BW := Gr.blk hu BW
      have hb := Below.gr hb hu
      have pc : u.cell? ⟨w.heap.size + 2, 2, none⟩ = some (.int .u64 0) := BW.cell 2
      have pf := BW.frozen 2
      clear hu px py
      go_simp
      refine hK _ _ (fun e => by cases e) ?_
      clear hK K
      have hb := hb.setCell (p := ⟨w.heap.size + 2, 2, none⟩) (by show w.heap.size ≤ w.heap.size + 2; omega) (.int .u64 (s2 : Int))
      have BX := BX.far (p := ⟨w.heap.size + 2, 2, none⟩) (by show w.heap.size ≠ w.heap.size + 2; omega) (.int .u64 (s2 : Int))
      have BY := BY.far (p := ⟨w.heap.size + 2, 2, none⟩) (by show w.heap.size + 1 ≠ w.heap.size + 2; omega) (.int .u64 (s2 : Int))
      have BW := BW.set_ 2 (.int .u64 (s2 : Int))
      refine wpAnyG_takeA 14 rfl (by kernel_rfl) (fun _ _ _ h => h) (fun _ => YieldsG.pure (by rfl) (fun w9 _ => by go_simp; try with_reducible rfl)) ?_
      try simp only [Act.put, List.setIfInBounds_toArray, List.set_cons_zero, List.set_cons_succ]
      refine wpAnyG_done (by kernel_rfl) (fun v hv => ?_)
      have hb := Below.gr hb hv
      have BX := Gr.blk hv BX
      have BY := Gr.blk hv BY
      have BW := Gr.blk hv BW
      clear hv pc pf
      go_wp2
      refine ⟨⟨hb, BX, BY, Lib.hid (.inr (.inr (.inr (.inl (⟨rfl, rfl, BW⟩)))))⟩, by decide⟩
    · clear HI
      have px : wr.cell? ⟨w.heap.size, 3, none⟩ = some (.int .u64 (x3 : Int)) := BX.cell 3
      have py : wr.cell? ⟨w.heap.size + 1, 3, none⟩ = some (.int .u64 (y3 : Int)) := BY.cell 3
      go_wp2
      refine wp_region_G (fun j => j == 13) (by kernel_rfl) ?_
      try simp only [Act.put]
      refine wpAnyG_take 0 rfl (by kernel_rfl) (fun _ _ _ h => h) (YieldsG.pure (by rfl) (fun w9 _ => by go_simp; try with_reducible rfl)) ?_
      try simp only [Act.put, List.setIfInBounds_toArray, List.set_cons_zero, List.set_cons_succ]
      refine wpAnyG_take 1 rfl (by kernel_rfl) (fun _ _ _ h => h) (YieldsG.pure (by rfl) (fun w9 _ => by go_simp; try with_reducible rfl)) ?_
      try simp only [Act.put, List.setIfInBounds_toArray, List.set_cons_zero, List.set_cons_succ]
      refine wpAnyG_take 2 rfl (by kernel_rfl) (fun _ _ _ h => h) (YieldsG.pure (by rfl) (fun w9 _ => by go_simp; try with_reducible rfl)) ?_
      try simp only [Act.put, List.setIfInBounds_toArray, List.set_cons_zero, List.set_cons_succ]
      refine wpAnyG_take 3 rfl (by kernel_rfl) (fun _ _ _ h => h) (YieldsG.pure (v := .int .u64 (x3 : Int)) (by rfl) (fun w9 h9 => by have hz := (Below.cell (p := ⟨w.heap.size, 3, none⟩) h9 lX).trans px; go_simp; first | done | simp [hz])) ?_
      try simp only [Act.put, List.setIfInBounds_toArray, List.set_cons_zero, List.set_cons_succ]
      refine wpAnyG_take 4 rfl (by kernel_rfl) (fun _ _ _ h => h) (YieldsG.pure (by rfl) (fun w9 _ => by go_simp; try with_reducible rfl)) ?_
      try simp only [Act.put, List.setIfInBounds_toArray, List.set_cons_zero, List.set_cons_succ]
      refine wpAnyG_take 5 rfl (by kernel_rfl) (fun _ _ _ h => h) (YieldsG.pure (by rfl) (fun w9 _ => by go_simp; try with_reducible rfl)) ?_
      try simp only [Act.put, List.setIfInBounds_toArray, List.set_cons_zero, List.set_cons_succ]
      refine wpAnyG_take 6 rfl (by kernel_rfl) (fun _ _ _ h => h) (YieldsG.pure (v := .int .u64 (y3 : Int)) (by rfl) (fun w9 h9 => by have hz := (Below.cell (p := ⟨w.heap.size + 1, 3, none⟩) h9 lY).trans py; go_simp; first | done | simp [hz])) ?_
      try simp only [Act.put, List.setIfInBounds_toArray, List.set_cons_zero, List.set_cons_succ]
      refine wpAnyG_take 7 rfl (by kernel_rfl) (fun _ _ _ h => h) (YieldsG.pure (by rfl) (fun w9 _ => by go_simp; try with_reducible rfl)) ?_
      try simp only [Act.put, List.setIfInBounds_toArray, List.set_cons_zero, List.set_cons_succ]
      refine wpAnyG_take 8 rfl (by kernel_rfl) (fun _ _ _ h => h) (YieldsG.pure (v := .tuple #[.int .u64 (s3 : Int), .int .u64 (c3 : Int)]) (by rfl) (fun w9 h9 => by go_simp)) ?_
      try simp only [Act.put, List.setIfInBounds_toArray, List.set_cons_zero, List.set_cons_succ]
      refine wpAnyG_take 9 rfl (by kernel_rfl) (fun _ _ _ h => h) (YieldsG.pure (by rfl) (fun w9 _ => by go_simp; try with_reducible rfl)) ?_
      try simp only [Act.put, List.setIfInBounds_toArray, List.set_cons_zero, List.set_cons_succ]
      refine wpAnyG_take 10 rfl (by kernel_rfl) (fun _ _ _ h => h) (YieldsG.pure (by rfl) (fun w9 _ => by go_simp; try with_reducible rfl)) ?_
      try simp only [Act.put, List.setIfInBounds_toArray, List.set_cons_zero, List.set_cons_succ]
      refine wpAnyG_takeA 11 rfl (by kernel_rfl) (fun _ _ _ h => h) (fun _ => YieldsG.pure (by rfl) (fun w9 _ => by go_simp; try with_reducible rfl)) ?_
      try simp only [Act.put, List.setIfInBounds_toArray, List.set_cons_zero, List.set_cons_succ]
      refine wpAnyG_take 12 rfl (by kernel_rfl) (fun _ _ _ h => h) (YieldsG.pure (by rfl) (fun w9 _ => by go_simp; try with_reducible rfl)) ?_
      try simp only [Act.put, List.setIfInBounds_toArray, List.set_cons_zero, List.set_cons_succ]
      refine wpAnyG_sole 13 rfl (by kernel_rfl) (by rfl) (fun u hu K hK => ?_)
      have BX := Gr.blk hu BX
      have BY := Gr.blk hu BY
      have BW := Gr.blk hu BW
      have hb := Below.gr hb hu
      have pc : u.cell? ⟨w.heap.size + 2, 3, none⟩ = some (.int .u64 0) := BW.cell 3
      have pf := BW.frozen 3
      clear hu px py
      go_simp
      refine hK _ _ (fun e => by cases e) ?_
      clear hK K
      have hb := hb.setCell (p := ⟨w.heap.size + 2, 3, none⟩) (by show w.heap.size ≤ w.heap.size + 2; omega) (.int .u64 (s3 : Int))
      have BX := BX.far (p := ⟨w.heap.size + 2, 3, none⟩) (by show w.heap.size ≠ w.heap.size + 2; omega) (.int .u64 (s3 : Int))
      have BY := BY.far (p := ⟨w.heap.size + 2, 3, none⟩) (by show w.heap.size + 1 ≠ w.heap.size + 2; omega) (.int .u64 (s3 : Int))
      have BW := BW.set_ 3 (.int .u64 (s3 : Int))
      refine wpAnyG_takeA 14 rfl (by kernel_rfl) (fun _ _ _ h => h) (fun _ => YieldsG.pure (by rfl) (fun w9 _ => by go_simp; try with_reducible rfl)) ?_
      try simp only [Act.put, List.setIfInBounds_toArray, List.set_cons_zero, List.set_cons_succ]
      refine wpAnyG_done (by kernel_rfl) (fun v hv => ?_)
      have hb := Below.gr hb hv
      have BX := Gr.blk hv BX
      have BY := Gr.blk hv BY
      have BW := Gr.blk hv BW
      clear hv pc pf
      go_wp2
      refine ⟨⟨hb, BX, BY, Lib.hid (.inr (.inr (.inr (.inr (⟨rfl, rfl, BW⟩)))))⟩, by decide⟩
    · clear HI
      obtain ⟨s, hsd⟩ : ∃ s, s = s0 + 18446744073709551616 * s1 + 340282366920938463463374607431768211456 * s2 + 6277101735386680763835789423207666416102355444464034512896 * s3 := ⟨_, rfl⟩
      have hf := hs.out
      have hl := hlt.out
      have hn := HF.out
      rw [← hsd] at hf hl hn
      have BS := BW.eq_ (fcs_words hf.symm).symm
      have HS := Lib.hid (And.intro hl hn)
      clear hf hl hn hsd
      go_wp2_with (first | ((with_reducible refine here_load (d := some 24) ?_); refine wpList_load_fv rfl _ _ rfl (w.heap.size + 2) rfl (s) _ _ _ (BS) (fv_fcs s) Try.underlying24 rfl (by kernel_rfl) ?_) | ((with_reducible refine here_store ?_); refine wpList_store_blk rfl _ _ _ rfl (w.heap.size + 2) (fcs (s)) rfl rfl _ _ (BS) (by kernel_rfl) (by rfl) (fcs_one _) ?_; intro w9 hL9 hB9 hK9))
      exact bodyPost_ret (res_cell_tmp rfl _ _ (w.heap.size + 2) _ _ _ _ rfl hL9 rfl Try.underlying24 rfl (by kernel_rfl)) rfl ⟨⟨s, c3, HS.out.1, HK.out, HS.out.2, rfl⟩, hb.trans (hB9 _ (by omega))⟩
theorem minus_fv (w : World) (x y s k : Nat) (hx : x < 115792089237316195423570985008687907853269984665640564039457584007913129639936) (hy : y < 115792089237316195423570985008687907853269984665640564039457584007913129639936) (hs : s < 115792089237316195423570985008687907853269984665640564039457584007913129639936) (he : s + y = x + 115792089237316195423570985008687907853269984665640564039457584007913129639936 * k) :
    Calls Try.prog 108 #[fv x, fv y] w fun e w' => e = .returned (.tuple #[fv s, .int .u64 (k : Int)]) ∧ Below w.heap.size w w' := by
  refine (minus_any w x y hx hy).mono ?_
  rintro e w' ⟨⟨s', k', hs', hk', he', rfl⟩, hb⟩
  obtain rfl : k' = k := by omega
  obtain rfl : s' = s := by omega
  exact ⟨rfl, hb⟩
theorem order_at (w : World) (p : Nat) (hp : p = 115792089237316195423570985008687907852837564279074904382605163141518161494337) : Calls Try.prog 109 #[] w fun e w' => e = .returned (fv p) ∧ Below w.heap.size w w' := by
  subst hp; exact order_any w
set_option maxHeartbeats 2000000 in
set_option maxRecDepth 100000 in
theorem reduce_at (w : World) (x k z : Nat) (dk : Int) (hdk : dk = (k : Int)) (hx : x < 115792089237316195423570985008687907853269984665640564039457584007913129639936) (hk : k ≤ 1) (h2 : x + 115792089237316195423570985008687907853269984665640564039457584007913129639936 * k < 115792089237316195423570985008687907852837564279074904382605163141518161494337 + 115792089237316195423570985008687907852837564279074904382605163141518161494337) (hz : z = (x + 115792089237316195423570985008687907853269984665640564039457584007913129639936 * k) % pM) : Calls Try.prog 107 #[fv x, .int .u64 dk] w fun e w' => e = .returned (fv z) ∧ Below w.heap.size w w' := by
  subst hdk
  obtain ⟨p, hp⟩ : ∃ p, p = 115792089237316195423570985008687907852837564279074904382605163141518161494337 := ⟨_, rfl⟩
  rw [pM_eq, ← hp] at hz
  rw [← hp] at h2
  have hpl : p < 115792089237316195423570985008687907853269984665640564039457584007913129639936 := by omega
  obtain ⟨s, b, hs, hb, he⟩ : ∃ s b : Nat, s < 115792089237316195423570985008687907853269984665640564039457584007913129639936 ∧ b ≤ 1 ∧ s + p = x + 115792089237316195423570985008687907853269984665640564039457584007913129639936 * b := by
    by_cases h : p ≤ x
    · exact ⟨x - p, 0, by omega, by omega, by omega⟩
    · exact ⟨x + 115792089237316195423570985008687907853269984665640564039457584007913129639936 - p, 1, by omega, by omega, by omega⟩
  have cm := fun w => minus_fv w x p s b hx hpl hs he
  have co := fun w => order_at w p hp
  have t1 : b > k → z = x := fun h => by
    obtain rfl : k = 0 := by omega
    rw [hz, Nat.mod_eq_of_lt (by omega)]; omega
  have t2 : ¬ b > k → z = s := fun h => by
    rw [hz, Nat.mod_eq_sub_mod (by omega), Nat.mod_eq_of_lt (by omega)]
    rcases (show k = 0 ∨ k = 1 by omega) with rfl | rfl <;> omega
  obtain ⟨x0, x1, x2, x3, fx⟩ := words_fv x hx
  have FX := Lib.hid fx
  rw [fx]
  clear fx hx hz hp h2 hpl hs hb he hk
  go_enter Try.func107, Try.ntmps107
  go_wp2
  refine wp_region_G (fun j => j == 7) (by kernel_rfl) ?_
  try simp only [Act.put]
  refine wpAnyG_take 0 rfl (by kernel_rfl) (fun _ _ _ h => h) (YieldsG.loadF (by rfl) _ _ rfl (w.heap.size) rfl (x) _ _ ((Blk.new w _ _).alloc _) (FX.out) Try.underlying24 rfl (by kernel_rfl)) ?_
  try simp only [Act.put, List.setIfInBounds_toArray, List.set_cons_zero, List.set_cons_succ]
  refine wpAnyG_take 1 rfl (by kernel_rfl) (fun _ _ _ h => h) (YieldsG.call (v := fv p) (by rfl) 109 _ (fun w9 => by go_simp; try (first | with_reducible rfl | rfl)) (fun w9 h9 => co w9)) ?_
  try simp only [Act.put, List.setIfInBounds_toArray, List.set_cons_zero, List.set_cons_succ]
  refine wpAnyG_take 2 rfl (by kernel_rfl) (fun _ _ _ h => h) (YieldsG.call (v := .tuple #[fv s, .int .u64 (b : Int)]) (by rfl) 108 _ (fun w9 => by go_simp; try (first | with_reducible rfl | rfl)) (fun w9 h9 => cm w9)) ?_
  try simp only [Act.put, List.setIfInBounds_toArray, List.set_cons_zero, List.set_cons_succ]
  refine wpAnyG_take 3 rfl (by kernel_rfl) (fun _ _ _ h => h) (YieldsG.pure (by rfl) (fun w9 _ => by go_simp; try with_reducible rfl)) ?_
  try simp only [Act.put, List.setIfInBounds_toArray, List.set_cons_zero, List.set_cons_succ]
  refine wpAnyG_take 4 rfl (by kernel_rfl) (fun _ _ _ h => h) (YieldsG.pure (by rfl) (fun w9 _ => by go_simp; try with_reducible rfl)) ?_
  try simp only [Act.put, List.setIfInBounds_toArray, List.set_cons_zero, List.set_cons_succ]
  refine wpAnyG_takeA 5 rfl (by kernel_rfl) (fun _ _ _ h => h) (fun _ => YieldsG.pure (by rfl) (fun w9 _ => by go_simp; try with_reducible rfl)) ?_
  try simp only [Act.put, List.setIfInBounds_toArray, List.set_cons_zero, List.set_cons_succ]
  refine wpAnyG_sole 6 rfl (by kernel_rfl) (by rfl) (fun w3 h3 K hK => ?_)
  go_simp
  refine hK _ _ (fun _ => gr_alloc _ _) ?_
  clear hK K
  try simp only [Act.put, List.setIfInBounds_toArray, List.set_cons_zero, List.set_cons_succ]
  refine wpAnyG_store 7 rfl (by kernel_rfl) (by rfl) _ _ _ rfl (w3.heap.size) (fcs (s)) rfl rfl _ _ (Blk.new w3 _ _) (by kernel_rfl) (by rfl) (fcs_one _) rfl (fun w6 h6 w7 hB7 hL7 => ?_)
  try simp only [Act.put]
  refine wpAnyG_takeA 8 rfl (by kernel_rfl) (fun _ _ _ h => h) (fun _ => YieldsG.pure (by rfl) (fun w9 _ => by go_simp; try with_reducible rfl)) ?_
  try simp only [Act.put, List.setIfInBounds_toArray, List.set_cons_zero, List.set_cons_succ]
  refine wpAnyG_done (by kernel_rfl) (fun w8 h8 => ?_)
  have BS := Gr.blk h8 hL7
  have hsz : w.heap.size + 2 ≤ w3.heap.size := by have := h3.size; simp at this; omega
  have BX : Blk w8 w.heap.size 24 _ := Gr.blk h8 (Blk.below (B := w3.heap.size) (Gr.blk h6 (Blk.alloc (Gr.blk h3 ((Blk.new w _ _).alloc _)) _)) (hB7 _ (Nat.le_refl _)) (by omega))
  have BR : Blk w8 (w.heap.size + 1) 24 _ := Gr.blk h8 (Blk.below (B := w3.heap.size) (Gr.blk h6 (Blk.alloc (Gr.blk h3 (blk_new2 w _ _ _)) _)) (hB7 _ (Nat.le_refl _)) (by omega))
  have hB : Below w.heap.size w w8 := Below.gr ((Below.gr ((Below.gr (below_alloc2 w _ _) h3).alloc (by omega) _) h6).trans (hB7 _ (by omega))) h8
  clear h3 h6 hB7 hL7 h8 cm co
  by_cases hbk : b > k
  · have HZ := Lib.hid (t1 hbk)
    have p0 : (b : Int) > (k : Int) := by omega
    clear t1 t2 hbk
    go_wp2_with (first | ((with_reducible refine here_load (d := some 16) ?_); refine wpList_load_fv rfl _ _ rfl (w.heap.size) rfl (x) _ _ _ (BX) (FX.out) Try.underlying24 rfl (by kernel_rfl) ?_) | ((with_reducible refine here_store ?_); refine wpList_store_blk rfl _ _ _ rfl (w.heap.size + 1) (fcs (x)) rfl rfl _ _ (BR) (by kernel_rfl) (by rfl) (fcs_one _) ?_; intro w9 hL9 hB9 hK9))
    exact bodyPost_ret (results_cell_row rfl _ _ (w.heap.size + 1) _ _ (0, 0) _ rfl hL9 Try.underlying24 rfl (by kernel_rfl)) rfl ⟨by rw [HZ.out]; rfl, hB.trans (hB9 _ (by omega))⟩
  · have HZ := Lib.hid (t2 hbk)
    have p0 : ¬ (b : Int) > (k : Int) := by omega
    clear t1 t2 hbk
    go_wp2_with (first | ((with_reducible refine here_load (d := some 17) ?_); refine wpList_load_fv rfl _ _ rfl (w3.heap.size) rfl (s) _ _ _ (BS) (fv_fcs s) Try.underlying24 rfl (by kernel_rfl) ?_) | ((with_reducible refine here_store ?_); refine wpList_store_blk rfl _ _ _ rfl (w.heap.size + 1) (fcs (s)) rfl rfl _ _ (BR) (by kernel_rfl) (by rfl) (fcs_one _) ?_; intro w9 hL9 hB9 hK9))
    exact bodyPost_ret (results_cell_row rfl _ _ (w.heap.size + 1) _ _ (0, 0) _ rfl hL9 Try.underlying24 rfl (by kernel_rfl)) rfl ⟨by rw [HZ.out]; rfl, hB.trans (hB9 _ (by omega))⟩
set_option maxHeartbeats 1000000 in
theorem norm_any (w : World) (x : Nat) (hx : x < 115792089237316195423570985008687907853269984665640564039457584007913129639936) : Calls Try.prog 106 #[fv x] w fun e w' => e = .returned (fv (x % pM)) ∧ Below w.heap.size w w' := by
  obtain ⟨z, hz⟩ : ∃ z, z = x % pM := ⟨_, rfl⟩
  have cr := fun w => reduce_at w x 0 z 0 rfl hx (by omega) (by omega) (by rw [hz]; rfl)
  obtain ⟨x0, x1, x2, x3, fx⟩ := words_fv x hx
  have FX := Lib.hid fx
  rw [fx] at cr ⊢
  rw [← hz]
  clear fx hx hz
  go_enter Try.func106, Try.ntmps106
  go_wp2_with fail
  refine (cr _).mono ?_
  rintro e w1 ⟨rfl, hb1⟩
  have hg := Below.gr (below_alloc2 w _ _) hb1
  have hR : Blk w1 (w.heap.size + 1) 24 _ := Gr.blk hb1 (blk_new2 w _ _ _)
  go_wp2_with (first | ((with_reducible refine here_store ?_); refine wpList_store_blk rfl _ _ _ rfl (w.heap.size + 1) (fcs (z)) rfl rfl _ _ (hR) (by kernel_rfl) (by rfl) (fcs_one _) ?_; intro w4 hL hB4 hK4))
  exact bodyPost_ret (results_cell_row rfl _ _ (w.heap.size + 1) _ _ (0, 0) _ rfl hL Try.underlying24 rfl (by kernel_rfl)) rfl ⟨rfl, hg.trans (hB4 _ (by omega))⟩
set_option maxHeartbeats 8000000 in
set_option maxRecDepth 100000 in
theorem bytes_any (w : World) (x : Nat) (hx : x < 115792089237316195423570985008687907853269984665640564039457584007913129639936) : Calls Try.prog 100 #[fv x] w fun e w' => e = .returned (.agg ((bytesS (x % pM)).map bv).toArray) ∧ Below w.heap.size w w' := by
  obtain ⟨z, hz⟩ : ∃ z, z = x % pM := ⟨_, rfl⟩
  have hzl : z < 115792089237316195423570985008687907853269984665640564039457584007913129639936 := by rw [hz]; exact mod_lt x
  have cn : ∀ w, Calls Try.prog 106 #[fv x] w fun e w' => e = .returned (fv z) ∧ Below w.heap.size w w' := by
    intro w; rw [hz]; exact norm_any w x hx
  rw [← hz]
  obtain ⟨z0, z1, z2, z3, a0, a1, a2, a3, ez, fz⟩ := words_of z hzl
  have HZ := Lib.hid (And.intro a0 (And.intro a1 (And.intro a2 (And.intro a3 ez))))
  have FZ := Lib.hid fz
  obtain ⟨x0, x1, x2, x3, fx⟩ := words_fv x hx
  rw [fx] at cn ⊢
  clear fx fz hz hzl a0 a1 a2 a3 ez hx
  have hZB : Hid ((List.replicate 32 (Value.int .u8 0)).toArray = ((partB z 0).map bv).toArray) := Lib.hid (by simp [partB, lowB, bv])
  go_enter Try.func100, Try.ntmps100
  go_wp2_with fail
  refine (cn _).mono ?_
  rintro e w1 ⟨rfl, hb⟩
  have BR : Blk w1 (w.heap.size + 1) 81 _ := Gr.blk hb (Blk.alloc (blk_new2 w _ _ _) _)
  have BB : Blk w1 (w.heap.size + 2) 81 ((partB z 0).map bv).toArray := Blk.eq_ (Gr.blk hb (blk_new3 w _ _ _ _)) hZB.out
  have hB := Below.gr (below_alloc3 w _ _ _) hb
  have sz := BB.lt
  clear hb cn
  go_wp2_with (first | ((with_reducible refine here_store ?_); refine wpList_store_blk rfl _ _ _ rfl (w1.heap.size) (fcs (z)) rfl rfl _ _ (Blk.new w1 _ _) (by kernel_rfl) (by rfl) (fcs_one _) ?_; intro w2 hL2 hB2 hK2; have CR := hK2 _ (by omega) _ _ (BR.alloc _); have CB := hK2 _ (by omega) _ _ (BB.alloc _); have hC := (hB.alloc (by omega) _).trans (hB2 _ (by omega))))
  go_loopw [8] (fun i wr => ∃ k : Nat, k ≤ 32 ∧ i = .int .i64 (k : Int) ∧ Below w.heap.size w wr ∧ Blk wr (w.heap.size + 2) 81 ((partB z k).map bv).toArray ∧ Blk wr w1.heap.size 24 #[.int .u64 (z0 : Int), .int .u64 (z1 : Int), .int .u64 (z2 : Int), .int .u64 (z3 : Int)] ∧ Blk wr (w.heap.size + 1) 81 (List.replicate 32 (Value.int .u8 0)).toArray) (fun i _ => 32 - (intOf i).toNat)
  case atStart => exact ⟨0, by omega, rfl, hC, CB, hL2.eq_ (fcs_words FZ.out), CR⟩
  case round =>
    obtain ⟨k, hk, rfl, hb, hP, hN, hR⟩ := hrel
    by_cases hlt : k < 32
    · have ce : ∀ j, j < 32 → ∃ v, wr.cell? ⟨w.heap.size + 1 + 1, j, none⟩ = some v := fun j hj => ⟨_, (hP.cell j).trans (Array.getElem?_eq_getElem (by simp [partB_length z k hk]; exact hj))⟩
      obtain ⟨v, hv⟩ := ce (31 - k) (by omega)
      have ff := hP.frozen (31 - k)
      have q0 : wr.cell? ⟨w1.heap.size, 0, none⟩ = some (.int .u64 (z0 : Int)) := hN.cell 0
      have q1 : wr.cell? ⟨w1.heap.size, 1, none⟩ = some (.int .u64 (z1 : Int)) := hN.cell 1
      have q2 : wr.cell? ⟨w1.heap.size, 2, none⟩ = some (.int .u64 (z2 : Int)) := hN.cell 2
      have q3 : wr.cell? ⟨w1.heap.size, 3, none⟩ = some (.int .u64 (z3 : Int)) := hN.cell 3
      have hPn := hP.set_ (31 - k) (bv (byteN z k))
      rw [partB_set z k hlt] at hPn
      have HP := Lib.hid hPn
      clear hPn ce
      have HR := Lib.hid (And.intro hb (And.intro hN hR))
      clear hb hP hN hR hk
      have hsz : w.heap.size + 2 < w1.heap.size := sz
      rcases (show k = 0 ∨ k = 1 ∨ k = 2 ∨ k = 3 ∨ k = 4 ∨ k = 5 ∨ k = 6 ∨ k = 7 ∨ k = 8 ∨ k = 9 ∨ k = 10 ∨ k = 11 ∨ k = 12 ∨ k = 13 ∨ k = 14 ∨ k = 15 ∨ k = 16 ∨ k = 17 ∨ k = 18 ∨ k = 19 ∨ k = 20 ∨ k = 21 ∨ k = 22 ∨ k = 23 ∨ k = 24 ∨ k = 25 ∨ k = 26 ∨ k = 27 ∨ k = 28 ∨ k = 29 ∨ k = 30 ∨ k = 31 by omega) with rfl | rfl | rfl | rfl | rfl | rfl | rfl | rfl | rfl | rfl | rfl | rfl | rfl | rfl | rfl | rfl | rfl | rfl | rfl | rfl | rfl | rfl | rfl | rfl | rfl | rfl | rfl | rfl | rfl | rfl | rfl | rfl
      all_goals
        go_wp2
        obtain ⟨a0, a1, a2, a3, ez⟩ := HZ.out
        refine ⟨⟨_, by decide, rfl, HR.out.1.setCell (by show w.heap.size ≤ w.heap.size + 1 + 1; omega) _, HP.out.val (by rw [bv_byteN]; congr 1; omega), HR.out.2.1.far (by show w1.heap.size ≠ w.heap.size + 1 + 1; omega) _, HR.out.2.2.far (by show w.heap.size + 1 ≠ w.heap.size + 1 + 1; omega) _⟩, by simp [intOf]⟩
    · have p1 : ¬ (k : Int) < 32 := by omega
      obtain rfl : k = 32 := by omega
      rw [partB_full] at hP
      have HI := Lib.hid (bytesS_length z)
      have HL := Lib.hid hP
      have HR := Lib.hid hR
      clear hN hP hR
      go_wp2_with (first | ((with_reducible refine here_load (d := some 24) ?_); refine wpList_load_blk rfl _ _ rfl (w.heap.size + 2) rfl _ _ _ HL.out Try.underlying81 rfl (b32_info HI.out) ?_) | ((with_reducible refine here_store ?_); refine wpList_store_blk rfl _ _ _ rfl (w.heap.size + 1) ((bytesS z).map bv).toArray rfl rfl _ _ HR.out (b32_info HI.out) (by simp [HI.out]) (b32_one _) ?_; intro w9 hL9 hB9 hK9))
      exact bodyPost_ret (results_cell_row rfl _ _ (w.heap.size + 1) _ _ (0, 0) _ rfl hL9 Try.underlying81 rfl (b32_info HI.out)) rfl ⟨rfl, hb.trans (hB9 _ (by omega))⟩

end Go.Proofs.Ytneeefinaejgcaa.Sc

end
section
namespace Go.Proofs.Ytneeefinaejgcaa
open Go.RowKit Go.Lib

end Go.Proofs.Ytneeefinaejgcaa

end
section
namespace Go.Proofs.Ytneeefinaejgcaa
open Go.RowKit Go.Lib

end Go.Proofs.Ytneeefinaejgcaa

end
section
namespace Go.Proofs.Ytneeefinaejgcaa
open Go.RowKit Go.Lib

end Go.Proofs.Ytneeefinaejgcaa

end
section
namespace Go.Proofs.Ytneeefinaejgcaa
open Go.RowKit Go.Lib

end Go.Proofs.Ytneeefinaejgcaa

end
section
namespace Go.Proofs.Ytneeefinaejgcaa.Cu
open Go.RowKit Go.Proofs.Ytneeefinaejgcaa Go.Proofs.Ytneeefinaejgcaa.Sy

theorem key_at (l : List UInt8) {n : Nat} (hl : l.length = n) (k : Nat) (hk : k < n) : (l.map bv).toArray[k]? = some (bv (l.getD k 0)) := by
  have : k < l.length := by omega
  simp [List.getD, this]
end Go.Proofs.Ytneeefinaejgcaa.Cu

end
section
namespace Go.Proofs.Ytneeefinaejgcaa.Cu
open Go.RowKit Go.Proofs.Ytneeefinaejgcaa Go.Proofs.Ytneeefinaejgcaa.Sy

/-- the digits of a number to the base 16, the highest of 64 first -/
def dg (m j : Nat) : Nat := m / 16 ^ (63 - j) % 16
def dgA (m j : Nat) : List Value := [.int .u8 ((dg m j : Nat) : Int)]
theorem dgA_len (m : Nat) : ∀ j, (dgA m j).length = 1 := fun _ => rfl
theorem byte_get (m k : Nat) (hk : k < 32) : ((bytesS m).getD k 0).toNat = m / 2 ^ (8 * (31 - k)) % 256 := by
  have h : ∀ n j, j < n → (lowB m n).getD j 0 = byteN m (n - 1 - j) := by
    intro n
    induction n with
    | zero => intro j hj; omega
    | succ n ih =>
      intro j hj
      cases j with
      | zero => rfl
      | succ j =>
        show (lowB m n).getD j 0 = _
        rw [ih j (by omega)]
        congr 1
        omega
  unfold bytesS
  rw [h 32 k hk, show 32 - 1 - k = 31 - k by omega]
  unfold byteN
  rw [UInt8.toNat_ofNat']
  omega
theorem p16 (k : Nat) : (2 : Nat) ^ (8 * k) = 16 ^ (2 * k) := by
  rw [show 8 * k = 4 * (2 * k) by omega, Nat.pow_mul]
theorem dg_hi (m k : Nat) (hk : k < 32) : ((bytesS m).getD k 0).toNat / 16 = dg m (2 * k) := by
  rw [byte_get m k hk, p16]
  unfold dg
  rw [show 63 - 2 * k = 2 * (31 - k) + 1 by omega, Nat.pow_succ, ← Nat.div_div_eq_div_mul]
  omega
theorem dg_lo (m k : Nat) (hk : k < 32) : ((bytesS m).getD k 0).toNat % 16 = dg m (2 * k + 1) := by
  rw [byte_get m k hk, p16]
  unfold dg
  rw [show 63 - (2 * k + 1) = 2 * (31 - k) by omega]
  omega
theorem exec_hi (F : Slots) (o : Oper) (t : TypeId) (x y : Operand) {yt : TypeId} (b : UInt8) (d : Nat) (ho : o.op = .binOp .shr t x y yt) (hx : evF F x = bv b) (hy : evF F y = .int .u64 4) (h : b.toNat / 16 = d) (w : World) : (execOp (evF F) o).run Try.prog w = .ok (.value (.int .u8 ((d : Nat) : Int))) w :=
  exec_int .shr t x y .u8 (b.toNat : Int) 4 _ ho hx hy (int_shr t .u8 .u64 _ _ _ (by decide) (by
    show Int.fdiv (b.toNat : Int) ((16 : Nat) : Int) = _
    rw [← h, Int.fdiv_eq_ediv_of_nonneg _ (by omega)]
    omega)) w
theorem and15 : ∀ n : Fin 256, IntKind.u8.wrap ((BitVec.ofInt 8 ((n.val : Nat) : Int) &&& BitVec.ofInt 8 15).toNat : Int) = ((n.val % 16 : Nat) : Int) := by decide +kernel
theorem exec_lo (F : Slots) (o : Oper) (t : TypeId) (x y : Operand) {yt : TypeId} (b : UInt8) (d : Nat) (ho : o.op = .binOp .and t x y yt) (hx : evF F x = bv b) (hy : evF F y = .int .u8 15) (h : b.toNat % 16 = d) (w : World) : (execOp (evF F) o).run Try.prog w = .ok (.value (.int .u8 ((d : Nat) : Int))) w :=
  exec_int .and t x y .u8 (b.toNat : Int) 15 _ ho hx hy (int_and t .u8 _ _ _ (by
    rw [← h]
    exact and15 ⟨b.toNat, b.toNat_lt⟩)) w
set_option maxHeartbeats 4000000 in
set_option maxRecDepth 100000 in
theorem digits_c (w : World) (x : Nat) (hx : x < K4) : Calls Try.prog 81 #[fv x] w (Gets w (.agg (flat (dgA (x % Sc.pM)) 64).toArray)) := by
  obtain ⟨m, hm⟩ : ∃ m, m = x % Sc.pM := ⟨_, rfl⟩
  obtain ⟨l, hl0⟩ : ∃ l, l = bytesS m := ⟨_, rfl⟩
  have hl : l.length = 32 := by rw [hl0]; exact bytesS_length m
  have cB : ∀ w, Calls Try.prog 100 #[fv x] w (Gets w (.agg (l.map bv).toArray)) := fun w => by rw [hl0, hm]; exact Sc.bytes_any w x hx
  rw [← hm]
  refine Sy.enter (args := [fv x]) Try.func81 rfl (Nat.le_of_ble_eq_true (by kernel_rfl)) ?_
  refine Sy.seq ?_
  refine Sy.region ?_
  refine Sy.make (by kernel_rfl) 24 (fcs x) ptr (fun _ => by kernel_rfl) (fun g0 => ?_)
  refine Sy.make (by kernel_rfl) 110 (flat (fun _ => [.int .u8 0]) 64).toArray ptr (fun _ => by kernel_rfl) (fun g1 => ?_)
  refine Sy.nil ?_
  refine Sy.then_ ?_
  refine Sy.seq ?_
  refine Sy.region ?_
  refine Sy.make (by kernel_rfl) 110 (flat (fun _ => [.int .u8 0]) 64).toArray ptr (fun _ => by kernel_rfl) (fun g2 => ?_)
  refine Sy.nil ?_
  refine Sy.then_ ?_
  refine Sy.seq ?_
  refine Sy.seq ?_
  refine Sy.region ?_
  refine Sy.step (by kernel_rfl) (fv x) (Quiet.load 0 g0 0 4 24 24 (fcs x) _ _ rfl (by kernel_rfl) (by kernel_rfl) Try.underlying24 rfl (by kernel_rfl) _ (by kernel_rfl) (Nat.le_of_ble_eq_true (by kernel_rfl))) ?_
  refine Sy.step (by kernel_rfl) (.agg (l.map bv).toArray) (Quiet.call 100 #[fv x] (fun _ => by kernel_rfl) (cB)) ?_
  refine Sy.step (by kernel_rfl) (.int .i64 0) (Quiet.pure (fun _ => by kernel_rfl)) ?_
  refine Sy.nil ?_
  refine Sy.then_ ?_
  refine Sy.block ?_
  refine Sy.loopK 32 (fun k1 => [(2, .pointer (some ⟨g1, 0, none⟩)), (3, .pointer (some ⟨g2, 0, none⟩)), (7, .agg (l.map bv).toArray), (8, .int .i64 ((k1 : Nat) : Int))]) (fun k1 => [(g1, 110, (flat (fun _ => [.int .u8 0]) 64).toArray), (g2, 110, (flat (upto (2 * k1) (dgA m) [.int .u8 0]) 64).toArray)]) [false, true, true] (M := [(g1, 110, (flat (fun _ => [.int .u8 0]) 64).toArray), (g2, 110, (flat (fun _ => [.int .u8 0]) 64).toArray)]) (all_cons (by kernel_rfl) (all_cons (by kernel_rfl) (all_cons (by kernel_rfl) (all_cons (by kernel_rfl) all_nil)))) (by kernel_rfl) (bcons rfl (bcons (beq (upto_zero)) rfl)) (fun k1 hk1 => ?_)
  refine Sy.seq ?_
  refine Sy.region ?_
  obtain ⟨b1, hb1⟩ : ∃ z : Bool, z = decide (k1 < 32) := ⟨_, rfl⟩
  refine Sy.step (by kernel_rfl) (.bool b1) (Quiet.pure (exec_int .lss _ _ _ .i64 _ _ _ rfl rfl rfl (int_lss _ _ _ _ _ (by rw [hb1]; exact decide_eq_decide.2 (by omega))))) ?_
  refine Sy.nil ?_
  refine Sy.then_ ?_
  refine Sy.seq ?_
  cases b1
  · have lb1 : ¬ (k1 < 32) := of_decide_eq_false hb1.symm
    refine Sy.cond_f (by kernel_rfl) (by kernel_rfl) ?_
    refine Sy.exit ?_
    refine Sy.then_exit ?_
    refine Sy.then_exit ?_
    obtain rfl : k1 = 32 := by omega
    refine Sy.in_exit ?_
    refine Sy.then_ ?_
    refine Sy.seq ?_
    refine Sy.region ?_
    refine Sy.step (by kernel_rfl) (.agg (flat (upto (2 * 32) (dgA m) [.int .u8 0]) 64).toArray) (Quiet.load 1 g2 0 64 110 110 (flat (upto (2 * 32) (dgA m) [.int .u8 0]) 64).toArray _ _ rfl (by kernel_rfl) (by kernel_rfl) Try.underlying110 rfl (by kernel_rfl) _ (flat_whole (upto_len (dgA_len m) rfl _) rfl) (flat_wsize (upto_len (dgA_len m) rfl _) rfl)) ?_
    refine Sy.write (by kernel_rfl) 0 g1 110 (flat (fun _ => [.int .u8 0]) 64).toArray (flat (upto (2 * 32) (dgA m) [.int .u8 0]) 64).toArray (by kernel_rfl) (Writes.store 0 110 (flat (upto (2 * 32) (dgA m) [.int .u8 0]) 64).toArray _ _ rfl (by kernel_rfl) (by kernel_rfl) (flat_info (upto_len (dgA_len m) rfl _) (by kernel_rfl)) (flat_over (upto_len (dgA_len m) rfl _) rfl (by kernel_rfl)) (flat_one (upto_len (dgA_len m) rfl _) _ (upto_one (fun _ u hu => by rw [List.mem_singleton.1 hu]; rfl) (fun u hu => by rw [List.mem_singleton.1 hu]; rfl) _)) (flat_put (upto_len (dgA_len m) rfl _) (by kernel_rfl))) ?_
    refine Sy.nil ?_
    refine Sy.then_ ?_
    refine Sy.ret ?_
    rw [show (.agg (flat (dgA m) 64).toArray : Value) = .agg (flat (upto (2 * 32) (dgA m) [.int .u8 0]) 64).toArray from congrArg Value.agg upto_all.symm]
    exact Sy.ret1 rfl (v := .agg (flat (upto (2 * 32) (dgA m) [.int .u8 0]) 64).toArray) (.inl (Res.cell (ty' := 110) g1 0 (flat (upto (2 * 32) (dgA m) [.int .u8 0]) 64).toArray _ (by kernel_rfl) (by kernel_rfl) Try.underlying110 rfl (flat_info (upto_len (dgA_len m) rfl _) (by kernel_rfl)) rfl))
  · have lb1 : k1 < 32 := of_decide_eq_true hb1.symm
    refine Sy.cond_t (by kernel_rfl) (by kernel_rfl) ?_
    refine Sy.skip ?_
    refine Sy.then_ ?_
    refine Sy.seq ?_
    refine Sy.block ?_
    refine Sy.seq ?_
    refine Sy.region ?_
    refine Sy.step (by kernel_rfl) (.int .i64 ((k1 : Nat) : Int)) (Quiet.pure (fun _ => by kernel_rfl)) ?_
    refine Sy.step (by kernel_rfl) (bv (l.getD k1 0)) (Quiet.pure (exec_idx _ _ _ _ _ 32 k1 .i64 _ _ rfl rfl rfl Try.underlying81 Try.underlying5 rfl (fun _ => by kernel_rfl) (by omega) (key_at l hl k1 (by omega)))) ?_
    refine Sy.step (by kernel_rfl) (.int .i64 ((k1 : Nat) : Int)) (Quiet.pure (fun _ => by kernel_rfl)) ?_
    refine Sy.step (by kernel_rfl) (bv (l.getD k1 0)) (Quiet.pure (fun _ => by kernel_rfl)) ?_
    refine Sy.nil ?_
    refine Sy.then_ ?_
    refine Sy.region ?_
    refine Sy.step (by kernel_rfl) (.int .i64 ((k1 : Nat) : Int)) (Quiet.pure (fun _ => by kernel_rfl)) ?_
    refine Sy.step (by kernel_rfl) (.int .i64 ((2 * k1 : Nat) : Int)) (Quiet.pure (exec_int .mul _ _ _ .i64 _ _ _ rfl rfl rfl (int_mul _ _ _ _ _ ((wrap_i64 (by omega) (by omega)).trans (by omega))))) ?_
    refine Sy.step (by kernel_rfl) (.int .i64 ((k1 : Nat) : Int)) (Quiet.pure (fun _ => by kernel_rfl)) ?_
    refine Sy.step (by kernel_rfl) (.int .i64 ((2 * k1 : Nat) : Int)) (Quiet.pure (exec_int .mul _ _ _ .i64 _ _ _ rfl rfl rfl (int_mul _ _ _ _ _ ((wrap_i64 (by omega) (by omega)).trans (by omega))))) ?_
    refine Sy.step (by kernel_rfl) (.int .i64 (((2 * k1) + 1 : Nat) : Int)) (Quiet.pure (exec_int .add _ _ _ .i64 _ _ _ rfl rfl rfl (int_add _ _ _ _ _ ((wrap_i64 (by omega) (by omega)).trans (by omega))))) ?_
    refine Sy.step (by kernel_rfl) (bv (l.getD k1 0)) (Quiet.pure (fun _ => by kernel_rfl)) ?_
    refine Sy.step (by kernel_rfl) (.int .u8 ((dg m (2 * k1) : Nat) : Int)) (Quiet.pure (exec_hi _ _ _ _ _ (l.getD k1 0) _ rfl rfl rfl (by rw [hl0]; exact dg_hi m k1 (by omega)))) ?_
    refine Sy.step (by kernel_rfl) (bv (l.getD k1 0)) (Quiet.pure (fun _ => by kernel_rfl)) ?_
    refine Sy.step (by kernel_rfl) (.int .u8 ((dg m (2 * k1 + 1) : Nat) : Int)) (Quiet.pure (exec_lo _ _ _ _ _ (l.getD k1 0) _ rfl rfl rfl (by rw [hl0]; exact dg_lo m k1 (by omega)))) ?_
    refine Sy.step (by kernel_rfl) (.pointer (some ⟨g2, 0 + (2 * k1) * 1, none⟩)) (Quiet.pure (exec_atA 110 _ _ _ g2 0 _ (2 * k1) 1 .i64 rfl rfl rfl Try.underlying110 (fun _ => by kernel_rfl) (by omega))) ?_
    refine Sy.write (by kernel_rfl) 1 g2 110 (flat (upto (2 * k1) (dgA m) [.int .u8 0]) 64).toArray (flat (upto (2 * k1 + 1) (dgA m) [.int .u8 0]) 64).toArray (by kernel_rfl) (Writes.one (0 + (2 * k1) * 1) 5 (.int .u8 ((dg m (2 * k1) : Nat) : Int)) _ _ rfl (by kernel_rfl) (by kernel_rfl) (by kernel_rfl) rfl rfl (flat_lt1 (upto_len (dgA_len m) rfl _) (k := 2 * k1) (by omega) (by omega)) ((congrArg (Array.setIfInBounds _ · _) (show 0 + (2 * k1) * 1 = 2 * k1 by omega)).trans (upto_set1 (dgA_len m) (rfl) (by omega)))) ?_
    refine Sy.step (by kernel_rfl) (.pointer (some ⟨g2, 0 + ((2 * k1) + 1) * 1, none⟩)) (Quiet.pure (exec_atA 110 _ _ _ g2 0 _ ((2 * k1) + 1) 1 .i64 rfl rfl rfl Try.underlying110 (fun _ => by kernel_rfl) (by omega))) ?_
    refine Sy.write (by kernel_rfl) 1 g2 110 (flat (upto (2 * k1 + 1) (dgA m) [.int .u8 0]) 64).toArray (flat (upto (2 * k1 + 1 + 1) (dgA m) [.int .u8 0]) 64).toArray (by kernel_rfl) (Writes.one (0 + ((2 * k1) + 1) * 1) 5 (.int .u8 ((dg m (2 * k1 + 1) : Nat) : Int)) _ _ rfl (by kernel_rfl) (by kernel_rfl) (by kernel_rfl) rfl rfl (flat_lt1 (upto_len (dgA_len m) rfl _) (k := 2 * k1 + 1) (by omega) (by omega)) ((congrArg (Array.setIfInBounds _ · _) (show 0 + ((2 * k1) + 1) * 1 = 2 * k1 + 1 by omega)).trans (upto_set1 (dgA_len m) (rfl) (by omega)))) ?_
    refine Sy.nil ?_
    refine Sy.in_ ?_
    refine Sy.then_ ?_
    refine Sy.region ?_
    refine Sy.step (by kernel_rfl) (.int .i64 ((k1 + 1 : Nat) : Int)) (Quiet.pure (exec_int .add _ _ _ .i64 _ _ _ rfl rfl rfl (int_add _ _ _ _ _ ((wrap_i64 (by omega) (by omega)).trans (by omega))))) ?_
    refine Sy.step (by kernel_rfl) (.int .i64 ((k1 + 1 : Nat) : Int)) (Quiet.pure (fun _ => by kernel_rfl)) ?_
    refine Sy.nil ?_
    exact Sy.againK [true, true] (M := [(g1, 110, (flat (fun _ => [.int .u8 0]) 64).toArray), (g2, 110, (flat (upto (2 * k1 + 1 + 1) (dgA m) [.int .u8 0]) 64).toArray)]) (by omega) (all_cons (by kernel_rfl) (all_cons (by kernel_rfl) (all_cons (by kernel_rfl) (all_cons (by kernel_rfl) all_nil)))) (by kernel_rfl) (bcons rfl (bcons (beq (congrArg (fun t => (flat (upto t (dgA m) [.int .u8 0]) 64).toArray) (show 2 * k1 + 1 + 1 = 2 * (k1 + 1) by omega))) rfl))
def tws (x y z : Nat) : List Value := fws x ++ (fws y ++ fws z)
def jws (a : J) : List Value := tws a.x.val a.y.val a.z.val
/-- so many times a point -/
def fewL (a : J) : Nat → J
  | 0 => ⟨0, 0, 0⟩
  | k + 1 => addJ (fewL a k) a
theorem fewL_rep {a : J} {P : Pt} (hP : Ec.On P) (h : Ec.Rep a P) : ∀ k, Ec.Rep (fewL a k) (Ec.nm finv k P)
  | 0 => rfl
  | k + 1 => addJ_rep (hP.nm fld k) hP (fewL_rep hP h k) h
def fewA (a : J) (j : Nat) : List Value := jws (fewL a j)
theorem fewA_len (a : J) : ∀ j, (fewA a j).length = 12 := fun _ => rfl
theorem few_first (a : J) : (flat (fun _ => tws 0 0 0) 16).toArray = (flat (upto 1 (fewA a) (tws 0 0 0)) 16).toArray := congrArg List.toArray (flat_congr fun j _ => by
  unfold upto
  split
  · obtain rfl : j = 0 := by omega
    rfl
  · rfl)
theorem jws_one (a : J) : ∀ u ∈ jws a, u.oneCell' = true := fun u hu => by
  unfold jws tws fws at hu
  simp [qv] at hu
  rcases hu with rfl | rfl | rfl | rfl | rfl | rfl | rfl | rfl | rfl | rfl | rfl | rfl <;> rfl
set_option maxHeartbeats 4000000 in
set_option maxRecDepth 100000 in
theorem few_c (w : World) (P : Pt) (x y : Nat) (i : Bool) (hP : ptv P = pv x y i) : Calls Try.prog 82 #[pv x y i] w (Gets w (.agg (flat (fewA (threeJ P)) 16).toArray)) := by
  obtain ⟨a, ha⟩ : ∃ a, a = threeJ P := ⟨_, rfl⟩
  have c3 : ∀ w, Calls Try.prog 101 #[pv x y i] w (Gets w (tv a.x.val a.y.val a.z.val)) := fun w => by
    have h := three_c w P
    rw [hP, ← ha] at h
    exact h
  rw [← ha]
  refine Sy.enter (args := [pv x y i]) Try.func82 rfl (Nat.le_of_ble_eq_true (by kernel_rfl)) ?_
  refine Sy.seq ?_
  refine Sy.region ?_
  refine Sy.make (by kernel_rfl) 27 (pcs x y i) ptr (fun _ => by kernel_rfl) (fun g0 => ?_)
  refine Sy.make (by kernel_rfl) 112 (flat (fun _ => tws 0 0 0) 16).toArray ptr (fun _ => by kernel_rfl) (fun g1 => ?_)
  refine Sy.nil ?_
  refine Sy.then_ ?_
  refine Sy.seq ?_
  refine Sy.region ?_
  refine Sy.make (by kernel_rfl) 112 (flat (fun _ => tws 0 0 0) 16).toArray ptr (fun _ => by kernel_rfl) (fun g2 => ?_)
  refine Sy.nil ?_
  refine Sy.then_ ?_
  refine Sy.seq ?_
  refine Sy.region ?_
  refine Sy.step (by kernel_rfl) (pv x y i) (Quiet.load 0 g0 0 9 27 27 (pcs x y i) _ _ rfl (by kernel_rfl) (by kernel_rfl) Try.underlying27 rfl (by kernel_rfl) _ (by kernel_rfl) (Nat.le_of_ble_eq_true (by kernel_rfl))) ?_
  refine Sy.step (by kernel_rfl) (tv a.x.val a.y.val a.z.val) (Quiet.call 101 #[pv x y i] (fun _ => by kernel_rfl) (c3)) ?_
  refine Sy.make (by kernel_rfl) 73 (tcs 0 0 0) ptr (fun _ => by kernel_rfl) (fun g3 => ?_)
  refine Sy.write (by kernel_rfl) 3 g3 73 (tcs 0 0 0) (tcs a.x.val a.y.val a.z.val) (by kernel_rfl) (Writes.store 0 73 (tcs a.x.val a.y.val a.z.val) _ _ rfl (by kernel_rfl) (by kernel_rfl) (by kernel_rfl) (Nat.le_of_ble_eq_true (by kernel_rfl)) (by kernel_rfl) (by kernel_rfl)) ?_
  refine Sy.nil ?_
  refine Sy.then_ ?_
  refine Sy.seq ?_
  refine Sy.seq ?_
  refine Sy.region ?_
  refine Sy.step (by kernel_rfl) (.int .i64 1) (Quiet.pure (fun _ => by kernel_rfl)) ?_
  refine Sy.nil ?_
  refine Sy.then_ ?_
  refine Sy.block ?_
  refine Sy.loopK 15 (fun k1 => [(2, .pointer (some ⟨g1, 0, none⟩)), (3, .pointer (some ⟨g2, 0, none⟩)), (4, .pointer (some ⟨g3, 0, none⟩)), (5, .int .i64 ((k1 + 1 : Nat) : Int))]) (fun k1 => [(g1, 112, (flat (fun _ => tws 0 0 0) 16).toArray), (g2, 112, (flat (upto (k1 + 1) (fewA a) (tws 0 0 0)) 16).toArray), (g3, 73, (tcs a.x.val a.y.val a.z.val))]) [false, true, true, true] (M := [(g1, 112, (flat (fun _ => tws 0 0 0) 16).toArray), (g2, 112, (flat (fun _ => tws 0 0 0) 16).toArray), (g3, 73, (tcs a.x.val a.y.val a.z.val))]) (all_cons (by kernel_rfl) (all_cons (by kernel_rfl) (all_cons (by kernel_rfl) (all_cons (by kernel_rfl) all_nil)))) (by kernel_rfl) (bcons rfl (bcons (beq (few_first a)) (bcons rfl rfl))) (fun k1 hk1 => ?_)
  refine Sy.seq ?_
  refine Sy.seq ?_
  refine Sy.region ?_
  refine Sy.step (by kernel_rfl) (.int .i64 ((k1 + 1 : Nat) : Int)) (Quiet.pure (fun _ => by kernel_rfl)) ?_
  obtain ⟨b1, hb1⟩ : ∃ z : Bool, z = decide (k1 + 1 < 16) := ⟨_, rfl⟩
  refine Sy.step (by kernel_rfl) (.bool b1) (Quiet.pure (exec_int .lss _ _ _ .i64 _ _ _ rfl rfl rfl (int_lss _ _ _ _ _ (by rw [hb1]; exact decide_eq_decide.2 (by omega))))) ?_
  refine Sy.nil ?_
  refine Sy.then_ ?_
  cases b1
  · have lb1 : ¬ (k1 + 1 < 16) := of_decide_eq_false hb1.symm
    refine Sy.cond_f (by kernel_rfl) (by kernel_rfl) ?_
    refine Sy.exit ?_
    refine Sy.then_exit ?_
    refine Sy.then_exit ?_
    obtain rfl : k1 = 15 := by omega
    refine Sy.in_exit ?_
    refine Sy.then_ ?_
    refine Sy.seq ?_
    refine Sy.region ?_
    refine Sy.step (by kernel_rfl) (.agg (flat (upto (15 + 1) (fewA a) (tws 0 0 0)) 16).toArray) (Quiet.load 1 g2 0 192 112 112 (flat (upto (15 + 1) (fewA a) (tws 0 0 0)) 16).toArray _ _ rfl (by kernel_rfl) (by kernel_rfl) Try.underlying112 rfl (by kernel_rfl) _ (flat_whole (upto_len (fewA_len a) rfl _) rfl) (flat_wsize (upto_len (fewA_len a) rfl _) rfl)) ?_
    refine Sy.write (by kernel_rfl) 0 g1 112 (flat (fun _ => tws 0 0 0) 16).toArray (flat (upto (15 + 1) (fewA a) (tws 0 0 0)) 16).toArray (by kernel_rfl) (Writes.store 0 112 (flat (upto (15 + 1) (fewA a) (tws 0 0 0)) 16).toArray _ _ rfl (by kernel_rfl) (by kernel_rfl) (flat_info (upto_len (fewA_len a) rfl _) (by kernel_rfl)) (flat_over (upto_len (fewA_len a) rfl _) rfl (by kernel_rfl)) (flat_one (upto_len (fewA_len a) rfl _) _ (upto_one (fun _ => jws_one _) (jws_one ⟨0, 0, 0⟩) _)) (flat_put (upto_len (fewA_len a) rfl _) (by kernel_rfl))) ?_
    refine Sy.nil ?_
    refine Sy.then_ ?_
    refine Sy.ret ?_
    rw [show (.agg (flat (fewA a) 16).toArray : Value) = .agg (flat (upto (15 + 1) (fewA a) (tws 0 0 0)) 16).toArray from congrArg Value.agg upto_all.symm]
    exact Sy.ret1 rfl (v := .agg (flat (upto (15 + 1) (fewA a) (tws 0 0 0)) 16).toArray) (.inl (Res.cell (ty' := 112) g1 0 (flat (upto (15 + 1) (fewA a) (tws 0 0 0)) 16).toArray _ (by kernel_rfl) (by kernel_rfl) Try.underlying112 rfl (flat_info (upto_len (fewA_len a) rfl _) (by kernel_rfl)) rfl))
  · have lb1 : k1 + 1 < 16 := of_decide_eq_true hb1.symm
    refine Sy.cond_t (by kernel_rfl) (by kernel_rfl) ?_
    refine Sy.skip ?_
    refine Sy.then_ ?_
    refine Sy.seq ?_
    refine Sy.block ?_
    refine Sy.regionD (fun j => j == 8) (by kernel_rfl) ?_
    refine Sy.stepD 0 rfl (by kernel_rfl) (fun _ _ _ _ h => h) (by kernel_rfl) (.int .i64 ((k1 + 1 : Nat) : Int)) (Quiet.pure (fun _ => by kernel_rfl)) ?_
    refine Sy.stepD 1 rfl (by kernel_rfl) (fun _ _ _ _ h => h) (by kernel_rfl) (.int .i64 ((k1 + 1 : Nat) : Int)) (Quiet.pure (fun _ => by kernel_rfl)) ?_
    refine Sy.stepD 2 rfl (by kernel_rfl) (fun _ _ _ _ h => h) (by kernel_rfl) (.int .i64 (((k1 + 1) - 1 : Nat) : Int)) (Quiet.pure (exec_int .sub _ _ _ .i64 _ _ _ rfl rfl rfl (int_sub _ _ _ _ _ ((wrap_i64 (by omega) (by omega)).trans (by omega))))) ?_
    refine Sy.stepD 3 rfl (by kernel_rfl) (fun _ _ _ _ h => h) (by kernel_rfl) (.pointer (some ⟨g2, 0 + ((k1 + 1) - 1) * 12, none⟩)) (Quiet.pure (exec_atA 112 _ _ _ g2 0 _ ((k1 + 1) - 1) 12 .i64 rfl rfl rfl Try.underlying112 (fun _ => by kernel_rfl) (by omega))) ?_
    refine Sy.stepD 4 rfl (by kernel_rfl) (fun _ _ _ _ h => h) (by kernel_rfl) (tv ((fewL a ((k1 + 1) - 1)).x.val) ((fewL a ((k1 + 1) - 1)).y.val) ((fewL a ((k1 + 1) - 1)).z.val)) (Quiet.load 1 g2 (0 + ((k1 + 1) - 1) * 12) 12 112 73 (flat (upto (k1 + 1) (fewA a) (tws 0 0 0)) 16).toArray _ _ rfl (by kernel_rfl) (by kernel_rfl) Try.underlying73 rfl (by kernel_rfl) _ ((flat_load (upto_len (fewA_len a) rfl _) (k := (k1 + 1) - 1) (by omega) (by omega)).trans ((congrArg (fun l : List Value => Value.agg l.toArray) (upto_lt (by omega))).trans (by kernel_rfl))) (flat_fit (upto_len (fewA_len a) rfl _) (k := (k1 + 1) - 1) (by omega) (by omega))) ?_
    refine Sy.stepD 5 rfl (by kernel_rfl) (fun _ _ _ _ h => h) (by kernel_rfl) (tv a.x.val a.y.val a.z.val) (Quiet.load 2 g3 0 12 73 73 (tcs a.x.val a.y.val a.z.val) _ _ rfl (by kernel_rfl) (by kernel_rfl) Try.underlying73 rfl (by kernel_rfl) _ (by kernel_rfl) (Nat.le_of_ble_eq_true (by kernel_rfl))) ?_
    obtain ⟨j1, hj1⟩ : ∃ z : J, z = addJ (fewL a ((k1 + 1) - 1)) a := ⟨_, rfl⟩
    refine Sy.stepD 6 rfl (by kernel_rfl) (fun _ _ _ _ h => h) (by kernel_rfl) (tv j1.x.val j1.y.val j1.z.val) (Quiet.call 45 #[tv ((fewL a ((k1 + 1) - 1)).x.val) ((fewL a ((k1 + 1) - 1)).y.val) ((fewL a ((k1 + 1) - 1)).z.val), tv a.x.val a.y.val a.z.val] (fun _ => by kernel_rfl) (fun w => by rw [hj1]; exact addJ_c w (fewL a ((k1 + 1) - 1)) a)) ?_
    refine Sy.stepD 7 rfl (by kernel_rfl) (fun _ _ _ _ h => h) (by kernel_rfl) (.pointer (some ⟨g2, 0 + (k1 + 1) * 12, none⟩)) (Quiet.pure (exec_atA 112 _ _ _ g2 0 _ (k1 + 1) 12 .i64 rfl rfl rfl Try.underlying112 (fun _ => by kernel_rfl) (by omega))) ?_
    refine Sy.writeD 8 rfl (by kernel_rfl) (by rfl) (by kernel_rfl) 1 g2 112 (flat (upto (k1 + 1) (fewA a) (tws 0 0 0)) 16).toArray (flat (upto (k1 + 1 + 1) (fewA a) (tws 0 0 0)) 16).toArray (by kernel_rfl) (Writes.store (0 + (k1 + 1) * 12) 73 (tcs j1.x.val j1.y.val j1.z.val) _ _ rfl (by kernel_rfl) (by kernel_rfl) (by kernel_rfl) (flat_fit (upto_len (fewA_len a) rfl _) (k := k1 + 1) (by omega) (by omega)) (by kernel_rfl) (upto_set (v := (tcs j1.x.val j1.y.val j1.z.val).toList) (fewA_len a) rfl (by rw [hj1]; rfl) (by omega) (by omega))) ?_
    refine Sy.doneD (by kernel_rfl) ?_
    refine Sy.in_ ?_
    refine Sy.then_ ?_
    refine Sy.region ?_
    refine Sy.step (by kernel_rfl) (.int .i64 ((k1 + 1 : Nat) : Int)) (Quiet.pure (fun _ => by kernel_rfl)) ?_
    refine Sy.step (by kernel_rfl) (.int .i64 (((k1 + 1) + 1 : Nat) : Int)) (Quiet.pure (exec_int .add _ _ _ .i64 _ _ _ rfl rfl rfl (int_add _ _ _ _ _ ((wrap_i64 (by omega) (by omega)).trans (by omega))))) ?_
    refine Sy.step (by kernel_rfl) (.int .i64 (((k1 + 1) + 1 : Nat) : Int)) (Quiet.pure (fun _ => by kernel_rfl)) ?_
    refine Sy.nil ?_
    exact Sy.againK [true, true, true] (M := [(g1, 112, (flat (fun _ => tws 0 0 0) 16).toArray), (g2, 112, (flat (upto (k1 + 1 + 1) (fewA a) (tws 0 0 0)) 16).toArray), (g3, 73, (tcs a.x.val a.y.val a.z.val))]) (by omega) (all_cons (by kernel_rfl) (all_cons (by kernel_rfl) (all_cons (by kernel_rfl) (all_cons (by kernel_rfl) all_nil)))) (by kernel_rfl) (bcons rfl (bcons rfl (bcons rfl rfl)))
end Go.Proofs.Ytneeefinaejgcaa.Cu

end
section
namespace Go.Proofs.Ytneeefinaejgcaa.Cu
open Go.RowKit Go.Proofs.Ytneeefinaejgcaa Go.Proofs.Ytneeefinaejgcaa.Sy

/-- a factor and a point, as they came in -/
structure Trm where
  k : Nat
  x : Nat
  y : Nat
  i : Bool
def trcs (k x y : Nat) (i : Bool) : Array Value := (fws k ++ (fws x ++ (fws y ++ [Value.bool i]))).toArray
def trv (k x y : Nat) (i : Bool) : Value := .agg (trcs k x y i)
def Trm.cells (t : Trm) : List Value := fws t.k ++ (fws t.x ++ (fws t.y ++ [Value.bool t.i]))
def Trm.ok (t : Trm) : Prop := t.k < K4 ∧ t.x < K4 ∧ t.y < K4
def Trm.pt (t : Trm) : Pt := dec t.x t.y t.i
/-- the factor modulo n -/
def Trm.kn (t : Trm) : Nat := t.k % Sc.pM
/-- its digits, and what they can make of the point -/
def tmA (t : Trm) : List Value := flat (dgA t.kn) 64 ++ flat (fewA (threeJ t.pt)) 16
def tmcs (t : Trm) : Array Value := (tmA t).toArray
theorem tmA_len (T : Nat → Trm) : ∀ j, (tmA (T j)).length = 256 := fun _ => by
  unfold tmA
  rw [List.length_append, flat_len (dgA_len _), flat_len (fewA_len _)]
def zt : List Value := List.replicate 64 (.int .u8 0) ++ List.replicate 192 (.int .u64 0)
noncomputable def infTm : TypeInfo := (Try.prog.info? 115).getD default
theorem info_tm : Try.prog.info? 115 = some infTm := by kernel_rfl
theorem dg_lt (m j : Nat) : dg m j < 16 := Nat.mod_lt _ (by decide)
theorem few_p (w : World) (P : Pt) : Calls Try.prog 82 #[ptv P] w (Gets w (.agg (flat (fewA (threeJ P)) 16).toArray)) := by
  rcases P with _ | ⟨u, v⟩
  · exact few_c w none 0 0 true rfl
  · exact few_c w (some (u, v)) u.val v.val false rfl
def dbN (a : J) : Nat → J
  | 0 => a
  | j + 1 => dblJ (dbN a j)
/-- the terms' digits in place i, added one behind the other -/
def inJ (T : Nat → Trm) (i : Nat) (a : J) : Nat → J
  | 0 => a
  | j + 1 => addJ (inJ T i a j) (fewL (threeJ (T j).pt) (dg (T j).kn i))
/-- digit by digit -/
def muJ (T : Nat → Trm) (n : Nat) : Nat → J
  | 0 => ⟨0, 0, 0⟩
  | i + 1 => inJ T i (dbN (muJ T n i) 4) n
set_option maxHeartbeats 4000000 in
set_option maxRecDepth 100000 in
theorem at_c (w : World) (g off i : Nat) (t : Trm) (hg : g < w.heap.size) (hi : i < 64) (hr : w.rangeAt g off (tmA t)) : Calls Try.prog 83 #[.pointer (some ⟨g, off, none⟩), .int .i64 ((i : Nat) : Int)] w (Gets w (tv (fewL (threeJ t.pt) (dg t.kn i)).x.val (fewL (threeJ t.pt) (dg t.kn i)).y.val (fewL (threeJ t.pt) (dg t.kn i)).z.val)) := by
  have hd := dg_lt t.kn i
  refine Sy.enter (args := [.pointer (some ⟨g, off, none⟩), .int .i64 ((i : Nat) : Int)]) Try.func83 rfl (Nat.le_of_ble_eq_true (by kernel_rfl)) ?_
  refine Sy.seq ?_
  refine Sy.region ?_
  refine Sy.make (by kernel_rfl) 73 (tcs 0 0 0) ptr (fun _ => by kernel_rfl) (fun g0 => ?_)
  refine Sy.nil ?_
  refine Sy.then_ ?_
  refine Sy.seq ?_
  refine Sy.regionD (fun j => j == 11) (by kernel_rfl) ?_
  refine Sy.stepD 0 rfl (by kernel_rfl) (fun _ _ _ _ h => h) (by kernel_rfl) (.pointer (some ⟨g, off, none⟩)) (Quiet.pure (fun _ => by kernel_rfl)) ?_
  refine Sy.stepD 1 rfl (by kernel_rfl) (fun _ _ _ _ h => h) (by kernel_rfl) (.pointer (some ⟨g, off, none⟩)) (Quiet.pure (fun _ => by kernel_rfl)) ?_
  refine Sy.stepD 2 rfl (by kernel_rfl) (fun _ _ _ _ h => h) (by kernel_rfl) (.int .i64 ((i : Nat) : Int)) (Quiet.pure (fun _ => by kernel_rfl)) ?_
  refine Sy.stepD 3 rfl (by kernel_rfl) (fun _ _ _ _ h => h) (by kernel_rfl) (.pointer (some ⟨g, off, none⟩)) (Quiet.pure (fun _ => by kernel_rfl)) ?_
  refine Sy.stepD 4 rfl (by kernel_rfl) (fun _ _ _ _ h => h) (by kernel_rfl) (.pointer (some ⟨g, off, none⟩)) (Quiet.pure (fun _ => by kernel_rfl)) ?_
  refine Sy.stepD 5 rfl (by kernel_rfl) (fun _ _ _ _ h => h) (by kernel_rfl) (.pointer (some ⟨g, off + i * 1, none⟩)) (Quiet.pure (exec_atA 110 _ _ _ g off _ i 1 .i64 rfl rfl rfl Try.underlying110 (fun _ => by kernel_rfl) (by omega))) ?_
  refine Sy.stepD 6 rfl (by kernel_rfl) (fun _ _ _ _ h => h) (by kernel_rfl) (.int .u8 ((dg t.kn i : Nat) : Int)) (Quiet.thereOne g (off + i * 1) 5 _ _ rfl (by kernel_rfl) hg _ (range_flat (range_left hr) (dgA_len t.kn) hi 0 _ rfl) Try.underlying5 rfl) ?_
  refine Sy.stepD 7 rfl (by kernel_rfl) (fun _ _ _ _ h => h) (by kernel_rfl) (.pointer (some ⟨g, off, none⟩)) (Quiet.pure (fun _ => by kernel_rfl)) ?_
  refine Sy.stepD 8 rfl (by kernel_rfl) (fun _ _ _ _ h => h) (by kernel_rfl) (.pointer (some ⟨g, off + 64, none⟩)) (Quiet.pure (fun _ => by kernel_rfl)) ?_
  refine Sy.stepD 9 rfl (by kernel_rfl) (fun _ _ _ _ h => h) (by kernel_rfl) (.pointer (some ⟨g, off + 64 + (dg t.kn i) * 12, none⟩)) (Quiet.pure (exec_atA 112 _ _ _ g (off + 64) _ (dg t.kn i) 12 .u8 rfl rfl rfl Try.underlying112 (fun _ => by kernel_rfl) (by omega))) ?_
  refine Sy.stepD 10 rfl (by kernel_rfl) (fun _ _ _ _ h => h) (by kernel_rfl) (tv ((fewL (threeJ t.pt) (dg t.kn i)).x.val) ((fewL (threeJ t.pt) (dg t.kn i)).y.val) ((fewL (threeJ t.pt) (dg t.kn i)).z.val)) (Quiet.there g (off + 64 + (dg t.kn i) * 12) 12 73 (fewA (threeJ t.pt) (dg t.kn i)) _ _ rfl (by kernel_rfl) hg (range_flat (range_right hr (flat_len (dgA_len t.kn) 64)) (fewA_len _) hd) Try.underlying73 rfl (by kernel_rfl) rfl _ (by kernel_rfl)) ?_
  refine Sy.writeD 11 rfl (by kernel_rfl) (by rfl) (by kernel_rfl) 0 g0 73 (tcs 0 0 0) (tcs ((fewL (threeJ t.pt) (dg t.kn i)).x.val) ((fewL (threeJ t.pt) (dg t.kn i)).y.val) ((fewL (threeJ t.pt) (dg t.kn i)).z.val)) (by kernel_rfl) (Writes.store 0 73 (tcs ((fewL (threeJ t.pt) (dg t.kn i)).x.val) ((fewL (threeJ t.pt) (dg t.kn i)).y.val) ((fewL (threeJ t.pt) (dg t.kn i)).z.val)) _ _ rfl (by kernel_rfl) (by kernel_rfl) (by kernel_rfl) (Nat.le_of_ble_eq_true (by kernel_rfl)) (by kernel_rfl) (by kernel_rfl)) ?_
  refine Sy.doneD (by kernel_rfl) ?_
  refine Sy.then_ ?_
  refine Sy.ret ?_
  exact Sy.ret1 (v := tv ((fewL (threeJ t.pt) (dg t.kn i)).x.val) ((fewL (threeJ t.pt) (dg t.kn i)).y.val) ((fewL (threeJ t.pt) (dg t.kn i)).z.val)) rfl (.inl (Res.cell (ty' := 73) g0 0 (tcs ((fewL (threeJ t.pt) (dg t.kn i)).x.val) ((fewL (threeJ t.pt) (dg t.kn i)).y.val) ((fewL (threeJ t.pt) (dg t.kn i)).z.val)) _ (by kernel_rfl) (by kernel_rfl) Try.underlying73 rfl (by kernel_rfl) (by kernel_rfl)))
set_option maxHeartbeats 4000000 in
set_option maxRecDepth 100000 in
theorem multi_c (w : World) (b o n c : Nat) (T : Nat → Trm) (hb : b < w.heap.size) (hn : n ≤ 32) (hok : ∀ j, (T j).ok) (hT : ∀ j, j < n → w.rangeAt b (o + j * 13) (T j).cells) : Calls Try.prog 46 #[.slice (some ⟨b, o, none⟩) n c] w (Gets w (tv (muJ T n 64).x.val (muJ T n 64).y.val (muJ T n 64).z.val)) := by
  refine Sy.enter (args := [.slice (some ⟨b, o, none⟩) n c]) Try.func46 rfl (Nat.le_of_ble_eq_true (by kernel_rfl)) ?_
  refine Sy.seq ?_
  refine Sy.region ?_
  refine Sy.make (by kernel_rfl) 73 (tcs 0 0 0) ptr (fun _ => by kernel_rfl) (fun g0 => ?_)
  refine Sy.nil ?_
  refine Sy.then_ ?_
  refine Sy.seq ?_
  refine Sy.region ?_
  refine Sy.step (by kernel_rfl) (.slice (some ⟨b, o, none⟩) n c) (Quiet.pure (fun _ => by kernel_rfl)) ?_
  refine Sy.step (by kernel_rfl) (.int .i64 ((n : Nat) : Int)) (Quiet.pure (fun _ => by kernel_rfl)) ?_
  refine Sy.make (by kernel_rfl) 115 (flat (fun _ => zt) n).toArray (fun g => .slice (some ⟨g, 0, none⟩) n n) (Makes.slice 109 115 _ (.agg zt.toArray) 256 1600 _ _ .i64 .i64 n zt rfl rfl rfl Try.underlying109 info_tm (by kernel_rfl) (by kernel_rfl) (by decide) (by kernel_rfl) (by kernel_rfl) (by kernel_rfl) (by omega) (by omega)) (fun g1 => ?_)
  refine Sy.step (by kernel_rfl) (.slice (some ⟨g1, 0, none⟩) n n) (Quiet.pure (fun _ => by kernel_rfl)) ?_
  refine Sy.nil ?_
  refine Sy.then_ ?_
  refine Sy.seq ?_
  refine Sy.seq ?_
  refine Sy.region ?_
  refine Sy.step (by kernel_rfl) (.slice (some ⟨b, o, none⟩) n c) (Quiet.pure (fun _ => by kernel_rfl)) ?_
  refine Sy.step (by kernel_rfl) (.int .i64 ((n : Nat) : Int)) (Quiet.pure (fun _ => by kernel_rfl)) ?_
  refine Sy.step (by kernel_rfl) (.int .i64 0) (Quiet.pure (fun _ => by kernel_rfl)) ?_
  refine Sy.nil ?_
  refine Sy.then_ ?_
  refine Sy.block ?_
  refine Sy.loopK n (fun k1 => [(2, .pointer (some ⟨g0, 0, none⟩)), (3, .slice (some ⟨g1, 0, none⟩) n n), (12, .slice (some ⟨b, o, none⟩) n c), (13, .int .i64 ((n : Nat) : Int)), (14, .int .i64 ((k1 : Nat) : Int))]) (fun k1 => [(g0, 73, (tcs 0 0 0)), (g1, 115, (flat (upto k1 (fun j => tmA (T j)) zt) n).toArray)]) [true, true] (M := [(g0, 73, (tcs 0 0 0)), (g1, 115, (flat (fun _ => zt) n).toArray)]) (all_cons (by kernel_rfl) (all_cons (by kernel_rfl) (all_cons (by kernel_rfl) (all_cons (by kernel_rfl) (all_cons (by kernel_rfl) all_nil))))) (by kernel_rfl) (bcons rfl (bcons (beq (upto_zero)) rfl)) (fun k1 hk1 => ?_)
  refine Sy.seq ?_
  refine Sy.region ?_
  obtain ⟨b1, hb1⟩ : ∃ z : Bool, z = decide (k1 < n) := ⟨_, rfl⟩
  refine Sy.step (by kernel_rfl) (.bool b1) (Quiet.pure (exec_int .lss _ _ _ .i64 _ _ _ rfl rfl rfl (int_lss _ _ _ _ _ (by rw [hb1]; exact decide_eq_decide.2 (by omega))))) ?_
  refine Sy.nil ?_
  refine Sy.then_ ?_
  refine Sy.seq ?_
  cases b1
  · have lb1 : ¬ (k1 < n) := of_decide_eq_false hb1.symm
    refine Sy.cond_f (by kernel_rfl) (by kernel_rfl) ?_
    refine Sy.exit ?_
    refine Sy.then_exit ?_
    refine Sy.then_exit ?_
    obtain rfl : n = k1 := by omega
    refine Sy.in_exit ?_
    refine Sy.then_ ?_
    refine Sy.seq ?_
    refine Sy.region ?_
    refine Sy.make (by kernel_rfl) 73 (tcs 0 0 0) ptr (fun _ => by kernel_rfl) (fun g2 => ?_)
    refine Sy.nil ?_
    refine Sy.then_ ?_
    refine Sy.seq ?_
    refine Sy.seq ?_
    refine Sy.region ?_
    refine Sy.step (by kernel_rfl) (.int .i64 0) (Quiet.pure (fun _ => by kernel_rfl)) ?_
    refine Sy.nil ?_
    refine Sy.then_ ?_
    refine Sy.block ?_
    refine Sy.loopK 64 (fun k2 => [(2, .pointer (some ⟨g0, 0, none⟩)), (3, .slice (some ⟨g1, 0, none⟩) n n), (6, .pointer (some ⟨g2, 0, none⟩)), (31, .int .i64 ((k2 : Nat) : Int))]) (fun k2 => [(g0, 73, (tcs 0 0 0)), (g1, 115, (flat ((fun j => tmA (T j))) n).toArray), (g2, 73, (tcs ((muJ T n k2).x.val) ((muJ T n k2).y.val) ((muJ T n k2).z.val)))]) [true, true, true] (M := [(g0, 73, (tcs 0 0 0)), (g1, 115, (flat (upto n (fun j => tmA (T j)) zt) n).toArray), (g2, 73, (tcs 0 0 0))]) (all_cons (by kernel_rfl) (all_cons (by kernel_rfl) (all_cons (by kernel_rfl) (all_cons (by kernel_rfl) all_nil)))) (by kernel_rfl) (bcons rfl (bcons (beq (upto_all)) (bcons rfl rfl))) (fun k2 hk2 => ?_)
    refine Sy.seq ?_
    refine Sy.region ?_
    obtain ⟨b2, hb2⟩ : ∃ z : Bool, z = decide (k2 < 64) := ⟨_, rfl⟩
    refine Sy.step (by kernel_rfl) (.bool b2) (Quiet.pure (exec_int .lss _ _ _ .i64 _ _ _ rfl rfl rfl (int_lss _ _ _ _ _ (by rw [hb2]; exact decide_eq_decide.2 (by omega))))) ?_
    refine Sy.nil ?_
    refine Sy.then_ ?_
    refine Sy.seq ?_
    cases b2
    · have lb2 : ¬ (k2 < 64) := of_decide_eq_false hb2.symm
      refine Sy.cond_f (by kernel_rfl) (by kernel_rfl) ?_
      refine Sy.exit ?_
      refine Sy.then_exit ?_
      refine Sy.then_exit ?_
      obtain rfl : k2 = 64 := by omega
      refine Sy.in_exit ?_
      refine Sy.then_ ?_
      refine Sy.seq ?_
      refine Sy.region ?_
      refine Sy.step (by kernel_rfl) (tv ((muJ T n 64).x.val) ((muJ T n 64).y.val) ((muJ T n 64).z.val)) (Quiet.load 2 g2 0 12 73 73 (tcs ((muJ T n 64).x.val) ((muJ T n 64).y.val) ((muJ T n 64).z.val)) _ _ rfl (by kernel_rfl) (by kernel_rfl) Try.underlying73 rfl (by kernel_rfl) _ (by kernel_rfl) (Nat.le_of_ble_eq_true (by kernel_rfl))) ?_
      refine Sy.write (by kernel_rfl) 0 g0 73 (tcs 0 0 0) (tcs ((muJ T n 64).x.val) ((muJ T n 64).y.val) ((muJ T n 64).z.val)) (by kernel_rfl) (Writes.store 0 73 (tcs ((muJ T n 64).x.val) ((muJ T n 64).y.val) ((muJ T n 64).z.val)) _ _ rfl (by kernel_rfl) (by kernel_rfl) (by kernel_rfl) (Nat.le_of_ble_eq_true (by kernel_rfl)) (by kernel_rfl) (by kernel_rfl)) ?_
      refine Sy.nil ?_
      refine Sy.then_ ?_
      refine Sy.ret ?_
      exact Sy.ret1 (v := tv ((muJ T n 64).x.val) ((muJ T n 64).y.val) ((muJ T n 64).z.val)) rfl (.inl (Res.cell (ty' := 73) g0 0 (tcs ((muJ T n 64).x.val) ((muJ T n 64).y.val) ((muJ T n 64).z.val)) _ (by kernel_rfl) (by kernel_rfl) Try.underlying73 rfl (by kernel_rfl) (by kernel_rfl)))
    · have lb2 : k2 < 64 := of_decide_eq_true hb2.symm
      refine Sy.cond_t (by kernel_rfl) (by kernel_rfl) ?_
      refine Sy.skip ?_
      refine Sy.then_ ?_
      refine Sy.seq ?_
      refine Sy.block ?_
      refine Sy.seq ?_
      refine Sy.region ?_
      refine Sy.step (by kernel_rfl) (.int .i64 ((k2 : Nat) : Int)) (Quiet.pure (fun _ => by kernel_rfl)) ?_
      refine Sy.step (by kernel_rfl) (.int .i64 ((k2 : Nat) : Int)) (Quiet.pure (fun _ => by kernel_rfl)) ?_
      refine Sy.nil ?_
      refine Sy.then_ ?_
      refine Sy.seq ?_
      refine Sy.seq ?_
      refine Sy.region ?_
      refine Sy.step (by kernel_rfl) (.int .i64 0) (Quiet.pure (fun _ => by kernel_rfl)) ?_
      refine Sy.nil ?_
      refine Sy.then_ ?_
      refine Sy.block ?_
      refine Sy.loopK 4 (fun k3 => [(2, .pointer (some ⟨g0, 0, none⟩)), (3, .slice (some ⟨g1, 0, none⟩) n n), (6, .pointer (some ⟨g2, 0, none⟩)), (7, .int .i64 ((k2 : Nat) : Int)), (31, .int .i64 ((k2 : Nat) : Int)), (34, .int .i64 ((k3 : Nat) : Int))]) (fun k3 => [(g0, 73, (tcs 0 0 0)), (g1, 115, (flat ((fun j => tmA (T j))) n).toArray), (g2, 73, (tcs ((dbN (muJ T n k2) k3).x.val) ((dbN (muJ T n k2) k3).y.val) ((dbN (muJ T n k2) k3).z.val)))]) [true, true, true] (M := [(g0, 73, (tcs 0 0 0)), (g1, 115, (flat ((fun j => tmA (T j))) n).toArray), (g2, 73, (tcs ((muJ T n k2).x.val) ((muJ T n k2).y.val) ((muJ T n k2).z.val)))]) (all_cons (by kernel_rfl) (all_cons (by kernel_rfl) (all_cons (by kernel_rfl) (all_cons (by kernel_rfl) (all_cons (by kernel_rfl) (all_cons (by kernel_rfl) all_nil)))))) (by kernel_rfl) (bcons rfl (bcons rfl (bcons rfl rfl))) (fun k3 hk3 => ?_)
      refine Sy.seq ?_
      refine Sy.region ?_
      obtain ⟨b3, hb3⟩ : ∃ z : Bool, z = decide (k3 < 4) := ⟨_, rfl⟩
      refine Sy.step (by kernel_rfl) (.bool b3) (Quiet.pure (exec_int .lss _ _ _ .i64 _ _ _ rfl rfl rfl (int_lss _ _ _ _ _ (by rw [hb3]; exact decide_eq_decide.2 (by omega))))) ?_
      refine Sy.nil ?_
      refine Sy.then_ ?_
      refine Sy.seq ?_
      cases b3
      · have lb3 : ¬ (k3 < 4) := of_decide_eq_false hb3.symm
        refine Sy.cond_f (by kernel_rfl) (by kernel_rfl) ?_
        refine Sy.exit ?_
        refine Sy.then_exit ?_
        refine Sy.then_exit ?_
        obtain rfl : k3 = 4 := by omega
        refine Sy.in_exit ?_
        refine Sy.then_ ?_
        refine Sy.seq ?_
        refine Sy.region ?_
        refine Sy.step (by kernel_rfl) (.slice (some ⟨g1, 0, none⟩) n n) (Quiet.pure (fun _ => by kernel_rfl)) ?_
        refine Sy.step (by kernel_rfl) (.int .i64 ((n : Nat) : Int)) (Quiet.pure (fun _ => by kernel_rfl)) ?_
        refine Sy.step (by kernel_rfl) (.int .i64 0) (Quiet.pure (fun _ => by kernel_rfl)) ?_
        refine Sy.nil ?_
        refine Sy.then_ ?_
        refine Sy.block ?_
        refine Sy.loopK n (fun k4 => [(2, .pointer (some ⟨g0, 0, none⟩)), (3, .slice (some ⟨g1, 0, none⟩) n n), (6, .pointer (some ⟨g2, 0, none⟩)), (7, .int .i64 ((k2 : Nat) : Int)), (31, .int .i64 ((k2 : Nat) : Int)), (40, .int .i64 ((n : Nat) : Int)), (41, .int .i64 ((k4 : Nat) : Int))]) (fun k4 => [(g0, 73, (tcs 0 0 0)), (g1, 115, (flat ((fun j => tmA (T j))) n).toArray), (g2, 73, (tcs ((inJ T k2 (dbN (muJ T n k2) 4) k4).x.val) ((inJ T k2 (dbN (muJ T n k2) 4) k4).y.val) ((inJ T k2 (dbN (muJ T n k2) 4) k4).z.val)))]) [true, true, true] (M := [(g0, 73, (tcs 0 0 0)), (g1, 115, (flat ((fun j => tmA (T j))) n).toArray), (g2, 73, (tcs ((dbN (muJ T n k2) 4).x.val) ((dbN (muJ T n k2) 4).y.val) ((dbN (muJ T n k2) 4).z.val)))]) (all_cons (by kernel_rfl) (all_cons (by kernel_rfl) (all_cons (by kernel_rfl) (all_cons (by kernel_rfl) (all_cons (by kernel_rfl) (all_cons (by kernel_rfl) (all_cons (by kernel_rfl) all_nil))))))) (by kernel_rfl) (bcons rfl (bcons rfl (bcons rfl rfl))) (fun k4 hk4 => ?_)
        refine Sy.seq ?_
        refine Sy.region ?_
        obtain ⟨b4, hb4⟩ : ∃ z : Bool, z = decide (k4 < n) := ⟨_, rfl⟩
        refine Sy.step (by kernel_rfl) (.bool b4) (Quiet.pure (exec_int .lss _ _ _ .i64 _ _ _ rfl rfl rfl (int_lss _ _ _ _ _ (by rw [hb4]; exact decide_eq_decide.2 (by omega))))) ?_
        refine Sy.nil ?_
        refine Sy.then_ ?_
        refine Sy.seq ?_
        cases b4
        · have lb4 : ¬ (k4 < n) := of_decide_eq_false hb4.symm
          refine Sy.cond_f (by kernel_rfl) (by kernel_rfl) ?_
          refine Sy.exit ?_
          refine Sy.then_exit ?_
          refine Sy.then_exit ?_
          obtain rfl : n = k4 := by omega
          refine Sy.in_exit ?_
          refine Sy.in_ ?_
          refine Sy.then_ ?_
          refine Sy.region ?_
          refine Sy.step (by kernel_rfl) (.int .i64 ((k2 + 1 : Nat) : Int)) (Quiet.pure (exec_int .add _ _ _ .i64 _ _ _ rfl rfl rfl (int_add _ _ _ _ _ ((wrap_i64 (by omega) (by omega)).trans (by omega))))) ?_
          refine Sy.step (by kernel_rfl) (.int .i64 ((k2 + 1 : Nat) : Int)) (Quiet.pure (fun _ => by kernel_rfl)) ?_
          refine Sy.nil ?_
          exact Sy.againK [true, true, true] (M := [(g0, 73, (tcs 0 0 0)), (g1, 115, (flat ((fun j => tmA (T j))) n).toArray), (g2, 73, (tcs ((inJ T k2 (dbN (muJ T n k2) 4) n).x.val) ((inJ T k2 (dbN (muJ T n k2) 4) n).y.val) ((inJ T k2 (dbN (muJ T n k2) 4) n).z.val)))]) (by omega) (all_cons (by kernel_rfl) (all_cons (by kernel_rfl) (all_cons (by kernel_rfl) (all_cons (by kernel_rfl) all_nil)))) (by kernel_rfl) (bcons rfl (bcons rfl (bcons rfl rfl)))
        · have lb4 : k4 < n := of_decide_eq_true hb4.symm
          refine Sy.cond_t (by kernel_rfl) (by kernel_rfl) ?_
          refine Sy.skip ?_
          refine Sy.then_ ?_
          refine Sy.seq ?_
          refine Sy.block ?_
          refine Sy.seq ?_
          refine Sy.region ?_
          refine Sy.step (by kernel_rfl) (.int .i64 ((k4 : Nat) : Int)) (Quiet.pure (fun _ => by kernel_rfl)) ?_
          refine Sy.step (by kernel_rfl) (.int .i64 ((k4 : Nat) : Int)) (Quiet.pure (fun _ => by kernel_rfl)) ?_
          refine Sy.nil ?_
          refine Sy.then_ ?_
          refine Sy.regionD (fun j => j == 7) (by kernel_rfl) ?_
          refine Sy.stepD 0 rfl (by kernel_rfl) (fun _ _ _ _ h => h) (by kernel_rfl) (tv ((inJ T k2 (dbN (muJ T n k2) 4) k4).x.val) ((inJ T k2 (dbN (muJ T n k2) 4) k4).y.val) ((inJ T k2 (dbN (muJ T n k2) 4) k4).z.val)) (Quiet.load 2 g2 0 12 73 73 (tcs ((inJ T k2 (dbN (muJ T n k2) 4) k4).x.val) ((inJ T k2 (dbN (muJ T n k2) 4) k4).y.val) ((inJ T k2 (dbN (muJ T n k2) 4) k4).z.val)) _ _ rfl (by kernel_rfl) (by kernel_rfl) Try.underlying73 rfl (by kernel_rfl) _ (by kernel_rfl) (Nat.le_of_ble_eq_true (by kernel_rfl))) ?_
          refine Sy.stepD 1 rfl (by kernel_rfl) (fun _ _ _ _ h => h) (by kernel_rfl) (.slice (some ⟨g1, 0, none⟩) n n) (Quiet.pure (fun _ => by kernel_rfl)) ?_
          refine Sy.stepD 2 rfl (by kernel_rfl) (fun _ _ _ _ h => h) (by kernel_rfl) (.int .i64 ((k4 : Nat) : Int)) (Quiet.pure (fun _ => by kernel_rfl)) ?_
          refine Sy.stepD 3 rfl (by kernel_rfl) (fun _ _ _ _ h => h) (by kernel_rfl) (.pointer (some ⟨g1, 0 + k4 * 256, none⟩)) (Quiet.pure (exec_at 109 _ _ _ g1 0 n n k4 256 .i64 rfl rfl rfl Try.underlying109 (fun _ => by kernel_rfl) (by omega))) ?_
          refine Sy.stepD 4 rfl (by kernel_rfl) (fun _ _ _ _ h => h) (by kernel_rfl) (.int .i64 ((k2 : Nat) : Int)) (Quiet.pure (fun _ => by kernel_rfl)) ?_
          refine Sy.stepD 5 rfl (by kernel_rfl) (fun _ _ _ _ h => h) (by kernel_rfl) (tv ((fewL (threeJ (T k4).pt) (dg (T k4).kn k2)).x.val) ((fewL (threeJ (T k4).pt) (dg (T k4).kn k2)).y.val) ((fewL (threeJ (T k4).pt) (dg (T k4).kn k2)).z.val)) (Quiet.callS 83 #[.pointer (some ⟨g1, 0 + k4 * 256, none⟩), .int .i64 ((k2 : Nat) : Int)] (fun _ => by kernel_rfl) (fun w hw => at_c w g1 (0 + k4 * 256) k2 (T k4) (hw.get (i := 1) rfl).lt (by omega) (blk_range (hw.get (i := 1) rfl) (flat_at (tmA_len T) (k := k4) (by omega) (by omega))))) ?_
          obtain ⟨j1, hj1⟩ : ∃ z : J, z = addJ (inJ T k2 (dbN (muJ T n k2) 4) k4) (fewL (threeJ (T k4).pt) (dg (T k4).kn k2)) := ⟨_, rfl⟩
          refine Sy.stepD 6 rfl (by kernel_rfl) (fun _ _ _ _ h => h) (by kernel_rfl) (tv j1.x.val j1.y.val j1.z.val) (Quiet.call 45 #[tv ((inJ T k2 (dbN (muJ T n k2) 4) k4).x.val) ((inJ T k2 (dbN (muJ T n k2) 4) k4).y.val) ((inJ T k2 (dbN (muJ T n k2) 4) k4).z.val), tv ((fewL (threeJ (T k4).pt) (dg (T k4).kn k2)).x.val) ((fewL (threeJ (T k4).pt) (dg (T k4).kn k2)).y.val) ((fewL (threeJ (T k4).pt) (dg (T k4).kn k2)).z.val)] (fun _ => by kernel_rfl) (fun w => by rw [hj1]; exact addJ_c w (inJ T k2 (dbN (muJ T n k2) 4) k4) (fewL (threeJ (T k4).pt) (dg (T k4).kn k2)))) ?_
          refine Sy.writeD 7 rfl (by kernel_rfl) (by rfl) (by kernel_rfl) 2 g2 73 (tcs ((inJ T k2 (dbN (muJ T n k2) 4) k4).x.val) ((inJ T k2 (dbN (muJ T n k2) 4) k4).y.val) ((inJ T k2 (dbN (muJ T n k2) 4) k4).z.val)) (tcs j1.x.val j1.y.val j1.z.val) (by kernel_rfl) (Writes.store 0 73 (tcs j1.x.val j1.y.val j1.z.val) _ _ rfl (by kernel_rfl) (by kernel_rfl) (by kernel_rfl) (Nat.le_of_ble_eq_true (by kernel_rfl)) (by kernel_rfl) (by kernel_rfl)) ?_
          refine Sy.doneD (by kernel_rfl) ?_
          refine Sy.in_ ?_
          refine Sy.then_ ?_
          refine Sy.region ?_
          refine Sy.step (by kernel_rfl) (.int .i64 ((k4 + 1 : Nat) : Int)) (Quiet.pure (exec_int .add _ _ _ .i64 _ _ _ rfl rfl rfl (int_add _ _ _ _ _ ((wrap_i64 (by omega) (by omega)).trans (by omega))))) ?_
          refine Sy.step (by kernel_rfl) (.int .i64 ((k4 + 1 : Nat) : Int)) (Quiet.pure (fun _ => by kernel_rfl)) ?_
          refine Sy.nil ?_
          exact Sy.againK [true, true, true] (M := [(g0, 73, (tcs 0 0 0)), (g1, 115, (flat ((fun j => tmA (T j))) n).toArray), (g2, 73, (tcs j1.x.val j1.y.val j1.z.val))]) (by omega) (all_cons (by kernel_rfl) (all_cons (by kernel_rfl) (all_cons (by kernel_rfl) (all_cons (by kernel_rfl) (all_cons (by kernel_rfl) (all_cons (by kernel_rfl) (all_cons (by kernel_rfl) all_nil))))))) (by kernel_rfl) (bcons rfl (bcons rfl (bcons (beq (by rw [hj1]; rfl)) rfl)))
      · have lb3 : k3 < 4 := of_decide_eq_true hb3.symm
        refine Sy.cond_t (by kernel_rfl) (by kernel_rfl) ?_
        refine Sy.skip ?_
        refine Sy.then_ ?_
        refine Sy.seq ?_
        refine Sy.block ?_
        refine Sy.region ?_
        refine Sy.step (by kernel_rfl) (tv ((dbN (muJ T n k2) k3).x.val) ((dbN (muJ T n k2) k3).y.val) ((dbN (muJ T n k2) k3).z.val)) (Quiet.load 2 g2 0 12 73 73 (tcs ((dbN (muJ T n k2) k3).x.val) ((dbN (muJ T n k2) k3).y.val) ((dbN (muJ T n k2) k3).z.val)) _ _ rfl (by kernel_rfl) (by kernel_rfl) Try.underlying73 rfl (by kernel_rfl) _ (by kernel_rfl) (Nat.le_of_ble_eq_true (by kernel_rfl))) ?_
        obtain ⟨j2, hj2⟩ : ∃ z : J, z = dblJ (dbN (muJ T n k2) k3) := ⟨_, rfl⟩
        refine Sy.step (by kernel_rfl) (tv j2.x.val j2.y.val j2.z.val) (Quiet.call 80 #[tv ((dbN (muJ T n k2) k3).x.val) ((dbN (muJ T n k2) k3).y.val) ((dbN (muJ T n k2) k3).z.val)] (fun _ => by kernel_rfl) (fun w => by rw [hj2]; exact double_c w (dbN (muJ T n k2) k3))) ?_
        refine Sy.write (by kernel_rfl) 2 g2 73 (tcs ((dbN (muJ T n k2) k3).x.val) ((dbN (muJ T n k2) k3).y.val) ((dbN (muJ T n k2) k3).z.val)) (tcs j2.x.val j2.y.val j2.z.val) (by kernel_rfl) (Writes.store 0 73 (tcs j2.x.val j2.y.val j2.z.val) _ _ rfl (by kernel_rfl) (by kernel_rfl) (by kernel_rfl) (Nat.le_of_ble_eq_true (by kernel_rfl)) (by kernel_rfl) (by kernel_rfl)) ?_
        refine Sy.nil ?_
        refine Sy.in_ ?_
        refine Sy.then_ ?_
        refine Sy.region ?_
        refine Sy.step (by kernel_rfl) (.int .i64 ((k3 + 1 : Nat) : Int)) (Quiet.pure (exec_int .add _ _ _ .i64 _ _ _ rfl rfl rfl (int_add _ _ _ _ _ ((wrap_i64 (by omega) (by omega)).trans (by omega))))) ?_
        refine Sy.step (by kernel_rfl) (.int .i64 ((k3 + 1 : Nat) : Int)) (Quiet.pure (fun _ => by kernel_rfl)) ?_
        refine Sy.nil ?_
        exact Sy.againK [true, true, true] (M := [(g0, 73, (tcs 0 0 0)), (g1, 115, (flat ((fun j => tmA (T j))) n).toArray), (g2, 73, (tcs j2.x.val j2.y.val j2.z.val))]) (by omega) (all_cons (by kernel_rfl) (all_cons (by kernel_rfl) (all_cons (by kernel_rfl) (all_cons (by kernel_rfl) (all_cons (by kernel_rfl) (all_cons (by kernel_rfl) all_nil)))))) (by kernel_rfl) (bcons rfl (bcons rfl (bcons (beq (by rw [hj2]; rfl)) rfl)))
  · have lb1 : k1 < n := of_decide_eq_true hb1.symm
    refine Sy.cond_t (by kernel_rfl) (by kernel_rfl) ?_
    refine Sy.skip ?_
    refine Sy.then_ ?_
    refine Sy.seq ?_
    refine Sy.block ?_
    refine Sy.seq ?_
    refine Sy.region ?_
    refine Sy.step (by kernel_rfl) (.int .i64 ((k1 : Nat) : Int)) (Quiet.pure (fun _ => by kernel_rfl)) ?_
    refine Sy.step (by kernel_rfl) (.pointer (some ⟨b, o + k1 * 13, none⟩)) (Quiet.pure (exec_at 33 _ _ _ b o n c k1 13 .i64 rfl rfl rfl Try.underlying33 (fun _ => by kernel_rfl) (by omega))) ?_
    refine Sy.step (by kernel_rfl) (trv ((T k1).k) ((T k1).x) ((T k1).y) ((T k1).i)) (Quiet.there b (o + k1 * 13) 13 53 (T k1).cells _ _ rfl (by kernel_rfl) hb (hT k1 (by omega)) Try.underlying53 rfl (by kernel_rfl) rfl _ (by kernel_rfl)) ?_
    refine Sy.make (by kernel_rfl) 53 (trcs 0 0 0 false) ptr (fun _ => by kernel_rfl) (fun g3 => ?_)
    refine Sy.step (by kernel_rfl) (.int .i64 ((k1 : Nat) : Int)) (Quiet.pure (fun _ => by kernel_rfl)) ?_
    refine Sy.write (by kernel_rfl) 2 g3 53 (trcs 0 0 0 false) (trcs ((T k1).k) ((T k1).x) ((T k1).y) ((T k1).i)) (by kernel_rfl) (Writes.store 0 53 (trcs ((T k1).k) ((T k1).x) ((T k1).y) ((T k1).i)) _ _ rfl (by kernel_rfl) (by kernel_rfl) (by kernel_rfl) (Nat.le_of_ble_eq_true (by kernel_rfl)) (by kernel_rfl) (by kernel_rfl)) ?_
    refine Sy.nil ?_
    refine Sy.then_ ?_
    refine Sy.regionD (fun j => j == 11) (by kernel_rfl) ?_
    refine Sy.stepD 0 rfl (by kernel_rfl) (fun _ _ _ _ h => h) (by kernel_rfl) (.slice (some ⟨g1, 0, none⟩) n n) (Quiet.pure (fun _ => by kernel_rfl)) ?_
    refine Sy.stepD 1 rfl (by kernel_rfl) (fun _ _ _ _ h => h) (by kernel_rfl) (.int .i64 ((k1 : Nat) : Int)) (Quiet.pure (fun _ => by kernel_rfl)) ?_
    refine Sy.stepD 2 rfl (by kernel_rfl) (fun _ _ _ _ h => h) (by kernel_rfl) (.pointer (some ⟨g3, 0, none⟩)) (Quiet.pure (fun _ => by kernel_rfl)) ?_
    refine Sy.stepD 3 rfl (by kernel_rfl) (fun _ _ _ _ h => h) (by kernel_rfl) (fv ((T k1).k)) (Quiet.load 2 g3 0 4 53 24 (trcs ((T k1).k) ((T k1).x) ((T k1).y) ((T k1).i)) _ _ rfl (by kernel_rfl) (by kernel_rfl) Try.underlying24 rfl (by kernel_rfl) _ (by kernel_rfl) (Nat.le_of_ble_eq_true (by kernel_rfl))) ?_
    refine Sy.stepD 4 rfl (by kernel_rfl) (fun _ _ _ _ h => h) (by kernel_rfl) (.agg (flat ((dgA (T k1).kn)) 64).toArray) (Quiet.call 81 #[fv ((T k1).k)] (fun _ => by kernel_rfl) (fun w => digits_c w (T k1).k (hok k1).1)) ?_
    refine Sy.stepD 5 rfl (by kernel_rfl) (fun _ _ _ _ h => h) (by kernel_rfl) (.pointer (some ⟨g3, 4, none⟩)) (Quiet.pure (fun _ => by kernel_rfl)) ?_
    refine Sy.stepD 6 rfl (by kernel_rfl) (fun _ _ _ _ h => h) (by kernel_rfl) (pv ((T k1).x) ((T k1).y) ((T k1).i)) (Quiet.load 2 g3 4 9 53 27 (trcs ((T k1).k) ((T k1).x) ((T k1).y) ((T k1).i)) _ _ rfl (by kernel_rfl) (by kernel_rfl) Try.underlying27 rfl (by kernel_rfl) _ (by kernel_rfl) (Nat.le_of_ble_eq_true (by kernel_rfl))) ?_
    refine Sy.stepD 7 rfl (by kernel_rfl) (fun _ _ _ _ h => h) (by kernel_rfl) (ptv (T k1).pt) (Quiet.call 48 #[pv ((T k1).x) ((T k1).y) ((T k1).i)] (fun _ => by kernel_rfl) (fun w => right_c w (T k1).x (T k1).y (T k1).i (hok k1).2.1 (hok k1).2.2)) ?_
    refine Sy.stepD 8 rfl (by kernel_rfl) (fun _ _ _ _ h => h) (by kernel_rfl) (.agg (flat ((fewA (threeJ (T k1).pt))) 16).toArray) (Quiet.call 82 #[ptv (T k1).pt] (fun _ => by kernel_rfl) (fun w => few_p w (T k1).pt)) ?_
    refine Sy.stepD 9 rfl (by kernel_rfl) (fun _ _ _ _ h => h) (by kernel_rfl) (.agg (tmcs (T k1))) (Quiet.pure (fun _ => by kernel_rfl)) ?_
    refine Sy.stepD 10 rfl (by kernel_rfl) (fun _ _ _ _ h => h) (by kernel_rfl) (.pointer (some ⟨g1, 0 + k1 * 256, none⟩)) (Quiet.pure (exec_at 109 _ _ _ g1 0 n n k1 256 .i64 rfl rfl rfl Try.underlying109 (fun _ => by kernel_rfl) (by omega))) ?_
    refine Sy.writeD 11 rfl (by kernel_rfl) (by rfl) (by kernel_rfl) 1 g1 115 (flat (upto k1 (fun j => tmA (T j)) zt) n).toArray (flat (upto (k1 + 1) (fun j => tmA (T j)) zt) n).toArray (by kernel_rfl) (Writes.store (0 + k1 * 256) 115 (tmcs (T k1)) _ _ rfl (by kernel_rfl) (by kernel_rfl) (by kernel_rfl) (flat_fit (upto_len (tmA_len T) rfl _) (k := k1) (by omega) (by omega)) (by kernel_rfl) (upto_set (v := (tmcs (T k1)).toList) (tmA_len T) rfl (rfl) (by omega) (by omega))) ?_
    refine Sy.doneD (by kernel_rfl) ?_
    refine Sy.in_ ?_
    refine Sy.then_ ?_
    refine Sy.region ?_
    refine Sy.step (by kernel_rfl) (.int .i64 ((k1 + 1 : Nat) : Int)) (Quiet.pure (exec_int .add _ _ _ .i64 _ _ _ rfl rfl rfl (int_add _ _ _ _ _ ((wrap_i64 (by omega) (by omega)).trans (by omega))))) ?_
    refine Sy.step (by kernel_rfl) (.int .i64 ((k1 + 1 : Nat) : Int)) (Quiet.pure (fun _ => by kernel_rfl)) ?_
    refine Sy.nil ?_
    exact Sy.againK [true, true, false] (M := [(g0, 73, (tcs 0 0 0)), (g1, 115, (flat (upto (k1 + 1) (fun j => tmA (T j)) zt) n).toArray)]) (by omega) (all_cons (by kernel_rfl) (all_cons (by kernel_rfl) (all_cons (by kernel_rfl) (all_cons (by kernel_rfl) (all_cons (by kernel_rfl) all_nil))))) (by kernel_rfl) (bcons rfl (bcons rfl rfl))
end Go.Proofs.Ytneeefinaejgcaa.Cu

end
section
namespace Go.Proofs.Ytneeefinaejgcaa.Ec
variable {n : Nat} [NeZero n] {inv : Fin n → Fin n} {α : Type}

/-- the sum of a list's points, one behind the other, from a point on -/
def sumF (inv : Fin n → Fin n) (f : α → Pt n) (s : Pt n) : List α → Pt n
  | [] => s
  | x :: l => sumF inv f (add inv s (f x)) l
/-- .. from nothing on -/
def sumL (inv : Fin n → Fin n) (f : α → Pt n) (l : List α) : Pt n := sumF inv f none l
theorem On.sumF (H : Fld n inv) {f : α → Pt n} : ∀ (l : List α) {s : Pt n}, On s → (∀ x ∈ l, On (f x)) → On (Ec.sumF inv f s l)
  | [], _, hs, _ => hs
  | x :: l, _, hs, hf => On.sumF H l (On.add H hs (hf x (List.mem_cons_self ..))) fun y hy => hf y (List.mem_cons_of_mem _ hy)
theorem sumF_start (H : Fld n inv) {f : α → Pt n} : ∀ (l : List α) {s t : Pt n}, On s → On t → (∀ x ∈ l, On (f x)) → sumF inv f (add inv s t) l = add inv s (sumF inv f t l)
  | [], _, _, _, _, _ => rfl
  | x :: l, s, t, hs, ht, hf => by
    have hx := hf x (List.mem_cons_self ..)
    show sumF inv f (add inv (add inv s t) (f x)) l = add inv s (sumF inv f (add inv t (f x)) l)
    rw [assoc H hs ht hx]
    exact sumF_start H l hs (On.add H ht hx) fun y hy => hf y (List.mem_cons_of_mem _ hy)
theorem sumF_is (H : Fld n inv) {f : α → Pt n} (l : List α) {s : Pt n} (hs : On s) (hf : ∀ x ∈ l, On (f x)) : sumF inv f s l = add inv s (sumL inv f l) := by
  have := sumF_start H l hs (show On none from trivial) hf
  rwa [add_zero] at this
theorem On.sumL (H : Fld n inv) {f : α → Pt n} (l : List α) (hf : ∀ x ∈ l, On (f x)) : On (Ec.sumL inv f l) := On.sumF H l trivial hf
theorem sumL_cons (H : Fld n inv) {f : α → Pt n} (x : α) (l : List α) (hf : ∀ y ∈ x :: l, On (f y)) : sumL inv f (x :: l) = add inv (f x) (sumL inv f l) := by
  show sumF inv f (add inv none (f x)) l = _
  rw [zero_add]
  exact sumF_is H l (hf x (List.mem_cons_self ..)) fun y hy => hf y (List.mem_cons_of_mem _ hy)
theorem sumL_append (H : Fld n inv) {f : α → Pt n} : ∀ (l m : List α), (∀ x ∈ l ++ m, On (f x)) → sumL inv f (l ++ m) = add inv (sumL inv f l) (sumL inv f m)
  | [], m, _ => (zero_add _).symm
  | x :: l, m, h => by
    have h1 : ∀ y ∈ l ++ m, On (f y) := fun y hy => h y (List.mem_cons_of_mem _ hy)
    have h2 : ∀ y ∈ x :: l, On (f y) := fun y hy => h y (by rcases List.mem_cons.1 hy with rfl | hy; exact List.mem_cons_self ..; exact List.mem_cons_of_mem _ (List.mem_append_left _ hy))
    rw [List.cons_append, sumL_cons H x (l ++ m) (fun y hy => h y (by rw [List.cons_append]; exact hy)), sumL_append H l m h1, sumL_cons H x l h2,
      assoc H (h x (List.mem_cons_self ..)) (On.sumL H l fun y hy => h1 y (List.mem_append_left _ hy)) (On.sumL H m fun y hy => h1 y (List.mem_append_right _ hy))]
/-- sums of sums, of multiples -/
theorem sumL_add (H : Fld n inv) {f g : α → Pt n} : ∀ (l : List α), (∀ x ∈ l, On (f x)) → (∀ x ∈ l, On (g x)) → sumL inv (fun x => add inv (f x) (g x)) l = add inv (sumL inv f l) (sumL inv g l)
  | [], _, _ => rfl
  | x :: l, hf, hg => by
    have f1 := hf x (List.mem_cons_self ..)
    have g1 := hg x (List.mem_cons_self ..)
    have hf' : ∀ y ∈ l, On (f y) := fun y hy => hf y (List.mem_cons_of_mem _ hy)
    have hg' : ∀ y ∈ l, On (g y) := fun y hy => hg y (List.mem_cons_of_mem _ hy)
    rw [sumL_cons H x l (fun y hy => On.add H (hf y hy) (hg y hy)), sumL_cons H x l hf, sumL_cons H x l hg, sumL_add H l hf' hg']
    exact add4 H f1 g1 (On.sumL H l hf') (On.sumL H l hg')
theorem sumL_nm (H : Fld n inv) {f : α → Pt n} (k : Nat) : ∀ (l : List α), (∀ x ∈ l, On (f x)) → sumL inv (fun x => nm inv k (f x)) l = nm inv k (sumL inv f l)
  | [], _ => (nm_none k).symm
  | x :: l, hf => by
    have f1 := hf x (List.mem_cons_self ..)
    have hf' : ∀ y ∈ l, On (f y) := fun y hy => hf y (List.mem_cons_of_mem _ hy)
    rw [sumL_cons H x l (fun y hy => On.nm H (hf y hy) k), sumL_cons H x l hf, sumL_nm H k l hf', nm_sum H f1 (On.sumL H l hf')]
theorem sumL_congr (H : Fld n inv) {f g : α → Pt n} : ∀ (l : List α), (∀ x ∈ l, On (f x)) → (∀ x ∈ l, f x = g x) → sumL inv f l = sumL inv g l
  | [], _, _ => rfl
  | x :: l, hf, he => by
    have hg : ∀ y ∈ x :: l, On (g y) := fun y hy => he y hy ▸ hf y hy
    rw [sumL_cons H x l hf, sumL_cons H x l hg, he x (List.mem_cons_self ..), sumL_congr H l (fun y hy => hf y (List.mem_cons_of_mem _ hy)) fun y hy => he y (List.mem_cons_of_mem _ hy)]
/-- a digit more: K: the numbers, of which all but the last i digits to the base 16 are taken -/
theorem horner (H : Fld n inv) {p : α → Pt n} (k : α → Nat) (q : Nat) (l : List α) (hp : ∀ x ∈ l, On (p x)) :
    add inv (nm inv 16 (sumL inv (fun x => nm inv (k x / (16 * q)) (p x)) l)) (sumL inv (fun x => nm inv (k x / q % 16) (p x)) l) = sumL inv (fun x => nm inv (k x / q) (p x)) l := by
  rw [← sumL_nm H 16 l fun x hx => On.nm H (hp x hx) _, ← sumL_add H l (fun x hx => On.nm H (On.nm H (hp x hx) _) _) fun x hx => On.nm H (hp x hx) _]
  refine sumL_congr H l (fun x hx => On.add H (On.nm H (On.nm H (hp x hx) _) _) (On.nm H (hp x hx) _)) fun x hx => ?_
  rw [← nm_mul H (hp x hx), ← nm_add H (hp x hx)]
  congr 1
  rw [Nat.mul_comm 16 q, ← Nat.div_div_eq_div_mul]
  omega
end Go.Proofs.Ytneeefinaejgcaa.Ec

end
section
namespace Go.Proofs.Ytneeefinaejgcaa.Cu
open Go.RowKit Go.Proofs.Ytneeefinaejgcaa Go.Proofs.Ytneeefinaejgcaa.Sy

theorem sumF_snoc {α : Type} (f : α → Pt) : ∀ (l : List α) (s : Pt) (x : α), Ec.sumF finv f s (l ++ [x]) = Ec.add finv (Ec.sumF finv f s l) (f x)
  | [], _, _ => rfl
  | y :: l, s, x => sumF_snoc f l (Ec.add finv s (f y)) x
theorem sumL_none {α : Type} (f : α → Pt) : ∀ (l : List α), (∀ x ∈ l, f x = none) → Ec.sumL finv f l = none
  | [], _ => rfl
  | x :: l, h => by
    show Ec.sumF finv f (Ec.add finv none (f x)) l = none
    rw [h x (List.mem_cons_self ..), Ec.add_zero]
    exact sumL_none f l fun y hy => h y (List.mem_cons_of_mem _ hy)
theorem sumL_map {α β : Type} (f : β → Pt) (g : α → β) (l : List α) : Ec.sumL finv f (l.map g) = Ec.sumL finv (fun x => f (g x)) l := by
  have h : ∀ (l : List α) (s : Pt), Ec.sumF finv f s (l.map g) = Ec.sumF finv (fun x => f (g x)) s l := by
    intro l
    induction l with
    | nil => intro _; rfl
    | cons x l ih => intro s; exact ih _
  exact h l none

theorem dbN_rep {a : J} {P : Pt} (hP : Ec.On P) (h : Ec.Rep a P) : ∀ j, Ec.Rep (dbN a j) (Ec.nm finv (2 ^ j) P)
  | 0 => by rw [Nat.pow_zero, Ec.nm_one]; exact h
  | j + 1 => by
    rw [show 2 ^ (j + 1) = 2 ^ j + 2 ^ j by omega, Ec.nm_add fld hP]
    exact dblJ_rep (hP.nm fld _) (dbN_rep hP h j)
theorem Trm.on (t : Trm) : Ec.On t.pt := dec_on t.x t.y t.i
theorem inJ_rep (T : Nat → Trm) (i : Nat) {a : J} {s : Pt} (hs : Ec.On s) (h : Ec.Rep a s) : ∀ j, Ec.Rep (inJ T i a j) (Ec.sumF finv (fun t => Ec.nm finv (dg (T t).kn i) (T t).pt) s (List.range j))
  | 0 => h
  | j + 1 => by
    rw [List.range_succ, sumF_snoc]
    exact addJ_rep (Ec.On.sumF fld _ hs fun x _ => (T x).on.nm fld _) ((T j).on.nm fld _) (inJ_rep T i hs h j) (fewL_rep (T j).on (threeJ_rep _) _)
theorem kn_lt (t : Trm) : t.kn < 16 ^ 64 := Nat.lt_trans (Nat.mod_lt _ (by decide)) (by decide)
/-- the terms' digits up to place i -/
theorem muJ_rep (T : Nat → Trm) (n : Nat) : ∀ i, i ≤ 64 → Ec.Rep (muJ T n i) (Ec.sumL finv (fun t => Ec.nm finv ((T t).kn / 16 ^ (64 - i)) (T t).pt) (List.range n))
  | 0, _ => by
    rw [sumL_none _ _ fun x _ => by rw [Nat.sub_zero, Nat.div_eq_of_lt (kn_lt (T x))]; rfl]
    rfl
  | i + 1, hi => by
    have hS : Ec.On (Ec.sumL finv (fun t => Ec.nm finv ((T t).kn / 16 ^ (64 - i)) (T t).pt) (List.range n)) := Ec.On.sumL fld _ fun x _ => (T x).on.nm fld _
    have h1 := dbN_rep hS (muJ_rep T n i (by omega)) 4
    have h2 := inJ_rep T i (hS.nm fld _) h1 n
    rw [Ec.sumF_is fld _ (hS.nm fld _) fun x _ => (T x).on.nm fld _] at h2
    have e1 : 16 ^ (64 - i) = 16 * 16 ^ (63 - i) := by rw [show 64 - i = (63 - i) + 1 by omega, Nat.pow_succ, Nat.mul_comm]
    have h3 := Ec.horner fld (p := fun t => (T t).pt) (fun t => (T t).kn) (16 ^ (63 - i)) (List.range n) fun x _ => (T x).on
    rw [show 64 - (i + 1) = 63 - i by omega, ← h3, ← e1]
    exact h2
theorem multi_rep (T : Nat → Trm) (n : Nat) : Ec.Rep (muJ T n 64) (Ec.sumL finv (fun t => Ec.nm finv (T t).kn (T t).pt) (List.range n)) := by
  have h := muJ_rep T n 64 (Nat.le_refl _)
  simpa using h

/-- chunk by chunk, of 32 terms -/
def szC (n c : Nat) : Nat := min 32 (n - c * 32)
def chJ (T : Nat → Trm) (n : Nat) (s : J) (c : Nat) : J := addJ s (muJ (fun j => T (c * 32 + j)) (szC n c) 64)
/-- the chunks that a list names, one behind the other -/
def chL (T : Nat → Trm) (n : Nat) (l : List Nat) : J := l.foldl (chJ T n) ⟨0, 0, 0⟩
theorem chL_snoc (T : Nat → Trm) (n : Nat) (l : List Nat) (c : Nat) : chL T n (l ++ [c]) = chJ T n (chL T n l) c := by simp [chL, List.foldl_append]
theorem chL_rep (T : Nat → Trm) (n : Nat) : ∀ c, Ec.Rep (chL T n (List.range c)) (Ec.sumL finv (fun t => Ec.nm finv (T t).kn (T t).pt) (List.range (min n (c * 32))))
  | 0 => by rw [Nat.zero_mul, Nat.min_zero]; rfl
  | c + 1 => by
    have hon : ∀ l, Ec.On (Ec.sumL finv (fun t => Ec.nm finv (T t).kn (T t).pt) l) := fun l => Ec.On.sumL fld _ fun x _ => (T x).on.nm fld _
    have h1 := chL_rep T n c
    have h2 := multi_rep (fun j => T (c * 32 + j)) (szC n c)
    have h3 := addJ_rep (hon _) (Ec.On.sumL fld _ fun x _ => (T (c * 32 + x)).on.nm fld _) h1 h2
    rw [List.range_succ, chL_snoc]
    show Ec.Rep (addJ _ _) _
    have e : min n ((c + 1) * 32) = min n (c * 32) + szC n c := by unfold szC; omega
    rcases Nat.lt_or_ge (c * 32) n with hlt | hge
    · rw [e, List.range_add, Ec.sumL_append fld _ _ fun x _ => (T x).on.nm fld _, sumL_map]
      rw [show min n (c * 32) = c * 32 by omega] at h3 ⊢
      exact h3
    · have ez : szC n c = 0 := by unfold szC; omega
      rw [e, ez, Nat.add_zero]
      rw [ez] at h3
      have e0 : ∀ f : Nat → Pt, Ec.sumL finv f (List.range 0) = none := fun _ => rfl
      rw [e0, Ec.add_zero] at h3
      exact h3
/-- all -/
theorem chL_all (T : Nat → Trm) (n : Nat) : Ec.Rep (chL T n (List.range ((n + 31) / 32))) (Ec.sumL finv (fun t => Ec.nm finv (T t).kn (T t).pt) (List.range n)) := by
  have h := chL_rep T n ((n + 31) / 32)
  rwa [show min n ((n + 31) / 32 * 32) = n by omega] at h
end Go.Proofs.Ytneeefinaejgcaa.Cu

end
section
namespace Go.Proofs.Ytneeefinaejgcaa.Sy
open Go.RowKit Go.Proofs.Ytneeefinaejgcaa

/-- the mark of a range over a function for the deferred calls of its rounds -/
abbrev mark (D : Nat) : Deferred := { target := .collected D, args := #[] }
theorem St.refix {w0 : Base} {w : World} {L : Blocks} (h : St w0 w L) (ds : List Deferred) (fe : Fence) (ro : Nat) : St ⟨w0.world, w, ds, fe, ro⟩ w L := ⟨h.below, h.blk, h.apart, Nat.le_refl _, fun _ _ _ h _ => h⟩
theorem St.back {w0 : Base} {W w : World} {L L' : Blocks} (h0 : St w0 W L) {ds : List Deferred} {fe : Fence} {ro : Nat} (h : St ⟨w0.world, W, ds, fe, ro⟩ w L') (ds' : List Deferred) (fe' : Fence) (ro' : Nat) : St ⟨w0.world, w0.fz, ds', fe', ro'⟩ w L' :=
  ⟨h.below, h.blk, h.apart, Nat.le_trans h0.size h.size, fun k o hk ho hc => h.non k o hk (h0.non k o hk ho hc) hc⟩
theorem St.keeps {w0 : Base} {W w : World} {L L' : Blocks} (h0 : St w0 W L) {ds : List Deferred} {fe : Fence} {ro : Nat} (h : St ⟨w0.world, W, ds, fe, ro⟩ w L') {B : Nat} (hB : w0.world.heap.size ≤ B) : KeepsFrom B W w := ⟨h.size, fun k o hk ho hc => h.non k o (Nat.le_trans hB hk) ho hc⟩
theorem St.between {w0 : Base} {W w : World} {L L' : Blocks} (h0 : St w0 W L) {ds : List Deferred} {fe : Fence} {ro : Nat} (h : St ⟨w0.world, W, ds, fe, ro⟩ w L') : Below w0.world.heap.size W w :=
  ⟨h.below.os.trans h0.below.os.symm, h.below.tape.trans h0.below.tape.symm, h.below.output.trans h0.below.output.symm, h.size, fun k hk => (h.below.block k hk).trans (h0.below.block k hk).symm⟩
theorem St.own {w0 : Base} {X Y : World} {L : Blocks} {B : Nat} {row : Option Nat} (h : St w0 X L) (hB : w0.fz.heap.size ≤ B) (hB2 : w0.world.heap.size ≤ B) (hg : X.grownBy Y row) (hr : ∀ r, row = some r → B ≤ r ∧ ∃ o : Obj, X.heap[r]? = some o ∧ o.isCells = false) : St w0 Y L := by
  refine ⟨?_, fun g t cs hm => ⟨(h.blk g t cs hm).1, (h.blk g t cs hm).2.grown hg (fun e => ?_)⟩, h.apart, Nat.le_trans h.size hg.size, fun k o hk ho hc => ?_⟩
  · refine h.below.trans ⟨hg.os, hg.tape, hg.output, hg.size, fun k hk => hg.block k (Nat.lt_of_lt_of_le hk h.below.size) (fun e => ?_)⟩
    have := (hr k e.symm).1
    omega
  · obtain ⟨o, ho, hc⟩ := (hr g e.symm).2
    have hb := (h.blk g t cs hm).2
    unfold Blk at hb
    rw [hb] at ho
    cases ho
    cases hc
  · have h1 := h.non k o hk ho hc
    have hlt := (Array.getElem?_eq_some_iff.1 ho).1
    exact (hg.block k (Array.getElem?_eq_some_iff.1 h1).1 (fun e => by have := (hr k e.symm).1; omega)).trans h1

/-- what a round has to keep for the iterator: all below n₀, and these blocks -/
def KpL (n₀ : Nat) (l : Blocks) (W W' : World) : Prop := Below n₀ W W' ∧ ∀ p ∈ l, Blk W p.1 p.2.1 p.2.2 → Blk W' p.1 p.2.1 p.2.2
theorem KpL.trans {n₀ : Nat} {l : Blocks} {A B C : World} (h : KpL n₀ l A B) (k : KpL n₀ l B C) : KpL n₀ l A C := ⟨h.1.trans k.1, fun p hp hc => k.2 p hp (h.2 p hp hc)⟩
theorem KpL.put {n₀ : Nat} {l : Blocks} {W : World} {k : Nat} {o o' : Obj} (hk : n₀ ≤ k) (ho : W.heap[k]? = some o) (hc : o.isCells = false) : KpL n₀ l W (W.putObj k o') := by
  have hg := grownBy_putObj' W k o'
  refine ⟨⟨hg.os, hg.tape, hg.output, hg.size, fun j hj => World.putObj_heap_other (by omega)⟩, fun p _ hp => ?_⟩
  have hne : p.1 ≠ k := by
    rintro rfl
    unfold Blk at hp
    rw [hp] at ho
    cases ho
    cases hc
  exact (World.putObj_heap_other hne).trans hp
/-- the slots at a round's head -/
def roundF (F : Slots) (ps : Array Tmp) (vs : Array Value) : Slots := (ps.toList.zip vs.toList).foldl (fun F x => (x.1, x.2) :: F) F
theorem Fr.round {ds : List Deferred} {n : Nat} : ∀ (l : List (Tmp × Value)) {T : Array Value} {F : Slots}, (∀ x ∈ l, x.1 < n) → Fr ds { tmps := T, defers := ds } n F → Fr ds { tmps := l.foldl (fun t x => t.setIfInBounds x.1 x.2) T, defers := ds } n (l.foldl (fun F x => (x.1, x.2) :: F) F)
  | [], _, _, _, h => h
  | x :: l, T, F, hl, h => by
    have h2 := h.put (d := some x.1) (decide_eq_true (hl x (List.mem_cons_self ..))) x.2
    exact Fr.round l (fun y hy => hl y (List.mem_cons_of_mem _ hy)) h2

section
variable {P : Program} {w0 fz0 : World} {n : Nat} {Q : Exit → Act → World → Prop} {F : Slots} {L : Blocks}
/-- where a round of loop l stands -/
abbrev rb (w0 fz : World) (l : Nat) : Base := ⟨w0, fz, [], Fence.wide.inRound l, 7⟩
/-- .. and what stands behind the loop -/
abbrev ab (w0 fz : World) (D : Nat) : Base := ⟨w0, fz, [mark D], Fence.wide, 9⟩
/-- how a round may be left: on to the next one, or out of the function -/
def BP {α : Type} (w0 fz : World) (l : Nat) (HI : List α → Prop) (LL XR : List α → Blocks) (HX : List α → Prop) (pre : List α) : Exit → Act → World → Prop
  | .normal, _, w => HI pre ∧ St (rb w0 fz l) w (LL pre)
  | .ret, _, w => HX pre ∧ St (rb w0 fz l) w (XR pre)
  | _, _, _ => False
/-- how the loop variables are laid -/
def AP (w0 fz : World) (l n na : Nat) (FA : List Nat → Slots) (LP : Blocks) (LA : List Nat → Blocks) : Exit → Act → World → Prop
  | .normal, a, w => ∃ gs, gs.length = na ∧ Fr [] a n (FA gs) ∧ St (rb w0 fz l) w (LP ++ LA gs)
  | _, _, _ => False
theorem rangeF {α : Type} {g : Operand} {ps : Array Tmp} {assign body : Code} (gf : Nat) (lb : Array Value) (hgi : inF F g = true) (hg : evF F g = .func (.func gf) #[] lb) (eg : ∀ args w, (callFunc gf args).run P w = .ok (.enter gf args) w)
    (encs : α → Array Value) (kl : Blocks) (S Sp : List α → Prop) (N : Nat) (hps : ∀ x, (encs x).size = ps.size) (hpn : ∀ p ∈ ps.toList, p < n)
    (G : List Nat) (HI : List α → Prop) (hI0 : HI []) (LL XR : List α → Blocks) (HX : List α → Prop) (m : List Bool) (h0 : sel L m = LL []) (hG : ∀ pre, (LL pre).map (·.1) = G)
    (hseq : ∀ w, St ⟨w0, fz0, [], Fence.wide, 9⟩ w L → ∃ wk, Below wk.heap.size wk w ∧ SeqStopsK Fence.wide 8 P gf lb encs (KpL w0.heap.size kl) S Sp N wk)
    (hkl : ∀ p ∈ kl, ∀ pre, p ∈ LL pre)
    (na : Nat) (FA : α → List Nat → Slots) (LA : α → List Nat → Blocks) (hLA : ∀ x gs, gs.length = na → (LA x gs).map (·.1) = gs)
    (hassign : ∀ l fz pre x, wpC P (rb w0 fz l) n (AP w0 fz l n na (FA x) (LL pre) (LA x)) (roundF F ps (encs x)) (LL pre) assign)
    (hbody : ∀ l fz pre x gs, gs.length = na → pre.length < N → HI pre → wpC P (rb w0 fz l) n (BP w0 fz l HI LL XR HX (pre ++ [x])) (FA x gs) (LL pre ++ LA x gs) body)
    (hdone : ∀ D fz xs, S xs → HI xs → w0.heap.size ≤ D → fz.heap[D]? = some (.deferred (some [])) → X (ab w0 fz D) n Q F (LL xs) .normal)
    (hstop : ∀ D fz pre, Sp pre → HX pre → w0.heap.size ≤ D → fz.heap[D]? = some (.deferred (some [])) → X (ab w0 fz D) n Q F (XR pre) .ret) :
    wpC P ⟨w0, fz0, [], Fence.wide, 9⟩ n Q F L (.rangeFunc g ps assign body) := by
  intro a w ha hw
  obtain ⟨wk, hbk, hsq⟩ := hseq w hw
  have hsz : fz0.heap.size ≤ w.heap.size := hw.size
  have hsz0 : w0.heap.size ≤ w.heap.size := hw.below.size
  have hz : St ⟨w0, fz0, [], Fence.wide, 9⟩ w (LL []) := h0 ▸ hw.less (sel_sub L m)
  have had : a.defers = [] := ha.1
  -- what a round hands on pays the iterator
  have hK : ∀ {W W' : World} {L1 : Blocks} {pre pre' : List α} {l : Nat}, St ⟨w0, fz0, [], Fence.wide, 9⟩ W (LL pre) → St (rb w0 W l) W' L1 → (LL pre').Sublist L1 → KpL w0.heap.size kl W W' := fun {W W' L1 pre pre' l} h1 h2 hs =>
    ⟨h1.between h2, fun p hp _ => by
      exact (h2.blk _ _ _ (hs.subset (hkl p hp pre'))).2⟩
  refine wpIn_rangeFunc_ownH (F := Fence.wide) (n := 9) rfl (by omega) (gf := gf) (lb := lb) ((ha.eval hgi).trans hg) trivial eg (encs := encs) (Kp := KpL w0.heap.size kl) (S := S) (Sp := Sp) (N := N) (w0 := wk) hsq KpL.trans
    (fun W l o o' hl ho hc _ => KpL.put (by omega) ho hc) hbk hps
    (fun pre W => HI pre ∧ St ⟨w0, fz0, [], Fence.wide, 9⟩ W (LL pre)) (fun c pre W => c = .ret ∧ HX pre ∧ St ⟨w0, fz0, [], Fence.wide, 9⟩ W (XR pre))
    (fun pre X Y row hs hg hr => ⟨hs.1, St.own hs.2 hsz hsz0 hg hr⟩) (fun c pre X Y row hs hg hr => ⟨hs.1, hs.2.1, St.own hs.2.2 hsz hsz0 hg hr⟩) ⟨hI0, hz⟩
    (fun x a' W => ∃ gs, gs.length = na ∧ Fr [] a' n (FA x gs) ∧ (∀ e ∈ LA x gs, w0.heap.size ≤ e.1 ∧ Blk W e.1 e.2.1 e.2.2) ∧ (G ++ gs).Nodup)
    (fun x a' _ X Y row hs hg hr => ?_) ?_ ?_ ?_ ?_
  · obtain ⟨gs, hl0, h1, h2, h3⟩ := hs
    refine ⟨gs, hl0, h1, fun e he => ⟨(h2 e he).1, (h2 e he).2.grown hg (fun q => ?_)⟩, h3⟩
    obtain ⟨o, ho, hc⟩ := (hr e.1 q.symm).2
    have hb := (h2 e he).2
    unfold Blk at hb
    rw [hb] at ho
    cases ho
    cases hc
  · -- the loop variables
    intro l pre x W K hI0' hk
    obtain ⟨hH, hI⟩ := hI0'
    have hfr : Fr [] { tmps := (ps.zip (encs x)).foldl (fun t (p, v) => t.setIfInBounds p v) a.tmps, defers := [] } n (roundF F ps (encs x)) := by
      have h1 : Fr [] { tmps := a.tmps, defers := [] } n F := ⟨rfl, ha.2.1, ha.2.2⟩
      have h2 := Fr.round (ps.toList.zip (encs x).toList) (fun y hy => hpn y.1 (List.of_mem_zip hy).1) h1
      have e : (ps.zip (encs x)).foldl (fun t (p, v) => t.setIfInBounds p v) a.tmps = (ps.toList.zip (encs x).toList).foldl (fun t x => t.setIfInBounds x.1 x.2) a.tmps := by
        rw [← Array.foldl_toList, Array.toList_zip]
      rw [e]
      exact h2
    refine wpIn_mono (hassign l W pre x _ W hfr (hI.refix _ _ _)) fun e a' W' hq => ?_
    cases e with
    | normal =>
      obtain ⟨gs, hl0, h1, h2⟩ := hq
      have hsub : (LL pre).Sublist (LL pre ++ LA x gs) := List.sublist_append_left _ _
      refine hk a' W' (hI.keeps h2 hsz0) (hK hI h2 hsub) ⟨hH, (hI.back h2 _ _ _).less hsub⟩ ⟨gs, hl0, h1, fun e he => h2.blk e.1 e.2.1 e.2.2 (List.mem_append_right _ he), ?_⟩
      have := h2.apart
      rwa [List.map_append, hG, hLA _ _ hl0] at this
    | _ => exact hq.elim
  · -- the body
    intro l pre x a' W hl _ hI0' ⟨gs, hl0, h1, h2, h3⟩ hlen
    obtain ⟨hH, hI⟩ := hI0'
    have hst : St (rb w0 W l) W (LL pre ++ LA x gs) := by
      refine ⟨hI.below, fun g t cs hm => ?_, ?_, Nat.le_refl _, fun _ _ _ h _ => h⟩
      · rcases List.mem_append.1 hm with hm | hm
        · exact hI.blk g t cs hm
        · exact h2 (g, t, cs) hm
      · rw [List.map_append, hG, hLA _ _ hl0]
        exact h3
    refine wpIn_mono (hbody l W pre x gs hl0 hlen hH a' W h1 hst) fun e a3 W3 hq => ?_
    cases e with
    | normal => exact ⟨hI.keeps hq.2 hsz0, hK hI hq.2 (List.Sublist.refl _), hq.1, hI.back hq.2 _ _ _⟩
    | ret => exact ⟨hI.keeps hq.2 hsz0, rfl, hq.1, hI.back hq.2 _ _ _⟩
    | _ => exact hq.elim
  · intro D xs W hD hS hI hd
    exact hdone D W xs hS hI.1 (Nat.le_trans hsz0 hD) hd _ W ⟨by simp [had], ha.2.1, ha.2.2⟩ (hI.2.refix _ _ _)
  · rintro D c pre W hD hS ⟨rfl, hx, hI⟩ hd
    exact wpIn_ret (hstop D W pre hS hx (Nat.le_trans hsz0 hD) hd _ W ⟨by simp [had], ha.2.1, ha.2.2⟩ (hI.refix _ _ _))

/-- a round's end -/
theorem bpN {α : Type} {l : Nat} {HI : List α → Prop} {LL XR : List α → Blocks} {HX : List α → Prop} {pre : List α} (m : List Bool) {M : Blocks} (hL : sel L m = M) (hM : M = LL pre) (hi : HI pre) : X (rb w0 fz0 l) n (BP w0 fz0 l HI LL XR HX pre) F L .normal := fun _ _ _ hw => by
  subst hL
  refine ⟨hi, ?_⟩
  rw [← hM]
  exact hw.less (sel_sub L m)
/-- the loop variables are laid -/
theorem apN {l na : Nat} {FA : List Nat → Slots} {LP : Blocks} {LA : List Nat → Blocks} (gs : List Nat) (hg : gs.length = na) (hF : ∀ p ∈ FA gs, F.lookup p.1 = some p.2) (m : List Bool) (hL : sel L m = LP ++ LA gs) : X (rb w0 fz0 l) n (AP w0 fz0 l n na FA LP LA) F L .normal := fun _ _ ha hw => ⟨gs, hg, ha.all hF, hL ▸ hw.less (sel_sub L m)⟩

/-! ## Calls that make memory -/
/-- it gives a value, and blocks of its own, as R says -/
def GetsN (w : World) (R : Value → Blocks → Prop) (e : Ending) (w' : World) : Prop := ∃ v M, e = .returned v ∧ R v M ∧ Below w.heap.size w w' ∧ (∀ g t cs, (g, t, cs) ∈ M → w.heap.size ≤ g ∧ Blk w' g t cs) ∧ (M.map (·.1)).Nodup
theorem St.addN {w0 : Base} {w w' : World} {L M : Blocks} (h : St w0 w L) (hg : Gr w w') (hM : ∀ g t cs, (g, t, cs) ∈ M → w.heap.size ≤ g ∧ Blk w' g t cs) (hn : (M.map (·.1)).Nodup) : St w0 w' (L ++ M) := by
  have h' := h.gr hg
  refine ⟨h'.below, fun g t cs hm => ?_, ?_, h'.size, h'.non⟩
  · rcases List.mem_append.1 hm with hm | hm
    · exact h'.blk g t cs hm
    · exact ⟨Nat.le_trans h.below.size (hM g t cs hm).1, (hM g t cs hm).2⟩
  · rw [List.map_append, List.nodup_append]
    refine ⟨h.apart, hn, fun x hx y hy e => ?_⟩
    obtain ⟨⟨g, t, cs⟩, hm, rfl⟩ := List.mem_map.1 hx
    obtain ⟨⟨g', t', cs'⟩, hm', rfl⟩ := List.mem_map.1 hy
    have h1 := (h.blk g t cs hm).2.lt
    have h2 := (hM g' t' cs' hm').1
    have e' : g = g' := e
    omega
theorem callN {w0 : Base} {ops : Array Oper} {o : Oper} {l : List Oper} (hg : good ops n F o = true) (f : FuncId) (args : Array Value) (he : ∀ w, (execOp (evF F) o).run P w = .ok (.enter f args) w) (R : Value → Blocks → Prop)
    (hc : ∀ w, St w0 w L → Calls P f args w (GetsN w R)) (h : ∀ v M, R v M → wpS P w0 n ops Q (putF F o.dst v) (L ++ M) l) : wpS P w0 n ops Q F L (o :: l) := fun a w ha hw => by
  obtain ⟨g1, _, g3, _⟩ := good_spec hg
  refine wpList_step fun K hK => ?_
  rw [if_pos (ha.wanted g1)]
  unfold Oper.wp
  rw [good_exec hg ha, he w]
  refine Calls.mono (hc w hw) fun e w' he' => ?_
  obtain ⟨v, M, rfl, hR, hb, hM, hn⟩ := he'
  exact hK _ _ (h v M hR _ _ (ha.put g3 v) (hw.addN hb hM hn))
/-! ## Leaving behind a loop -/
theorem St.unmark {w0 fz : World} {D : Nat} {w : World} (h : St (ab w0 fz D) w L) (hD : w0.heap.size ≤ D) (hm : fz.heap[D]? = some (.deferred (some []))) :
    (Instr.takeDeferred D).run P w = .ok [] (w.putObj D (.deferred none)) ∧ St (Base.of w0) (w.putObj D (.deferred none)) L := by
  have ho := h.non D _ hD hm rfl
  have hg := grownBy_putObj' w D (.deferred none)
  refine ⟨run_takeDeferred ho, ?_⟩
  have h1 : St ⟨w0, w0, [], Fence.wide, 9⟩ w L := ⟨h.below, h.blk, h.apart, h.below.size, fun k o hk hq _ => by have := (Array.getElem?_eq_some_iff.1 hq).1; exact absurd this (by show ¬ k < w0.heap.size; have : w0.heap.size ≤ k := hk; omega)⟩
  exact h1.own (B := w0.heap.size) (Nat.le_refl _) (Nat.le_refl _) hg (fun r e => by cases e; exact ⟨hD, _, ho, rfl⟩)
theorem retM1 {w1 fz : World} {D : Nat} {fn : Func} {r : ResultVar} {v : Value} (hr : fn.results = #[r]) (h : Has P F L r v) (hD : w1.heap.size ≤ D) (hm : fz.heap[D]? = some (.deferred (some []))) : X (ab w1 fz D) n (bodyPostM Fence.wide 9 P fn (Gets w1 v)) F L .ret := fun a w ha hw => by
  obtain ⟨e1, e2⟩ := St.unmark (P := P) hw hD hm
  have hd : a.defers = [mark D] := ha.1
  show LeavesInM Fence.wide 9 P fn a.tmps (Gets w1 v) a.defers .returning w
  rw [hd]
  refine ⟨by simp, .inl ⟨D, _, rfl, e1, ?_⟩⟩
  refine ⟨v, ?_, rfl, e2.below⟩
  rcases Res.run h ha e2 with ⟨t, rfl, f1⟩ | ⟨t, ty, ad, rfl, f1, f2⟩ <;> simp [results, Result.andThen, *]
end
end Go.Proofs.Ytneeefinaejgcaa.Sy

end
section
namespace Go.Proofs.Ytneeefinaejgcaa.Sy
open Go.RowKit Go.Proofs.Ytneeefinaejgcaa

/-- where a round of such a function begins -/
abbrev pb (W : World) (m : Nat) : Base := ⟨W, W, [], Fence.wide, m⟩
theorem St.here (W : World) (m : Nat) : St (pb W m) W [] := ⟨Below.refl _ _, (fun _ _ _ h => by cases h), List.Pairwise.nil, Nat.le_refl _, fun _ _ _ h _ => h⟩
theorem St.grown {W w : World} {m : Nat} {L : Blocks} (h : St (pb W m) w L) : Gr W w := h.below

section
variable {P : Program} {W : World} {m n : Nat} {Q : Exit → Act → World → Prop} {F : Slots} {L : Blocks} {ops : Array Oper} {o : Oper} {rest : List Oper}
theorem operIn_wide {o : Oper} {a : Act} {w : World} {K : Act → World → Prop} (hd : ∀ c, o.op ≠ .defer c) (h : o.wp P a w K Q) : o.wpIn Fence.wide m P a w K Q := by
  unfold Oper.wpIn
  refine ⟨fun _ _ => trivial, ?_⟩
  rw [Oper.semAt_plain _ _ _ hd]
  unfold Oper.wp at h
  generalize (execOp a.eval o).run P w = r at *
  cases r with
  | ok x w' =>
    cases x <;> simp only [Oper.upon, Oper.uponIn] at h ⊢ <;> first
      | exact h
      | exact ⟨fun e => by simp [Fence.wide] at e, callsIn_wide.2 h⟩
      | exact ⟨fun e => by simp [Fence.wide] at e, fun c cs _ => let ⟨v, w', r, s⟩ := h c cs; ⟨v, w', r, stepsIn_wide.2 s⟩⟩
      | exact h.elim
  | halt x w' => cases x <;> simp only [Oper.upon, Oper.uponIn] at h ⊢ <;> exact h
/-- on to the rest of the list -/
def thenI (P : Program) (ops : Array Oper) (m : Nat) (rest : List Oper) (Q : Exit → Act → World → Prop) : Exit → Act → World → Prop
  | .normal, a, w => wpListIn Fence.wide m P ops Q rest a w
  | e, a, w => Q e a w
theorem listIn_app (hq : ¬ LetsOut Q) : ∀ (l : List Oper), (∀ o ∈ l, ∀ c, o.op ≠ .defer c) → ∀ (a : Act) (w : World), wpList P ops (thenI P ops m rest Q) l a w → wpListIn Fence.wide m P ops Q (l ++ rest) a w
  | [], _, _, _, h => h
  | o :: l, hd, a, w, h => by
    have hq' : ¬ LetsOut (thenI P ops m rest Q) := fun ⟨a, w, q⟩ => hq ⟨a, w, q⟩
    unfold wpList at h
    show wpListIn Fence.wide m P ops Q (o :: (l ++ rest)) a w
    unfold wpListIn
    split
    · rename_i hw
      simp only [hw, if_true] at h
      rcases h with h | h
      · have h1 := operIn_wide (m := m) (hd o (by simp)) h
        have h2 : o.wpIn Fence.wide m P a w _ Q := h1
        exact Oper.wpIn_mono (fun a w h' => listIn_app hq l (fun o ho => hd o (by simp [ho])) a w h') h2
      · exact absurd h.2 hq'
    · rename_i hw
      simp only [hw] at h
      exact ⟨fun _ _ => trivial, listIn_app hq l (fun o ho => hd o (by simp [ho])) _ _ h⟩
theorem listIn_wide (hq : ¬ LetsOut Q) : ∀ (l : List Oper), (∀ o ∈ l, ∀ c, o.op ≠ .defer c) → ∀ (a : Act) (w : World), wpList P ops Q l a w → wpListIn Fence.wide m P ops Q l a w
  | [], _, _, _, h => h
  | o :: l, hd, a, w, h => by
    unfold wpList at h
    unfold wpListIn
    split
    · rename_i hw
      simp only [hw, if_true] at h
      rcases h with h | h
      · exact Oper.wpIn_mono (fun a w h' => listIn_wide hq l (fun o ho => hd o (by simp [ho])) a w h') (operIn_wide (hd o (by simp)) h)
      · exact absurd h.2 hq
    · rename_i hw
      simp only [hw] at h
      exact ⟨fun _ _ => trivial, listIn_wide hq l (fun o ho => hd o (by simp [ho])) _ _ h⟩
theorem noDefer_mem (h : noDefer ops = true) {o : Oper} (ho : o ∈ ops.toList) : ∀ c, o.op ≠ .defer c := by
  obtain ⟨i, hi⟩ := List.mem_iff_getElem?.1 ho
  exact noDefer_spec h (by simpa using hi)
/-- a region in which a value is handed on: the k operations ahead of that -/
theorem regionY {i : Nat} (k : Nat) (hq : ¬ LetsOut Q) (hd : noDefer ops = true) (h : wpS P (pb W m) n ops (thenI P ops m (ops.toList.drop k) Q) F L (ops.toList.take k)) : wpC P (pb W m) n Q F L (.region i ops false) := fun a w ha hw => by
  refine wpIn_region_list ?_
  have h1 := listIn_app hq (ops.toList.take k) (fun o ho => noDefer_mem hd (List.mem_of_mem_take ho)) a w (h a w ha hw)
  rwa [List.take_append_drop] at h1
/-- a value is handed on -/
theorem yieldX {ro : Option Nat} {k : Nat} (hl : ops.toList.drop k = o :: rest) (hq : ¬ LetsOut Q) (hd : noDefer ops = true) (hg : good ops n F o = true) (l : Nat) (args : Array Value) (he : ∀ w, (execOp (evF F) o).run P w = (Instr.yield l args).run P w)
    (R : Ending → World → Prop) (hY : ∀ w, Gr W w → YieldAt Fence.wide (m - 1) P l args w R) (hR : ∀ e w', R e w' → ∃ b, e = .returned (.bool b)) (_ : ro = none)
    (h : ∀ w' b, R (.returned (.bool b)) w' → wpS P (pb w' m) n ops Q (putF F o.dst (.bool b)) [] rest) : X (pb W m) n (thenI P ops m (ops.toList.drop k) Q) F L .normal := fun a w ha hw => by
  show wpListIn Fence.wide m P ops Q (ops.toList.drop k) a w
  have hdr : ∀ o ∈ ops.toList.drop k, ∀ c, o.op ≠ .defer c := fun o ho => noDefer_mem hd (List.mem_of_mem_drop ho)
  rw [hl] at hdr ⊢
  obtain ⟨g1, _, g3, _⟩ := good_spec hg
  unfold wpListIn
  rw [if_pos (ha.wanted g1)]
  unfold Oper.wpIn
  refine ⟨fun _ _ => trivial, ?_⟩
  rw [Oper.semAt_plain _ _ _ (hdr o (by simp)), good_exec hg ha, he w]
  obtain ⟨fn, tmps, assign, body, e1, e2⟩ := hY w hw.grown
  rw [e1]
  refine ⟨fun e => by simp [Fence.wide] at e, e2.mono fun e w' hr => ?_⟩
  obtain ⟨b, rfl⟩ := hR e w' hr
  exact listIn_wide hq rest (fun o ho => hdr o (by simp [ho])) _ _ (h w' b hr _ _ (ha.put g3 _) (St.here w' m))

theorem abides_gr {β : Type} {B : Nat} {J : β → World → Prop} (h : AbidesFrom B J) {s : β} {X Y : World} (hj : J s X) (hg : Gr X Y) : J s Y := h s X Y none hj (only_of_below hg none) (fun r e => by cases e)
theorem yield_mono {l : Nat} {args : Array Value} {R R' : Ending → World → Prop} (h : YieldAt Fence.wide m P l args W R) (hr : ∀ e w, R e w → R' e w) : YieldAt Fence.wide m P l args W R' := by
  obtain ⟨fn, tmps, assign, body, e1, e2⟩ := h
  exact ⟨fn, tmps, assign, body, e1, e2.mono hr⟩

/-! ## Its loop -/
def NextP (n N : Nat) (FF : Nat → Slots) (Z : Nat → World → Prop) (k : Nat) : Act → World → Prop := fun a w => k < N ∧ Fr [] a n (FF (k + 1)) ∧ Z (k + 1) w
theorem loopP {c : Code} (N : Nat) (FF : Nat → Slots) (Z : Nat → World → Prop) (hF : ∀ p ∈ FF 0, F.lookup p.1 = some p.2) (h0 : ∀ w, Gr W w → Z 0 w)
    (hr : ∀ k w, k ≤ N → Z k w → wpC P (pb w m) n (Exit.then (NextP n N FF Z k) Q) (FF k) [] c) : wpC P (pb W m) n Q F L (.loop c) :=
  loopI N (fun k a w => Fr [] a n (FF k) ∧ Z k w) (fun a w ha hw => ⟨ha.all hF, h0 w hw.grown⟩)
    fun k hk a w ⟨ha, hz⟩ => hr k w hk hz a w ha (St.here w m)
theorem againP {N : Nat} {FF : Nat → Slots} {Z : Nat → World → Prop} {k : Nat} {R : Exit → Act → World → Prop} (hk : k < N) (hF : ∀ p ∈ FF (k + 1), F.lookup p.1 = some p.2) (hz : ∀ w, Gr W w → Z (k + 1) w) :
    X (pb W m) n (Exit.then (NextP n N FF Z k) R) F L .normal := fun _ w ha hw => ⟨hk, ha.all hF, hz w hw.grown⟩
theorem enterP {f : FuncId} {fn : Func} {c : Code} {args : List Value} {R : Ending → World → Prop} (hf : P.funcs[f]? = some fn) (hb : fn.body = some c) (hn : args.length ≤ fn.ntmps)
    (h : wpC P (pb W m) fn.ntmps (bodyPost P fn R) (slotsOf 0 args) [] c) : CallsIn Fence.wide m P f args.toArray W R :=
  callsIn_of_wp hf hb trivial (h _ _ ⟨rfl, by simp; omega, fun i v hi => by
    have := (lookup_slotsOf args 0 i v hi).2
    rw [Nat.sub_zero] at this
    have hl := (List.getElem?_eq_some_iff.1 this).1
    rw [Array.getElem?_append_left (by simpa using hl)]
    simpa using this⟩ (St.here W m)) rfl
theorem retP {fn : Func} {R : Ending → World → Prop} (hr : fn.results = #[]) (h : ∀ v w, Gr W w → R (.returned v) w) {e : Exit} (he : e = .ret ∨ e = .normal) : X (pb W m) n (bodyPost P fn R) F L e := fun a w ha hw => by
  have hx : a.defers = [] ∧ ∃ v, (results fn a.tmps).run P w = .ok v w ∧ R (.returned v) w := ⟨ha.1, _, results_none hr _ _ _, h _ w hw.grown⟩
  rcases he with rfl | rfl <;> exact hx
end
end Go.Proofs.Ytneeefinaejgcaa.Sy

end
section
namespace Go.Proofs.Ytneeefinaejgcaa.Cu
open Go.RowKit Go.Proofs.Ytneeefinaejgcaa Go.Proofs.Ytneeefinaejgcaa.Sy

/-- a chunk of a slice -/
def chV (b off m c : Nat) : Value := .slice (some ⟨b, off + 32 * c * 13, none⟩) (szC m c) (szC m c)
def chE (b off m : Nat) {N : Nat} (x : Fin N) : Array Value := #[chV b off m x.val]
set_option maxHeartbeats 1000000 in
set_option maxRecDepth 100000 in
theorem chunk_any (w : World) (A : Option Addr) (m cap : Nat) :
    Calls Try.prog 44 #[.slice A m cap, .int .i64 32] w (GetsN w fun v M => ∃ g1 g2, v = .func (.func 78) #[] #[.pointer (some ⟨g1, 0, none⟩), .pointer (some ⟨g2, 0, none⟩)] ∧ M = [(g1, 33, #[.slice A m cap]), (g2, 3, #[.int .i64 32])]) := by
  go_enter Try.func44, Try.ntmps44
  go_wp2
  go_ret
  refine ⟨_, _, rfl, ⟨_, _, rfl, rfl⟩, below_alloc2 w _ _, fun g t cs hm => ?_, ?_⟩
  · simp only [List.mem_cons, List.not_mem_nil, or_false, Prod.mk.injEq] at hm
    rcases hm with ⟨rfl, rfl, rfl⟩ | ⟨rfl, rfl, rfl⟩
    · exact ⟨Nat.le_refl _, (Blk.new w _ _).alloc _⟩
    · exact ⟨by omega, blk_new2 w _ _ _⟩
  · simp
set_option maxHeartbeats 4000000 in
set_option maxRecDepth 100000 in
theorem chunk1_in (n l Bs Bn n₀ b off m cap N : Nat) (hN0 : N = (m + 31) / 32) (hm : m ≤ cap) (hm2 : m ≤ 4611686018427387904) (J Jx : List (Fin N) → World → Prop) (W : World) (hJ : AbidesFrom W.heap.size J) (hJx : AbidesFrom W.heap.size Jx)
    (hY : ∀ pre x W1, J pre W1 → pre.length < N → YieldAt Fence.wide (n - 1) Try.prog l (chE b off m x) W1 fun e W' => (e = .returned (.bool true) ∧ J (pre ++ [x]) W' ∧ KpL n₀ [(Bs, 33, #[.slice (some ⟨b, off, none⟩) m cap]), (Bn, 3, #[.int .i64 32])] W1 W') ∨ (e = .returned (.bool false) ∧ Jx (pre ++ [x]) W'))
    (hS : Blk W Bs 33 #[.slice (some ⟨b, off, none⟩) m cap]) (hN : Blk W Bn 3 #[.int .i64 32]) (h0 : J [] W) :
    CallsIn Fence.wide n Try.prog 78 #[.func (.yield l) #[] #[], .pointer (some ⟨Bs, 0, none⟩), .pointer (some ⟨Bn, 0, none⟩)] W fun e W' => (∃ v, e = .returned v) ∧ ((∃ ys : List (Fin N), ys.map (·.1) = List.range N ∧ J ys W') ∨ (∃ pre : List (Fin N), (∃ k, k ≤ N ∧ pre.map (·.1) = List.range k) ∧ Jx pre W')) := by
  refine Sy.enterP (args := [.func (.yield l) #[] #[], .pointer (some ⟨Bs, 0, none⟩), .pointer (some ⟨Bn, 0, none⟩)]) Try.func78 rfl (Nat.le_of_ble_eq_true (by kernel_rfl)) ?_
  refine Sy.seq ?_
  refine Sy.region ?_
  refine Sy.step (by kernel_rfl) (.int .i64 0) (Quiet.pure (fun _ => by kernel_rfl)) ?_
  refine Sy.nil ?_
  refine Sy.then_ ?_
  refine Sy.block ?_
  refine Sy.loopP N (fun k1 => [(0, .func (.yield l) #[] #[]), (1, .pointer (some ⟨Bs, 0, none⟩)), (2, .pointer (some ⟨Bn, 0, none⟩)), (4, .int .i64 ((32 * k1 : Nat) : Int))]) (fun k1 w => ∃ pre : List (Fin N), pre.map (·.1) = List.range k1 ∧ J pre w ∧ Blk w Bs 33 #[.slice (some ⟨b, off, none⟩) m cap] ∧ Blk w Bn 3 #[.int .i64 32]) (all_cons (by kernel_rfl) (all_cons (by kernel_rfl) (all_cons (by kernel_rfl) (all_cons (by kernel_rfl) all_nil)))) (fun w hg => ⟨[], rfl, abides_gr hJ h0 hg, hg.blk hS, hg.blk hN⟩) (fun k1 wr hk1 hz => ?_)
  clear hS hN
  obtain ⟨pre, hpre, hj, hS, hN⟩ := hz
  have hlen : pre.length = k1 := by have := congrArg List.length hpre; rwa [List.length_map, List.length_range] at this
  refine Sy.seq ?_
  refine Sy.seq ?_
  refine Sy.region ?_
  refine Sy.step (by kernel_rfl) (.int .i64 ((32 * k1 : Nat) : Int)) (Quiet.pure (fun _ => by kernel_rfl)) ?_
  refine Sy.step (by kernel_rfl) (.slice (some ⟨b, off, none⟩) m cap) (Quiet.thereOne Bs 0 33 _ _ rfl (by kernel_rfl) hS.lt _ (hS.cell 0) Try.underlying33 rfl) ?_
  refine Sy.step (by kernel_rfl) (.int .i64 ((m : Nat) : Int)) (Quiet.pure (fun _ => by kernel_rfl)) ?_
  obtain ⟨b1, hb1⟩ : ∃ z : Bool, z = decide (32 * k1 < m) := ⟨_, rfl⟩
  refine Sy.step (by kernel_rfl) (.bool b1) (Quiet.pure (exec_int .lss _ _ _ .i64 _ _ _ rfl rfl rfl (int_lss _ _ _ _ _ (by rw [hb1]; exact decide_eq_decide.2 (by omega))))) ?_
  refine Sy.nil ?_
  refine Sy.then_ ?_
  cases b1
  · have lb1 : ¬ (32 * k1 < m) := of_decide_eq_false hb1.symm
    refine Sy.cond_f (by kernel_rfl) (by kernel_rfl) ?_
    refine Sy.exit ?_
    refine Sy.then_exit ?_
    refine Sy.then_exit ?_
    obtain rfl : N = k1 := by omega
    refine Sy.in_exit ?_
    exact Sy.retP rfl (fun v w3 hg => ⟨⟨_, rfl⟩, .inl ⟨pre, hpre, abides_gr hJ hj hg⟩⟩) (.inr rfl)
  · have lb1 : 32 * k1 < m := of_decide_eq_true hb1.symm
    refine Sy.cond_t (by kernel_rfl) (by kernel_rfl) ?_
    refine Sy.skip ?_
    refine Sy.then_ ?_
    refine Sy.seq ?_
    refine Sy.block ?_
    refine Sy.seq ?_
    refine Sy.regionD (fun j => false) (by kernel_rfl) ?_
    refine Sy.stepD 0 rfl (by kernel_rfl) (fun _ _ _ _ h => h) (by kernel_rfl) (.int .i64 ((32 : Nat) : Int)) (Quiet.thereOne Bn 0 3 _ _ rfl (by kernel_rfl) hN.lt _ (hN.cell 0) Try.underlying3 rfl) ?_
    refine Sy.stepD 1 rfl (by kernel_rfl) (fun _ _ _ _ h => h) (by kernel_rfl) (.slice (some ⟨b, off, none⟩) m cap) (Quiet.thereOne Bs 0 33 _ _ rfl (by kernel_rfl) hS.lt _ (hS.cell 0) Try.underlying33 rfl) ?_
    refine Sy.stepD 2 rfl (by kernel_rfl) (fun _ _ _ _ h => h) (by kernel_rfl) (.int .i64 ((32 * k1 : Nat) : Int)) (Quiet.pure (fun _ => by kernel_rfl)) ?_
    refine Sy.stepD 3 rfl (by kernel_rfl) (fun _ _ _ _ h => h) (by kernel_rfl) (.slice (some ⟨b, off + (32 * k1) * 13, none⟩) (m - (32 * k1)) (cap - (32 * k1))) (Quiet.pure (exec_sl1 _ _ _ b off m cap (32 * k1) 13 .i64 rfl rfl rfl (by kernel_rfl) (fun _ => by kernel_rfl) (by omega) (by omega))) ?_
    refine Sy.stepD 4 rfl (by kernel_rfl) (fun _ _ _ _ h => h) (by kernel_rfl) (.int .i64 (((m - (32 * k1)) : Nat) : Int)) (Quiet.pure (fun _ => by kernel_rfl)) ?_
    obtain ⟨sz, hsz⟩ : ∃ z, z = szC m k1 := ⟨_, rfl⟩
    have hs : 0 < sz ∧ 32 * k1 + sz ≤ m := by rw [hsz]; unfold szC; omega
    refine Sy.stepD 5 rfl (by kernel_rfl) (fun _ _ _ _ h => h) (by kernel_rfl) (.int .i64 ((sz : Nat) : Int)) (Quiet.pure (exec_min _ _ .i64 32 (m - (32 * k1)) sz rfl rfl rfl (by rw [hsz]; unfold szC; omega))) ?_
    refine Sy.stepD 6 rfl (by kernel_rfl) (fun _ _ _ _ h => h) (by kernel_rfl) (.int .i64 ((sz : Nat) : Int)) (Quiet.pure (fun _ => by kernel_rfl)) ?_
    refine Sy.doneD (by kernel_rfl) ?_
    refine Sy.then_ ?_
    refine Sy.seq ?_
    have hx : k1 < N := by omega
    refine Sy.regionY 10 (by rintro ⟨_, _, ⟨_, hv⟩, _⟩; cases hv) (by kernel_rfl) ?_
    refine Sy.step (by kernel_rfl) (.func (.yield l) #[] #[]) (Quiet.pure (fun _ => by kernel_rfl)) ?_
    refine Sy.step (by kernel_rfl) (.slice (some ⟨b, off, none⟩) m cap) (Quiet.thereOne Bs 0 33 _ _ rfl (by kernel_rfl) hS.lt _ (hS.cell 0) Try.underlying33 rfl) ?_
    refine Sy.step (by kernel_rfl) (.int .i64 ((32 * k1 : Nat) : Int)) (Quiet.pure (fun _ => by kernel_rfl)) ?_
    refine Sy.step (by kernel_rfl) (.int .i64 ((32 * k1 : Nat) : Int)) (Quiet.pure (fun _ => by kernel_rfl)) ?_
    refine Sy.step (by kernel_rfl) (.int .i64 ((sz : Nat) : Int)) (Quiet.pure (fun _ => by kernel_rfl)) ?_
    refine Sy.step (by kernel_rfl) (.int .i64 (((32 * k1) + sz : Nat) : Int)) (Quiet.pure (exec_int .add _ _ _ .i64 _ _ _ rfl rfl rfl (int_add _ _ _ _ _ ((wrap_i64 (by omega) (by omega)).trans (by omega))))) ?_
    refine Sy.step (by kernel_rfl) (.int .i64 ((32 * k1 : Nat) : Int)) (Quiet.pure (fun _ => by kernel_rfl)) ?_
    refine Sy.step (by kernel_rfl) (.int .i64 ((sz : Nat) : Int)) (Quiet.pure (fun _ => by kernel_rfl)) ?_
    refine Sy.step (by kernel_rfl) (.int .i64 (((32 * k1) + sz : Nat) : Int)) (Quiet.pure (exec_int .add _ _ _ .i64 _ _ _ rfl rfl rfl (int_add _ _ _ _ _ ((wrap_i64 (by omega) (by omega)).trans (by omega))))) ?_
    refine Sy.step (by kernel_rfl) (.slice (some ⟨b, off + (32 * k1) * 13, none⟩) (((32 * k1) + sz) - (32 * k1)) (((32 * k1) + sz) - (32 * k1))) (Quiet.pure (exec_sl3 _ _ _ _ _ b off m cap (32 * k1) ((32 * k1) + sz) ((32 * k1) + sz) 13 .i64 .i64 .i64 rfl rfl rfl rfl rfl (by kernel_rfl) (fun _ => by kernel_rfl) (by have := hs; omega) (by have := hs; omega) (by have := hs; omega) (by have := hs; omega))) ?_
    refine Sy.nil ?_
    refine Sy.yieldX (ro := none) rfl (by rintro ⟨_, _, ⟨_, hv⟩, _⟩; cases hv) (by kernel_rfl) (by kernel_rfl) l #[.slice (some ⟨b, off + (32 * k1) * 13, none⟩) (((32 * k1) + sz) - (32 * k1)) (((32 * k1) + sz) - (32 * k1))] (fun _ => by kernel_rfl) (fun e W' => (e = .returned (.bool true) ∧ J (pre ++ [⟨k1, hx⟩]) W' ∧ Blk W' Bs 33 #[.slice (some ⟨b, off, none⟩) m cap] ∧ Blk W' Bn 3 #[.int .i64 32]) ∨ (e = .returned (.bool false) ∧ Jx (pre ++ [⟨k1, hx⟩]) W')) (fun w hg => by
            have e : chE b off m ⟨k1, hx⟩ = #[.slice (some ⟨b, off + 32 * k1 * 13, none⟩) (32 * k1 + sz - 32 * k1) (32 * k1 + sz - 32 * k1)] := by unfold chE chV; rw [← hsz, Nat.add_sub_cancel_left]
            have y := hY pre ⟨k1, hx⟩ w (abides_gr hJ hj hg) (by omega)
            rw [e] at y
            exact yield_mono y (fun e w' q => q.imp (fun q => ⟨q.1, q.2.1, q.2.2.2 (Bs, 33, _) (by simp) (hg.blk hS), q.2.2.2 (Bn, 3, _) (by simp) (hg.blk hN)⟩) id)) (fun e w' q => q.elim (fun q => ⟨_, q.1⟩) (fun q => ⟨_, q.1⟩)) rfl (fun w2 b hr => ?_)
    cases b
    · have hx2 := hr.elim (fun q => by cases q.1) (fun q => q.2)
      refine Sy.step (by kernel_rfl) (.bool true) (Quiet.pure (fun _ => by kernel_rfl)) ?_
      refine Sy.nil ?_
      refine Sy.then_ ?_
      refine Sy.cond_t (by kernel_rfl) (by kernel_rfl) ?_
      refine Sy.ret ?_
      refine Sy.in_ret ?_
      refine Sy.then_ret ?_
      refine Sy.then_ret ?_
      refine Sy.in_ret ?_
      exact Sy.retP rfl (fun v w3 hg => ⟨⟨_, rfl⟩, .inr ⟨pre ++ [⟨k1, hx⟩], ⟨k1 + 1, by omega, by rw [List.map_append, hpre, List.range_succ]; rfl⟩, abides_gr hJx hx2 hg⟩⟩) (.inl rfl)
    · clear hS hN hj
      obtain ⟨hj, hS, hN⟩ := hr.elim (fun q => q.2) (fun q => by cases q.1)
      refine Sy.step (by kernel_rfl) (.bool false) (Quiet.pure (fun _ => by kernel_rfl)) ?_
      refine Sy.nil ?_
      refine Sy.then_ ?_
      refine Sy.cond_f (by kernel_rfl) (by kernel_rfl) ?_
      refine Sy.skip ?_
      refine Sy.in_ ?_
      refine Sy.then_ ?_
      refine Sy.region ?_
      refine Sy.step (by kernel_rfl) (.int .i64 ((32 * k1 : Nat) : Int)) (Quiet.pure (fun _ => by kernel_rfl)) ?_
      refine Sy.step (by kernel_rfl) (.int .i64 ((32 : Nat) : Int)) (Quiet.thereOne Bn 0 3 _ _ rfl (by kernel_rfl) hN.lt _ (hN.cell 0) Try.underlying3 rfl) ?_
      refine Sy.step (by kernel_rfl) (.int .i64 (((32 * k1) + 32 : Nat) : Int)) (Quiet.pure (exec_int .add _ _ _ .i64 _ _ _ rfl rfl rfl (int_add _ _ _ _ _ ((wrap_i64 (by omega) (by omega)).trans (by omega))))) ?_
      refine Sy.step (by kernel_rfl) (.int .i64 (((32 * k1) + 32 : Nat) : Int)) (Quiet.pure (fun _ => by kernel_rfl)) ?_
      refine Sy.nil ?_
      exact Sy.againP (by omega) (all_cons (by kernel_rfl) (all_cons (by kernel_rfl) (all_cons (by kernel_rfl) (all_cons (by kernel_rfl) all_nil)))) (fun w3 hg => ⟨pre ++ [⟨k1, hx⟩], by rw [List.map_append, hpre, List.range_succ]; rfl, abides_gr hJ hj hg, hg.blk hS, hg.blk hN⟩)
set_option maxHeartbeats 4000000 in
set_option maxRecDepth 100000 in
theorem chunk0_in (n l Bs Bn cap : Nat) (A : Option Addr) (J Jx : List (Fin 0) → World → Prop) (W : World) (hJ : AbidesFrom W.heap.size J)
    (hS : Blk W Bs 33 #[.slice A 0 cap]) (hN : Blk W Bn 3 #[.int .i64 32]) (h0 : J [] W) :
    CallsIn Fence.wide n Try.prog 78 #[.func (.yield l) #[] #[], .pointer (some ⟨Bs, 0, none⟩), .pointer (some ⟨Bn, 0, none⟩)] W fun e W' => (∃ v, e = .returned v) ∧ ((∃ ys : List (Fin 0), ys.map (·.1) = List.range 0 ∧ J ys W') ∨ (∃ pre : List (Fin 0), (∃ k, k ≤ 0 ∧ pre.map (·.1) = List.range k) ∧ Jx pre W')) := by
  refine Sy.enterP (args := [.func (.yield l) #[] #[], .pointer (some ⟨Bs, 0, none⟩), .pointer (some ⟨Bn, 0, none⟩)]) Try.func78 rfl (Nat.le_of_ble_eq_true (by kernel_rfl)) ?_
  refine Sy.seq ?_
  refine Sy.region ?_
  refine Sy.step (by kernel_rfl) (.int .i64 0) (Quiet.pure (fun _ => by kernel_rfl)) ?_
  refine Sy.nil ?_
  refine Sy.then_ ?_
  refine Sy.block ?_
  refine Sy.loopP 0 (fun k1 => [(0, .func (.yield l) #[] #[]), (1, .pointer (some ⟨Bs, 0, none⟩)), (2, .pointer (some ⟨Bn, 0, none⟩)), (4, .int .i64 ((32 * k1 : Nat) : Int))]) (fun k1 w => J [] w ∧ Blk w Bs 33 #[.slice A 0 cap] ∧ Blk w Bn 3 #[.int .i64 32]) (all_cons (by kernel_rfl) (all_cons (by kernel_rfl) (all_cons (by kernel_rfl) (all_cons (by kernel_rfl) all_nil)))) (fun w hg => ⟨abides_gr hJ h0 hg, hg.blk hS, hg.blk hN⟩) (fun k1 wr hk1 hz => ?_)
  clear hS hN
  obtain ⟨hj, hS, hN⟩ := hz
  refine Sy.seq ?_
  refine Sy.seq ?_
  refine Sy.region ?_
  refine Sy.step (by kernel_rfl) (.int .i64 ((32 * k1 : Nat) : Int)) (Quiet.pure (fun _ => by kernel_rfl)) ?_
  refine Sy.step (by kernel_rfl) (.slice A 0 cap) (Quiet.thereOne Bs 0 33 _ _ rfl (by kernel_rfl) hS.lt _ (hS.cell 0) Try.underlying33 rfl) ?_
  refine Sy.step (by kernel_rfl) (.int .i64 ((0 : Nat) : Int)) (Quiet.pure (fun _ => by kernel_rfl)) ?_
  obtain ⟨b1, hb1⟩ : ∃ z : Bool, z = decide (32 * k1 < 0) := ⟨_, rfl⟩
  refine Sy.step (by kernel_rfl) (.bool b1) (Quiet.pure (exec_int .lss _ _ _ .i64 _ _ _ rfl rfl rfl (int_lss _ _ _ _ _ (by rw [hb1]; exact decide_eq_decide.2 (by omega))))) ?_
  refine Sy.nil ?_
  refine Sy.then_ ?_
  cases b1
  · have lb1 : ¬ (32 * k1 < 0) := of_decide_eq_false hb1.symm
    refine Sy.cond_f (by kernel_rfl) (by kernel_rfl) ?_
    refine Sy.exit ?_
    refine Sy.then_exit ?_
    refine Sy.then_exit ?_
    obtain rfl : k1 = 0 := by omega
    refine Sy.in_exit ?_
    exact Sy.retP rfl (fun v w3 hg => ⟨⟨_, rfl⟩, .inl ⟨[], rfl, abides_gr hJ hj hg⟩⟩) (.inr rfl)
  · have lb1 : 32 * k1 < 0 := of_decide_eq_true hb1.symm
    refine Sy.cond_t (by kernel_rfl) (by kernel_rfl) ?_
    refine Sy.skip ?_
    refine Sy.then_ ?_
    refine Sy.seq ?_
    exact absurd lb1 (by omega)
/-- the terms lie at A -/
def TSrc (w : World) (A : Option Addr) (n : Nat) (T : Nat → Trm) (b o : Nat) : Prop := 0 < n → A = some ⟨b, o, none⟩ ∧ b < w.heap.size ∧ ∀ j, j < n → w.rangeAt b (o + j * 13) (T j).cells
theorem chunk_stops (n Bs Bn n₀ b off m cap N : Nat) (A : Option Addr) (hN0 : N = (m + 31) / 32) (hm : m ≤ cap) (hm2 : m ≤ 4611686018427387904) (hA : 0 < m → A = some ⟨b, off, none⟩) (w : World) (hS : Blk w Bs 33 #[.slice A m cap]) (hN : Blk w Bn 3 #[.int .i64 32]) :
    SeqStopsK Fence.wide n Try.prog 78 #[.pointer (some ⟨Bs, 0, none⟩), .pointer (some ⟨Bn, 0, none⟩)] (chE b off m (N := N)) (KpL n₀ [(Bs, 33, #[.slice A m cap]), (Bn, 3, #[.int .i64 32])]) (fun ys => ys.map (·.1) = List.range N) (fun pre => ∃ k, k ≤ N ∧ pre.map (·.1) = List.range k) N w := fun l J Jx W hW hJ hJx hY h0 => by
  have hS' := hS.below hW hS.lt
  have hN' := hN.below hW hN.lt
  rcases Nat.eq_zero_or_pos m with h | h
  · subst h
    obtain rfl : N = 0 := hN0
    exact chunk0_in n l Bs Bn cap A J Jx W hJ hS' hN' h0
  · obtain rfl := hA h
    exact chunk1_in n l Bs Bn n₀ b off m cap N hN0 hm hm2 J Jx W hJ hJx hY hS' hN' h0
end Go.Proofs.Ytneeefinaejgcaa.Cu

end
section
namespace Go.Proofs.Ytneeefinaejgcaa.Cu
open Go.RowKit Go.Proofs.Ytneeefinaejgcaa Go.Proofs.Ytneeefinaejgcaa.Sy

theorem rangeN2 {w w' : World} {g o o' : Nat} {vs : List Value} (h : w.rangeAt g o vs) (hb : Below w.heap.size w w') (hg : g < w.heap.size) (e : o' = o) : w'.rangeAt g o' vs := fun j v hj => by
  rw [e]
  exact (Below.cell (p := ⟨g, o + j, none⟩) hb hg).trans (h j v hj)
set_option maxHeartbeats 4000000 in
set_option maxRecDepth 100000 in
theorem multi_any (w : World) (A : Option Addr) (b o n c : Nat) (T : Nat → Trm) (hnc : n ≤ c) (hc : n ≤ 4611686018427387904) (hok : ∀ j, (T j).ok) (hT : TSrc w A n T b o) : Calls Try.prog 14 #[.slice A n c] w (Gets w (ptv (Ec.sumL finv (fun t => Ec.nm finv (T t).kn (T t).pt) (List.range n)))) := by
  obtain ⟨N, hN0⟩ : ∃ N, N = (n + 31) / 32 := ⟨_, rfl⟩
  obtain ⟨R, hR⟩ : ∃ R, R = ptJ (chL T n (List.range N)) := ⟨_, rfl⟩
  have hRs : Ec.sumL finv (fun t => Ec.nm finv (T t).kn (T t).pt) (List.range n) = R := by rw [hR, hN0]; exact (ptJ_rep (chL_all T n)).symm
  rw [hRs]
  have hRo : Ec.On R := by rw [← hRs]; exact Ec.On.sumL fld _ fun x _ => (T x).on.nm fld _
  obtain ⟨rx, ry, ri, _, _, eR, _, _⟩ := ptv_raw R hRo
  rw [eR]
  refine Sy.enterM (args := [.slice A n c]) Try.func14 rfl (Nat.le_of_ble_eq_true (by kernel_rfl)) ?_
  refine Sy.seq ?_
  refine Sy.region ?_
  refine Sy.make (by kernel_rfl) 27 (pcs 0 0 false) ptr (fun _ => by kernel_rfl) (fun g0 => ?_)
  refine Sy.nil ?_
  refine Sy.then_ ?_
  refine Sy.seq ?_
  refine Sy.region ?_
  refine Sy.make (by kernel_rfl) 73 (tcs 0 0 0) ptr (fun _ => by kernel_rfl) (fun g1 => ?_)
  refine Sy.nil ?_
  refine Sy.then_ ?_
  refine Sy.seq ?_
  refine Sy.seq ?_
  refine Sy.region ?_
  refine Sy.step (by kernel_rfl) (.slice A n c) (Quiet.pure (fun _ => by kernel_rfl)) ?_
  refine Sy.callN (by kernel_rfl) 44 #[.slice A n c, .int .i64 32] (fun _ => by kernel_rfl) (fun v M => ∃ g1 g2, v = .func (.func 78) #[] #[.pointer (some ⟨g1, 0, none⟩), .pointer (some ⟨g2, 0, none⟩)] ∧ M = [(g1, 33, #[.slice A n c]), (g2, 3, #[.int .i64 32])]) (fun w _ => chunk_any w _ _ _) (fun v M hR0 => ?_)
  obtain ⟨u1, u2, rfl, rfl⟩ := hR0
  refine Sy.nil ?_
  refine Sy.then_ ?_
  refine Sy.block ?_
  refine Sy.rangeF (α := Fin N) 78 #[.pointer (some ⟨u1, 0, none⟩), .pointer (some ⟨u2, 0, none⟩)] (by kernel_rfl) (by kernel_rfl) (enters_of Try.func78 (by kernel_rfl) rfl) (chE b o n) [(u1, 33, (#[.slice A n c])), (u2, 3, (#[.int .i64 32]))] (fun ys => ys.map (·.1) = List.range N) (fun pre => ∃ k, k ≤ N ∧ pre.map (·.1) = List.range k) N (fun _ => rfl) (by decide) [g0, g1, u1, u2] (fun _ => True) (trivial) (fun pre => [(g0, 27, (pcs 0 0 false)), (g1, 73, (tcs ((chL T n (pre.map (·.1))).x.val) ((chL T n (pre.map (·.1))).y.val) ((chL T n (pre.map (·.1))).z.val))), (u1, 33, (#[.slice A n c])), (u2, 3, (#[.int .i64 32]))]) (fun pre => [(g0, 27, (pcs 0 0 false)), (g1, 73, (tcs ((chL T n (pre.map (·.1))).x.val) ((chL T n (pre.map (·.1))).y.val) ((chL T n (pre.map (·.1))).z.val))), (u1, 33, (#[.slice A n c])), (u2, 3, (#[.int .i64 32]))]) (fun _ => False) [true, true, true, true] (by kernel_rfl) (fun _ => rfl) ?_ ?_ 0 (fun x gs => [(3, .pointer (some ⟨g1, 0, none⟩)), (4, chV b o n x.val)]) (fun x gs => []) (fun x gs h => by cases gs with | nil => rfl | cons _ _ => cases h) ?_ ?_ ?_ ?_
  · intro w hw
    have hS := hw.get (i := 2) rfl
    have hN := hw.get (i := 3) rfl
    exact ⟨w, Below.refl _ _, chunk_stops 8 u1 u2 _ b o n c N A hN0 hnc hc (fun h => (hT h).1) w hS hN⟩
  · intro p hp pre
    simp only [List.mem_cons, List.not_mem_nil, or_false] at hp ⊢
    rcases hp with rfl | rfl <;> simp
  · intro l fz pre x
    refine Sy.regionR (by rintro ⟨_, _, h⟩; exact h) (by kernel_rfl) ⟨_, rfl⟩ ?_
    refine Sy.step (by kernel_rfl) (chV b o n x.val) (Quiet.pure (fun _ => by kernel_rfl)) ?_
    refine Sy.nil ?_
    exact Sy.apN [] rfl (all_cons (by kernel_rfl) (all_cons (by kernel_rfl) all_nil)) [true, true, true, true] (by kernel_rfl)
  · intro l fz pre x gs hgs hlen hH
    obtain rfl : gs = [] := List.eq_nil_of_length_eq_zero hgs
    have hxN := x.isLt
    have hn0 : 0 < n := by omega
    refine Sy.block ?_
    refine Sy.regionRD (by rintro ⟨_, _, h⟩; exact h) (by kernel_rfl) ⟨_, rfl⟩ (fun j => j == 4) (by kernel_rfl) ?_
    refine Sy.stepD 0 rfl (by kernel_rfl) (fun _ _ _ _ h => h) (by kernel_rfl) (tv ((chL T n (pre.map (·.1))).x.val) ((chL T n (pre.map (·.1))).y.val) ((chL T n (pre.map (·.1))).z.val)) (Quiet.load 1 g1 0 12 73 73 (tcs ((chL T n (pre.map (·.1))).x.val) ((chL T n (pre.map (·.1))).y.val) ((chL T n (pre.map (·.1))).z.val)) _ _ rfl (by kernel_rfl) (by kernel_rfl) Try.underlying73 rfl (by kernel_rfl) _ (by kernel_rfl) (Nat.le_of_ble_eq_true (by kernel_rfl))) ?_
    refine Sy.stepD 1 rfl (by kernel_rfl) (fun _ _ _ _ h => h) (by kernel_rfl) (chV b o n x.val) (Quiet.pure (fun _ => by kernel_rfl)) ?_
    obtain ⟨j1, hj1⟩ : ∃ z : J, z = muJ (fun j => T (x.val * 32 + j)) (szC n x.val) 64 := ⟨_, rfl⟩
    refine Sy.stepD 2 rfl (by kernel_rfl) (fun _ _ _ _ h => h) (by kernel_rfl) (tv j1.x.val j1.y.val j1.z.val) (Quiet.callS 46 #[chV b o n x.val] (fun _ => by kernel_rfl) (fun w hw => by rw [hj1]; exact multi_c w b (o + 32 * x.val * 13) (szC n x.val) (szC n x.val) (fun j => T (x.val * 32 + j)) (Nat.lt_of_lt_of_le (hT hn0).2.1 hw.below.size) (by unfold szC; omega) (fun j => hok _) (fun j hj => rangeN2 ((hT hn0).2.2 (x.val * 32 + j) (by unfold szC at hj; omega)) hw.below (hT hn0).2.1 (by omega)))) ?_
    obtain ⟨j2, hj2⟩ : ∃ z : J, z = addJ (chL T n (pre.map (·.1))) j1 := ⟨_, rfl⟩
    refine Sy.stepD 3 rfl (by kernel_rfl) (fun _ _ _ _ h => h) (by kernel_rfl) (tv j2.x.val j2.y.val j2.z.val) (Quiet.call 45 #[tv ((chL T n (pre.map (·.1))).x.val) ((chL T n (pre.map (·.1))).y.val) ((chL T n (pre.map (·.1))).z.val), tv j1.x.val j1.y.val j1.z.val] (fun _ => by kernel_rfl) (fun w => by rw [hj2]; exact addJ_c w (chL T n (pre.map (·.1))) j1)) ?_
    refine Sy.writeD 4 rfl (by kernel_rfl) (by rfl) (by kernel_rfl) 1 g1 73 (tcs ((chL T n (pre.map (·.1))).x.val) ((chL T n (pre.map (·.1))).y.val) ((chL T n (pre.map (·.1))).z.val)) (tcs j2.x.val j2.y.val j2.z.val) (by kernel_rfl) (Writes.store 0 73 (tcs j2.x.val j2.y.val j2.z.val) _ _ rfl (by kernel_rfl) (by kernel_rfl) (by kernel_rfl) (Nat.le_of_ble_eq_true (by kernel_rfl)) (by kernel_rfl) (by kernel_rfl)) ?_
    refine Sy.doneD (by kernel_rfl) ?_
    refine Sy.in_ ?_
    exact Sy.bpN [true, true, true, true] (M := [(g0, 27, (pcs 0 0 false)), (g1, 73, (tcs j2.x.val j2.y.val j2.z.val)), (u1, 33, (#[.slice A n c])), (u2, 3, (#[.int .i64 32]))]) (by kernel_rfl) (bcons rfl (bcons (beq (by rw [hj2, hj1, List.map_append, List.map_singleton, chL_snoc]; rfl)) (bcons rfl (bcons rfl rfl)))) (trivial)
  · intro D fz xs hS hH hD hm
    have hS0 : xs.map (·.1) = List.range N := hS
    refine Sy.in_ ?_
    refine Sy.then_ ?_
    refine Sy.seq ?_
    refine Sy.region ?_
    refine Sy.step (by kernel_rfl) (tv ((chL T n (xs.map (·.1))).x.val) ((chL T n (xs.map (·.1))).y.val) ((chL T n (xs.map (·.1))).z.val)) (Quiet.load 1 g1 0 12 73 73 (tcs ((chL T n (xs.map (·.1))).x.val) ((chL T n (xs.map (·.1))).y.val) ((chL T n (xs.map (·.1))).z.val)) _ _ rfl (by kernel_rfl) (by kernel_rfl) Try.underlying73 rfl (by kernel_rfl) _ (by kernel_rfl) (Nat.le_of_ble_eq_true (by kernel_rfl))) ?_
    refine Sy.step (by kernel_rfl) (pv rx ry ri) (Quiet.call 47 #[tv ((chL T n (xs.map (·.1))).x.val) ((chL T n (xs.map (·.1))).y.val) ((chL T n (xs.map (·.1))).z.val)] (fun _ => by kernel_rfl) (fun w => by rw [← eR, hR, ← hS0]; exact point_c w _)) ?_
    refine Sy.write (by kernel_rfl) 0 g0 27 (pcs 0 0 false) (pcs rx ry ri) (by kernel_rfl) (Writes.store 0 27 (pcs rx ry ri) _ _ rfl (by kernel_rfl) (by kernel_rfl) (by kernel_rfl) (Nat.le_of_ble_eq_true (by kernel_rfl)) (by kernel_rfl) (by kernel_rfl)) ?_
    refine Sy.nil ?_
    refine Sy.then_ ?_
    refine Sy.ret ?_
    exact Sy.retM1 (v := pv rx ry ri) rfl (.inl (Res.cell (ty' := 27) g0 0 (pcs rx ry ri) _ (by kernel_rfl) (by kernel_rfl) Try.underlying27 rfl (by kernel_rfl) (by kernel_rfl))) hD hm
  · intro D fz pre hS hx hD hm
    exact hx.elim
end Go.Proofs.Ytneeefinaejgcaa.Cu

end
section
namespace Go.Proofs.Ytneeefinaejgcaa.Cu
open Go.RowKit Go.Proofs.Ytneeefinaejgcaa Go.Proofs.Ytneeefinaejgcaa.Sy

theorem one_part {w : World} {g : Nat} {vs : List Value} (h : w.rangeAt g 0 vs) : ∀ j, j < 1 → w.rangeAt g (0 + j * 13) vs := fun j hj => by
  obtain rfl : j = 0 := by omega
  exact h
/-- a point's numbers -/
def pX : Pt → Nat
  | none => 0
  | some (x, _) => x.val
def pY : Pt → Nat
  | none => 0
  | some (_, y) => y.val
def pI : Pt → Bool
  | none => true
  | some _ => false
theorem ptv_parts : ∀ P : Pt, ptv P = pv (pX P) (pY P) (pI P)
  | none => rfl
  | some (_, _) => rfl
set_option maxHeartbeats 4000000 in
set_option maxRecDepth 100000 in
theorem mul_any (w : World) (k x y : Nat) (i : Bool) (hk : k < K4) (hx : x < K4) (hy : y < K4) : Calls Try.prog 7 #[fv k, pv x y i] w (Gets w (ptv (Ec.nm finv (k % Sc.pM) (dec x y i)))) := by
  obtain ⟨R, hR⟩ : ∃ R, R = Ec.sumL finv (fun t => Ec.nm finv ((fun _ : Nat => (⟨k, x, y, i⟩ : Trm)) t).kn ((fun _ : Nat => (⟨k, x, y, i⟩ : Trm)) t).pt) (List.range 1) := ⟨_, rfl⟩
  have e : Ec.nm finv (k % Sc.pM) (dec x y i) = R := by rw [hR]; exact (Ec.zero_add (inv := finv) _).symm
  rw [e, ptv_parts]
  refine Sy.enter (args := [fv k, pv x y i]) Try.func7 rfl (Nat.le_of_ble_eq_true (by kernel_rfl)) ?_
  refine Sy.seq ?_
  refine Sy.region ?_
  refine Sy.make (by kernel_rfl) 24 (fcs k) ptr (fun _ => by kernel_rfl) (fun g0 => ?_)
  refine Sy.make (by kernel_rfl) 27 (pcs x y i) ptr (fun _ => by kernel_rfl) (fun g1 => ?_)
  refine Sy.make (by kernel_rfl) 27 (pcs 0 0 false) ptr (fun _ => by kernel_rfl) (fun g2 => ?_)
  refine Sy.nil ?_
  refine Sy.then_ ?_
  refine Sy.seq ?_
  refine Sy.region ?_
  refine Sy.step (by kernel_rfl) (fv k) (Quiet.load 0 g0 0 4 24 24 (fcs k) _ _ rfl (by kernel_rfl) (by kernel_rfl) Try.underlying24 rfl (by kernel_rfl) _ (by kernel_rfl) (Nat.le_of_ble_eq_true (by kernel_rfl))) ?_
  refine Sy.step (by kernel_rfl) (pv x y i) (Quiet.load 1 g1 0 9 27 27 (pcs x y i) _ _ rfl (by kernel_rfl) (by kernel_rfl) Try.underlying27 rfl (by kernel_rfl) _ (by kernel_rfl) (Nat.le_of_ble_eq_true (by kernel_rfl))) ?_
  refine Sy.step (by kernel_rfl) (trv k x y i) (Quiet.pure (fun _ => by kernel_rfl)) ?_
  refine Sy.make (by kernel_rfl) 53 (trcs k x y i) (fun g => .slice (some ⟨g, 0, none⟩) 1 1) (fun _ => by kernel_rfl) (fun g3 => ?_)
  refine Sy.step (by kernel_rfl) (pv (pX R) (pY R) (pI R)) (Quiet.callS 14 #[.slice (some ⟨g3, 0, none⟩) 1 1] (fun _ => by kernel_rfl) (fun w hw => by rw [← ptv_parts, hR]; exact multi_any w _ g3 0 1 1 (fun _ => ⟨k, x, y, i⟩) (Nat.le_refl _) (by decide) (fun _ => ⟨hk, hx, hy⟩) (fun _ => ⟨rfl, (hw.get (i := 3) rfl).lt, one_part (blk_range (hw.get (i := 3) rfl) (by kernel_rfl))⟩))) ?_
  refine Sy.write (by kernel_rfl) 2 g2 27 (pcs 0 0 false) (pcs (pX R) (pY R) (pI R)) (by kernel_rfl) (Writes.store 0 27 (pcs (pX R) (pY R) (pI R)) _ _ rfl (by kernel_rfl) (by kernel_rfl) (by kernel_rfl) (Nat.le_of_ble_eq_true (by kernel_rfl)) (by kernel_rfl) (by kernel_rfl)) ?_
  refine Sy.nil ?_
  refine Sy.then_ ?_
  refine Sy.ret ?_
  exact Sy.ret1 (v := pv (pX R) (pY R) (pI R)) rfl (.inl (Res.cell (ty' := 27) g2 2 (pcs (pX R) (pY R) (pI R)) _ (by kernel_rfl) (by kernel_rfl) Try.underlying27 rfl (by kernel_rfl) (by kernel_rfl)))
end Go.Proofs.Ytneeefinaejgcaa.Cu

end
section
namespace Go.Proofs.Ytneeefinaejgcaa.Sc
open Go.RowKit Go.Lib

/-- the modulus n as the document has it, and what it lacks -/
def modV : Value := .agg #[.int .u64 13822214165235122497, .int .u64 13451932020343611451, .int .u64 18446744073709551614, .int .u64 18446744073709551615, .int .u64 4624529908474429119, .int .u64 4994812053365940164, .int .u64 1]
theorem fv_P : fv 115792089237316195423570985008687907852837564279074904382605163141518161494337 = .agg #[.int .u64 13822214165235122497, .int .u64 13451932020343611451, .int .u64 18446744073709551614, .int .u64 18446744073709551615] := rfl

theorem refN_any (w : World) : Calls Try.prog 29 #[] w fun e w' => e = .returned modV ∧ Below w.heap.size w w' := by
  go_enter Try.func29, Try.ntmps29
  go_wp2
  exact bodyPost_ret (results_cell_row rfl _ _ w.heap.size _ _ (0, 0) _ rfl (heap_alloc_new w _) Try.underlying60 rfl (by kernel_rfl)) rfl ⟨rfl, (Below.refl _ _).alloc (Nat.le_refl _) _⟩
theorem refOf_any (w : World) (n : Nat) (hn : n < 115792089237316195423570985008687907853269984665640564039457584007913129639936) : Calls Try.prog 30 #[fv n] w fun e w' => e = .returned (fv n) ∧ Below w.heap.size w w' := by
  obtain ⟨a, b, c, d, fn⟩ := words_fv n hn
  rw [fn]
  clear fn
  go_enter Try.func30, Try.ntmps30
  go_wp2
  exact bodyPost_ret (results_cell_row rfl _ _ (w.heap.size + 1) _ _ (0, 0) _ rfl (heap_alloc2_new w _ _) Try.underlying56 rfl (by kernel_rfl)) rfl ⟨rfl, below_alloc2 w _ _⟩
theorem refSc_any (w : World) (n : Nat) (hn : n < 115792089237316195423570985008687907853269984665640564039457584007913129639936) : Calls Try.prog 55 #[fv n] w fun e w' => e = .returned (fv n) ∧ Below w.heap.size w w' := by
  obtain ⟨a, b, c, d, fn⟩ := words_fv n hn
  rw [fn]
  clear fn
  go_enter Try.func55, Try.ntmps55
  go_wp2
  exact bodyPost_ret (results_cell_row rfl _ _ (w.heap.size + 1) _ _ (0, 0) _ rfl (heap_alloc2_new w _ _) Try.underlying24 rfl (by kernel_rfl)) rfl ⟨rfl, below_alloc2 w _ _⟩

set_option maxHeartbeats 2000000 in
set_option maxRecDepth 100000 in
theorem normR_any (w : World) (x : Nat) (hx : x < 115792089237316195423570985008687907853269984665640564039457584007913129639936) : Calls Try.prog 28 #[modV, fv x] w fun e w' => e = .returned (fv (x % pM)) ∧ Below w.heap.size w w' := by
  obtain ⟨z, hz⟩ : ∃ z, z = x % pM := ⟨_, rfl⟩
  obtain ⟨p, hp⟩ : ∃ p, p = 115792089237316195423570985008687907852837564279074904382605163141518161494337 := ⟨_, rfl⟩
  have hpl : p < 115792089237316195423570985008687907853269984665640564039457584007913129639936 := by omega
  obtain ⟨b, hb⟩ : ∃ b, b = decide (x < p) := ⟨_, rfl⟩
  have cb : ∀ w, Calls Try.prog 62 #[fv x, fv p] w fun e w' => e = .returned (.bool b) ∧ Below w.heap.size w w' := by
    intro w; rw [hb]; exact below_at w x p rfl rfl hx hpl
  have t1 : b = true → z = x := fun h => by
    rw [hb] at h
    rw [hz]
    exact Nat.mod_eq_of_lt (by rw [pM_eq, ← hp]; simpa using h)
  have cm : b = false → ∀ w, Calls Try.prog 63 #[fv x, fv p] w fun e w' => e = .returned (fv z) ∧ Below w.heap.size w w' := fun h w => by
    rw [hb] at h
    have hle : ¬ x < p := by simpa using h
    have hzx : z + p = x := by rw [hz, red_once x hx, if_neg (by omega)]; omega
    exact minusR_at w x p z 0 rfl rfl hx hpl (by omega) (by omega)
  have hpc : fv p = .agg #[.int .u64 13822214165235122497, .int .u64 13451932020343611451, .int .u64 18446744073709551614, .int .u64 18446744073709551615] := by rw [hp]; exact fv_P
  obtain ⟨x0, x1, x2, x3, fx⟩ := words_fv x hx
  have FX := Lib.hid fx
  have FP := Lib.hid hpc
  rw [fx, ← hz]
  unfold modV
  clear fx hpc hx hz hp hpl hb
  go_enter Try.func28, Try.ntmps28
  go_wp2_with (first | ((with_reducible refine here_load (d := some 6) ?_); refine wpList_load_fv rfl _ _ rfl (w.heap.size + 1) rfl (x) _ _ _ ((blk_new2 w _ _ _).alloc _) (FX.out) Try.underlying56 rfl (by kernel_rfl) ?_) | ((with_reducible refine here_load (d := some 8) ?_); refine wpList_load_part rfl _ _ rfl w.heap.size rfl p [.int .u64 13822214165235122497, .int .u64 13451932020343611451, .int .u64 18446744073709551614, .int .u64 18446744073709551615] _ (mod_range (((Blk.new w _ _).alloc _).alloc _)) FP.out Try.underlying56 rfl (by kernel_rfl) ?_))
  refine (cb _).mono ?_
  rintro e w1 ⟨rfl, k1⟩
  have BM : Blk w1 w.heap.size 60 _ := Gr.blk k1 (((Blk.new w _ _).alloc _).alloc _)
  have BX : Blk w1 (w.heap.size + 1) 56 _ := Gr.blk k1 ((blk_new2 w _ _ _).alloc _)
  have BR : Blk w1 (w.heap.size + 2) 56 _ := Gr.blk k1 (blk_new3 w _ _ _ _)
  have hB := Below.gr (below_alloc3 w _ _ _) k1
  clear k1 cb
  cases b
  · have cmm := cm rfl
    clear cm t1
    go_wp2_with (first | ((with_reducible refine here_load (d := some 12) ?_); refine wpList_load_fv rfl _ _ rfl (w.heap.size + 1) rfl (x) _ _ _ (BX) (FX.out) Try.underlying56 rfl (by kernel_rfl) ?_) | ((with_reducible refine here_load (d := some 14) ?_); refine wpList_load_part rfl _ _ rfl w.heap.size rfl p [.int .u64 13822214165235122497, .int .u64 13451932020343611451, .int .u64 18446744073709551614, .int .u64 18446744073709551615] _ (mod_range (BM)) FP.out Try.underlying56 rfl (by kernel_rfl) ?_))
    refine (cmm _).mono ?_
    rintro e w2 ⟨rfl, k2⟩
    have BR2 := Gr.blk k2 BR
    have hB2 := Below.gr hB k2
    clear k2 cmm
    go_wp2_with (first | ((with_reducible refine here_store ?_); refine wpList_store_blk rfl _ _ _ rfl (w.heap.size + 2) (fcs (z)) rfl rfl _ _ (BR2) (by kernel_rfl) (by rfl) (fcs_one _) ?_; intro w9 hL9 hB9 hK9))
    exact bodyPost_ret (results_cell_row rfl _ _ (w.heap.size + 2) _ _ (0, 0) _ rfl hL9 Try.underlying56 rfl (by kernel_rfl)) rfl ⟨rfl, hB2.trans (hB9 _ (by omega))⟩
  · have HZX := Lib.hid (t1 rfl)
    clear t1 cm
    go_wp2_with (first | ((with_reducible refine here_load (d := some 11) ?_); refine wpList_load_fv rfl _ _ rfl (w.heap.size + 1) rfl (x) _ _ _ (BX) (FX.out) Try.underlying56 rfl (by kernel_rfl) ?_) | ((with_reducible refine here_store ?_); refine wpList_store_blk rfl _ _ _ rfl (w.heap.size + 2) (fcs (x)) rfl rfl _ _ (BR) (by kernel_rfl) (by rfl) (fcs_one _) ?_; intro w9 hL9 hB9 hK9))
    exact bodyPost_ret (results_cell_row rfl _ _ (w.heap.size + 2) _ _ (0, 0) _ rfl hL9 Try.underlying56 rfl (by kernel_rfl)) rfl ⟨by rw [HZX.out]; rfl, hB.trans (hB9 _ (by omega))⟩

end Go.Proofs.Ytneeefinaejgcaa.Sc

end
section
namespace Go.Proofs.Ytneeefinaejgcaa.Cu
open Go.RowKit Go.Proofs.Ytneeefinaejgcaa Go.Proofs.Ytneeefinaejgcaa.Sy

def modN : Array Value := #[.int .u64 13822214165235122497, .int .u64 13451932020343611451, .int .u64 18446744073709551614, .int .u64 18446744073709551615, .int .u64 4624529908474429119, .int .u64 4994812053365940164, .int .u64 1]
end Go.Proofs.Ytneeefinaejgcaa.Cu

end
section
namespace Go.Proofs.Ytneeefinaejgcaa.Cu
open Go.RowKit Go.Proofs.Ytneeefinaejgcaa Go.Proofs.Ytneeefinaejgcaa.Sy

/-- a point that came in, whatever its words -/
structure Pr where
  x : Nat
  y : Nat
  i : Bool
def Pr.cells (t : Pr) : List Value := fws t.x ++ (fws t.y ++ [Value.bool t.i])
def Pr.ok (t : Pr) : Prop := t.x < K4 ∧ t.y < K4
end Go.Proofs.Ytneeefinaejgcaa.Cu

end
section
namespace Go.Proofs.Ytneeefinaejgcaa.Cu
open Go.RowKit Go.Proofs.Ytneeefinaejgcaa Go.Proofs.Ytneeefinaejgcaa.Sy

end Go.Proofs.Ytneeefinaejgcaa.Cu

end
section
namespace Go.Proofs.Ytneeefinaejgcaa.Cu
open Go.ChangeShapes Go.WideShapes Go.ChangeAt Go.RowKit Go.Proofs.Ytneeefinaejgcaa Go.Deep

theorem pt_trod {H : Type} {enc : TypeId × Value → H} {P : Program} {W : World} {t q : TypeId} {f0 f1 f2 : Field} (ht : P.underlying t = some (.struct #[f0, f1, f2]))
    (h0 : P.underlying f0.type = some (.array 4 q)) (h1 : P.underlying f1.type = some (.array 4 q)) (h2 : P.underlying f2.type = some .bool) (hq : P.underlying q = some (.int .u64))
    (hcq : P.cellsOf q = 1) (c0 : P.cellsOf f0.type = 4) (c1 : P.cellsOf f1.type = 4) (c2 : P.cellsOf f2.type = 1) (o0 : f0.offset = 0) (o1 : f1.offset = 4) (o2 : f2.offset = 8)
    (fuel : Nat) (cs : List Value) (x : DataW H × List MemPlace) (hl : cs.length = 9) (hf : DataW.trod enc P W 0 (fun _ => true) true fuel t cs = some x) : ∃ y : Pr, y.ok ∧ cs = y.cells := by
  obtain ⟨y0, y1, y2, m, hx, _, g0, g1, g2⟩ := trod_struct3 ht hf
  obtain ⟨a0, a1, a2, a3, b0', b1, b2, b3, z, rfl⟩ : ∃ a0 a1 a2 a3 b0 b1 b2 b3 z, cs = [a0, a1, a2, a3, b0, b1, b2, b3, z] := by
    match cs, hl with
    | [a0, a1, a2, a3, b0, b1, b2, b3, z], _ => exact ⟨a0, a1, a2, a3, b0, b1, b2, b3, z, rfl⟩
  rw [c0, o0] at g0
  rw [c1, o1] at g1
  rw [c2, o2] at g2
  obtain ⟨x, hx4, ex⟩ := words_trod h0 hq hcq (c0 := a0) (c1 := a1) (c2 := a2) (c3 := a3) (by simpa using g0)
  obtain ⟨y, hy4, ey⟩ := words_trod h1 hq hcq (c0 := b0') (c1 := b1) (c2 := b2) (c3 := b3) (by simpa using g1)
  obtain ⟨i, ei⟩ : ∃ i, z = .bool i := by
    have g2' : DataW.trod enc P W 0 (fun _ => true) true m f2.type [z] = some y2 := by simpa using g2
    obtain ⟨b, e, _⟩ := DataW.trod_bool h2 g2'
    simp only [List.cons.injEq, and_true] at e
    exact ⟨b, e⟩
  subst ei
  refine ⟨⟨x, y, i⟩, ⟨hx4, hy4⟩, ?_⟩
  unfold Pr.cells
  rw [← ex, ← ey]
  rfl
instance : Inhabited Pr := ⟨⟨0, 0, false⟩⟩
instance : Inhabited Trm := ⟨⟨0, 0, 0, false⟩⟩
set_option maxRecDepth 100000 in
theorem pt_trod' {H : Type} {enc : TypeId × Value → H} {W : World} (fuel : Nat) (cs : List Value) (x : DataW H × List MemPlace) (hl : cs.length = 9) (hf : DataW.trod enc Try.prog W 0 (fun _ => true) true fuel 27 cs = some x) : ∃ y : Pr, y.ok ∧ cs = y.cells :=
  pt_trod Try.underlying27 Try.underlying25 Try.underlying25 Try.underlying4 Try.underlying22 (by kernel_rfl) (by kernel_rfl) (by kernel_rfl) (by kernel_rfl) rfl rfl rfl fuel cs x hl hf
end Go.Proofs.Ytneeefinaejgcaa.Cu

end
section
namespace Go.Proofs.Ytneeefinaejgcaa.Cu
open Go.ChangeShapes Go.WideShapes Go.ChangeAt Go.RowKit Go.Proofs.Ytneeefinaejgcaa Go.Deep

theorem trod_arr {H : Type} {enc : TypeId × Value → H} {P : Program} {w : World} {base : Nat} {sp : Nat → Bool} {held : Bool} {fuel : Nat} {t e : TypeId} {n : Nat} {cs : List Value} {x : DataW H × List MemPlace} (ht : P.underlying t = some (.array n e)) (h : DataW.trod enc P w base sp held fuel t cs = some x) :
    ∃ m, ∀ i, i < n → ∃ y, DataW.trod enc P w base sp held m e ((cs.drop (i * P.cellsOf e)).take (P.cellsOf e)) = some y := by
  cases fuel with
  | zero => simp [DataW.trod] at h
  | succ fuel =>
    simp only [DataW.trod, ht] at h
    split at h
    · obtain ⟨xs, hm, _⟩ := Option.map_eq_some_iff.1 h
      refine ⟨fuel, fun i hi => ?_⟩
      obtain ⟨b, _, hf⟩ := Lib.mapM_at hm i i (by simp [hi])
      exact ⟨b, hf⟩
    · cases h
set_option maxRecDepth 100000 in
theorem open_points2 {H : Type} {enc : TypeId × Value → H} {W : World} {r : Reach} {b0 : Nat} {v : Value} {d : DataW H} {ps : List MemPlace}
    (hval : Value.okWide Try.prog W r b0 48 v) (h : DataW.Trod enc Try.prog W 0 (fun _ => true) true 48 v d ps) :
    ∃ (x y : Nat) (i : Bool) (u z : Nat) (j : Bool), x < K4 ∧ y < K4 ∧ u < K4 ∧ z < K4 ∧ v = .agg ((fws x ++ (fws y ++ [Value.bool i])) ++ (fws u ++ (fws z ++ [Value.bool j]))).toArray := by
  simp only [Value.okWide, Try.underlying48] at hval
  obtain ⟨cs, rfl, hsz, _⟩ := hval
  obtain ⟨fuel, hf⟩ := h
  obtain ⟨l⟩ := cs
  have hl : l.length = 18 := by
    have e : Try.prog.cellsOf 48 = 18 := by kernel_rfl
    rw [e] at hsz
    exact hsz
  have hc : Try.prog.cellsOf 27 = 9 := by kernel_rfl
  obtain ⟨m, hm⟩ := trod_arr Try.underlying48 hf
  obtain ⟨y0, g0⟩ := hm 0 (by decide)
  obtain ⟨y1, g1⟩ := hm 1 (by decide)
  rw [hc] at g0 g1
  obtain ⟨p, ⟨hp1, hp2⟩, ep⟩ := pt_trod' m _ _ (by rw [List.length_take, List.length_drop]; simp [Value.cells, hl]) g0
  obtain ⟨q, ⟨hq1, hq2⟩, eq⟩ := pt_trod' m _ _ (by rw [List.length_take, List.length_drop]; simp [Value.cells, hl]) g1
  refine ⟨p.x, p.y, p.i, q.x, q.y, q.i, hp1, hp2, hq1, hq2, ?_⟩
  have e : l = p.cells ++ q.cells := by
    have e1 : p.cells = l.take 9 := by rw [← ep]; simp [Value.cells]
    have e2 : q.cells = l.drop 9 := by
      rw [← eq]
      simp only [Value.cells, Nat.one_mul]
      rw [List.take_of_length_le (by simp [hl])]
    rw [e1, e2, List.take_append_drop]
  rw [e]
  rfl
end Go.Proofs.Ytneeefinaejgcaa.Cu

end
section
namespace Go.Proofs.Ytneeefinaejgcaa.Cu
open Go.RowKit Go.Proofs.Ytneeefinaejgcaa Go.Proofs.Ytneeefinaejgcaa.Sy

theorem eql_pt_same (w : World) (F : Slots) (o : Oper) (x y : Operand) (a b : Nat) (i : Bool) {yt : TypeId} (ho : o.op = .binOp .eql 27 x y yt) (hx : evF F x = pv a b i) (hy : evF F y = pv a b i) (ha : a < K4) (hb : b < K4) : (execOp (evF F) o).run Try.prog w = .ok (.value (.bool true)) w := by
  have h := eql_pt w F o x y a b i a b i ho hx hy ha hb ha hb
  have e : sameB a b i a b i = true := by
    unfold sameB
    simp
  rwa [e] at h
/-- of points of the curve -/
theorem add_of {P Q R : Pt} {a b : Nat} {i : Bool} {c d : Nat} {j : Bool} {u v : Nat} {k : Bool} (ha : a < K4) (hb : b < K4) (hc : c < K4) (hd : d < K4) (h1 : dec a b i = P) (h2 : dec c d j = Q) (h3 : ptv R = pv u v k) (he : Ec.add finv P Q = R) (w : World) : Calls Try.prog 22 #[pv a b i, pv c d j] w (Gets w (pv u v k)) := by
  rw [← h3, ← he, ← h1, ← h2]
  exact add_any w a b i c d j ha hb hc hd
theorem neg_of {P R : Pt} {a b : Nat} {i : Bool} {u v : Nat} {k : Bool} (ha : a < K4) (hb : b < K4) (h1 : dec a b i = P) (h3 : ptv R = pv u v k) (he : Ec.neg P = R) (w : World) : Calls Try.prog 26 #[pv a b i] w (Gets w (pv u v k)) := by
  rw [← h3, ← he, ← h1]
  exact neg_any w a b i ha hb
theorem right_of {a b : Nat} {i : Bool} {r : Bool} (ha : a < K4) (hb : b < K4) (h : rightB a b i = r) (w : World) : Calls Try.prog 10 #[pv a b i] w (Gets w (.bool r)) := by
  rw [← h]
  exact right_b w a b i ha hb
set_option maxHeartbeats 4000000 in
set_option maxRecDepth 100000 in
theorem alive5 (w : World)  : Calls Try.prog 8 #[] w (Gets w (.bool true)) := by
  have hb := bP_on
  have db : dec gx.val gy.val false = bP := dec_fin gx gy hb
  have l1 := lt4 gx
  have l2 := lt4 gy
  obtain ⟨ngy, hn⟩ : ∃ z : Fp, z = -gy := ⟨_, rfl⟩
  have l3 := lt4 ngy
  have dn : dec gx.val ngy.val false = Ec.neg bP := by
    rw [hn]
    exact dec_fin gx (-gy) (Ec.On.neg hb)
  have pn : ptv (Ec.neg bP) = pv gx.val ngy.val false := by rw [hn]; rfl
  have rb : rightB gx.val gy.val false = true := by decide +kernel
  obtain ⟨a, ha⟩ : ∃ a, a = gx.val := ⟨_, rfl⟩
  obtain ⟨b, hbb⟩ : ∃ a, a = gy.val := ⟨_, rfl⟩
  obtain ⟨c, hc⟩ : ∃ a, a = ngy.val := ⟨_, rfl⟩
  have pb : ptv bP = pv a b false := by rw [ha, hbb]; rfl
  have cb : ∀ w, Calls Try.prog 23 #[] w (Gets w (pv a b false)) := fun w => by rw [← pb]; exact base_c w
  have cr : ∀ w, Calls Try.prog 24 #[] w (Gets w (pv a b false)) := fun w => by rw [← pb]; exact baseR_c w
  rw [← ha, ← hbb] at db rb
  rw [← ha] at dn pn l1
  rw [← hbb] at l2
  rw [← hc] at dn pn l3
  refine Sy.enter (args := []) Try.func8 rfl (Nat.le_of_ble_eq_true (by kernel_rfl)) ?_
  refine Sy.seq ?_
  refine Sy.region ?_
  refine Sy.step (by kernel_rfl) (.bool false) (Quiet.pure (fun _ => by kernel_rfl)) ?_
  refine Sy.nil ?_
  refine Sy.then_ ?_
  refine Sy.seq ?_
  refine Sy.region ?_
  refine Sy.step (by kernel_rfl) (pv a b false) (Quiet.call 23 #[] (fun _ => by kernel_rfl) (cb)) ?_
  refine Sy.make (by kernel_rfl) 27 (pcs 0 0 false) ptr (fun _ => by kernel_rfl) (fun g0 => ?_)
  refine Sy.write (by kernel_rfl) 0 g0 27 (pcs 0 0 false) (pcs a b false) (by kernel_rfl) (Writes.store 0 27 (pcs a b false) _ _ rfl (by kernel_rfl) (by kernel_rfl) (by kernel_rfl) (Nat.le_of_ble_eq_true (by kernel_rfl)) (by kernel_rfl) (by kernel_rfl)) ?_
  refine Sy.nil ?_
  refine Sy.then_ ?_
  refine Sy.seq ?_
  refine Sy.regionD (fun j => false) (by kernel_rfl) ?_
  refine Sy.stepD 0 rfl (by kernel_rfl) (fun _ _ _ _ h => h) (by kernel_rfl) (pv a b false) (Quiet.load 0 g0 0 9 27 27 (pcs a b false) _ _ rfl (by kernel_rfl) (by kernel_rfl) Try.underlying27 rfl (by kernel_rfl) _ (by kernel_rfl) (Nat.le_of_ble_eq_true (by kernel_rfl))) ?_
  refine Sy.stepD 1 rfl (by kernel_rfl) (fun _ _ _ _ h => h) (by kernel_rfl) (pv a b false) (Quiet.call 24 #[] (fun _ => by kernel_rfl) (cr)) ?_
  refine Sy.stepD 2 rfl (by kernel_rfl) (fun _ _ _ _ h => h) (by kernel_rfl) (.bool true) (Quiet.pure (fun w => eql_pt_same w _ _ _ _ _ _ _ rfl rfl rfl (by first | assumption | exact lt4 _ | decide +kernel) (by first | assumption | exact lt4 _ | decide +kernel))) ?_
  refine Sy.stepD 3 rfl (by kernel_rfl) (fun _ _ _ _ h => h) (by kernel_rfl) (.bool true) (Quiet.pure (fun _ => by kernel_rfl)) ?_
  refine Sy.stepD 4 rfl (by kernel_rfl) (fun _ _ _ _ h => h) (by kernel_rfl) (pv a b false) (Quiet.load 0 g0 0 9 27 27 (pcs a b false) _ _ rfl (by kernel_rfl) (by kernel_rfl) Try.underlying27 rfl (by kernel_rfl) _ (by kernel_rfl) (Nat.le_of_ble_eq_true (by kernel_rfl))) ?_
  refine Sy.stepD 5 rfl (by kernel_rfl) (fun _ _ _ _ h => h) (by kernel_rfl) (.bool true) (Quiet.call 10 #[pv a b false] (fun _ => by kernel_rfl) (right_of l1 l2 rb)) ?_
  refine Sy.stepD 6 rfl (by kernel_rfl) (fun _ _ _ _ h => h) (by kernel_rfl) (.bool true) (Quiet.pure (fun _ => by kernel_rfl)) ?_
  refine Sy.stepD 7 rfl (by kernel_rfl) (fun _ _ _ _ h => h) (by kernel_rfl) (.bool true) (Quiet.pure (fun _ => by kernel_rfl)) ?_
  refine Sy.stepD 8 rfl (by kernel_rfl) (fun _ _ _ _ h => h) (by kernel_rfl) (pv a b false) (Quiet.load 0 g0 0 9 27 27 (pcs a b false) _ _ rfl (by kernel_rfl) (by kernel_rfl) Try.underlying27 rfl (by kernel_rfl) _ (by kernel_rfl) (Nat.le_of_ble_eq_true (by kernel_rfl))) ?_
  refine Sy.stepD 9 rfl (by kernel_rfl) (fun _ _ _ _ h => h) (by kernel_rfl) (pv 0 0 true) (Quiet.call 25 #[] (fun _ => by kernel_rfl) (zero_c)) ?_
  refine Sy.stepD 10 rfl (by kernel_rfl) (fun _ _ _ _ h => h) (by kernel_rfl) (pv a b false) (Quiet.call 22 #[pv a b false, pv 0 0 true] (fun _ => by kernel_rfl) (add_of l1 l2 (by decide) (by decide) db dec_zero pb (Ec.add_zero _))) ?_
  refine Sy.stepD 11 rfl (by kernel_rfl) (fun _ _ _ _ h => h) (by kernel_rfl) (pv a b false) (Quiet.load 0 g0 0 9 27 27 (pcs a b false) _ _ rfl (by kernel_rfl) (by kernel_rfl) Try.underlying27 rfl (by kernel_rfl) _ (by kernel_rfl) (Nat.le_of_ble_eq_true (by kernel_rfl))) ?_
  refine Sy.stepD 12 rfl (by kernel_rfl) (fun _ _ _ _ h => h) (by kernel_rfl) (.bool true) (Quiet.pure (fun w => eql_pt_same w _ _ _ _ _ _ _ rfl rfl rfl (by first | assumption | exact lt4 _ | decide +kernel) (by first | assumption | exact lt4 _ | decide +kernel))) ?_
  refine Sy.stepD 13 rfl (by kernel_rfl) (fun _ _ _ _ h => h) (by kernel_rfl) (.bool true) (Quiet.pure (fun _ => by kernel_rfl)) ?_
  refine Sy.stepD 14 rfl (by kernel_rfl) (fun _ _ _ _ h => h) (by kernel_rfl) (.bool true) (Quiet.pure (fun _ => by kernel_rfl)) ?_
  refine Sy.stepD 15 rfl (by kernel_rfl) (fun _ _ _ _ h => h) (by kernel_rfl) (pv a b false) (Quiet.load 0 g0 0 9 27 27 (pcs a b false) _ _ rfl (by kernel_rfl) (by kernel_rfl) Try.underlying27 rfl (by kernel_rfl) _ (by kernel_rfl) (Nat.le_of_ble_eq_true (by kernel_rfl))) ?_
  refine Sy.stepD 16 rfl (by kernel_rfl) (fun _ _ _ _ h => h) (by kernel_rfl) (pv a b false) (Quiet.load 0 g0 0 9 27 27 (pcs a b false) _ _ rfl (by kernel_rfl) (by kernel_rfl) Try.underlying27 rfl (by kernel_rfl) _ (by kernel_rfl) (Nat.le_of_ble_eq_true (by kernel_rfl))) ?_
  refine Sy.stepD 17 rfl (by kernel_rfl) (fun _ _ _ _ h => h) (by kernel_rfl) (pv a c false) (Quiet.call 26 #[pv a b false] (fun _ => by kernel_rfl) (neg_of l1 l2 db pn rfl)) ?_
  refine Sy.stepD 18 rfl (by kernel_rfl) (fun _ _ _ _ h => h) (by kernel_rfl) (pv 0 0 true) (Quiet.call 22 #[pv a b false, pv a c false] (fun _ => by kernel_rfl) (add_of l1 l2 l1 l3 db dn (R := none) rfl (Ec.add_neg _))) ?_
  refine Sy.stepD 19 rfl (by kernel_rfl) (fun _ _ _ _ h => h) (by kernel_rfl) (pv 0 0 true) (Quiet.call 25 #[] (fun _ => by kernel_rfl) (zero_c)) ?_
  refine Sy.stepD 20 rfl (by kernel_rfl) (fun _ _ _ _ h => h) (by kernel_rfl) (.bool true) (Quiet.pure (fun w => eql_pt_same w _ _ _ _ _ _ _ rfl rfl rfl (by first | assumption | exact lt4 _ | decide +kernel) (by first | assumption | exact lt4 _ | decide +kernel))) ?_
  refine Sy.stepD 21 rfl (by kernel_rfl) (fun _ _ _ _ h => h) (by kernel_rfl) (.bool true) (Quiet.pure (fun _ => by kernel_rfl)) ?_
  refine Sy.stepD 22 rfl (by kernel_rfl) (fun _ _ _ _ h => h) (by kernel_rfl) (.bool true) (Quiet.pure (fun _ => by kernel_rfl)) ?_
  refine Sy.stepD 23 rfl (by kernel_rfl) (fun _ _ _ _ h => h) (by kernel_rfl) (pv 0 0 true) (Quiet.call 25 #[] (fun _ => by kernel_rfl) (zero_c)) ?_
  refine Sy.stepD 24 rfl (by kernel_rfl) (fun _ _ _ _ h => h) (by kernel_rfl) (.bool true) (Quiet.pure (fun _ => by kernel_rfl)) ?_
  refine Sy.stepD 25 rfl (by kernel_rfl) (fun _ _ _ _ h => h) (by kernel_rfl) (.bool true) (Quiet.pure (fun _ => by kernel_rfl)) ?_
  refine Sy.stepD 26 rfl (by kernel_rfl) (fun _ _ _ _ h => h) (by kernel_rfl) (.bool true) (Quiet.pure (fun _ => by kernel_rfl)) ?_
  refine Sy.doneD (by kernel_rfl) ?_
  refine Sy.then_ ?_
  refine Sy.ret ?_
  exact Sy.ret1 (v := .bool true) rfl (.inl (show _ = _ by kernel_rfl))
end Go.Proofs.Ytneeefinaejgcaa.Cu

end
section
namespace Go.Proofs.Ytneeefinaejgcaa.Cu
open Go.RowKit Go.Proofs.Ytneeefinaejgcaa Go.Proofs.Ytneeefinaejgcaa.Sy

theorem mul_of {P R : Pt} {k a b : Nat} {i : Bool} {u v : Nat} {j : Bool} (hk : k < K4) (ha : a < K4) (hb : b < K4) (h1 : dec a b i = P) (h3 : ptv R = pv u v j) (he : Ec.nm finv (k % Sc.pM) P = R) (w : World) : Calls Try.prog 7 #[fv k, pv a b i] w (Gets w (pv u v j)) := by
  rw [← h3, ← he, ← h1]
  exact mul_any w k a b i hk ha hb
end Go.Proofs.Ytneeefinaejgcaa.Cu

end
section
namespace Go.Proofs.Ytneeefinaejgcaa.Nt

theorem pr_44706919 : Pr 44706919 := small_prime (b := 6687) (by decide) (by decide) (by decide +kernel)
theorem pr_120233 : Pr 120233 := small_prime (b := 347) (by decide) (by decide) (by decide +kernel)
theorem pr_545358713 : Pr 545358713 := small_prime (b := 23354) (by decide) (by decide) (by decide +kernel)
theorem pr_305873 : Pr 305873 := small_prime (b := 554) (by decide) (by decide) (by decide +kernel)
theorem pr_293 : Pr 293 := small_prime (b := 18) (by decide) (by decide) (by decide +kernel)
theorem pr_n1 : Pr 174723607534414371449 := by
  refine pock (F := 44706919 * 120233) (by decide) (fun r hr hrN => ?_) (by decide)
  have h0 := pock_pm 68 2 (by decide) pr_44706919 (by decide) (by decide +kernel) (by decide +kernel) (by decide) r hr hrN
  have h1 := pock_pm 68 2 (by decide) pr_120233 (by decide) (by decide +kernel) (by decide +kernel) (by decide) r hr hrN
  exact Nat.Coprime.mul_dvd_of_dvd_of_dvd (by decide) h0 h1
theorem pr_n3 : Pr 29047611873442575647497758179 := by
  refine pock (F := 545358713 * (305873 * 293)) (by decide) (fun r hr hrN => ?_) (by decide)
  have h0 := pock_pm 95 2 (by decide) pr_545358713 (by decide) (by decide +kernel) (by decide +kernel) (by decide) r hr hrN
  have h1 := pock_pm 95 2 (by decide) pr_305873 (by decide) (by decide +kernel) (by decide +kernel) (by decide) r hr hrN
  have h2 := pock_pm 95 2 (by decide) pr_293 (by decide) (by decide +kernel) (by decide +kernel) (by decide) r hr hrN
  exact Nat.Coprime.mul_dvd_of_dvd_of_dvd (by decide) h0 (Nat.Coprime.mul_dvd_of_dvd_of_dvd (by decide) h1 h2)
theorem pr_n2 : Pr 341948486974166000522343609283189 :=
  pock (F := 29047611873442575647497758179) (by decide) (fun r hr hrN => pock_pm 109 2 (by decide) pr_n3 (by decide) (by decide +kernel) (by decide +kernel) (by decide) r hr hrN) (by decide)
theorem pr_n : Pr 115792089237316195423570985008687907852837564279074904382605163141518161494337 := by
  refine pock (F := 174723607534414371449 * 341948486974166000522343609283189) (by decide) (fun r hr hrN => ?_) (by decide)
  have h0 := pock_pm 256 2 (by decide) pr_n1 (by decide) (by decide +kernel) (by decide +kernel) (by decide) r hr hrN
  have h1 := pock_pm 256 2 (by decide) pr_n2 (by decide) (by decide +kernel) (by decide +kernel) (by decide) r hr hrN
  exact Nat.Coprime.mul_dvd_of_dvd_of_dvd (by decide) h0 h1
end Go.Proofs.Ytneeefinaejgcaa.Nt

end
