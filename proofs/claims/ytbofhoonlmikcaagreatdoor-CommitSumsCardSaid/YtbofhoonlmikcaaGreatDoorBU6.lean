/-
  Texts of ours, put together: ScRefAdd, ScRefMul, CrvY, ScRefs, ComA, CommitSumsL.
-/
import Derived.Test.YtbofhoonlmikcaaGreatDoorBU5
set_option linter.unusedVariables false
set_option linter.unusedSimpArgs false
section
namespace Go.Proofs.YtbofhoonlmikcaaGreatDoor.Sc
open Go.RowKit Go.Lib

theorem below_alloc4 (w : World) (a b c d : Obj) : Below w.heap.size w ((((w.alloc a).alloc b).alloc c).alloc d) := (below_alloc3 w a b c).alloc (by simp <;> omega) _
theorem below_alloc5 (w : World) (a b c d e : Obj) : Below w.heap.size w (((((w.alloc a).alloc b).alloc c).alloc d).alloc e) := (below_alloc4 w a b c d).alloc (by simp <;> omega) _
theorem blk_new5 (w : World) (a b c d : Obj) (t : TypeId) (cs : Array Value) : Blk (((((w.alloc a).alloc b).alloc c).alloc d).alloc (.cells cs t)) (w.heap.size + 4) t cs := by
  have h := Blk.new ((((w.alloc a).alloc b).alloc c).alloc d) t cs
  have e : ((((w.alloc a).alloc b).alloc c).alloc d).heap.size = w.heap.size + 4 := by simp
  rwa [e] at h
section
variable {P : Program} {ops : Array Oper}
end

set_option maxHeartbeats 8000000 in
set_option maxRecDepth 100000 in
theorem addR_any (w : World) (x y : Nat) (hx : x < 115792089237316195423570985008687907853269984665640564039457584007913129639936) (hy : y < 115792089237316195423570985008687907853269984665640564039457584007913129639936) : Calls Tryz.prog 75 #[.agg #[.int .u64 13822214165235122497, .int .u64 13451932020343611451, .int .u64 18446744073709551614, .int .u64 18446744073709551615, .int .u64 4624529908474429119, .int .u64 4994812053365940164, .int .u64 1], fv x, fv y] w fun e w' => e = .returned (fv (addP x y)) ∧ Below w.heap.size w w' := by
  obtain ⟨x0, x1, x2, x3, a0, a1, a2, a3, ex, fx⟩ := words_of x hx
  obtain ⟨y0, y1, y2, y3, b0, b1, b2, b3, ey, fy⟩ := words_of y hy
  obtain ⟨s0, c0, d0, k0, e0, r0⟩ := add0_ex x0 y0 a0 b0
  obtain ⟨s1, c1, d1, k1, e1, r1⟩ := addc_ex x1 y1 c0 a1 b1 k0
  obtain ⟨s2, c2, d2, k2, e2, r2⟩ := addc_ex x2 y2 c1 a2 b2 k1
  obtain ⟨s3, c3, d3, k3, e3, r3⟩ := addc_ex x3 y3 c2 a3 b3 k2
  have fin : val8 s0 s1 s2 s3 c3 0 0 0 = x + y := by simp only [val8]; omega
  obtain ⟨z, hz⟩ : ∃ z, z = addP x y := ⟨_, rfl⟩
  have cF : ∀ w, Calls Tryz.prog 124 #[.agg #[.int .u64 13822214165235122497, .int .u64 13451932020343611451, .int .u64 18446744073709551614, .int .u64 18446744073709551615, .int .u64 4624529908474429119, .int .u64 4994812053365940164, .int .u64 1], .agg #[.int .u64 (s0 : Int), .int .u64 (s1 : Int), .int .u64 (s2 : Int), .int .u64 (s3 : Int), .int .u64 (c3 : Int), .int .u64 0, .int .u64 0, .int .u64 0]] w fun e w' => e = .returned (fv z) ∧ Below w.heap.size w w' := by
    intro w
    have h := fold_any w s0 s1 s2 s3 c3 0 0 0 ⟨d0, d1, d2, d3, by omega, by omega, by omega, by omega⟩
    rw [fin] at h
    rw [hz]
    exact h
  rw [fx, fy, ← hz]
  clear fx fy ex ey hx hy hz a0 a1 a2 a3 b0 b1 b2 b3 d0 d1 d2 d3 k0 k1 k2 k3 e0 e1 e2 e3 fin
  go_enter Tryz.func75, Tryz.ntmps75
  go_wp2_with fail
  go_loopw [8, 9] (fun bo i wr => Below w.heap.size w wr ∧ Blk wr w.heap.size 94 #[.int .u64 13822214165235122497, .int .u64 13451932020343611451, .int .u64 18446744073709551614, .int .u64 18446744073709551615, .int .u64 4624529908474429119, .int .u64 4994812053365940164, .int .u64 1] ∧ Blk wr (w.heap.size + 1) 89 #[.int .u64 (x0 : Int), .int .u64 (x1 : Int), .int .u64 (x2 : Int), .int .u64 (x3 : Int)] ∧ Blk wr (w.heap.size + 2) 89 #[.int .u64 (y0 : Int), .int .u64 (y1 : Int), .int .u64 (y2 : Int), .int .u64 (y3 : Int)] ∧ Blk wr (w.heap.size + 3) 89 #[.int .u64 0, .int .u64 0, .int .u64 0, .int .u64 0] ∧ Hid ((i = .int .i64 0 ∧ bo = .int .u64 0 ∧ Blk wr (w.heap.size + 4) 160 #[.int .u64 0, .int .u64 0, .int .u64 0, .int .u64 0, .int .u64 0, .int .u64 0, .int .u64 0, .int .u64 0]) ∨ (i = .int .i64 1 ∧ bo = .int .u64 (c0 : Int) ∧ Blk wr (w.heap.size + 4) 160 #[.int .u64 (s0 : Int), .int .u64 0, .int .u64 0, .int .u64 0, .int .u64 0, .int .u64 0, .int .u64 0, .int .u64 0]) ∨ (i = .int .i64 2 ∧ bo = .int .u64 (c1 : Int) ∧ Blk wr (w.heap.size + 4) 160 #[.int .u64 (s0 : Int), .int .u64 (s1 : Int), .int .u64 0, .int .u64 0, .int .u64 0, .int .u64 0, .int .u64 0, .int .u64 0]) ∨ (i = .int .i64 3 ∧ bo = .int .u64 (c2 : Int) ∧ Blk wr (w.heap.size + 4) 160 #[.int .u64 (s0 : Int), .int .u64 (s1 : Int), .int .u64 (s2 : Int), .int .u64 0, .int .u64 0, .int .u64 0, .int .u64 0, .int .u64 0]) ∨ (i = .int .i64 4 ∧ bo = .int .u64 (c3 : Int) ∧ Blk wr (w.heap.size + 4) 160 #[.int .u64 (s0 : Int), .int .u64 (s1 : Int), .int .u64 (s2 : Int), .int .u64 (s3 : Int), .int .u64 0, .int .u64 0, .int .u64 0, .int .u64 0]))) (fun _ i _ => 4 - (intOf i).toNat)
  case atStart => exact ⟨below_alloc5 w _ _ _ _ _, (((((Blk.new w _ _).alloc _).alloc _).alloc _).alloc _), ((((blk_new2 w _ _ _).alloc _).alloc _).alloc _), (((blk_new3 w _ _ _ _).alloc _).alloc _), ((blk_new4 w _ _ _ _ _).alloc _), Lib.hid (.inl ⟨rfl, rfl, blk_new5 w _ _ _ _ _ _⟩)⟩
  case round =>
    obtain ⟨hb, BM, BX, BY, BR, HI⟩ := hrel
    have lX := BX.lt
    have lY := BY.lt
    have lR := BR.lt
    rcases HI.out with ⟨rfl, rfl, BW⟩ | ⟨rfl, rfl, BW⟩ | ⟨rfl, rfl, BW⟩ | ⟨rfl, rfl, BW⟩ | ⟨rfl, rfl, BW⟩
    · clear HI
      have px : wr.cell? ⟨w.heap.size + 1, 0, none⟩ = some (.int .u64 (x0 : Int)) := BX.cell 0
      have py : wr.cell? ⟨w.heap.size + 2, 0, none⟩ = some (.int .u64 (y0 : Int)) := BY.cell 0
      go_wp2
      refine wp_region_G (fun _ => false) (by kernel_rfl) ?_
      try simp only [Act.put]
      refine wpAnyG_take 0 rfl (by kernel_rfl) (fun _ _ _ h => h) (YieldsG.pure (by rfl) (fun w9 _ => by go_simp; try with_reducible rfl)) ?_
      try simp only [Act.put, List.setIfInBounds_toArray, List.set_cons_zero, List.set_cons_succ]
      refine wpAnyG_take 1 rfl (by kernel_rfl) (fun _ _ _ h => h) (YieldsG.pure (by rfl) (fun w9 _ => by go_simp; try with_reducible rfl)) ?_
      try simp only [Act.put, List.setIfInBounds_toArray, List.set_cons_zero, List.set_cons_succ]
      refine wpAnyG_take 2 rfl (by kernel_rfl) (fun _ _ _ h => h) (YieldsG.pure (v := .int .u64 (x0 : Int)) (by rfl) (fun w9 h9 => by have hz := (Below.cell (p := ⟨w.heap.size + 1, 0, none⟩) h9 lX).trans px; go_simp; first | done | simp [hz])) ?_
      try simp only [Act.put, List.setIfInBounds_toArray, List.set_cons_zero, List.set_cons_succ]
      refine wpAnyG_take 3 rfl (by kernel_rfl) (fun _ _ _ h => h) (YieldsG.pure (by rfl) (fun w9 _ => by go_simp; try with_reducible rfl)) ?_
      try simp only [Act.put, List.setIfInBounds_toArray, List.set_cons_zero, List.set_cons_succ]
      refine wpAnyG_take 4 rfl (by kernel_rfl) (fun _ _ _ h => h) (YieldsG.pure (by rfl) (fun w9 _ => by go_simp; try with_reducible rfl)) ?_
      try simp only [Act.put, List.setIfInBounds_toArray, List.set_cons_zero, List.set_cons_succ]
      refine wpAnyG_take 5 rfl (by kernel_rfl) (fun _ _ _ h => h) (YieldsG.pure (v := .int .u64 (y0 : Int)) (by rfl) (fun w9 h9 => by have hz := (Below.cell (p := ⟨w.heap.size + 2, 0, none⟩) h9 lY).trans py; go_simp; first | done | simp [hz])) ?_
      try simp only [Act.put, List.setIfInBounds_toArray, List.set_cons_zero, List.set_cons_succ]
      refine wpAnyG_take 6 rfl (by kernel_rfl) (fun _ _ _ h => h) (YieldsG.pure (by rfl) (fun w9 _ => by go_simp; try with_reducible rfl)) ?_
      try simp only [Act.put, List.setIfInBounds_toArray, List.set_cons_zero, List.set_cons_succ]
      refine wpAnyG_take 7 rfl (by kernel_rfl) (fun _ _ _ h => h) (YieldsG.pure (v := .tuple #[.int .u64 (s0 : Int), .int .u64 (c0 : Int)]) (by rfl) (fun w9 h9 => by go_simp)) ?_
      try simp only [Act.put, List.setIfInBounds_toArray, List.set_cons_zero, List.set_cons_succ]
      refine wpAnyG_take 8 rfl (by kernel_rfl) (fun _ _ _ h => h) (YieldsG.pure (by rfl) (fun w9 _ => by go_simp; try with_reducible rfl)) ?_
      try simp only [Act.put, List.setIfInBounds_toArray, List.set_cons_zero, List.set_cons_succ]
      refine wpAnyG_take 9 rfl (by kernel_rfl) (fun _ _ _ h => h) (YieldsG.pure (by rfl) (fun w9 _ => by go_simp; try with_reducible rfl)) ?_
      try simp only [Act.put, List.setIfInBounds_toArray, List.set_cons_zero, List.set_cons_succ]
      refine wpAnyG_take 10 rfl (by kernel_rfl) (fun _ _ _ h => h) (YieldsG.pure (by rfl) (fun w9 _ => by go_simp; try with_reducible rfl)) ?_
      try simp only [Act.put, List.setIfInBounds_toArray, List.set_cons_zero, List.set_cons_succ]
      refine wpAnyG_take 11 rfl (by kernel_rfl) (fun _ _ _ h => h) (YieldsG.pure (by rfl) (fun w9 _ => by go_simp; try with_reducible rfl)) ?_
      try simp only [Act.put, List.setIfInBounds_toArray, List.set_cons_zero, List.set_cons_succ]
      refine wpAnyG_take 12 rfl (by kernel_rfl) (fun _ _ _ h => h) (YieldsG.pure (by rfl) (fun w9 _ => by go_simp; try with_reducible rfl)) ?_
      try simp only [Act.put, List.setIfInBounds_toArray, List.set_cons_zero, List.set_cons_succ]
      refine wpAnyG_done (by kernel_rfl) (fun u hu => ?_)
      have BM := Gr.blk hu BM
      have BX := Gr.blk hu BX
      have BY := Gr.blk hu BY
      have BR := Gr.blk hu BR
      have BW := Gr.blk hu BW
      have hb := Below.gr hb hu
      have pc : u.cell? ⟨w.heap.size + 4, 0, none⟩ = some (.int .u64 0) := BW.cell 0
      have pf := BW.frozen 0
      clear hu px py
      go_wp2
      refine ⟨⟨hb.setCell (by show w.heap.size ≤ w.heap.size + 4; omega) _, BM.far (by show w.heap.size ≠ w.heap.size + 4; omega) _, BX.far (by show w.heap.size + 1 ≠ w.heap.size + 4; omega) _, BY.far (by show w.heap.size + 2 ≠ w.heap.size + 4; omega) _, BR.far (by show w.heap.size + 3 ≠ w.heap.size + 4; omega) _, Lib.hid (.inr (.inl (⟨rfl, rfl, BW.set_ 0 _⟩)))⟩, by decide⟩
    · clear HI
      have px : wr.cell? ⟨w.heap.size + 1, 1, none⟩ = some (.int .u64 (x1 : Int)) := BX.cell 1
      have py : wr.cell? ⟨w.heap.size + 2, 1, none⟩ = some (.int .u64 (y1 : Int)) := BY.cell 1
      go_wp2
      refine wp_region_G (fun _ => false) (by kernel_rfl) ?_
      try simp only [Act.put]
      refine wpAnyG_take 0 rfl (by kernel_rfl) (fun _ _ _ h => h) (YieldsG.pure (by rfl) (fun w9 _ => by go_simp; try with_reducible rfl)) ?_
      try simp only [Act.put, List.setIfInBounds_toArray, List.set_cons_zero, List.set_cons_succ]
      refine wpAnyG_take 1 rfl (by kernel_rfl) (fun _ _ _ h => h) (YieldsG.pure (by rfl) (fun w9 _ => by go_simp; try with_reducible rfl)) ?_
      try simp only [Act.put, List.setIfInBounds_toArray, List.set_cons_zero, List.set_cons_succ]
      refine wpAnyG_take 2 rfl (by kernel_rfl) (fun _ _ _ h => h) (YieldsG.pure (v := .int .u64 (x1 : Int)) (by rfl) (fun w9 h9 => by have hz := (Below.cell (p := ⟨w.heap.size + 1, 1, none⟩) h9 lX).trans px; go_simp; first | done | simp [hz])) ?_
      try simp only [Act.put, List.setIfInBounds_toArray, List.set_cons_zero, List.set_cons_succ]
      refine wpAnyG_take 3 rfl (by kernel_rfl) (fun _ _ _ h => h) (YieldsG.pure (by rfl) (fun w9 _ => by go_simp; try with_reducible rfl)) ?_
      try simp only [Act.put, List.setIfInBounds_toArray, List.set_cons_zero, List.set_cons_succ]
      refine wpAnyG_take 4 rfl (by kernel_rfl) (fun _ _ _ h => h) (YieldsG.pure (by rfl) (fun w9 _ => by go_simp; try with_reducible rfl)) ?_
      try simp only [Act.put, List.setIfInBounds_toArray, List.set_cons_zero, List.set_cons_succ]
      refine wpAnyG_take 5 rfl (by kernel_rfl) (fun _ _ _ h => h) (YieldsG.pure (v := .int .u64 (y1 : Int)) (by rfl) (fun w9 h9 => by have hz := (Below.cell (p := ⟨w.heap.size + 2, 1, none⟩) h9 lY).trans py; go_simp; first | done | simp [hz])) ?_
      try simp only [Act.put, List.setIfInBounds_toArray, List.set_cons_zero, List.set_cons_succ]
      refine wpAnyG_take 6 rfl (by kernel_rfl) (fun _ _ _ h => h) (YieldsG.pure (by rfl) (fun w9 _ => by go_simp; try with_reducible rfl)) ?_
      try simp only [Act.put, List.setIfInBounds_toArray, List.set_cons_zero, List.set_cons_succ]
      refine wpAnyG_take 7 rfl (by kernel_rfl) (fun _ _ _ h => h) (YieldsG.pure (v := .tuple #[.int .u64 (s1 : Int), .int .u64 (c1 : Int)]) (by rfl) (fun w9 h9 => by go_simp)) ?_
      try simp only [Act.put, List.setIfInBounds_toArray, List.set_cons_zero, List.set_cons_succ]
      refine wpAnyG_take 8 rfl (by kernel_rfl) (fun _ _ _ h => h) (YieldsG.pure (by rfl) (fun w9 _ => by go_simp; try with_reducible rfl)) ?_
      try simp only [Act.put, List.setIfInBounds_toArray, List.set_cons_zero, List.set_cons_succ]
      refine wpAnyG_take 9 rfl (by kernel_rfl) (fun _ _ _ h => h) (YieldsG.pure (by rfl) (fun w9 _ => by go_simp; try with_reducible rfl)) ?_
      try simp only [Act.put, List.setIfInBounds_toArray, List.set_cons_zero, List.set_cons_succ]
      refine wpAnyG_take 10 rfl (by kernel_rfl) (fun _ _ _ h => h) (YieldsG.pure (by rfl) (fun w9 _ => by go_simp; try with_reducible rfl)) ?_
      try simp only [Act.put, List.setIfInBounds_toArray, List.set_cons_zero, List.set_cons_succ]
      refine wpAnyG_take 11 rfl (by kernel_rfl) (fun _ _ _ h => h) (YieldsG.pure (by rfl) (fun w9 _ => by go_simp; try with_reducible rfl)) ?_
      try simp only [Act.put, List.setIfInBounds_toArray, List.set_cons_zero, List.set_cons_succ]
      refine wpAnyG_take 12 rfl (by kernel_rfl) (fun _ _ _ h => h) (YieldsG.pure (by rfl) (fun w9 _ => by go_simp; try with_reducible rfl)) ?_
      try simp only [Act.put, List.setIfInBounds_toArray, List.set_cons_zero, List.set_cons_succ]
      refine wpAnyG_done (by kernel_rfl) (fun u hu => ?_)
      have BM := Gr.blk hu BM
      have BX := Gr.blk hu BX
      have BY := Gr.blk hu BY
      have BR := Gr.blk hu BR
      have BW := Gr.blk hu BW
      have hb := Below.gr hb hu
      have pc : u.cell? ⟨w.heap.size + 4, 1, none⟩ = some (.int .u64 0) := BW.cell 1
      have pf := BW.frozen 1
      clear hu px py
      go_wp2
      refine ⟨⟨hb.setCell (by show w.heap.size ≤ w.heap.size + 4; omega) _, BM.far (by show w.heap.size ≠ w.heap.size + 4; omega) _, BX.far (by show w.heap.size + 1 ≠ w.heap.size + 4; omega) _, BY.far (by show w.heap.size + 2 ≠ w.heap.size + 4; omega) _, BR.far (by show w.heap.size + 3 ≠ w.heap.size + 4; omega) _, Lib.hid (.inr (.inr (.inl (⟨rfl, rfl, BW.set_ 1 _⟩))))⟩, by decide⟩
    · clear HI
      have px : wr.cell? ⟨w.heap.size + 1, 2, none⟩ = some (.int .u64 (x2 : Int)) := BX.cell 2
      have py : wr.cell? ⟨w.heap.size + 2, 2, none⟩ = some (.int .u64 (y2 : Int)) := BY.cell 2
      go_wp2
      refine wp_region_G (fun _ => false) (by kernel_rfl) ?_
      try simp only [Act.put]
      refine wpAnyG_take 0 rfl (by kernel_rfl) (fun _ _ _ h => h) (YieldsG.pure (by rfl) (fun w9 _ => by go_simp; try with_reducible rfl)) ?_
      try simp only [Act.put, List.setIfInBounds_toArray, List.set_cons_zero, List.set_cons_succ]
      refine wpAnyG_take 1 rfl (by kernel_rfl) (fun _ _ _ h => h) (YieldsG.pure (by rfl) (fun w9 _ => by go_simp; try with_reducible rfl)) ?_
      try simp only [Act.put, List.setIfInBounds_toArray, List.set_cons_zero, List.set_cons_succ]
      refine wpAnyG_take 2 rfl (by kernel_rfl) (fun _ _ _ h => h) (YieldsG.pure (v := .int .u64 (x2 : Int)) (by rfl) (fun w9 h9 => by have hz := (Below.cell (p := ⟨w.heap.size + 1, 2, none⟩) h9 lX).trans px; go_simp; first | done | simp [hz])) ?_
      try simp only [Act.put, List.setIfInBounds_toArray, List.set_cons_zero, List.set_cons_succ]
      refine wpAnyG_take 3 rfl (by kernel_rfl) (fun _ _ _ h => h) (YieldsG.pure (by rfl) (fun w9 _ => by go_simp; try with_reducible rfl)) ?_
      try simp only [Act.put, List.setIfInBounds_toArray, List.set_cons_zero, List.set_cons_succ]
      refine wpAnyG_take 4 rfl (by kernel_rfl) (fun _ _ _ h => h) (YieldsG.pure (by rfl) (fun w9 _ => by go_simp; try with_reducible rfl)) ?_
      try simp only [Act.put, List.setIfInBounds_toArray, List.set_cons_zero, List.set_cons_succ]
      refine wpAnyG_take 5 rfl (by kernel_rfl) (fun _ _ _ h => h) (YieldsG.pure (v := .int .u64 (y2 : Int)) (by rfl) (fun w9 h9 => by have hz := (Below.cell (p := ⟨w.heap.size + 2, 2, none⟩) h9 lY).trans py; go_simp; first | done | simp [hz])) ?_
      try simp only [Act.put, List.setIfInBounds_toArray, List.set_cons_zero, List.set_cons_succ]
      refine wpAnyG_take 6 rfl (by kernel_rfl) (fun _ _ _ h => h) (YieldsG.pure (by rfl) (fun w9 _ => by go_simp; try with_reducible rfl)) ?_
      try simp only [Act.put, List.setIfInBounds_toArray, List.set_cons_zero, List.set_cons_succ]
      refine wpAnyG_take 7 rfl (by kernel_rfl) (fun _ _ _ h => h) (YieldsG.pure (v := .tuple #[.int .u64 (s2 : Int), .int .u64 (c2 : Int)]) (by rfl) (fun w9 h9 => by go_simp)) ?_
      try simp only [Act.put, List.setIfInBounds_toArray, List.set_cons_zero, List.set_cons_succ]
      refine wpAnyG_take 8 rfl (by kernel_rfl) (fun _ _ _ h => h) (YieldsG.pure (by rfl) (fun w9 _ => by go_simp; try with_reducible rfl)) ?_
      try simp only [Act.put, List.setIfInBounds_toArray, List.set_cons_zero, List.set_cons_succ]
      refine wpAnyG_take 9 rfl (by kernel_rfl) (fun _ _ _ h => h) (YieldsG.pure (by rfl) (fun w9 _ => by go_simp; try with_reducible rfl)) ?_
      try simp only [Act.put, List.setIfInBounds_toArray, List.set_cons_zero, List.set_cons_succ]
      refine wpAnyG_take 10 rfl (by kernel_rfl) (fun _ _ _ h => h) (YieldsG.pure (by rfl) (fun w9 _ => by go_simp; try with_reducible rfl)) ?_
      try simp only [Act.put, List.setIfInBounds_toArray, List.set_cons_zero, List.set_cons_succ]
      refine wpAnyG_take 11 rfl (by kernel_rfl) (fun _ _ _ h => h) (YieldsG.pure (by rfl) (fun w9 _ => by go_simp; try with_reducible rfl)) ?_
      try simp only [Act.put, List.setIfInBounds_toArray, List.set_cons_zero, List.set_cons_succ]
      refine wpAnyG_take 12 rfl (by kernel_rfl) (fun _ _ _ h => h) (YieldsG.pure (by rfl) (fun w9 _ => by go_simp; try with_reducible rfl)) ?_
      try simp only [Act.put, List.setIfInBounds_toArray, List.set_cons_zero, List.set_cons_succ]
      refine wpAnyG_done (by kernel_rfl) (fun u hu => ?_)
      have BM := Gr.blk hu BM
      have BX := Gr.blk hu BX
      have BY := Gr.blk hu BY
      have BR := Gr.blk hu BR
      have BW := Gr.blk hu BW
      have hb := Below.gr hb hu
      have pc : u.cell? ⟨w.heap.size + 4, 2, none⟩ = some (.int .u64 0) := BW.cell 2
      have pf := BW.frozen 2
      clear hu px py
      go_wp2
      refine ⟨⟨hb.setCell (by show w.heap.size ≤ w.heap.size + 4; omega) _, BM.far (by show w.heap.size ≠ w.heap.size + 4; omega) _, BX.far (by show w.heap.size + 1 ≠ w.heap.size + 4; omega) _, BY.far (by show w.heap.size + 2 ≠ w.heap.size + 4; omega) _, BR.far (by show w.heap.size + 3 ≠ w.heap.size + 4; omega) _, Lib.hid (.inr (.inr (.inr (.inl (⟨rfl, rfl, BW.set_ 2 _⟩)))))⟩, by decide⟩
    · clear HI
      have px : wr.cell? ⟨w.heap.size + 1, 3, none⟩ = some (.int .u64 (x3 : Int)) := BX.cell 3
      have py : wr.cell? ⟨w.heap.size + 2, 3, none⟩ = some (.int .u64 (y3 : Int)) := BY.cell 3
      go_wp2
      refine wp_region_G (fun _ => false) (by kernel_rfl) ?_
      try simp only [Act.put]
      refine wpAnyG_take 0 rfl (by kernel_rfl) (fun _ _ _ h => h) (YieldsG.pure (by rfl) (fun w9 _ => by go_simp; try with_reducible rfl)) ?_
      try simp only [Act.put, List.setIfInBounds_toArray, List.set_cons_zero, List.set_cons_succ]
      refine wpAnyG_take 1 rfl (by kernel_rfl) (fun _ _ _ h => h) (YieldsG.pure (by rfl) (fun w9 _ => by go_simp; try with_reducible rfl)) ?_
      try simp only [Act.put, List.setIfInBounds_toArray, List.set_cons_zero, List.set_cons_succ]
      refine wpAnyG_take 2 rfl (by kernel_rfl) (fun _ _ _ h => h) (YieldsG.pure (v := .int .u64 (x3 : Int)) (by rfl) (fun w9 h9 => by have hz := (Below.cell (p := ⟨w.heap.size + 1, 3, none⟩) h9 lX).trans px; go_simp; first | done | simp [hz])) ?_
      try simp only [Act.put, List.setIfInBounds_toArray, List.set_cons_zero, List.set_cons_succ]
      refine wpAnyG_take 3 rfl (by kernel_rfl) (fun _ _ _ h => h) (YieldsG.pure (by rfl) (fun w9 _ => by go_simp; try with_reducible rfl)) ?_
      try simp only [Act.put, List.setIfInBounds_toArray, List.set_cons_zero, List.set_cons_succ]
      refine wpAnyG_take 4 rfl (by kernel_rfl) (fun _ _ _ h => h) (YieldsG.pure (by rfl) (fun w9 _ => by go_simp; try with_reducible rfl)) ?_
      try simp only [Act.put, List.setIfInBounds_toArray, List.set_cons_zero, List.set_cons_succ]
      refine wpAnyG_take 5 rfl (by kernel_rfl) (fun _ _ _ h => h) (YieldsG.pure (v := .int .u64 (y3 : Int)) (by rfl) (fun w9 h9 => by have hz := (Below.cell (p := ⟨w.heap.size + 2, 3, none⟩) h9 lY).trans py; go_simp; first | done | simp [hz])) ?_
      try simp only [Act.put, List.setIfInBounds_toArray, List.set_cons_zero, List.set_cons_succ]
      refine wpAnyG_take 6 rfl (by kernel_rfl) (fun _ _ _ h => h) (YieldsG.pure (by rfl) (fun w9 _ => by go_simp; try with_reducible rfl)) ?_
      try simp only [Act.put, List.setIfInBounds_toArray, List.set_cons_zero, List.set_cons_succ]
      refine wpAnyG_take 7 rfl (by kernel_rfl) (fun _ _ _ h => h) (YieldsG.pure (v := .tuple #[.int .u64 (s3 : Int), .int .u64 (c3 : Int)]) (by rfl) (fun w9 h9 => by go_simp)) ?_
      try simp only [Act.put, List.setIfInBounds_toArray, List.set_cons_zero, List.set_cons_succ]
      refine wpAnyG_take 8 rfl (by kernel_rfl) (fun _ _ _ h => h) (YieldsG.pure (by rfl) (fun w9 _ => by go_simp; try with_reducible rfl)) ?_
      try simp only [Act.put, List.setIfInBounds_toArray, List.set_cons_zero, List.set_cons_succ]
      refine wpAnyG_take 9 rfl (by kernel_rfl) (fun _ _ _ h => h) (YieldsG.pure (by rfl) (fun w9 _ => by go_simp; try with_reducible rfl)) ?_
      try simp only [Act.put, List.setIfInBounds_toArray, List.set_cons_zero, List.set_cons_succ]
      refine wpAnyG_take 10 rfl (by kernel_rfl) (fun _ _ _ h => h) (YieldsG.pure (by rfl) (fun w9 _ => by go_simp; try with_reducible rfl)) ?_
      try simp only [Act.put, List.setIfInBounds_toArray, List.set_cons_zero, List.set_cons_succ]
      refine wpAnyG_take 11 rfl (by kernel_rfl) (fun _ _ _ h => h) (YieldsG.pure (by rfl) (fun w9 _ => by go_simp; try with_reducible rfl)) ?_
      try simp only [Act.put, List.setIfInBounds_toArray, List.set_cons_zero, List.set_cons_succ]
      refine wpAnyG_take 12 rfl (by kernel_rfl) (fun _ _ _ h => h) (YieldsG.pure (by rfl) (fun w9 _ => by go_simp; try with_reducible rfl)) ?_
      try simp only [Act.put, List.setIfInBounds_toArray, List.set_cons_zero, List.set_cons_succ]
      refine wpAnyG_done (by kernel_rfl) (fun u hu => ?_)
      have BM := Gr.blk hu BM
      have BX := Gr.blk hu BX
      have BY := Gr.blk hu BY
      have BR := Gr.blk hu BR
      have BW := Gr.blk hu BW
      have hb := Below.gr hb hu
      have pc : u.cell? ⟨w.heap.size + 4, 3, none⟩ = some (.int .u64 0) := BW.cell 3
      have pf := BW.frozen 3
      clear hu px py
      go_wp2
      refine ⟨⟨hb.setCell (by show w.heap.size ≤ w.heap.size + 4; omega) _, BM.far (by show w.heap.size ≠ w.heap.size + 4; omega) _, BX.far (by show w.heap.size + 1 ≠ w.heap.size + 4; omega) _, BY.far (by show w.heap.size + 2 ≠ w.heap.size + 4; omega) _, BR.far (by show w.heap.size + 3 ≠ w.heap.size + 4; omega) _, Lib.hid (.inr (.inr (.inr (.inr (⟨rfl, rfl, BW.set_ 3 _⟩)))))⟩, by decide⟩
    · clear HI
      have pc : wr.cell? ⟨w.heap.size + 4, 4, none⟩ = some (.int .u64 0) := BW.cell 4
      have pf := BW.frozen 4
      have BM4 : Blk (wr.setCell ⟨w.heap.size + 4, 4, none⟩ (.int .u64 (c3 : Int))) w.heap.size 94 #[.int .u64 13822214165235122497, .int .u64 13451932020343611451, .int .u64 18446744073709551614, .int .u64 18446744073709551615, .int .u64 4624529908474429119, .int .u64 4994812053365940164, .int .u64 1] := BM.far (by show w.heap.size ≠ w.heap.size + 4; omega) _
      have BW4 : Blk (wr.setCell ⟨w.heap.size + 4, 4, none⟩ (.int .u64 (c3 : Int))) (w.heap.size + 4) 160 #[.int .u64 (s0 : Int), .int .u64 (s1 : Int), .int .u64 (s2 : Int), .int .u64 (s3 : Int), .int .u64 (c3 : Int), .int .u64 0, .int .u64 0, .int .u64 0] := BW.set_ 4 _
      have BR4 : Blk (wr.setCell ⟨w.heap.size + 4, 4, none⟩ (.int .u64 (c3 : Int))) (w.heap.size + 3) 89 #[.int .u64 0, .int .u64 0, .int .u64 0, .int .u64 0] := BR.far (by show w.heap.size + 3 ≠ w.heap.size + 4; omega) _
      have hb4 : Below w.heap.size w (wr.setCell ⟨w.heap.size + 4, 4, none⟩ (.int .u64 (c3 : Int))) := hb.setCell (by show w.heap.size ≤ w.heap.size + 4; omega) _
      have H4 := Lib.hid (And.intro BM4 (And.intro BW4 (And.intro BR4 hb4)))
      clear BM BX BY BR BW hb BM4 BW4 BR4 hb4
      go_wp2_with (first | ((with_reducible refine here_load (d := some 33) ?_); refine wpList_load_blk rfl _ _ rfl w.heap.size rfl _ _ _ H4.out.1 Tryz.underlying94 rfl (by kernel_rfl) ?_) | ((with_reducible refine here_load (d := some 34) ?_); refine wpList_load_blk rfl _ _ rfl (w.heap.size + 4) rfl _ _ _ H4.out.2.1 Tryz.underlying160 rfl (by kernel_rfl) ?_))
      refine (cF _).mono ?_
      rintro e u ⟨rfl, hu⟩
      have BRu := Gr.blk hu H4.out.2.2.1
      have hbu := Below.gr H4.out.2.2.2 hu
      clear hu H4 cF
      go_wp2_with (first | ((with_reducible refine here_store ?_); refine wpList_store_blk rfl _ _ _ rfl (w.heap.size + 3) (fcs (z)) rfl rfl _ _ (BRu) (by kernel_rfl) (by rfl) (fcs_one _) ?_; intro w9 hL9 hB9 hK9))
      exact bodyPost_ret (results_cell_row rfl _ _ (w.heap.size + 3) _ _ (0, 0) _ rfl hL9 Tryz.underlying89 rfl (by kernel_rfl)) rfl ⟨rfl, hbu.trans (hB9 _ (by omega))⟩

end Go.Proofs.YtbofhoonlmikcaaGreatDoor.Sc

end
section
namespace Go.Proofs.YtbofhoonlmikcaaGreatDoor.Sc
open Go.RowKit Go.Lib Go.Proofs.YtbofhoonlmikcaaGreatDoor

end Go.Proofs.YtbofhoonlmikcaaGreatDoor.Sc

end
section
namespace Go.Proofs.YtbofhoonlmikcaaGreatDoor.Cu
open Go.RowKit Go.Proofs.YtbofhoonlmikcaaGreatDoor Go.Proofs.YtbofhoonlmikcaaGreatDoor.Sy
set_option maxRecDepth 100000
set_option maxHeartbeats 4000000

section
variable {P : Program} {w0 : Base} {n : Nat} {F : Slots} {L : Blocks}
end
end Go.Proofs.YtbofhoonlmikcaaGreatDoor.Cu

end
section
namespace Go.Proofs.YtbofhoonlmikcaaGreatDoor.Cu
open Go.RowKit Go.Proofs.YtbofhoonlmikcaaGreatDoor Go.Proofs.YtbofhoonlmikcaaGreatDoor.Sy
set_option maxRecDepth 100000
set_option maxHeartbeats 4000000

theorem asc_any (w : World) (a b : Nat) (ha : a < K4) (hb : b < K4) : Calls Tryz.prog 37 #[fv a, fv b] w (Gets w (fv ((a + b) % Sc.pM))) := by
  refine Sy.enter (args := [fv a, fv b]) Tryz.func37 rfl kL ?_
  refine sC ?_
  refine sM 24 (fcs a) (fun g0 => ?_)
  refine sM 24 (fcs b) (fun g1 => ?_)
  refine sM 24 (fcs 0) (fun g2 => ?_)
  refine sH (fun j => j == 7) ?_
  refine sD 0 rfl (.agg modN) (qF 76 #[] (Sc.refN_any)) <| sD 1 rfl (fv a) (qL 0 g0 0 4 24 24 (fcs a) rfl Tryz.underlying24) <| sD 2 rfl (fv a) (qF 77 #[fv a] (fun w => Sc.refOf_any w a (by first | assumption | exact Sc.mod_lt _ | exact lt4 _ | exact valB_lt32 _ (by first | assumption | exact bytesS_length _) | decide +kernel))) <| sD 3 rfl (fv b) (qL 1 g1 0 4 24 24 (fcs b) rfl Tryz.underlying24) <| sD 4 rfl (fv b) (qF 77 #[fv b] (fun w => Sc.refOf_any w b (by first | assumption | exact Sc.mod_lt _ | exact lt4 _ | exact valB_lt32 _ (by first | assumption | exact bytesS_length _) | decide +kernel))) <| sD 5 rfl (fv ((a + b) % Sc.pM)) (qF 75 #[.agg modN, fv a, fv b] (fun w => Sc.addR_any w a b ha hb)) <| sD 6 rfl (fv ((a + b) % Sc.pM)) (qF 74 #[fv ((a + b) % Sc.pM)] (fun w => Sc.refSc_any w ((a + b) % Sc.pM) (by first | assumption | exact Sc.mod_lt _ | exact lt4 _ | exact valB_lt32 _ (by first | assumption | exact bytesS_length _) | decide +kernel))) <| sX 7 rfl 2 g2 24 (fcs 0) (fcs ((a + b) % Sc.pM)) (wS 0 24 (fcs ((a + b) % Sc.pM)) rfl) ?_
  refine sI ?_
  refine Sy.ret ?_
  exact rC (v := fv ((a + b) % Sc.pM)) 24 g2 2 (fcs ((a + b) % Sc.pM)) rfl Tryz.underlying24
end Go.Proofs.YtbofhoonlmikcaaGreatDoor.Cu

end
section
namespace Go.Proofs.YtbofhoonlmikcaaGreatDoor.Cu
open Go.RowKit Go.Proofs.YtbofhoonlmikcaaGreatDoor Go.Proofs.YtbofhoonlmikcaaGreatDoor.Sy
set_option maxRecDepth 100000
set_option maxHeartbeats 4000000

def assP (id : List UInt8) (b : Nat) : Pt := valP 1 (genP id) b
theorem assP_on (id : List UInt8) (b : Nat) : Ec.On (assP id b) := valP_on (genP_on id) 1 b
theorem ass_any (w : World) (id : List UInt8) (hid : id.length = 32) (k : Nat) (hk : k < K4) (ht : Sh.TabAt w 1) : Calls Tryz.prog 23 #[.agg (id.map bv).toArray, fv k] w (Gets w (ptv (assP id k))) := by
  refine Sy.enter (args := [.agg (id.map bv).toArray, fv k]) Tryz.func23 rfl kL ?_
  refine sC ?_
  refine sM 47 (id.map bv).toArray (fun g0 => ?_)
  refine sM 24 (fcs k) (fun g1 => ?_)
  refine sM 52 (pcs 0 0 false) (fun g2 => ?_)
  refine sH (fun j => j == 4) ?_
  refine sD 0 rfl (.agg (id.map bv).toArray) (Quiet.load 0 g0 0 32 47 47 (id.map bv).toArray _ _ rfl kR kR Tryz.underlying47 rfl kR _ (key_whole id hid) (key_size id hid)) ?_
  obtain ⟨R1, hR1⟩ : ∃ P : Pt, P = genP id := ⟨_, rfl⟩
  have oR1 : Ec.On R1 := by rw [hR1]; exact genP_on _
  refine sD 1 rfl (pv (pX R1) (pY R1) (pI R1)) (qG 63 #[.agg (id.map bv).toArray] (fun w hw => by rw [← ptv_parts, hR1]; exact gen_any w id hid (ht.below hw.below ht.lt))) <| sD 2 rfl (fv k) (qL 1 g1 0 4 24 24 (fcs k) rfl Tryz.underlying24) ?_
  obtain ⟨R2, hR2⟩ : ∃ P : Pt, P = valP 1 R1 k := ⟨_, rfl⟩
  have oR2 : Ec.On R2 := by rw [hR2]; exact valP_on oR1 _ _
  refine sD 3 rfl (pv (pX R2) (pY R2) (pI R2)) (qF 25 #[.int .u64 1, pv (pX R1) (pY R1) (pI R1), fv k] (val_of (by decide) lP lP lP (dec_parts oR1) hR2.symm)) <| sX 4 rfl 2 g2 52 (pcs 0 0 false) (pcs (pX R2) (pY R2) (pI R2)) (wS 0 52 (pcs (pX R2) (pY R2) (pI R2)) rfl) ?_
  refine sI ?_
  refine Sy.ret ?_
  rw [show (ptv (assP id k) : Value) = pv (pX R2) (pY R2) (pI R2) from by rw [← ptv_parts, hR2, hR1]; rfl]
  exact rC (v := pv (pX R2) (pY R2) (pI R2)) 52 g2 2 (pcs (pX R2) (pY R2) (pI R2)) rfl Tryz.underlying52
theorem ass_of {w : World} {R : Pt} {id : List UInt8} {k : Nat} (hid : id.length = 32) (hk : k < K4) (ht : Sh.TabAt w 1) (hR : assP id k = R) : Calls Tryz.prog 23 #[.agg (id.map bv).toArray, fv k] w (Gets w (pv (pX R) (pY R) (pI R))) := by
  have h := ass_any w id hid k hk ht
  rw [hR, ptv_parts] at h
  exact h
end Go.Proofs.YtbofhoonlmikcaaGreatDoor.Cu

end
section
namespace Go.Proofs.YtbofhoonlmikcaaGreatDoor.Cu
open Go.RowKit Go.Proofs.YtbofhoonlmikcaaGreatDoor Go.Proofs.YtbofhoonlmikcaaGreatDoor.Sy
set_option maxRecDepth 100000
set_option maxHeartbeats 4000000

theorem wrap_over {v u : Nat} (hv : v < 18446744073709551616) (hu : u < 18446744073709551616) (ho : 18446744073709551616 ≤ v + u) : IntKind.u64.wrap ((v : Int) + (u : Int)) = ((v + u - 18446744073709551616 : Nat) : Int) := by
  unfold IntKind.wrap
  simp [IntKind.bits, IntKind.signed]
  omega
def pr1 (P : Pt) (_ : Nat) : Pr := ⟨pX P, pY P, pI P⟩
def pr2 (P Q : Pt) (j : Nat) : Pr := if j = 0 then ⟨pX P, pY P, pI P⟩ else ⟨pX Q, pY Q, pI Q⟩
theorem pr1_ok (P : Pt) (j : Nat) : (pr1 P j).ok := ⟨pX_lt P, pY_lt P⟩
theorem pr2_ok (P Q : Pt) (j : Nat) : (pr2 P Q j).ok := by
  unfold pr2
  split
  · exact ⟨pX_lt P, pY_lt P⟩
  · exact ⟨pX_lt Q, pY_lt Q⟩
theorem src1 {w : World} {g : Nat} {t : TypeId} {P : Pt} (hb : Blk w g t (pml (pX P) (pY P) (pI P)).toArray) : PSrc w (some ⟨g, 0, none⟩) 1 (pr1 P) := fun _ => ⟨g, 0, rfl, hb.lt, fun j hj => by
  obtain rfl : j = 0 := by omega
  exact blk_range hb (by rw [List.drop_zero]; exact List.take_of_length_le (Nat.le_refl _))⟩
theorem src2 {w : World} {g : Nat} {t : TypeId} {P Q : Pt} (hb : Blk w g t (pml (pX P) (pY P) (pI P) ++ (pml (pX Q) (pY Q) (pI Q))).toArray) : PSrc w (some ⟨g, 0, none⟩) 2 (pr2 P Q) := fun _ => ⟨g, 0, rfl, hb.lt, fun j hj => by
  have hr : w.rangeAt g 0 (pml (pX P) (pY P) (pI P) ++ pml (pX Q) (pY Q) (pI Q)) := blk_range hb (by rw [List.drop_zero]; exact List.take_of_length_le (Nat.le_refl _))
  rcases j with _ | _ | j
  · exact range_left hr
  · exact range_right hr rfl
  · omega⟩
theorem sum1 {P : Pt} (hP : Ec.On P) : sumP (pr1 P) (List.range 1) = P := by
  show Ec.add finv none (dec (pX P) (pY P) (pI P)) = P
  rw [dec_parts hP, Ec.zero_add]
theorem sum2 {P Q : Pt} (hP : Ec.On P) (hQ : Ec.On Q) : sumP (pr2 P Q) (List.range 2) = Ec.add finv P Q := by
  show Ec.add finv (Ec.add finv none (dec (pX P) (pY P) (pI P))) (dec (pX Q) (pY Q) (pI Q)) = _
  rw [dec_parts hP, dec_parts hQ, Ec.zero_add]
theorem bal_21 {w : World} {g g2 : Nat} {t t2 : TypeId} {P Q R : Pt} (hP : Ec.On P) (hQ : Ec.On Q) (hR : Ec.On R) (hb : Blk w g t (pml (pX P) (pY P) (pI P) ++ (pml (pX Q) (pY Q) (pI Q))).toArray) (hb2 : Blk w g2 t2 (pml (pX R) (pY R) (pI R)).toArray) (h : Ec.add finv P Q = R) : Calls Tryz.prog 38 #[.slice (some ⟨g, 0, none⟩) 2 2, .slice (some ⟨g2, 0, none⟩) 1 1] w (Gets w (.bool true)) := by
  have q := bal_any w _ 2 2 (pr2 P Q) _ 1 1 (pr1 R) (by decide) (pr2_ok P Q) (src2 hb) (by decide) (pr1_ok R) (src1 hb2)
  rw [balB_self ((sum2 hP hQ).trans (h.trans (sum1 hR).symm))] at q
  exact q
theorem bal_12 {w : World} {g g2 : Nat} {t t2 : TypeId} {P Q R : Pt} (hR : Ec.On R) (hQ : Ec.On Q) (hP : Ec.On P) (hb2 : Blk w g2 t2 (pml (pX R) (pY R) (pI R)).toArray) (hb : Blk w g t (pml (pX Q) (pY Q) (pI Q) ++ (pml (pX P) (pY P) (pI P))).toArray) (h : Ec.add finv P Q = R) : Calls Tryz.prog 38 #[.slice (some ⟨g2, 0, none⟩) 1 1, .slice (some ⟨g, 0, none⟩) 2 2] w (Gets w (.bool true)) := by
  have q := bal_any w _ 1 1 (pr1 R) _ 2 2 (pr2 Q P) (by decide) (pr1_ok R) (src1 hb2) (by decide) (pr2_ok Q P) (src2 hb)
  rw [balB_self ((sum1 hR).trans (((Ec.comm fld hQ hP).trans h).symm.trans (sum2 hQ hP).symm))] at q
  exact q
theorem bal_00 (w : World) : Calls Tryz.prog 38 #[.slice none 0 0, .slice none 0 0] w (Gets w (.bool true)) := by
  have q := bal_any w none 0 0 (pr1 none) none 0 0 (pr1 none) (by decide) (pr1_ok none) (fun h => absurd h (Nat.lt_irrefl _)) (by decide) (pr1_ok none) (fun h => absurd h (Nat.lt_irrefl _))
  rw [balB_self rfl] at q
  exact q
theorem csums_lt (w : World) (f : Nat → UInt8) (v u p q k : Nat) (hv : v < 18446744073709551616) (hu : u < 18446744073709551616) (hp : p < K4) (hq : q < K4) (hk : k < K4) (hlt : v + u < 18446744073709551616) (ht : Sh.TabAt w 1) : Calls Tryz.prog 11 #[.agg ((l32 f).map bv).toArray, .agg #[.int .u64 ((v : Nat) : Int), .int .u64 ((u : Nat) : Int)], .agg (fws p ++ (fws q ++ (fws k))).toArray] w (Gets w (.bool true)) := by
  refine Sy.enter (args := [.agg ((l32 f).map bv).toArray, .agg #[.int .u64 ((v : Nat) : Int), .int .u64 ((u : Nat) : Int)], .agg (fws p ++ (fws q ++ (fws k))).toArray]) Tryz.func11 rfl kL ?_
  refine sC ?_
  refine sM 47 ((l32 f).map bv).toArray (fun g0 => ?_)
  refine Sy.make kR 67 #[.int .u64 ((v : Nat) : Int), .int .u64 ((u : Nat) : Int)] ptr kF (fun g1 => ?_)
  refine Sy.make kR 68 (fws p ++ (fws q ++ (fws k))).toArray ptr kF (fun g2 => ?_)
  refine sP (.bool false) ?_
  refine sG ?_
  refine Sy.seq ?_
  refine sC ?_
  refine sS (.bool true) (qF 22 #[] (alive7)) <| sP (.bool false) ?_
  refine sG ?_
  refine sU ?_
  refine Sy.skip ?_
  refine sB ?_
  refine sS (.agg ((l32 f).map bv).toArray) (Quiet.load 0 g0 0 32 47 47 ((l32 f).map bv).toArray _ _ rfl kR kR Tryz.underlying47 rfl kR _ (key_whole (l32 f) (l32_len f)) (key_size (l32 f) (l32_len f))) <| sP (.pointer (some ⟨g2, 8, none⟩)) <| sS (fv k) (Quiet.load 2 g2 8 4 68 24 (fws p ++ (fws q ++ (fws k))).toArray _ _ rfl kR kR Tryz.underlying24 rfl kR _ kR kL) ?_
  obtain ⟨R1, hR1⟩ : ∃ P : Pt, P = assP (l32 f) k := ⟨_, rfl⟩
  have oR1 : Ec.On R1 := by rw [hR1]; exact assP_on _ _
  refine sS (pv (pX R1) (pY R1) (pI R1)) (qG 23 #[.agg ((l32 f).map bv).toArray, fv k] (fun w hw => ass_of (l32_len f) lP (ht.below hw.below ht.lt) hR1.symm)) ?_
  refine sM 52 (pcs 0 0 false) (fun g3 => ?_)
  refine sW 3 g3 52 (pcs 0 0 false) (pcs (pX R1) (pY R1) (pI R1)) (wS 0 52 (pcs (pX R1) (pY R1) (pI R1)) rfl) ?_
  refine sA ?_
  refine sP (.pointer (some ⟨g1, 0, none⟩)) <| sS (.int .u64 ((v : Nat) : Int)) (Quiet.cell 1 g1 0 67 22 #[.int .u64 ((v : Nat) : Int), .int .u64 ((u : Nat) : Int)] _ _ rfl kR kR Tryz.underlying22 rfl _ kR) <| sS (pv (pX R1) (pY R1) (pI R1)) (qL 3 g3 0 9 52 52 (pcs (pX R1) (pY R1) (pI R1)) rfl Tryz.underlying52) <| sP (.pointer (some ⟨g2, 0, none⟩)) <| sS (fv p) (Quiet.load 2 g2 0 4 68 24 (fws p ++ (fws q ++ (fws k))).toArray _ _ rfl kR kR Tryz.underlying24 rfl kR _ kR kL) ?_
  obtain ⟨R2, hR2⟩ : ∃ P : Pt, P = valP v R1 p := ⟨_, rfl⟩
  have oR2 : Ec.On R2 := by rw [hR2]; exact valP_on oR1 _ _
  refine sS (pv (pX R2) (pY R2) (pI R2)) (qF 25 #[.int .u64 ((v : Nat) : Int), pv (pX R1) (pY R1) (pI R1), fv p] (val_of (by assumption) lP lP lP (dec_parts oR1) hR2.symm)) ?_
  refine sM 52 (pcs 0 0 false) (fun g4 => ?_)
  refine sW 4 g4 52 (pcs 0 0 false) (pcs (pX R2) (pY R2) (pI R2)) (wS 0 52 (pcs (pX R2) (pY R2) (pI R2)) rfl) ?_
  refine sA ?_
  refine sP (.pointer (some ⟨g1, 1, none⟩)) <| sS (.int .u64 ((u : Nat) : Int)) (Quiet.cell 1 g1 1 67 22 #[.int .u64 ((v : Nat) : Int), .int .u64 ((u : Nat) : Int)] _ _ rfl kR kR Tryz.underlying22 rfl _ kR) <| sS (pv (pX R1) (pY R1) (pI R1)) (qL 3 g3 0 9 52 52 (pcs (pX R1) (pY R1) (pI R1)) rfl Tryz.underlying52) <| sP (.pointer (some ⟨g2, 4, none⟩)) <| sS (fv q) (Quiet.load 2 g2 4 4 68 24 (fws p ++ (fws q ++ (fws k))).toArray _ _ rfl kR kR Tryz.underlying24 rfl kR _ kR kL) ?_
  obtain ⟨R3, hR3⟩ : ∃ P : Pt, P = valP u R1 q := ⟨_, rfl⟩
  have oR3 : Ec.On R3 := by rw [hR3]; exact valP_on oR1 _ _
  refine sS (pv (pX R3) (pY R3) (pI R3)) (qF 25 #[.int .u64 ((u : Nat) : Int), pv (pX R1) (pY R1) (pI R1), fv q] (val_of (by assumption) lP lP lP (dec_parts oR1) hR3.symm)) ?_
  refine sM 52 (pcs 0 0 false) (fun g5 => ?_)
  refine sW 5 g5 52 (pcs 0 0 false) (pcs (pX R3) (pY R3) (pI R3)) (wS 0 52 (pcs (pX R3) (pY R3) (pI R3)) rfl) ?_
  refine sA ?_
  refine sP (.pointer (some ⟨g1, 0, none⟩)) <| sS (.int .u64 ((v : Nat) : Int)) (Quiet.cell 1 g1 0 67 22 #[.int .u64 ((v : Nat) : Int), .int .u64 ((u : Nat) : Int)] _ _ rfl kR kR Tryz.underlying22 rfl _ kR) <| sP (.pointer (some ⟨g1, 1, none⟩)) <| sS (.int .u64 ((u : Nat) : Int)) (Quiet.cell 1 g1 1 67 22 #[.int .u64 ((v : Nat) : Int), .int .u64 ((u : Nat) : Int)] _ _ rfl kR kR Tryz.underlying22 rfl _ kR) <| sS (.int .u64 ((v + u : Nat) : Int)) (Quiet.pure (exec_int .add _ _ _ .u64 _ _ _ rfl rfl rfl (int_add _ _ _ _ _ ((wrap_u64 (by omega) (by omega)).trans (by omega))))) <| sP (.int .u64 ((v + u : Nat) : Int)) ?_
  refine sG ?_
  refine Sy.seq ?_
  refine sC ?_
  refine sP (.int .u64 ((v + u : Nat) : Int)) <| sP (.pointer (some ⟨g1, 0, none⟩)) <| sS (.int .u64 ((v : Nat) : Int)) (Quiet.cell 1 g1 0 67 22 #[.int .u64 ((v : Nat) : Int), .int .u64 ((u : Nat) : Int)] _ _ rfl kR kR Tryz.underlying22 rfl _ kR) ?_
  obtain ⟨b1, hb1⟩ : ∃ z : Bool, z = decide (v + u < v) := ⟨_, rfl⟩
  refine sS (.bool b1) (Quiet.pure (exec_int .lss _ _ _ .u64 _ _ _ rfl rfl rfl (int_lss _ _ _ _ _ (by rw [hb1]; exact decide_eq_decide.2 (by omega))))) ?_
  refine sG ?_
  cases b1
  · have lb1 : ¬ (v + u < v) := of_decide_eq_false hb1.symm
    refine sU ?_
    refine Sy.skip ?_
    refine sR (fun j => j == 9) ?_
    refine sZ 0 rfl (.int .u64 ((v + u : Nat) : Int)) <| sD 1 rfl (pv (pX R1) (pY R1) (pI R1)) (qL 3 g3 0 9 52 52 (pcs (pX R1) (pY R1) (pI R1)) rfl Tryz.underlying52) <| sZ 2 rfl (.pointer (some ⟨g2, 0, none⟩)) <| sD 3 rfl (fv p) (Quiet.load 2 g2 0 4 68 24 (fws p ++ (fws q ++ (fws k))).toArray _ _ rfl kR kR Tryz.underlying24 rfl kR _ kR kL) <| sZ 4 rfl (.pointer (some ⟨g2, 4, none⟩)) <| sD 5 rfl (fv q) (Quiet.load 2 g2 4 4 68 24 (fws p ++ (fws q ++ (fws k))).toArray _ _ rfl kR kR Tryz.underlying24 rfl kR _ kR kL) <| sD 6 rfl (fv ((p + q) % Sc.pM)) (qF 37 #[fv p, fv q] (fun w => asc_any w p q lP lP)) ?_
    obtain ⟨R4, hR4⟩ : ∃ P : Pt, P = valP (v + u) R1 ((p + q) % Sc.pM) := ⟨_, rfl⟩
    have oR4 : Ec.On R4 := by rw [hR4]; exact valP_on oR1 _ _
    refine sD 7 rfl (pv (pX R4) (pY R4) (pI R4)) (qF 25 #[.int .u64 ((v + u : Nat) : Int), pv (pX R1) (pY R1) (pI R1), fv ((p + q) % Sc.pM)] (val_of (by assumption) lP lP lP (dec_parts oR1) hR4.symm)) ?_
    refine sO 8 rfl 52 (pcs 0 0 false) (fun g6 => ?_)
    refine sX 9 rfl 6 g6 52 (pcs 0 0 false) (pcs (pX R4) (pY R4) (pI R4)) (wS 0 52 (pcs (pX R4) (pY R4) (pI R4)) rfl) ?_
    refine sE ?_
    refine sB ?_
    refine sS (pv (pX R2) (pY R2) (pI R2)) (qL 4 g4 0 9 52 52 (pcs (pX R2) (pY R2) (pI R2)) rfl Tryz.underlying52) <| sS (pv (pX R3) (pY R3) (pI R3)) (qL 5 g5 0 9 52 52 (pcs (pX R3) (pY R3) (pI R3)) rfl Tryz.underlying52) ?_
    refine Sy.make kR 52 (pml (pX R2) (pY R2) (pI R2) ++ (pml (pX R3) (pY R3) (pI R3))).toArray (fun g => .slice (some ⟨g, 0, none⟩) 2 2) kF (fun g7 => ?_)
    refine sS (pv (pX R4) (pY R4) (pI R4)) (qL 6 g6 0 9 52 52 (pcs (pX R4) (pY R4) (pI R4)) rfl Tryz.underlying52) ?_
    refine Sy.make kR 52 (pml (pX R4) (pY R4) (pI R4)).toArray (fun g => .slice (some ⟨g, 0, none⟩) 1 1) kF (fun g8 => ?_)
    have hsum : Ec.add finv R2 R3 = R4 := by rw [hR4, hR3, hR2]; exact valP_sum oR1 _ _ _ _
    refine sS (.bool true) (qG 38 #[.slice (some ⟨g7, 0, none⟩) 2 2, .slice (some ⟨g8, 0, none⟩) 1 1] (fun w hw => bal_21 oR2 oR3 oR4 (hw.get (i := 7) rfl) (hw.get (i := 8) rfl) hsum)) <| sP (.bool true) <| sS (pv (pX R4) (pY R4) (pI R4)) (qL 6 g6 0 9 52 52 (pcs (pX R4) (pY R4) (pI R4)) rfl Tryz.underlying52) ?_
    refine Sy.make kR 52 (pml (pX R4) (pY R4) (pI R4)).toArray (fun g => .slice (some ⟨g, 0, none⟩) 1 1) kF (fun g9 => ?_)
    refine sS (pv (pX R3) (pY R3) (pI R3)) (qL 5 g5 0 9 52 52 (pcs (pX R3) (pY R3) (pI R3)) rfl Tryz.underlying52) <| sS (pv (pX R2) (pY R2) (pI R2)) (qL 4 g4 0 9 52 52 (pcs (pX R2) (pY R2) (pI R2)) rfl Tryz.underlying52) ?_
    refine Sy.make kR 52 (pml (pX R3) (pY R3) (pI R3) ++ (pml (pX R2) (pY R2) (pI R2))).toArray (fun g => .slice (some ⟨g, 0, none⟩) 2 2) kF (fun g10 => ?_)
    refine sS (.bool true) (qG 38 #[.slice (some ⟨g9, 0, none⟩) 1 1, .slice (some ⟨g10, 0, none⟩) 2 2] (fun w hw => bal_12 oR4 oR3 oR2 (hw.get (i := 9) rfl) (hw.get (i := 10) rfl) hsum)) <| sP (.bool true) <| sP (.bool true) <| sS (.bool true) (qF 38 #[.slice none 0 0, .slice none 0 0] (bal_00)) <| sP (.bool true) <| sP (.bool true) ?_
    refine sG ?_
    refine Sy.ret ?_
    exact rV (.bool true) rfl
  · have lb1 : v + u < v := of_decide_eq_true hb1.symm
    exact absurd lb1 (by omega)
theorem csums_ov (w : World) (f : Nat → UInt8) (v u p q k : Nat) (hv : v < 18446744073709551616) (hu : u < 18446744073709551616) (hp : p < K4) (hq : q < K4) (hk : k < K4) (ho : 18446744073709551616 ≤ v + u) (ht : Sh.TabAt w 1) : Calls Tryz.prog 11 #[.agg ((l32 f).map bv).toArray, .agg #[.int .u64 ((v : Nat) : Int), .int .u64 ((u : Nat) : Int)], .agg (fws p ++ (fws q ++ (fws k))).toArray] w (Gets w (.bool true)) := by
  refine Sy.enter (args := [.agg ((l32 f).map bv).toArray, .agg #[.int .u64 ((v : Nat) : Int), .int .u64 ((u : Nat) : Int)], .agg (fws p ++ (fws q ++ (fws k))).toArray]) Tryz.func11 rfl kL ?_
  refine sC ?_
  refine sM 47 ((l32 f).map bv).toArray (fun g0 => ?_)
  refine Sy.make kR 67 #[.int .u64 ((v : Nat) : Int), .int .u64 ((u : Nat) : Int)] ptr kF (fun g1 => ?_)
  refine Sy.make kR 68 (fws p ++ (fws q ++ (fws k))).toArray ptr kF (fun g2 => ?_)
  refine sP (.bool false) ?_
  refine sG ?_
  refine Sy.seq ?_
  refine sC ?_
  refine sS (.bool true) (qF 22 #[] (alive7)) <| sP (.bool false) ?_
  refine sG ?_
  refine sU ?_
  refine Sy.skip ?_
  refine sB ?_
  refine sS (.agg ((l32 f).map bv).toArray) (Quiet.load 0 g0 0 32 47 47 ((l32 f).map bv).toArray _ _ rfl kR kR Tryz.underlying47 rfl kR _ (key_whole (l32 f) (l32_len f)) (key_size (l32 f) (l32_len f))) <| sP (.pointer (some ⟨g2, 8, none⟩)) <| sS (fv k) (Quiet.load 2 g2 8 4 68 24 (fws p ++ (fws q ++ (fws k))).toArray _ _ rfl kR kR Tryz.underlying24 rfl kR _ kR kL) ?_
  obtain ⟨R1, hR1⟩ : ∃ P : Pt, P = assP (l32 f) k := ⟨_, rfl⟩
  have oR1 : Ec.On R1 := by rw [hR1]; exact assP_on _ _
  refine sS (pv (pX R1) (pY R1) (pI R1)) (qG 23 #[.agg ((l32 f).map bv).toArray, fv k] (fun w hw => ass_of (l32_len f) lP (ht.below hw.below ht.lt) hR1.symm)) ?_
  refine sM 52 (pcs 0 0 false) (fun g3 => ?_)
  refine sW 3 g3 52 (pcs 0 0 false) (pcs (pX R1) (pY R1) (pI R1)) (wS 0 52 (pcs (pX R1) (pY R1) (pI R1)) rfl) ?_
  refine sA ?_
  refine sP (.pointer (some ⟨g1, 0, none⟩)) <| sS (.int .u64 ((v : Nat) : Int)) (Quiet.cell 1 g1 0 67 22 #[.int .u64 ((v : Nat) : Int), .int .u64 ((u : Nat) : Int)] _ _ rfl kR kR Tryz.underlying22 rfl _ kR) <| sS (pv (pX R1) (pY R1) (pI R1)) (qL 3 g3 0 9 52 52 (pcs (pX R1) (pY R1) (pI R1)) rfl Tryz.underlying52) <| sP (.pointer (some ⟨g2, 0, none⟩)) <| sS (fv p) (Quiet.load 2 g2 0 4 68 24 (fws p ++ (fws q ++ (fws k))).toArray _ _ rfl kR kR Tryz.underlying24 rfl kR _ kR kL) ?_
  obtain ⟨R2, hR2⟩ : ∃ P : Pt, P = valP v R1 p := ⟨_, rfl⟩
  have oR2 : Ec.On R2 := by rw [hR2]; exact valP_on oR1 _ _
  refine sS (pv (pX R2) (pY R2) (pI R2)) (qF 25 #[.int .u64 ((v : Nat) : Int), pv (pX R1) (pY R1) (pI R1), fv p] (val_of (by assumption) lP lP lP (dec_parts oR1) hR2.symm)) ?_
  refine sM 52 (pcs 0 0 false) (fun g4 => ?_)
  refine sW 4 g4 52 (pcs 0 0 false) (pcs (pX R2) (pY R2) (pI R2)) (wS 0 52 (pcs (pX R2) (pY R2) (pI R2)) rfl) ?_
  refine sA ?_
  refine sP (.pointer (some ⟨g1, 1, none⟩)) <| sS (.int .u64 ((u : Nat) : Int)) (Quiet.cell 1 g1 1 67 22 #[.int .u64 ((v : Nat) : Int), .int .u64 ((u : Nat) : Int)] _ _ rfl kR kR Tryz.underlying22 rfl _ kR) <| sS (pv (pX R1) (pY R1) (pI R1)) (qL 3 g3 0 9 52 52 (pcs (pX R1) (pY R1) (pI R1)) rfl Tryz.underlying52) <| sP (.pointer (some ⟨g2, 4, none⟩)) <| sS (fv q) (Quiet.load 2 g2 4 4 68 24 (fws p ++ (fws q ++ (fws k))).toArray _ _ rfl kR kR Tryz.underlying24 rfl kR _ kR kL) ?_
  obtain ⟨R3, hR3⟩ : ∃ P : Pt, P = valP u R1 q := ⟨_, rfl⟩
  have oR3 : Ec.On R3 := by rw [hR3]; exact valP_on oR1 _ _
  refine sS (pv (pX R3) (pY R3) (pI R3)) (qF 25 #[.int .u64 ((u : Nat) : Int), pv (pX R1) (pY R1) (pI R1), fv q] (val_of (by assumption) lP lP lP (dec_parts oR1) hR3.symm)) ?_
  refine sM 52 (pcs 0 0 false) (fun g5 => ?_)
  refine sW 5 g5 52 (pcs 0 0 false) (pcs (pX R3) (pY R3) (pI R3)) (wS 0 52 (pcs (pX R3) (pY R3) (pI R3)) rfl) ?_
  refine sA ?_
  refine sP (.pointer (some ⟨g1, 0, none⟩)) <| sS (.int .u64 ((v : Nat) : Int)) (Quiet.cell 1 g1 0 67 22 #[.int .u64 ((v : Nat) : Int), .int .u64 ((u : Nat) : Int)] _ _ rfl kR kR Tryz.underlying22 rfl _ kR) <| sP (.pointer (some ⟨g1, 1, none⟩)) <| sS (.int .u64 ((u : Nat) : Int)) (Quiet.cell 1 g1 1 67 22 #[.int .u64 ((v : Nat) : Int), .int .u64 ((u : Nat) : Int)] _ _ rfl kR kR Tryz.underlying22 rfl _ kR) <| sS (.int .u64 ((v + u - 18446744073709551616 : Nat) : Int)) (Quiet.pure (exec_int .add _ _ _ .u64 _ _ _ rfl rfl rfl (int_add _ _ _ _ _ (wrap_over hv hu ho)))) <| sP (.int .u64 ((v + u - 18446744073709551616 : Nat) : Int)) ?_
  refine sG ?_
  refine Sy.seq ?_
  refine sC ?_
  refine sP (.int .u64 ((v + u - 18446744073709551616 : Nat) : Int)) <| sP (.pointer (some ⟨g1, 0, none⟩)) <| sS (.int .u64 ((v : Nat) : Int)) (Quiet.cell 1 g1 0 67 22 #[.int .u64 ((v : Nat) : Int), .int .u64 ((u : Nat) : Int)] _ _ rfl kR kR Tryz.underlying22 rfl _ kR) ?_
  obtain ⟨b1, hb1⟩ : ∃ z : Bool, z = decide (v + u - 18446744073709551616 < v) := ⟨_, rfl⟩
  refine sS (.bool b1) (Quiet.pure (exec_int .lss _ _ _ .u64 _ _ _ rfl rfl rfl (int_lss _ _ _ _ _ (by rw [hb1]; exact decide_eq_decide.2 (by omega))))) ?_
  refine sG ?_
  cases b1
  · have lb1 : ¬ (v + u - 18446744073709551616 < v) := of_decide_eq_false hb1.symm
    exact absurd lb1 (by omega)
  · have lb1 : v + u - 18446744073709551616 < v := of_decide_eq_true hb1.symm
    refine sT ?_
    refine sC ?_
    refine sP (.bool true) ?_
    refine sG ?_
    refine Sy.ret ?_
    refine Sy.then_ret ?_
    exact rV (.bool true) rfl
theorem law_csums (w : World) (f : Nat → UInt8) (v u p q k : Nat) (hv : v < 18446744073709551616) (hu : u < 18446744073709551616) (hp : p < K4) (hq : q < K4) (hk : k < K4) (ht : Sh.TabAt w 1) : Calls Tryz.prog 11 #[.agg ((l32 f).map bv).toArray, .agg #[.int .u64 ((v : Nat) : Int), .int .u64 ((u : Nat) : Int)], .agg (fws p ++ (fws q ++ (fws k))).toArray] w (Gets w (.bool true)) := by
  rcases Nat.lt_or_ge (v + u) 18446744073709551616 with h | h
  · exact csums_lt w f v u p q k hv hu hp hq hk h ht
  · exact csums_ov w f v u p q k hv hu hp hq hk h ht
end Go.Proofs.YtbofhoonlmikcaaGreatDoor.Cu

end
