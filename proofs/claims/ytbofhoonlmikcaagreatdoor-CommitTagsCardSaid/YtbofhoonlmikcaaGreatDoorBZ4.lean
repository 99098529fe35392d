/-
  Texts of ours, put together: RefAdd, MulZ, RefMul, RefPow, FeOwn, RefBytes, CrvC, FeB32, FeRead, RefSqrt, RootNum.
-/
import Derived.Test.YtbofhoonlmikcaaGreatDoorBZ3
set_option linter.unusedVariables false
set_option linter.unusedSimpArgs false
section
namespace Go.Proofs.YtbofhoonlmikcaaGreatDoor
open Go.RowKit Go.Lib

theorem below_alloc4 (w : World) (a b c d : Obj) : Below w.heap.size w ((((w.alloc a).alloc b).alloc c).alloc d) := (below_alloc3 w a b c).alloc (by simp <;> omega) _
theorem below_alloc5 (w : World) (a b c d e : Obj) : Below w.heap.size w (((((w.alloc a).alloc b).alloc c).alloc d).alloc e) := (below_alloc4 w a b c d).alloc (by simp <;> omega) _
theorem blk_new5 (w : World) (a b c d : Obj) (t : TypeId) (cs : Array Value) : Blk (((((w.alloc a).alloc b).alloc c).alloc d).alloc (.cells cs t)) (w.heap.size + 4) t cs := by
  have h := Blk.new ((((w.alloc a).alloc b).alloc c).alloc d) t cs
  have e : ((((w.alloc a).alloc b).alloc c).alloc d).heap.size = w.heap.size + 4 := by simp
  rwa [e] at h
section
variable {P : Program} {ops : Array Oper}
theorem YieldsG.loadP {o : Oper} {a : Act} {w : World} {d : TypeDesc} (hw : Region.wanted o (yielded ops a.tmps) = true) (ty : TypeId) (x : Operand) (ho : o.op = .load ty x)
    (g : Nat) (hx : a.eval x = .pointer (some ⟨g, 0, none⟩)) (n : Nat) (cs : List Value) (hl : g < w.heap.size) (hr : w.rangeAt g 0 cs) (hf : fv n = .agg cs.toArray)
    (hu : P.underlying ty = some d) (hd : d.isRow = true) (hi : (P.info? ty).map (·.size) = some cs.length) : YieldsG P ops o (fv n) a w := by
  rw [hf]
  exact YieldsG.load hw ty x ho g 0 hx cs d hl hr hu hd hi
end

set_option maxHeartbeats 8000000 in
set_option maxRecDepth 100000 in
theorem addR_any (w : World) (x y : Nat) (hx : x < 115792089237316195423570985008687907853269984665640564039457584007913129639936) (hy : y < 115792089237316195423570985008687907853269984665640564039457584007913129639936) : Calls Tryz.prog 75 #[.agg #[.int .u64 18446744069414583343, .int .u64 18446744073709551615, .int .u64 18446744073709551615, .int .u64 18446744073709551615, .int .u64 4294968273, .int .u64 0, .int .u64 0], fv x, fv y] w fun e w' => e = .returned (fv (addP x y)) ∧ Below w.heap.size w w' := by
  obtain ⟨x0, x1, x2, x3, a0, a1, a2, a3, ex, fx⟩ := words_of x hx
  obtain ⟨y0, y1, y2, y3, b0, b1, b2, b3, ey, fy⟩ := words_of y hy
  obtain ⟨s0, c0, d0, k0, e0, r0⟩ := add0_ex x0 y0 a0 b0
  obtain ⟨s1, c1, d1, k1, e1, r1⟩ := addc_ex x1 y1 c0 a1 b1 k0
  obtain ⟨s2, c2, d2, k2, e2, r2⟩ := addc_ex x2 y2 c1 a2 b2 k1
  obtain ⟨s3, c3, d3, k3, e3, r3⟩ := addc_ex x3 y3 c2 a3 b3 k2
  have fin : val8 s0 s1 s2 s3 c3 0 0 0 = x + y := by simp only [val8]; omega
  obtain ⟨z, hz⟩ : ∃ z, z = addP x y := ⟨_, rfl⟩
  have cF : ∀ w, Calls Tryz.prog 124 #[.agg #[.int .u64 18446744069414583343, .int .u64 18446744073709551615, .int .u64 18446744073709551615, .int .u64 18446744073709551615, .int .u64 4294968273, .int .u64 0, .int .u64 0], .agg #[.int .u64 (s0 : Int), .int .u64 (s1 : Int), .int .u64 (s2 : Int), .int .u64 (s3 : Int), .int .u64 (c3 : Int), .int .u64 0, .int .u64 0, .int .u64 0]] w fun e w' => e = .returned (fv z) ∧ Below w.heap.size w w' := by
    intro w
    have h := fold_any w s0 s1 s2 s3 c3 0 0 0 ⟨d0, d1, d2, d3, by omega, by omega, by omega, by omega⟩
    rw [fin] at h
    rw [hz]
    exact h
  rw [fx, fy, ← hz]
  clear fx fy ex ey hx hy hz a0 a1 a2 a3 b0 b1 b2 b3 d0 d1 d2 d3 k0 k1 k2 k3 e0 e1 e2 e3 fin
  go_enter Tryz.func75, Tryz.ntmps75
  go_wp2_with fail
  go_loopw [8, 9] (fun bo i wr => Below w.heap.size w wr ∧ Blk wr w.heap.size 94 #[.int .u64 18446744069414583343, .int .u64 18446744073709551615, .int .u64 18446744073709551615, .int .u64 18446744073709551615, .int .u64 4294968273, .int .u64 0, .int .u64 0] ∧ Blk wr (w.heap.size + 1) 89 #[.int .u64 (x0 : Int), .int .u64 (x1 : Int), .int .u64 (x2 : Int), .int .u64 (x3 : Int)] ∧ Blk wr (w.heap.size + 2) 89 #[.int .u64 (y0 : Int), .int .u64 (y1 : Int), .int .u64 (y2 : Int), .int .u64 (y3 : Int)] ∧ Blk wr (w.heap.size + 3) 89 #[.int .u64 0, .int .u64 0, .int .u64 0, .int .u64 0] ∧ Hid ((i = .int .i64 0 ∧ bo = .int .u64 0 ∧ Blk wr (w.heap.size + 4) 160 #[.int .u64 0, .int .u64 0, .int .u64 0, .int .u64 0, .int .u64 0, .int .u64 0, .int .u64 0, .int .u64 0]) ∨ (i = .int .i64 1 ∧ bo = .int .u64 (c0 : Int) ∧ Blk wr (w.heap.size + 4) 160 #[.int .u64 (s0 : Int), .int .u64 0, .int .u64 0, .int .u64 0, .int .u64 0, .int .u64 0, .int .u64 0, .int .u64 0]) ∨ (i = .int .i64 2 ∧ bo = .int .u64 (c1 : Int) ∧ Blk wr (w.heap.size + 4) 160 #[.int .u64 (s0 : Int), .int .u64 (s1 : Int), .int .u64 0, .int .u64 0, .int .u64 0, .int .u64 0, .int .u64 0, .int .u64 0]) ∨ (i = .int .i64 3 ∧ bo = .int .u64 (c2 : Int) ∧ Blk wr (w.heap.size + 4) 160 #[.int .u64 (s0 : Int), .int .u64 (s1 : Int), .int .u64 (s2 : Int), .int .u64 0, .int .u64 0, .int .u64 0, .int .u64 0, .int .u64 0]) ∨ (i = .int .i64 4 ∧ bo = .int .u64 (c3 : Int) ∧ Blk wr (w.heap.size + 4) 160 #[.int .u64 (s0 : Int), .int .u64 (s1 : Int), .int .u64 (s2 : Int), .int .u64 (s3 : Int), .int .u64 0, .int .u64 0, .int .u64 0, .int .u64 0]))) (fun _ i _ => 4 - (intOf i).toNat)
  case atStart => exact ⟨below_alloc5 w _ _ _ _ _, (((((Blk.new w _ _).alloc _).alloc _).alloc _).alloc _), ((((blk_new2 w _ _ _).alloc _).alloc _).alloc _), (((blk_new3 w _ _ _ _).alloc _).alloc _), ((blk_new4 w _ _ _ _ _).alloc _), Lib.hid (.inl ⟨rfl, rfl, blk_new5 w _ _ _ _ _ _⟩)⟩
  case round =>
    obtain ⟨hb, BM, BX, BY, BR, HI⟩ := hrel
    have lX := BX.lt
    have lY := BY.lt
    have lR := BR.lt
    rcases HI.out with ⟨rfl, rfl, BW⟩ | ⟨rfl, rfl, BW⟩ | ⟨rfl, rfl, BW⟩ | ⟨rfl, rfl, BW⟩ | ⟨rfl, rfl, BW⟩
    · clear HI
      have px : wr.cell? ⟨w.heap.size + 1, 0, none⟩ = some (.int .u64 (x0 : Int)) := BX.cell 0
      have py : wr.cell? ⟨w.heap.size + 2, 0, none⟩ = some (.int .u64 (y0 : Int)) := BY.cell 0
      go_wp2
      refine wp_region_G (fun _ => false) (by kernel_rfl) ?_
      try simp only [Act.put]
      refine wpAnyG_take 0 rfl (by kernel_rfl) (fun _ _ _ h => h) (YieldsG.pure (by rfl) (fun w9 _ => by go_simp; try with_reducible rfl)) ?_
      try simp only [Act.put, List.setIfInBounds_toArray, List.set_cons_zero, List.set_cons_succ]
      refine wpAnyG_take 1 rfl (by kernel_rfl) (fun _ _ _ h => h) (YieldsG.pure (by rfl) (fun w9 _ => by go_simp; try with_reducible rfl)) ?_
      try simp only [Act.put, List.setIfInBounds_toArray, List.set_cons_zero, List.set_cons_succ]
      refine wpAnyG_take 2 rfl (by kernel_rfl) (fun _ _ _ h => h) (YieldsG.pure (v := .int .u64 (x0 : Int)) (by rfl) (fun w9 h9 => by have hz := (Below.cell (p := ⟨w.heap.size + 1, 0, none⟩) h9 lX).trans px; go_simp; first | done | simp [hz])) ?_
      try simp only [Act.put, List.setIfInBounds_toArray, List.set_cons_zero, List.set_cons_succ]
      refine wpAnyG_take 3 rfl (by kernel_rfl) (fun _ _ _ h => h) (YieldsG.pure (by rfl) (fun w9 _ => by go_simp; try with_reducible rfl)) ?_
      try simp only [Act.put, List.setIfInBounds_toArray, List.set_cons_zero, List.set_cons_succ]
      refine wpAnyG_take 4 rfl (by kernel_rfl) (fun _ _ _ h => h) (YieldsG.pure (by rfl) (fun w9 _ => by go_simp; try with_reducible rfl)) ?_
      try simp only [Act.put, List.setIfInBounds_toArray, List.set_cons_zero, List.set_cons_succ]
      refine wpAnyG_take 5 rfl (by kernel_rfl) (fun _ _ _ h => h) (YieldsG.pure (v := .int .u64 (y0 : Int)) (by rfl) (fun w9 h9 => by have hz := (Below.cell (p := ⟨w.heap.size + 2, 0, none⟩) h9 lY).trans py; go_simp; first | done | simp [hz])) ?_
      try simp only [Act.put, List.setIfInBounds_toArray, List.set_cons_zero, List.set_cons_succ]
      refine wpAnyG_take 6 rfl (by kernel_rfl) (fun _ _ _ h => h) (YieldsG.pure (by rfl) (fun w9 _ => by go_simp; try with_reducible rfl)) ?_
      try simp only [Act.put, List.setIfInBounds_toArray, List.set_cons_zero, List.set_cons_succ]
      refine wpAnyG_take 7 rfl (by kernel_rfl) (fun _ _ _ h => h) (YieldsG.pure (v := .tuple #[.int .u64 (s0 : Int), .int .u64 (c0 : Int)]) (by rfl) (fun w9 h9 => by go_simp)) ?_
      try simp only [Act.put, List.setIfInBounds_toArray, List.set_cons_zero, List.set_cons_succ]
      refine wpAnyG_take 8 rfl (by kernel_rfl) (fun _ _ _ h => h) (YieldsG.pure (by rfl) (fun w9 _ => by go_simp; try with_reducible rfl)) ?_
      try simp only [Act.put, List.setIfInBounds_toArray, List.set_cons_zero, List.set_cons_succ]
      refine wpAnyG_take 9 rfl (by kernel_rfl) (fun _ _ _ h => h) (YieldsG.pure (by rfl) (fun w9 _ => by go_simp; try with_reducible rfl)) ?_
      try simp only [Act.put, List.setIfInBounds_toArray, List.set_cons_zero, List.set_cons_succ]
      refine wpAnyG_take 10 rfl (by kernel_rfl) (fun _ _ _ h => h) (YieldsG.pure (by rfl) (fun w9 _ => by go_simp; try with_reducible rfl)) ?_
      try simp only [Act.put, List.setIfInBounds_toArray, List.set_cons_zero, List.set_cons_succ]
      refine wpAnyG_take 11 rfl (by kernel_rfl) (fun _ _ _ h => h) (YieldsG.pure (by rfl) (fun w9 _ => by go_simp; try with_reducible rfl)) ?_
      try simp only [Act.put, List.setIfInBounds_toArray, List.set_cons_zero, List.set_cons_succ]
      refine wpAnyG_take 12 rfl (by kernel_rfl) (fun _ _ _ h => h) (YieldsG.pure (by rfl) (fun w9 _ => by go_simp; try with_reducible rfl)) ?_
      try simp only [Act.put, List.setIfInBounds_toArray, List.set_cons_zero, List.set_cons_succ]
      refine wpAnyG_done (by kernel_rfl) (fun u hu => ?_)
      have BM := Gr.blk hu BM
      have BX := Gr.blk hu BX
      have BY := Gr.blk hu BY
      have BR := Gr.blk hu BR
      have BW := Gr.blk hu BW
      have hb := Below.gr hb hu
      have pc : u.cell? ⟨w.heap.size + 4, 0, none⟩ = some (.int .u64 0) := BW.cell 0
      have pf := BW.frozen 0
      clear hu px py
      go_wp2
      refine ⟨⟨hb.setCell (by show w.heap.size ≤ w.heap.size + 4; omega) _, BM.far (by show w.heap.size ≠ w.heap.size + 4; omega) _, BX.far (by show w.heap.size + 1 ≠ w.heap.size + 4; omega) _, BY.far (by show w.heap.size + 2 ≠ w.heap.size + 4; omega) _, BR.far (by show w.heap.size + 3 ≠ w.heap.size + 4; omega) _, Lib.hid (.inr (.inl (⟨rfl, rfl, BW.set_ 0 _⟩)))⟩, by decide⟩
    · clear HI
      have px : wr.cell? ⟨w.heap.size + 1, 1, none⟩ = some (.int .u64 (x1 : Int)) := BX.cell 1
      have py : wr.cell? ⟨w.heap.size + 2, 1, none⟩ = some (.int .u64 (y1 : Int)) := BY.cell 1
      go_wp2
      refine wp_region_G (fun _ => false) (by kernel_rfl) ?_
      try simp only [Act.put]
      refine wpAnyG_take 0 rfl (by kernel_rfl) (fun _ _ _ h => h) (YieldsG.pure (by rfl) (fun w9 _ => by go_simp; try with_reducible rfl)) ?_
      try simp only [Act.put, List.setIfInBounds_toArray, List.set_cons_zero, List.set_cons_succ]
      refine wpAnyG_take 1 rfl (by kernel_rfl) (fun _ _ _ h => h) (YieldsG.pure (by rfl) (fun w9 _ => by go_simp; try with_reducible rfl)) ?_
      try simp only [Act.put, List.setIfInBounds_toArray, List.set_cons_zero, List.set_cons_succ]
      refine wpAnyG_take 2 rfl (by kernel_rfl) (fun _ _ _ h => h) (YieldsG.pure (v := .int .u64 (x1 : Int)) (by rfl) (fun w9 h9 => by have hz := (Below.cell (p := ⟨w.heap.size + 1, 1, none⟩) h9 lX).trans px; go_simp; first | done | simp [hz])) ?_
      try simp only [Act.put, List.setIfInBounds_toArray, List.set_cons_zero, List.set_cons_succ]
      refine wpAnyG_take 3 rfl (by kernel_rfl) (fun _ _ _ h => h) (YieldsG.pure (by rfl) (fun w9 _ => by go_simp; try with_reducible rfl)) ?_
      try simp only [Act.put, List.setIfInBounds_toArray, List.set_cons_zero, List.set_cons_succ]
      refine wpAnyG_take 4 rfl (by kernel_rfl) (fun _ _ _ h => h) (YieldsG.pure (by rfl) (fun w9 _ => by go_simp; try with_reducible rfl)) ?_
      try simp only [Act.put, List.setIfInBounds_toArray, List.set_cons_zero, List.set_cons_succ]
      refine wpAnyG_take 5 rfl (by kernel_rfl) (fun _ _ _ h => h) (YieldsG.pure (v := .int .u64 (y1 : Int)) (by rfl) (fun w9 h9 => by have hz := (Below.cell (p := ⟨w.heap.size + 2, 1, none⟩) h9 lY).trans py; go_simp; first | done | simp [hz])) ?_
      try simp only [Act.put, List.setIfInBounds_toArray, List.set_cons_zero, List.set_cons_succ]
      refine wpAnyG_take 6 rfl (by kernel_rfl) (fun _ _ _ h => h) (YieldsG.pure (by rfl) (fun w9 _ => by go_simp; try with_reducible rfl)) ?_
      try simp only [Act.put, List.setIfInBounds_toArray, List.set_cons_zero, List.set_cons_succ]
      refine wpAnyG_take 7 rfl (by kernel_rfl) (fun _ _ _ h => h) (YieldsG.pure (v := .tuple #[.int .u64 (s1 : Int), .int .u64 (c1 : Int)]) (by rfl) (fun w9 h9 => by go_simp)) ?_
      try simp only [Act.put, List.setIfInBounds_toArray, List.set_cons_zero, List.set_cons_succ]
      refine wpAnyG_take 8 rfl (by kernel_rfl) (fun _ _ _ h => h) (YieldsG.pure (by rfl) (fun w9 _ => by go_simp; try with_reducible rfl)) ?_
      try simp only [Act.put, List.setIfInBounds_toArray, List.set_cons_zero, List.set_cons_succ]
      refine wpAnyG_take 9 rfl (by kernel_rfl) (fun _ _ _ h => h) (YieldsG.pure (by rfl) (fun w9 _ => by go_simp; try with_reducible rfl)) ?_
      try simp only [Act.put, List.setIfInBounds_toArray, List.set_cons_zero, List.set_cons_succ]
      refine wpAnyG_take 10 rfl (by kernel_rfl) (fun _ _ _ h => h) (YieldsG.pure (by rfl) (fun w9 _ => by go_simp; try with_reducible rfl)) ?_
      try simp only [Act.put, List.setIfInBounds_toArray, List.set_cons_zero, List.set_cons_succ]
      refine wpAnyG_take 11 rfl (by kernel_rfl) (fun _ _ _ h => h) (YieldsG.pure (by rfl) (fun w9 _ => by go_simp; try with_reducible rfl)) ?_
      try simp only [Act.put, List.setIfInBounds_toArray, List.set_cons_zero, List.set_cons_succ]
      refine wpAnyG_take 12 rfl (by kernel_rfl) (fun _ _ _ h => h) (YieldsG.pure (by rfl) (fun w9 _ => by go_simp; try with_reducible rfl)) ?_
      try simp only [Act.put, List.setIfInBounds_toArray, List.set_cons_zero, List.set_cons_succ]
      refine wpAnyG_done (by kernel_rfl) (fun u hu => ?_)
      have BM := Gr.blk hu BM
      have BX := Gr.blk hu BX
      have BY := Gr.blk hu BY
      have BR := Gr.blk hu BR
      have BW := Gr.blk hu BW
      have hb := Below.gr hb hu
      have pc : u.cell? ⟨w.heap.size + 4, 1, none⟩ = some (.int .u64 0) := BW.cell 1
      have pf := BW.frozen 1
      clear hu px py
      go_wp2
      refine ⟨⟨hb.setCell (by show w.heap.size ≤ w.heap.size + 4; omega) _, BM.far (by show w.heap.size ≠ w.heap.size + 4; omega) _, BX.far (by show w.heap.size + 1 ≠ w.heap.size + 4; omega) _, BY.far (by show w.heap.size + 2 ≠ w.heap.size + 4; omega) _, BR.far (by show w.heap.size + 3 ≠ w.heap.size + 4; omega) _, Lib.hid (.inr (.inr (.inl (⟨rfl, rfl, BW.set_ 1 _⟩))))⟩, by decide⟩
    · clear HI
      have px : wr.cell? ⟨w.heap.size + 1, 2, none⟩ = some (.int .u64 (x2 : Int)) := BX.cell 2
      have py : wr.cell? ⟨w.heap.size + 2, 2, none⟩ = some (.int .u64 (y2 : Int)) := BY.cell 2
      go_wp2
      refine wp_region_G (fun _ => false) (by kernel_rfl) ?_
      try simp only [Act.put]
      refine wpAnyG_take 0 rfl (by kernel_rfl) (fun _ _ _ h => h) (YieldsG.pure (by rfl) (fun w9 _ => by go_simp; try with_reducible rfl)) ?_
      try simp only [Act.put, List.setIfInBounds_toArray, List.set_cons_zero, List.set_cons_succ]
      refine wpAnyG_take 1 rfl (by kernel_rfl) (fun _ _ _ h => h) (YieldsG.pure (by rfl) (fun w9 _ => by go_simp; try with_reducible rfl)) ?_
      try simp only [Act.put, List.setIfInBounds_toArray, List.set_cons_zero, List.set_cons_succ]
      refine wpAnyG_take 2 rfl (by kernel_rfl) (fun _ _ _ h => h) (YieldsG.pure (v := .int .u64 (x2 : Int)) (by rfl) (fun w9 h9 => by have hz := (Below.cell (p := ⟨w.heap.size + 1, 2, none⟩) h9 lX).trans px; go_simp; first | done | simp [hz])) ?_
      try simp only [Act.put, List.setIfInBounds_toArray, List.set_cons_zero, List.set_cons_succ]
      refine wpAnyG_take 3 rfl (by kernel_rfl) (fun _ _ _ h => h) (YieldsG.pure (by rfl) (fun w9 _ => by go_simp; try with_reducible rfl)) ?_
      try simp only [Act.put, List.setIfInBounds_toArray, List.set_cons_zero, List.set_cons_succ]
      refine wpAnyG_take 4 rfl (by kernel_rfl) (fun _ _ _ h => h) (YieldsG.pure (by rfl) (fun w9 _ => by go_simp; try with_reducible rfl)) ?_
      try simp only [Act.put, List.setIfInBounds_toArray, List.set_cons_zero, List.set_cons_succ]
      refine wpAnyG_take 5 rfl (by kernel_rfl) (fun _ _ _ h => h) (YieldsG.pure (v := .int .u64 (y2 : Int)) (by rfl) (fun w9 h9 => by have hz := (Below.cell (p := ⟨w.heap.size + 2, 2, none⟩) h9 lY).trans py; go_simp; first | done | simp [hz])) ?_
      try simp only [Act.put, List.setIfInBounds_toArray, List.set_cons_zero, List.set_cons_succ]
      refine wpAnyG_take 6 rfl (by kernel_rfl) (fun _ _ _ h => h) (YieldsG.pure (by rfl) (fun w9 _ => by go_simp; try with_reducible rfl)) ?_
      try simp only [Act.put, List.setIfInBounds_toArray, List.set_cons_zero, List.set_cons_succ]
      refine wpAnyG_take 7 rfl (by kernel_rfl) (fun _ _ _ h => h) (YieldsG.pure (v := .tuple #[.int .u64 (s2 : Int), .int .u64 (c2 : Int)]) (by rfl) (fun w9 h9 => by go_simp)) ?_
      try simp only [Act.put, List.setIfInBounds_toArray, List.set_cons_zero, List.set_cons_succ]
      refine wpAnyG_take 8 rfl (by kernel_rfl) (fun _ _ _ h => h) (YieldsG.pure (by rfl) (fun w9 _ => by go_simp; try with_reducible rfl)) ?_
      try simp only [Act.put, List.setIfInBounds_toArray, List.set_cons_zero, List.set_cons_succ]
      refine wpAnyG_take 9 rfl (by kernel_rfl) (fun _ _ _ h => h) (YieldsG.pure (by rfl) (fun w9 _ => by go_simp; try with_reducible rfl)) ?_
      try simp only [Act.put, List.setIfInBounds_toArray, List.set_cons_zero, List.set_cons_succ]
      refine wpAnyG_take 10 rfl (by kernel_rfl) (fun _ _ _ h => h) (YieldsG.pure (by rfl) (fun w9 _ => by go_simp; try with_reducible rfl)) ?_
      try simp only [Act.put, List.setIfInBounds_toArray, List.set_cons_zero, List.set_cons_succ]
      refine wpAnyG_take 11 rfl (by kernel_rfl) (fun _ _ _ h => h) (YieldsG.pure (by rfl) (fun w9 _ => by go_simp; try with_reducible rfl)) ?_
      try simp only [Act.put, List.setIfInBounds_toArray, List.set_cons_zero, List.set_cons_succ]
      refine wpAnyG_take 12 rfl (by kernel_rfl) (fun _ _ _ h => h) (YieldsG.pure (by rfl) (fun w9 _ => by go_simp; try with_reducible rfl)) ?_
      try simp only [Act.put, List.setIfInBounds_toArray, List.set_cons_zero, List.set_cons_succ]
      refine wpAnyG_done (by kernel_rfl) (fun u hu => ?_)
      have BM := Gr.blk hu BM
      have BX := Gr.blk hu BX
      have BY := Gr.blk hu BY
      have BR := Gr.blk hu BR
      have BW := Gr.blk hu BW
      have hb := Below.gr hb hu
      have pc : u.cell? ⟨w.heap.size + 4, 2, none⟩ = some (.int .u64 0) := BW.cell 2
      have pf := BW.frozen 2
      clear hu px py
      go_wp2
      refine ⟨⟨hb.setCell (by show w.heap.size ≤ w.heap.size + 4; omega) _, BM.far (by show w.heap.size ≠ w.heap.size + 4; omega) _, BX.far (by show w.heap.size + 1 ≠ w.heap.size + 4; omega) _, BY.far (by show w.heap.size + 2 ≠ w.heap.size + 4; omega) _, BR.far (by show w.heap.size + 3 ≠ w.heap.size + 4; omega) _, Lib.hid (.inr (.inr (.inr (.inl (⟨rfl, rfl, BW.set_ 2 _⟩)))))⟩, by decide⟩
    · clear HI
      have px : wr.cell? ⟨w.heap.size + 1, 3, none⟩ = some (.int .u64 (x3 : Int)) := BX.cell 3
      have py : wr.cell? ⟨w.heap.size + 2, 3, none⟩ = some (.int .u64 (y3 : Int)) := BY.cell 3
      go_wp2
      refine wp_region_G (fun _ => false) (by kernel_rfl) ?_
      try simp only [Act.put]
      refine wpAnyG_take 0 rfl (by kernel_rfl) (fun _ _ _ h => h) (YieldsG.pure (by rfl) (fun w9 _ => by go_simp; try with_reducible rfl)) ?_
      try simp only [Act.put, List.setIfInBounds_toArray, List.set_cons_zero, List.set_cons_succ]
      refine wpAnyG_take 1 rfl (by kernel_rfl) (fun _ _ _ h => h) (YieldsG.pure (by rfl) (fun w9 _ => by go_simp; try with_reducible rfl)) ?_
      try simp only [Act.put, List.setIfInBounds_toArray, List.set_cons_zero, List.set_cons_succ]
      refine wpAnyG_take 2 rfl (by kernel_rfl) (fun _ _ _ h => h) (YieldsG.pure (v := .int .u64 (x3 : Int)) (by rfl) (fun w9 h9 => by have hz := (Below.cell (p := ⟨w.heap.size + 1, 3, none⟩) h9 lX).trans px; go_simp; first | done | simp [hz])) ?_
      try simp only [Act.put, List.setIfInBounds_toArray, List.set_cons_zero, List.set_cons_succ]
      refine wpAnyG_take 3 rfl (by kernel_rfl) (fun _ _ _ h => h) (YieldsG.pure (by rfl) (fun w9 _ => by go_simp; try with_reducible rfl)) ?_
      try simp only [Act.put, List.setIfInBounds_toArray, List.set_cons_zero, List.set_cons_succ]
      refine wpAnyG_take 4 rfl (by kernel_rfl) (fun _ _ _ h => h) (YieldsG.pure (by rfl) (fun w9 _ => by go_simp; try with_reducible rfl)) ?_
      try simp only [Act.put, List.setIfInBounds_toArray, List.set_cons_zero, List.set_cons_succ]
      refine wpAnyG_take 5 rfl (by kernel_rfl) (fun _ _ _ h => h) (YieldsG.pure (v := .int .u64 (y3 : Int)) (by rfl) (fun w9 h9 => by have hz := (Below.cell (p := ⟨w.heap.size + 2, 3, none⟩) h9 lY).trans py; go_simp; first | done | simp [hz])) ?_
      try simp only [Act.put, List.setIfInBounds_toArray, List.set_cons_zero, List.set_cons_succ]
      refine wpAnyG_take 6 rfl (by kernel_rfl) (fun _ _ _ h => h) (YieldsG.pure (by rfl) (fun w9 _ => by go_simp; try with_reducible rfl)) ?_
      try simp only [Act.put, List.setIfInBounds_toArray, List.set_cons_zero, List.set_cons_succ]
      refine wpAnyG_take 7 rfl (by kernel_rfl) (fun _ _ _ h => h) (YieldsG.pure (v := .tuple #[.int .u64 (s3 : Int), .int .u64 (c3 : Int)]) (by rfl) (fun w9 h9 => by go_simp)) ?_
      try simp only [Act.put, List.setIfInBounds_toArray, List.set_cons_zero, List.set_cons_succ]
      refine wpAnyG_take 8 rfl (by kernel_rfl) (fun _ _ _ h => h) (YieldsG.pure (by rfl) (fun w9 _ => by go_simp; try with_reducible rfl)) ?_
      try simp only [Act.put, List.setIfInBounds_toArray, List.set_cons_zero, List.set_cons_succ]
      refine wpAnyG_take 9 rfl (by kernel_rfl) (fun _ _ _ h => h) (YieldsG.pure (by rfl) (fun w9 _ => by go_simp; try with_reducible rfl)) ?_
      try simp only [Act.put, List.setIfInBounds_toArray, List.set_cons_zero, List.set_cons_succ]
      refine wpAnyG_take 10 rfl (by kernel_rfl) (fun _ _ _ h => h) (YieldsG.pure (by rfl) (fun w9 _ => by go_simp; try with_reducible rfl)) ?_
      try simp only [Act.put, List.setIfInBounds_toArray, List.set_cons_zero, List.set_cons_succ]
      refine wpAnyG_take 11 rfl (by kernel_rfl) (fun _ _ _ h => h) (YieldsG.pure (by rfl) (fun w9 _ => by go_simp; try with_reducible rfl)) ?_
      try simp only [Act.put, List.setIfInBounds_toArray, List.set_cons_zero, List.set_cons_succ]
      refine wpAnyG_take 12 rfl (by kernel_rfl) (fun _ _ _ h => h) (YieldsG.pure (by rfl) (fun w9 _ => by go_simp; try with_reducible rfl)) ?_
      try simp only [Act.put, List.setIfInBounds_toArray, List.set_cons_zero, List.set_cons_succ]
      refine wpAnyG_done (by kernel_rfl) (fun u hu => ?_)
      have BM := Gr.blk hu BM
      have BX := Gr.blk hu BX
      have BY := Gr.blk hu BY
      have BR := Gr.blk hu BR
      have BW := Gr.blk hu BW
      have hb := Below.gr hb hu
      have pc : u.cell? ⟨w.heap.size + 4, 3, none⟩ = some (.int .u64 0) := BW.cell 3
      have pf := BW.frozen 3
      clear hu px py
      go_wp2
      refine ⟨⟨hb.setCell (by show w.heap.size ≤ w.heap.size + 4; omega) _, BM.far (by show w.heap.size ≠ w.heap.size + 4; omega) _, BX.far (by show w.heap.size + 1 ≠ w.heap.size + 4; omega) _, BY.far (by show w.heap.size + 2 ≠ w.heap.size + 4; omega) _, BR.far (by show w.heap.size + 3 ≠ w.heap.size + 4; omega) _, Lib.hid (.inr (.inr (.inr (.inr (⟨rfl, rfl, BW.set_ 3 _⟩)))))⟩, by decide⟩
    · clear HI
      have pc : wr.cell? ⟨w.heap.size + 4, 4, none⟩ = some (.int .u64 0) := BW.cell 4
      have pf := BW.frozen 4
      have BM4 : Blk (wr.setCell ⟨w.heap.size + 4, 4, none⟩ (.int .u64 (c3 : Int))) w.heap.size 94 #[.int .u64 18446744069414583343, .int .u64 18446744073709551615, .int .u64 18446744073709551615, .int .u64 18446744073709551615, .int .u64 4294968273, .int .u64 0, .int .u64 0] := BM.far (by show w.heap.size ≠ w.heap.size + 4; omega) _
      have BW4 : Blk (wr.setCell ⟨w.heap.size + 4, 4, none⟩ (.int .u64 (c3 : Int))) (w.heap.size + 4) 160 #[.int .u64 (s0 : Int), .int .u64 (s1 : Int), .int .u64 (s2 : Int), .int .u64 (s3 : Int), .int .u64 (c3 : Int), .int .u64 0, .int .u64 0, .int .u64 0] := BW.set_ 4 _
      have BR4 : Blk (wr.setCell ⟨w.heap.size + 4, 4, none⟩ (.int .u64 (c3 : Int))) (w.heap.size + 3) 89 #[.int .u64 0, .int .u64 0, .int .u64 0, .int .u64 0] := BR.far (by show w.heap.size + 3 ≠ w.heap.size + 4; omega) _
      have hb4 : Below w.heap.size w (wr.setCell ⟨w.heap.size + 4, 4, none⟩ (.int .u64 (c3 : Int))) := hb.setCell (by show w.heap.size ≤ w.heap.size + 4; omega) _
      have H4 := Lib.hid (And.intro BM4 (And.intro BW4 (And.intro BR4 hb4)))
      clear BM BX BY BR BW hb BM4 BW4 BR4 hb4
      go_wp2_with (first | ((with_reducible refine here_load (d := some 33) ?_); refine wpList_load_blk rfl _ _ rfl w.heap.size rfl _ _ _ H4.out.1 Tryz.underlying94 rfl (by kernel_rfl) ?_) | ((with_reducible refine here_load (d := some 34) ?_); refine wpList_load_blk rfl _ _ rfl (w.heap.size + 4) rfl _ _ _ H4.out.2.1 Tryz.underlying160 rfl (by kernel_rfl) ?_))
      refine (cF _).mono ?_
      rintro e u ⟨rfl, hu⟩
      have BRu := Gr.blk hu H4.out.2.2.1
      have hbu := Below.gr H4.out.2.2.2 hu
      clear hu H4 cF
      go_wp2_with (first | ((with_reducible refine here_store ?_); refine wpList_store_blk rfl _ _ _ rfl (w.heap.size + 3) (fcs (z)) rfl rfl _ _ (BRu) (by kernel_rfl) (by rfl) (fcs_one _) ?_; intro w9 hL9 hB9 hK9))
      exact bodyPost_ret (results_cell_row rfl _ _ (w.heap.size + 3) _ _ (0, 0) _ rfl hL9 Tryz.underlying89 rfl (by kernel_rfl)) rfl ⟨rfl, hbu.trans (hB9 _ (by omega))⟩

set_option maxHeartbeats 2000000 in
set_option maxRecDepth 100000 in
theorem negR_any (w : World) (x : Nat) (hx : x < 115792089237316195423570985008687907853269984665640564039457584007913129639936) : Calls Tryz.prog 113 #[.agg #[.int .u64 18446744069414583343, .int .u64 18446744073709551615, .int .u64 18446744073709551615, .int .u64 18446744073709551615, .int .u64 4294968273, .int .u64 0, .int .u64 0], fv x] w fun e w' => e = .returned (fv (negP x)) ∧ Below w.heap.size w w' := by
  obtain ⟨n, hn⟩ : ∃ n, n = x % pM := ⟨_, rfl⟩
  have np : n < 115792089237316195423570985008687907853269984665640564039457584007908834671663 := by rw [hn]; exact mod_lt_p x
  obtain ⟨p, hp⟩ : ∃ p, p = 115792089237316195423570985008687907853269984665640564039457584007908834671663 := ⟨_, rfl⟩
  obtain ⟨q, hq⟩ : ∃ q, q = p - n := ⟨_, rfl⟩
  obtain ⟨g, hg⟩ : ∃ g, g = negP x := ⟨_, rfl⟩
  have hgq : q % pM = g := by rw [hg, negP, ← hn, hq, hp]; rfl
  have cN : ∀ w, Calls Tryz.prog 89 #[.agg #[.int .u64 18446744069414583343, .int .u64 18446744073709551615, .int .u64 18446744073709551615, .int .u64 18446744073709551615, .int .u64 4294968273, .int .u64 0, .int .u64 0], fv x] w fun e w' => e = .returned (fv n) ∧ Below w.heap.size w w' := by
    intro w; rw [hn]; exact normR_any w x hx
  have cM : ∀ w, Calls Tryz.prog 143 #[fv p, fv n] w fun e w' => e = .returned (fv q) ∧ Below w.heap.size w w' := fun w => minusR_at w p n q 0 rfl rfl (by omega) (by omega) (by omega) (by omega)
  have cG : ∀ w, Calls Tryz.prog 89 #[.agg #[.int .u64 18446744069414583343, .int .u64 18446744073709551615, .int .u64 18446744073709551615, .int .u64 18446744073709551615, .int .u64 4294968273, .int .u64 0, .int .u64 0], fv q] w fun e w' => e = .returned (fv g) ∧ Below w.heap.size w w' := by
    intro w; rw [← hgq]; exact normR_any w q (by omega)
  have FP : Hid (fv p = .agg #[.int .u64 18446744069414583343, .int .u64 18446744073709551615, .int .u64 18446744073709551615, .int .u64 18446744073709551615]) := Lib.hid (by rw [hp]; exact fv_P)
  obtain ⟨x0, x1, x2, x3, fx⟩ := words_fv x hx
  have FX := Lib.hid fx
  rw [fx, ← hg]
  clear fx hx hn np hp hq hg hgq
  go_enter Tryz.func113, Tryz.ntmps113
  go_wp2
  refine wp_region_G (fun j => j == 8) (by kernel_rfl) ?_
  try simp only [Act.put]
  refine wpAnyG_take 0 rfl (by kernel_rfl) (fun _ _ _ h => h) (YieldsG.load (by rfl) _ _ rfl w.heap.size 0 rfl ([.int .u64 18446744069414583343, .int .u64 18446744073709551615, .int .u64 18446744073709551615, .int .u64 18446744073709551615, .int .u64 4294968273, .int .u64 0, .int .u64 0]) _ (Blk.lt (((Blk.new w _ _).alloc _).alloc _)) (Blk.range (((Blk.new w _ _).alloc _).alloc _)) Tryz.underlying94 rfl (by kernel_rfl)) ?_
  try simp only [Act.put, List.setIfInBounds_toArray, List.set_cons_zero, List.set_cons_succ]
  refine wpAnyG_take 1 rfl (by kernel_rfl) (fun _ _ _ h => h) (YieldsG.pure (by rfl) (fun w9 _ => by go_simp; try with_reducible rfl)) ?_
  try simp only [Act.put, List.setIfInBounds_toArray, List.set_cons_zero, List.set_cons_succ]
  refine wpAnyG_take 2 rfl (by kernel_rfl) (fun _ _ _ h => h) (YieldsG.loadP (by rfl) _ _ rfl w.heap.size rfl p _ (Blk.lt (((Blk.new w _ _).alloc _).alloc _)) (mod_range (((Blk.new w _ _).alloc _).alloc _)) FP.out Tryz.underlying89 rfl (by kernel_rfl)) ?_
  try simp only [Act.put, List.setIfInBounds_toArray, List.set_cons_zero, List.set_cons_succ]
  refine wpAnyG_take 3 rfl (by kernel_rfl) (fun _ _ _ h => h) (YieldsG.load (by rfl) _ _ rfl w.heap.size 0 rfl ([.int .u64 18446744069414583343, .int .u64 18446744073709551615, .int .u64 18446744073709551615, .int .u64 18446744073709551615, .int .u64 4294968273, .int .u64 0, .int .u64 0]) _ (Blk.lt (((Blk.new w _ _).alloc _).alloc _)) (Blk.range (((Blk.new w _ _).alloc _).alloc _)) Tryz.underlying94 rfl (by kernel_rfl)) ?_
  try simp only [Act.put, List.setIfInBounds_toArray, List.set_cons_zero, List.set_cons_succ]
  refine wpAnyG_take 4 rfl (by kernel_rfl) (fun _ _ _ h => h) (YieldsG.loadF (by rfl) _ _ rfl (w.heap.size + 1) rfl (x) _ _ ((blk_new2 w _ _ _).alloc _) (FX.out) Tryz.underlying89 rfl (by kernel_rfl)) ?_
  try simp only [Act.put, List.setIfInBounds_toArray, List.set_cons_zero, List.set_cons_succ]
  refine wpAnyG_take 5 rfl (by kernel_rfl) (fun _ _ _ h => h) (YieldsG.call (v := fv n) (by rfl) 89 _ (fun w9 => by go_simp; try (first | with_reducible rfl | rfl)) (fun w9 h9 => cN w9)) ?_
  try simp only [Act.put, List.setIfInBounds_toArray, List.set_cons_zero, List.set_cons_succ]
  refine wpAnyG_take 6 rfl (by kernel_rfl) (fun _ _ _ h => h) (YieldsG.call (v := fv q) (by rfl) 143 _ (fun w9 => by go_simp; try (first | with_reducible rfl | rfl)) (fun w9 h9 => cM w9)) ?_
  try simp only [Act.put, List.setIfInBounds_toArray, List.set_cons_zero, List.set_cons_succ]
  refine wpAnyG_take 7 rfl (by kernel_rfl) (fun _ _ _ h => h) (YieldsG.call (v := fv g) (by rfl) 89 _ (fun w9 => by go_simp; try (first | with_reducible rfl | rfl)) (fun w9 h9 => cG w9)) ?_
  try simp only [Act.put, List.setIfInBounds_toArray, List.set_cons_zero, List.set_cons_succ]
  refine wpAnyG_store 8 rfl (by kernel_rfl) (by rfl) _ _ _ rfl (w.heap.size + 2) (fcs (g)) rfl rfl _ _ (blk_new3 w _ _ _ _) (by kernel_rfl) (by rfl) (fcs_one _) rfl (fun w6 h6 w7 hB7 hL7 => ?_)
  try simp only [Act.put]
  refine wpAnyG_done (by kernel_rfl) (fun w8 h8 => ?_)
  have hfin := Gr.blk h8 hL7
  have hb9 := (Below.gr (below_alloc3 w _ _ _) h6).trans ((hB7 _ (by omega)).trans (Below.mono h8 (by have := hL7.lt; omega)))
  go_wp2
  exact bodyPost_ret (results_cell_row rfl _ _ (w.heap.size + 2) _ _ (0, 0) _ rfl hfin Tryz.underlying89 rfl (by kernel_rfl)) rfl ⟨rfl, hb9⟩

theorem sub_is (x y : Nat) : addP x (negP y) = subP x y := by
  unfold addP negP subP
  rw [Nat.add_mod_mod]
set_option maxHeartbeats 2000000 in
set_option maxRecDepth 100000 in
theorem subR_any (w : World) (x y : Nat) (hx : x < 115792089237316195423570985008687907853269984665640564039457584007913129639936) (hy : y < 115792089237316195423570985008687907853269984665640564039457584007913129639936) : Calls Tryz.prog 146 #[.agg #[.int .u64 18446744069414583343, .int .u64 18446744073709551615, .int .u64 18446744073709551615, .int .u64 18446744073709551615, .int .u64 4294968273, .int .u64 0, .int .u64 0], fv x, fv y] w fun e w' => e = .returned (fv (subP x y)) ∧ Below w.heap.size w w' := by
  obtain ⟨g, hg⟩ : ∃ g, g = negP y := ⟨_, rfl⟩
  obtain ⟨z, hz⟩ : ∃ z, z = subP x y := ⟨_, rfl⟩
  have cG : ∀ w, Calls Tryz.prog 113 #[.agg #[.int .u64 18446744069414583343, .int .u64 18446744073709551615, .int .u64 18446744073709551615, .int .u64 18446744073709551615, .int .u64 4294968273, .int .u64 0, .int .u64 0], fv y] w fun e w' => e = .returned (fv g) ∧ Below w.heap.size w w' := by
    intro w; rw [hg]; exact negR_any w y hy
  have cA : ∀ w, Calls Tryz.prog 75 #[.agg #[.int .u64 18446744069414583343, .int .u64 18446744073709551615, .int .u64 18446744073709551615, .int .u64 18446744073709551615, .int .u64 4294968273, .int .u64 0, .int .u64 0], fv x, fv g] w fun e w' => e = .returned (fv z) ∧ Below w.heap.size w w' := by
    intro w; rw [hz, ← sub_is, ← hg]; exact addR_any w x g hx (by rw [hg]; exact negP_lt _)
  obtain ⟨x0, x1, x2, x3, fx⟩ := words_fv x hx
  obtain ⟨y0, y1, y2, y3, fy⟩ := words_fv y hy
  have FX := Lib.hid fx
  have FY := Lib.hid fy
  rw [fx, fy, ← hz]
  clear fx fy hx hy hg hz
  go_enter Tryz.func146, Tryz.ntmps146
  go_wp2
  refine wp_region_G (fun j => j == 6) (by kernel_rfl) ?_
  try simp only [Act.put]
  refine wpAnyG_take 0 rfl (by kernel_rfl) (fun _ _ _ h => h) (YieldsG.load (by rfl) _ _ rfl w.heap.size 0 rfl ([.int .u64 18446744069414583343, .int .u64 18446744073709551615, .int .u64 18446744073709551615, .int .u64 18446744073709551615, .int .u64 4294968273, .int .u64 0, .int .u64 0]) _ (Blk.lt ((((Blk.new w _ _).alloc _).alloc _).alloc _)) (Blk.range ((((Blk.new w _ _).alloc _).alloc _).alloc _)) Tryz.underlying94 rfl (by kernel_rfl)) ?_
  try simp only [Act.put, List.setIfInBounds_toArray, List.set_cons_zero, List.set_cons_succ]
  refine wpAnyG_take 1 rfl (by kernel_rfl) (fun _ _ _ h => h) (YieldsG.loadF (by rfl) _ _ rfl (w.heap.size + 1) rfl (x) _ _ (((blk_new2 w _ _ _).alloc _).alloc _) (FX.out) Tryz.underlying89 rfl (by kernel_rfl)) ?_
  try simp only [Act.put, List.setIfInBounds_toArray, List.set_cons_zero, List.set_cons_succ]
  refine wpAnyG_take 2 rfl (by kernel_rfl) (fun _ _ _ h => h) (YieldsG.load (by rfl) _ _ rfl w.heap.size 0 rfl ([.int .u64 18446744069414583343, .int .u64 18446744073709551615, .int .u64 18446744073709551615, .int .u64 18446744073709551615, .int .u64 4294968273, .int .u64 0, .int .u64 0]) _ (Blk.lt ((((Blk.new w _ _).alloc _).alloc _).alloc _)) (Blk.range ((((Blk.new w _ _).alloc _).alloc _).alloc _)) Tryz.underlying94 rfl (by kernel_rfl)) ?_
  try simp only [Act.put, List.setIfInBounds_toArray, List.set_cons_zero, List.set_cons_succ]
  refine wpAnyG_take 3 rfl (by kernel_rfl) (fun _ _ _ h => h) (YieldsG.loadF (by rfl) _ _ rfl (w.heap.size + 2) rfl (y) _ _ ((blk_new3 w _ _ _ _).alloc _) (FY.out) Tryz.underlying89 rfl (by kernel_rfl)) ?_
  try simp only [Act.put, List.setIfInBounds_toArray, List.set_cons_zero, List.set_cons_succ]
  refine wpAnyG_take 4 rfl (by kernel_rfl) (fun _ _ _ h => h) (YieldsG.call (v := fv g) (by rfl) 113 _ (fun w9 => by go_simp; try (first | with_reducible rfl | rfl)) (fun w9 h9 => cG w9)) ?_
  try simp only [Act.put, List.setIfInBounds_toArray, List.set_cons_zero, List.set_cons_succ]
  refine wpAnyG_take 5 rfl (by kernel_rfl) (fun _ _ _ h => h) (YieldsG.call (v := fv z) (by rfl) 75 _ (fun w9 => by go_simp; try (first | with_reducible rfl | rfl)) (fun w9 h9 => cA w9)) ?_
  try simp only [Act.put, List.setIfInBounds_toArray, List.set_cons_zero, List.set_cons_succ]
  refine wpAnyG_store 6 rfl (by kernel_rfl) (by rfl) _ _ _ rfl (w.heap.size + 3) (fcs (z)) rfl rfl _ _ (blk_new4 w _ _ _ _ _) (by kernel_rfl) (by rfl) (fcs_one _) rfl (fun w6 h6 w7 hB7 hL7 => ?_)
  try simp only [Act.put]
  refine wpAnyG_done (by kernel_rfl) (fun w8 h8 => ?_)
  have hfin := Gr.blk h8 hL7
  have hb9 := (Below.gr (below_alloc4 w _ _ _ _) h6).trans ((hB7 _ (by omega)).trans (Below.mono h8 (by have := hL7.lt; omega)))
  go_wp2
  exact bodyPost_ret (results_cell_row rfl _ _ (w.heap.size + 3) _ _ (0, 0) _ rfl hfin Tryz.underlying89 rfl (by kernel_rfl)) rfl ⟨rfl, hb9⟩
end Go.Proofs.YtbofhoonlmikcaaGreatDoor

end
section
namespace Go.Proofs.YtbofhoonlmikcaaGreatDoor.Fz
open Go.RowKit Go.Lib Go.Proofs.YtbofhoonlmikcaaGreatDoor Go.Proofs.YtbofhoonlmikcaaGreatDoor.Sy

theorem outerM {x y i c : Nat} {y1 z : Nat → Nat} (h1 : vR y1 8 = vR (wd x) i * vR (wd y) 4) (h2 : vR z 8 + c * 18446744073709551616 ^ (i + 4) = vR y1 8 + wd x i * vR (wd y) 4 * 18446744073709551616 ^ i) (h3 : z (i + 4) = 0) (hi : i < 4) : vR (upd z (i + 4) c) 8 = vR (wd x) (i + 1) * vR (wd y) 4 := by
  have h4 := vR_upd z (i + 4) c 8 (by omega)
  rw [h3, Nat.zero_mul, Nat.add_zero] at h4
  show _ = (vR (wd x) i + wd x i * _) * _
  rw [h4, h2, h1]
  grind
theorem wd4 {x : Nat} (hx : x < 115792089237316195423570985008687907853269984665640564039457584007913129639936) : vR (wd x) 4 = x := by
  rw [wd_all]
  exact Nat.mod_eq_of_lt hx
set_option maxHeartbeats 4000000 in
set_option maxRecDepth 100000 in
theorem mulZ (w : World) (M : Nat) (lw : Nat → Nat) (hlw : ∀ t, lw t < 18446744073709551616) (hM0 : 0 < M) (hM : M + vR lw 3 = 18446744073709551616 ^ 4) (hnorm : ∀ w x, x < 115792089237316195423570985008687907853269984665640564039457584007913129639936 → Calls Tryz.prog 89 #[.agg (modc M lw), fv x] w (Gets w (fv (x % M)))) (x y : Nat) (hx : x < 115792089237316195423570985008687907853269984665640564039457584007913129639936) (hy : y < 115792089237316195423570985008687907853269984665640564039457584007913129639936) : Calls Tryz.prog 101 #[.agg (modc M lw), fv x, fv y] w (Gets w (fv (x * y % M))) := by
  refine Sy.enter (args := [.agg (modc M lw), fv x, fv y]) Tryz.func101 rfl kL ?_
  refine sC ?_
  refine sM 94 (modc M lw) (fun g0 => ?_)
  refine sM 89 (fcs x) (fun g1 => ?_)
  refine sM 89 (fcs y) (fun g2 => ?_)
  refine sM 89 (fcs 0) (fun g3 => ?_)
  refine sA ?_
  refine Sy.make kR 160 (rw8 (fun _ => 0)) ptr kF (fun g4 => ?_)
  refine sG ?_
  refine Sy.seq ?_
  refine sC ?_
  refine sP (.int .i64 0) ?_
  refine sG ?_
  refine Sy.block ?_
  refine Sy.loopX (T := Nat → Nat) 4 (fun k1 y1 => [(3, .pointer (some ⟨g0, 0, none⟩)), (4, .pointer (some ⟨g1, 0, none⟩)), (5, .pointer (some ⟨g2, 0, none⟩)), (6, .pointer (some ⟨g3, 0, none⟩)), (7, .pointer (some ⟨g4, 0, none⟩)), (8, .int .i64 ((k1 : Nat) : Int))]) (fun k1 y1 => [(g0, 94, (modc M lw)), (g1, 89, (fcs x)), (g2, 89, (fcs y)), (g3, 89, (fcs 0)), (g4, 160, (rw8 y1))]) (fun k1 y1 => (∀ t, y1 t < 18446744073709551616) ∧ vR y1 8 = vR (wd x) k1 * vR (wd y) 4 ∧ ∀ t, k1 + 4 ≤ t → y1 t = 0) (fun _ => 0) [true, true, true, true, true] (⟨fun _ => by show (0 : Nat) < 18446744073709551616; decide, by rw [vR_zero]; exact (Nat.zero_mul _).symm, fun _ _ => rfl⟩) (all_cons kR (all_cons kR (all_cons kR (all_cons kR (all_cons kR (all_cons kR all_nil)))))) kR (fun k1 y1 hk1 hh1 => ?_)
  refine Sy.seq ?_
  refine sC ?_
  refine sP (.int .i64 ((k1 : Nat) : Int)) ?_
  obtain ⟨b1, hb1⟩ : ∃ z : Bool, z = decide (k1 < 4) := ⟨_, rfl⟩
  refine sS (.bool b1) (Quiet.pure (exec_int .lss _ _ _ .i64 _ _ _ rfl rfl rfl (int_lss _ _ _ _ _ (by rw [hb1]; exact decide_eq_decide.2 (by omega))))) ?_
  refine sG ?_
  cases b1
  · have lb1 : ¬ (k1 < 4) := of_decide_eq_false hb1.symm
    refine sU ?_
    refine Sy.exit ?_
    refine Sy.then_exit ?_
    refine Sy.then_exit ?_
    obtain rfl : k1 = 4 := by omega
    refine Sy.in_exit ?_
    refine sB ?_
    refine sS (.agg (modc M lw)) (qL 0 g0 0 7 94 94 (modc M lw) rfl Tryz.underlying94) <| sS (.agg (rw8 y1)) (Quiet.load 4 g4 0 8 160 160 (rw8 y1) _ _ rfl kR kR Tryz.underlying160 rfl kR _ kR kL) <| sS (fv (vR y1 8 % M)) (qF 124 #[.agg (modc M lw), .agg (rw8 y1)] (fun w => foldZ w M lw hlw hM0 hM hnorm y1 hh1.1)) <| sW 3 g3 89 (fcs 0) (fcs (vR y1 8 % M)) (wS 0 89 (fcs (vR y1 8 % M)) rfl) ?_
    refine sG ?_
    refine Sy.ret ?_
    rw [show (fv (x * y % M) : Value) = fv (vR y1 8 % M) from by rw [hh1.2.1, wd4 hx, wd4 hy]]
    exact rC (v := fv (vR y1 8 % M)) 89 g3 3 (fcs (vR y1 8 % M)) rfl Tryz.underlying89
  · have lb1 : k1 < 4 := of_decide_eq_true hb1.symm
    refine sT ?_
    refine Sy.skip ?_
    refine Sy.then_ ?_
    refine Sy.seq ?_
    refine Sy.block ?_
    refine sC ?_
    refine sP (.int .u64 0) ?_
    refine sG ?_
    refine Sy.seq ?_
    refine sC ?_
    refine sP (.int .i64 0) ?_
    refine sG ?_
    refine Sy.block ?_
    refine Sy.loopX (T := (Nat → Nat) × Nat) 4 (fun k2 y2 => [(3, .pointer (some ⟨g0, 0, none⟩)), (4, .pointer (some ⟨g1, 0, none⟩)), (5, .pointer (some ⟨g2, 0, none⟩)), (6, .pointer (some ⟨g3, 0, none⟩)), (7, .pointer (some ⟨g4, 0, none⟩)), (8, .int .i64 ((k1 : Nat) : Int)), (9, .int .u64 ((y2.2 : Nat) : Int)), (10, .int .i64 ((k2 : Nat) : Int))]) (fun k2 y2 => [(g0, 94, (modc M lw)), (g1, 89, (fcs x)), (g2, 89, (fcs y)), (g3, 89, (fcs 0)), (g4, 160, (rw8 y2.1))]) (fun k2 y2 => (∀ t, y2.1 t < 18446744073709551616) ∧ y2.2 < 18446744073709551616 ∧ vR y2.1 8 + y2.2 * 18446744073709551616 ^ (k1 + k2) = vR y1 8 + wd x k1 * vR (wd y) k2 * 18446744073709551616 ^ k1 ∧ ∀ t, k1 + 4 ≤ t → y2.1 t = 0) (y1, 0) [true, true, true, true, true] (⟨hh1.1, by show (0 : Nat) < 18446744073709551616; decide, by show vR y1 8 + 0 * _ = _ + _ * 0 * _; omega, hh1.2.2⟩) (all_cons kR (all_cons kR (all_cons kR (all_cons kR (all_cons kR (all_cons kR (all_cons kR (all_cons kR all_nil)))))))) kR (fun k2 y2 hk2 hh2 => ?_)
    refine Sy.seq ?_
    refine sC ?_
    refine sP (.int .i64 ((k2 : Nat) : Int)) ?_
    obtain ⟨b2, hb2⟩ : ∃ z : Bool, z = decide (k2 < 4) := ⟨_, rfl⟩
    refine sS (.bool b2) (Quiet.pure (exec_int .lss _ _ _ .i64 _ _ _ rfl rfl rfl (int_lss _ _ _ _ _ (by rw [hb2]; exact decide_eq_decide.2 (by omega))))) ?_
    refine sG ?_
    cases b2
    · have lb2 : ¬ (k2 < 4) := of_decide_eq_false hb2.symm
      refine sU ?_
      refine Sy.exit ?_
      refine Sy.then_exit ?_
      refine Sy.then_exit ?_
      obtain rfl : k2 = 4 := by omega
      refine Sy.in_exit ?_
      refine Sy.then_ ?_
      refine Sy.region ?_
      refine sP (.int .i64 ((k1 : Nat) : Int)) <| sS (.int .i64 ((k1 + 4 : Nat) : Int)) (Quiet.pure (exec_int .add _ _ _ .i64 _ _ _ rfl rfl rfl (int_add _ _ _ _ _ ((wrap_i64 (by omega) (by omega)).trans (by omega))))) <| sP (.int .u64 ((y2.2 : Nat) : Int)) <| sS (.pointer (some ⟨g4, 0 + (k1 + 4) * 1, none⟩)) (Quiet.pure (exec_atA 160 _ _ _ g4 0 _ (k1 + 4) 1 .i64 rfl rfl rfl Tryz.underlying160 kF (by omega))) ?_
      refine Sy.write kR 4 g4 160 (rw8 y2.1) (rw8 (upd y2.1 (k1 + 4) y2.2)) kR (Writes.one (0 + (k1 + 4) * 1) 22 (.int .u64 ((y2.2 : Nat) : Int)) _ _ rfl kR kR kR rfl rfl (rw8_fit _ (k := k1 + 4) (by omega) (by omega)) (rw8_set _ _ (by omega) (by omega))) ?_
      refine Sy.nil ?_
      refine Sy.in_ ?_
      refine Sy.then_ ?_
      refine Sy.region ?_
      refine sP (.int .i64 ((k1 : Nat) : Int)) <| sS (.int .i64 ((k1 + 1 : Nat) : Int)) (Quiet.pure (exec_int .add _ _ _ .i64 _ _ _ rfl rfl rfl (int_add _ _ _ _ _ ((wrap_i64 (by omega) (by omega)).trans (by omega))))) <| sP (.int .i64 ((k1 + 1 : Nat) : Int)) ?_
      refine Sy.nil ?_
      have hq := outerM hh1.2.1 hh2.2.2.1 (hh2.2.2.2 _ (Nat.le_refl _)) (by omega)
      exact Sy.againX (upd y2.1 (k1 + 4) y2.2) [true, true, true, true, true] (by omega) (⟨upd_lt hh2.1 hh2.2.1, hq, fun t ht => (upd_ne (by omega)).trans (hh2.2.2.2 t (by omega))⟩) (all_cons kR (all_cons kR (all_cons kR (all_cons kR (all_cons kR (all_cons kR all_nil)))))) kR
    · have lb2 : k2 < 4 := of_decide_eq_true hb2.symm
      refine sT ?_
      refine Sy.skip ?_
      refine Sy.then_ ?_
      refine Sy.seq ?_
      refine Sy.block ?_
      refine Sy.seq ?_
      refine Sy.regionD (fun j => false) kR ?_
      refine sZ 0 rfl (.int .i64 ((k1 : Nat) : Int)) <| sD 1 rfl (.pointer (some ⟨g1, 0 + k1 * 1, none⟩)) (Quiet.pure (exec_atA 89 _ _ _ g1 0 _ k1 1 .i64 rfl rfl rfl Tryz.underlying89 kF (by omega))) <| sD 2 rfl (.int .u64 ((wd x k1 : Nat) : Int)) (Quiet.cell 1 g1 (0 + k1 * 1) 89 22 (fcs x) _ _ rfl kR kR Tryz.underlying22 rfl _ (fcs_at x (k := k1) (by omega) (by omega))) <| sZ 3 rfl (.int .i64 ((k2 : Nat) : Int)) <| sD 4 rfl (.pointer (some ⟨g2, 0 + k2 * 1, none⟩)) (Quiet.pure (exec_atA 89 _ _ _ g2 0 _ k2 1 .i64 rfl rfl rfl Tryz.underlying89 kF (by omega))) <| sD 5 rfl (.int .u64 ((wd y k2 : Nat) : Int)) (Quiet.cell 2 g2 (0 + k2 * 1) 89 22 (fcs y) _ _ rfl kR kR Tryz.underlying22 rfl _ (fcs_at y (k := k2) (by omega) (by omega))) ?_
      obtain ⟨hi1, lo1, llo1, elo1⟩ := two_words (wd x k1) (wd y k2)
      refine sD 6 rfl (.tuple #[.int .u64 ((hi1 : Nat) : Int), .int .u64 ((lo1 : Nat) : Int)]) (qF 149 #[.int .u64 ((wd x k1 : Nat) : Int), .int .u64 ((wd y k2 : Nat) : Int)] (fun w => mulZ_any w (wd x k1) (wd y k2) hi1 lo1 (by first | assumption | exact wd_lt _ _ | exact hh1.1 _ | exact hh2.1 _ | exact hh2.2.1 | decide) (by first | assumption | exact wd_lt _ _ | exact hh1.1 _ | exact hh2.1 _ | exact hh2.2.1 | decide) llo1 elo1)) <| sZ 7 rfl (.tuple #[.int .u64 ((hi1 : Nat) : Int), .int .u64 ((lo1 : Nat) : Int)]) <| sZ 8 rfl (.int .u64 ((hi1 : Nat) : Int)) <| sZ 9 rfl (.int .u64 ((lo1 : Nat) : Int)) <| sZ 10 rfl (.int .u64 ((hi1 : Nat) : Int)) <| sZ 11 rfl (.int .u64 ((lo1 : Nat) : Int)) ?_
      refine sE ?_
      refine sB ?_
      refine sP (.int .u64 ((lo1 : Nat) : Int)) <| sP (.int .i64 ((k1 : Nat) : Int)) <| sP (.int .i64 ((k2 : Nat) : Int)) <| sS (.int .i64 ((k1 + k2 : Nat) : Int)) (Quiet.pure (exec_int .add _ _ _ .i64 _ _ _ rfl rfl rfl (int_add _ _ _ _ _ ((wrap_i64 (by omega) (by omega)).trans (by omega))))) <| sS (.pointer (some ⟨g4, 0 + (k1 + k2) * 1, none⟩)) (Quiet.pure (exec_atA 160 _ _ _ g4 0 _ (k1 + k2) 1 .i64 rfl rfl rfl Tryz.underlying160 kF (by omega))) <| sS (.int .u64 ((y2.1 (k1 + k2) : Nat) : Int)) (Quiet.cell 4 g4 (0 + (k1 + k2) * 1) 160 22 (rw8 y2.1) _ _ rfl kR kR Tryz.underlying22 rfl _ (rw8_at y2.1 (k := k1 + k2) (by omega) (by omega))) ?_
      obtain ⟨x1, c1, lx1, lc1, ex1, rx1⟩ := add0_ex (lo1) (y2.1 (k1 + k2)) (by first | assumption | exact wd_lt _ _ | exact hh1.1 _ | exact hh2.1 _ | exact hh2.2.1 | decide) (by first | assumption | exact wd_lt _ _ | exact hh1.1 _ | exact hh2.1 _ | exact hh2.2.1 | decide)
      refine sS (.tuple #[.int .u64 ((x1 : Nat) : Int), .int .u64 ((c1 : Nat) : Int)]) (Quiet.pure (fun w => Eq.trans kR (rx1 w))) <| sP (.tuple #[.int .u64 ((x1 : Nat) : Int), .int .u64 ((c1 : Nat) : Int)]) <| sP (.int .u64 ((x1 : Nat) : Int)) <| sP (.int .u64 ((c1 : Nat) : Int)) <| sP (.int .u64 ((x1 : Nat) : Int)) <| sP (.int .u64 ((c1 : Nat) : Int)) ?_
      refine sA ?_
      refine sP (.int .u64 ((x1 : Nat) : Int)) <| sP (.int .u64 ((y2.2 : Nat) : Int)) ?_
      obtain ⟨x2, c2, lx2, lc2, ex2, rx2⟩ := add0_ex (x1) (y2.2) (by first | assumption | exact wd_lt _ _ | exact hh1.1 _ | exact hh2.1 _ | exact hh2.2.1 | decide) (by first | assumption | exact wd_lt _ _ | exact hh1.1 _ | exact hh2.1 _ | exact hh2.2.1 | decide)
      refine sS (.tuple #[.int .u64 ((x2 : Nat) : Int), .int .u64 ((c2 : Nat) : Int)]) (Quiet.pure (fun w => Eq.trans kR (rx2 w))) <| sP (.tuple #[.int .u64 ((x2 : Nat) : Int), .int .u64 ((c2 : Nat) : Int)]) <| sP (.int .u64 ((x2 : Nat) : Int)) <| sP (.int .u64 ((c2 : Nat) : Int)) <| sP (.int .u64 ((x2 : Nat) : Int)) <| sP (.int .u64 ((c2 : Nat) : Int)) ?_
      refine sA ?_
      refine sP (.int .i64 ((k1 : Nat) : Int)) <| sP (.int .i64 ((k2 : Nat) : Int)) <| sS (.int .i64 ((k1 + k2 : Nat) : Int)) (Quiet.pure (exec_int .add _ _ _ .i64 _ _ _ rfl rfl rfl (int_add _ _ _ _ _ ((wrap_i64 (by omega) (by omega)).trans (by omega))))) <| sP (.int .u64 ((x2 : Nat) : Int)) <| sS (.pointer (some ⟨g4, 0 + (k1 + k2) * 1, none⟩)) (Quiet.pure (exec_atA 160 _ _ _ g4 0 _ (k1 + k2) 1 .i64 rfl rfl rfl Tryz.underlying160 kF (by omega))) ?_
      refine Sy.write kR 4 g4 160 (rw8 y2.1) (rw8 (upd y2.1 (k1 + k2) x2)) kR (Writes.one (0 + (k1 + k2) * 1) 22 (.int .u64 ((x2 : Nat) : Int)) _ _ rfl kR kR kR rfl rfl (rw8_fit _ (k := k1 + k2) (by omega) (by omega)) (rw8_set _ _ (by omega) (by omega))) ?_
      refine sG ?_
      refine Sy.region ?_
      refine sP (.int .u64 ((hi1 : Nat) : Int)) <| sP (.int .u64 ((c1 : Nat) : Int)) ?_
      have hst := stepZ elo1 ex1 ex2
      have hcar := carryZ hst (by first | assumption | exact wd_lt _ _ | exact hh1.1 _ | exact hh2.1 _ | exact hh2.2.1 | decide) (by first | assumption | exact wd_lt _ _ | exact hh1.1 _ | exact hh2.1 _ | exact hh2.2.1 | decide) (by first | assumption | exact wd_lt _ _ | exact hh1.1 _ | exact hh2.1 _ | exact hh2.2.1 | decide) hh2.2.1
      refine sS (.int .u64 ((hi1 + c1 : Nat) : Int)) (Quiet.pure (exec_int .add _ _ _ .u64 _ _ _ rfl rfl rfl (int_add _ _ _ _ _ ((wrap_u64 (by omega) (by omega)).trans (by omega))))) <| sP (.int .u64 ((c2 : Nat) : Int)) <| sS (.int .u64 (((hi1 + c1) + c2 : Nat) : Int)) (Quiet.pure (exec_int .add _ _ _ .u64 _ _ _ rfl rfl rfl (int_add _ _ _ _ _ ((wrap_u64 (by omega) (by omega)).trans (by omega))))) <| sP (.int .u64 (((hi1 + c1) + c2 : Nat) : Int)) ?_
      refine Sy.nil ?_
      refine Sy.in_ ?_
      refine Sy.then_ ?_
      refine Sy.region ?_
      refine sP (.int .i64 ((k2 : Nat) : Int)) <| sS (.int .i64 ((k2 + 1 : Nat) : Int)) (Quiet.pure (exec_int .add _ _ _ .i64 _ _ _ rfl rfl rfl (int_add _ _ _ _ _ ((wrap_i64 (by omega) (by omega)).trans (by omega))))) <| sP (.int .i64 ((k2 + 1 : Nat) : Int)) ?_
      refine Sy.nil ?_
      have hin := innerZ (vR_upd y2.1 (k1 + k2) x2 8 (by omega)) hh2.2.2.1 hst (P0 := 18446744073709551616 ^ k2) (by rw [Nat.add_comm, Nat.pow_add])
      exact Sy.againX ((upd y2.1 (k1 + k2) x2, hi1 + c1 + c2)) [true, true, true, true, true] (by omega) (⟨upd_lt hh2.1 lx2, hcar, by rw [← Nat.add_assoc, Nat.pow_succ]; exact hin, fun t ht => (upd_ne (by omega)).trans (hh2.2.2.2 t ht)⟩) (all_cons kR (all_cons kR (all_cons kR (all_cons kR (all_cons kR (all_cons kR (all_cons kR (all_cons kR all_nil)))))))) kR
end Go.Proofs.YtbofhoonlmikcaaGreatDoor.Fz

end
section
namespace Go.Proofs.YtbofhoonlmikcaaGreatDoor
open Go.RowKit Go.Lib Go.Proofs.YtbofhoonlmikcaaGreatDoor

theorem mulR_any (w : World) (x y : Nat) (hx : x < 115792089237316195423570985008687907853269984665640564039457584007913129639936) (hy : y < 115792089237316195423570985008687907853269984665640564039457584007913129639936) : Calls Tryz.prog 101 #[.agg #[.int .u64 18446744069414583343, .int .u64 18446744073709551615, .int .u64 18446744073709551615, .int .u64 18446744073709551615, .int .u64 4294968273, .int .u64 0, .int .u64 0], fv x, fv y] w fun e w' => e = .returned (fv (mulP x y)) ∧ Below w.heap.size w w' := by
  have h := Fz.mulZ w pM lackW lackW_lt pM_pos0 lack_sum (fun w x hx => by rw [mod_row]; exact normR_any w x hx) x y hx hy
  rw [mod_row] at h
  exact h
end Go.Proofs.YtbofhoonlmikcaaGreatDoor

end
section
namespace Go.Proofs.YtbofhoonlmikcaaGreatDoor
open Go.RowKit Go.Lib

def pw (x e : Nat) : Nat := x ^ e % pM
theorem pw_lt (x e : Nat) : pw x e < 115792089237316195423570985008687907853269984665640564039457584007913129639936 := mod_lt _
theorem pw_zero (x : Nat) : pw x 0 = 1 := by unfold pw; rw [Nat.pow_zero]; decide
theorem pw_sq (x e : Nat) : mulP (pw x e) (pw x e) = pw x (2 * e) := by
  unfold mulP pw
  rw [← Nat.mul_mod, ← Nat.pow_add, Nat.two_mul]
theorem pw_mul (x e : Nat) : mulP (pw x e) x = pw x (e + 1) := by
  unfold mulP pw
  rw [Nat.mod_mul_mod, Nat.pow_succ]
theorem div_word2 (a r s : Nat) (hs : s ≤ 63) : (a + 18446744073709551616 * r) / 2 ^ s % 2 = a / 2 ^ s % 2 := by
  obtain ⟨u, hu⟩ : ∃ u, 2 ^ s * (2 * u) = 18446744073709551616 := by
    refine ⟨2 ^ (63 - s), ?_⟩
    have : 2 ^ s * 2 ^ (63 - s) = 2 ^ 63 := by rw [← Nat.pow_add]; congr 1; omega
    rw [show (2 : Nat) * 2 ^ (63 - s) = 2 ^ (63 - s) * 2 from Nat.mul_comm _ _, ← Nat.mul_assoc, this]
  rw [← hu, Nat.mul_assoc, Nat.add_mul_div_left _ _ (Nat.two_pow_pos s), Nat.mul_assoc, Nat.add_mul_mod_self_left]
theorem next_digit (e i s w r : Nat) (hz : e / 2 ^ (64 * i) = w + 18446744073709551616 * r) (hs : s ≤ 63) : e / 2 ^ (64 * i + s) = 2 * (e / 2 ^ (64 * i + (s + 1))) + w / 2 ^ s % 2 := by
  have h1 : e / 2 ^ (64 * i + s) % 2 = w / 2 ^ s % 2 := by
    rw [Nat.pow_add, ← Nat.div_div_eq_div_mul, hz, div_word2 w r s hs]
  have h2 : e / 2 ^ (64 * i + (s + 1)) = e / 2 ^ (64 * i + s) / 2 := by
    rw [← Nat.add_assoc, Nat.pow_succ, Nat.div_div_eq_div_mul]
  rw [h2, ← h1]
  omega
theorem and_bit (a s : Nat) (ha : a < 18446744073709551616) (hs : s ≤ 63) : ∃ m : Nat, bits .and .u64 (a : Int) ((2 ^ s : Nat) : Int) = (m : Int) ∧ (m = 0 ↔ a / 2 ^ s % 2 = 0) := by
  have h2 : 2 ^ s < 18446744073709551616 := by
    have : 2 ^ s ≤ 2 ^ 63 := Nat.pow_le_pow_right (by omega) hs
    omega
  refine ⟨a &&& 2 ^ s, bits_and_u64_nat a (2 ^ s) ha h2, ?_⟩
  have hb : a.testBit s = decide (a / 2 ^ s % 2 = 1) := Nat.testBit_eq_decide_div_mod_eq
  constructor
  · intro h
    have h2 : (a &&& 2 ^ s).testBit s = false := by rw [h]; simp
    rw [Nat.testBit_and, Nat.testBit_two_pow_self, Bool.and_true, hb] at h2
    have h3 : ¬ a / 2 ^ s % 2 = 1 := by simpa using h2
    omega
  · intro h
    have h2 : a.testBit s = false := by rw [hb]; simp; omega
    refine Nat.eq_of_testBit_eq fun j => ?_
    rw [Nat.testBit_and, Nat.zero_testBit, Nat.testBit_two_pow]
    by_cases hj : s = j
    · subst hj; simp [h2]
    · simp [hj]

theorem small_at (w : World) (n : Nat) (di : Int) (hdi : di = (n : Int)) (hn : n < 18446744073709551616) : Calls Tryz.prog 144 #[.int .u64 di] w fun e w' => e = .returned (fv n) ∧ Below w.heap.size w w' := by
  subst hdi
  rw [fv_small n hn]
  go_enter Tryz.func144, Tryz.ntmps144
  go_wp2
  exact bodyPost_ret (results_cell_row rfl _ _ w.heap.size _ _ (0, 0) _ rfl (heap_alloc_new w _) Tryz.underlying89 rfl (by kernel_rfl)) rfl ⟨rfl, (Below.refl _ _).alloc (Nat.le_refl _) _⟩

set_option maxHeartbeats 16000000 in
set_option maxRecDepth 100000 in
theorem power_any (w : World) (x e : Nat) (hx : x < 115792089237316195423570985008687907853269984665640564039457584007913129639936) (he : e < 115792089237316195423570985008687907853269984665640564039457584007913129639936) : Calls Tryz.prog 145 #[.agg #[.int .u64 18446744069414583343, .int .u64 18446744073709551615, .int .u64 18446744073709551615, .int .u64 18446744073709551615, .int .u64 4294968273, .int .u64 0, .int .u64 0], fv x, fv e] w fun ee w' => ee = .returned (fv (pw x e)) ∧ Below w.heap.size w w' := by
  obtain ⟨x0, x1, x2, x3, fx⟩ := words_fv x hx
  obtain ⟨e0, e1, e2, e3, b0, b1, b2, b3, ee, fe⟩ := words_of e he
  have n0 := fun s hs => next_digit e 0 s e0 (e1 + 18446744073709551616 * e2 + 340282366920938463463374607431768211456 * e3) (by omega) hs
  have n1 := fun s hs => next_digit e 1 s e1 (e2 + 18446744073709551616 * e3) (by omega) hs
  have n2 := fun s hs => next_digit e 2 s e2 e3 (by omega) hs
  have n3 := fun s hs => next_digit e 3 s e3 0 (by omega) hs
  have h256 : e / 2 ^ 256 = 0 := by omega
  have HN := Lib.hid (And.intro n0 (And.intro n1 (And.intro n2 n3)))
  have HB := Lib.hid (And.intro b0 (And.intro b1 (And.intro b2 b3)))
  have H0 := Lib.hid h256
  have FX := Lib.hid fx
  have HX := Lib.hid hx
  rw [fx, fe]
  clear fx fe ee hx he b0 b1 b2 b3 n0 n1 n2 n3 h256
  go_enter Tryz.func145, Tryz.ntmps145
  go_wp2_with fail
  obtain ⟨one, h1⟩ : ∃ one, one = 1 := ⟨_, rfl⟩
  refine (small_at _ one 1 (by rw [h1]; rfl) (by omega)).mono ?_
  rintro ez w1 ⟨rfl, g1⟩
  have BM : Blk w1 w.heap.size 94 #[.int .u64 18446744069414583343, .int .u64 18446744073709551615, .int .u64 18446744073709551615, .int .u64 18446744073709551615, .int .u64 4294968273, .int .u64 0, .int .u64 0] := Gr.blk g1 (((((Blk.new w _ _).alloc _).alloc _).alloc _))
  have BX : Blk w1 (w.heap.size + 1) 89 #[.int .u64 (x0 : Int), .int .u64 (x1 : Int), .int .u64 (x2 : Int), .int .u64 (x3 : Int)] := Gr.blk g1 ((((blk_new2 w _ _ _).alloc _).alloc _))
  have BE : Blk w1 (w.heap.size + 2) 89 #[.int .u64 (e0 : Int), .int .u64 (e1 : Int), .int .u64 (e2 : Int), .int .u64 (e3 : Int)] := Gr.blk g1 ((blk_new3 w _ _ _ _).alloc _)
  have BR : Blk w1 (w.heap.size + 3) 89 #[.int .u64 0, .int .u64 0, .int .u64 0, .int .u64 0] := Gr.blk g1 (blk_new4 w _ _ _ _ _)
  have hB := Below.gr (below_alloc4 w _ _ _ _) g1
  have sz : w.heap.size + 3 < w1.heap.size := BR.lt
  have H1 := Lib.hid h1
  clear g1 h1
  go_wp2_with (first | ((with_reducible refine here_store ?_); refine wpList_store_blk rfl _ _ _ rfl (w1.heap.size) (fcs (one)) rfl rfl _ _ (Blk.new w1 _ _) (by kernel_rfl) (by rfl) (fcs_one _) ?_; intro w2 hL2 hq2 hK2; have KM := hK2 _ (by omega) _ _ (BM.alloc _); have KX := hK2 _ (by omega) _ _ (BX.alloc _); have KE := hK2 _ (by omega) _ _ (BE.alloc _); have KR := hK2 _ (by omega) _ _ (BR.alloc _); have hB2 := (hB.alloc (by omega) _).trans (hq2 _ (by omega))))
  go_loopw [8] (fun i wr => Below w.heap.size w wr ∧ Blk wr w.heap.size 94 #[.int .u64 18446744069414583343, .int .u64 18446744073709551615, .int .u64 18446744073709551615, .int .u64 18446744073709551615, .int .u64 4294968273, .int .u64 0, .int .u64 0] ∧ Blk wr (w.heap.size + 1) 89 #[.int .u64 (x0 : Int), .int .u64 (x1 : Int), .int .u64 (x2 : Int), .int .u64 (x3 : Int)] ∧ Blk wr (w.heap.size + 2) 89 #[.int .u64 (e0 : Int), .int .u64 (e1 : Int), .int .u64 (e2 : Int), .int .u64 (e3 : Int)] ∧ Blk wr (w.heap.size + 3) 89 #[.int .u64 0, .int .u64 0, .int .u64 0, .int .u64 0] ∧ Hid ((i = .int .i64 3 ∧ Blk wr w1.heap.size 89 (fcs (pw x (e / 2 ^ 256)))) ∨ (i = .int .i64 2 ∧ Blk wr w1.heap.size 89 (fcs (pw x (e / 2 ^ 192)))) ∨ (i = .int .i64 1 ∧ Blk wr w1.heap.size 89 (fcs (pw x (e / 2 ^ 128)))) ∨ (i = .int .i64 0 ∧ Blk wr w1.heap.size 89 (fcs (pw x (e / 2 ^ 64)))) ∨ (i = .int .i64 (-1) ∧ Blk wr w1.heap.size 89 (fcs (pw x (e / 2 ^ 0)))))) (fun i _ => (intOf i + 1).toNat)
  case atStart => exact ⟨hB2, KM, KX, KE, KR, Lib.hid (.inl ⟨rfl, Blk.eq_ hL2 (by rw [H0.out, pw_zero, H1.out])⟩)⟩
  case round =>
    obtain ⟨hb, BM, BX, BE, BR, HI⟩ := hrel
    rcases HI.out with ⟨rfl, BP⟩ | ⟨rfl, BP⟩ | ⟨rfl, BP⟩ | ⟨rfl, BP⟩ | ⟨rfl, BP⟩
    · clear HI
      go_wp2_with fail
      go_loopw [9] (fun bt wr => ∃ t : Nat, t ≤ 64 ∧ bt = .int .u64 ((2 ^ t / 2 : Nat) : Int) ∧ Below w.heap.size w wr ∧ Blk wr w.heap.size 94 #[.int .u64 18446744069414583343, .int .u64 18446744073709551615, .int .u64 18446744073709551615, .int .u64 18446744073709551615, .int .u64 4294968273, .int .u64 0, .int .u64 0] ∧ Blk wr (w.heap.size + 1) 89 #[.int .u64 (x0 : Int), .int .u64 (x1 : Int), .int .u64 (x2 : Int), .int .u64 (x3 : Int)] ∧ Blk wr (w.heap.size + 2) 89 #[.int .u64 (e0 : Int), .int .u64 (e1 : Int), .int .u64 (e2 : Int), .int .u64 (e3 : Int)] ∧ Blk wr (w.heap.size + 3) 89 #[.int .u64 0, .int .u64 0, .int .u64 0, .int .u64 0] ∧ Blk wr w1.heap.size 89 (fcs (pw x (e / 2 ^ (64 * 3 + t))))) (fun bt _ => (intOf bt).toNat)
      case atStart => exact ⟨64, by omega, rfl, hb, BM, BX, BE, BR, BP⟩
      case round =>
        clear hb BM BX BE BR BP
        obtain ⟨t, ht, rfl, hb, BM, BX, BE, BR, BP⟩ := hrel
        by_cases h0 : t = 0
        · subst h0
          go_wp2
          refine ⟨⟨hb, BM, BX, BE, BR, Lib.hid (.inr (.inl (⟨rfl, BP⟩)))⟩, by decide⟩
        · obtain ⟨s, hs⟩ : ∃ s, t = s + 1 := ⟨t - 1, by omega⟩
          subst hs
          have hbt : 2 ^ (s + 1) / 2 = 2 ^ s := by rw [Nat.pow_succ]; omega
          rw [hbt]
          obtain ⟨bt, hbe⟩ : ∃ bt, bt = 2 ^ s := ⟨_, rfl⟩
          have hpos : 0 < bt := by rw [hbe]; exact Nat.two_pow_pos s
          have hblt : bt < 18446744073709551616 := by
            have h63 : 2 ^ s ≤ 2 ^ 63 := Nat.pow_le_pow_right (by omega) (by omega)
            rw [hbe]
            omega
          have hhalf : bt / 2 = 2 ^ s / 2 := by rw [hbe]
          obtain ⟨m, hm, hmz⟩ := and_bit e3 s HB.out.2.2.2 (by omega)
          rw [← hbe] at hm
          have hd := HN.out.2.2.2 s (by omega)
          obtain ⟨r, hr⟩ : ∃ r, r = pw x (e / 2 ^ (64 * 3 + (s + 1))) := ⟨_, rfl⟩
          obtain ⟨q, hq⟩ : ∃ q, q = mulP r r := ⟨_, rfl⟩
          obtain ⟨v, hv⟩ : ∃ v, v = mulP q x := ⟨_, rfl⟩
          have hq2 : q = pw x (2 * (e / 2 ^ (64 * 3 + (s + 1)))) := by rw [hq, hr, pw_sq]
          have lr : r < 115792089237316195423570985008687907853269984665640564039457584007913129639936 := by rw [hr]; exact pw_lt _ _
          have lq : q < 115792089237316195423570985008687907853269984665640564039457584007913129639936 := by rw [hq]; exact mulP_lt _ _
          have cS : ∀ w, Calls Tryz.prog 101 #[.agg #[.int .u64 18446744069414583343, .int .u64 18446744073709551615, .int .u64 18446744073709551615, .int .u64 18446744073709551615, .int .u64 4294968273, .int .u64 0, .int .u64 0], fv r, fv r] w fun e w' => e = .returned (fv q) ∧ Below w.heap.size w w' := by
            intro w; rw [hq]; exact mulR_any w r r lr lr
          have cX : ∀ w, Calls Tryz.prog 101 #[.agg #[.int .u64 18446744069414583343, .int .u64 18446744073709551615, .int .u64 18446744073709551615, .int .u64 18446744073709551615, .int .u64 4294968273, .int .u64 0, .int .u64 0], fv q, fv x] w fun e w' => e = .returned (fv v) ∧ Below w.heap.size w w' := by
            intro w; rw [hv]; exact mulR_any w q x lq HX.out
          have hend0 : m = 0 → q = pw x (e / 2 ^ (64 * 3 + s)) := fun h => by
            rw [hq2, hd, hmz.1 h]; rfl
          have hend1 : m ≠ 0 → v = pw x (e / 2 ^ (64 * 3 + s)) := fun h => by
            have hb1 : e3 / 2 ^ s % 2 = 1 := by have := mt hmz.2 h; omega
            rw [hv, hq2, pw_mul, hd, hb1]
          have HE := Lib.hid (And.intro hend0 (And.intro hend1 (And.intro hhalf hbe)))
          rw [← hr] at BP
          have hgt : (bt : Int) > 0 := by omega
          rw [← hbe]
          clear hr hq hv hq2 lr lq hend0 hend1 hhalf hbe hd hmz hbt
          go_wp2_with (first | ((with_reducible refine here_load (d := some 19) ?_); refine wpList_load_blk rfl _ _ rfl w.heap.size rfl _ _ _ (BM) Tryz.underlying94 rfl (by kernel_rfl) ?_) | ((with_reducible refine here_load (d := some 20) ?_); refine wpList_load_fv rfl _ _ rfl (w1.heap.size) rfl (r) _ _ _ (BP) (fv_fcs r) Tryz.underlying89 rfl (by kernel_rfl) ?_) | ((with_reducible refine here_load (d := some 21) ?_); refine wpList_load_fv rfl _ _ rfl (w1.heap.size) rfl (r) _ _ _ (BP) (fv_fcs r) Tryz.underlying89 rfl (by kernel_rfl) ?_))
          refine (cS _).mono ?_
          rintro ez u ⟨rfl, gu⟩
          have EM := Gr.blk gu BM
          have EX := Gr.blk gu BX
          have EE := Gr.blk gu BE
          have ER := Gr.blk gu BR
          have EP := Gr.blk gu BP
          have hbu := Below.gr hb gu
          clear gu cS BM BX BE BR BP hb
          have lu := EP.lt
          by_cases hm0 : m = 0
          · have hq0 := Lib.hid (HE.out.1 hm0)
            subst hm0
            clear cX
            go_wp2_with (first | ((with_reducible refine here_store ?_); refine wpList_store_blk rfl _ _ _ rfl (w1.heap.size) (fcs (q)) rfl rfl _ _ (EP) (by kernel_rfl) (by rfl) (fcs_one _) ?_; intro uz hLz hqz hKz; have FM := hKz _ (by omega) _ _ EM; have FXx := hKz _ (by omega) _ _ EX; have FE_ := hKz _ (by omega) _ _ EE; have FR := hKz _ (by omega) _ _ ER; have hbz := hbu.trans (hqz _ (by omega)); have pc : uz.cell? ⟨w.heap.size + 2, 3, none⟩ = some (.int .u64 (e3 : Int)) := FE_.cell 3))
            go_roundw
            case rel => exact ⟨s, by omega, by rw [← HE.out.2.2.1]; congr 1 <;> omega, hbz, FM, FXx, FE_, FR, Blk.eq_ hLz (by rw [hq0.out])⟩
            case measure => simp [intOf]; omega
          · have hq1 := Lib.hid (HE.out.2.1 hm0)
            have hmi : ¬ (m : Int) = 0 := by omega
            go_wp2_with (first | ((with_reducible refine here_store ?_); refine wpList_store_blk rfl _ _ _ rfl (w1.heap.size) (fcs (q)) rfl rfl _ _ (EP) (by kernel_rfl) (by rfl) (fcs_one _) ?_; intro uz hLz hqz hKz; have FM := hKz _ (by omega) _ _ EM; have FXx := hKz _ (by omega) _ _ EX; have FE_ := hKz _ (by omega) _ _ EE; have FR := hKz _ (by omega) _ _ ER; have hbz := hbu.trans (hqz _ (by omega)); have pc : uz.cell? ⟨w.heap.size + 2, 3, none⟩ = some (.int .u64 (e3 : Int)) := FE_.cell 3) | ((with_reducible refine here_load (d := some 29) ?_); refine wpList_load_blk rfl _ _ rfl w.heap.size rfl _ _ _ (FM) Tryz.underlying94 rfl (by kernel_rfl) ?_) | ((with_reducible refine here_load (d := some 30) ?_); refine wpList_load_fv rfl _ _ rfl (w1.heap.size) rfl (q) _ _ _ (hLz) (fv_fcs q) Tryz.underlying89 rfl (by kernel_rfl) ?_) | ((with_reducible refine here_load (d := some 31) ?_); refine wpList_load_fv rfl _ _ rfl (w.heap.size + 1) rfl (x) _ _ _ (FXx) (FX.out) Tryz.underlying89 rfl (by kernel_rfl) ?_))
            refine (cX _).mono ?_
            rintro ez u2 ⟨rfl, gu⟩
            have GM := Gr.blk gu FM
            have GX := Gr.blk gu FXx
            have GE := Gr.blk gu FE_
            have GR := Gr.blk gu FR
            have GP := Gr.blk gu hLz
            have hbg := Below.gr hbz gu
            clear gu cX FM FXx FE_ FR hbz
            go_wp2_with (first | ((with_reducible refine here_store ?_); refine wpList_store_blk rfl _ _ _ rfl (w1.heap.size) (fcs (v)) rfl rfl _ _ (GP) (by kernel_rfl) (by rfl) (fcs_one _) ?_; intro uy hLy hqy hKy; have JM := hKy _ (by omega) _ _ GM; have JX := hKy _ (by omega) _ _ GX; have JE := hKy _ (by omega) _ _ GE; have JR := hKy _ (by omega) _ _ GR; have hby := hbg.trans (hqy _ (by omega))))
            go_roundw
            case rel => exact ⟨s, by omega, by rw [← HE.out.2.2.1]; congr 1 <;> omega, hby, JM, JX, JE, JR, Blk.eq_ hLy (by rw [hq1.out])⟩
            case measure => simp [intOf]; omega
    · clear HI
      go_wp2_with fail
      go_loopw [9] (fun bt wr => ∃ t : Nat, t ≤ 64 ∧ bt = .int .u64 ((2 ^ t / 2 : Nat) : Int) ∧ Below w.heap.size w wr ∧ Blk wr w.heap.size 94 #[.int .u64 18446744069414583343, .int .u64 18446744073709551615, .int .u64 18446744073709551615, .int .u64 18446744073709551615, .int .u64 4294968273, .int .u64 0, .int .u64 0] ∧ Blk wr (w.heap.size + 1) 89 #[.int .u64 (x0 : Int), .int .u64 (x1 : Int), .int .u64 (x2 : Int), .int .u64 (x3 : Int)] ∧ Blk wr (w.heap.size + 2) 89 #[.int .u64 (e0 : Int), .int .u64 (e1 : Int), .int .u64 (e2 : Int), .int .u64 (e3 : Int)] ∧ Blk wr (w.heap.size + 3) 89 #[.int .u64 0, .int .u64 0, .int .u64 0, .int .u64 0] ∧ Blk wr w1.heap.size 89 (fcs (pw x (e / 2 ^ (64 * 2 + t))))) (fun bt _ => (intOf bt).toNat)
      case atStart => exact ⟨64, by omega, rfl, hb, BM, BX, BE, BR, BP⟩
      case round =>
        clear hb BM BX BE BR BP
        obtain ⟨t, ht, rfl, hb, BM, BX, BE, BR, BP⟩ := hrel
        by_cases h0 : t = 0
        · subst h0
          go_wp2
          refine ⟨⟨hb, BM, BX, BE, BR, Lib.hid (.inr (.inr (.inl (⟨rfl, BP⟩))))⟩, by decide⟩
        · obtain ⟨s, hs⟩ : ∃ s, t = s + 1 := ⟨t - 1, by omega⟩
          subst hs
          have hbt : 2 ^ (s + 1) / 2 = 2 ^ s := by rw [Nat.pow_succ]; omega
          rw [hbt]
          obtain ⟨bt, hbe⟩ : ∃ bt, bt = 2 ^ s := ⟨_, rfl⟩
          have hpos : 0 < bt := by rw [hbe]; exact Nat.two_pow_pos s
          have hblt : bt < 18446744073709551616 := by
            have h63 : 2 ^ s ≤ 2 ^ 63 := Nat.pow_le_pow_right (by omega) (by omega)
            rw [hbe]
            omega
          have hhalf : bt / 2 = 2 ^ s / 2 := by rw [hbe]
          obtain ⟨m, hm, hmz⟩ := and_bit e2 s HB.out.2.2.1 (by omega)
          rw [← hbe] at hm
          have hd := HN.out.2.2.1 s (by omega)
          obtain ⟨r, hr⟩ : ∃ r, r = pw x (e / 2 ^ (64 * 2 + (s + 1))) := ⟨_, rfl⟩
          obtain ⟨q, hq⟩ : ∃ q, q = mulP r r := ⟨_, rfl⟩
          obtain ⟨v, hv⟩ : ∃ v, v = mulP q x := ⟨_, rfl⟩
          have hq2 : q = pw x (2 * (e / 2 ^ (64 * 2 + (s + 1)))) := by rw [hq, hr, pw_sq]
          have lr : r < 115792089237316195423570985008687907853269984665640564039457584007913129639936 := by rw [hr]; exact pw_lt _ _
          have lq : q < 115792089237316195423570985008687907853269984665640564039457584007913129639936 := by rw [hq]; exact mulP_lt _ _
          have cS : ∀ w, Calls Tryz.prog 101 #[.agg #[.int .u64 18446744069414583343, .int .u64 18446744073709551615, .int .u64 18446744073709551615, .int .u64 18446744073709551615, .int .u64 4294968273, .int .u64 0, .int .u64 0], fv r, fv r] w fun e w' => e = .returned (fv q) ∧ Below w.heap.size w w' := by
            intro w; rw [hq]; exact mulR_any w r r lr lr
          have cX : ∀ w, Calls Tryz.prog 101 #[.agg #[.int .u64 18446744069414583343, .int .u64 18446744073709551615, .int .u64 18446744073709551615, .int .u64 18446744073709551615, .int .u64 4294968273, .int .u64 0, .int .u64 0], fv q, fv x] w fun e w' => e = .returned (fv v) ∧ Below w.heap.size w w' := by
            intro w; rw [hv]; exact mulR_any w q x lq HX.out
          have hend0 : m = 0 → q = pw x (e / 2 ^ (64 * 2 + s)) := fun h => by
            rw [hq2, hd, hmz.1 h]; rfl
          have hend1 : m ≠ 0 → v = pw x (e / 2 ^ (64 * 2 + s)) := fun h => by
            have hb1 : e2 / 2 ^ s % 2 = 1 := by have := mt hmz.2 h; omega
            rw [hv, hq2, pw_mul, hd, hb1]
          have HE := Lib.hid (And.intro hend0 (And.intro hend1 (And.intro hhalf hbe)))
          rw [← hr] at BP
          have hgt : (bt : Int) > 0 := by omega
          rw [← hbe]
          clear hr hq hv hq2 lr lq hend0 hend1 hhalf hbe hd hmz hbt
          go_wp2_with (first | ((with_reducible refine here_load (d := some 19) ?_); refine wpList_load_blk rfl _ _ rfl w.heap.size rfl _ _ _ (BM) Tryz.underlying94 rfl (by kernel_rfl) ?_) | ((with_reducible refine here_load (d := some 20) ?_); refine wpList_load_fv rfl _ _ rfl (w1.heap.size) rfl (r) _ _ _ (BP) (fv_fcs r) Tryz.underlying89 rfl (by kernel_rfl) ?_) | ((with_reducible refine here_load (d := some 21) ?_); refine wpList_load_fv rfl _ _ rfl (w1.heap.size) rfl (r) _ _ _ (BP) (fv_fcs r) Tryz.underlying89 rfl (by kernel_rfl) ?_))
          refine (cS _).mono ?_
          rintro ez u ⟨rfl, gu⟩
          have EM := Gr.blk gu BM
          have EX := Gr.blk gu BX
          have EE := Gr.blk gu BE
          have ER := Gr.blk gu BR
          have EP := Gr.blk gu BP
          have hbu := Below.gr hb gu
          clear gu cS BM BX BE BR BP hb
          have lu := EP.lt
          by_cases hm0 : m = 0
          · have hq0 := Lib.hid (HE.out.1 hm0)
            subst hm0
            clear cX
            go_wp2_with (first | ((with_reducible refine here_store ?_); refine wpList_store_blk rfl _ _ _ rfl (w1.heap.size) (fcs (q)) rfl rfl _ _ (EP) (by kernel_rfl) (by rfl) (fcs_one _) ?_; intro uz hLz hqz hKz; have FM := hKz _ (by omega) _ _ EM; have FXx := hKz _ (by omega) _ _ EX; have FE_ := hKz _ (by omega) _ _ EE; have FR := hKz _ (by omega) _ _ ER; have hbz := hbu.trans (hqz _ (by omega)); have pc : uz.cell? ⟨w.heap.size + 2, 2, none⟩ = some (.int .u64 (e2 : Int)) := FE_.cell 2))
            go_roundw
            case rel => exact ⟨s, by omega, by rw [← HE.out.2.2.1]; congr 1 <;> omega, hbz, FM, FXx, FE_, FR, Blk.eq_ hLz (by rw [hq0.out])⟩
            case measure => simp [intOf]; omega
          · have hq1 := Lib.hid (HE.out.2.1 hm0)
            have hmi : ¬ (m : Int) = 0 := by omega
            go_wp2_with (first | ((with_reducible refine here_store ?_); refine wpList_store_blk rfl _ _ _ rfl (w1.heap.size) (fcs (q)) rfl rfl _ _ (EP) (by kernel_rfl) (by rfl) (fcs_one _) ?_; intro uz hLz hqz hKz; have FM := hKz _ (by omega) _ _ EM; have FXx := hKz _ (by omega) _ _ EX; have FE_ := hKz _ (by omega) _ _ EE; have FR := hKz _ (by omega) _ _ ER; have hbz := hbu.trans (hqz _ (by omega)); have pc : uz.cell? ⟨w.heap.size + 2, 2, none⟩ = some (.int .u64 (e2 : Int)) := FE_.cell 2) | ((with_reducible refine here_load (d := some 29) ?_); refine wpList_load_blk rfl _ _ rfl w.heap.size rfl _ _ _ (FM) Tryz.underlying94 rfl (by kernel_rfl) ?_) | ((with_reducible refine here_load (d := some 30) ?_); refine wpList_load_fv rfl _ _ rfl (w1.heap.size) rfl (q) _ _ _ (hLz) (fv_fcs q) Tryz.underlying89 rfl (by kernel_rfl) ?_) | ((with_reducible refine here_load (d := some 31) ?_); refine wpList_load_fv rfl _ _ rfl (w.heap.size + 1) rfl (x) _ _ _ (FXx) (FX.out) Tryz.underlying89 rfl (by kernel_rfl) ?_))
            refine (cX _).mono ?_
            rintro ez u2 ⟨rfl, gu⟩
            have GM := Gr.blk gu FM
            have GX := Gr.blk gu FXx
            have GE := Gr.blk gu FE_
            have GR := Gr.blk gu FR
            have GP := Gr.blk gu hLz
            have hbg := Below.gr hbz gu
            clear gu cX FM FXx FE_ FR hbz
            go_wp2_with (first | ((with_reducible refine here_store ?_); refine wpList_store_blk rfl _ _ _ rfl (w1.heap.size) (fcs (v)) rfl rfl _ _ (GP) (by kernel_rfl) (by rfl) (fcs_one _) ?_; intro uy hLy hqy hKy; have JM := hKy _ (by omega) _ _ GM; have JX := hKy _ (by omega) _ _ GX; have JE := hKy _ (by omega) _ _ GE; have JR := hKy _ (by omega) _ _ GR; have hby := hbg.trans (hqy _ (by omega))))
            go_roundw
            case rel => exact ⟨s, by omega, by rw [← HE.out.2.2.1]; congr 1 <;> omega, hby, JM, JX, JE, JR, Blk.eq_ hLy (by rw [hq1.out])⟩
            case measure => simp [intOf]; omega
    · clear HI
      go_wp2_with fail
      go_loopw [9] (fun bt wr => ∃ t : Nat, t ≤ 64 ∧ bt = .int .u64 ((2 ^ t / 2 : Nat) : Int) ∧ Below w.heap.size w wr ∧ Blk wr w.heap.size 94 #[.int .u64 18446744069414583343, .int .u64 18446744073709551615, .int .u64 18446744073709551615, .int .u64 18446744073709551615, .int .u64 4294968273, .int .u64 0, .int .u64 0] ∧ Blk wr (w.heap.size + 1) 89 #[.int .u64 (x0 : Int), .int .u64 (x1 : Int), .int .u64 (x2 : Int), .int .u64 (x3 : Int)] ∧ Blk wr (w.heap.size + 2) 89 #[.int .u64 (e0 : Int), .int .u64 (e1 : Int), .int .u64 (e2 : Int), .int .u64 (e3 : Int)] ∧ Blk wr (w.heap.size + 3) 89 #[.int .u64 0, .int .u64 0, .int .u64 0, .int .u64 0] ∧ Blk wr w1.heap.size 89 (fcs (pw x (e / 2 ^ (64 * 1 + t))))) (fun bt _ => (intOf bt).toNat)
      case atStart => exact ⟨64, by omega, rfl, hb, BM, BX, BE, BR, BP⟩
      case round =>
        clear hb BM BX BE BR BP
        obtain ⟨t, ht, rfl, hb, BM, BX, BE, BR, BP⟩ := hrel
        by_cases h0 : t = 0
        · subst h0
          go_wp2
          refine ⟨⟨hb, BM, BX, BE, BR, Lib.hid (.inr (.inr (.inr (.inl (⟨rfl, BP⟩)))))⟩, by decide⟩
        · obtain ⟨s, hs⟩ : ∃ s, t = s + 1 := ⟨t - 1, by omega⟩
          subst hs
          have hbt : 2 ^ (s + 1) / 2 = 2 ^ s := by rw [Nat.pow_succ]; omega
          rw [hbt]
          obtain ⟨bt, hbe⟩ : ∃ bt, bt = 2 ^ s := ⟨_, rfl⟩
          have hpos : 0 < bt := by rw [hbe]; exact Nat.two_pow_pos s
          have hblt : bt < 18446744073709551616 := by
            have h63 : 2 ^ s ≤ 2 ^ 63 := Nat.pow_le_pow_right (by omega) (by omega)
            rw [hbe]
            omega
          have hhalf : bt / 2 = 2 ^ s / 2 := by rw [hbe]
          obtain ⟨m, hm, hmz⟩ := and_bit e1 s HB.out.2.1 (by omega)
          rw [← hbe] at hm
          have hd := HN.out.2.1 s (by omega)
          obtain ⟨r, hr⟩ : ∃ r, r = pw x (e / 2 ^ (64 * 1 + (s + 1))) := ⟨_, rfl⟩
          obtain ⟨q, hq⟩ : ∃ q, q = mulP r r := ⟨_, rfl⟩
          obtain ⟨v, hv⟩ : ∃ v, v = mulP q x := ⟨_, rfl⟩
          have hq2 : q = pw x (2 * (e / 2 ^ (64 * 1 + (s + 1)))) := by rw [hq, hr, pw_sq]
          have lr : r < 115792089237316195423570985008687907853269984665640564039457584007913129639936 := by rw [hr]; exact pw_lt _ _
          have lq : q < 115792089237316195423570985008687907853269984665640564039457584007913129639936 := by rw [hq]; exact mulP_lt _ _
          have cS : ∀ w, Calls Tryz.prog 101 #[.agg #[.int .u64 18446744069414583343, .int .u64 18446744073709551615, .int .u64 18446744073709551615, .int .u64 18446744073709551615, .int .u64 4294968273, .int .u64 0, .int .u64 0], fv r, fv r] w fun e w' => e = .returned (fv q) ∧ Below w.heap.size w w' := by
            intro w; rw [hq]; exact mulR_any w r r lr lr
          have cX : ∀ w, Calls Tryz.prog 101 #[.agg #[.int .u64 18446744069414583343, .int .u64 18446744073709551615, .int .u64 18446744073709551615, .int .u64 18446744073709551615, .int .u64 4294968273, .int .u64 0, .int .u64 0], fv q, fv x] w fun e w' => e = .returned (fv v) ∧ Below w.heap.size w w' := by
            intro w; rw [hv]; exact mulR_any w q x lq HX.out
          have hend0 : m = 0 → q = pw x (e / 2 ^ (64 * 1 + s)) := fun h => by
            rw [hq2, hd, hmz.1 h]; rfl
          have hend1 : m ≠ 0 → v = pw x (e / 2 ^ (64 * 1 + s)) := fun h => by
            have hb1 : e1 / 2 ^ s % 2 = 1 := by have := mt hmz.2 h; omega
            rw [hv, hq2, pw_mul, hd, hb1]
          have HE := Lib.hid (And.intro hend0 (And.intro hend1 (And.intro hhalf hbe)))
          rw [← hr] at BP
          have hgt : (bt : Int) > 0 := by omega
          rw [← hbe]
          clear hr hq hv hq2 lr lq hend0 hend1 hhalf hbe hd hmz hbt
          go_wp2_with (first | ((with_reducible refine here_load (d := some 19) ?_); refine wpList_load_blk rfl _ _ rfl w.heap.size rfl _ _ _ (BM) Tryz.underlying94 rfl (by kernel_rfl) ?_) | ((with_reducible refine here_load (d := some 20) ?_); refine wpList_load_fv rfl _ _ rfl (w1.heap.size) rfl (r) _ _ _ (BP) (fv_fcs r) Tryz.underlying89 rfl (by kernel_rfl) ?_) | ((with_reducible refine here_load (d := some 21) ?_); refine wpList_load_fv rfl _ _ rfl (w1.heap.size) rfl (r) _ _ _ (BP) (fv_fcs r) Tryz.underlying89 rfl (by kernel_rfl) ?_))
          refine (cS _).mono ?_
          rintro ez u ⟨rfl, gu⟩
          have EM := Gr.blk gu BM
          have EX := Gr.blk gu BX
          have EE := Gr.blk gu BE
          have ER := Gr.blk gu BR
          have EP := Gr.blk gu BP
          have hbu := Below.gr hb gu
          clear gu cS BM BX BE BR BP hb
          have lu := EP.lt
          by_cases hm0 : m = 0
          · have hq0 := Lib.hid (HE.out.1 hm0)
            subst hm0
            clear cX
            go_wp2_with (first | ((with_reducible refine here_store ?_); refine wpList_store_blk rfl _ _ _ rfl (w1.heap.size) (fcs (q)) rfl rfl _ _ (EP) (by kernel_rfl) (by rfl) (fcs_one _) ?_; intro uz hLz hqz hKz; have FM := hKz _ (by omega) _ _ EM; have FXx := hKz _ (by omega) _ _ EX; have FE_ := hKz _ (by omega) _ _ EE; have FR := hKz _ (by omega) _ _ ER; have hbz := hbu.trans (hqz _ (by omega)); have pc : uz.cell? ⟨w.heap.size + 2, 1, none⟩ = some (.int .u64 (e1 : Int)) := FE_.cell 1))
            go_roundw
            case rel => exact ⟨s, by omega, by rw [← HE.out.2.2.1]; congr 1 <;> omega, hbz, FM, FXx, FE_, FR, Blk.eq_ hLz (by rw [hq0.out])⟩
            case measure => simp [intOf]; omega
          · have hq1 := Lib.hid (HE.out.2.1 hm0)
            have hmi : ¬ (m : Int) = 0 := by omega
            go_wp2_with (first | ((with_reducible refine here_store ?_); refine wpList_store_blk rfl _ _ _ rfl (w1.heap.size) (fcs (q)) rfl rfl _ _ (EP) (by kernel_rfl) (by rfl) (fcs_one _) ?_; intro uz hLz hqz hKz; have FM := hKz _ (by omega) _ _ EM; have FXx := hKz _ (by omega) _ _ EX; have FE_ := hKz _ (by omega) _ _ EE; have FR := hKz _ (by omega) _ _ ER; have hbz := hbu.trans (hqz _ (by omega)); have pc : uz.cell? ⟨w.heap.size + 2, 1, none⟩ = some (.int .u64 (e1 : Int)) := FE_.cell 1) | ((with_reducible refine here_load (d := some 29) ?_); refine wpList_load_blk rfl _ _ rfl w.heap.size rfl _ _ _ (FM) Tryz.underlying94 rfl (by kernel_rfl) ?_) | ((with_reducible refine here_load (d := some 30) ?_); refine wpList_load_fv rfl _ _ rfl (w1.heap.size) rfl (q) _ _ _ (hLz) (fv_fcs q) Tryz.underlying89 rfl (by kernel_rfl) ?_) | ((with_reducible refine here_load (d := some 31) ?_); refine wpList_load_fv rfl _ _ rfl (w.heap.size + 1) rfl (x) _ _ _ (FXx) (FX.out) Tryz.underlying89 rfl (by kernel_rfl) ?_))
            refine (cX _).mono ?_
            rintro ez u2 ⟨rfl, gu⟩
            have GM := Gr.blk gu FM
            have GX := Gr.blk gu FXx
            have GE := Gr.blk gu FE_
            have GR := Gr.blk gu FR
            have GP := Gr.blk gu hLz
            have hbg := Below.gr hbz gu
            clear gu cX FM FXx FE_ FR hbz
            go_wp2_with (first | ((with_reducible refine here_store ?_); refine wpList_store_blk rfl _ _ _ rfl (w1.heap.size) (fcs (v)) rfl rfl _ _ (GP) (by kernel_rfl) (by rfl) (fcs_one _) ?_; intro uy hLy hqy hKy; have JM := hKy _ (by omega) _ _ GM; have JX := hKy _ (by omega) _ _ GX; have JE := hKy _ (by omega) _ _ GE; have JR := hKy _ (by omega) _ _ GR; have hby := hbg.trans (hqy _ (by omega))))
            go_roundw
            case rel => exact ⟨s, by omega, by rw [← HE.out.2.2.1]; congr 1 <;> omega, hby, JM, JX, JE, JR, Blk.eq_ hLy (by rw [hq1.out])⟩
            case measure => simp [intOf]; omega
    · clear HI
      go_wp2_with fail
      go_loopw [9] (fun bt wr => ∃ t : Nat, t ≤ 64 ∧ bt = .int .u64 ((2 ^ t / 2 : Nat) : Int) ∧ Below w.heap.size w wr ∧ Blk wr w.heap.size 94 #[.int .u64 18446744069414583343, .int .u64 18446744073709551615, .int .u64 18446744073709551615, .int .u64 18446744073709551615, .int .u64 4294968273, .int .u64 0, .int .u64 0] ∧ Blk wr (w.heap.size + 1) 89 #[.int .u64 (x0 : Int), .int .u64 (x1 : Int), .int .u64 (x2 : Int), .int .u64 (x3 : Int)] ∧ Blk wr (w.heap.size + 2) 89 #[.int .u64 (e0 : Int), .int .u64 (e1 : Int), .int .u64 (e2 : Int), .int .u64 (e3 : Int)] ∧ Blk wr (w.heap.size + 3) 89 #[.int .u64 0, .int .u64 0, .int .u64 0, .int .u64 0] ∧ Blk wr w1.heap.size 89 (fcs (pw x (e / 2 ^ (64 * 0 + t))))) (fun bt _ => (intOf bt).toNat)
      case atStart => exact ⟨64, by omega, rfl, hb, BM, BX, BE, BR, BP⟩
      case round =>
        clear hb BM BX BE BR BP
        obtain ⟨t, ht, rfl, hb, BM, BX, BE, BR, BP⟩ := hrel
        by_cases h0 : t = 0
        · subst h0
          go_wp2
          refine ⟨⟨hb, BM, BX, BE, BR, Lib.hid (.inr (.inr (.inr (.inr (⟨rfl, BP⟩)))))⟩, by decide⟩
        · obtain ⟨s, hs⟩ : ∃ s, t = s + 1 := ⟨t - 1, by omega⟩
          subst hs
          have hbt : 2 ^ (s + 1) / 2 = 2 ^ s := by rw [Nat.pow_succ]; omega
          rw [hbt]
          obtain ⟨bt, hbe⟩ : ∃ bt, bt = 2 ^ s := ⟨_, rfl⟩
          have hpos : 0 < bt := by rw [hbe]; exact Nat.two_pow_pos s
          have hblt : bt < 18446744073709551616 := by
            have h63 : 2 ^ s ≤ 2 ^ 63 := Nat.pow_le_pow_right (by omega) (by omega)
            rw [hbe]
            omega
          have hhalf : bt / 2 = 2 ^ s / 2 := by rw [hbe]
          obtain ⟨m, hm, hmz⟩ := and_bit e0 s HB.out.1 (by omega)
          rw [← hbe] at hm
          have hd := HN.out.1 s (by omega)
          obtain ⟨r, hr⟩ : ∃ r, r = pw x (e / 2 ^ (64 * 0 + (s + 1))) := ⟨_, rfl⟩
          obtain ⟨q, hq⟩ : ∃ q, q = mulP r r := ⟨_, rfl⟩
          obtain ⟨v, hv⟩ : ∃ v, v = mulP q x := ⟨_, rfl⟩
          have hq2 : q = pw x (2 * (e / 2 ^ (64 * 0 + (s + 1)))) := by rw [hq, hr, pw_sq]
          have lr : r < 115792089237316195423570985008687907853269984665640564039457584007913129639936 := by rw [hr]; exact pw_lt _ _
          have lq : q < 115792089237316195423570985008687907853269984665640564039457584007913129639936 := by rw [hq]; exact mulP_lt _ _
          have cS : ∀ w, Calls Tryz.prog 101 #[.agg #[.int .u64 18446744069414583343, .int .u64 18446744073709551615, .int .u64 18446744073709551615, .int .u64 18446744073709551615, .int .u64 4294968273, .int .u64 0, .int .u64 0], fv r, fv r] w fun e w' => e = .returned (fv q) ∧ Below w.heap.size w w' := by
            intro w; rw [hq]; exact mulR_any w r r lr lr
          have cX : ∀ w, Calls Tryz.prog 101 #[.agg #[.int .u64 18446744069414583343, .int .u64 18446744073709551615, .int .u64 18446744073709551615, .int .u64 18446744073709551615, .int .u64 4294968273, .int .u64 0, .int .u64 0], fv q, fv x] w fun e w' => e = .returned (fv v) ∧ Below w.heap.size w w' := by
            intro w; rw [hv]; exact mulR_any w q x lq HX.out
          have hend0 : m = 0 → q = pw x (e / 2 ^ (64 * 0 + s)) := fun h => by
            rw [hq2, hd, hmz.1 h]; rfl
          have hend1 : m ≠ 0 → v = pw x (e / 2 ^ (64 * 0 + s)) := fun h => by
            have hb1 : e0 / 2 ^ s % 2 = 1 := by have := mt hmz.2 h; omega
            rw [hv, hq2, pw_mul, hd, hb1]
          have HE := Lib.hid (And.intro hend0 (And.intro hend1 (And.intro hhalf hbe)))
          rw [← hr] at BP
          have hgt : (bt : Int) > 0 := by omega
          rw [← hbe]
          clear hr hq hv hq2 lr lq hend0 hend1 hhalf hbe hd hmz hbt
          go_wp2_with (first | ((with_reducible refine here_load (d := some 19) ?_); refine wpList_load_blk rfl _ _ rfl w.heap.size rfl _ _ _ (BM) Tryz.underlying94 rfl (by kernel_rfl) ?_) | ((with_reducible refine here_load (d := some 20) ?_); refine wpList_load_fv rfl _ _ rfl (w1.heap.size) rfl (r) _ _ _ (BP) (fv_fcs r) Tryz.underlying89 rfl (by kernel_rfl) ?_) | ((with_reducible refine here_load (d := some 21) ?_); refine wpList_load_fv rfl _ _ rfl (w1.heap.size) rfl (r) _ _ _ (BP) (fv_fcs r) Tryz.underlying89 rfl (by kernel_rfl) ?_))
          refine (cS _).mono ?_
          rintro ez u ⟨rfl, gu⟩
          have EM := Gr.blk gu BM
          have EX := Gr.blk gu BX
          have EE := Gr.blk gu BE
          have ER := Gr.blk gu BR
          have EP := Gr.blk gu BP
          have hbu := Below.gr hb gu
          clear gu cS BM BX BE BR BP hb
          have lu := EP.lt
          by_cases hm0 : m = 0
          · have hq0 := Lib.hid (HE.out.1 hm0)
            subst hm0
            clear cX
            go_wp2_with (first | ((with_reducible refine here_store ?_); refine wpList_store_blk rfl _ _ _ rfl (w1.heap.size) (fcs (q)) rfl rfl _ _ (EP) (by kernel_rfl) (by rfl) (fcs_one _) ?_; intro uz hLz hqz hKz; have FM := hKz _ (by omega) _ _ EM; have FXx := hKz _ (by omega) _ _ EX; have FE_ := hKz _ (by omega) _ _ EE; have FR := hKz _ (by omega) _ _ ER; have hbz := hbu.trans (hqz _ (by omega)); have pc : uz.cell? ⟨w.heap.size + 2, 0, none⟩ = some (.int .u64 (e0 : Int)) := FE_.cell 0))
            go_roundw
            case rel => exact ⟨s, by omega, by rw [← HE.out.2.2.1]; congr 1 <;> omega, hbz, FM, FXx, FE_, FR, Blk.eq_ hLz (by rw [hq0.out])⟩
            case measure => simp [intOf]; omega
          · have hq1 := Lib.hid (HE.out.2.1 hm0)
            have hmi : ¬ (m : Int) = 0 := by omega
            go_wp2_with (first | ((with_reducible refine here_store ?_); refine wpList_store_blk rfl _ _ _ rfl (w1.heap.size) (fcs (q)) rfl rfl _ _ (EP) (by kernel_rfl) (by rfl) (fcs_one _) ?_; intro uz hLz hqz hKz; have FM := hKz _ (by omega) _ _ EM; have FXx := hKz _ (by omega) _ _ EX; have FE_ := hKz _ (by omega) _ _ EE; have FR := hKz _ (by omega) _ _ ER; have hbz := hbu.trans (hqz _ (by omega)); have pc : uz.cell? ⟨w.heap.size + 2, 0, none⟩ = some (.int .u64 (e0 : Int)) := FE_.cell 0) | ((with_reducible refine here_load (d := some 29) ?_); refine wpList_load_blk rfl _ _ rfl w.heap.size rfl _ _ _ (FM) Tryz.underlying94 rfl (by kernel_rfl) ?_) | ((with_reducible refine here_load (d := some 30) ?_); refine wpList_load_fv rfl _ _ rfl (w1.heap.size) rfl (q) _ _ _ (hLz) (fv_fcs q) Tryz.underlying89 rfl (by kernel_rfl) ?_) | ((with_reducible refine here_load (d := some 31) ?_); refine wpList_load_fv rfl _ _ rfl (w.heap.size + 1) rfl (x) _ _ _ (FXx) (FX.out) Tryz.underlying89 rfl (by kernel_rfl) ?_))
            refine (cX _).mono ?_
            rintro ez u2 ⟨rfl, gu⟩
            have GM := Gr.blk gu FM
            have GX := Gr.blk gu FXx
            have GE := Gr.blk gu FE_
            have GR := Gr.blk gu FR
            have GP := Gr.blk gu hLz
            have hbg := Below.gr hbz gu
            clear gu cX FM FXx FE_ FR hbz
            go_wp2_with (first | ((with_reducible refine here_store ?_); refine wpList_store_blk rfl _ _ _ rfl (w1.heap.size) (fcs (v)) rfl rfl _ _ (GP) (by kernel_rfl) (by rfl) (fcs_one _) ?_; intro uy hLy hqy hKy; have JM := hKy _ (by omega) _ _ GM; have JX := hKy _ (by omega) _ _ GX; have JE := hKy _ (by omega) _ _ GE; have JR := hKy _ (by omega) _ _ GR; have hby := hbg.trans (hqy _ (by omega))))
            go_roundw
            case rel => exact ⟨s, by omega, by rw [← HE.out.2.2.1]; congr 1 <;> omega, hby, JM, JX, JE, JR, Blk.eq_ hLy (by rw [hq1.out])⟩
            case measure => simp [intOf]; omega
    · clear HI
      have BP0 : Blk wr w1.heap.size 89 (fcs (pw x e)) := by
        have h := BP
        rw [Nat.pow_zero, Nat.div_one] at h
        exact h
      obtain ⟨z, hz⟩ : ∃ z, z = pw x e := ⟨_, rfl⟩
      rw [← hz] at BP0
      have HZ := Lib.hid hz
      clear hz BP
      go_wp2_with (first | ((with_reducible refine here_load (d := some 33) ?_); refine wpList_load_fv rfl _ _ rfl (w1.heap.size) rfl (z) _ _ _ (BP0) (fv_fcs z) Tryz.underlying89 rfl (by kernel_rfl) ?_) | ((with_reducible refine here_store ?_); refine wpList_store_blk rfl _ _ _ rfl (w.heap.size + 3) (fcs (z)) rfl rfl _ _ (BR) (by kernel_rfl) (by rfl) (fcs_one _) ?_; intro vz hLz hqz hKz))
      exact bodyPost_ret (results_cell_row rfl _ _ (w.heap.size + 3) _ _ (0, 0) _ rfl hLz Tryz.underlying89 rfl (by kernel_rfl)) rfl ⟨by rw [← HZ.out]; rfl, hb.trans (hqz _ (by omega))⟩

set_option maxHeartbeats 2000000 in
set_option maxRecDepth 100000 in
theorem invRef_any (w : World) (x : Nat) (hx : x < 115792089237316195423570985008687907853269984665640564039457584007913129639936) : Calls Tryz.prog 93 #[.agg #[.int .u64 18446744069414583343, .int .u64 18446744073709551615, .int .u64 18446744073709551615, .int .u64 18446744073709551615, .int .u64 4294968273, .int .u64 0, .int .u64 0], fv x] w fun e w' => e = .returned (fv (pw x (115792089237316195423570985008687907853269984665640564039457584007908834671663 - 2))) ∧ Below w.heap.size w w' := by
  obtain ⟨p, hp⟩ : ∃ p, p = 115792089237316195423570985008687907853269984665640564039457584007908834671663 := ⟨_, rfl⟩
  obtain ⟨n2, h2⟩ : ∃ n, n = 2 := ⟨_, rfl⟩
  obtain ⟨q, hq⟩ : ∃ q, q = 115792089237316195423570985008687907853269984665640564039457584007908834671663 - 2 := ⟨_, rfl⟩
  obtain ⟨z, hz⟩ : ∃ z, z = pw x q := ⟨_, rfl⟩
  rw [← hq, ← hz]
  have cS : ∀ w, Calls Tryz.prog 144 #[.int .u64 2] w fun e w' => e = .returned (fv n2) ∧ Below w.heap.size w w' := fun w => small_at w n2 2 (by rw [h2]; rfl) (by omega)
  have cM : ∀ w, Calls Tryz.prog 143 #[fv p, fv n2] w fun e w' => e = .returned (fv q) ∧ Below w.heap.size w w' := fun w => minusR_at w p n2 q 0 rfl rfl (by omega) (by omega) (by omega) (by omega)
  have cP : ∀ w, Calls Tryz.prog 145 #[.agg #[.int .u64 18446744069414583343, .int .u64 18446744073709551615, .int .u64 18446744073709551615, .int .u64 18446744073709551615, .int .u64 4294968273, .int .u64 0, .int .u64 0], fv x, fv q] w fun e w' => e = .returned (fv z) ∧ Below w.heap.size w w' := by
    intro w; rw [hz]; exact power_any w x q hx (by omega)
  have FP : Hid (fv p = .agg #[.int .u64 18446744069414583343, .int .u64 18446744073709551615, .int .u64 18446744073709551615, .int .u64 18446744073709551615]) := Lib.hid (by rw [hp]; exact fv_P)
  obtain ⟨x0, x1, x2, x3, fx⟩ := words_fv x hx
  have FX := Lib.hid fx
  rw [fx]
  clear fx hx hp h2 hq hz
  go_enter Tryz.func93, Tryz.ntmps93
  go_wp2
  refine wp_region_G (fun j => j == 7) (by kernel_rfl) ?_
  try simp only [Act.put]
  refine wpAnyG_take 0 rfl (by kernel_rfl) (fun _ _ _ h => h) (YieldsG.load (by rfl) _ _ rfl w.heap.size 0 rfl ([.int .u64 18446744069414583343, .int .u64 18446744073709551615, .int .u64 18446744073709551615, .int .u64 18446744073709551615, .int .u64 4294968273, .int .u64 0, .int .u64 0]) _ (Blk.lt (((Blk.new w _ _).alloc _).alloc _)) (Blk.range (((Blk.new w _ _).alloc _).alloc _)) Tryz.underlying94 rfl (by kernel_rfl)) ?_
  try simp only [Act.put, List.setIfInBounds_toArray, List.set_cons_zero, List.set_cons_succ]
  refine wpAnyG_take 1 rfl (by kernel_rfl) (fun _ _ _ h => h) (YieldsG.loadF (by rfl) _ _ rfl (w.heap.size + 1) rfl (x) _ _ ((blk_new2 w _ _ _).alloc _) (FX.out) Tryz.underlying89 rfl (by kernel_rfl)) ?_
  try simp only [Act.put, List.setIfInBounds_toArray, List.set_cons_zero, List.set_cons_succ]
  refine wpAnyG_take 2 rfl (by kernel_rfl) (fun _ _ _ h => h) (YieldsG.pure (by rfl) (fun w9 _ => by go_simp; try with_reducible rfl)) ?_
  try simp only [Act.put, List.setIfInBounds_toArray, List.set_cons_zero, List.set_cons_succ]
  refine wpAnyG_take 3 rfl (by kernel_rfl) (fun _ _ _ h => h) (YieldsG.loadP (by rfl) _ _ rfl w.heap.size rfl p _ (Blk.lt (((Blk.new w _ _).alloc _).alloc _)) (mod_range (((Blk.new w _ _).alloc _).alloc _)) FP.out Tryz.underlying89 rfl (by kernel_rfl)) ?_
  try simp only [Act.put, List.setIfInBounds_toArray, List.set_cons_zero, List.set_cons_succ]
  refine wpAnyG_take 4 rfl (by kernel_rfl) (fun _ _ _ h => h) (YieldsG.call (v := fv n2) (by rfl) 144 _ (fun w9 => by go_simp; try (first | with_reducible rfl | rfl)) (fun w9 h9 => cS w9)) ?_
  try simp only [Act.put, List.setIfInBounds_toArray, List.set_cons_zero, List.set_cons_succ]
  refine wpAnyG_take 5 rfl (by kernel_rfl) (fun _ _ _ h => h) (YieldsG.call (v := fv q) (by rfl) 143 _ (fun w9 => by go_simp; try (first | with_reducible rfl | rfl)) (fun w9 h9 => cM w9)) ?_
  try simp only [Act.put, List.setIfInBounds_toArray, List.set_cons_zero, List.set_cons_succ]
  refine wpAnyG_take 6 rfl (by kernel_rfl) (fun _ _ _ h => h) (YieldsG.call (v := fv z) (by rfl) 145 _ (fun w9 => by go_simp; try (first | with_reducible rfl | rfl)) (fun w9 h9 => cP w9)) ?_
  try simp only [Act.put, List.setIfInBounds_toArray, List.set_cons_zero, List.set_cons_succ]
  refine wpAnyG_store 7 rfl (by kernel_rfl) (by rfl) _ _ _ rfl (w.heap.size + 2) (fcs (z)) rfl rfl _ _ (blk_new3 w _ _ _ _) (by kernel_rfl) (by rfl) (fcs_one _) rfl (fun w6 h6 w7 hB7 hL7 => ?_)
  try simp only [Act.put]
  refine wpAnyG_done (by kernel_rfl) (fun w8 h8 => ?_)
  have hfin := Gr.blk h8 hL7
  have hb9 := (Below.gr (below_alloc3 w _ _ _) h6).trans ((hB7 _ (by omega)).trans (Below.mono h8 (by have := hL7.lt; omega)))
  go_wp2
  exact bodyPost_ret (results_cell_row rfl _ _ (w.heap.size + 2) _ _ (0, 0) _ rfl hfin Tryz.underlying89 rfl (by kernel_rfl)) rfl ⟨rfl, hb9⟩
end Go.Proofs.YtbofhoonlmikcaaGreatDoor

end
section
namespace Go.Proofs.YtbofhoonlmikcaaGreatDoor
open Go.RowKit Sp

end Go.Proofs.YtbofhoonlmikcaaGreatDoor

end
section
namespace Go.Proofs.YtbofhoonlmikcaaGreatDoor
open Go.RowKit Go.Lib

set_option maxHeartbeats 2000000 in
set_option maxRecDepth 100000 in
theorem rightR_any (w : World) (x : Nat) (hx : x < 115792089237316195423570985008687907853269984665640564039457584007913129639936) : Calls Tryz.prog 55 #[modV, fv x] w fun e w' => e = .returned (.bool (decide (x < pM))) ∧ Below w.heap.size w w' := by
  obtain ⟨p, hp⟩ : ∃ p, p = 115792089237316195423570985008687907853269984665640564039457584007908834671663 := ⟨_, rfl⟩
  obtain ⟨b, hb⟩ : ∃ b, b = decide (x < pM) := ⟨_, rfl⟩
  have cb : ∀ w, Calls Tryz.prog 110 #[fv x, fv p] w fun e w' => e = .returned (.bool b) ∧ Below w.heap.size w w' := by
    intro w; rw [hb, pM_eq, ← hp]; exact below_at w x p rfl rfl hx (by omega)
  have hpc : fv p = .agg #[.int .u64 18446744069414583343, .int .u64 18446744073709551615, .int .u64 18446744073709551615, .int .u64 18446744073709551615] := by rw [hp]; exact fv_P
  obtain ⟨x0, x1, x2, x3, fx⟩ := words_fv x hx
  have FX := Lib.hid fx
  have FP := Lib.hid hpc
  rw [fx, ← hb]
  unfold modV
  clear fx hpc hx hp hb
  go_enter Tryz.func55, Tryz.ntmps55
  go_wp2_with (first | ((with_reducible refine here_load (d := some 5) ?_); refine wpList_load_fv rfl _ _ rfl (w.heap.size + 1) rfl (x) _ _ _ (blk_new2 w _ _ _) (FX.out) Tryz.underlying89 rfl (by kernel_rfl) ?_) | ((with_reducible refine here_load (d := some 7) ?_); refine wpList_load_part rfl _ _ rfl w.heap.size rfl p [.int .u64 18446744069414583343, .int .u64 18446744073709551615, .int .u64 18446744073709551615, .int .u64 18446744073709551615] _ (mod_range ((Blk.new w _ _).alloc _)) FP.out Tryz.underlying89 rfl (by kernel_rfl) ?_))
  refine (cb _).mono ?_
  rintro e w1 ⟨rfl, k1⟩
  go_wp2
  go_ret
  exact ⟨rfl, Below.gr (below_alloc2 w _ _) k1⟩

end Go.Proofs.YtbofhoonlmikcaaGreatDoor

end
section
namespace Go.Proofs.YtbofhoonlmikcaaGreatDoor.Cu
open Go.RowKit Go.Proofs.YtbofhoonlmikcaaGreatDoor Go.Proofs.YtbofhoonlmikcaaGreatDoor.Sy
set_option maxRecDepth 100000
set_option maxHeartbeats 4000000

def modcs : Array Value := #[.int .u64 18446744069414583343, .int .u64 18446744073709551615, .int .u64 18446744073709551615, .int .u64 18446744073709551615, .int .u64 4294968273, .int .u64 0, .int .u64 0]
def mod0 : Array Value := #[.int .u64 0, .int .u64 0, .int .u64 0, .int .u64 0, .int .u64 0, .int .u64 0, .int .u64 0]
theorem refmul_c (w : World) (a b : Fp) : Calls Tryz.prog 101 #[.agg modcs, fv a.val, fv b.val] w (Gets w (fv (a * b).val)) := mulR_any w a.val b.val (lt4 a) (lt4 b)
theorem refadd_c (w : World) (a b : Fp) : Calls Tryz.prog 75 #[.agg modcs, fv a.val, fv b.val] w (Gets w (fv (a + b).val)) := addR_any w a.val b.val (lt4 a) (lt4 b)
theorem refsub_c (w : World) (a b : Fp) : Calls Tryz.prog 146 #[.agg modcs, fv a.val, fv b.val] w (Gets w (fv (a - b).val)) := by rw [← val_sub]; exact subR_any w a.val b.val (lt4 a) (lt4 b)
theorem inv_pw (a : Nat) : invR a = pw a (115792089237316195423570985008687907853269984665640564039457584007908834671663 - 2) := by
  have h := invR_pow a
  rw [invR_red] at h
  rw [h, ← eInv_is]
  rfl
theorem refinv_c (w : World) (a : Fp) : Calls Tryz.prog 93 #[.agg modcs, fv a.val] w (Gets w (fv (finv a).val)) := by
  have e : (finv a).val = invR a.val := rfl
  have h := invRef_any w a.val (lt4 a)
  rw [← inv_pw, ← e] at h
  exact h
theorem eql_num (w : World) (F : Slots) (o : Oper) (x y : Operand) (n m : Nat) {yt : TypeId} (ho : o.op = .binOp .eql 89 x y yt) (hx : evF F x = fv n) (hy : evF F y = fv m) (hn : n < K4) (hm : m < K4) : (execOp (evF F) o).run Tryz.prog w = .ok (.value (.bool (decide (n = m)))) w := by
  have h1 := Nm.run_eqGuard_fv .eql x y n m w
  have h2 := Nm.run_eql_fv w n m hn hm
  unfold execOp
  simp only [ho, hx, hy, Sem.run_bind, h1, h2, Result.andThen_ok, Sem.run_pure]
theorem neq_num (w : World) (F : Slots) (o : Oper) (x y : Operand) (n m : Nat) {yt : TypeId} (ho : o.op = .binOp .neq 89 x y yt) (hx : evF F x = fv n) (hy : evF F y = fv m) (hn : n < K4) (hm : m < K4) : (execOp (evF F) o).run Tryz.prog w = .ok (.value (.bool (decide (n ≠ m)))) w := by
  have h1 := Nm.run_eqGuard_fv .neq x y n m w
  have h2 := Nm.run_neq_fv w n m hn hm
  unfold execOp
  simp only [ho, hx, hy, Sem.run_bind, h1, h2, Result.andThen_ok, Sem.run_pure]
theorem small_c (w : World) (k : Nat) (hk : k < 18446744073709551616) : Calls Tryz.prog 144 #[.int .u64 (k : Int)] w (Gets w (fv k)) := by
  rw [fv_small k hk]
  refine Sy.enter (args := [.int .u64 (k : Int)]) Tryz.func144 rfl kL ?_
  refine sC ?_
  refine sM 89 (fcs 0) (fun g0 => ?_)
  refine sA ?_
  refine sP (.int .u64 (k : Int)) <| sP (.agg #[.int .u64 (k : Int), .int .u64 0, .int .u64 0, .int .u64 0]) <| sW 0 g0 89 (fcs 0) #[.int .u64 (k : Int), .int .u64 0, .int .u64 0, .int .u64 0] (wS 0 89 #[.int .u64 (k : Int), .int .u64 0, .int .u64 0, .int .u64 0] rfl) ?_
  refine sG ?_
  refine Sy.ret ?_
  exact Sy.ret1 rfl (.inl (Res.cell (ty' := 89) g0 0 #[.int .u64 (k : Int), .int .u64 0, .int .u64 0, .int .u64 0] _ kR kR Tryz.underlying89 rfl kR kR))
theorem mulR_c (w : World) (a b : Fp) : Calls Tryz.prog 94 #[fv a.val, fv b.val] w (Gets w (fv (a * b).val)) := by
  refine Sy.enter (args := [fv a.val, fv b.val]) Tryz.func94 rfl kL ?_
  refine sC ?_
  refine sM 89 (fcs a.val) (fun g0 => ?_)
  refine sM 89 (fcs b.val) (fun g1 => ?_)
  refine sM 89 (fcs 0) (fun g2 => ?_)
  refine sH (fun j => j == 4) ?_
  refine sD 0 rfl (.agg modcs) (qF 56 #[] (refP_any)) <| sD 1 rfl (fv a.val) (qL 0 g0 0 4 89 89 (fcs a.val) rfl Tryz.underlying89) <| sD 2 rfl (fv b.val) (qL 1 g1 0 4 89 89 (fcs b.val) rfl Tryz.underlying89) ?_
  obtain ⟨z1, hz1⟩ : ∃ z : Fp, z = a * b := ⟨_, rfl⟩
  refine sD 3 rfl (fv z1.val) (qF 101 #[.agg modcs, fv a.val, fv b.val] (fun w => by rw [hz1]; exact refmul_c w a b)) <| sX 4 rfl 2 g2 89 (fcs 0) (fcs z1.val) (wS 0 89 (fcs z1.val) rfl) ?_
  refine sI ?_
  refine Sy.ret ?_
  rw [show (fv (a * b).val : Value) = fv z1.val from by rw [hz1]]
  exact rC (v := fv z1.val) 89 g2 2 (fcs z1.val) rfl Tryz.underlying89
theorem addR_c (w : World) (a b : Fp) : Calls Tryz.prog 112 #[fv a.val, fv b.val] w (Gets w (fv (a + b).val)) := by
  refine Sy.enter (args := [fv a.val, fv b.val]) Tryz.func112 rfl kL ?_
  refine sC ?_
  refine sM 89 (fcs a.val) (fun g0 => ?_)
  refine sM 89 (fcs b.val) (fun g1 => ?_)
  refine sM 89 (fcs 0) (fun g2 => ?_)
  refine sH (fun j => j == 4) ?_
  refine sD 0 rfl (.agg modcs) (qF 56 #[] (refP_any)) <| sD 1 rfl (fv a.val) (qL 0 g0 0 4 89 89 (fcs a.val) rfl Tryz.underlying89) <| sD 2 rfl (fv b.val) (qL 1 g1 0 4 89 89 (fcs b.val) rfl Tryz.underlying89) ?_
  obtain ⟨z1, hz1⟩ : ∃ z : Fp, z = a + b := ⟨_, rfl⟩
  refine sD 3 rfl (fv z1.val) (qF 75 #[.agg modcs, fv a.val, fv b.val] (fun w => by rw [hz1]; exact refadd_c w a b)) <| sX 4 rfl 2 g2 89 (fcs 0) (fcs z1.val) (wS 0 89 (fcs z1.val) rfl) ?_
  refine sI ?_
  refine Sy.ret ?_
  rw [show (fv (a + b).val : Value) = fv z1.val from by rw [hz1]]
  exact rC (v := fv z1.val) 89 g2 2 (fcs z1.val) rfl Tryz.underlying89
theorem subR_c (w : World) (a b : Fp) : Calls Tryz.prog 111 #[fv a.val, fv b.val] w (Gets w (fv (a - b).val)) := by
  refine Sy.enter (args := [fv a.val, fv b.val]) Tryz.func111 rfl kL ?_
  refine sC ?_
  refine sM 89 (fcs a.val) (fun g0 => ?_)
  refine sM 89 (fcs b.val) (fun g1 => ?_)
  refine sM 89 (fcs 0) (fun g2 => ?_)
  refine sH (fun j => j == 4) ?_
  refine sD 0 rfl (.agg modcs) (qF 56 #[] (refP_any)) <| sD 1 rfl (fv a.val) (qL 0 g0 0 4 89 89 (fcs a.val) rfl Tryz.underlying89) <| sD 2 rfl (fv b.val) (qL 1 g1 0 4 89 89 (fcs b.val) rfl Tryz.underlying89) ?_
  obtain ⟨z1, hz1⟩ : ∃ z : Fp, z = a - b := ⟨_, rfl⟩
  refine sD 3 rfl (fv z1.val) (qF 146 #[.agg modcs, fv a.val, fv b.val] (fun w => by rw [hz1]; exact refsub_c w a b)) <| sX 4 rfl 2 g2 89 (fcs 0) (fcs z1.val) (wS 0 89 (fcs z1.val) rfl) ?_
  refine sI ?_
  refine Sy.ret ?_
  rw [show (fv (a - b).val : Value) = fv z1.val from by rw [hz1]]
  exact rC (v := fv z1.val) 89 g2 2 (fcs z1.val) rfl Tryz.underlying89
theorem zeroR_c (w : World)  : Calls Tryz.prog 62 #[] w (Gets w (pv 0 0 true)) := by
  refine Sy.enter (args := []) Tryz.func62 rfl kL ?_
  refine sC ?_
  refine sM 52 (pcs 0 0 false) (fun g0 => ?_)
  refine sA ?_
  refine sP (pv 0 0 true) <| sW 0 g0 52 (pcs 0 0 false) (pcs 0 0 true) (wS 0 52 (pcs 0 0 true) rfl) ?_
  refine sG ?_
  refine Sy.ret ?_
  exact rC (v := pv 0 0 true) 52 g0 0 (pcs 0 0 true) rfl Tryz.underlying52
theorem baseR_c (w : World)  : Calls Tryz.prog 43 #[] w (Gets w (ptv bP)) := by
  refine Sy.enter (args := []) Tryz.func43 rfl kL ?_
  refine sC ?_
  refine sM 52 (pcs 0 0 false) (fun g0 => ?_)
  refine sA ?_
  refine sP (fv 55066263022277343669578718895168534326250603453777594175500187360389116729240) <| sP (fv 32670510020758816978083085130507043184471273380659243275938904335757337482424) <| sP (pv 55066263022277343669578718895168534326250603453777594175500187360389116729240 32670510020758816978083085130507043184471273380659243275938904335757337482424 false) <| sW 0 g0 52 (pcs 0 0 false) (pcs 55066263022277343669578718895168534326250603453777594175500187360389116729240 32670510020758816978083085130507043184471273380659243275938904335757337482424 false) (wS 0 52 (pcs 55066263022277343669578718895168534326250603453777594175500187360389116729240 32670510020758816978083085130507043184471273380659243275938904335757337482424 false) rfl) ?_
  refine sG ?_
  refine Sy.ret ?_
  rw [show (ptv bP : Value) = pv 55066263022277343669578718895168534326250603453777594175500187360389116729240 32670510020758816978083085130507043184471273380659243275938904335757337482424 false from by kernel_rfl]
  exact rC (v := pv 55066263022277343669578718895168534326250603453777594175500187360389116729240 32670510020758816978083085130507043184471273380659243275938904335757337482424 false) 52 g0 0 (pcs 55066263022277343669578718895168534326250603453777594175500187360389116729240 32670510020758816978083085130507043184471273380659243275938904335757337482424 false) rfl Tryz.underlying52
theorem cubeR_c (w : World) (x : Fp) : Calls Tryz.prog 109 #[fv x.val] w (Gets w (fv (x * x * x + 7).val)) := by
  refine Sy.enter (args := [fv x.val]) Tryz.func109 rfl kL ?_
  refine sC ?_
  refine sM 89 (fcs x.val) (fun g0 => ?_)
  refine sM 89 (fcs 0) (fun g1 => ?_)
  refine sH (fun j => j == 7) ?_
  refine sD 0 rfl (fv x.val) (qL 0 g0 0 4 89 89 (fcs x.val) rfl Tryz.underlying89) <| sD 1 rfl (fv x.val) (qL 0 g0 0 4 89 89 (fcs x.val) rfl Tryz.underlying89) <| sD 2 rfl (fv x.val) (qL 0 g0 0 4 89 89 (fcs x.val) rfl Tryz.underlying89) ?_
  obtain ⟨z1, hz1⟩ : ∃ z : Fp, z = x * x := ⟨_, rfl⟩
  refine sD 3 rfl (fv z1.val) (qF 94 #[fv x.val, fv x.val] (fun w => by rw [hz1]; exact mulR_c w x x)) ?_
  obtain ⟨z2, hz2⟩ : ∃ z : Fp, z = x * z1 := ⟨_, rfl⟩
  refine sD 4 rfl (fv z2.val) (qF 94 #[fv x.val, fv z1.val] (fun w => by rw [hz2]; exact mulR_c w x z1)) ?_
  obtain ⟨z3, hz3⟩ : ∃ z : Fp, z = (7 : Fp) := ⟨_, rfl⟩
  refine sD 5 rfl (fv z3.val) (qF 144 #[.int .u64 7] (fun w => by rw [hz3]; exact small_c w 7 (by decide))) ?_
  obtain ⟨z4, hz4⟩ : ∃ z : Fp, z = z2 + z3 := ⟨_, rfl⟩
  refine sD 6 rfl (fv z4.val) (qF 112 #[fv z2.val, fv z3.val] (fun w => by rw [hz4]; exact addR_c w z2 z3)) <| sX 7 rfl 1 g1 89 (fcs 0) (fcs z4.val) (wS 0 89 (fcs z4.val) rfl) ?_
  refine sI ?_
  refine Sy.ret ?_
  rw [show (fv (x * x * x + 7).val : Value) = fv z4.val from by
    refine congrArg (fun t : Fp => fv t.val) ?_
    grobner]
  exact rC (v := fv z4.val) 89 g1 1 (fcs z4.val) rfl Tryz.underlying89
theorem pointR_c (w : World) (x y : Nat) (hx : x < K4) (hy : y < K4) : Calls Tryz.prog 95 #[fv x, fv y] w (Gets w (pv x y false)) := by
  refine Sy.enter (args := [fv x, fv y]) Tryz.func95 rfl kL ?_
  refine sC ?_
  refine sM 89 (fcs x) (fun g0 => ?_)
  refine sM 89 (fcs y) (fun g1 => ?_)
  refine sM 52 (pcs 0 0 false) (fun g2 => ?_)
  refine sH (fun j => j == 5) ?_
  refine sD 0 rfl (fv x) (qL 0 g0 0 4 89 89 (fcs x) rfl Tryz.underlying89) <| sD 1 rfl (fv x) (qF 60 #[fv x] (fun w => refFe_any w x lK)) <| sD 2 rfl (fv y) (qL 1 g1 0 4 89 89 (fcs y) rfl Tryz.underlying89) <| sD 3 rfl (fv y) (qF 60 #[fv y] (fun w => refFe_any w y lK)) <| sZ 4 rfl (pv x y false) <| sX 5 rfl 2 g2 52 (pcs 0 0 false) (pcs x y false) (wS 0 52 (pcs x y false) rfl) ?_
  refine sI ?_
  refine Sy.ret ?_
  exact rC (v := pv x y false) 52 g2 2 (pcs x y false) rfl Tryz.underlying52
theorem rightR_b (w : World) (x y : Nat) (i : Bool) (hx : x < K4) (hy : y < K4) : Calls Tryz.prog 69 #[pv x y i] w (Gets w (.bool (rightB x y i))) := by
  refine Sy.enter (args := [pv x y i]) Tryz.func69 rfl kL ?_
  refine sC ?_
  refine sM 52 (pcs x y i) (fun g0 => ?_)
  refine sP (.bool false) ?_
  refine sG ?_
  refine Sy.seq ?_
  refine sC ?_
  refine sP (.pointer (some ⟨g0, 8, none⟩)) <| sS (.bool i) (qC 0 g0 8 52 4 (pcs x y i) rfl Tryz.underlying4) ?_
  refine sG ?_
  cases i
  · refine sU ?_
    refine Sy.skip ?_
    refine sB ?_
    refine sP (.pointer (some ⟨g0, 0, none⟩)) <| sS (fv x) (qL 0 g0 0 4 52 50 (pcs x y false) rfl Tryz.underlying50) <| sS (fv x) (qF 90 #[fv x] (fun w => refOf_any w x lK)) ?_
    refine sM 89 (fcs 0) (fun g1 => ?_)
    refine sW 1 g1 89 (fcs 0) (fcs x) (wS 0 89 (fcs x) rfl) ?_
    refine sA ?_
    refine sP (.pointer (some ⟨g0, 4, none⟩)) <| sS (fv y) (qL 0 g0 4 4 52 50 (pcs x y false) rfl Tryz.underlying50) <| sS (fv y) (qF 90 #[fv y] (fun w => refOf_any w y lK)) ?_
    refine sM 89 (fcs 0) (fun g2 => ?_)
    refine sW 2 g2 89 (fcs 0) (fcs y) (wS 0 89 (fcs y) rfl) ?_
    refine sA ?_
    refine sS (.agg modcs) (qF 56 #[] (refP_any)) ?_
    refine sM 94 mod0 (fun g3 => ?_)
    refine sW 3 g3 94 mod0 modcs (wS 0 94 modcs rfl) ?_
    refine sA ?_
    refine sS (.agg modcs) (qL 3 g3 0 7 94 94 modcs rfl Tryz.underlying94) <| sS (fv x) (qL 1 g1 0 4 89 89 (fcs x) rfl Tryz.underlying89) ?_
    obtain ⟨b1, hb1⟩ : ∃ z : Bool, z = decide (x < pM) := ⟨_, rfl⟩
    refine sS (.bool b1) (qF 55 #[.agg modcs, fv x] (fun w => by rw [hb1]; exact rightR_any w x lK)) <| sP (.bool b1) ?_
    refine sA ?_
    refine sS (.agg modcs) (qL 3 g3 0 7 94 94 modcs rfl Tryz.underlying94) <| sS (fv y) (qL 2 g2 0 4 89 89 (fcs y) rfl Tryz.underlying89) ?_
    obtain ⟨b2, hb2⟩ : ∃ z : Bool, z = decide (y < pM) := ⟨_, rfl⟩
    refine sS (.bool b2) (qF 55 #[.agg modcs, fv y] (fun w => by rw [hb2]; exact rightR_any w y lK)) <| sP (.bool b2) ?_
    refine sH (fun j => false) ?_
    refine sZ 0 rfl (.bool b1) <| sZ 1 rfl (.bool b1) ?_
    cases b1
    · refine sQ 2 rfl <| sZ 3 rfl (.bool false) <| sZ 4 rfl (.bool false) <| sQ 5 rfl <| sQ 6 rfl <| sQ 7 rfl <| sQ 8 rfl <| sQ 9 rfl ?_
      refine sQ 10 rfl <| sZ 11 rfl (.bool false) <| sZ 12 rfl (.bool false) ?_
      refine sI ?_
      refine Sy.ret ?_
      rw [show (.bool (rightB x y false) : Value) = .bool false from by rw [rb_x (of_decide_eq_false hb1.symm)]]
      exact rV (.bool false) rfl
    · obtain ⟨ux, rfl⟩ : ∃ u : Fp, x = u.val := ⟨⟨x, of_decide_eq_true hb1.symm⟩, rfl⟩
      refine sZ 2 rfl (.bool b2) <| sZ 3 rfl (.bool b2) <| sZ 4 rfl (.bool b2) ?_
      cases b2
      · refine sQ 5 rfl <| sQ 6 rfl <| sQ 7 rfl <| sQ 8 rfl <| sQ 9 rfl <| sQ 10 rfl <| sZ 11 rfl (.bool false) <| sZ 12 rfl (.bool false) ?_
        refine sI ?_
        refine Sy.ret ?_
        rw [show (.bool (rightB ux.val y false) : Value) = .bool false from by rw [rb_y (of_decide_eq_false hb2.symm)]]
        exact rV (.bool false) rfl
      · obtain ⟨uy, rfl⟩ : ∃ u : Fp, y = u.val := ⟨⟨y, of_decide_eq_true hb2.symm⟩, rfl⟩
        refine sD 5 rfl (fv uy.val) (qL 2 g2 0 4 89 89 (fcs uy.val) rfl Tryz.underlying89) <| sD 6 rfl (fv uy.val) (qL 2 g2 0 4 89 89 (fcs uy.val) rfl Tryz.underlying89) ?_
        obtain ⟨z1, hz1⟩ : ∃ z : Fp, z = uy * uy := ⟨_, rfl⟩
        refine sD 7 rfl (fv z1.val) (qF 94 #[fv uy.val, fv uy.val] (fun w => by rw [hz1]; exact mulR_c w uy uy)) <| sD 8 rfl (fv ux.val) (qL 1 g1 0 4 89 89 (fcs ux.val) rfl Tryz.underlying89) ?_
        obtain ⟨z2, hz2⟩ : ∃ z : Fp, z = ux * ux * ux + 7 := ⟨_, rfl⟩
        refine sD 9 rfl (fv z2.val) (qF 109 #[fv ux.val] (fun w => by rw [hz2]; exact cubeR_c w ux)) ?_
        obtain ⟨b3, hb3⟩ : ∃ z : Bool, z = decide (z1.val = z2.val) := ⟨_, rfl⟩
        refine sD 10 rfl (.bool b3) (Quiet.pure (fun w => by rw [hb3]; exact eql_num w _ _ _ _ _ _ rfl rfl rfl lK lK)) <| sZ 11 rfl (.bool b3) <| sZ 12 rfl (.bool b3) ?_
        refine sI ?_
        refine Sy.ret ?_
        rw [show (.bool (rightB ux.val uy.val false) : Value) = .bool b3 from by rw [hb3, rb_xy]; simp only [hz2, hz1]]
        exact rV (.bool b3) rfl
  · refine sT ?_
    refine Sy.seq ?_
    refine Sy.regionD (fun j => false) kR ?_
    refine sD 0 rfl (pv x y true) (qL 0 g0 0 9 52 52 (pcs x y true) rfl Tryz.underlying52) <| sD 1 rfl (pv 0 0 true) (qF 62 #[] (zeroR_c)) ?_
    obtain ⟨b4, hb4⟩ : ∃ z : Bool, z = sameB x y true 0 0 true := ⟨_, rfl⟩
    refine sD 2 rfl (.bool b4) (Quiet.pure (fun w => by rw [hb4]; exact eql_pt w _ _ _ _ _ _ _ _ _ _ rfl rfl rfl lK lK lK lK)) <| sZ 3 rfl (.bool b4) ?_
    refine sI ?_
    refine Sy.ret ?_
    refine Sy.then_ret ?_
    rw [show (.bool (rightB x y true) : Value) = .bool b4 from by rw [hb4, rightB_inf]]
    exact rV (.bool b4) rfl
theorem taken_c (w : World) (x y : Nat) (i : Bool) (hx : x < K4) (hy : y < K4) : Calls Tryz.prog 88 #[pv x y i] w (Gets w (ptv (dec x y i))) := by
  refine Sy.enter (args := [pv x y i]) Tryz.func88 rfl kL ?_
  refine sC ?_
  refine sM 52 (pcs x y i) (fun g0 => ?_)
  refine sM 52 (pcs 0 0 false) (fun g1 => ?_)
  refine sA ?_
  refine sS (pv x y i) (qL 0 g0 0 9 52 52 (pcs x y i) rfl Tryz.underlying52) ?_
  obtain ⟨b1, hb1⟩ : ∃ z : Bool, z = rightB x y i := ⟨_, rfl⟩
  refine sS (.bool b1) (qF 69 #[pv x y i] (by rw [hb1]; exact fun w => rightR_b w x y i lK lK)) <| sP (.bool b1) ?_
  refine sG ?_
  refine Sy.seq ?_
  refine sC ?_
  refine sP (.bool b1) ?_
  cases b1
  · refine sP (.bool true) ?_
    refine sG ?_
    refine sT ?_
    refine sC ?_
    refine sS (pv 0 0 true) (qF 62 #[] (zeroR_c)) <| sW 1 g1 52 (pcs 0 0 false) (pcs 0 0 true) (wS 0 52 (pcs 0 0 true) rfl) ?_
    refine sG ?_
    refine Sy.ret ?_
    refine Sy.then_ret ?_
    rw [show (ptv (dec x y i) : Value) = pv 0 0 true from ptv_wrong x y i hb1.symm]
    exact rC (v := pv 0 0 true) 52 g1 1 (pcs 0 0 true) rfl Tryz.underlying52
  · refine sP (.bool false) ?_
    refine sG ?_
    refine sU ?_
    refine Sy.skip ?_
    refine sB ?_
    refine sS (pv x y i) (qL 0 g0 0 9 52 52 (pcs x y i) rfl Tryz.underlying52) <| sW 1 g1 52 (pcs 0 0 false) (pcs x y i) (wS 0 52 (pcs x y i) rfl) ?_
    refine sG ?_
    refine Sy.ret ?_
    rw [show (ptv (dec x y i) : Value) = pv x y i from ptv_right x y i hb1.symm]
    exact rC (v := pv x y i) 52 g1 1 (pcs x y i) rfl Tryz.underlying52
theorem addRe_nn (w : World) (x y : Nat) (i : Bool) (x2 y2 : Nat) (i2 : Bool) (hx : x < K4) (hy : y < K4) (hx2 : x2 < K4) (hy2 : y2 < K4) (h : dec x y i = none) (k : dec x2 y2 i2 = none) : Calls Tryz.prog 58 #[pv x y i, pv x2 y2 i2] w (Gets w (ptv none)) := by
  refine Sy.enter (args := [pv x y i, pv x2 y2 i2]) Tryz.func58 rfl kL ?_
  refine sC ?_
  refine sM 52 (pcs x y i) (fun g0 => ?_)
  refine sM 52 (pcs x2 y2 i2) (fun g1 => ?_)
  refine sM 52 (pcs 0 0 false) (fun g2 => ?_)
  refine sA ?_
  refine sS (pv x y i) (qL 0 g0 0 9 52 52 (pcs x y i) rfl Tryz.underlying52) <| sS (pv 0 0 true) (qF 88 #[pv x y i] (fun w => by have hrr := taken_c w x y i lK lK; rw [h] at hrr; exact hrr)) <| sW 0 g0 52 (pcs x y i) (pcs 0 0 true) (wS 0 52 (pcs 0 0 true) rfl) ?_
  refine sA ?_
  refine sS (pv x2 y2 i2) (qL 1 g1 0 9 52 52 (pcs x2 y2 i2) rfl Tryz.underlying52) <| sS (pv 0 0 true) (qF 88 #[pv x2 y2 i2] (fun w => by have hrr := taken_c w x2 y2 i2 lK lK; rw [k] at hrr; exact hrr)) <| sW 1 g1 52 (pcs x2 y2 i2) (pcs 0 0 true) (wS 0 52 (pcs 0 0 true) rfl) ?_
  refine sG ?_
  refine Sy.seq ?_
  refine sC ?_
  refine sP (.pointer (some ⟨g0, 8, none⟩)) <| sS (.bool true) (qC 0 g0 8 52 4 (pcs 0 0 true) rfl Tryz.underlying4) ?_
  refine sG ?_
  refine sT ?_
  refine sC ?_
  refine sS (pv 0 0 true) (qL 1 g1 0 9 52 52 (pcs 0 0 true) rfl Tryz.underlying52) <| sW 2 g2 52 (pcs 0 0 false) (pcs 0 0 true) (wS 0 52 (pcs 0 0 true) rfl) ?_
  refine sG ?_
  refine Sy.ret ?_
  refine Sy.then_ret ?_
  rw [show (ptv none : Value) = pv 0 0 true from rfl]
  exact rC (v := pv 0 0 true) 52 g2 2 (pcs 0 0 true) rfl Tryz.underlying52
theorem addRe_ns (w : World) (x y : Nat) (i : Bool) (x2 y2 : Nat) (i2 : Bool) (hx : x < K4) (hy : y < K4) (hx2 : x2 < K4) (hy2 : y2 < K4) (c d : Fp) (h : dec x y i = none) (k : dec x2 y2 i2 = some (c, d)) : Calls Tryz.prog 58 #[pv x y i, pv x2 y2 i2] w (Gets w (ptv (some (c, d)))) := by
  refine Sy.enter (args := [pv x y i, pv x2 y2 i2]) Tryz.func58 rfl kL ?_
  refine sC ?_
  refine sM 52 (pcs x y i) (fun g0 => ?_)
  refine sM 52 (pcs x2 y2 i2) (fun g1 => ?_)
  refine sM 52 (pcs 0 0 false) (fun g2 => ?_)
  refine sA ?_
  refine sS (pv x y i) (qL 0 g0 0 9 52 52 (pcs x y i) rfl Tryz.underlying52) <| sS (pv 0 0 true) (qF 88 #[pv x y i] (fun w => by have hrr := taken_c w x y i lK lK; rw [h] at hrr; exact hrr)) <| sW 0 g0 52 (pcs x y i) (pcs 0 0 true) (wS 0 52 (pcs 0 0 true) rfl) ?_
  refine sA ?_
  refine sS (pv x2 y2 i2) (qL 1 g1 0 9 52 52 (pcs x2 y2 i2) rfl Tryz.underlying52) <| sS (pv c.val d.val false) (qF 88 #[pv x2 y2 i2] (fun w => by have hrr := taken_c w x2 y2 i2 lK lK; rw [k] at hrr; exact hrr)) <| sW 1 g1 52 (pcs x2 y2 i2) (pcs c.val d.val false) (wS 0 52 (pcs c.val d.val false) rfl) ?_
  refine sG ?_
  refine Sy.seq ?_
  refine sC ?_
  refine sP (.pointer (some ⟨g0, 8, none⟩)) <| sS (.bool true) (qC 0 g0 8 52 4 (pcs 0 0 true) rfl Tryz.underlying4) ?_
  refine sG ?_
  refine sT ?_
  refine sC ?_
  refine sS (pv c.val d.val false) (qL 1 g1 0 9 52 52 (pcs c.val d.val false) rfl Tryz.underlying52) <| sW 2 g2 52 (pcs 0 0 false) (pcs c.val d.val false) (wS 0 52 (pcs c.val d.val false) rfl) ?_
  refine sG ?_
  refine Sy.ret ?_
  refine Sy.then_ret ?_
  rw [show (ptv (some (c, d)) : Value) = pv c.val d.val false from rfl]
  exact rC (v := pv c.val d.val false) 52 g2 2 (pcs c.val d.val false) rfl Tryz.underlying52
theorem addRe_sn (w : World) (x y : Nat) (i : Bool) (x2 y2 : Nat) (i2 : Bool) (hx : x < K4) (hy : y < K4) (hx2 : x2 < K4) (hy2 : y2 < K4) (u v : Fp) (h : dec x y i = some (u, v)) (k : dec x2 y2 i2 = none) : Calls Tryz.prog 58 #[pv x y i, pv x2 y2 i2] w (Gets w (ptv (some (u, v)))) := by
  refine Sy.enter (args := [pv x y i, pv x2 y2 i2]) Tryz.func58 rfl kL ?_
  refine sC ?_
  refine sM 52 (pcs x y i) (fun g0 => ?_)
  refine sM 52 (pcs x2 y2 i2) (fun g1 => ?_)
  refine sM 52 (pcs 0 0 false) (fun g2 => ?_)
  refine sA ?_
  refine sS (pv x y i) (qL 0 g0 0 9 52 52 (pcs x y i) rfl Tryz.underlying52) <| sS (pv u.val v.val false) (qF 88 #[pv x y i] (fun w => by have hrr := taken_c w x y i lK lK; rw [h] at hrr; exact hrr)) <| sW 0 g0 52 (pcs x y i) (pcs u.val v.val false) (wS 0 52 (pcs u.val v.val false) rfl) ?_
  refine sA ?_
  refine sS (pv x2 y2 i2) (qL 1 g1 0 9 52 52 (pcs x2 y2 i2) rfl Tryz.underlying52) <| sS (pv 0 0 true) (qF 88 #[pv x2 y2 i2] (fun w => by have hrr := taken_c w x2 y2 i2 lK lK; rw [k] at hrr; exact hrr)) <| sW 1 g1 52 (pcs x2 y2 i2) (pcs 0 0 true) (wS 0 52 (pcs 0 0 true) rfl) ?_
  refine sG ?_
  refine Sy.seq ?_
  refine sC ?_
  refine sP (.pointer (some ⟨g0, 8, none⟩)) <| sS (.bool false) (qC 0 g0 8 52 4 (pcs u.val v.val false) rfl Tryz.underlying4) ?_
  refine sG ?_
  refine sU ?_
  refine Sy.skip ?_
  refine Sy.then_ ?_
  refine Sy.seq ?_
  refine sC ?_
  refine sP (.pointer (some ⟨g1, 8, none⟩)) <| sS (.bool true) (qC 1 g1 8 52 4 (pcs 0 0 true) rfl Tryz.underlying4) ?_
  refine sG ?_
  refine sT ?_
  refine sC ?_
  refine sS (pv u.val v.val false) (qL 0 g0 0 9 52 52 (pcs u.val v.val false) rfl Tryz.underlying52) <| sW 2 g2 52 (pcs 0 0 false) (pcs u.val v.val false) (wS 0 52 (pcs u.val v.val false) rfl) ?_
  refine sG ?_
  refine Sy.ret ?_
  refine Sy.then_ret ?_
  rw [show (ptv (some (u, v)) : Value) = pv u.val v.val false from rfl]
  exact rC (v := pv u.val v.val false) 52 g2 2 (pcs u.val v.val false) rfl Tryz.underlying52
theorem addRe_ss (w : World) (x y : Nat) (i : Bool) (x2 y2 : Nat) (i2 : Bool) (hx : x < K4) (hy : y < K4) (hx2 : x2 < K4) (hy2 : y2 < K4) (u v c d : Fp) (h : dec x y i = some (u, v)) (k : dec x2 y2 i2 = some (c, d)) (ho : v * v = u * u * u + 7) (hk : d * d = c * c * c + 7) : Calls Tryz.prog 58 #[pv x y i, pv x2 y2 i2] w (Gets w (ptv (Ec.add finv (some (u, v)) (some (c, d))))) := by
  refine Sy.enter (args := [pv x y i, pv x2 y2 i2]) Tryz.func58 rfl kL ?_
  refine sC ?_
  refine sM 52 (pcs x y i) (fun g0 => ?_)
  refine sM 52 (pcs x2 y2 i2) (fun g1 => ?_)
  refine sM 52 (pcs 0 0 false) (fun g2 => ?_)
  refine sA ?_
  refine sS (pv x y i) (qL 0 g0 0 9 52 52 (pcs x y i) rfl Tryz.underlying52) <| sS (pv u.val v.val false) (qF 88 #[pv x y i] (fun w => by have hrr := taken_c w x y i lK lK; rw [h] at hrr; exact hrr)) <| sW 0 g0 52 (pcs x y i) (pcs u.val v.val false) (wS 0 52 (pcs u.val v.val false) rfl) ?_
  refine sA ?_
  refine sS (pv x2 y2 i2) (qL 1 g1 0 9 52 52 (pcs x2 y2 i2) rfl Tryz.underlying52) <| sS (pv c.val d.val false) (qF 88 #[pv x2 y2 i2] (fun w => by have hrr := taken_c w x2 y2 i2 lK lK; rw [k] at hrr; exact hrr)) <| sW 1 g1 52 (pcs x2 y2 i2) (pcs c.val d.val false) (wS 0 52 (pcs c.val d.val false) rfl) ?_
  refine sG ?_
  refine Sy.seq ?_
  refine sC ?_
  refine sP (.pointer (some ⟨g0, 8, none⟩)) <| sS (.bool false) (qC 0 g0 8 52 4 (pcs u.val v.val false) rfl Tryz.underlying4) ?_
  refine sG ?_
  refine sU ?_
  refine Sy.skip ?_
  refine Sy.then_ ?_
  refine Sy.seq ?_
  refine sC ?_
  refine sP (.pointer (some ⟨g1, 8, none⟩)) <| sS (.bool false) (qC 1 g1 8 52 4 (pcs c.val d.val false) rfl Tryz.underlying4) ?_
  refine sG ?_
  refine sU ?_
  refine Sy.skip ?_
  refine sB ?_
  refine sP (.pointer (some ⟨g0, 0, none⟩)) <| sS (fv u.val) (qL 0 g0 0 4 52 50 (pcs u.val v.val false) rfl Tryz.underlying50) <| sS (fv u.val) (qF 90 #[fv u.val] (fun w => refOf_any w u.val lK)) ?_
  refine sM 89 (fcs 0) (fun g3 => ?_)
  refine sW 3 g3 89 (fcs 0) (fcs u.val) (wS 0 89 (fcs u.val) rfl) ?_
  refine sA ?_
  refine sP (.pointer (some ⟨g0, 4, none⟩)) <| sS (fv v.val) (qL 0 g0 4 4 52 50 (pcs u.val v.val false) rfl Tryz.underlying50) <| sS (fv v.val) (qF 90 #[fv v.val] (fun w => refOf_any w v.val lK)) ?_
  refine sM 89 (fcs 0) (fun g4 => ?_)
  refine sW 4 g4 89 (fcs 0) (fcs v.val) (wS 0 89 (fcs v.val) rfl) ?_
  refine sA ?_
  refine sP (.pointer (some ⟨g1, 0, none⟩)) <| sS (fv c.val) (qL 1 g1 0 4 52 50 (pcs c.val d.val false) rfl Tryz.underlying50) <| sS (fv c.val) (qF 90 #[fv c.val] (fun w => refOf_any w c.val lK)) ?_
  refine sM 89 (fcs 0) (fun g5 => ?_)
  refine sW 5 g5 89 (fcs 0) (fcs c.val) (wS 0 89 (fcs c.val) rfl) ?_
  refine sA ?_
  refine sP (.pointer (some ⟨g1, 4, none⟩)) <| sS (fv d.val) (qL 1 g1 4 4 52 50 (pcs c.val d.val false) rfl Tryz.underlying50) <| sS (fv d.val) (qF 90 #[fv d.val] (fun w => refOf_any w d.val lK)) ?_
  refine sM 89 (fcs 0) (fun g6 => ?_)
  refine sW 6 g6 89 (fcs 0) (fcs d.val) (wS 0 89 (fcs d.val) rfl) ?_
  refine sA ?_
  refine sS (fv d.val) (qL 6 g6 0 4 89 89 (fcs d.val) rfl Tryz.underlying89) <| sS (fv v.val) (qL 4 g4 0 4 89 89 (fcs v.val) rfl Tryz.underlying89) ?_
  obtain ⟨z1, hz1⟩ : ∃ z : Fp, z = d - v := ⟨_, rfl⟩
  refine sS (fv z1.val) (qF 111 #[fv d.val, fv v.val] (fun w => by rw [hz1]; exact subR_c w d v)) ?_
  refine sM 89 (fcs 0) (fun g7 => ?_)
  refine sW 7 g7 89 (fcs 0) (fcs z1.val) (wS 0 89 (fcs z1.val) rfl) ?_
  refine sA ?_
  refine sS (fv c.val) (qL 5 g5 0 4 89 89 (fcs c.val) rfl Tryz.underlying89) <| sS (fv u.val) (qL 3 g3 0 4 89 89 (fcs u.val) rfl Tryz.underlying89) ?_
  obtain ⟨z2, hz2⟩ : ∃ z : Fp, z = c - u := ⟨_, rfl⟩
  refine sS (fv z2.val) (qF 111 #[fv c.val, fv u.val] (fun w => by rw [hz2]; exact subR_c w c u)) ?_
  refine sM 89 (fcs 0) (fun g8 => ?_)
  refine sW 8 g8 89 (fcs 0) (fcs z2.val) (wS 0 89 (fcs z2.val) rfl) ?_
  refine sG ?_
  refine Sy.seq ?_
  refine sC ?_
  refine sS (fv u.val) (qL 3 g3 0 4 89 89 (fcs u.val) rfl Tryz.underlying89) <| sS (fv c.val) (qL 5 g5 0 4 89 89 (fcs c.val) rfl Tryz.underlying89) ?_
  obtain ⟨b1, hb1⟩ : ∃ z : Bool, z = decide (u.val = c.val) := ⟨_, rfl⟩
  refine sS (.bool b1) (Quiet.pure (fun w => by rw [hb1]; exact eql_num w _ _ _ _ _ _ rfl rfl rfl lK lK)) ?_
  refine sG ?_
  cases b1
  · have e1 : u ≠ c := fun e => of_decide_eq_false hb1.symm (congrArg Fin.val e)
    refine sU ?_
    refine Sy.skip ?_
    refine sR (fun j => j == 6) ?_
    refine sD 0 rfl (fv z1.val) (qL 7 g7 0 4 89 89 (fcs z1.val) rfl Tryz.underlying89) <| sD 1 rfl (.agg modcs) (qF 56 #[] (refP_any)) <| sD 2 rfl (fv z2.val) (qL 8 g8 0 4 89 89 (fcs z2.val) rfl Tryz.underlying89) ?_
    obtain ⟨z3, hz3⟩ : ∃ z : Fp, z = finv z2 := ⟨_, rfl⟩
    refine sD 3 rfl (fv z3.val) (qF 93 #[.agg modcs, fv z2.val] (fun w => by rw [hz3]; exact refinv_c w z2)) ?_
    obtain ⟨z4, hz4⟩ : ∃ z : Fp, z = z1 * z3 := ⟨_, rfl⟩
    refine sD 4 rfl (fv z4.val) (qF 94 #[fv z1.val, fv z3.val] (fun w => by rw [hz4]; exact mulR_c w z1 z3)) ?_
    refine sO 5 rfl 89 (fcs 0) (fun g9 => ?_)
    refine sX 6 rfl 9 g9 89 (fcs 0) (fcs z4.val) (wS 0 89 (fcs z4.val) rfl) ?_
    refine sE ?_
    refine sR (fun j => j == 8) ?_
    refine sD 0 rfl (fv z4.val) (qL 9 g9 0 4 89 89 (fcs z4.val) rfl Tryz.underlying89) <| sD 1 rfl (fv z4.val) (qL 9 g9 0 4 89 89 (fcs z4.val) rfl Tryz.underlying89) ?_
    obtain ⟨z5, hz5⟩ : ∃ z : Fp, z = z4 * z4 := ⟨_, rfl⟩
    refine sD 2 rfl (fv z5.val) (qF 94 #[fv z4.val, fv z4.val] (fun w => by rw [hz5]; exact mulR_c w z4 z4)) <| sD 3 rfl (fv u.val) (qL 3 g3 0 4 89 89 (fcs u.val) rfl Tryz.underlying89) ?_
    obtain ⟨z6, hz6⟩ : ∃ z : Fp, z = z5 - u := ⟨_, rfl⟩
    refine sD 4 rfl (fv z6.val) (qF 111 #[fv z5.val, fv u.val] (fun w => by rw [hz6]; exact subR_c w z5 u)) <| sD 5 rfl (fv c.val) (qL 5 g5 0 4 89 89 (fcs c.val) rfl Tryz.underlying89) ?_
    obtain ⟨z7, hz7⟩ : ∃ z : Fp, z = z6 - c := ⟨_, rfl⟩
    refine sD 6 rfl (fv z7.val) (qF 111 #[fv z6.val, fv c.val] (fun w => by rw [hz7]; exact subR_c w z6 c)) ?_
    refine sO 7 rfl 89 (fcs 0) (fun g10 => ?_)
    refine sX 8 rfl 10 g10 89 (fcs 0) (fcs z7.val) (wS 0 89 (fcs z7.val) rfl) ?_
    refine sE ?_
    refine sR (fun j => j == 9) ?_
    refine sD 0 rfl (fv z7.val) (qL 10 g10 0 4 89 89 (fcs z7.val) rfl Tryz.underlying89) <| sD 1 rfl (fv z4.val) (qL 9 g9 0 4 89 89 (fcs z4.val) rfl Tryz.underlying89) <| sD 2 rfl (fv u.val) (qL 3 g3 0 4 89 89 (fcs u.val) rfl Tryz.underlying89) <| sD 3 rfl (fv z7.val) (qL 10 g10 0 4 89 89 (fcs z7.val) rfl Tryz.underlying89) ?_
    obtain ⟨z8, hz8⟩ : ∃ z : Fp, z = u - z7 := ⟨_, rfl⟩
    refine sD 4 rfl (fv z8.val) (qF 111 #[fv u.val, fv z7.val] (fun w => by rw [hz8]; exact subR_c w u z7)) ?_
    obtain ⟨z9, hz9⟩ : ∃ z : Fp, z = z4 * z8 := ⟨_, rfl⟩
    refine sD 5 rfl (fv z9.val) (qF 94 #[fv z4.val, fv z8.val] (fun w => by rw [hz9]; exact mulR_c w z4 z8)) <| sD 6 rfl (fv v.val) (qL 4 g4 0 4 89 89 (fcs v.val) rfl Tryz.underlying89) ?_
    obtain ⟨z10, hz10⟩ : ∃ z : Fp, z = z9 - v := ⟨_, rfl⟩
    refine sD 7 rfl (fv z10.val) (qF 111 #[fv z9.val, fv v.val] (fun w => by rw [hz10]; exact subR_c w z9 v)) <| sD 8 rfl (pv z7.val z10.val false) (qF 95 #[fv z7.val, fv z10.val] (fun w => pointR_c w z7.val z10.val lK lK)) <| sX 9 rfl 2 g2 52 (pcs 0 0 false) (pcs z7.val z10.val false) (wS 0 52 (pcs z7.val z10.val false) rfl) ?_
    refine sI ?_
    refine Sy.ret ?_
    have ha : ¬ (u = c ∧ v + d = 0) := fun t => e1 t.1
    have hs : z4 = Ec.slp finv u v c d := by
      unfold Ec.slp
      rw [if_neg e1]
      clear h k ho hk hb1 ha e1
      grobner
    rw [show (ptv (Ec.add finv (some (u, v)) (some (c, d))) : Value) = pv z7.val z10.val false from by simp only [Ec.add]; rw [if_neg ha, ← hs]; unfold Ec.y3 Ec.x3 ptv; rw [hz10, hz9, hz8, hz7, hz6, hz5]]
    exact rC (v := pv z7.val z10.val false) 52 g2 2 (pcs z7.val z10.val false) rfl Tryz.underlying52
  · have e1 : u = c := Fin.ext (of_decide_eq_true hb1.symm)
    refine sT ?_
    refine Sy.seq ?_
    refine sC ?_
    refine sS (fv v.val) (qL 4 g4 0 4 89 89 (fcs v.val) rfl Tryz.underlying89) <| sS (fv d.val) (qL 6 g6 0 4 89 89 (fcs d.val) rfl Tryz.underlying89) ?_
    obtain ⟨b2, hb2⟩ : ∃ z : Bool, z = decide (v.val ≠ d.val) := ⟨_, rfl⟩
    refine sS (.bool b2) (Quiet.pure (fun w => by rw [hb2]; exact neq_num w _ _ _ _ _ _ rfl rfl rfl lK lK)) <| sP (.bool b2) ?_
    cases b2
    · have e2 : v = d := Fin.ext (Decidable.of_not_not (of_decide_eq_false hb2.symm))
      refine sS (fv v.val) (qL 4 g4 0 4 89 89 (fcs v.val) rfl Tryz.underlying89) <| sP (fv 0) ?_
      obtain ⟨b3, hb3⟩ : ∃ z : Bool, z = decide (v.val = 0) := ⟨_, rfl⟩
      refine sS (.bool b3) (Quiet.pure (fun w => by rw [hb3]; exact eql_num w _ _ _ _ _ _ rfl rfl rfl lK lK)) <| sP (.bool b3) ?_
      refine sG ?_
      cases b3
      · refine sU ?_
        refine Sy.skip ?_
        refine sB ?_
        refine sS (fv u.val) (qL 3 g3 0 4 89 89 (fcs u.val) rfl Tryz.underlying89) <| sS (fv u.val) (qL 3 g3 0 4 89 89 (fcs u.val) rfl Tryz.underlying89) ?_
        obtain ⟨z11, hz11⟩ : ∃ z : Fp, z = u * u := ⟨_, rfl⟩
        refine sS (fv z11.val) (qF 94 #[fv u.val, fv u.val] (fun w => by rw [hz11]; exact mulR_c w u u)) ?_
        refine sM 89 (fcs 0) (fun g9 => ?_)
        refine sW 9 g9 89 (fcs 0) (fcs z11.val) (wS 0 89 (fcs z11.val) rfl) ?_
        refine sH (fun j => j == 5) ?_
        refine sD 0 rfl (fv z11.val) (qL 9 g9 0 4 89 89 (fcs z11.val) rfl Tryz.underlying89) <| sD 1 rfl (fv z11.val) (qL 9 g9 0 4 89 89 (fcs z11.val) rfl Tryz.underlying89) <| sD 2 rfl (fv z11.val) (qL 9 g9 0 4 89 89 (fcs z11.val) rfl Tryz.underlying89) ?_
        obtain ⟨z12, hz12⟩ : ∃ z : Fp, z = z11 + z11 := ⟨_, rfl⟩
        refine sD 3 rfl (fv z12.val) (qF 112 #[fv z11.val, fv z11.val] (fun w => by rw [hz12]; exact addR_c w z11 z11)) ?_
        obtain ⟨z13, hz13⟩ : ∃ z : Fp, z = z11 + z12 := ⟨_, rfl⟩
        refine sD 4 rfl (fv z13.val) (qF 112 #[fv z11.val, fv z12.val] (fun w => by rw [hz13]; exact addR_c w z11 z12)) <| sX 5 rfl 7 g7 89 (fcs z1.val) (fcs z13.val) (wS 0 89 (fcs z13.val) rfl) ?_
        refine sI ?_
        refine Sy.region ?_
        refine sS (fv v.val) (qL 4 g4 0 4 89 89 (fcs v.val) rfl Tryz.underlying89) <| sS (fv v.val) (qL 4 g4 0 4 89 89 (fcs v.val) rfl Tryz.underlying89) ?_
        obtain ⟨z14, hz14⟩ : ∃ z : Fp, z = v + v := ⟨_, rfl⟩
        refine sS (fv z14.val) (qF 112 #[fv v.val, fv v.val] (fun w => by rw [hz14]; exact addR_c w v v)) <| sW 8 g8 89 (fcs z2.val) (fcs z14.val) (wS 0 89 (fcs z14.val) rfl) ?_
        refine sH (fun j => j == 6) ?_
        refine sD 0 rfl (fv z13.val) (qL 7 g7 0 4 89 89 (fcs z13.val) rfl Tryz.underlying89) <| sD 1 rfl (.agg modcs) (qF 56 #[] (refP_any)) <| sD 2 rfl (fv z14.val) (qL 8 g8 0 4 89 89 (fcs z14.val) rfl Tryz.underlying89) ?_
        obtain ⟨z15, hz15⟩ : ∃ z : Fp, z = finv z14 := ⟨_, rfl⟩
        refine sD 3 rfl (fv z15.val) (qF 93 #[.agg modcs, fv z14.val] (fun w => by rw [hz15]; exact refinv_c w z14)) ?_
        obtain ⟨z16, hz16⟩ : ∃ z : Fp, z = z13 * z15 := ⟨_, rfl⟩
        refine sD 4 rfl (fv z16.val) (qF 94 #[fv z13.val, fv z15.val] (fun w => by rw [hz16]; exact mulR_c w z13 z15)) ?_
        refine sO 5 rfl 89 (fcs 0) (fun g10 => ?_)
        refine sX 6 rfl 10 g10 89 (fcs 0) (fcs z16.val) (wS 0 89 (fcs z16.val) rfl) ?_
        refine sE ?_
        refine sR (fun j => j == 8) ?_
        refine sD 0 rfl (fv z16.val) (qL 10 g10 0 4 89 89 (fcs z16.val) rfl Tryz.underlying89) <| sD 1 rfl (fv z16.val) (qL 10 g10 0 4 89 89 (fcs z16.val) rfl Tryz.underlying89) ?_
        obtain ⟨z17, hz17⟩ : ∃ z : Fp, z = z16 * z16 := ⟨_, rfl⟩
        refine sD 2 rfl (fv z17.val) (qF 94 #[fv z16.val, fv z16.val] (fun w => by rw [hz17]; exact mulR_c w z16 z16)) <| sD 3 rfl (fv u.val) (qL 3 g3 0 4 89 89 (fcs u.val) rfl Tryz.underlying89) ?_
        obtain ⟨z18, hz18⟩ : ∃ z : Fp, z = z17 - u := ⟨_, rfl⟩
        refine sD 4 rfl (fv z18.val) (qF 111 #[fv z17.val, fv u.val] (fun w => by rw [hz18]; exact subR_c w z17 u)) <| sD 5 rfl (fv c.val) (qL 5 g5 0 4 89 89 (fcs c.val) rfl Tryz.underlying89) ?_
        obtain ⟨z19, hz19⟩ : ∃ z : Fp, z = z18 - c := ⟨_, rfl⟩
        refine sD 6 rfl (fv z19.val) (qF 111 #[fv z18.val, fv c.val] (fun w => by rw [hz19]; exact subR_c w z18 c)) ?_
        refine sO 7 rfl 89 (fcs 0) (fun g11 => ?_)
        refine sX 8 rfl 11 g11 89 (fcs 0) (fcs z19.val) (wS 0 89 (fcs z19.val) rfl) ?_
        refine sE ?_
        refine sR (fun j => j == 9) ?_
        refine sD 0 rfl (fv z19.val) (qL 11 g11 0 4 89 89 (fcs z19.val) rfl Tryz.underlying89) <| sD 1 rfl (fv z16.val) (qL 10 g10 0 4 89 89 (fcs z16.val) rfl Tryz.underlying89) <| sD 2 rfl (fv u.val) (qL 3 g3 0 4 89 89 (fcs u.val) rfl Tryz.underlying89) <| sD 3 rfl (fv z19.val) (qL 11 g11 0 4 89 89 (fcs z19.val) rfl Tryz.underlying89) ?_
        obtain ⟨z20, hz20⟩ : ∃ z : Fp, z = u - z19 := ⟨_, rfl⟩
        refine sD 4 rfl (fv z20.val) (qF 111 #[fv u.val, fv z19.val] (fun w => by rw [hz20]; exact subR_c w u z19)) ?_
        obtain ⟨z21, hz21⟩ : ∃ z : Fp, z = z16 * z20 := ⟨_, rfl⟩
        refine sD 5 rfl (fv z21.val) (qF 94 #[fv z16.val, fv z20.val] (fun w => by rw [hz21]; exact mulR_c w z16 z20)) <| sD 6 rfl (fv v.val) (qL 4 g4 0 4 89 89 (fcs v.val) rfl Tryz.underlying89) ?_
        obtain ⟨z22, hz22⟩ : ∃ z : Fp, z = z21 - v := ⟨_, rfl⟩
        refine sD 7 rfl (fv z22.val) (qF 111 #[fv z21.val, fv v.val] (fun w => by rw [hz22]; exact subR_c w z21 v)) <| sD 8 rfl (pv z19.val z22.val false) (qF 95 #[fv z19.val, fv z22.val] (fun w => pointR_c w z19.val z22.val lK lK)) <| sX 9 rfl 2 g2 52 (pcs 0 0 false) (pcs z19.val z22.val false) (wS 0 52 (pcs z19.val z22.val false) rfl) ?_
        refine sI ?_
        refine Sy.ret ?_
        have ha : ¬ (u = c ∧ v + d = 0) := fun t => no_two u v ho (fld.two v (e2 ▸ t.2))
        have hs : z16 = Ec.slp finv u v c d := by
          unfold Ec.slp
          rw [if_pos e1]
          clear h k ho hk hb1 hb2 hb3 ha e1 e2
          grobner
        rw [show (ptv (Ec.add finv (some (u, v)) (some (c, d))) : Value) = pv z19.val z22.val false from by simp only [Ec.add]; rw [if_neg ha, ← hs]; unfold Ec.y3 Ec.x3 ptv; rw [hz22, hz21, hz20, hz19, hz18, hz17]]
        exact rC (v := pv z19.val z22.val false) 52 g2 2 (pcs z19.val z22.val false) rfl Tryz.underlying52
      · exact absurd (Fin.ext (of_decide_eq_true hb3.symm)) (no_two u v ho)
    · have e2 : v ≠ d := fun e => of_decide_eq_true hb2.symm (congrArg Fin.val e)
      refine sN ?_
      refine sN ?_
      refine sN ?_
      refine sP (.bool true) ?_
      refine sG ?_
      refine sT ?_
      refine sC ?_
      refine sS (pv 0 0 true) (qF 62 #[] (zeroR_c)) <| sW 2 g2 52 (pcs 0 0 false) (pcs 0 0 true) (wS 0 52 (pcs 0 0 true) rfl) ?_
      refine sG ?_
      refine Sy.ret ?_
      refine Sy.then_ret ?_
      refine Sy.then_ret ?_
      rw [show (ptv (Ec.add finv (some (u, v)) (some (c, d))) : Value) = pv 0 0 true from by simp only [Ec.add]; rw [if_pos ⟨e1, Classical.byContradiction fun t => Ec.off fld ho hk (fun q => e2 q.2) (fun q => t q.2) e1⟩]; rfl]
      exact rC (v := pv 0 0 true) 52 g2 2 (pcs 0 0 true) rfl Tryz.underlying52
theorem addRe_any (w : World) (x y : Nat) (i : Bool) (x2 y2 : Nat) (i2 : Bool) (hx : x < K4) (hy : y < K4) (hx2 : x2 < K4) (hy2 : y2 < K4) : Calls Tryz.prog 58 #[pv x y i, pv x2 y2 i2] w (Gets w (ptv (Ec.add finv (dec x y i) (dec x2 y2 i2)))) := by
  have o1 := dec_on x y i
  have o2 := dec_on x2 y2 i2
  rcases h : dec x y i with _ | ⟨u, v⟩ <;> rcases k : dec x2 y2 i2 with _ | ⟨c, d⟩
  · exact addRe_nn w x y i x2 y2 i2 hx hy hx2 hy2 h k
  · exact addRe_ns w x y i x2 y2 i2 hx hy hx2 hy2 c d h k
  · exact addRe_sn w x y i x2 y2 i2 hx hy hx2 hy2 u v h k
  · rw [h] at o1
    rw [k] at o2
    exact addRe_ss w x y i x2 y2 i2 hx hy hx2 hy2 u v c d h k o1 o2
end Go.Proofs.YtbofhoonlmikcaaGreatDoor.Cu

end
section
namespace Go.Proofs.YtbofhoonlmikcaaGreatDoor
open Go.RowKit Go.Lib

end Go.Proofs.YtbofhoonlmikcaaGreatDoor

end
section
namespace Go.Proofs.YtbofhoonlmikcaaGreatDoor
open Go.RowKit Go.Lib

def readS (l : List UInt8) : Nat × Bool := if valB l < pM then (valB l, true) else (0, false)

set_option maxHeartbeats 8000000 in
set_option maxRecDepth 100000 in
theorem read_any (w : World) (l : List UInt8) (hl : l.length = 32) : Calls Tryz.prog 102 #[.agg (l.map bv).toArray] w fun e w' => e = .returned (.tuple #[fv (readS l).1, .bool (readS l).2]) ∧ Below w.heap.size w w' := by
  have HL := Lib.hid hl
  clear hl
  go_enter Tryz.func102, Tryz.ntmps102
  go_wp2_with (first | ((with_reducible refine here_load (d := some 7) ?_); refine wpList_load_blk rfl _ _ rfl w.heap.size rfl _ _ _ (((Blk.new w _ _).alloc _).alloc _) Tryz.underlying30 rfl (b32_info HL.out) ?_))
  go_loopw [8] (fun i wr => ∃ k y0 y1 y2 y3 : Nat, k ≤ 32 ∧ i = .int .i64 (k : Int) ∧ Hid (y0 = wdB l k 0 ∧ y1 = wdB l k 1 ∧ y2 = wdB l k 2 ∧ y3 = wdB l k 3) ∧ Below w.heap.size w wr ∧ Blk wr (w.heap.size + 2) 50 #[.int .u64 (y3 : Int), .int .u64 (y2 : Int), .int .u64 (y1 : Int), .int .u64 (y0 : Int)] ∧ Blk wr (w.heap.size + 1) 50 #[.int .u64 0, .int .u64 0, .int .u64 0, .int .u64 0]) (fun i _ => 32 - (intOf i).toNat)
  case atStart => exact ⟨0, 0, 0, 0, 0, by omega, rfl, Lib.hid ⟨(wdB_zero l 0).symm, (wdB_zero l 1).symm, (wdB_zero l 2).symm, (wdB_zero l 3).symm⟩, below_alloc3 w _ _ _, blk_new3 w _ _ _ _, (blk_new2 w _ _ _).alloc _⟩
  case round =>
    obtain ⟨k, y0, y1, y2, y3, hk, rfl, HY, hb, hP, hR⟩ := hrel
    have q3 : wr.cell? ⟨w.heap.size + 1 + 1, 0, none⟩ = some (.int .u64 (y3 : Int)) := hP.cell 0
    have q2 : wr.cell? ⟨w.heap.size + 1 + 1, 1, none⟩ = some (.int .u64 (y2 : Int)) := hP.cell 1
    have q1 : wr.cell? ⟨w.heap.size + 1 + 1, 2, none⟩ = some (.int .u64 (y1 : Int)) := hP.cell 2
    have q0 : wr.cell? ⟨w.heap.size + 1 + 1, 3, none⟩ = some (.int .u64 (y0 : Int)) := hP.cell 3
    have ff : ∀ j, wr.frozen? ⟨w.heap.size + 1 + 1, j, none⟩ = false := fun j => hP.frozen j
    by_cases hlt : k < 32
    · obtain ⟨c, hc⟩ : ∃ c, l[k]? = some c := ⟨l[k]'(by rw [HL.out]; exact hlt), List.getElem?_eq_getElem _⟩
      have HC := Lib.hid hc
      obtain ⟨m, hm⟩ : ∃ m, m = c.toNat := ⟨_, rfl⟩
      have hm8 : m < 256 := by rw [hm]; exact c.toNat_lt
      have hI : ∀ W, (Instr.index 30 (.agg (l.map bv).toArray) (.int .i64 (k : Int))).run Tryz.prog W = .ok (.int .u8 (m : Int)) W := fun W => by
        rw [run_index_b32 W l k c hc hlt, hm]; rfl
      have HM := Lib.hid hm
      have HR := Lib.hid (And.intro hb (And.intro hP hR))
      clear hb hP hR hc hk hm
      rcases (show k = 0 ∨ k = 1 ∨ k = 2 ∨ k = 3 ∨ k = 4 ∨ k = 5 ∨ k = 6 ∨ k = 7 ∨ k = 8 ∨ k = 9 ∨ k = 10 ∨ k = 11 ∨ k = 12 ∨ k = 13 ∨ k = 14 ∨ k = 15 ∨ k = 16 ∨ k = 17 ∨ k = 18 ∨ k = 19 ∨ k = 20 ∨ k = 21 ∨ k = 22 ∨ k = 23 ∨ k = 24 ∨ k = 25 ∨ k = 26 ∨ k = 27 ∨ k = 28 ∨ k = 29 ∨ k = 30 ∨ k = 31 by omega) with rfl | rfl | rfl | rfl | rfl | rfl | rfl | rfl | rfl | rfl | rfl | rfl | rfl | rfl | rfl | rfl | rfl | rfl | rfl | rfl | rfl | rfl | rfl | rfl | rfl | rfl | rfl | rfl | rfl | rfl | rfl | rfl
      all_goals
        simp only [Int.cast_ofNat_Int] at hI
      all_goals
        first
        | ((have hy : y0 < 72057594037927936 := by rw [HY.out.1]; exact wdB_lt l _ 0 (by decide)); (have ho := or_add y0 m hy hm8); go_wp2; (refine ⟨⟨_, y0 * 256 + m, y1, y2, y3, by decide, rfl, Lib.hid ⟨by rw [HY.out.1, HM.out]; exact (wdB_step l _ 0 c HC.out (by decide)).symm, by rw [HY.out.2.1]; exact (wdB_same l _ 1 (by decide)).symm, by rw [HY.out.2.2.1]; exact (wdB_same l _ 2 (by decide)).symm, by rw [HY.out.2.2.2]; exact (wdB_same l _ 3 (by decide)).symm⟩, HR.out.1.setCell (by show w.heap.size ≤ w.heap.size + 1 + 1; omega) _, Blk.eq_ (HR.out.2.1.set_ 3 _) (by rw [show ((y0 * 256 + m : Nat) : Int) = (y0 : Int) * 256 + (m : Int) by omega]; rfl), HR.out.2.2.far (by show w.heap.size + 1 ≠ w.heap.size + 1 + 1; omega) _⟩, by simp [intOf]⟩))
        | ((have hy : y1 < 72057594037927936 := by rw [HY.out.2.1]; exact wdB_lt l _ 1 (by decide)); (have ho := or_add y1 m hy hm8); go_wp2; (refine ⟨⟨_, y0, y1 * 256 + m, y2, y3, by decide, rfl, Lib.hid ⟨by rw [HY.out.1]; exact (wdB_same l _ 0 (by decide)).symm, by rw [HY.out.2.1, HM.out]; exact (wdB_step l _ 1 c HC.out (by decide)).symm, by rw [HY.out.2.2.1]; exact (wdB_same l _ 2 (by decide)).symm, by rw [HY.out.2.2.2]; exact (wdB_same l _ 3 (by decide)).symm⟩, HR.out.1.setCell (by show w.heap.size ≤ w.heap.size + 1 + 1; omega) _, Blk.eq_ (HR.out.2.1.set_ 2 _) (by rw [show ((y1 * 256 + m : Nat) : Int) = (y1 : Int) * 256 + (m : Int) by omega]; rfl), HR.out.2.2.far (by show w.heap.size + 1 ≠ w.heap.size + 1 + 1; omega) _⟩, by simp [intOf]⟩))
        | ((have hy : y2 < 72057594037927936 := by rw [HY.out.2.2.1]; exact wdB_lt l _ 2 (by decide)); (have ho := or_add y2 m hy hm8); go_wp2; (refine ⟨⟨_, y0, y1, y2 * 256 + m, y3, by decide, rfl, Lib.hid ⟨by rw [HY.out.1]; exact (wdB_same l _ 0 (by decide)).symm, by rw [HY.out.2.1]; exact (wdB_same l _ 1 (by decide)).symm, by rw [HY.out.2.2.1, HM.out]; exact (wdB_step l _ 2 c HC.out (by decide)).symm, by rw [HY.out.2.2.2]; exact (wdB_same l _ 3 (by decide)).symm⟩, HR.out.1.setCell (by show w.heap.size ≤ w.heap.size + 1 + 1; omega) _, Blk.eq_ (HR.out.2.1.set_ 1 _) (by rw [show ((y2 * 256 + m : Nat) : Int) = (y2 : Int) * 256 + (m : Int) by omega]; rfl), HR.out.2.2.far (by show w.heap.size + 1 ≠ w.heap.size + 1 + 1; omega) _⟩, by simp [intOf]⟩))
        | ((have hy : y3 < 72057594037927936 := by rw [HY.out.2.2.2]; exact wdB_lt l _ 3 (by decide)); (have ho := or_add y3 m hy hm8); go_wp2; (refine ⟨⟨_, y0, y1, y2, y3 * 256 + m, by decide, rfl, Lib.hid ⟨by rw [HY.out.1]; exact (wdB_same l _ 0 (by decide)).symm, by rw [HY.out.2.1]; exact (wdB_same l _ 1 (by decide)).symm, by rw [HY.out.2.2.1]; exact (wdB_same l _ 2 (by decide)).symm, by rw [HY.out.2.2.2, HM.out]; exact (wdB_step l _ 3 c HC.out (by decide)).symm⟩, HR.out.1.setCell (by show w.heap.size ≤ w.heap.size + 1 + 1; omega) _, Blk.eq_ (HR.out.2.1.set_ 0 _) (by rw [show ((y3 * 256 + m : Nat) : Int) = (y3 : Int) * 256 + (m : Int) by omega]; rfl), HR.out.2.2.far (by show w.heap.size + 1 ≠ w.heap.size + 1 + 1; omega) _⟩, by simp [intOf]⟩))
    · have p1 : ¬ (k : Int) < 32 := by omega
      obtain rfl : k = 32 := by omega
      have b0 : y0 < 18446744073709551616 := by rw [HY.out.1]; exact wdB_lt8 l _ _
      have b1 : y1 < 18446744073709551616 := by rw [HY.out.2.1]; exact wdB_lt8 l _ _
      have b2 : y2 < 18446744073709551616 := by rw [HY.out.2.2.1]; exact wdB_lt8 l _ _
      have b3 : y3 < 18446744073709551616 := by rw [HY.out.2.2.2]; exact wdB_lt8 l _ _
      obtain ⟨z, hz⟩ : ∃ z, z = y3 + 18446744073709551616 * y2 + 340282366920938463463374607431768211456 * y1 + 6277101735386680763835789423207666416102355444464034512896 * y0 := ⟨_, rfl⟩
      have fz := fv_mk y3 y2 y1 y0 b3 b2 b1 b0
      rw [← hz] at fz
      have hzl : z < 115792089237316195423570985008687907853269984665640564039457584007913129639936 := by rw [hz]; exact fv_lt y3 y2 y1 y0 b3 b2 b1 b0
      have hzv : z = valB l := by rw [wdB_all l HL.out, hz, HY.out.1, HY.out.2.1, HY.out.2.2.1, HY.out.2.2.2]
      obtain ⟨n, hn⟩ : ∃ n, n = z % pM := ⟨_, rfl⟩
      have hnl : n < 115792089237316195423570985008687907853269984665640564039457584007913129639936 := by rw [hn]; exact mod_lt z
      obtain ⟨b, hbd⟩ : ∃ b, b = decide (n ≠ z) := ⟨_, rfl⟩
      have eb : ∀ W, (binOp .neq 50 (fv n) (fv z)).run Tryz.prog W = .ok (.bool b) W := fun W => by rw [hbd]; exact run_neq_fv W n z hnl hzl
      have cn : ∀ w, Calls Tryz.prog 150 #[fv z] w fun e w' => e = .returned (fv n) ∧ Below w.heap.size w w' := by
        intro w; rw [hn]; exact norm_any w z hzl
      have hS : readS l = if b = true then (0, false) else (z, true) := by
        unfold readS
        rw [← hzv, hbd, hn]
        by_cases h : z < pM
        · rw [if_pos h, Nat.mod_eq_of_lt h]; simp
        · have h2 : z % pM ≠ z := fun e => h (by rw [← e]; exact mod_lt_p z)
          rw [if_neg h]; simp [h2]
      have HS := Lib.hid hS
      have FZ := Lib.hid fz.symm
      have HP := Lib.hid hP
      clear HY b0 b1 b2 b3 hz fz hzl hzv hn hnl hbd hS q0 q1 q2 q3 ff hP
      go_wp2
      refine wp_region_G (fun _ => false) (by kernel_rfl) ?_
      try simp only [Act.put]
      refine wpAnyG_take 0 rfl (by kernel_rfl) (fun _ _ _ h => h) (YieldsG.loadF (by rfl) _ _ rfl (w.heap.size + 2) rfl (z) _ _ (HP.out) (FZ.out) Tryz.underlying50 rfl (by kernel_rfl)) ?_
      try simp only [Act.put, List.setIfInBounds_toArray, List.set_cons_zero, List.set_cons_succ]
      refine wpAnyG_take 1 rfl (by kernel_rfl) (fun _ _ _ h => h) (YieldsG.call (v := fv n) (by rfl) 150 _ (fun w9 => by go_simp; try (first | with_reducible rfl | rfl)) (fun w9 h9 => cn w9)) ?_
      try simp only [Act.put, List.setIfInBounds_toArray, List.set_cons_zero, List.set_cons_succ]
      refine wpAnyG_take 2 rfl (by kernel_rfl) (fun _ _ _ h => h) (YieldsG.loadF (by rfl) _ _ rfl (w.heap.size + 2) rfl (z) _ _ (HP.out) (FZ.out) Tryz.underlying50 rfl (by kernel_rfl)) ?_
      try simp only [Act.put, List.setIfInBounds_toArray, List.set_cons_zero, List.set_cons_succ]
      refine wpAnyG_take 3 rfl (by kernel_rfl) (fun _ _ _ h => h) (YieldsG.pure (v := .bool b) (by rfl) (fun w9 h9 => by go_simp; rw [run_eqGuard_fv]; simp only [Result.andThen_ok, eb])) ?_
      try simp only [Act.put, List.setIfInBounds_toArray, List.set_cons_zero, List.set_cons_succ]
      refine wpAnyG_done (by kernel_rfl) (fun u hu => ?_)
      have hbu := Below.gr hb hu
      have BR := Gr.blk hu hR
      have BP := Gr.blk hu HP.out
      clear hu hb hR HP eb cn
      cases b
      · have HT : Hid (readS l = (z, true)) := Lib.hid (by rw [HS.out]; rfl)
        clear HS
        go_wp2_with (first | ((with_reducible refine here_load (d := some 31) ?_); refine wpList_load_fv rfl _ _ rfl (w.heap.size + 2) rfl (z) _ _ _ (BP) (FZ.out) Tryz.underlying50 rfl (by kernel_rfl) ?_) | ((with_reducible refine here_store ?_); refine wpList_store_blk rfl _ _ _ rfl (w.heap.size + 1) (fcs (z)) rfl rfl _ _ (BR) (by kernel_rfl) (by rfl) (fcs_one _) ?_; intro vz hLz hqz hKz))
        exact bodyPost_ret (res_cell_tmp rfl _ _ (w.heap.size + 1) _ _ _ _ rfl hLz rfl Tryz.underlying50 rfl (by kernel_rfl)) rfl ⟨by rw [HT.out]; rfl, hbu.trans (hqz _ (by omega))⟩
      · have HT : Hid (readS l = (0, false)) := Lib.hid (by rw [HS.out]; rfl)
        clear HS
        go_wp2_with (first | ((with_reducible refine here_store ?_); refine wpList_store_blk rfl _ _ _ rfl (w.heap.size + 1) _ rfl rfl _ _ (BR) (by kernel_rfl) (by rfl) (by simp [Value.oneCell']) ?_; intro vz hLz hqz hKz))
        exact bodyPost_ret (res_cell_tmp rfl _ _ (w.heap.size + 1) _ _ _ _ rfl hLz rfl Tryz.underlying50 rfl (by kernel_rfl)) rfl ⟨by rw [HT.out]; rfl, hbu.trans (hqz _ (by omega))⟩
end Go.Proofs.YtbofhoonlmikcaaGreatDoor

end
section
namespace Go.Proofs.YtbofhoonlmikcaaGreatDoor
open Go.RowKit Go.Lib

set_option maxHeartbeats 8000000 in
set_option maxRecDepth 100000 in
theorem addR_at {v1 v2 : Value} (w : World) (x y s k : Nat) (h1 : fv x = v1) (h2 : fv y = v2) (hx : x < 115792089237316195423570985008687907853269984665640564039457584007913129639936) (hy : y < 115792089237316195423570985008687907853269984665640564039457584007913129639936) (hs : s < 115792089237316195423570985008687907853269984665640564039457584007913129639936) (he : s + 115792089237316195423570985008687907853269984665640564039457584007913129639936 * k = x + y) : Calls Tryz.prog 158 #[v1, v2] w fun e w' => e = .returned (fv s) ∧ Below w.heap.size w w' := by
  subst h1 h2
  obtain ⟨x0, x1, x2, x3, a0, a1, a2, a3, ex, fx⟩ := words_of x hx
  obtain ⟨y0, y1, y2, y3, b0, b1, b2, b3, ey, fy⟩ := words_of y hy
  obtain ⟨s0, c0, d0, k0, e0, r0⟩ := add0_ex x0 y0 a0 b0
  obtain ⟨s1, c1, d1, k1, e1, r1⟩ := addc_ex x1 y1 c0 a1 b1 k0
  obtain ⟨s2, c2, d2, k2, e2, r2⟩ := addc_ex x2 y2 c1 a2 b2 k1
  obtain ⟨s3, c3, d3, k3, e3, r3⟩ := addc_ex x3 y3 c2 a3 b3 k2
  have fin : s0 + 18446744073709551616 * s1 + 340282366920938463463374607431768211456 * s2 + 6277101735386680763835789423207666416102355444464034512896 * s3 = s := by omega
  have hfs := fv_mk s0 s1 s2 s3 d0 d1 d2 d3
  rw [fin] at hfs
  have Fd := Lib.hid hfs
  rw [fx, fy]
  clear fx fy ex ey hx hy hs he a0 a1 a2 a3 b0 b1 b2 b3 d0 d1 d2 d3 k0 k1 k2 k3 e0 e1 e2 e3 fin hfs
  go_enter Tryz.func158, Tryz.ntmps158
  go_wp2_with fail
  go_loopw [5, 6] (fun bo i wr => Below w.heap.size w wr ∧ Blk wr (w.heap.size + 1) 89 #[.int .u64 (y0 : Int), .int .u64 (y1 : Int), .int .u64 (y2 : Int), .int .u64 (y3 : Int)] ∧ Blk wr (w.heap.size + 2) 89 #[.int .u64 0, .int .u64 0, .int .u64 0, .int .u64 0] ∧ Hid ((i = .int .i64 0 ∧ bo = .int .u64 0 ∧ Blk wr w.heap.size 89 #[.int .u64 (x0 : Int), .int .u64 (x1 : Int), .int .u64 (x2 : Int), .int .u64 (x3 : Int)]) ∨ (i = .int .i64 1 ∧ bo = .int .u64 (c0 : Int) ∧ Blk wr w.heap.size 89 #[.int .u64 (s0 : Int), .int .u64 (x1 : Int), .int .u64 (x2 : Int), .int .u64 (x3 : Int)]) ∨ (i = .int .i64 2 ∧ bo = .int .u64 (c1 : Int) ∧ Blk wr w.heap.size 89 #[.int .u64 (s0 : Int), .int .u64 (s1 : Int), .int .u64 (x2 : Int), .int .u64 (x3 : Int)]) ∨ (i = .int .i64 3 ∧ bo = .int .u64 (c2 : Int) ∧ Blk wr w.heap.size 89 #[.int .u64 (s0 : Int), .int .u64 (s1 : Int), .int .u64 (s2 : Int), .int .u64 (x3 : Int)]) ∨ (i = .int .i64 4 ∧ bo = .int .u64 (c3 : Int) ∧ Blk wr w.heap.size 89 #[.int .u64 (s0 : Int), .int .u64 (s1 : Int), .int .u64 (s2 : Int), .int .u64 (s3 : Int)]))) (fun _ i _ => 4 - (intOf i).toNat)
  case atStart => exact ⟨below_alloc3 w _ _ _, (blk_new2 w _ _ _).alloc _, blk_new3 w _ _ _ _, Lib.hid (.inl ⟨rfl, rfl, ((Blk.new w _ _).alloc _).alloc _⟩)⟩
  case round =>
    obtain ⟨hb, BY, BR, HI⟩ := hrel
    have lY := BY.lt
    have lX : w.heap.size < wr.heap.size := by omega
    have hsz : w.heap.size + 2 < wr.heap.size := BR.lt
    rcases HI.out with ⟨rfl, rfl, BX⟩ | ⟨rfl, rfl, BX⟩ | ⟨rfl, rfl, BX⟩ | ⟨rfl, rfl, BX⟩ | ⟨rfl, rfl, BX⟩
    · clear HI
      have px : wr.cell? ⟨w.heap.size, 0, none⟩ = some (.int .u64 (x0 : Int)) := BX.cell 0
      have py : wr.cell? ⟨w.heap.size + 1, 0, none⟩ = some (.int .u64 (y0 : Int)) := BY.cell 0
      go_wp2
      refine wp_region_G (fun _ => false) (by kernel_rfl) ?_
      try simp only [Act.put]
      refine wpAnyG_take 0 rfl (by kernel_rfl) (fun _ _ _ h => h) (YieldsG.pure (by rfl) (fun w9 _ => by go_simp; try with_reducible rfl)) ?_
      try simp only [Act.put, List.setIfInBounds_toArray, List.set_cons_zero, List.set_cons_succ]
      refine wpAnyG_take 1 rfl (by kernel_rfl) (fun _ _ _ h => h) (YieldsG.pure (by rfl) (fun w9 _ => by go_simp; try with_reducible rfl)) ?_
      try simp only [Act.put, List.setIfInBounds_toArray, List.set_cons_zero, List.set_cons_succ]
      refine wpAnyG_take 2 rfl (by kernel_rfl) (fun _ _ _ h => h) (YieldsG.pure (v := .int .u64 (x0 : Int)) (by rfl) (fun w9 h9 => by have hz := (Below.cell (p := ⟨w.heap.size, 0, none⟩) h9 lX).trans px; go_simp; first | done | simp [hz])) ?_
      try simp only [Act.put, List.setIfInBounds_toArray, List.set_cons_zero, List.set_cons_succ]
      refine wpAnyG_take 3 rfl (by kernel_rfl) (fun _ _ _ h => h) (YieldsG.pure (by rfl) (fun w9 _ => by go_simp; try with_reducible rfl)) ?_
      try simp only [Act.put, List.setIfInBounds_toArray, List.set_cons_zero, List.set_cons_succ]
      refine wpAnyG_take 4 rfl (by kernel_rfl) (fun _ _ _ h => h) (YieldsG.pure (by rfl) (fun w9 _ => by go_simp; try with_reducible rfl)) ?_
      try simp only [Act.put, List.setIfInBounds_toArray, List.set_cons_zero, List.set_cons_succ]
      refine wpAnyG_take 5 rfl (by kernel_rfl) (fun _ _ _ h => h) (YieldsG.pure (v := .int .u64 (y0 : Int)) (by rfl) (fun w9 h9 => by have hz := (Below.cell (p := ⟨w.heap.size + 1, 0, none⟩) h9 lY).trans py; go_simp; first | done | simp [hz])) ?_
      try simp only [Act.put, List.setIfInBounds_toArray, List.set_cons_zero, List.set_cons_succ]
      refine wpAnyG_take 6 rfl (by kernel_rfl) (fun _ _ _ h => h) (YieldsG.pure (by rfl) (fun w9 _ => by go_simp; try with_reducible rfl)) ?_
      try simp only [Act.put, List.setIfInBounds_toArray, List.set_cons_zero, List.set_cons_succ]
      refine wpAnyG_take 7 rfl (by kernel_rfl) (fun _ _ _ h => h) (YieldsG.pure (v := .tuple #[.int .u64 (s0 : Int), .int .u64 (c0 : Int)]) (by rfl) (fun w9 h9 => by go_simp)) ?_
      try simp only [Act.put, List.setIfInBounds_toArray, List.set_cons_zero, List.set_cons_succ]
      refine wpAnyG_take 8 rfl (by kernel_rfl) (fun _ _ _ h => h) (YieldsG.pure (by rfl) (fun w9 _ => by go_simp; try with_reducible rfl)) ?_
      try simp only [Act.put, List.setIfInBounds_toArray, List.set_cons_zero, List.set_cons_succ]
      refine wpAnyG_take 9 rfl (by kernel_rfl) (fun _ _ _ h => h) (YieldsG.pure (by rfl) (fun w9 _ => by go_simp; try with_reducible rfl)) ?_
      try simp only [Act.put, List.setIfInBounds_toArray, List.set_cons_zero, List.set_cons_succ]
      refine wpAnyG_take 10 rfl (by kernel_rfl) (fun _ _ _ h => h) (YieldsG.pure (by rfl) (fun w9 _ => by go_simp; try with_reducible rfl)) ?_
      try simp only [Act.put, List.setIfInBounds_toArray, List.set_cons_zero, List.set_cons_succ]
      refine wpAnyG_take 11 rfl (by kernel_rfl) (fun _ _ _ h => h) (YieldsG.pure (by rfl) (fun w9 _ => by go_simp; try with_reducible rfl)) ?_
      try simp only [Act.put, List.setIfInBounds_toArray, List.set_cons_zero, List.set_cons_succ]
      refine wpAnyG_take 12 rfl (by kernel_rfl) (fun _ _ _ h => h) (YieldsG.pure (by rfl) (fun w9 _ => by go_simp; try with_reducible rfl)) ?_
      try simp only [Act.put, List.setIfInBounds_toArray, List.set_cons_zero, List.set_cons_succ]
      refine wpAnyG_done (by kernel_rfl) (fun u hu => ?_)
      have BXu := Gr.blk hu BX
      have BYu := Gr.blk hu BY
      have BRu := Gr.blk hu BR
      have hbu := Below.gr hb hu
      have pc : u.cell? ⟨w.heap.size, 0, none⟩ = some (.int .u64 (x0 : Int)) := BXu.cell 0
      have pf := BXu.frozen 0
      go_wp2
      refine ⟨⟨hbu.setCell (Nat.le_refl _) _, BYu.far (by show w.heap.size + 1 ≠ w.heap.size; omega) _, BRu.far (by show w.heap.size + 2 ≠ w.heap.size; omega) _, Lib.hid (.inr (.inl (⟨rfl, rfl, BXu.set_ 0 _⟩)))⟩, by decide⟩
    · clear HI
      have px : wr.cell? ⟨w.heap.size, 1, none⟩ = some (.int .u64 (x1 : Int)) := BX.cell 1
      have py : wr.cell? ⟨w.heap.size + 1, 1, none⟩ = some (.int .u64 (y1 : Int)) := BY.cell 1
      go_wp2
      refine wp_region_G (fun _ => false) (by kernel_rfl) ?_
      try simp only [Act.put]
      refine wpAnyG_take 0 rfl (by kernel_rfl) (fun _ _ _ h => h) (YieldsG.pure (by rfl) (fun w9 _ => by go_simp; try with_reducible rfl)) ?_
      try simp only [Act.put, List.setIfInBounds_toArray, List.set_cons_zero, List.set_cons_succ]
      refine wpAnyG_take 1 rfl (by kernel_rfl) (fun _ _ _ h => h) (YieldsG.pure (by rfl) (fun w9 _ => by go_simp; try with_reducible rfl)) ?_
      try simp only [Act.put, List.setIfInBounds_toArray, List.set_cons_zero, List.set_cons_succ]
      refine wpAnyG_take 2 rfl (by kernel_rfl) (fun _ _ _ h => h) (YieldsG.pure (v := .int .u64 (x1 : Int)) (by rfl) (fun w9 h9 => by have hz := (Below.cell (p := ⟨w.heap.size, 1, none⟩) h9 lX).trans px; go_simp; first | done | simp [hz])) ?_
      try simp only [Act.put, List.setIfInBounds_toArray, List.set_cons_zero, List.set_cons_succ]
      refine wpAnyG_take 3 rfl (by kernel_rfl) (fun _ _ _ h => h) (YieldsG.pure (by rfl) (fun w9 _ => by go_simp; try with_reducible rfl)) ?_
      try simp only [Act.put, List.setIfInBounds_toArray, List.set_cons_zero, List.set_cons_succ]
      refine wpAnyG_take 4 rfl (by kernel_rfl) (fun _ _ _ h => h) (YieldsG.pure (by rfl) (fun w9 _ => by go_simp; try with_reducible rfl)) ?_
      try simp only [Act.put, List.setIfInBounds_toArray, List.set_cons_zero, List.set_cons_succ]
      refine wpAnyG_take 5 rfl (by kernel_rfl) (fun _ _ _ h => h) (YieldsG.pure (v := .int .u64 (y1 : Int)) (by rfl) (fun w9 h9 => by have hz := (Below.cell (p := ⟨w.heap.size + 1, 1, none⟩) h9 lY).trans py; go_simp; first | done | simp [hz])) ?_
      try simp only [Act.put, List.setIfInBounds_toArray, List.set_cons_zero, List.set_cons_succ]
      refine wpAnyG_take 6 rfl (by kernel_rfl) (fun _ _ _ h => h) (YieldsG.pure (by rfl) (fun w9 _ => by go_simp; try with_reducible rfl)) ?_
      try simp only [Act.put, List.setIfInBounds_toArray, List.set_cons_zero, List.set_cons_succ]
      refine wpAnyG_take 7 rfl (by kernel_rfl) (fun _ _ _ h => h) (YieldsG.pure (v := .tuple #[.int .u64 (s1 : Int), .int .u64 (c1 : Int)]) (by rfl) (fun w9 h9 => by go_simp)) ?_
      try simp only [Act.put, List.setIfInBounds_toArray, List.set_cons_zero, List.set_cons_succ]
      refine wpAnyG_take 8 rfl (by kernel_rfl) (fun _ _ _ h => h) (YieldsG.pure (by rfl) (fun w9 _ => by go_simp; try with_reducible rfl)) ?_
      try simp only [Act.put, List.setIfInBounds_toArray, List.set_cons_zero, List.set_cons_succ]
      refine wpAnyG_take 9 rfl (by kernel_rfl) (fun _ _ _ h => h) (YieldsG.pure (by rfl) (fun w9 _ => by go_simp; try with_reducible rfl)) ?_
      try simp only [Act.put, List.setIfInBounds_toArray, List.set_cons_zero, List.set_cons_succ]
      refine wpAnyG_take 10 rfl (by kernel_rfl) (fun _ _ _ h => h) (YieldsG.pure (by rfl) (fun w9 _ => by go_simp; try with_reducible rfl)) ?_
      try simp only [Act.put, List.setIfInBounds_toArray, List.set_cons_zero, List.set_cons_succ]
      refine wpAnyG_take 11 rfl (by kernel_rfl) (fun _ _ _ h => h) (YieldsG.pure (by rfl) (fun w9 _ => by go_simp; try with_reducible rfl)) ?_
      try simp only [Act.put, List.setIfInBounds_toArray, List.set_cons_zero, List.set_cons_succ]
      refine wpAnyG_take 12 rfl (by kernel_rfl) (fun _ _ _ h => h) (YieldsG.pure (by rfl) (fun w9 _ => by go_simp; try with_reducible rfl)) ?_
      try simp only [Act.put, List.setIfInBounds_toArray, List.set_cons_zero, List.set_cons_succ]
      refine wpAnyG_done (by kernel_rfl) (fun u hu => ?_)
      have BXu := Gr.blk hu BX
      have BYu := Gr.blk hu BY
      have BRu := Gr.blk hu BR
      have hbu := Below.gr hb hu
      have pc : u.cell? ⟨w.heap.size, 1, none⟩ = some (.int .u64 (x1 : Int)) := BXu.cell 1
      have pf := BXu.frozen 1
      go_wp2
      refine ⟨⟨hbu.setCell (Nat.le_refl _) _, BYu.far (by show w.heap.size + 1 ≠ w.heap.size; omega) _, BRu.far (by show w.heap.size + 2 ≠ w.heap.size; omega) _, Lib.hid (.inr (.inr (.inl (⟨rfl, rfl, BXu.set_ 1 _⟩))))⟩, by decide⟩
    · clear HI
      have px : wr.cell? ⟨w.heap.size, 2, none⟩ = some (.int .u64 (x2 : Int)) := BX.cell 2
      have py : wr.cell? ⟨w.heap.size + 1, 2, none⟩ = some (.int .u64 (y2 : Int)) := BY.cell 2
      go_wp2
      refine wp_region_G (fun _ => false) (by kernel_rfl) ?_
      try simp only [Act.put]
      refine wpAnyG_take 0 rfl (by kernel_rfl) (fun _ _ _ h => h) (YieldsG.pure (by rfl) (fun w9 _ => by go_simp; try with_reducible rfl)) ?_
      try simp only [Act.put, List.setIfInBounds_toArray, List.set_cons_zero, List.set_cons_succ]
      refine wpAnyG_take 1 rfl (by kernel_rfl) (fun _ _ _ h => h) (YieldsG.pure (by rfl) (fun w9 _ => by go_simp; try with_reducible rfl)) ?_
      try simp only [Act.put, List.setIfInBounds_toArray, List.set_cons_zero, List.set_cons_succ]
      refine wpAnyG_take 2 rfl (by kernel_rfl) (fun _ _ _ h => h) (YieldsG.pure (v := .int .u64 (x2 : Int)) (by rfl) (fun w9 h9 => by have hz := (Below.cell (p := ⟨w.heap.size, 2, none⟩) h9 lX).trans px; go_simp; first | done | simp [hz])) ?_
      try simp only [Act.put, List.setIfInBounds_toArray, List.set_cons_zero, List.set_cons_succ]
      refine wpAnyG_take 3 rfl (by kernel_rfl) (fun _ _ _ h => h) (YieldsG.pure (by rfl) (fun w9 _ => by go_simp; try with_reducible rfl)) ?_
      try simp only [Act.put, List.setIfInBounds_toArray, List.set_cons_zero, List.set_cons_succ]
      refine wpAnyG_take 4 rfl (by kernel_rfl) (fun _ _ _ h => h) (YieldsG.pure (by rfl) (fun w9 _ => by go_simp; try with_reducible rfl)) ?_
      try simp only [Act.put, List.setIfInBounds_toArray, List.set_cons_zero, List.set_cons_succ]
      refine wpAnyG_take 5 rfl (by kernel_rfl) (fun _ _ _ h => h) (YieldsG.pure (v := .int .u64 (y2 : Int)) (by rfl) (fun w9 h9 => by have hz := (Below.cell (p := ⟨w.heap.size + 1, 2, none⟩) h9 lY).trans py; go_simp; first | done | simp [hz])) ?_
      try simp only [Act.put, List.setIfInBounds_toArray, List.set_cons_zero, List.set_cons_succ]
      refine wpAnyG_take 6 rfl (by kernel_rfl) (fun _ _ _ h => h) (YieldsG.pure (by rfl) (fun w9 _ => by go_simp; try with_reducible rfl)) ?_
      try simp only [Act.put, List.setIfInBounds_toArray, List.set_cons_zero, List.set_cons_succ]
      refine wpAnyG_take 7 rfl (by kernel_rfl) (fun _ _ _ h => h) (YieldsG.pure (v := .tuple #[.int .u64 (s2 : Int), .int .u64 (c2 : Int)]) (by rfl) (fun w9 h9 => by go_simp)) ?_
      try simp only [Act.put, List.setIfInBounds_toArray, List.set_cons_zero, List.set_cons_succ]
      refine wpAnyG_take 8 rfl (by kernel_rfl) (fun _ _ _ h => h) (YieldsG.pure (by rfl) (fun w9 _ => by go_simp; try with_reducible rfl)) ?_
      try simp only [Act.put, List.setIfInBounds_toArray, List.set_cons_zero, List.set_cons_succ]
      refine wpAnyG_take 9 rfl (by kernel_rfl) (fun _ _ _ h => h) (YieldsG.pure (by rfl) (fun w9 _ => by go_simp; try with_reducible rfl)) ?_
      try simp only [Act.put, List.setIfInBounds_toArray, List.set_cons_zero, List.set_cons_succ]
      refine wpAnyG_take 10 rfl (by kernel_rfl) (fun _ _ _ h => h) (YieldsG.pure (by rfl) (fun w9 _ => by go_simp; try with_reducible rfl)) ?_
      try simp only [Act.put, List.setIfInBounds_toArray, List.set_cons_zero, List.set_cons_succ]
      refine wpAnyG_take 11 rfl (by kernel_rfl) (fun _ _ _ h => h) (YieldsG.pure (by rfl) (fun w9 _ => by go_simp; try with_reducible rfl)) ?_
      try simp only [Act.put, List.setIfInBounds_toArray, List.set_cons_zero, List.set_cons_succ]
      refine wpAnyG_take 12 rfl (by kernel_rfl) (fun _ _ _ h => h) (YieldsG.pure (by rfl) (fun w9 _ => by go_simp; try with_reducible rfl)) ?_
      try simp only [Act.put, List.setIfInBounds_toArray, List.set_cons_zero, List.set_cons_succ]
      refine wpAnyG_done (by kernel_rfl) (fun u hu => ?_)
      have BXu := Gr.blk hu BX
      have BYu := Gr.blk hu BY
      have BRu := Gr.blk hu BR
      have hbu := Below.gr hb hu
      have pc : u.cell? ⟨w.heap.size, 2, none⟩ = some (.int .u64 (x2 : Int)) := BXu.cell 2
      have pf := BXu.frozen 2
      go_wp2
      refine ⟨⟨hbu.setCell (Nat.le_refl _) _, BYu.far (by show w.heap.size + 1 ≠ w.heap.size; omega) _, BRu.far (by show w.heap.size + 2 ≠ w.heap.size; omega) _, Lib.hid (.inr (.inr (.inr (.inl (⟨rfl, rfl, BXu.set_ 2 _⟩)))))⟩, by decide⟩
    · clear HI
      have px : wr.cell? ⟨w.heap.size, 3, none⟩ = some (.int .u64 (x3 : Int)) := BX.cell 3
      have py : wr.cell? ⟨w.heap.size + 1, 3, none⟩ = some (.int .u64 (y3 : Int)) := BY.cell 3
      go_wp2
      refine wp_region_G (fun _ => false) (by kernel_rfl) ?_
      try simp only [Act.put]
      refine wpAnyG_take 0 rfl (by kernel_rfl) (fun _ _ _ h => h) (YieldsG.pure (by rfl) (fun w9 _ => by go_simp; try with_reducible rfl)) ?_
      try simp only [Act.put, List.setIfInBounds_toArray, List.set_cons_zero, List.set_cons_succ]
      refine wpAnyG_take 1 rfl (by kernel_rfl) (fun _ _ _ h => h) (YieldsG.pure (by rfl) (fun w9 _ => by go_simp; try with_reducible rfl)) ?_
      try simp only [Act.put, List.setIfInBounds_toArray, List.set_cons_zero, List.set_cons_succ]
      refine wpAnyG_take 2 rfl (by kernel_rfl) (fun _ _ _ h => h) (YieldsG.pure (v := .int .u64 (x3 : Int)) (by rfl) (fun w9 h9 => by have hz := (Below.cell (p := ⟨w.heap.size, 3, none⟩) h9 lX).trans px; go_simp; first | done | simp [hz])) ?_
      try simp only [Act.put, List.setIfInBounds_toArray, List.set_cons_zero, List.set_cons_succ]
      refine wpAnyG_take 3 rfl (by kernel_rfl) (fun _ _ _ h => h) (YieldsG.pure (by rfl) (fun w9 _ => by go_simp; try with_reducible rfl)) ?_
      try simp only [Act.put, List.setIfInBounds_toArray, List.set_cons_zero, List.set_cons_succ]
      refine wpAnyG_take 4 rfl (by kernel_rfl) (fun _ _ _ h => h) (YieldsG.pure (by rfl) (fun w9 _ => by go_simp; try with_reducible rfl)) ?_
      try simp only [Act.put, List.setIfInBounds_toArray, List.set_cons_zero, List.set_cons_succ]
      refine wpAnyG_take 5 rfl (by kernel_rfl) (fun _ _ _ h => h) (YieldsG.pure (v := .int .u64 (y3 : Int)) (by rfl) (fun w9 h9 => by have hz := (Below.cell (p := ⟨w.heap.size + 1, 3, none⟩) h9 lY).trans py; go_simp; first | done | simp [hz])) ?_
      try simp only [Act.put, List.setIfInBounds_toArray, List.set_cons_zero, List.set_cons_succ]
      refine wpAnyG_take 6 rfl (by kernel_rfl) (fun _ _ _ h => h) (YieldsG.pure (by rfl) (fun w9 _ => by go_simp; try with_reducible rfl)) ?_
      try simp only [Act.put, List.setIfInBounds_toArray, List.set_cons_zero, List.set_cons_succ]
      refine wpAnyG_take 7 rfl (by kernel_rfl) (fun _ _ _ h => h) (YieldsG.pure (v := .tuple #[.int .u64 (s3 : Int), .int .u64 (c3 : Int)]) (by rfl) (fun w9 h9 => by go_simp)) ?_
      try simp only [Act.put, List.setIfInBounds_toArray, List.set_cons_zero, List.set_cons_succ]
      refine wpAnyG_take 8 rfl (by kernel_rfl) (fun _ _ _ h => h) (YieldsG.pure (by rfl) (fun w9 _ => by go_simp; try with_reducible rfl)) ?_
      try simp only [Act.put, List.setIfInBounds_toArray, List.set_cons_zero, List.set_cons_succ]
      refine wpAnyG_take 9 rfl (by kernel_rfl) (fun _ _ _ h => h) (YieldsG.pure (by rfl) (fun w9 _ => by go_simp; try with_reducible rfl)) ?_
      try simp only [Act.put, List.setIfInBounds_toArray, List.set_cons_zero, List.set_cons_succ]
      refine wpAnyG_take 10 rfl (by kernel_rfl) (fun _ _ _ h => h) (YieldsG.pure (by rfl) (fun w9 _ => by go_simp; try with_reducible rfl)) ?_
      try simp only [Act.put, List.setIfInBounds_toArray, List.set_cons_zero, List.set_cons_succ]
      refine wpAnyG_take 11 rfl (by kernel_rfl) (fun _ _ _ h => h) (YieldsG.pure (by rfl) (fun w9 _ => by go_simp; try with_reducible rfl)) ?_
      try simp only [Act.put, List.setIfInBounds_toArray, List.set_cons_zero, List.set_cons_succ]
      refine wpAnyG_take 12 rfl (by kernel_rfl) (fun _ _ _ h => h) (YieldsG.pure (by rfl) (fun w9 _ => by go_simp; try with_reducible rfl)) ?_
      try simp only [Act.put, List.setIfInBounds_toArray, List.set_cons_zero, List.set_cons_succ]
      refine wpAnyG_done (by kernel_rfl) (fun u hu => ?_)
      have BXu := Gr.blk hu BX
      have BYu := Gr.blk hu BY
      have BRu := Gr.blk hu BR
      have hbu := Below.gr hb hu
      have pc : u.cell? ⟨w.heap.size, 3, none⟩ = some (.int .u64 (x3 : Int)) := BXu.cell 3
      have pf := BXu.frozen 3
      go_wp2
      refine ⟨⟨hbu.setCell (Nat.le_refl _) _, BYu.far (by show w.heap.size + 1 ≠ w.heap.size; omega) _, BRu.far (by show w.heap.size + 2 ≠ w.heap.size; omega) _, Lib.hid (.inr (.inr (.inr (.inr (⟨rfl, rfl, BXu.set_ 3 _⟩)))))⟩, by decide⟩
    · clear HI
      have BS := BX.eq_ (fcs_words Fd.out.symm).symm
      go_wp2_with (first | ((with_reducible refine here_load (d := some 28) ?_); refine wpList_load_fv rfl _ _ rfl (w.heap.size) rfl (s) _ _ _ (BS) (fv_fcs s) Tryz.underlying89 rfl (by kernel_rfl) ?_) | ((with_reducible refine here_store ?_); refine wpList_store_blk rfl _ _ _ rfl (w.heap.size + 2) (fcs (s)) rfl rfl _ _ (BR) (by kernel_rfl) (by rfl) (fcs_one _) ?_; intro w9 hL9 hB9 hK9))
      exact bodyPost_ret (results_cell_row rfl _ _ (w.heap.size + 2) _ _ (0, 0) _ rfl hL9 Tryz.underlying89 rfl (by kernel_rfl)) rfl ⟨rfl, hb.trans (hB9 _ (by omega))⟩

def eQ : Nat := 28948022309329048855892746252171976963317496166410141009864396001977208667916
def rtR (x : Nat) : Nat := pw x eQ
def sqrtR (x : Nat) : Nat × Bool := if mulP (rtR x) (rtR x) ≠ x % pM then (0, false) else if rtR x % 18446744073709551616 % 2 = 1 then (negP (rtR x), true) else (rtR x, true)
theorem fv_eQ : fv 28948022309329048855892746252171976963317496166410141009864396001977208667916 = .agg #[.int .u64 18446744072635809548, .int .u64 18446744073709551615, .int .u64 18446744073709551615, .int .u64 4611686018427387903] := rfl
theorem rem_two (n : Nat) (_ : n < 18446744073709551616) : ∃ b : Bool, b = decide (n % 2 = 1) ∧ (((n : Int) % 2 == 1) = b) := by
  refine ⟨_, rfl, ?_⟩
  rcases (show n % 2 = 0 ∨ n % 2 = 1 by omega) with h | h
  · have : (n : Int) % 2 = 0 := by omega
    rw [this, h]; rfl
  · have : (n : Int) % 2 = 1 := by omega
    rw [this, h]; rfl

set_option maxHeartbeats 8000000 in
set_option maxRecDepth 100000 in
theorem sqrtR_any (w : World) (x : Nat) (hx : x < 115792089237316195423570985008687907853269984665640564039457584007913129639936) : Calls Tryz.prog 108 #[fv x] w fun e w' => e = .returned (.tuple #[fv (sqrtR x).1, .bool (sqrtR x).2]) ∧ Below w.heap.size w w' := by
  obtain ⟨p, hp⟩ : ∃ p, p = 115792089237316195423570985008687907853269984665640564039457584007908834671663 := ⟨_, rfl⟩
  obtain ⟨one, h1⟩ : ∃ n, n = 1 := ⟨_, rfl⟩
  obtain ⟨e, he⟩ : ∃ e, e = 115792089237316195423570985008687907853269984665640564039457584007908834671663 + 1 := ⟨_, rfl⟩
  obtain ⟨q, hq⟩ : ∃ q, q = eQ := ⟨_, rfl⟩
  obtain ⟨r, hr⟩ : ∃ r, r = rtR x := ⟨_, rfl⟩
  obtain ⟨m, hm⟩ : ∃ z, z = mulP r r := ⟨_, rfl⟩
  obtain ⟨n, hn⟩ : ∃ z, z = x % pM := ⟨_, rfl⟩
  obtain ⟨g, hg⟩ : ∃ z, z = negP r := ⟨_, rfl⟩
  have lq : q < 115792089237316195423570985008687907853269984665640564039457584007913129639936 := by rw [hq, eQ]; omega
  have lr : r < 115792089237316195423570985008687907853269984665640564039457584007913129639936 := by rw [hr]; exact pw_lt _ _
  have lm : m < 115792089237316195423570985008687907853269984665640564039457584007913129639936 := by rw [hm]; exact mulP_lt _ _
  have ln : n < 115792089237316195423570985008687907853269984665640564039457584007913129639936 := by rw [hn]; exact mod_lt x
  have cP : ∀ w, Calls Tryz.prog 56 #[] w fun e w' => e = .returned (.agg #[.int .u64 18446744069414583343, .int .u64 18446744073709551615, .int .u64 18446744073709551615, .int .u64 18446744073709551615, .int .u64 4294968273, .int .u64 0, .int .u64 0]) ∧ Below w.heap.size w w' := refP_any
  have c1 : ∀ w, Calls Tryz.prog 144 #[.int .u64 1] w fun e w' => e = .returned (fv one) ∧ Below w.heap.size w w' := fun w => small_at w one 1 (by rw [h1]; rfl) (by omega)
  have cA : ∀ w, Calls Tryz.prog 158 #[fv p, fv one] w fun r w' => r = .returned (fv e) ∧ Below w.heap.size w w' := fun w => addR_at w p one e 0 rfl rfl (by omega) (by omega) (by omega) (by omega)
  have cW : ∀ w, Calls Tryz.prog 145 #[.agg #[.int .u64 18446744069414583343, .int .u64 18446744073709551615, .int .u64 18446744073709551615, .int .u64 18446744073709551615, .int .u64 4294968273, .int .u64 0, .int .u64 0], fv x, fv q] w fun e w' => e = .returned (fv r) ∧ Below w.heap.size w w' := by
    intro w; rw [hr, rtR, ← hq]; exact power_any w x q hx lq
  have cM : ∀ w, Calls Tryz.prog 101 #[.agg #[.int .u64 18446744069414583343, .int .u64 18446744073709551615, .int .u64 18446744073709551615, .int .u64 18446744073709551615, .int .u64 4294968273, .int .u64 0, .int .u64 0], fv r, fv r] w fun e w' => e = .returned (fv m) ∧ Below w.heap.size w w' := by
    intro w; rw [hm]; exact mulR_any w r r lr lr
  have cN : ∀ w, Calls Tryz.prog 89 #[.agg #[.int .u64 18446744069414583343, .int .u64 18446744073709551615, .int .u64 18446744073709551615, .int .u64 18446744073709551615, .int .u64 4294968273, .int .u64 0, .int .u64 0], fv x] w fun e w' => e = .returned (fv n) ∧ Below w.heap.size w w' := by
    intro w; rw [hn]; exact normR_any w x hx
  have cG : ∀ w, Calls Tryz.prog 113 #[.agg #[.int .u64 18446744069414583343, .int .u64 18446744073709551615, .int .u64 18446744073709551615, .int .u64 18446744073709551615, .int .u64 4294968273, .int .u64 0, .int .u64 0], fv r] w fun e w' => e = .returned (fv g) ∧ Below w.heap.size w w' := by
    intro w; rw [hg]; exact negR_any w r lr
  obtain ⟨b, hb⟩ : ∃ b, b = decide (m ≠ n) := ⟨_, rfl⟩
  have eb : ∀ W, (binOp .neq 89 (fv m) (fv n)).run Tryz.prog W = .ok (.bool b) W := fun W => by rw [hb]; exact Nm.run_neq_fv W m n lm ln
  obtain ⟨r0, r1, r2, r3, a0, a1, a2, a3, er, fr⟩ := words_of r lr
  obtain ⟨o, ho, hob⟩ := rem_two r0 a0
  have hS : sqrtR x = if b = true then (0, false) else if o = true then (g, true) else (r, true) := by
    unfold sqrtR
    have h0 : r % 18446744073709551616 = r0 := by omega
    rw [← hr, ← hm, ← hn, ← hg, hb, ho, h0]
    by_cases h1 : m = n <;> by_cases h2 : r0 % 2 = 1 <;> simp [h1, h2]
  have FP : Hid (fv p = .agg #[.int .u64 18446744069414583343, .int .u64 18446744073709551615, .int .u64 18446744073709551615, .int .u64 18446744073709551615]) := Lib.hid (by rw [hp]; exact fv_P)
  have FE : Hid (fv e = .agg #[.int .u64 18446744069414583344, .int .u64 18446744073709551615, .int .u64 18446744073709551615, .int .u64 18446744073709551615]) := Lib.hid (by rw [he]; rfl)
  have FQ : Hid (fv q = .agg #[.int .u64 18446744072635809548, .int .u64 18446744073709551615, .int .u64 18446744073709551615, .int .u64 4611686018427387903]) := Lib.hid (by rw [hq]; exact fv_eQ)
  have FR := Lib.hid fr
  obtain ⟨x0, x1, x2, x3, fx⟩ := words_fv x hx
  have FX := Lib.hid fx
  rw [fx, hS]
  clear fx hx hp h1 he hq hr hm hn hg lq lr lm ln hb ho hS a0 a1 a2 a3 er fr
  go_enter Tryz.func108, Tryz.ntmps108
  go_wp2_with fail
  refine (cP _).mono ?_
  rintro z w1 ⟨rfl, k1⟩
  have BX := Gr.blk k1 ((Blk.new w _ _).alloc _)
  have BR := Gr.blk k1 (blk_new2 w _ _ _)
  have hB := Below.gr (below_alloc2 w _ _) k1
  have sz1 : w.heap.size + 1 < w1.heap.size := BR.lt
  clear k1 cP
  go_wp2_with (first | ((with_reducible refine here_store ?_); refine wpList_store_blk rfl _ _ _ rfl (w1.heap.size) #[.int .u64 18446744069414583343, .int .u64 18446744073709551615, .int .u64 18446744073709551615, .int .u64 18446744073709551615, .int .u64 4294968273, .int .u64 0, .int .u64 0] rfl rfl _ _ (Blk.new w1 _ _) (by kernel_rfl) (by rfl) (by simp [Value.oneCell']) ?_; intro w2 hL2 hq2 hK2; have BX2 := hK2 _ (by omega) _ _ (BX.alloc _); have BR2 := hK2 _ (by omega) _ _ (BR.alloc _); have hB2 := (hB.alloc (by omega) _).trans (hq2 _ (by omega))))
  refine wp_region_G (fun j => j == 5) (by kernel_rfl) ?_
  try simp only [Act.put]
  refine wpAnyG_take 0 rfl (by kernel_rfl) (fun _ _ _ h => h) (YieldsG.pure (by rfl) (fun w9 _ => by go_simp; try with_reducible rfl)) ?_
  try simp only [Act.put, List.setIfInBounds_toArray, List.set_cons_zero, List.set_cons_succ]
  refine wpAnyG_take 1 rfl (by kernel_rfl) (fun _ _ _ h => h) (YieldsG.loadP (by rfl) _ _ rfl w1.heap.size rfl p _ (Blk.lt hL2) (mod_range hL2) FP.out Tryz.underlying89 rfl (by kernel_rfl)) ?_
  try simp only [Act.put, List.setIfInBounds_toArray, List.set_cons_zero, List.set_cons_succ]
  refine wpAnyG_take 2 rfl (by kernel_rfl) (fun _ _ _ h => h) (YieldsG.call (v := fv one) (by rfl) 144 _ (fun w9 => by go_simp; try (first | with_reducible rfl | rfl)) (fun w9 h9 => c1 w9)) ?_
  try simp only [Act.put, List.setIfInBounds_toArray, List.set_cons_zero, List.set_cons_succ]
  refine wpAnyG_take 3 rfl (by kernel_rfl) (fun _ _ _ h => h) (YieldsG.call (v := fv e) (by rfl) 158 _ (fun w9 => by go_simp; try (first | with_reducible rfl | rfl)) (fun w9 h9 => cA w9)) ?_
  try simp only [Act.put, List.setIfInBounds_toArray, List.set_cons_zero, List.set_cons_succ]
  refine wpAnyG_sole 4 rfl (by kernel_rfl) (by rfl) (fun w4 h4 K hK => ?_)
  go_simp
  refine hK _ _ (fun _ => gr_alloc _ _) ?_
  clear hK K
  try simp only [Act.put, List.setIfInBounds_toArray, List.set_cons_zero, List.set_cons_succ]
  refine wpAnyG_store 5 rfl (by kernel_rfl) (by rfl) _ _ _ rfl (w4.heap.size) (fcs (e)) rfl rfl _ _ (Blk.new w4 _ _) (by kernel_rfl) (by rfl) (fcs_one _) rfl (fun w6 h6 w7 hB7 hL7 => ?_)
  try simp only [Act.put]
  refine wpAnyG_done (by kernel_rfl) (fun w8 h8 => ?_)
  have sz4 : w1.heap.size < w4.heap.size := by have := hL2.lt; have := h4.size; omega
  have BM8 : Blk w8 w1.heap.size 94 #[.int .u64 18446744069414583343, .int .u64 18446744073709551615, .int .u64 18446744073709551615, .int .u64 18446744073709551615, .int .u64 4294968273, .int .u64 0, .int .u64 0] := Gr.blk h8 (Blk.below (B := w4.heap.size) (Gr.blk h6 (Blk.alloc (Gr.blk h4 hL2) _)) (hB7 _ (Nat.le_refl _)) (by omega))
  have BX8 := Gr.blk h8 (Blk.below (B := w4.heap.size) (Gr.blk h6 (Blk.alloc (Gr.blk h4 BX2) _)) (hB7 _ (Nat.le_refl _)) (by omega))
  have BR8 := Gr.blk h8 (Blk.below (B := w4.heap.size) (Gr.blk h6 (Blk.alloc (Gr.blk h4 BR2) _)) (hB7 _ (Nat.le_refl _)) (by omega))
  have BE8 : Blk w8 w4.heap.size 89 #[.int .u64 18446744069414583344, .int .u64 18446744073709551615, .int .u64 18446744073709551615, .int .u64 18446744073709551615] := (Gr.blk h8 hL7).eq_ (fcs_words FE.out)
  have hB8 : Below w.heap.size w w8 := Below.gr ((Below.gr ((Below.gr hB2 h4).alloc (by omega) _) h6).trans (hB7 _ (by omega))) h8
  clear h4 h6 hB7 hL7 h8 c1 cA hL2 BX2 BR2 hB2
  go_wp2_with fail
  go_loopw [6, 7] (fun rs i wr => Below w.heap.size w wr ∧ Blk wr w1.heap.size 94 #[.int .u64 18446744069414583343, .int .u64 18446744073709551615, .int .u64 18446744073709551615, .int .u64 18446744073709551615, .int .u64 4294968273, .int .u64 0, .int .u64 0] ∧ Blk wr w.heap.size 89 #[.int .u64 x0, .int .u64 x1, .int .u64 x2, .int .u64 x3] ∧ Blk wr (w.heap.size + 1) 89 #[.int .u64 0, .int .u64 0, .int .u64 0, .int .u64 0] ∧ Hid ((i = .int .i64 3 ∧ rs = .int .u64 0 ∧ Blk wr w4.heap.size 89 #[.int .u64 18446744069414583344, .int .u64 18446744073709551615, .int .u64 18446744073709551615, .int .u64 18446744073709551615]) ∨ (i = .int .i64 2 ∧ rs = .int .u64 3 ∧ Blk wr w4.heap.size 89 #[.int .u64 18446744069414583344, .int .u64 18446744073709551615, .int .u64 18446744073709551615, .int .u64 4611686018427387903]) ∨ (i = .int .i64 1 ∧ rs = .int .u64 3 ∧ Blk wr w4.heap.size 89 #[.int .u64 18446744069414583344, .int .u64 18446744073709551615, .int .u64 18446744073709551615, .int .u64 4611686018427387903]) ∨ (i = .int .i64 0 ∧ rs = .int .u64 3 ∧ Blk wr w4.heap.size 89 #[.int .u64 18446744069414583344, .int .u64 18446744073709551615, .int .u64 18446744073709551615, .int .u64 4611686018427387903]) ∨ (i = .int .i64 (-1) ∧ rs = .int .u64 0 ∧ Blk wr w4.heap.size 89 #[.int .u64 18446744072635809548, .int .u64 18446744073709551615, .int .u64 18446744073709551615, .int .u64 4611686018427387903]))) (fun _ i _ => (intOf i + 1).toNat)
  case atStart => exact ⟨hB8, BM8, BX8, BR8, Lib.hid (.inl ⟨rfl, rfl, BE8⟩)⟩
  case round =>
    clear hB8 BM8 BX8 BR8 BE8
    obtain ⟨hb, BM, BX, BR, HI⟩ := hrel
    rcases HI.out with ⟨rfl, rfl, BE⟩ | ⟨rfl, rfl, BE⟩ | ⟨rfl, rfl, BE⟩ | ⟨rfl, rfl, BE⟩ | ⟨rfl, rfl, BE⟩
    · clear HI
      have pe : wr.cell? ⟨w4.heap.size, 3, none⟩ = some (.int .u64 18446744073709551615) := BE.cell 3
      have pf := BE.frozen 3
      go_wp2
      refine ⟨⟨hb.setCell (by show w.heap.size ≤ w4.heap.size; omega) _, BM.far (by show w1.heap.size ≠ w4.heap.size; omega) _, BX.far (by show w.heap.size ≠ w4.heap.size; omega) _, BR.far (by show w.heap.size + 1 ≠ w4.heap.size; omega) _, Lib.hid (.inr (.inl (⟨rfl, rfl, BE.set_ 3 _⟩)))⟩, by decide⟩
    · clear HI
      have pe : wr.cell? ⟨w4.heap.size, 2, none⟩ = some (.int .u64 18446744073709551615) := BE.cell 2
      have pf := BE.frozen 2
      go_wp2
      refine ⟨⟨hb.setCell (by show w.heap.size ≤ w4.heap.size; omega) _, BM.far (by show w1.heap.size ≠ w4.heap.size; omega) _, BX.far (by show w.heap.size ≠ w4.heap.size; omega) _, BR.far (by show w.heap.size + 1 ≠ w4.heap.size; omega) _, Lib.hid (.inr (.inr (.inl (⟨rfl, rfl, BE.set_ 2 _⟩))))⟩, by decide⟩
    · clear HI
      have pe : wr.cell? ⟨w4.heap.size, 1, none⟩ = some (.int .u64 18446744073709551615) := BE.cell 1
      have pf := BE.frozen 1
      go_wp2
      refine ⟨⟨hb.setCell (by show w.heap.size ≤ w4.heap.size; omega) _, BM.far (by show w1.heap.size ≠ w4.heap.size; omega) _, BX.far (by show w.heap.size ≠ w4.heap.size; omega) _, BR.far (by show w.heap.size + 1 ≠ w4.heap.size; omega) _, Lib.hid (.inr (.inr (.inr (.inl (⟨rfl, rfl, BE.set_ 1 _⟩)))))⟩, by decide⟩
    · clear HI
      have pe : wr.cell? ⟨w4.heap.size, 0, none⟩ = some (.int .u64 18446744069414583344) := BE.cell 0
      have pf := BE.frozen 0
      go_wp2
      refine ⟨⟨hb.setCell (by show w.heap.size ≤ w4.heap.size; omega) _, BM.far (by show w1.heap.size ≠ w4.heap.size; omega) _, BX.far (by show w.heap.size ≠ w4.heap.size; omega) _, BR.far (by show w.heap.size + 1 ≠ w4.heap.size; omega) _, Lib.hid (.inr (.inr (.inr (.inr (⟨rfl, rfl, BE.set_ 0 _⟩)))))⟩, by decide⟩
    · clear HI
      have sl := BE.lt
      go_wp2_with (first | ((with_reducible refine here_load (d := some 31) ?_); refine wpList_load_blk rfl _ _ rfl w1.heap.size rfl _ _ _ (BM) Tryz.underlying94 rfl (by kernel_rfl) ?_) | ((with_reducible refine here_load (d := some 32) ?_); refine wpList_load_fv rfl _ _ rfl (w.heap.size) rfl (x) _ _ _ (BX) (FX.out) Tryz.underlying89 rfl (by kernel_rfl) ?_) | ((with_reducible refine here_load (d := some 33) ?_); refine wpList_load_fv rfl _ _ rfl (w4.heap.size) rfl (q) _ _ _ (BE) (FQ.out) Tryz.underlying89 rfl (by kernel_rfl) ?_))
      refine (cW _).mono ?_
      rintro z w5 ⟨rfl, k1⟩
      have BM := Gr.blk k1 BM
      have BX := Gr.blk k1 BX
      have BR := Gr.blk k1 BR
      have hb := Below.gr hb k1
      have sz5 : w4.heap.size < w5.heap.size := Nat.lt_of_lt_of_le sl k1.size
      clear k1 cW BE
      go_wp2_with (first | ((with_reducible refine here_store ?_); refine wpList_store_blk rfl _ _ _ rfl (w5.heap.size) (fcs (r)) rfl rfl _ _ (Blk.new w5 _ _) (by kernel_rfl) (by rfl) (fcs_one _) ?_; intro w6 hL6 hq6 hK6; have BM6 := hK6 _ (by omega) _ _ (BM.alloc _); have BX6 := hK6 _ (by omega) _ _ (BX.alloc _); have BR6 := hK6 _ (by omega) _ _ (BR.alloc _); have hB6 := (hb.alloc (by omega) _).trans (hq6 _ (by omega))))
      refine wp_region_G (fun _ => false) (by kernel_rfl) ?_
      try simp only [Act.put]
      refine wpAnyG_take 0 rfl (by kernel_rfl) (fun _ _ _ h => h) (YieldsG.load (by rfl) _ _ rfl w1.heap.size 0 rfl ([.int .u64 18446744069414583343, .int .u64 18446744073709551615, .int .u64 18446744073709551615, .int .u64 18446744073709551615, .int .u64 4294968273, .int .u64 0, .int .u64 0]) _ (Blk.lt (BM6)) (Blk.range (BM6)) Tryz.underlying94 rfl (by kernel_rfl)) ?_
      try simp only [Act.put, List.setIfInBounds_toArray, List.set_cons_zero, List.set_cons_succ]
      refine wpAnyG_take 1 rfl (by kernel_rfl) (fun _ _ _ h => h) (YieldsG.loadF (by rfl) _ _ rfl (w5.heap.size) rfl (r) _ _ (hL6) (fv_fcs _) Tryz.underlying89 rfl (by kernel_rfl)) ?_
      try simp only [Act.put, List.setIfInBounds_toArray, List.set_cons_zero, List.set_cons_succ]
      refine wpAnyG_take 2 rfl (by kernel_rfl) (fun _ _ _ h => h) (YieldsG.loadF (by rfl) _ _ rfl (w5.heap.size) rfl (r) _ _ (hL6) (fv_fcs _) Tryz.underlying89 rfl (by kernel_rfl)) ?_
      try simp only [Act.put, List.setIfInBounds_toArray, List.set_cons_zero, List.set_cons_succ]
      refine wpAnyG_take 3 rfl (by kernel_rfl) (fun _ _ _ h => h) (YieldsG.call (v := fv m) (by rfl) 101 _ (fun w9 => by go_simp; try (first | with_reducible rfl | rfl)) (fun w9 h9 => cM w9)) ?_
      try simp only [Act.put, List.setIfInBounds_toArray, List.set_cons_zero, List.set_cons_succ]
      refine wpAnyG_take 4 rfl (by kernel_rfl) (fun _ _ _ h => h) (YieldsG.load (by rfl) _ _ rfl w1.heap.size 0 rfl ([.int .u64 18446744069414583343, .int .u64 18446744073709551615, .int .u64 18446744073709551615, .int .u64 18446744073709551615, .int .u64 4294968273, .int .u64 0, .int .u64 0]) _ (Blk.lt (BM6)) (Blk.range (BM6)) Tryz.underlying94 rfl (by kernel_rfl)) ?_
      try simp only [Act.put, List.setIfInBounds_toArray, List.set_cons_zero, List.set_cons_succ]
      refine wpAnyG_take 5 rfl (by kernel_rfl) (fun _ _ _ h => h) (YieldsG.loadF (by rfl) _ _ rfl (w.heap.size) rfl (x) _ _ (BX6) (FX.out) Tryz.underlying89 rfl (by kernel_rfl)) ?_
      try simp only [Act.put, List.setIfInBounds_toArray, List.set_cons_zero, List.set_cons_succ]
      refine wpAnyG_take 6 rfl (by kernel_rfl) (fun _ _ _ h => h) (YieldsG.call (v := fv n) (by rfl) 89 _ (fun w9 => by go_simp; try (first | with_reducible rfl | rfl)) (fun w9 h9 => cN w9)) ?_
      try simp only [Act.put, List.setIfInBounds_toArray, List.set_cons_zero, List.set_cons_succ]
      refine wpAnyG_take 7 rfl (by kernel_rfl) (fun _ _ _ h => h) (YieldsG.pure (v := .bool b) (by rfl) (fun w9 h9 => by go_simp; rw [Nm.run_eqGuard_fv]; simp only [Result.andThen_ok])) ?_
      try simp only [Act.put, List.setIfInBounds_toArray, List.set_cons_zero, List.set_cons_succ]
      refine wpAnyG_done (by kernel_rfl) (fun u hu => ?_)
      have BM := Gr.blk hu BM6
      have BR := Gr.blk hu BR6
      have BRT := Gr.blk hu hL6
      have hb := Below.gr hB6 hu
      have BW : Blk u w5.heap.size 89 #[.int .u64 (r0 : Int), .int .u64 (r1 : Int), .int .u64 (r2 : Int), .int .u64 (r3 : Int)] := BRT.eq_ (fcs_words FR.out)
      have pc : u.cell? ⟨w5.heap.size, 0, none⟩ = some (.int .u64 (r0 : Int)) := BW.cell 0
      clear hu BM6 BX6 BR6 hL6 hB6 BX eb cM cN BW
      cases b
      · cases o
        · go_wp2_with (first | ((with_reducible refine here_load (d := some 51) ?_); refine wpList_load_fv rfl _ _ rfl (w5.heap.size) rfl (r) _ _ _ (BRT) (fv_fcs _) Tryz.underlying89 rfl (by kernel_rfl) ?_) | ((with_reducible refine here_store ?_); refine wpList_store_blk rfl _ _ _ rfl (w.heap.size + 1) (fcs (r)) rfl rfl _ _ (BR) (by kernel_rfl) (by rfl) (fcs_one _) ?_; intro w9 hL9 hB9 hK9))
          exact bodyPost_ret (res_cell_tmp rfl _ _ (w.heap.size + 1) _ _ _ _ rfl hL9 rfl Tryz.underlying89 rfl (by kernel_rfl)) rfl ⟨rfl, hb.trans (hB9 _ (by omega))⟩
        · go_wp2_with (first | ((with_reducible refine here_load (d := some 48) ?_); refine wpList_load_blk rfl _ _ rfl w1.heap.size rfl _ _ _ (BM) Tryz.underlying94 rfl (by kernel_rfl) ?_) | ((with_reducible refine here_load (d := some 49) ?_); refine wpList_load_fv rfl _ _ rfl (w5.heap.size) rfl (r) _ _ _ (BRT) (fv_fcs _) Tryz.underlying89 rfl (by kernel_rfl) ?_))
          refine (cG _).mono ?_
          rintro z w6 ⟨rfl, k1⟩
          have BR := Gr.blk k1 BR
          have hb := Below.gr hb k1
          clear k1 cG
          go_wp2_with (first | ((with_reducible refine here_store ?_); refine wpList_store_blk rfl _ _ _ rfl (w.heap.size + 1) (fcs (g)) rfl rfl _ _ (BR) (by kernel_rfl) (by rfl) (fcs_one _) ?_; intro w9 hL9 hB9 hK9))
          exact bodyPost_ret (res_cell_tmp rfl _ _ (w.heap.size + 1) _ _ _ _ rfl hL9 rfl Tryz.underlying89 rfl (by kernel_rfl)) rfl ⟨rfl, hb.trans (hB9 _ (by omega))⟩
      · go_wp2_with (first | ((with_reducible refine here_store ?_); refine wpList_store_blk rfl _ _ _ rfl (w.heap.size + 1) _ rfl rfl _ _ (BR) (by kernel_rfl) (by rfl) (by simp [Value.oneCell']) ?_; intro w9 hL9 hB9 hK9))
        exact bodyPost_ret (res_cell_tmp rfl _ _ (w.heap.size + 1) _ _ _ _ rfl hL9 rfl Tryz.underlying89 rfl (by kernel_rfl)) rfl ⟨rfl, hb.trans (hB9 _ (by omega))⟩
end Go.Proofs.YtbofhoonlmikcaaGreatDoor

end
section
namespace Go.Proofs.YtbofhoonlmikcaaGreatDoor
open Go.RowKit Go.Lib

theorem eRoot_is : eRoot = eQ := by decide +kernel
theorem root_is (x : Nat) : rtR x = rootR x := by
  have h := rootR_pow x
  rw [rootR_red, eRoot_is] at h
  rw [h]
  rfl
theorem root_lt_p (x : Nat) : rootR x < pM := by rw [← rootR_red]; exact mod_lt_p _
theorem low_odd (r : Nat) : r % 18446744073709551616 % 2 = r % 2 := by omega
theorem sqrt_is (x : Nat) : sqrtR x = sqrtS x := by
  unfold sqrtR sqrtS
  rw [root_is, low_odd, rootR_red]

theorem neg_of (r : Nat) (h : r < pM) (h0 : r ≠ 0) : negP r = pM - r := by
  unfold negP
  rw [Nat.mod_eq_of_lt h]
  exact Nat.mod_eq_of_lt (by omega)
theorem neg_sq (r : Nat) (h : r < pM) (h0 : r ≠ 0) : mulP (negP r) (negP r) = mulP r r := by
  rw [neg_of r h h0]
  obtain ⟨q, hq⟩ : ∃ q, pM = q + r := ⟨pM - r, by omega⟩
  rw [show pM - r = q by omega]
  unfold mulP
  have e : q * q + pM * r = r * r + pM * q := by
    rw [hq, Nat.add_mul, Nat.add_mul, Nat.mul_comm r q]
    omega
  have h1 : (q * q + pM * r) % pM = q * q % pM := Nat.add_mul_mod_self_left _ _ _
  have h2 : (r * r + pM * q) % pM = r * r % pM := Nat.add_mul_mod_self_left _ _ _
  rw [← h1, ← h2, e]
theorem pM_odd : pM % 2 = 1 := by decide +kernel
theorem sqrt_even (x : Nat) : (sqrtS x).1 % pM % 2 = 0 := by
  unfold sqrtS
  have hr := root_lt_p x
  by_cases h1 : mulP (rootR x) (rootR x) ≠ x % pM
  · rw [if_pos h1]; rw [Nat.zero_mod]
  · rw [if_neg h1]
    by_cases h2 : rootR x % pM % 2 = 1
    · rw [if_pos h2]
      rw [rootR_red] at h2
      have h0 : rootR x ≠ 0 := by omega
      have e := neg_of _ hr h0
      have hp := pM_odd
      show negP (rootR x) % pM % 2 = 0
      rw [e, Nat.mod_eq_of_lt (show pM - rootR x < pM by omega)]
      omega
    · rw [if_neg h2]
      show rootR x % pM % 2 = 0
      omega
theorem sqrt_lt (x : Nat) : (sqrtS x).1 < 115792089237316195423570985008687907853269984665640564039457584007913129639936 := by
  unfold sqrtS
  by_cases h1 : mulP (rootR x) (rootR x) ≠ x % pM
  · rw [if_pos h1]; show 0 < _; omega
  · rw [if_neg h1]
    by_cases h2 : rootR x % pM % 2 = 1
    · rw [if_pos h2]; exact negP_lt _
    · rw [if_neg h2]; exact rootR_lt _
theorem sqrt_mul (x : Nat) (h : (sqrtS x).2 = true) : mulP (sqrtS x).1 (sqrtS x).1 = x % pM := by
  unfold sqrtS at h ⊢
  by_cases h1 : mulP (rootR x) (rootR x) ≠ x % pM
  · rw [if_pos h1] at h; cases h
  · rw [if_neg h1]
    have h1' : mulP (rootR x) (rootR x) = x % pM := Classical.not_not.1 h1
    by_cases h2 : rootR x % pM % 2 = 1
    · rw [if_pos h2]
      rw [rootR_red] at h2
      show mulP (negP (rootR x)) (negP (rootR x)) = _
      rw [neg_sq _ (root_lt_p x) (by omega)]
      exact h1'
    · rw [if_neg h2]; exact h1'
end Go.Proofs.YtbofhoonlmikcaaGreatDoor

end
