/-
  Texts of ours, put together: RefAdd, RefMul.
-/
import Derived.Test.YtneeefinaejgcaaDoorBG4
set_option linter.unusedVariables false
set_option linter.unusedSimpArgs false
section
namespace Go.Proofs.YtneeefinaejgcaaDoor
open Go.RowKit Go.Lib

theorem below_alloc4 (w : World) (a b c d : Obj) : Below w.heap.size w ((((w.alloc a).alloc b).alloc c).alloc d) := (below_alloc3 w a b c).alloc (by simp <;> omega) _
theorem below_alloc5 (w : World) (a b c d e : Obj) : Below w.heap.size w (((((w.alloc a).alloc b).alloc c).alloc d).alloc e) := (below_alloc4 w a b c d).alloc (by simp <;> omega) _
theorem blk_new5 (w : World) (a b c d : Obj) (t : TypeId) (cs : Array Value) : Blk (((((w.alloc a).alloc b).alloc c).alloc d).alloc (.cells cs t)) (w.heap.size + 4) t cs := by
  have h := Blk.new ((((w.alloc a).alloc b).alloc c).alloc d) t cs
  have e : ((((w.alloc a).alloc b).alloc c).alloc d).heap.size = w.heap.size + 4 := by simp
  rwa [e] at h
section
variable {P : Program} {ops : Array Oper}
/-- a load of a number out of the beginning of a block -/
theorem YieldsG.loadP {o : Oper} {a : Act} {w : World} {d : TypeDesc} (hw : Region.wanted o (yielded ops a.tmps) = true) (ty : TypeId) (x : Operand) (ho : o.op = .load ty x)
    (g : Nat) (hx : a.eval x = .pointer (some ⟨g, 0, none⟩)) (n : Nat) (cs : List Value) (hl : g < w.heap.size) (hr : w.rangeAt g 0 cs) (hf : fv n = .agg cs.toArray)
    (hu : P.underlying ty = some d) (hd : d.isRow = true) (hi : (P.info? ty).map (·.size) = some cs.length) : YieldsG P ops o (fv n) a w := by
  rw [hf]
  exact YieldsG.load hw ty x ho g 0 hx cs d hl hr hu hd hi
end

set_option maxHeartbeats 8000000 in
set_option maxRecDepth 100000 in
theorem addR_any (w : World) (x y : Nat) (hx : x < 115792089237316195423570985008687907853269984665640564039457584007913129639936) (hy : y < 115792089237316195423570985008687907853269984665640564039457584007913129639936) : Calls Tryd.prog 113 #[.agg #[.int .u64 18446744069414583343, .int .u64 18446744073709551615, .int .u64 18446744073709551615, .int .u64 18446744073709551615, .int .u64 4294968273, .int .u64 0, .int .u64 0], fv x, fv y] w fun e w' => e = .returned (fv (addP x y)) ∧ Below w.heap.size w w' := by
  obtain ⟨x0, x1, x2, x3, a0, a1, a2, a3, ex, fx⟩ := words_of x hx
  obtain ⟨y0, y1, y2, y3, b0, b1, b2, b3, ey, fy⟩ := words_of y hy
  obtain ⟨s0, c0, d0, k0, e0, r0⟩ := add0_ex x0 y0 a0 b0
  obtain ⟨s1, c1, d1, k1, e1, r1⟩ := addc_ex x1 y1 c0 a1 b1 k0
  obtain ⟨s2, c2, d2, k2, e2, r2⟩ := addc_ex x2 y2 c1 a2 b2 k1
  obtain ⟨s3, c3, d3, k3, e3, r3⟩ := addc_ex x3 y3 c2 a3 b3 k2
  have fin : val8 s0 s1 s2 s3 c3 0 0 0 = x + y := by simp only [val8]; omega
  obtain ⟨z, hz⟩ : ∃ z, z = addP x y := ⟨_, rfl⟩
  have cF : ∀ w, Calls Tryd.prog 111 #[.agg #[.int .u64 18446744069414583343, .int .u64 18446744073709551615, .int .u64 18446744073709551615, .int .u64 18446744073709551615, .int .u64 4294968273, .int .u64 0, .int .u64 0], .agg #[.int .u64 (s0 : Int), .int .u64 (s1 : Int), .int .u64 (s2 : Int), .int .u64 (s3 : Int), .int .u64 (c3 : Int), .int .u64 0, .int .u64 0, .int .u64 0]] w fun e w' => e = .returned (fv z) ∧ Below w.heap.size w w' := by
    intro w
    have h := fold_any w s0 s1 s2 s3 c3 0 0 0 ⟨d0, d1, d2, d3, by omega, by omega, by omega, by omega⟩
    rw [fin] at h
    rw [hz]
    exact h
  rw [fx, fy, ← hz]
  clear fx fy ex ey hx hy hz a0 a1 a2 a3 b0 b1 b2 b3 d0 d1 d2 d3 k0 k1 k2 k3 e0 e1 e2 e3 fin
  go_enter Tryd.func113, Tryd.ntmps113
  go_wp2_with fail
  go_loopw [8, 9] (fun bo i wr => Below w.heap.size w wr ∧ Blk wr w.heap.size 76 #[.int .u64 18446744069414583343, .int .u64 18446744073709551615, .int .u64 18446744073709551615, .int .u64 18446744073709551615, .int .u64 4294968273, .int .u64 0, .int .u64 0] ∧ Blk wr (w.heap.size + 1) 68 #[.int .u64 (x0 : Int), .int .u64 (x1 : Int), .int .u64 (x2 : Int), .int .u64 (x3 : Int)] ∧ Blk wr (w.heap.size + 2) 68 #[.int .u64 (y0 : Int), .int .u64 (y1 : Int), .int .u64 (y2 : Int), .int .u64 (y3 : Int)] ∧ Blk wr (w.heap.size + 3) 68 #[.int .u64 0, .int .u64 0, .int .u64 0, .int .u64 0] ∧ Hid ((i = .int .i64 0 ∧ bo = .int .u64 0 ∧ Blk wr (w.heap.size + 4) 154 #[.int .u64 0, .int .u64 0, .int .u64 0, .int .u64 0, .int .u64 0, .int .u64 0, .int .u64 0, .int .u64 0]) ∨ (i = .int .i64 1 ∧ bo = .int .u64 (c0 : Int) ∧ Blk wr (w.heap.size + 4) 154 #[.int .u64 (s0 : Int), .int .u64 0, .int .u64 0, .int .u64 0, .int .u64 0, .int .u64 0, .int .u64 0, .int .u64 0]) ∨ (i = .int .i64 2 ∧ bo = .int .u64 (c1 : Int) ∧ Blk wr (w.heap.size + 4) 154 #[.int .u64 (s0 : Int), .int .u64 (s1 : Int), .int .u64 0, .int .u64 0, .int .u64 0, .int .u64 0, .int .u64 0, .int .u64 0]) ∨ (i = .int .i64 3 ∧ bo = .int .u64 (c2 : Int) ∧ Blk wr (w.heap.size + 4) 154 #[.int .u64 (s0 : Int), .int .u64 (s1 : Int), .int .u64 (s2 : Int), .int .u64 0, .int .u64 0, .int .u64 0, .int .u64 0, .int .u64 0]) ∨ (i = .int .i64 4 ∧ bo = .int .u64 (c3 : Int) ∧ Blk wr (w.heap.size + 4) 154 #[.int .u64 (s0 : Int), .int .u64 (s1 : Int), .int .u64 (s2 : Int), .int .u64 (s3 : Int), .int .u64 0, .int .u64 0, .int .u64 0, .int .u64 0]))) (fun _ i _ => 4 - (intOf i).toNat)
  case atStart => exact ⟨below_alloc5 w _ _ _ _ _, (((((Blk.new w _ _).alloc _).alloc _).alloc _).alloc _), ((((blk_new2 w _ _ _).alloc _).alloc _).alloc _), (((blk_new3 w _ _ _ _).alloc _).alloc _), ((blk_new4 w _ _ _ _ _).alloc _), Lib.hid (.inl ⟨rfl, rfl, blk_new5 w _ _ _ _ _ _⟩)⟩
  case round =>
    obtain ⟨hb, BM, BX, BY, BR, HI⟩ := hrel
    have lX := BX.lt
    have lY := BY.lt
    have lR := BR.lt
    rcases HI.out with ⟨rfl, rfl, BW⟩ | ⟨rfl, rfl, BW⟩ | ⟨rfl, rfl, BW⟩ | ⟨rfl, rfl, BW⟩ | ⟨rfl, rfl, BW⟩
    · clear HI
      have px : wr.cell? ⟨w.heap.size + 1, 0, none⟩ = some (.int .u64 (x0 : Int)) := BX.cell 0
      have py : wr.cell? ⟨w.heap.size + 2, 0, none⟩ = some (.int .u64 (y0 : Int)) := BY.cell 0
      go_wp2
      refine wp_region_G (fun _ => false) (by kernel_rfl) ?_
      try simp only [Act.put]
      refine wpAnyG_take 0 rfl (by kernel_rfl) (fun _ _ _ h => h) (YieldsG.pure (by rfl) (fun w9 _ => by go_simp; try with_reducible rfl)) ?_
      try simp only [Act.put, List.setIfInBounds_toArray, List.set_cons_zero, List.set_cons_succ]
      refine wpAnyG_take 1 rfl (by kernel_rfl) (fun _ _ _ h => h) (YieldsG.pure (by rfl) (fun w9 _ => by go_simp; try with_reducible rfl)) ?_
      try simp only [Act.put, List.setIfInBounds_toArray, List.set_cons_zero, List.set_cons_succ]
      refine wpAnyG_take 2 rfl (by kernel_rfl) (fun _ _ _ h => h) (YieldsG.pure (v := .int .u64 (x0 : Int)) (by rfl) (fun w9 h9 => by have hz := (Below.cell (p := ⟨w.heap.size + 1, 0, none⟩) h9 lX).trans px; go_simp; first | done | simp [hz])) ?_
      try simp only [Act.put, List.setIfInBounds_toArray, List.set_cons_zero, List.set_cons_succ]
      refine wpAnyG_take 3 rfl (by kernel_rfl) (fun _ _ _ h => h) (YieldsG.pure (by rfl) (fun w9 _ => by go_simp; try with_reducible rfl)) ?_
      try simp only [Act.put, List.setIfInBounds_toArray, List.set_cons_zero, List.set_cons_succ]
      refine wpAnyG_take 4 rfl (by kernel_rfl) (fun _ _ _ h => h) (YieldsG.pure (by rfl) (fun w9 _ => by go_simp; try with_reducible rfl)) ?_
      try simp only [Act.put, List.setIfInBounds_toArray, List.set_cons_zero, List.set_cons_succ]
      refine wpAnyG_take 5 rfl (by kernel_rfl) (fun _ _ _ h => h) (YieldsG.pure (v := .int .u64 (y0 : Int)) (by rfl) (fun w9 h9 => by have hz := (Below.cell (p := ⟨w.heap.size + 2, 0, none⟩) h9 lY).trans py; go_simp; first | done | simp [hz])) ?_
      try simp only [Act.put, List.setIfInBounds_toArray, List.set_cons_zero, List.set_cons_succ]
      refine wpAnyG_take 6 rfl (by kernel_rfl) (fun _ _ _ h => h) (YieldsG.pure (by rfl) (fun w9 _ => by go_simp; try with_reducible rfl)) ?_
      try simp only [Act.put, List.setIfInBounds_toArray, List.set_cons_zero, List.set_cons_succ]
      refine wpAnyG_take 7 rfl (by kernel_rfl) (fun _ _ _ h => h) (YieldsG.pure (v := .tuple #[.int .u64 (s0 : Int), .int .u64 (c0 : Int)]) (by rfl) (fun w9 h9 => by go_simp)) ?_
      try simp only [Act.put, List.setIfInBounds_toArray, List.set_cons_zero, List.set_cons_succ]
      refine wpAnyG_take 8 rfl (by kernel_rfl) (fun _ _ _ h => h) (YieldsG.pure (by rfl) (fun w9 _ => by go_simp; try with_reducible rfl)) ?_
      try simp only [Act.put, List.setIfInBounds_toArray, List.set_cons_zero, List.set_cons_succ]
      refine wpAnyG_take 9 rfl (by kernel_rfl) (fun _ _ _ h => h) (YieldsG.pure (by rfl) (fun w9 _ => by go_simp; try with_reducible rfl)) ?_
      try simp only [Act.put, List.setIfInBounds_toArray, List.set_cons_zero, List.set_cons_succ]
      refine wpAnyG_take 10 rfl (by kernel_rfl) (fun _ _ _ h => h) (YieldsG.pure (by rfl) (fun w9 _ => by go_simp; try with_reducible rfl)) ?_
      try simp only [Act.put, List.setIfInBounds_toArray, List.set_cons_zero, List.set_cons_succ]
      refine wpAnyG_take 11 rfl (by kernel_rfl) (fun _ _ _ h => h) (YieldsG.pure (by rfl) (fun w9 _ => by go_simp; try with_reducible rfl)) ?_
      try simp only [Act.put, List.setIfInBounds_toArray, List.set_cons_zero, List.set_cons_succ]
      refine wpAnyG_take 12 rfl (by kernel_rfl) (fun _ _ _ h => h) (YieldsG.pure (by rfl) (fun w9 _ => by go_simp; try with_reducible rfl)) ?_
      try simp only [Act.put, List.setIfInBounds_toArray, List.set_cons_zero, List.set_cons_succ]
      refine wpAnyG_done (by kernel_rfl) (fun u hu => ?_)
      have BM := Gr.blk hu BM
      have BX := Gr.blk hu BX
      have BY := Gr.blk hu BY
      have BR := Gr.blk hu BR
      have BW := Gr.blk hu BW
      have hb := Below.gr hb hu
      have pc : u.cell? ⟨w.heap.size + 4, 0, none⟩ = some (.int .u64 0) := BW.cell 0
      have pf := BW.frozen 0
      clear hu px py
      go_wp2
      refine ⟨⟨hb.setCell (by show w.heap.size ≤ w.heap.size + 4; omega) _, BM.far (by show w.heap.size ≠ w.heap.size + 4; omega) _, BX.far (by show w.heap.size + 1 ≠ w.heap.size + 4; omega) _, BY.far (by show w.heap.size + 2 ≠ w.heap.size + 4; omega) _, BR.far (by show w.heap.size + 3 ≠ w.heap.size + 4; omega) _, Lib.hid (.inr (.inl (⟨rfl, rfl, BW.set_ 0 _⟩)))⟩, by decide⟩
    · clear HI
      have px : wr.cell? ⟨w.heap.size + 1, 1, none⟩ = some (.int .u64 (x1 : Int)) := BX.cell 1
      have py : wr.cell? ⟨w.heap.size + 2, 1, none⟩ = some (.int .u64 (y1 : Int)) := BY.cell 1
      go_wp2
      refine wp_region_G (fun _ => false) (by kernel_rfl) ?_
      try simp only [Act.put]
      refine wpAnyG_take 0 rfl (by kernel_rfl) (fun _ _ _ h => h) (YieldsG.pure (by rfl) (fun w9 _ => by go_simp; try with_reducible rfl)) ?_
      try simp only [Act.put, List.setIfInBounds_toArray, List.set_cons_zero, List.set_cons_succ]
      refine wpAnyG_take 1 rfl (by kernel_rfl) (fun _ _ _ h => h) (YieldsG.pure (by rfl) (fun w9 _ => by go_simp; try with_reducible rfl)) ?_
      try simp only [Act.put, List.setIfInBounds_toArray, List.set_cons_zero, List.set_cons_succ]
      refine wpAnyG_take 2 rfl (by kernel_rfl) (fun _ _ _ h => h) (YieldsG.pure (v := .int .u64 (x1 : Int)) (by rfl) (fun w9 h9 => by have hz := (Below.cell (p := ⟨w.heap.size + 1, 1, none⟩) h9 lX).trans px; go_simp; first | done | simp [hz])) ?_
      try simp only [Act.put, List.setIfInBounds_toArray, List.set_cons_zero, List.set_cons_succ]
      refine wpAnyG_take 3 rfl (by kernel_rfl) (fun _ _ _ h => h) (YieldsG.pure (by rfl) (fun w9 _ => by go_simp; try with_reducible rfl)) ?_
      try simp only [Act.put, List.setIfInBounds_toArray, List.set_cons_zero, List.set_cons_succ]
      refine wpAnyG_take 4 rfl (by kernel_rfl) (fun _ _ _ h => h) (YieldsG.pure (by rfl) (fun w9 _ => by go_simp; try with_reducible rfl)) ?_
      try simp only [Act.put, List.setIfInBounds_toArray, List.set_cons_zero, List.set_cons_succ]
      refine wpAnyG_take 5 rfl (by kernel_rfl) (fun _ _ _ h => h) (YieldsG.pure (v := .int .u64 (y1 : Int)) (by rfl) (fun w9 h9 => by have hz := (Below.cell (p := ⟨w.heap.size + 2, 1, none⟩) h9 lY).trans py; go_simp; first | done | simp [hz])) ?_
      try simp only [Act.put, List.setIfInBounds_toArray, List.set_cons_zero, List.set_cons_succ]
      refine wpAnyG_take 6 rfl (by kernel_rfl) (fun _ _ _ h => h) (YieldsG.pure (by rfl) (fun w9 _ => by go_simp; try with_reducible rfl)) ?_
      try simp only [Act.put, List.setIfInBounds_toArray, List.set_cons_zero, List.set_cons_succ]
      refine wpAnyG_take 7 rfl (by kernel_rfl) (fun _ _ _ h => h) (YieldsG.pure (v := .tuple #[.int .u64 (s1 : Int), .int .u64 (c1 : Int)]) (by rfl) (fun w9 h9 => by go_simp)) ?_
      try simp only [Act.put, List.setIfInBounds_toArray, List.set_cons_zero, List.set_cons_succ]
      refine wpAnyG_take 8 rfl (by kernel_rfl) (fun _ _ _ h => h) (YieldsG.pure (by rfl) (fun w9 _ => by go_simp; try with_reducible rfl)) ?_
      try simp only [Act.put, List.setIfInBounds_toArray, List.set_cons_zero, List.set_cons_succ]
      refine wpAnyG_take 9 rfl (by kernel_rfl) (fun _ _ _ h => h) (YieldsG.pure (by rfl) (fun w9 _ => by go_simp; try with_reducible rfl)) ?_
      try simp only [Act.put, List.setIfInBounds_toArray, List.set_cons_zero, List.set_cons_succ]
      refine wpAnyG_take 10 rfl (by kernel_rfl) (fun _ _ _ h => h) (YieldsG.pure (by rfl) (fun w9 _ => by go_simp; try with_reducible rfl)) ?_
      try simp only [Act.put, List.setIfInBounds_toArray, List.set_cons_zero, List.set_cons_succ]
      refine wpAnyG_take 11 rfl (by kernel_rfl) (fun _ _ _ h => h) (YieldsG.pure (by rfl) (fun w9 _ => by go_simp; try with_reducible rfl)) ?_
      try simp only [Act.put, List.setIfInBounds_toArray, List.set_cons_zero, List.set_cons_succ]
      refine wpAnyG_take 12 rfl (by kernel_rfl) (fun _ _ _ h => h) (YieldsG.pure (by rfl) (fun w9 _ => by go_simp; try with_reducible rfl)) ?_
      try simp only [Act.put, List.setIfInBounds_toArray, List.set_cons_zero, List.set_cons_succ]
      refine wpAnyG_done (by kernel_rfl) (fun u hu => ?_)
      have BM := Gr.blk hu BM
      have BX := Gr.blk hu BX
      have BY := Gr.blk hu BY
      have BR := Gr.blk hu BR
      have BW := Gr.blk hu BW
      have hb := Below.gr hb hu
      have pc : u.cell? ⟨w.heap.size + 4, 1, none⟩ = some (.int .u64 0) := BW.cell 1
      have pf := BW.frozen 1
      clear hu px py
      go_wp2
      refine ⟨⟨hb.setCell (by show w.heap.size ≤ w.heap.size + 4; omega) _, BM.far (by show w.heap.size ≠ w.heap.size + 4; omega) _, BX.far (by show w.heap.size + 1 ≠ w.heap.size + 4; omega) _, BY.far (by show w.heap.size + 2 ≠ w.heap.size + 4; omega) _, BR.far (by show w.heap.size + 3 ≠ w.heap.size + 4; omega) _, Lib.hid (.inr (.inr (.inl (⟨rfl, rfl, BW.set_ 1 _⟩))))⟩, by decide⟩
    · clear HI
      have px : wr.cell? ⟨w.heap.size + 1, 2, none⟩ = some (.int .u64 (x2 : Int)) := BX.cell 2
      have py : wr.cell? ⟨w.heap.size + 2, 2, none⟩ = some (.int .u64 (y2 : Int)) := BY.cell 2
      go_wp2
      refine wp_region_G (fun _ => false) (by kernel_rfl) ?_
      try simp only [Act.put]
      refine wpAnyG_take 0 rfl (by kernel_rfl) (fun _ _ _ h => h) (YieldsG.pure (by rfl) (fun w9 _ => by go_simp; try with_reducible rfl)) ?_
      try simp only [Act.put, List.setIfInBounds_toArray, List.set_cons_zero, List.set_cons_succ]
      refine wpAnyG_take 1 rfl (by kernel_rfl) (fun _ _ _ h => h) (YieldsG.pure (by rfl) (fun w9 _ => by go_simp; try with_reducible rfl)) ?_
      try simp only [Act.put, List.setIfInBounds_toArray, List.set_cons_zero, List.set_cons_succ]
      refine wpAnyG_take 2 rfl (by kernel_rfl) (fun _ _ _ h => h) (YieldsG.pure (v := .int .u64 (x2 : Int)) (by rfl) (fun w9 h9 => by have hz := (Below.cell (p := ⟨w.heap.size + 1, 2, none⟩) h9 lX).trans px; go_simp; first | done | simp [hz])) ?_
      try simp only [Act.put, List.setIfInBounds_toArray, List.set_cons_zero, List.set_cons_succ]
      refine wpAnyG_take 3 rfl (by kernel_rfl) (fun _ _ _ h => h) (YieldsG.pure (by rfl) (fun w9 _ => by go_simp; try with_reducible rfl)) ?_
      try simp only [Act.put, List.setIfInBounds_toArray, List.set_cons_zero, List.set_cons_succ]
      refine wpAnyG_take 4 rfl (by kernel_rfl) (fun _ _ _ h => h) (YieldsG.pure (by rfl) (fun w9 _ => by go_simp; try with_reducible rfl)) ?_
      try simp only [Act.put, List.setIfInBounds_toArray, List.set_cons_zero, List.set_cons_succ]
      refine wpAnyG_take 5 rfl (by kernel_rfl) (fun _ _ _ h => h) (YieldsG.pure (v := .int .u64 (y2 : Int)) (by rfl) (fun w9 h9 => by have hz := (Below.cell (p := ⟨w.heap.size + 2, 2, none⟩) h9 lY).trans py; go_simp; first | done | simp [hz])) ?_
      try simp only [Act.put, List.setIfInBounds_toArray, List.set_cons_zero, List.set_cons_succ]
      refine wpAnyG_take 6 rfl (by kernel_rfl) (fun _ _ _ h => h) (YieldsG.pure (by rfl) (fun w9 _ => by go_simp; try with_reducible rfl)) ?_
      try simp only [Act.put, List.setIfInBounds_toArray, List.set_cons_zero, List.set_cons_succ]
      refine wpAnyG_take 7 rfl (by kernel_rfl) (fun _ _ _ h => h) (YieldsG.pure (v := .tuple #[.int .u64 (s2 : Int), .int .u64 (c2 : Int)]) (by rfl) (fun w9 h9 => by go_simp)) ?_
      try simp only [Act.put, List.setIfInBounds_toArray, List.set_cons_zero, List.set_cons_succ]
      refine wpAnyG_take 8 rfl (by kernel_rfl) (fun _ _ _ h => h) (YieldsG.pure (by rfl) (fun w9 _ => by go_simp; try with_reducible rfl)) ?_
      try simp only [Act.put, List.setIfInBounds_toArray, List.set_cons_zero, List.set_cons_succ]
      refine wpAnyG_take 9 rfl (by kernel_rfl) (fun _ _ _ h => h) (YieldsG.pure (by rfl) (fun w9 _ => by go_simp; try with_reducible rfl)) ?_
      try simp only [Act.put, List.setIfInBounds_toArray, List.set_cons_zero, List.set_cons_succ]
      refine wpAnyG_take 10 rfl (by kernel_rfl) (fun _ _ _ h => h) (YieldsG.pure (by rfl) (fun w9 _ => by go_simp; try with_reducible rfl)) ?_
      try simp only [Act.put, List.setIfInBounds_toArray, List.set_cons_zero, List.set_cons_succ]
      refine wpAnyG_take 11 rfl (by kernel_rfl) (fun _ _ _ h => h) (YieldsG.pure (by rfl) (fun w9 _ => by go_simp; try with_reducible rfl)) ?_
      try simp only [Act.put, List.setIfInBounds_toArray, List.set_cons_zero, List.set_cons_succ]
      refine wpAnyG_take 12 rfl (by kernel_rfl) (fun _ _ _ h => h) (YieldsG.pure (by rfl) (fun w9 _ => by go_simp; try with_reducible rfl)) ?_
      try simp only [Act.put, List.setIfInBounds_toArray, List.set_cons_zero, List.set_cons_succ]
      refine wpAnyG_done (by kernel_rfl) (fun u hu => ?_)
      have BM := Gr.blk hu BM
      have BX := Gr.blk hu BX
      have BY := Gr.blk hu BY
      have BR := Gr.blk hu BR
      have BW := Gr.blk hu BW
      have hb := Below.gr hb hu
      have pc : u.cell? ⟨w.heap.size + 4, 2, none⟩ = some (.int .u64 0) := BW.cell 2
      have pf := BW.frozen 2
      clear hu px py
      go_wp2
      refine ⟨⟨hb.setCell (by show w.heap.size ≤ w.heap.size + 4; omega) _, BM.far (by show w.heap.size ≠ w.heap.size + 4; omega) _, BX.far (by show w.heap.size + 1 ≠ w.heap.size + 4; omega) _, BY.far (by show w.heap.size + 2 ≠ w.heap.size + 4; omega) _, BR.far (by show w.heap.size + 3 ≠ w.heap.size + 4; omega) _, Lib.hid (.inr (.inr (.inr (.inl (⟨rfl, rfl, BW.set_ 2 _⟩)))))⟩, by decide⟩
    · clear HI
      have px : wr.cell? ⟨w.heap.size + 1, 3, none⟩ = some (.int .u64 (x3 : Int)) := BX.cell 3
      have py : wr.cell? ⟨w.heap.size + 2, 3, none⟩ = some (.int .u64 (y3 : Int)) := BY.cell 3
      go_wp2
      refine wp_region_G (fun _ => false) (by kernel_rfl) ?_
      try simp only [Act.put]
      refine wpAnyG_take 0 rfl (by kernel_rfl) (fun _ _ _ h => h) (YieldsG.pure (by rfl) (fun w9 _ => by go_simp; try with_reducible rfl)) ?_
      try simp only [Act.put, List.setIfInBounds_toArray, List.set_cons_zero, List.set_cons_succ]
      refine wpAnyG_take 1 rfl (by kernel_rfl) (fun _ _ _ h => h) (YieldsG.pure (by rfl) (fun w9 _ => by go_simp; try with_reducible rfl)) ?_
      try simp only [Act.put, List.setIfInBounds_toArray, List.set_cons_zero, List.set_cons_succ]
      refine wpAnyG_take 2 rfl (by kernel_rfl) (fun _ _ _ h => h) (YieldsG.pure (v := .int .u64 (x3 : Int)) (by rfl) (fun w9 h9 => by have hz := (Below.cell (p := ⟨w.heap.size + 1, 3, none⟩) h9 lX).trans px; go_simp; first | done | simp [hz])) ?_
      try simp only [Act.put, List.setIfInBounds_toArray, List.set_cons_zero, List.set_cons_succ]
      refine wpAnyG_take 3 rfl (by kernel_rfl) (fun _ _ _ h => h) (YieldsG.pure (by rfl) (fun w9 _ => by go_simp; try with_reducible rfl)) ?_
      try simp only [Act.put, List.setIfInBounds_toArray, List.set_cons_zero, List.set_cons_succ]
      refine wpAnyG_take 4 rfl (by kernel_rfl) (fun _ _ _ h => h) (YieldsG.pure (by rfl) (fun w9 _ => by go_simp; try with_reducible rfl)) ?_
      try simp only [Act.put, List.setIfInBounds_toArray, List.set_cons_zero, List.set_cons_succ]
      refine wpAnyG_take 5 rfl (by kernel_rfl) (fun _ _ _ h => h) (YieldsG.pure (v := .int .u64 (y3 : Int)) (by rfl) (fun w9 h9 => by have hz := (Below.cell (p := ⟨w.heap.size + 2, 3, none⟩) h9 lY).trans py; go_simp; first | done | simp [hz])) ?_
      try simp only [Act.put, List.setIfInBounds_toArray, List.set_cons_zero, List.set_cons_succ]
      refine wpAnyG_take 6 rfl (by kernel_rfl) (fun _ _ _ h => h) (YieldsG.pure (by rfl) (fun w9 _ => by go_simp; try with_reducible rfl)) ?_
      try simp only [Act.put, List.setIfInBounds_toArray, List.set_cons_zero, List.set_cons_succ]
      refine wpAnyG_take 7 rfl (by kernel_rfl) (fun _ _ _ h => h) (YieldsG.pure (v := .tuple #[.int .u64 (s3 : Int), .int .u64 (c3 : Int)]) (by rfl) (fun w9 h9 => by go_simp)) ?_
      try simp only [Act.put, List.setIfInBounds_toArray, List.set_cons_zero, List.set_cons_succ]
      refine wpAnyG_take 8 rfl (by kernel_rfl) (fun _ _ _ h => h) (YieldsG.pure (by rfl) (fun w9 _ => by go_simp; try with_reducible rfl)) ?_
      try simp only [Act.put, List.setIfInBounds_toArray, List.set_cons_zero, List.set_cons_succ]
      refine wpAnyG_take 9 rfl (by kernel_rfl) (fun _ _ _ h => h) (YieldsG.pure (by rfl) (fun w9 _ => by go_simp; try with_reducible rfl)) ?_
      try simp only [Act.put, List.setIfInBounds_toArray, List.set_cons_zero, List.set_cons_succ]
      refine wpAnyG_take 10 rfl (by kernel_rfl) (fun _ _ _ h => h) (YieldsG.pure (by rfl) (fun w9 _ => by go_simp; try with_reducible rfl)) ?_
      try simp only [Act.put, List.setIfInBounds_toArray, List.set_cons_zero, List.set_cons_succ]
      refine wpAnyG_take 11 rfl (by kernel_rfl) (fun _ _ _ h => h) (YieldsG.pure (by rfl) (fun w9 _ => by go_simp; try with_reducible rfl)) ?_
      try simp only [Act.put, List.setIfInBounds_toArray, List.set_cons_zero, List.set_cons_succ]
      refine wpAnyG_take 12 rfl (by kernel_rfl) (fun _ _ _ h => h) (YieldsG.pure (by rfl) (fun w9 _ => by go_simp; try with_reducible rfl)) ?_
      try simp only [Act.put, List.setIfInBounds_toArray, List.set_cons_zero, List.set_cons_succ]
      refine wpAnyG_done (by kernel_rfl) (fun u hu => ?_)
      have BM := Gr.blk hu BM
      have BX := Gr.blk hu BX
      have BY := Gr.blk hu BY
      have BR := Gr.blk hu BR
      have BW := Gr.blk hu BW
      have hb := Below.gr hb hu
      have pc : u.cell? ⟨w.heap.size + 4, 3, none⟩ = some (.int .u64 0) := BW.cell 3
      have pf := BW.frozen 3
      clear hu px py
      go_wp2
      refine ⟨⟨hb.setCell (by show w.heap.size ≤ w.heap.size + 4; omega) _, BM.far (by show w.heap.size ≠ w.heap.size + 4; omega) _, BX.far (by show w.heap.size + 1 ≠ w.heap.size + 4; omega) _, BY.far (by show w.heap.size + 2 ≠ w.heap.size + 4; omega) _, BR.far (by show w.heap.size + 3 ≠ w.heap.size + 4; omega) _, Lib.hid (.inr (.inr (.inr (.inr (⟨rfl, rfl, BW.set_ 3 _⟩)))))⟩, by decide⟩
    · clear HI
      have pc : wr.cell? ⟨w.heap.size + 4, 4, none⟩ = some (.int .u64 0) := BW.cell 4
      have pf := BW.frozen 4
      have BM4 : Blk (wr.setCell ⟨w.heap.size + 4, 4, none⟩ (.int .u64 (c3 : Int))) w.heap.size 76 #[.int .u64 18446744069414583343, .int .u64 18446744073709551615, .int .u64 18446744073709551615, .int .u64 18446744073709551615, .int .u64 4294968273, .int .u64 0, .int .u64 0] := BM.far (by show w.heap.size ≠ w.heap.size + 4; omega) _
      have BW4 : Blk (wr.setCell ⟨w.heap.size + 4, 4, none⟩ (.int .u64 (c3 : Int))) (w.heap.size + 4) 154 #[.int .u64 (s0 : Int), .int .u64 (s1 : Int), .int .u64 (s2 : Int), .int .u64 (s3 : Int), .int .u64 (c3 : Int), .int .u64 0, .int .u64 0, .int .u64 0] := BW.set_ 4 _
      have BR4 : Blk (wr.setCell ⟨w.heap.size + 4, 4, none⟩ (.int .u64 (c3 : Int))) (w.heap.size + 3) 68 #[.int .u64 0, .int .u64 0, .int .u64 0, .int .u64 0] := BR.far (by show w.heap.size + 3 ≠ w.heap.size + 4; omega) _
      have hb4 : Below w.heap.size w (wr.setCell ⟨w.heap.size + 4, 4, none⟩ (.int .u64 (c3 : Int))) := hb.setCell (by show w.heap.size ≤ w.heap.size + 4; omega) _
      have H4 := Lib.hid (And.intro BM4 (And.intro BW4 (And.intro BR4 hb4)))
      clear BM BX BY BR BW hb BM4 BW4 BR4 hb4
      go_wp2_with (first | ((with_reducible refine here_load (d := some 33) ?_); refine wpList_load_blk rfl _ _ rfl w.heap.size rfl _ _ _ H4.out.1 Tryd.underlying76 rfl (by kernel_rfl) ?_) | ((with_reducible refine here_load (d := some 34) ?_); refine wpList_load_blk rfl _ _ rfl (w.heap.size + 4) rfl _ _ _ H4.out.2.1 Tryd.underlying154 rfl (by kernel_rfl) ?_))
      refine (cF _).mono ?_
      rintro e u ⟨rfl, hu⟩
      have BRu := Gr.blk hu H4.out.2.2.1
      have hbu := Below.gr H4.out.2.2.2 hu
      clear hu H4 cF
      go_wp2_with (first | ((with_reducible refine here_store ?_); refine wpList_store_blk rfl _ _ _ rfl (w.heap.size + 3) (fcs (z)) rfl rfl _ _ (BRu) (by kernel_rfl) (by rfl) (fcs_one _) ?_; intro w9 hL9 hB9 hK9))
      exact bodyPost_ret (results_cell_row rfl _ _ (w.heap.size + 3) _ _ (0, 0) _ rfl hL9 Tryd.underlying68 rfl (by kernel_rfl)) rfl ⟨rfl, hbu.trans (hB9 _ (by omega))⟩

set_option maxHeartbeats 2000000 in
set_option maxRecDepth 100000 in
theorem negR_any (w : World) (x : Nat) (hx : x < 115792089237316195423570985008687907853269984665640564039457584007913129639936) : Calls Tryd.prog 81 #[.agg #[.int .u64 18446744069414583343, .int .u64 18446744073709551615, .int .u64 18446744073709551615, .int .u64 18446744073709551615, .int .u64 4294968273, .int .u64 0, .int .u64 0], fv x] w fun e w' => e = .returned (fv (negP x)) ∧ Below w.heap.size w w' := by
  obtain ⟨n, hn⟩ : ∃ n, n = x % pM := ⟨_, rfl⟩
  have np : n < 115792089237316195423570985008687907853269984665640564039457584007908834671663 := by rw [hn]; exact mod_lt_p x
  obtain ⟨p, hp⟩ : ∃ p, p = 115792089237316195423570985008687907853269984665640564039457584007908834671663 := ⟨_, rfl⟩
  obtain ⟨q, hq⟩ : ∃ q, q = p - n := ⟨_, rfl⟩
  obtain ⟨g, hg⟩ : ∃ g, g = negP x := ⟨_, rfl⟩
  have hgq : q % pM = g := by rw [hg, negP, ← hn, hq, hp]; rfl
  have cN : ∀ w, Calls Tryd.prog 80 #[.agg #[.int .u64 18446744069414583343, .int .u64 18446744073709551615, .int .u64 18446744073709551615, .int .u64 18446744073709551615, .int .u64 4294968273, .int .u64 0, .int .u64 0], fv x] w fun e w' => e = .returned (fv n) ∧ Below w.heap.size w w' := by
    intro w; rw [hn]; exact normR_any w x hx
  have cM : ∀ w, Calls Tryd.prog 112 #[fv p, fv n] w fun e w' => e = .returned (fv q) ∧ Below w.heap.size w w' := fun w => minusR_at w p n q 0 rfl rfl (by omega) (by omega) (by omega) (by omega)
  have cG : ∀ w, Calls Tryd.prog 80 #[.agg #[.int .u64 18446744069414583343, .int .u64 18446744073709551615, .int .u64 18446744073709551615, .int .u64 18446744073709551615, .int .u64 4294968273, .int .u64 0, .int .u64 0], fv q] w fun e w' => e = .returned (fv g) ∧ Below w.heap.size w w' := by
    intro w; rw [← hgq]; exact normR_any w q (by omega)
  have FP : Hid (fv p = .agg #[.int .u64 18446744069414583343, .int .u64 18446744073709551615, .int .u64 18446744073709551615, .int .u64 18446744073709551615]) := Lib.hid (by rw [hp]; exact fv_P)
  obtain ⟨x0, x1, x2, x3, fx⟩ := words_fv x hx
  have FX := Lib.hid fx
  rw [fx, ← hg]
  clear fx hx hn np hp hq hg hgq
  go_enter Tryd.func81, Tryd.ntmps81
  go_wp2
  refine wp_region_G (fun j => j == 8) (by kernel_rfl) ?_
  try simp only [Act.put]
  refine wpAnyG_take 0 rfl (by kernel_rfl) (fun _ _ _ h => h) (YieldsG.load (by rfl) _ _ rfl w.heap.size 0 rfl ([.int .u64 18446744069414583343, .int .u64 18446744073709551615, .int .u64 18446744073709551615, .int .u64 18446744073709551615, .int .u64 4294968273, .int .u64 0, .int .u64 0]) _ (Blk.lt (((Blk.new w _ _).alloc _).alloc _)) (Blk.range (((Blk.new w _ _).alloc _).alloc _)) Tryd.underlying76 rfl (by kernel_rfl)) ?_
  try simp only [Act.put, List.setIfInBounds_toArray, List.set_cons_zero, List.set_cons_succ]
  refine wpAnyG_take 1 rfl (by kernel_rfl) (fun _ _ _ h => h) (YieldsG.pure (by rfl) (fun w9 _ => by go_simp; try with_reducible rfl)) ?_
  try simp only [Act.put, List.setIfInBounds_toArray, List.set_cons_zero, List.set_cons_succ]
  refine wpAnyG_take 2 rfl (by kernel_rfl) (fun _ _ _ h => h) (YieldsG.loadP (by rfl) _ _ rfl w.heap.size rfl p _ (Blk.lt (((Blk.new w _ _).alloc _).alloc _)) (mod_range (((Blk.new w _ _).alloc _).alloc _)) FP.out Tryd.underlying68 rfl (by kernel_rfl)) ?_
  try simp only [Act.put, List.setIfInBounds_toArray, List.set_cons_zero, List.set_cons_succ]
  refine wpAnyG_take 3 rfl (by kernel_rfl) (fun _ _ _ h => h) (YieldsG.load (by rfl) _ _ rfl w.heap.size 0 rfl ([.int .u64 18446744069414583343, .int .u64 18446744073709551615, .int .u64 18446744073709551615, .int .u64 18446744073709551615, .int .u64 4294968273, .int .u64 0, .int .u64 0]) _ (Blk.lt (((Blk.new w _ _).alloc _).alloc _)) (Blk.range (((Blk.new w _ _).alloc _).alloc _)) Tryd.underlying76 rfl (by kernel_rfl)) ?_
  try simp only [Act.put, List.setIfInBounds_toArray, List.set_cons_zero, List.set_cons_succ]
  refine wpAnyG_take 4 rfl (by kernel_rfl) (fun _ _ _ h => h) (YieldsG.loadF (by rfl) _ _ rfl (w.heap.size + 1) rfl (x) _ _ ((blk_new2 w _ _ _).alloc _) (FX.out) Tryd.underlying68 rfl (by kernel_rfl)) ?_
  try simp only [Act.put, List.setIfInBounds_toArray, List.set_cons_zero, List.set_cons_succ]
  refine wpAnyG_take 5 rfl (by kernel_rfl) (fun _ _ _ h => h) (YieldsG.call (v := fv n) (by rfl) 80 _ (fun w9 => by go_simp; try (first | with_reducible rfl | rfl)) (fun w9 h9 => cN w9)) ?_
  try simp only [Act.put, List.setIfInBounds_toArray, List.set_cons_zero, List.set_cons_succ]
  refine wpAnyG_take 6 rfl (by kernel_rfl) (fun _ _ _ h => h) (YieldsG.call (v := fv q) (by rfl) 112 _ (fun w9 => by go_simp; try (first | with_reducible rfl | rfl)) (fun w9 h9 => cM w9)) ?_
  try simp only [Act.put, List.setIfInBounds_toArray, List.set_cons_zero, List.set_cons_succ]
  refine wpAnyG_take 7 rfl (by kernel_rfl) (fun _ _ _ h => h) (YieldsG.call (v := fv g) (by rfl) 80 _ (fun w9 => by go_simp; try (first | with_reducible rfl | rfl)) (fun w9 h9 => cG w9)) ?_
  try simp only [Act.put, List.setIfInBounds_toArray, List.set_cons_zero, List.set_cons_succ]
  refine wpAnyG_store 8 rfl (by kernel_rfl) (by rfl) _ _ _ rfl (w.heap.size + 2) (fcs (g)) rfl rfl _ _ (blk_new3 w _ _ _ _) (by kernel_rfl) (by rfl) (fcs_one _) rfl (fun w6 h6 w7 hB7 hL7 => ?_)
  try simp only [Act.put]
  refine wpAnyG_done (by kernel_rfl) (fun w8 h8 => ?_)
  have hfin := Gr.blk h8 hL7
  have hb9 := (Below.gr (below_alloc3 w _ _ _) h6).trans ((hB7 _ (by omega)).trans (Below.mono h8 (by have := hL7.lt; omega)))
  go_wp2
  exact bodyPost_ret (results_cell_row rfl _ _ (w.heap.size + 2) _ _ (0, 0) _ rfl hfin Tryd.underlying68 rfl (by kernel_rfl)) rfl ⟨rfl, hb9⟩

end Go.Proofs.YtneeefinaejgcaaDoor

end
section
namespace Go.Proofs.YtneeefinaejgcaaDoor
open Go.RowKit Go.Lib

set_option maxHeartbeats 100000000 in
set_option maxRecDepth 100000 in
theorem mulR_any (w : World) (x y : Nat) (hx : x < 115792089237316195423570985008687907853269984665640564039457584007913129639936) (hy : y < 115792089237316195423570985008687907853269984665640564039457584007913129639936) : Calls Tryd.prog 79 #[.agg #[.int .u64 18446744069414583343, .int .u64 18446744073709551615, .int .u64 18446744073709551615, .int .u64 18446744073709551615, .int .u64 4294968273, .int .u64 0, .int .u64 0], fv x, fv y] w fun e w' => e = .returned (fv (mulP x y)) ∧ Below w.heap.size w w' := by
  obtain ⟨x0, x1, x2, x3, a0, a1, a2, a3, ex, fx⟩ := words_of x hx
  obtain ⟨y0, y1, y2, y3, b0, b1, b2, b3, ey, fy⟩ := words_of y hy
  obtain ⟨t00, ht00⟩ : ∃ t, t = x0 * y0 := ⟨_, rfl⟩
  obtain ⟨t01, ht01⟩ : ∃ t, t = x0 * y1 := ⟨_, rfl⟩
  obtain ⟨t02, ht02⟩ : ∃ t, t = x0 * y2 := ⟨_, rfl⟩
  obtain ⟨t03, ht03⟩ : ∃ t, t = x0 * y3 := ⟨_, rfl⟩
  obtain ⟨t10, ht10⟩ : ∃ t, t = x1 * y0 := ⟨_, rfl⟩
  obtain ⟨t11, ht11⟩ : ∃ t, t = x1 * y1 := ⟨_, rfl⟩
  obtain ⟨t12, ht12⟩ : ∃ t, t = x1 * y2 := ⟨_, rfl⟩
  obtain ⟨t13, ht13⟩ : ∃ t, t = x1 * y3 := ⟨_, rfl⟩
  obtain ⟨t20, ht20⟩ : ∃ t, t = x2 * y0 := ⟨_, rfl⟩
  obtain ⟨t21, ht21⟩ : ∃ t, t = x2 * y1 := ⟨_, rfl⟩
  obtain ⟨t22, ht22⟩ : ∃ t, t = x2 * y2 := ⟨_, rfl⟩
  obtain ⟨t23, ht23⟩ : ∃ t, t = x2 * y3 := ⟨_, rfl⟩
  obtain ⟨t30, ht30⟩ : ∃ t, t = x3 * y0 := ⟨_, rfl⟩
  obtain ⟨t31, ht31⟩ : ∃ t, t = x3 * y1 := ⟨_, rfl⟩
  obtain ⟨t32, ht32⟩ : ∃ t, t = x3 * y2 := ⟨_, rfl⟩
  obtain ⟨t33, ht33⟩ : ∃ t, t = x3 * y3 := ⟨_, rfl⟩
  have m1 : x * y = x0 * y + 18446744073709551616 * (x1 * y) + 340282366920938463463374607431768211456 * (x2 * y) + 6277101735386680763835789423207666416102355444464034512896 * (x3 * y) := by
    conv => lhs; rw [ex]
    exact row_mul x0 x1 x2 x3 y
  have n0 : x0 * y = x0 * y0 + 18446744073709551616 * (x0 * y1) + 340282366920938463463374607431768211456 * (x0 * y2) + 6277101735386680763835789423207666416102355444464034512896 * (x0 * y3) := by
    conv => lhs; rw [ey]
    exact col_mul x0 y0 y1 y2 y3
  have n1 : x1 * y = x1 * y0 + 18446744073709551616 * (x1 * y1) + 340282366920938463463374607431768211456 * (x1 * y2) + 6277101735386680763835789423207666416102355444464034512896 * (x1 * y3) := by
    conv => lhs; rw [ey]
    exact col_mul x1 y0 y1 y2 y3
  have n2 : x2 * y = x2 * y0 + 18446744073709551616 * (x2 * y1) + 340282366920938463463374607431768211456 * (x2 * y2) + 6277101735386680763835789423207666416102355444464034512896 * (x2 * y3) := by
    conv => lhs; rw [ey]
    exact col_mul x2 y0 y1 y2 y3
  have n3 : x3 * y = x3 * y0 + 18446744073709551616 * (x3 * y1) + 340282366920938463463374607431768211456 * (x3 * y2) + 6277101735386680763835789423207666416102355444464034512896 * (x3 * y3) := by
    conv => lhs; rw [ey]
    exact col_mul x3 y0 y1 y2 y3
  have hxy : 0 + 1 * t00 + 18446744073709551616 * t01 + 340282366920938463463374607431768211456 * t02 + 6277101735386680763835789423207666416102355444464034512896 * t03 + 18446744073709551616 * t10 + 340282366920938463463374607431768211456 * t11 + 6277101735386680763835789423207666416102355444464034512896 * t12 + 115792089237316195423570985008687907853269984665640564039457584007913129639936 * t13 + 340282366920938463463374607431768211456 * t20 + 6277101735386680763835789423207666416102355444464034512896 * t21 + 115792089237316195423570985008687907853269984665640564039457584007913129639936 * t22 + 2135987035920910082395021706169552114602704522356652769947041607822219725780640550022962086936576 * t23 + 6277101735386680763835789423207666416102355444464034512896 * t30 + 115792089237316195423570985008687907853269984665640564039457584007913129639936 * t31 + 2135987035920910082395021706169552114602704522356652769947041607822219725780640550022962086936576 * t32 + 39402006196394479212279040100143613805079739270465446667948293404245721771497210611414266254884915640806627990306816 * t33 = x * y := by
    rw [m1, n0, n1, n2, n3]
    simp only [ht00, ht01, ht02, ht03, ht10, ht11, ht12, ht13, ht20, ht21, ht22, ht23, ht30, ht31, ht32, ht33]
    omega
  clear m1 n0 n1 n2 n3
  obtain ⟨z, hz⟩ : ∃ z, z = mulP x y := ⟨_, rfl⟩
  have cF : ∀ (r0 r1 r2 r3 r4 r5 r6 r7 : Nat), (r0 < 18446744073709551616 ∧ r1 < 18446744073709551616 ∧ r2 < 18446744073709551616 ∧ r3 < 18446744073709551616 ∧ r4 < 18446744073709551616 ∧ r5 < 18446744073709551616 ∧ r6 < 18446744073709551616 ∧ r7 < 18446744073709551616) → val8 r0 r1 r2 r3 r4 r5 r6 r7 = 0 + 1 * t00 + 18446744073709551616 * t01 + 340282366920938463463374607431768211456 * t02 + 6277101735386680763835789423207666416102355444464034512896 * t03 + 18446744073709551616 * t10 + 340282366920938463463374607431768211456 * t11 + 6277101735386680763835789423207666416102355444464034512896 * t12 + 115792089237316195423570985008687907853269984665640564039457584007913129639936 * t13 + 340282366920938463463374607431768211456 * t20 + 6277101735386680763835789423207666416102355444464034512896 * t21 + 115792089237316195423570985008687907853269984665640564039457584007913129639936 * t22 + 2135987035920910082395021706169552114602704522356652769947041607822219725780640550022962086936576 * t23 + 6277101735386680763835789423207666416102355444464034512896 * t30 + 115792089237316195423570985008687907853269984665640564039457584007913129639936 * t31 + 2135987035920910082395021706169552114602704522356652769947041607822219725780640550022962086936576 * t32 + 39402006196394479212279040100143613805079739270465446667948293404245721771497210611414266254884915640806627990306816 * t33 → ∀ w, Calls Tryd.prog 111 #[.agg #[.int .u64 18446744069414583343, .int .u64 18446744073709551615, .int .u64 18446744073709551615, .int .u64 18446744073709551615, .int .u64 4294968273, .int .u64 0, .int .u64 0], .agg #[.int .u64 (r0 : Int), .int .u64 (r1 : Int), .int .u64 (r2 : Int), .int .u64 (r3 : Int), .int .u64 (r4 : Int), .int .u64 (r5 : Int), .int .u64 (r6 : Int), .int .u64 (r7 : Int)]] w fun e w' => e = .returned (fv z) ∧ Below w.heap.size w w' := by
    intro r0 r1 r2 r3 r4 r5 r6 r7 hlt hv w
    have h := fold_any w r0 r1 r2 r3 r4 r5 r6 r7 hlt
    rw [hv, hxy] at h
    rw [hz]
    exact h
  have HT := Lib.hid (And.intro (And.intro a0 (And.intro a1 (And.intro a2 a3))) (And.intro (And.intro b0 (And.intro b1 (And.intro b2 b3))) (And.intro ht00 (And.intro ht01 (And.intro ht02 (And.intro ht03 (And.intro ht10 (And.intro ht11 (And.intro ht12 (And.intro ht13 (And.intro ht20 (And.intro ht21 (And.intro ht22 (And.intro ht23 (And.intro ht30 (And.intro ht31 (And.intro ht32 (And.intro ht33 trivial))))))))))))))))))
  rw [fx, fy, ← hz]
  clear fx fy ex ey hx hy hz hxy a0 a1 a2 a3 b0 b1 b2 b3 ht00 ht01 ht02 ht03 ht10 ht11 ht12 ht13 ht20 ht21 ht22 ht23 ht30 ht31 ht32 ht33
  go_enter Tryd.func79, Tryd.ntmps79
  go_wp2_with fail
  go_loopw [8] (fun i wr => Below w.heap.size w wr ∧ Blk wr w.heap.size 76 #[.int .u64 18446744069414583343, .int .u64 18446744073709551615, .int .u64 18446744073709551615, .int .u64 18446744073709551615, .int .u64 4294968273, .int .u64 0, .int .u64 0] ∧ Blk wr (w.heap.size + 1) 68 #[.int .u64 (x0 : Int), .int .u64 (x1 : Int), .int .u64 (x2 : Int), .int .u64 (x3 : Int)] ∧ Blk wr (w.heap.size + 2) 68 #[.int .u64 (y0 : Int), .int .u64 (y1 : Int), .int .u64 (y2 : Int), .int .u64 (y3 : Int)] ∧ Blk wr (w.heap.size + 3) 68 #[.int .u64 0, .int .u64 0, .int .u64 0, .int .u64 0] ∧ Hid ((i = .int .i64 0 ∧ Blk wr (w.heap.size + 4) 154 #[.int .u64 0, .int .u64 0, .int .u64 0, .int .u64 0, .int .u64 0, .int .u64 0, .int .u64 0, .int .u64 0] ∧ (True) ∧ val8 0 0 0 0 0 0 0 0 = 0) ∨ (i = .int .i64 1 ∧ ∃ r0 r1 r2 r3 r4 : Nat, Blk wr (w.heap.size + 4) 154 #[.int .u64 (r0 : Int), .int .u64 (r1 : Int), .int .u64 (r2 : Int), .int .u64 (r3 : Int), .int .u64 (r4 : Int), .int .u64 0, .int .u64 0, .int .u64 0] ∧ (r0 < 18446744073709551616 ∧ r1 < 18446744073709551616 ∧ r2 < 18446744073709551616 ∧ r3 < 18446744073709551616 ∧ r4 < 18446744073709551616) ∧ val8 r0 r1 r2 r3 r4 0 0 0 = 0 + 1 * t00 + 18446744073709551616 * t01 + 340282366920938463463374607431768211456 * t02 + 6277101735386680763835789423207666416102355444464034512896 * t03) ∨ (i = .int .i64 2 ∧ ∃ r0 r1 r2 r3 r4 r5 : Nat, Blk wr (w.heap.size + 4) 154 #[.int .u64 (r0 : Int), .int .u64 (r1 : Int), .int .u64 (r2 : Int), .int .u64 (r3 : Int), .int .u64 (r4 : Int), .int .u64 (r5 : Int), .int .u64 0, .int .u64 0] ∧ (r0 < 18446744073709551616 ∧ r1 < 18446744073709551616 ∧ r2 < 18446744073709551616 ∧ r3 < 18446744073709551616 ∧ r4 < 18446744073709551616 ∧ r5 < 18446744073709551616) ∧ val8 r0 r1 r2 r3 r4 r5 0 0 = 0 + 1 * t00 + 18446744073709551616 * t01 + 340282366920938463463374607431768211456 * t02 + 6277101735386680763835789423207666416102355444464034512896 * t03 + 18446744073709551616 * t10 + 340282366920938463463374607431768211456 * t11 + 6277101735386680763835789423207666416102355444464034512896 * t12 + 115792089237316195423570985008687907853269984665640564039457584007913129639936 * t13) ∨ (i = .int .i64 3 ∧ ∃ r0 r1 r2 r3 r4 r5 r6 : Nat, Blk wr (w.heap.size + 4) 154 #[.int .u64 (r0 : Int), .int .u64 (r1 : Int), .int .u64 (r2 : Int), .int .u64 (r3 : Int), .int .u64 (r4 : Int), .int .u64 (r5 : Int), .int .u64 (r6 : Int), .int .u64 0] ∧ (r0 < 18446744073709551616 ∧ r1 < 18446744073709551616 ∧ r2 < 18446744073709551616 ∧ r3 < 18446744073709551616 ∧ r4 < 18446744073709551616 ∧ r5 < 18446744073709551616 ∧ r6 < 18446744073709551616) ∧ val8 r0 r1 r2 r3 r4 r5 r6 0 = 0 + 1 * t00 + 18446744073709551616 * t01 + 340282366920938463463374607431768211456 * t02 + 6277101735386680763835789423207666416102355444464034512896 * t03 + 18446744073709551616 * t10 + 340282366920938463463374607431768211456 * t11 + 6277101735386680763835789423207666416102355444464034512896 * t12 + 115792089237316195423570985008687907853269984665640564039457584007913129639936 * t13 + 340282366920938463463374607431768211456 * t20 + 6277101735386680763835789423207666416102355444464034512896 * t21 + 115792089237316195423570985008687907853269984665640564039457584007913129639936 * t22 + 2135987035920910082395021706169552114602704522356652769947041607822219725780640550022962086936576 * t23) ∨ (i = .int .i64 4 ∧ ∃ r0 r1 r2 r3 r4 r5 r6 r7 : Nat, Blk wr (w.heap.size + 4) 154 #[.int .u64 (r0 : Int), .int .u64 (r1 : Int), .int .u64 (r2 : Int), .int .u64 (r3 : Int), .int .u64 (r4 : Int), .int .u64 (r5 : Int), .int .u64 (r6 : Int), .int .u64 (r7 : Int)] ∧ (r0 < 18446744073709551616 ∧ r1 < 18446744073709551616 ∧ r2 < 18446744073709551616 ∧ r3 < 18446744073709551616 ∧ r4 < 18446744073709551616 ∧ r5 < 18446744073709551616 ∧ r6 < 18446744073709551616 ∧ r7 < 18446744073709551616) ∧ val8 r0 r1 r2 r3 r4 r5 r6 r7 = 0 + 1 * t00 + 18446744073709551616 * t01 + 340282366920938463463374607431768211456 * t02 + 6277101735386680763835789423207666416102355444464034512896 * t03 + 18446744073709551616 * t10 + 340282366920938463463374607431768211456 * t11 + 6277101735386680763835789423207666416102355444464034512896 * t12 + 115792089237316195423570985008687907853269984665640564039457584007913129639936 * t13 + 340282366920938463463374607431768211456 * t20 + 6277101735386680763835789423207666416102355444464034512896 * t21 + 115792089237316195423570985008687907853269984665640564039457584007913129639936 * t22 + 2135987035920910082395021706169552114602704522356652769947041607822219725780640550022962086936576 * t23 + 6277101735386680763835789423207666416102355444464034512896 * t30 + 115792089237316195423570985008687907853269984665640564039457584007913129639936 * t31 + 2135987035920910082395021706169552114602704522356652769947041607822219725780640550022962086936576 * t32 + 39402006196394479212279040100143613805079739270465446667948293404245721771497210611414266254884915640806627990306816 * t33))) (fun i _ => 4 - (intOf i).toNat)
  case atStart => exact ⟨below_alloc5 w _ _ _ _ _, (((((Blk.new w _ _).alloc _).alloc _).alloc _).alloc _), ((((blk_new2 w _ _ _).alloc _).alloc _).alloc _), (((blk_new3 w _ _ _ _).alloc _).alloc _), ((blk_new4 w _ _ _ _ _).alloc _), Lib.hid (.inl ⟨rfl, blk_new5 w _ _ _ _ _ _, trivial, by simp only [val8]⟩)⟩
  case round =>
    obtain ⟨hb, BM, BX, BY, BR, HI⟩ := hrel
    rcases HI.out with ⟨rfl, X⟩ | ⟨rfl, X⟩ | ⟨rfl, X⟩ | ⟨rfl, X⟩ | ⟨rfl, X⟩
    · clear HI
      obtain ⟨BW, hlt, hval⟩ := X
      go_wp2
      go_loopw [9, 10] (fun cv j wr => Below w.heap.size w wr ∧ Blk wr w.heap.size 76 #[.int .u64 18446744069414583343, .int .u64 18446744073709551615, .int .u64 18446744073709551615, .int .u64 18446744073709551615, .int .u64 4294968273, .int .u64 0, .int .u64 0] ∧ Blk wr (w.heap.size + 1) 68 #[.int .u64 (x0 : Int), .int .u64 (x1 : Int), .int .u64 (x2 : Int), .int .u64 (x3 : Int)] ∧ Blk wr (w.heap.size + 2) 68 #[.int .u64 (y0 : Int), .int .u64 (y1 : Int), .int .u64 (y2 : Int), .int .u64 (y3 : Int)] ∧ Blk wr (w.heap.size + 3) 68 #[.int .u64 0, .int .u64 0, .int .u64 0, .int .u64 0] ∧ Hid ((j = .int .i64 0 ∧ ∃ r0 r1 r2 r3 c : Nat, cv = .int .u64 (c : Int) ∧ Blk wr (w.heap.size + 4) 154 #[.int .u64 (r0 : Int), .int .u64 (r1 : Int), .int .u64 (r2 : Int), .int .u64 (r3 : Int), .int .u64 0, .int .u64 0, .int .u64 0, .int .u64 0] ∧ (r0 < 18446744073709551616 ∧ r1 < 18446744073709551616 ∧ r2 < 18446744073709551616 ∧ r3 < 18446744073709551616) ∧ c = 0 ∧ val8 r0 r1 r2 r3 0 0 0 0 + 1 * c = 0) ∨ (j = .int .i64 1 ∧ ∃ r0 r1 r2 r3 c : Nat, cv = .int .u64 (c : Int) ∧ Blk wr (w.heap.size + 4) 154 #[.int .u64 (r0 : Int), .int .u64 (r1 : Int), .int .u64 (r2 : Int), .int .u64 (r3 : Int), .int .u64 0, .int .u64 0, .int .u64 0, .int .u64 0] ∧ (r0 < 18446744073709551616 ∧ r1 < 18446744073709551616 ∧ r2 < 18446744073709551616 ∧ r3 < 18446744073709551616) ∧ c < 18446744073709551616 ∧ val8 r0 r1 r2 r3 0 0 0 0 + 18446744073709551616 * c = 0 + 1 * t00) ∨ (j = .int .i64 2 ∧ ∃ r0 r1 r2 r3 c : Nat, cv = .int .u64 (c : Int) ∧ Blk wr (w.heap.size + 4) 154 #[.int .u64 (r0 : Int), .int .u64 (r1 : Int), .int .u64 (r2 : Int), .int .u64 (r3 : Int), .int .u64 0, .int .u64 0, .int .u64 0, .int .u64 0] ∧ (r0 < 18446744073709551616 ∧ r1 < 18446744073709551616 ∧ r2 < 18446744073709551616 ∧ r3 < 18446744073709551616) ∧ c < 18446744073709551616 ∧ val8 r0 r1 r2 r3 0 0 0 0 + 340282366920938463463374607431768211456 * c = 0 + 1 * t00 + 18446744073709551616 * t01) ∨ (j = .int .i64 3 ∧ ∃ r0 r1 r2 r3 c : Nat, cv = .int .u64 (c : Int) ∧ Blk wr (w.heap.size + 4) 154 #[.int .u64 (r0 : Int), .int .u64 (r1 : Int), .int .u64 (r2 : Int), .int .u64 (r3 : Int), .int .u64 0, .int .u64 0, .int .u64 0, .int .u64 0] ∧ (r0 < 18446744073709551616 ∧ r1 < 18446744073709551616 ∧ r2 < 18446744073709551616 ∧ r3 < 18446744073709551616) ∧ c < 18446744073709551616 ∧ val8 r0 r1 r2 r3 0 0 0 0 + 6277101735386680763835789423207666416102355444464034512896 * c = 0 + 1 * t00 + 18446744073709551616 * t01 + 340282366920938463463374607431768211456 * t02) ∨ (j = .int .i64 4 ∧ ∃ r0 r1 r2 r3 c : Nat, cv = .int .u64 (c : Int) ∧ Blk wr (w.heap.size + 4) 154 #[.int .u64 (r0 : Int), .int .u64 (r1 : Int), .int .u64 (r2 : Int), .int .u64 (r3 : Int), .int .u64 0, .int .u64 0, .int .u64 0, .int .u64 0] ∧ (r0 < 18446744073709551616 ∧ r1 < 18446744073709551616 ∧ r2 < 18446744073709551616 ∧ r3 < 18446744073709551616) ∧ c < 18446744073709551616 ∧ val8 r0 r1 r2 r3 0 0 0 0 + 115792089237316195423570985008687907853269984665640564039457584007913129639936 * c = 0 + 1 * t00 + 18446744073709551616 * t01 + 340282366920938463463374607431768211456 * t02 + 6277101735386680763835789423207666416102355444464034512896 * t03))) (fun _ j _ => 4 - (intOf j).toNat)
      case atStart => exact ⟨hb, BM, BX, BY, BR, Lib.hid (.inl ⟨rfl, 0, 0, 0, 0, 0, rfl, BW, ⟨by omega, by omega, by omega, by omega⟩, rfl, by omega⟩)⟩
      case round =>
        clear hb BM BX BY BR BW hlt hval
        obtain ⟨hb, BM, BX, BY, BR, HI⟩ := hrel
        have lX := BX.lt
        have lY := BY.lt
        rcases HI.out with ⟨rfl, X⟩ | ⟨rfl, X⟩ | ⟨rfl, X⟩ | ⟨rfl, X⟩ | ⟨rfl, X⟩
        · clear HI
          obtain ⟨r0, r1, r2, r3, c, rfl, BW, ⟨b0, b1, b2, b3⟩, hc, hval⟩ := X
          obtain ⟨hi, lo, blo, bhi, hml⟩ := mul_ex x0 y0 HT.out.1.1 HT.out.2.1.1
          have cm := fun w => (mul64_at w x0 y0 hi lo HT.out.1.1 HT.out.2.1.1 blo hml).mono fun e w' (h : _ ∧ w' = w) => (⟨h.1, by rw [h.2]; exact Below.refl _ _⟩ : _ ∧ Below w.heap.size w w')
          have htl : t00 ≤ 18446744073709551615 * 18446744073709551615 := by rw [HT.out.2.2.1]; exact Nat.mul_le_mul (by have := HT.out.1.1; omega) (by have := HT.out.2.1.1; omega)
          rw [← HT.out.2.2.1] at hml
          obtain ⟨xx, k, bx, bk, hxk, ra⟩ := add0_ex lo r0 blo b0
          obtain ⟨yy, l, bY, bl, hyl, rb⟩ := add0_ex xx c bx (by omega)
          have hsum : hi + k + l < 18446744073709551616 := by omega
          have hnew : val8 yy r1 r2 r3 0 0 0 0 + 18446744073709551616 * (hi + k + l) = 0 + 1 * t00 := by
            simp only [val8] at hval ⊢
            omega
          have HN := Lib.hid (And.intro hnew (And.intro (And.intro b0 (And.intro b1 (And.intro b2 b3))) bY))
          have px : wr.cell? ⟨w.heap.size + 1, 0, none⟩ = some (.int .u64 (x0 : Int)) := BX.cell 0
          have py : wr.cell? ⟨w.heap.size + 2, 0, none⟩ = some (.int .u64 (y0 : Int)) := BY.cell 0
          clear hval hnew hml hxk hyl blo bx bY hc htl b0 b1 b2 b3
          go_wp2
          refine wp_region_G (fun _ => false) (by kernel_rfl) ?_
          try simp only [Act.put]
          refine wpAnyG_take 0 rfl (by kernel_rfl) (fun _ _ _ h => h) (YieldsG.pure (by rfl) (fun w9 _ => by go_simp; try with_reducible rfl)) ?_
          try simp only [Act.put, List.setIfInBounds_toArray, List.set_cons_zero, List.set_cons_succ]
          refine wpAnyG_take 1 rfl (by kernel_rfl) (fun _ _ _ h => h) (YieldsG.pure (by rfl) (fun w9 _ => by go_simp; try with_reducible rfl)) ?_
          try simp only [Act.put, List.setIfInBounds_toArray, List.set_cons_zero, List.set_cons_succ]
          refine wpAnyG_take 2 rfl (by kernel_rfl) (fun _ _ _ h => h) (YieldsG.pure (v := .int .u64 (x0 : Int)) (by rfl) (fun w9 h9 => by have hz := (Below.cell (p := ⟨w.heap.size + 1, 0, none⟩) h9 lX).trans px; go_simp; first | done | simp [hz])) ?_
          try simp only [Act.put, List.setIfInBounds_toArray, List.set_cons_zero, List.set_cons_succ]
          refine wpAnyG_take 3 rfl (by kernel_rfl) (fun _ _ _ h => h) (YieldsG.pure (by rfl) (fun w9 _ => by go_simp; try with_reducible rfl)) ?_
          try simp only [Act.put, List.setIfInBounds_toArray, List.set_cons_zero, List.set_cons_succ]
          refine wpAnyG_take 4 rfl (by kernel_rfl) (fun _ _ _ h => h) (YieldsG.pure (by rfl) (fun w9 _ => by go_simp; try with_reducible rfl)) ?_
          try simp only [Act.put, List.setIfInBounds_toArray, List.set_cons_zero, List.set_cons_succ]
          refine wpAnyG_take 5 rfl (by kernel_rfl) (fun _ _ _ h => h) (YieldsG.pure (v := .int .u64 (y0 : Int)) (by rfl) (fun w9 h9 => by have hz := (Below.cell (p := ⟨w.heap.size + 2, 0, none⟩) h9 lY).trans py; go_simp; first | done | simp [hz])) ?_
          try simp only [Act.put, List.setIfInBounds_toArray, List.set_cons_zero, List.set_cons_succ]
          refine wpAnyG_take 6 rfl (by kernel_rfl) (fun _ _ _ h => h) (YieldsG.call (v := .tuple #[.int .u64 (hi : Int), .int .u64 (lo : Int)]) (by rfl) 51 _ (fun w9 => by go_simp; try (first | with_reducible rfl | rfl)) (fun w9 h9 => cm w9)) ?_
          try simp only [Act.put, List.setIfInBounds_toArray, List.set_cons_zero, List.set_cons_succ]
          refine wpAnyG_take 7 rfl (by kernel_rfl) (fun _ _ _ h => h) (YieldsG.pure (by rfl) (fun w9 _ => by go_simp; try with_reducible rfl)) ?_
          try simp only [Act.put, List.setIfInBounds_toArray, List.set_cons_zero, List.set_cons_succ]
          refine wpAnyG_take 8 rfl (by kernel_rfl) (fun _ _ _ h => h) (YieldsG.pure (by rfl) (fun w9 _ => by go_simp; try with_reducible rfl)) ?_
          try simp only [Act.put, List.setIfInBounds_toArray, List.set_cons_zero, List.set_cons_succ]
          refine wpAnyG_take 9 rfl (by kernel_rfl) (fun _ _ _ h => h) (YieldsG.pure (by rfl) (fun w9 _ => by go_simp; try with_reducible rfl)) ?_
          try simp only [Act.put, List.setIfInBounds_toArray, List.set_cons_zero, List.set_cons_succ]
          refine wpAnyG_take 10 rfl (by kernel_rfl) (fun _ _ _ h => h) (YieldsG.pure (by rfl) (fun w9 _ => by go_simp; try with_reducible rfl)) ?_
          try simp only [Act.put, List.setIfInBounds_toArray, List.set_cons_zero, List.set_cons_succ]
          refine wpAnyG_take 11 rfl (by kernel_rfl) (fun _ _ _ h => h) (YieldsG.pure (by rfl) (fun w9 _ => by go_simp; try with_reducible rfl)) ?_
          try simp only [Act.put, List.setIfInBounds_toArray, List.set_cons_zero, List.set_cons_succ]
          refine wpAnyG_done (by kernel_rfl) (fun u hu => ?_)
          have BM := Gr.blk hu BM
          have BX := Gr.blk hu BX
          have BY := Gr.blk hu BY
          have BR := Gr.blk hu BR
          have BW := Gr.blk hu BW
          have hb := Below.gr hb hu
          have pa : u.cell? ⟨w.heap.size + 4, 0, none⟩ = some (.int .u64 (r0 : Int)) := BW.cell 0
          have pf := BW.frozen 0
          clear hu cm px py
          go_wp2
          obtain ⟨hnew, ⟨b0, b1, b2, b3⟩, bY⟩ := HN.out
          refine ⟨⟨(hb.setCell (by show w.heap.size ≤ w.heap.size + 4; omega) _), (BM.far (by show w.heap.size ≠ w.heap.size + 4; omega) _), (BX.far (by show w.heap.size + 1 ≠ w.heap.size + 4; omega) _), (BY.far (by show w.heap.size + 2 ≠ w.heap.size + 4; omega) _), (BR.far (by show w.heap.size + 3 ≠ w.heap.size + 4; omega) _), Lib.hid (.inr (.inl (⟨rfl, yy, r1, r2, r3, hi + k + l, by congr 1, BW.set_ 0 _, ⟨bY, b1, b2, b3⟩, hsum, hnew⟩)))⟩, by decide⟩
        · clear HI
          obtain ⟨r0, r1, r2, r3, c, rfl, BW, ⟨b0, b1, b2, b3⟩, hc, hval⟩ := X
          obtain ⟨hi, lo, blo, bhi, hml⟩ := mul_ex x0 y1 HT.out.1.1 HT.out.2.1.2.1
          have cm := fun w => (mul64_at w x0 y1 hi lo HT.out.1.1 HT.out.2.1.2.1 blo hml).mono fun e w' (h : _ ∧ w' = w) => (⟨h.1, by rw [h.2]; exact Below.refl _ _⟩ : _ ∧ Below w.heap.size w w')
          have htl : t01 ≤ 18446744073709551615 * 18446744073709551615 := by rw [HT.out.2.2.2.1]; exact Nat.mul_le_mul (by have := HT.out.1.1; omega) (by have := HT.out.2.1.2.1; omega)
          rw [← HT.out.2.2.2.1] at hml
          obtain ⟨xx, k, bx, bk, hxk, ra⟩ := add0_ex lo r1 blo b1
          obtain ⟨yy, l, bY, bl, hyl, rb⟩ := add0_ex xx c bx (by omega)
          have hsum : hi + k + l < 18446744073709551616 := by omega
          have hnew : val8 r0 yy r2 r3 0 0 0 0 + 340282366920938463463374607431768211456 * (hi + k + l) = 0 + 1 * t00 + 18446744073709551616 * t01 := by
            simp only [val8] at hval ⊢
            omega
          have HN := Lib.hid (And.intro hnew (And.intro (And.intro b0 (And.intro b1 (And.intro b2 b3))) bY))
          have px : wr.cell? ⟨w.heap.size + 1, 0, none⟩ = some (.int .u64 (x0 : Int)) := BX.cell 0
          have py : wr.cell? ⟨w.heap.size + 2, 1, none⟩ = some (.int .u64 (y1 : Int)) := BY.cell 1
          clear hval hnew hml hxk hyl blo bx bY hc htl b0 b1 b2 b3
          go_wp2
          refine wp_region_G (fun _ => false) (by kernel_rfl) ?_
          try simp only [Act.put]
          refine wpAnyG_take 0 rfl (by kernel_rfl) (fun _ _ _ h => h) (YieldsG.pure (by rfl) (fun w9 _ => by go_simp; try with_reducible rfl)) ?_
          try simp only [Act.put, List.setIfInBounds_toArray, List.set_cons_zero, List.set_cons_succ]
          refine wpAnyG_take 1 rfl (by kernel_rfl) (fun _ _ _ h => h) (YieldsG.pure (by rfl) (fun w9 _ => by go_simp; try with_reducible rfl)) ?_
          try simp only [Act.put, List.setIfInBounds_toArray, List.set_cons_zero, List.set_cons_succ]
          refine wpAnyG_take 2 rfl (by kernel_rfl) (fun _ _ _ h => h) (YieldsG.pure (v := .int .u64 (x0 : Int)) (by rfl) (fun w9 h9 => by have hz := (Below.cell (p := ⟨w.heap.size + 1, 0, none⟩) h9 lX).trans px; go_simp; first | done | simp [hz])) ?_
          try simp only [Act.put, List.setIfInBounds_toArray, List.set_cons_zero, List.set_cons_succ]
          refine wpAnyG_take 3 rfl (by kernel_rfl) (fun _ _ _ h => h) (YieldsG.pure (by rfl) (fun w9 _ => by go_simp; try with_reducible rfl)) ?_
          try simp only [Act.put, List.setIfInBounds_toArray, List.set_cons_zero, List.set_cons_succ]
          refine wpAnyG_take 4 rfl (by kernel_rfl) (fun _ _ _ h => h) (YieldsG.pure (by rfl) (fun w9 _ => by go_simp; try with_reducible rfl)) ?_
          try simp only [Act.put, List.setIfInBounds_toArray, List.set_cons_zero, List.set_cons_succ]
          refine wpAnyG_take 5 rfl (by kernel_rfl) (fun _ _ _ h => h) (YieldsG.pure (v := .int .u64 (y1 : Int)) (by rfl) (fun w9 h9 => by have hz := (Below.cell (p := ⟨w.heap.size + 2, 1, none⟩) h9 lY).trans py; go_simp; first | done | simp [hz])) ?_
          try simp only [Act.put, List.setIfInBounds_toArray, List.set_cons_zero, List.set_cons_succ]
          refine wpAnyG_take 6 rfl (by kernel_rfl) (fun _ _ _ h => h) (YieldsG.call (v := .tuple #[.int .u64 (hi : Int), .int .u64 (lo : Int)]) (by rfl) 51 _ (fun w9 => by go_simp; try (first | with_reducible rfl | rfl)) (fun w9 h9 => cm w9)) ?_
          try simp only [Act.put, List.setIfInBounds_toArray, List.set_cons_zero, List.set_cons_succ]
          refine wpAnyG_take 7 rfl (by kernel_rfl) (fun _ _ _ h => h) (YieldsG.pure (by rfl) (fun w9 _ => by go_simp; try with_reducible rfl)) ?_
          try simp only [Act.put, List.setIfInBounds_toArray, List.set_cons_zero, List.set_cons_succ]
          refine wpAnyG_take 8 rfl (by kernel_rfl) (fun _ _ _ h => h) (YieldsG.pure (by rfl) (fun w9 _ => by go_simp; try with_reducible rfl)) ?_
          try simp only [Act.put, List.setIfInBounds_toArray, List.set_cons_zero, List.set_cons_succ]
          refine wpAnyG_take 9 rfl (by kernel_rfl) (fun _ _ _ h => h) (YieldsG.pure (by rfl) (fun w9 _ => by go_simp; try with_reducible rfl)) ?_
          try simp only [Act.put, List.setIfInBounds_toArray, List.set_cons_zero, List.set_cons_succ]
          refine wpAnyG_take 10 rfl (by kernel_rfl) (fun _ _ _ h => h) (YieldsG.pure (by rfl) (fun w9 _ => by go_simp; try with_reducible rfl)) ?_
          try simp only [Act.put, List.setIfInBounds_toArray, List.set_cons_zero, List.set_cons_succ]
          refine wpAnyG_take 11 rfl (by kernel_rfl) (fun _ _ _ h => h) (YieldsG.pure (by rfl) (fun w9 _ => by go_simp; try with_reducible rfl)) ?_
          try simp only [Act.put, List.setIfInBounds_toArray, List.set_cons_zero, List.set_cons_succ]
          refine wpAnyG_done (by kernel_rfl) (fun u hu => ?_)
          have BM := Gr.blk hu BM
          have BX := Gr.blk hu BX
          have BY := Gr.blk hu BY
          have BR := Gr.blk hu BR
          have BW := Gr.blk hu BW
          have hb := Below.gr hb hu
          have pa : u.cell? ⟨w.heap.size + 4, 1, none⟩ = some (.int .u64 (r1 : Int)) := BW.cell 1
          have pf := BW.frozen 1
          clear hu cm px py
          go_wp2
          obtain ⟨hnew, ⟨b0, b1, b2, b3⟩, bY⟩ := HN.out
          refine ⟨⟨(hb.setCell (by show w.heap.size ≤ w.heap.size + 4; omega) _), (BM.far (by show w.heap.size ≠ w.heap.size + 4; omega) _), (BX.far (by show w.heap.size + 1 ≠ w.heap.size + 4; omega) _), (BY.far (by show w.heap.size + 2 ≠ w.heap.size + 4; omega) _), (BR.far (by show w.heap.size + 3 ≠ w.heap.size + 4; omega) _), Lib.hid (.inr (.inr (.inl (⟨rfl, r0, yy, r2, r3, hi + k + l, by congr 1, BW.set_ 1 _, ⟨b0, bY, b2, b3⟩, hsum, hnew⟩))))⟩, by decide⟩
        · clear HI
          obtain ⟨r0, r1, r2, r3, c, rfl, BW, ⟨b0, b1, b2, b3⟩, hc, hval⟩ := X
          obtain ⟨hi, lo, blo, bhi, hml⟩ := mul_ex x0 y2 HT.out.1.1 HT.out.2.1.2.2.1
          have cm := fun w => (mul64_at w x0 y2 hi lo HT.out.1.1 HT.out.2.1.2.2.1 blo hml).mono fun e w' (h : _ ∧ w' = w) => (⟨h.1, by rw [h.2]; exact Below.refl _ _⟩ : _ ∧ Below w.heap.size w w')
          have htl : t02 ≤ 18446744073709551615 * 18446744073709551615 := by rw [HT.out.2.2.2.2.1]; exact Nat.mul_le_mul (by have := HT.out.1.1; omega) (by have := HT.out.2.1.2.2.1; omega)
          rw [← HT.out.2.2.2.2.1] at hml
          obtain ⟨xx, k, bx, bk, hxk, ra⟩ := add0_ex lo r2 blo b2
          obtain ⟨yy, l, bY, bl, hyl, rb⟩ := add0_ex xx c bx (by omega)
          have hsum : hi + k + l < 18446744073709551616 := by omega
          have hnew : val8 r0 r1 yy r3 0 0 0 0 + 6277101735386680763835789423207666416102355444464034512896 * (hi + k + l) = 0 + 1 * t00 + 18446744073709551616 * t01 + 340282366920938463463374607431768211456 * t02 := by
            simp only [val8] at hval ⊢
            omega
          have HN := Lib.hid (And.intro hnew (And.intro (And.intro b0 (And.intro b1 (And.intro b2 b3))) bY))
          have px : wr.cell? ⟨w.heap.size + 1, 0, none⟩ = some (.int .u64 (x0 : Int)) := BX.cell 0
          have py : wr.cell? ⟨w.heap.size + 2, 2, none⟩ = some (.int .u64 (y2 : Int)) := BY.cell 2
          clear hval hnew hml hxk hyl blo bx bY hc htl b0 b1 b2 b3
          go_wp2
          refine wp_region_G (fun _ => false) (by kernel_rfl) ?_
          try simp only [Act.put]
          refine wpAnyG_take 0 rfl (by kernel_rfl) (fun _ _ _ h => h) (YieldsG.pure (by rfl) (fun w9 _ => by go_simp; try with_reducible rfl)) ?_
          try simp only [Act.put, List.setIfInBounds_toArray, List.set_cons_zero, List.set_cons_succ]
          refine wpAnyG_take 1 rfl (by kernel_rfl) (fun _ _ _ h => h) (YieldsG.pure (by rfl) (fun w9 _ => by go_simp; try with_reducible rfl)) ?_
          try simp only [Act.put, List.setIfInBounds_toArray, List.set_cons_zero, List.set_cons_succ]
          refine wpAnyG_take 2 rfl (by kernel_rfl) (fun _ _ _ h => h) (YieldsG.pure (v := .int .u64 (x0 : Int)) (by rfl) (fun w9 h9 => by have hz := (Below.cell (p := ⟨w.heap.size + 1, 0, none⟩) h9 lX).trans px; go_simp; first | done | simp [hz])) ?_
          try simp only [Act.put, List.setIfInBounds_toArray, List.set_cons_zero, List.set_cons_succ]
          refine wpAnyG_take 3 rfl (by kernel_rfl) (fun _ _ _ h => h) (YieldsG.pure (by rfl) (fun w9 _ => by go_simp; try with_reducible rfl)) ?_
          try simp only [Act.put, List.setIfInBounds_toArray, List.set_cons_zero, List.set_cons_succ]
          refine wpAnyG_take 4 rfl (by kernel_rfl) (fun _ _ _ h => h) (YieldsG.pure (by rfl) (fun w9 _ => by go_simp; try with_reducible rfl)) ?_
          try simp only [Act.put, List.setIfInBounds_toArray, List.set_cons_zero, List.set_cons_succ]
          refine wpAnyG_take 5 rfl (by kernel_rfl) (fun _ _ _ h => h) (YieldsG.pure (v := .int .u64 (y2 : Int)) (by rfl) (fun w9 h9 => by have hz := (Below.cell (p := ⟨w.heap.size + 2, 2, none⟩) h9 lY).trans py; go_simp; first | done | simp [hz])) ?_
          try simp only [Act.put, List.setIfInBounds_toArray, List.set_cons_zero, List.set_cons_succ]
          refine wpAnyG_take 6 rfl (by kernel_rfl) (fun _ _ _ h => h) (YieldsG.call (v := .tuple #[.int .u64 (hi : Int), .int .u64 (lo : Int)]) (by rfl) 51 _ (fun w9 => by go_simp; try (first | with_reducible rfl | rfl)) (fun w9 h9 => cm w9)) ?_
          try simp only [Act.put, List.setIfInBounds_toArray, List.set_cons_zero, List.set_cons_succ]
          refine wpAnyG_take 7 rfl (by kernel_rfl) (fun _ _ _ h => h) (YieldsG.pure (by rfl) (fun w9 _ => by go_simp; try with_reducible rfl)) ?_
          try simp only [Act.put, List.setIfInBounds_toArray, List.set_cons_zero, List.set_cons_succ]
          refine wpAnyG_take 8 rfl (by kernel_rfl) (fun _ _ _ h => h) (YieldsG.pure (by rfl) (fun w9 _ => by go_simp; try with_reducible rfl)) ?_
          try simp only [Act.put, List.setIfInBounds_toArray, List.set_cons_zero, List.set_cons_succ]
          refine wpAnyG_take 9 rfl (by kernel_rfl) (fun _ _ _ h => h) (YieldsG.pure (by rfl) (fun w9 _ => by go_simp; try with_reducible rfl)) ?_
          try simp only [Act.put, List.setIfInBounds_toArray, List.set_cons_zero, List.set_cons_succ]
          refine wpAnyG_take 10 rfl (by kernel_rfl) (fun _ _ _ h => h) (YieldsG.pure (by rfl) (fun w9 _ => by go_simp; try with_reducible rfl)) ?_
          try simp only [Act.put, List.setIfInBounds_toArray, List.set_cons_zero, List.set_cons_succ]
          refine wpAnyG_take 11 rfl (by kernel_rfl) (fun _ _ _ h => h) (YieldsG.pure (by rfl) (fun w9 _ => by go_simp; try with_reducible rfl)) ?_
          try simp only [Act.put, List.setIfInBounds_toArray, List.set_cons_zero, List.set_cons_succ]
          refine wpAnyG_done (by kernel_rfl) (fun u hu => ?_)
          have BM := Gr.blk hu BM
          have BX := Gr.blk hu BX
          have BY := Gr.blk hu BY
          have BR := Gr.blk hu BR
          have BW := Gr.blk hu BW
          have hb := Below.gr hb hu
          have pa : u.cell? ⟨w.heap.size + 4, 2, none⟩ = some (.int .u64 (r2 : Int)) := BW.cell 2
          have pf := BW.frozen 2
          clear hu cm px py
          go_wp2
          obtain ⟨hnew, ⟨b0, b1, b2, b3⟩, bY⟩ := HN.out
          refine ⟨⟨(hb.setCell (by show w.heap.size ≤ w.heap.size + 4; omega) _), (BM.far (by show w.heap.size ≠ w.heap.size + 4; omega) _), (BX.far (by show w.heap.size + 1 ≠ w.heap.size + 4; omega) _), (BY.far (by show w.heap.size + 2 ≠ w.heap.size + 4; omega) _), (BR.far (by show w.heap.size + 3 ≠ w.heap.size + 4; omega) _), Lib.hid (.inr (.inr (.inr (.inl (⟨rfl, r0, r1, yy, r3, hi + k + l, by congr 1, BW.set_ 2 _, ⟨b0, b1, bY, b3⟩, hsum, hnew⟩)))))⟩, by decide⟩
        · clear HI
          obtain ⟨r0, r1, r2, r3, c, rfl, BW, ⟨b0, b1, b2, b3⟩, hc, hval⟩ := X
          obtain ⟨hi, lo, blo, bhi, hml⟩ := mul_ex x0 y3 HT.out.1.1 HT.out.2.1.2.2.2
          have cm := fun w => (mul64_at w x0 y3 hi lo HT.out.1.1 HT.out.2.1.2.2.2 blo hml).mono fun e w' (h : _ ∧ w' = w) => (⟨h.1, by rw [h.2]; exact Below.refl _ _⟩ : _ ∧ Below w.heap.size w w')
          have htl : t03 ≤ 18446744073709551615 * 18446744073709551615 := by rw [HT.out.2.2.2.2.2.1]; exact Nat.mul_le_mul (by have := HT.out.1.1; omega) (by have := HT.out.2.1.2.2.2; omega)
          rw [← HT.out.2.2.2.2.2.1] at hml
          obtain ⟨xx, k, bx, bk, hxk, ra⟩ := add0_ex lo r3 blo b3
          obtain ⟨yy, l, bY, bl, hyl, rb⟩ := add0_ex xx c bx (by omega)
          have hsum : hi + k + l < 18446744073709551616 := by omega
          have hnew : val8 r0 r1 r2 yy 0 0 0 0 + 115792089237316195423570985008687907853269984665640564039457584007913129639936 * (hi + k + l) = 0 + 1 * t00 + 18446744073709551616 * t01 + 340282366920938463463374607431768211456 * t02 + 6277101735386680763835789423207666416102355444464034512896 * t03 := by
            simp only [val8] at hval ⊢
            omega
          have HN := Lib.hid (And.intro hnew (And.intro (And.intro b0 (And.intro b1 (And.intro b2 b3))) bY))
          have px : wr.cell? ⟨w.heap.size + 1, 0, none⟩ = some (.int .u64 (x0 : Int)) := BX.cell 0
          have py : wr.cell? ⟨w.heap.size + 2, 3, none⟩ = some (.int .u64 (y3 : Int)) := BY.cell 3
          clear hval hnew hml hxk hyl blo bx bY hc htl b0 b1 b2 b3
          go_wp2
          refine wp_region_G (fun _ => false) (by kernel_rfl) ?_
          try simp only [Act.put]
          refine wpAnyG_take 0 rfl (by kernel_rfl) (fun _ _ _ h => h) (YieldsG.pure (by rfl) (fun w9 _ => by go_simp; try with_reducible rfl)) ?_
          try simp only [Act.put, List.setIfInBounds_toArray, List.set_cons_zero, List.set_cons_succ]
          refine wpAnyG_take 1 rfl (by kernel_rfl) (fun _ _ _ h => h) (YieldsG.pure (by rfl) (fun w9 _ => by go_simp; try with_reducible rfl)) ?_
          try simp only [Act.put, List.setIfInBounds_toArray, List.set_cons_zero, List.set_cons_succ]
          refine wpAnyG_take 2 rfl (by kernel_rfl) (fun _ _ _ h => h) (YieldsG.pure (v := .int .u64 (x0 : Int)) (by rfl) (fun w9 h9 => by have hz := (Below.cell (p := ⟨w.heap.size + 1, 0, none⟩) h9 lX).trans px; go_simp; first | done | simp [hz])) ?_
          try simp only [Act.put, List.setIfInBounds_toArray, List.set_cons_zero, List.set_cons_succ]
          refine wpAnyG_take 3 rfl (by kernel_rfl) (fun _ _ _ h => h) (YieldsG.pure (by rfl) (fun w9 _ => by go_simp; try with_reducible rfl)) ?_
          try simp only [Act.put, List.setIfInBounds_toArray, List.set_cons_zero, List.set_cons_succ]
          refine wpAnyG_take 4 rfl (by kernel_rfl) (fun _ _ _ h => h) (YieldsG.pure (by rfl) (fun w9 _ => by go_simp; try with_reducible rfl)) ?_
          try simp only [Act.put, List.setIfInBounds_toArray, List.set_cons_zero, List.set_cons_succ]
          refine wpAnyG_take 5 rfl (by kernel_rfl) (fun _ _ _ h => h) (YieldsG.pure (v := .int .u64 (y3 : Int)) (by rfl) (fun w9 h9 => by have hz := (Below.cell (p := ⟨w.heap.size + 2, 3, none⟩) h9 lY).trans py; go_simp; first | done | simp [hz])) ?_
          try simp only [Act.put, List.setIfInBounds_toArray, List.set_cons_zero, List.set_cons_succ]
          refine wpAnyG_take 6 rfl (by kernel_rfl) (fun _ _ _ h => h) (YieldsG.call (v := .tuple #[.int .u64 (hi : Int), .int .u64 (lo : Int)]) (by rfl) 51 _ (fun w9 => by go_simp; try (first | with_reducible rfl | rfl)) (fun w9 h9 => cm w9)) ?_
          try simp only [Act.put, List.setIfInBounds_toArray, List.set_cons_zero, List.set_cons_succ]
          refine wpAnyG_take 7 rfl (by kernel_rfl) (fun _ _ _ h => h) (YieldsG.pure (by rfl) (fun w9 _ => by go_simp; try with_reducible rfl)) ?_
          try simp only [Act.put, List.setIfInBounds_toArray, List.set_cons_zero, List.set_cons_succ]
          refine wpAnyG_take 8 rfl (by kernel_rfl) (fun _ _ _ h => h) (YieldsG.pure (by rfl) (fun w9 _ => by go_simp; try with_reducible rfl)) ?_
          try simp only [Act.put, List.setIfInBounds_toArray, List.set_cons_zero, List.set_cons_succ]
          refine wpAnyG_take 9 rfl (by kernel_rfl) (fun _ _ _ h => h) (YieldsG.pure (by rfl) (fun w9 _ => by go_simp; try with_reducible rfl)) ?_
          try simp only [Act.put, List.setIfInBounds_toArray, List.set_cons_zero, List.set_cons_succ]
          refine wpAnyG_take 10 rfl (by kernel_rfl) (fun _ _ _ h => h) (YieldsG.pure (by rfl) (fun w9 _ => by go_simp; try with_reducible rfl)) ?_
          try simp only [Act.put, List.setIfInBounds_toArray, List.set_cons_zero, List.set_cons_succ]
          refine wpAnyG_take 11 rfl (by kernel_rfl) (fun _ _ _ h => h) (YieldsG.pure (by rfl) (fun w9 _ => by go_simp; try with_reducible rfl)) ?_
          try simp only [Act.put, List.setIfInBounds_toArray, List.set_cons_zero, List.set_cons_succ]
          refine wpAnyG_done (by kernel_rfl) (fun u hu => ?_)
          have BM := Gr.blk hu BM
          have BX := Gr.blk hu BX
          have BY := Gr.blk hu BY
          have BR := Gr.blk hu BR
          have BW := Gr.blk hu BW
          have hb := Below.gr hb hu
          have pa : u.cell? ⟨w.heap.size + 4, 3, none⟩ = some (.int .u64 (r3 : Int)) := BW.cell 3
          have pf := BW.frozen 3
          clear hu cm px py
          go_wp2
          obtain ⟨hnew, ⟨b0, b1, b2, b3⟩, bY⟩ := HN.out
          refine ⟨⟨(hb.setCell (by show w.heap.size ≤ w.heap.size + 4; omega) _), (BM.far (by show w.heap.size ≠ w.heap.size + 4; omega) _), (BX.far (by show w.heap.size + 1 ≠ w.heap.size + 4; omega) _), (BY.far (by show w.heap.size + 2 ≠ w.heap.size + 4; omega) _), (BR.far (by show w.heap.size + 3 ≠ w.heap.size + 4; omega) _), Lib.hid (.inr (.inr (.inr (.inr (⟨rfl, r0, r1, r2, yy, hi + k + l, by congr 1, BW.set_ 3 _, ⟨b0, b1, b2, bY⟩, hsum, hnew⟩)))))⟩, by decide⟩
        · clear HI
          obtain ⟨r0, r1, r2, r3, c, rfl, BW, ⟨b0, b1, b2, b3⟩, hc, hval⟩ := X
          have HV := Lib.hid hval
          have pa : wr.cell? ⟨w.heap.size + 4, 4, none⟩ = some (.int .u64 0) := BW.cell 4
          have pf := BW.frozen 4
          clear hval
          go_wp2
          refine ⟨⟨(hb.setCell (by show w.heap.size ≤ w.heap.size + 4; omega) _), (BM.far (by show w.heap.size ≠ w.heap.size + 4; omega) _), (BX.far (by show w.heap.size + 1 ≠ w.heap.size + 4; omega) _), (BY.far (by show w.heap.size + 2 ≠ w.heap.size + 4; omega) _), (BR.far (by show w.heap.size + 3 ≠ w.heap.size + 4; omega) _), Lib.hid (.inr (.inl (⟨rfl, r0, r1, r2, r3, c, BW.set_ 4 _, ⟨b0, b1, b2, b3, hc⟩, by have := HV.out; simp only [val8] at this ⊢; omega⟩)))⟩, by decide⟩
    · clear HI
      obtain ⟨r0, r1, r2, r3, r4, BW, hlt, hval⟩ := X
      go_wp2
      go_loopw [9, 10] (fun cv j wr => Below w.heap.size w wr ∧ Blk wr w.heap.size 76 #[.int .u64 18446744069414583343, .int .u64 18446744073709551615, .int .u64 18446744073709551615, .int .u64 18446744073709551615, .int .u64 4294968273, .int .u64 0, .int .u64 0] ∧ Blk wr (w.heap.size + 1) 68 #[.int .u64 (x0 : Int), .int .u64 (x1 : Int), .int .u64 (x2 : Int), .int .u64 (x3 : Int)] ∧ Blk wr (w.heap.size + 2) 68 #[.int .u64 (y0 : Int), .int .u64 (y1 : Int), .int .u64 (y2 : Int), .int .u64 (y3 : Int)] ∧ Blk wr (w.heap.size + 3) 68 #[.int .u64 0, .int .u64 0, .int .u64 0, .int .u64 0] ∧ Hid ((j = .int .i64 0 ∧ ∃ r0 r1 r2 r3 r4 c : Nat, cv = .int .u64 (c : Int) ∧ Blk wr (w.heap.size + 4) 154 #[.int .u64 (r0 : Int), .int .u64 (r1 : Int), .int .u64 (r2 : Int), .int .u64 (r3 : Int), .int .u64 (r4 : Int), .int .u64 0, .int .u64 0, .int .u64 0] ∧ (r0 < 18446744073709551616 ∧ r1 < 18446744073709551616 ∧ r2 < 18446744073709551616 ∧ r3 < 18446744073709551616 ∧ r4 < 18446744073709551616) ∧ c = 0 ∧ val8 r0 r1 r2 r3 r4 0 0 0 + 18446744073709551616 * c = 0 + 1 * t00 + 18446744073709551616 * t01 + 340282366920938463463374607431768211456 * t02 + 6277101735386680763835789423207666416102355444464034512896 * t03) ∨ (j = .int .i64 1 ∧ ∃ r0 r1 r2 r3 r4 c : Nat, cv = .int .u64 (c : Int) ∧ Blk wr (w.heap.size + 4) 154 #[.int .u64 (r0 : Int), .int .u64 (r1 : Int), .int .u64 (r2 : Int), .int .u64 (r3 : Int), .int .u64 (r4 : Int), .int .u64 0, .int .u64 0, .int .u64 0] ∧ (r0 < 18446744073709551616 ∧ r1 < 18446744073709551616 ∧ r2 < 18446744073709551616 ∧ r3 < 18446744073709551616 ∧ r4 < 18446744073709551616) ∧ c < 18446744073709551616 ∧ val8 r0 r1 r2 r3 r4 0 0 0 + 340282366920938463463374607431768211456 * c = 0 + 1 * t00 + 18446744073709551616 * t01 + 340282366920938463463374607431768211456 * t02 + 6277101735386680763835789423207666416102355444464034512896 * t03 + 18446744073709551616 * t10) ∨ (j = .int .i64 2 ∧ ∃ r0 r1 r2 r3 r4 c : Nat, cv = .int .u64 (c : Int) ∧ Blk wr (w.heap.size + 4) 154 #[.int .u64 (r0 : Int), .int .u64 (r1 : Int), .int .u64 (r2 : Int), .int .u64 (r3 : Int), .int .u64 (r4 : Int), .int .u64 0, .int .u64 0, .int .u64 0] ∧ (r0 < 18446744073709551616 ∧ r1 < 18446744073709551616 ∧ r2 < 18446744073709551616 ∧ r3 < 18446744073709551616 ∧ r4 < 18446744073709551616) ∧ c < 18446744073709551616 ∧ val8 r0 r1 r2 r3 r4 0 0 0 + 6277101735386680763835789423207666416102355444464034512896 * c = 0 + 1 * t00 + 18446744073709551616 * t01 + 340282366920938463463374607431768211456 * t02 + 6277101735386680763835789423207666416102355444464034512896 * t03 + 18446744073709551616 * t10 + 340282366920938463463374607431768211456 * t11) ∨ (j = .int .i64 3 ∧ ∃ r0 r1 r2 r3 r4 c : Nat, cv = .int .u64 (c : Int) ∧ Blk wr (w.heap.size + 4) 154 #[.int .u64 (r0 : Int), .int .u64 (r1 : Int), .int .u64 (r2 : Int), .int .u64 (r3 : Int), .int .u64 (r4 : Int), .int .u64 0, .int .u64 0, .int .u64 0] ∧ (r0 < 18446744073709551616 ∧ r1 < 18446744073709551616 ∧ r2 < 18446744073709551616 ∧ r3 < 18446744073709551616 ∧ r4 < 18446744073709551616) ∧ c < 18446744073709551616 ∧ val8 r0 r1 r2 r3 r4 0 0 0 + 115792089237316195423570985008687907853269984665640564039457584007913129639936 * c = 0 + 1 * t00 + 18446744073709551616 * t01 + 340282366920938463463374607431768211456 * t02 + 6277101735386680763835789423207666416102355444464034512896 * t03 + 18446744073709551616 * t10 + 340282366920938463463374607431768211456 * t11 + 6277101735386680763835789423207666416102355444464034512896 * t12) ∨ (j = .int .i64 4 ∧ ∃ r0 r1 r2 r3 r4 c : Nat, cv = .int .u64 (c : Int) ∧ Blk wr (w.heap.size + 4) 154 #[.int .u64 (r0 : Int), .int .u64 (r1 : Int), .int .u64 (r2 : Int), .int .u64 (r3 : Int), .int .u64 (r4 : Int), .int .u64 0, .int .u64 0, .int .u64 0] ∧ (r0 < 18446744073709551616 ∧ r1 < 18446744073709551616 ∧ r2 < 18446744073709551616 ∧ r3 < 18446744073709551616 ∧ r4 < 18446744073709551616) ∧ c < 18446744073709551616 ∧ val8 r0 r1 r2 r3 r4 0 0 0 + 2135987035920910082395021706169552114602704522356652769947041607822219725780640550022962086936576 * c = 0 + 1 * t00 + 18446744073709551616 * t01 + 340282366920938463463374607431768211456 * t02 + 6277101735386680763835789423207666416102355444464034512896 * t03 + 18446744073709551616 * t10 + 340282366920938463463374607431768211456 * t11 + 6277101735386680763835789423207666416102355444464034512896 * t12 + 115792089237316195423570985008687907853269984665640564039457584007913129639936 * t13))) (fun _ j _ => 4 - (intOf j).toNat)
      case atStart => exact ⟨hb, BM, BX, BY, BR, Lib.hid (.inl ⟨rfl, r0, r1, r2, r3, r4, 0, rfl, BW, hlt, rfl, by omega⟩)⟩
      case round =>
        clear hb BM BX BY BR BW hlt hval
        obtain ⟨hb, BM, BX, BY, BR, HI⟩ := hrel
        have lX := BX.lt
        have lY := BY.lt
        rcases HI.out with ⟨rfl, X⟩ | ⟨rfl, X⟩ | ⟨rfl, X⟩ | ⟨rfl, X⟩ | ⟨rfl, X⟩
        · clear HI
          obtain ⟨r0, r1, r2, r3, r4, c, rfl, BW, ⟨b0, b1, b2, b3, b4⟩, hc, hval⟩ := X
          obtain ⟨hi, lo, blo, bhi, hml⟩ := mul_ex x1 y0 HT.out.1.2.1 HT.out.2.1.1
          have cm := fun w => (mul64_at w x1 y0 hi lo HT.out.1.2.1 HT.out.2.1.1 blo hml).mono fun e w' (h : _ ∧ w' = w) => (⟨h.1, by rw [h.2]; exact Below.refl _ _⟩ : _ ∧ Below w.heap.size w w')
          have htl : t10 ≤ 18446744073709551615 * 18446744073709551615 := by rw [HT.out.2.2.2.2.2.2.1]; exact Nat.mul_le_mul (by have := HT.out.1.2.1; omega) (by have := HT.out.2.1.1; omega)
          rw [← HT.out.2.2.2.2.2.2.1] at hml
          obtain ⟨xx, k, bx, bk, hxk, ra⟩ := add0_ex lo r1 blo b1
          obtain ⟨yy, l, bY, bl, hyl, rb⟩ := add0_ex xx c bx (by omega)
          have hsum : hi + k + l < 18446744073709551616 := by omega
          have hnew : val8 r0 yy r2 r3 r4 0 0 0 + 340282366920938463463374607431768211456 * (hi + k + l) = 0 + 1 * t00 + 18446744073709551616 * t01 + 340282366920938463463374607431768211456 * t02 + 6277101735386680763835789423207666416102355444464034512896 * t03 + 18446744073709551616 * t10 := by
            simp only [val8] at hval ⊢
            omega
          have HN := Lib.hid (And.intro hnew (And.intro (And.intro b0 (And.intro b1 (And.intro b2 (And.intro b3 b4)))) bY))
          have px : wr.cell? ⟨w.heap.size + 1, 1, none⟩ = some (.int .u64 (x1 : Int)) := BX.cell 1
          have py : wr.cell? ⟨w.heap.size + 2, 0, none⟩ = some (.int .u64 (y0 : Int)) := BY.cell 0
          clear hval hnew hml hxk hyl blo bx bY hc htl b0 b1 b2 b3 b4
          go_wp2
          refine wp_region_G (fun _ => false) (by kernel_rfl) ?_
          try simp only [Act.put]
          refine wpAnyG_take 0 rfl (by kernel_rfl) (fun _ _ _ h => h) (YieldsG.pure (by rfl) (fun w9 _ => by go_simp; try with_reducible rfl)) ?_
          try simp only [Act.put, List.setIfInBounds_toArray, List.set_cons_zero, List.set_cons_succ]
          refine wpAnyG_take 1 rfl (by kernel_rfl) (fun _ _ _ h => h) (YieldsG.pure (by rfl) (fun w9 _ => by go_simp; try with_reducible rfl)) ?_
          try simp only [Act.put, List.setIfInBounds_toArray, List.set_cons_zero, List.set_cons_succ]
          refine wpAnyG_take 2 rfl (by kernel_rfl) (fun _ _ _ h => h) (YieldsG.pure (v := .int .u64 (x1 : Int)) (by rfl) (fun w9 h9 => by have hz := (Below.cell (p := ⟨w.heap.size + 1, 1, none⟩) h9 lX).trans px; go_simp; first | done | simp [hz])) ?_
          try simp only [Act.put, List.setIfInBounds_toArray, List.set_cons_zero, List.set_cons_succ]
          refine wpAnyG_take 3 rfl (by kernel_rfl) (fun _ _ _ h => h) (YieldsG.pure (by rfl) (fun w9 _ => by go_simp; try with_reducible rfl)) ?_
          try simp only [Act.put, List.setIfInBounds_toArray, List.set_cons_zero, List.set_cons_succ]
          refine wpAnyG_take 4 rfl (by kernel_rfl) (fun _ _ _ h => h) (YieldsG.pure (by rfl) (fun w9 _ => by go_simp; try with_reducible rfl)) ?_
          try simp only [Act.put, List.setIfInBounds_toArray, List.set_cons_zero, List.set_cons_succ]
          refine wpAnyG_take 5 rfl (by kernel_rfl) (fun _ _ _ h => h) (YieldsG.pure (v := .int .u64 (y0 : Int)) (by rfl) (fun w9 h9 => by have hz := (Below.cell (p := ⟨w.heap.size + 2, 0, none⟩) h9 lY).trans py; go_simp; first | done | simp [hz])) ?_
          try simp only [Act.put, List.setIfInBounds_toArray, List.set_cons_zero, List.set_cons_succ]
          refine wpAnyG_take 6 rfl (by kernel_rfl) (fun _ _ _ h => h) (YieldsG.call (v := .tuple #[.int .u64 (hi : Int), .int .u64 (lo : Int)]) (by rfl) 51 _ (fun w9 => by go_simp; try (first | with_reducible rfl | rfl)) (fun w9 h9 => cm w9)) ?_
          try simp only [Act.put, List.setIfInBounds_toArray, List.set_cons_zero, List.set_cons_succ]
          refine wpAnyG_take 7 rfl (by kernel_rfl) (fun _ _ _ h => h) (YieldsG.pure (by rfl) (fun w9 _ => by go_simp; try with_reducible rfl)) ?_
          try simp only [Act.put, List.setIfInBounds_toArray, List.set_cons_zero, List.set_cons_succ]
          refine wpAnyG_take 8 rfl (by kernel_rfl) (fun _ _ _ h => h) (YieldsG.pure (by rfl) (fun w9 _ => by go_simp; try with_reducible rfl)) ?_
          try simp only [Act.put, List.setIfInBounds_toArray, List.set_cons_zero, List.set_cons_succ]
          refine wpAnyG_take 9 rfl (by kernel_rfl) (fun _ _ _ h => h) (YieldsG.pure (by rfl) (fun w9 _ => by go_simp; try with_reducible rfl)) ?_
          try simp only [Act.put, List.setIfInBounds_toArray, List.set_cons_zero, List.set_cons_succ]
          refine wpAnyG_take 10 rfl (by kernel_rfl) (fun _ _ _ h => h) (YieldsG.pure (by rfl) (fun w9 _ => by go_simp; try with_reducible rfl)) ?_
          try simp only [Act.put, List.setIfInBounds_toArray, List.set_cons_zero, List.set_cons_succ]
          refine wpAnyG_take 11 rfl (by kernel_rfl) (fun _ _ _ h => h) (YieldsG.pure (by rfl) (fun w9 _ => by go_simp; try with_reducible rfl)) ?_
          try simp only [Act.put, List.setIfInBounds_toArray, List.set_cons_zero, List.set_cons_succ]
          refine wpAnyG_done (by kernel_rfl) (fun u hu => ?_)
          have BM := Gr.blk hu BM
          have BX := Gr.blk hu BX
          have BY := Gr.blk hu BY
          have BR := Gr.blk hu BR
          have BW := Gr.blk hu BW
          have hb := Below.gr hb hu
          have pa : u.cell? ⟨w.heap.size + 4, 1, none⟩ = some (.int .u64 (r1 : Int)) := BW.cell 1
          have pf := BW.frozen 1
          clear hu cm px py
          go_wp2
          obtain ⟨hnew, ⟨b0, b1, b2, b3, b4⟩, bY⟩ := HN.out
          refine ⟨⟨(hb.setCell (by show w.heap.size ≤ w.heap.size + 4; omega) _), (BM.far (by show w.heap.size ≠ w.heap.size + 4; omega) _), (BX.far (by show w.heap.size + 1 ≠ w.heap.size + 4; omega) _), (BY.far (by show w.heap.size + 2 ≠ w.heap.size + 4; omega) _), (BR.far (by show w.heap.size + 3 ≠ w.heap.size + 4; omega) _), Lib.hid (.inr (.inl (⟨rfl, r0, yy, r2, r3, r4, hi + k + l, by congr 1, BW.set_ 1 _, ⟨b0, bY, b2, b3, b4⟩, hsum, hnew⟩)))⟩, by decide⟩
        · clear HI
          obtain ⟨r0, r1, r2, r3, r4, c, rfl, BW, ⟨b0, b1, b2, b3, b4⟩, hc, hval⟩ := X
          obtain ⟨hi, lo, blo, bhi, hml⟩ := mul_ex x1 y1 HT.out.1.2.1 HT.out.2.1.2.1
          have cm := fun w => (mul64_at w x1 y1 hi lo HT.out.1.2.1 HT.out.2.1.2.1 blo hml).mono fun e w' (h : _ ∧ w' = w) => (⟨h.1, by rw [h.2]; exact Below.refl _ _⟩ : _ ∧ Below w.heap.size w w')
          have htl : t11 ≤ 18446744073709551615 * 18446744073709551615 := by rw [HT.out.2.2.2.2.2.2.2.1]; exact Nat.mul_le_mul (by have := HT.out.1.2.1; omega) (by have := HT.out.2.1.2.1; omega)
          rw [← HT.out.2.2.2.2.2.2.2.1] at hml
          obtain ⟨xx, k, bx, bk, hxk, ra⟩ := add0_ex lo r2 blo b2
          obtain ⟨yy, l, bY, bl, hyl, rb⟩ := add0_ex xx c bx (by omega)
          have hsum : hi + k + l < 18446744073709551616 := by omega
          have hnew : val8 r0 r1 yy r3 r4 0 0 0 + 6277101735386680763835789423207666416102355444464034512896 * (hi + k + l) = 0 + 1 * t00 + 18446744073709551616 * t01 + 340282366920938463463374607431768211456 * t02 + 6277101735386680763835789423207666416102355444464034512896 * t03 + 18446744073709551616 * t10 + 340282366920938463463374607431768211456 * t11 := by
            simp only [val8] at hval ⊢
            omega
          have HN := Lib.hid (And.intro hnew (And.intro (And.intro b0 (And.intro b1 (And.intro b2 (And.intro b3 b4)))) bY))
          have px : wr.cell? ⟨w.heap.size + 1, 1, none⟩ = some (.int .u64 (x1 : Int)) := BX.cell 1
          have py : wr.cell? ⟨w.heap.size + 2, 1, none⟩ = some (.int .u64 (y1 : Int)) := BY.cell 1
          clear hval hnew hml hxk hyl blo bx bY hc htl b0 b1 b2 b3 b4
          go_wp2
          refine wp_region_G (fun _ => false) (by kernel_rfl) ?_
          try simp only [Act.put]
          refine wpAnyG_take 0 rfl (by kernel_rfl) (fun _ _ _ h => h) (YieldsG.pure (by rfl) (fun w9 _ => by go_simp; try with_reducible rfl)) ?_
          try simp only [Act.put, List.setIfInBounds_toArray, List.set_cons_zero, List.set_cons_succ]
          refine wpAnyG_take 1 rfl (by kernel_rfl) (fun _ _ _ h => h) (YieldsG.pure (by rfl) (fun w9 _ => by go_simp; try with_reducible rfl)) ?_
          try simp only [Act.put, List.setIfInBounds_toArray, List.set_cons_zero, List.set_cons_succ]
          refine wpAnyG_take 2 rfl (by kernel_rfl) (fun _ _ _ h => h) (YieldsG.pure (v := .int .u64 (x1 : Int)) (by rfl) (fun w9 h9 => by have hz := (Below.cell (p := ⟨w.heap.size + 1, 1, none⟩) h9 lX).trans px; go_simp; first | done | simp [hz])) ?_
          try simp only [Act.put, List.setIfInBounds_toArray, List.set_cons_zero, List.set_cons_succ]
          refine wpAnyG_take 3 rfl (by kernel_rfl) (fun _ _ _ h => h) (YieldsG.pure (by rfl) (fun w9 _ => by go_simp; try with_reducible rfl)) ?_
          try simp only [Act.put, List.setIfInBounds_toArray, List.set_cons_zero, List.set_cons_succ]
          refine wpAnyG_take 4 rfl (by kernel_rfl) (fun _ _ _ h => h) (YieldsG.pure (by rfl) (fun w9 _ => by go_simp; try with_reducible rfl)) ?_
          try simp only [Act.put, List.setIfInBounds_toArray, List.set_cons_zero, List.set_cons_succ]
          refine wpAnyG_take 5 rfl (by kernel_rfl) (fun _ _ _ h => h) (YieldsG.pure (v := .int .u64 (y1 : Int)) (by rfl) (fun w9 h9 => by have hz := (Below.cell (p := ⟨w.heap.size + 2, 1, none⟩) h9 lY).trans py; go_simp; first | done | simp [hz])) ?_
          try simp only [Act.put, List.setIfInBounds_toArray, List.set_cons_zero, List.set_cons_succ]
          refine wpAnyG_take 6 rfl (by kernel_rfl) (fun _ _ _ h => h) (YieldsG.call (v := .tuple #[.int .u64 (hi : Int), .int .u64 (lo : Int)]) (by rfl) 51 _ (fun w9 => by go_simp; try (first | with_reducible rfl | rfl)) (fun w9 h9 => cm w9)) ?_
          try simp only [Act.put, List.setIfInBounds_toArray, List.set_cons_zero, List.set_cons_succ]
          refine wpAnyG_take 7 rfl (by kernel_rfl) (fun _ _ _ h => h) (YieldsG.pure (by rfl) (fun w9 _ => by go_simp; try with_reducible rfl)) ?_
          try simp only [Act.put, List.setIfInBounds_toArray, List.set_cons_zero, List.set_cons_succ]
          refine wpAnyG_take 8 rfl (by kernel_rfl) (fun _ _ _ h => h) (YieldsG.pure (by rfl) (fun w9 _ => by go_simp; try with_reducible rfl)) ?_
          try simp only [Act.put, List.setIfInBounds_toArray, List.set_cons_zero, List.set_cons_succ]
          refine wpAnyG_take 9 rfl (by kernel_rfl) (fun _ _ _ h => h) (YieldsG.pure (by rfl) (fun w9 _ => by go_simp; try with_reducible rfl)) ?_
          try simp only [Act.put, List.setIfInBounds_toArray, List.set_cons_zero, List.set_cons_succ]
          refine wpAnyG_take 10 rfl (by kernel_rfl) (fun _ _ _ h => h) (YieldsG.pure (by rfl) (fun w9 _ => by go_simp; try with_reducible rfl)) ?_
          try simp only [Act.put, List.setIfInBounds_toArray, List.set_cons_zero, List.set_cons_succ]
          refine wpAnyG_take 11 rfl (by kernel_rfl) (fun _ _ _ h => h) (YieldsG.pure (by rfl) (fun w9 _ => by go_simp; try with_reducible rfl)) ?_
          try simp only [Act.put, List.setIfInBounds_toArray, List.set_cons_zero, List.set_cons_succ]
          refine wpAnyG_done (by kernel_rfl) (fun u hu => ?_)
          have BM := Gr.blk hu BM
          have BX := Gr.blk hu BX
          have BY := Gr.blk hu BY
          have BR := Gr.blk hu BR
          have BW := Gr.blk hu BW
          have hb := Below.gr hb hu
          have pa : u.cell? ⟨w.heap.size + 4, 2, none⟩ = some (.int .u64 (r2 : Int)) := BW.cell 2
          have pf := BW.frozen 2
          clear hu cm px py
          go_wp2
          obtain ⟨hnew, ⟨b0, b1, b2, b3, b4⟩, bY⟩ := HN.out
          refine ⟨⟨(hb.setCell (by show w.heap.size ≤ w.heap.size + 4; omega) _), (BM.far (by show w.heap.size ≠ w.heap.size + 4; omega) _), (BX.far (by show w.heap.size + 1 ≠ w.heap.size + 4; omega) _), (BY.far (by show w.heap.size + 2 ≠ w.heap.size + 4; omega) _), (BR.far (by show w.heap.size + 3 ≠ w.heap.size + 4; omega) _), Lib.hid (.inr (.inr (.inl (⟨rfl, r0, r1, yy, r3, r4, hi + k + l, by congr 1, BW.set_ 2 _, ⟨b0, b1, bY, b3, b4⟩, hsum, hnew⟩))))⟩, by decide⟩
        · clear HI
          obtain ⟨r0, r1, r2, r3, r4, c, rfl, BW, ⟨b0, b1, b2, b3, b4⟩, hc, hval⟩ := X
          obtain ⟨hi, lo, blo, bhi, hml⟩ := mul_ex x1 y2 HT.out.1.2.1 HT.out.2.1.2.2.1
          have cm := fun w => (mul64_at w x1 y2 hi lo HT.out.1.2.1 HT.out.2.1.2.2.1 blo hml).mono fun e w' (h : _ ∧ w' = w) => (⟨h.1, by rw [h.2]; exact Below.refl _ _⟩ : _ ∧ Below w.heap.size w w')
          have htl : t12 ≤ 18446744073709551615 * 18446744073709551615 := by rw [HT.out.2.2.2.2.2.2.2.2.1]; exact Nat.mul_le_mul (by have := HT.out.1.2.1; omega) (by have := HT.out.2.1.2.2.1; omega)
          rw [← HT.out.2.2.2.2.2.2.2.2.1] at hml
          obtain ⟨xx, k, bx, bk, hxk, ra⟩ := add0_ex lo r3 blo b3
          obtain ⟨yy, l, bY, bl, hyl, rb⟩ := add0_ex xx c bx (by omega)
          have hsum : hi + k + l < 18446744073709551616 := by omega
          have hnew : val8 r0 r1 r2 yy r4 0 0 0 + 115792089237316195423570985008687907853269984665640564039457584007913129639936 * (hi + k + l) = 0 + 1 * t00 + 18446744073709551616 * t01 + 340282366920938463463374607431768211456 * t02 + 6277101735386680763835789423207666416102355444464034512896 * t03 + 18446744073709551616 * t10 + 340282366920938463463374607431768211456 * t11 + 6277101735386680763835789423207666416102355444464034512896 * t12 := by
            simp only [val8] at hval ⊢
            omega
          have HN := Lib.hid (And.intro hnew (And.intro (And.intro b0 (And.intro b1 (And.intro b2 (And.intro b3 b4)))) bY))
          have px : wr.cell? ⟨w.heap.size + 1, 1, none⟩ = some (.int .u64 (x1 : Int)) := BX.cell 1
          have py : wr.cell? ⟨w.heap.size + 2, 2, none⟩ = some (.int .u64 (y2 : Int)) := BY.cell 2
          clear hval hnew hml hxk hyl blo bx bY hc htl b0 b1 b2 b3 b4
          go_wp2
          refine wp_region_G (fun _ => false) (by kernel_rfl) ?_
          try simp only [Act.put]
          refine wpAnyG_take 0 rfl (by kernel_rfl) (fun _ _ _ h => h) (YieldsG.pure (by rfl) (fun w9 _ => by go_simp; try with_reducible rfl)) ?_
          try simp only [Act.put, List.setIfInBounds_toArray, List.set_cons_zero, List.set_cons_succ]
          refine wpAnyG_take 1 rfl (by kernel_rfl) (fun _ _ _ h => h) (YieldsG.pure (by rfl) (fun w9 _ => by go_simp; try with_reducible rfl)) ?_
          try simp only [Act.put, List.setIfInBounds_toArray, List.set_cons_zero, List.set_cons_succ]
          refine wpAnyG_take 2 rfl (by kernel_rfl) (fun _ _ _ h => h) (YieldsG.pure (v := .int .u64 (x1 : Int)) (by rfl) (fun w9 h9 => by have hz := (Below.cell (p := ⟨w.heap.size + 1, 1, none⟩) h9 lX).trans px; go_simp; first | done | simp [hz])) ?_
          try simp only [Act.put, List.setIfInBounds_toArray, List.set_cons_zero, List.set_cons_succ]
          refine wpAnyG_take 3 rfl (by kernel_rfl) (fun _ _ _ h => h) (YieldsG.pure (by rfl) (fun w9 _ => by go_simp; try with_reducible rfl)) ?_
          try simp only [Act.put, List.setIfInBounds_toArray, List.set_cons_zero, List.set_cons_succ]
          refine wpAnyG_take 4 rfl (by kernel_rfl) (fun _ _ _ h => h) (YieldsG.pure (by rfl) (fun w9 _ => by go_simp; try with_reducible rfl)) ?_
          try simp only [Act.put, List.setIfInBounds_toArray, List.set_cons_zero, List.set_cons_succ]
          refine wpAnyG_take 5 rfl (by kernel_rfl) (fun _ _ _ h => h) (YieldsG.pure (v := .int .u64 (y2 : Int)) (by rfl) (fun w9 h9 => by have hz := (Below.cell (p := ⟨w.heap.size + 2, 2, none⟩) h9 lY).trans py; go_simp; first | done | simp [hz])) ?_
          try simp only [Act.put, List.setIfInBounds_toArray, List.set_cons_zero, List.set_cons_succ]
          refine wpAnyG_take 6 rfl (by kernel_rfl) (fun _ _ _ h => h) (YieldsG.call (v := .tuple #[.int .u64 (hi : Int), .int .u64 (lo : Int)]) (by rfl) 51 _ (fun w9 => by go_simp; try (first | with_reducible rfl | rfl)) (fun w9 h9 => cm w9)) ?_
          try simp only [Act.put, List.setIfInBounds_toArray, List.set_cons_zero, List.set_cons_succ]
          refine wpAnyG_take 7 rfl (by kernel_rfl) (fun _ _ _ h => h) (YieldsG.pure (by rfl) (fun w9 _ => by go_simp; try with_reducible rfl)) ?_
          try simp only [Act.put, List.setIfInBounds_toArray, List.set_cons_zero, List.set_cons_succ]
          refine wpAnyG_take 8 rfl (by kernel_rfl) (fun _ _ _ h => h) (YieldsG.pure (by rfl) (fun w9 _ => by go_simp; try with_reducible rfl)) ?_
          try simp only [Act.put, List.setIfInBounds_toArray, List.set_cons_zero, List.set_cons_succ]
          refine wpAnyG_take 9 rfl (by kernel_rfl) (fun _ _ _ h => h) (YieldsG.pure (by rfl) (fun w9 _ => by go_simp; try with_reducible rfl)) ?_
          try simp only [Act.put, List.setIfInBounds_toArray, List.set_cons_zero, List.set_cons_succ]
          refine wpAnyG_take 10 rfl (by kernel_rfl) (fun _ _ _ h => h) (YieldsG.pure (by rfl) (fun w9 _ => by go_simp; try with_reducible rfl)) ?_
          try simp only [Act.put, List.setIfInBounds_toArray, List.set_cons_zero, List.set_cons_succ]
          refine wpAnyG_take 11 rfl (by kernel_rfl) (fun _ _ _ h => h) (YieldsG.pure (by rfl) (fun w9 _ => by go_simp; try with_reducible rfl)) ?_
          try simp only [Act.put, List.setIfInBounds_toArray, List.set_cons_zero, List.set_cons_succ]
          refine wpAnyG_done (by kernel_rfl) (fun u hu => ?_)
          have BM := Gr.blk hu BM
          have BX := Gr.blk hu BX
          have BY := Gr.blk hu BY
          have BR := Gr.blk hu BR
          have BW := Gr.blk hu BW
          have hb := Below.gr hb hu
          have pa : u.cell? ⟨w.heap.size + 4, 3, none⟩ = some (.int .u64 (r3 : Int)) := BW.cell 3
          have pf := BW.frozen 3
          clear hu cm px py
          go_wp2
          obtain ⟨hnew, ⟨b0, b1, b2, b3, b4⟩, bY⟩ := HN.out
          refine ⟨⟨(hb.setCell (by show w.heap.size ≤ w.heap.size + 4; omega) _), (BM.far (by show w.heap.size ≠ w.heap.size + 4; omega) _), (BX.far (by show w.heap.size + 1 ≠ w.heap.size + 4; omega) _), (BY.far (by show w.heap.size + 2 ≠ w.heap.size + 4; omega) _), (BR.far (by show w.heap.size + 3 ≠ w.heap.size + 4; omega) _), Lib.hid (.inr (.inr (.inr (.inl (⟨rfl, r0, r1, r2, yy, r4, hi + k + l, by congr 1, BW.set_ 3 _, ⟨b0, b1, b2, bY, b4⟩, hsum, hnew⟩)))))⟩, by decide⟩
        · clear HI
          obtain ⟨r0, r1, r2, r3, r4, c, rfl, BW, ⟨b0, b1, b2, b3, b4⟩, hc, hval⟩ := X
          obtain ⟨hi, lo, blo, bhi, hml⟩ := mul_ex x1 y3 HT.out.1.2.1 HT.out.2.1.2.2.2
          have cm := fun w => (mul64_at w x1 y3 hi lo HT.out.1.2.1 HT.out.2.1.2.2.2 blo hml).mono fun e w' (h : _ ∧ w' = w) => (⟨h.1, by rw [h.2]; exact Below.refl _ _⟩ : _ ∧ Below w.heap.size w w')
          have htl : t13 ≤ 18446744073709551615 * 18446744073709551615 := by rw [HT.out.2.2.2.2.2.2.2.2.2.1]; exact Nat.mul_le_mul (by have := HT.out.1.2.1; omega) (by have := HT.out.2.1.2.2.2; omega)
          rw [← HT.out.2.2.2.2.2.2.2.2.2.1] at hml
          obtain ⟨xx, k, bx, bk, hxk, ra⟩ := add0_ex lo r4 blo b4
          obtain ⟨yy, l, bY, bl, hyl, rb⟩ := add0_ex xx c bx (by omega)
          have hsum : hi + k + l < 18446744073709551616 := by omega
          have hnew : val8 r0 r1 r2 r3 yy 0 0 0 + 2135987035920910082395021706169552114602704522356652769947041607822219725780640550022962086936576 * (hi + k + l) = 0 + 1 * t00 + 18446744073709551616 * t01 + 340282366920938463463374607431768211456 * t02 + 6277101735386680763835789423207666416102355444464034512896 * t03 + 18446744073709551616 * t10 + 340282366920938463463374607431768211456 * t11 + 6277101735386680763835789423207666416102355444464034512896 * t12 + 115792089237316195423570985008687907853269984665640564039457584007913129639936 * t13 := by
            simp only [val8] at hval ⊢
            omega
          have HN := Lib.hid (And.intro hnew (And.intro (And.intro b0 (And.intro b1 (And.intro b2 (And.intro b3 b4)))) bY))
          have px : wr.cell? ⟨w.heap.size + 1, 1, none⟩ = some (.int .u64 (x1 : Int)) := BX.cell 1
          have py : wr.cell? ⟨w.heap.size + 2, 3, none⟩ = some (.int .u64 (y3 : Int)) := BY.cell 3
          clear hval hnew hml hxk hyl blo bx bY hc htl b0 b1 b2 b3 b4
          go_wp2
          refine wp_region_G (fun _ => false) (by kernel_rfl) ?_
          try simp only [Act.put]
          refine wpAnyG_take 0 rfl (by kernel_rfl) (fun _ _ _ h => h) (YieldsG.pure (by rfl) (fun w9 _ => by go_simp; try with_reducible rfl)) ?_
          try simp only [Act.put, List.setIfInBounds_toArray, List.set_cons_zero, List.set_cons_succ]
          refine wpAnyG_take 1 rfl (by kernel_rfl) (fun _ _ _ h => h) (YieldsG.pure (by rfl) (fun w9 _ => by go_simp; try with_reducible rfl)) ?_
          try simp only [Act.put, List.setIfInBounds_toArray, List.set_cons_zero, List.set_cons_succ]
          refine wpAnyG_take 2 rfl (by kernel_rfl) (fun _ _ _ h => h) (YieldsG.pure (v := .int .u64 (x1 : Int)) (by rfl) (fun w9 h9 => by have hz := (Below.cell (p := ⟨w.heap.size + 1, 1, none⟩) h9 lX).trans px; go_simp; first | done | simp [hz])) ?_
          try simp only [Act.put, List.setIfInBounds_toArray, List.set_cons_zero, List.set_cons_succ]
          refine wpAnyG_take 3 rfl (by kernel_rfl) (fun _ _ _ h => h) (YieldsG.pure (by rfl) (fun w9 _ => by go_simp; try with_reducible rfl)) ?_
          try simp only [Act.put, List.setIfInBounds_toArray, List.set_cons_zero, List.set_cons_succ]
          refine wpAnyG_take 4 rfl (by kernel_rfl) (fun _ _ _ h => h) (YieldsG.pure (by rfl) (fun w9 _ => by go_simp; try with_reducible rfl)) ?_
          try simp only [Act.put, List.setIfInBounds_toArray, List.set_cons_zero, List.set_cons_succ]
          refine wpAnyG_take 5 rfl (by kernel_rfl) (fun _ _ _ h => h) (YieldsG.pure (v := .int .u64 (y3 : Int)) (by rfl) (fun w9 h9 => by have hz := (Below.cell (p := ⟨w.heap.size + 2, 3, none⟩) h9 lY).trans py; go_simp; first | done | simp [hz])) ?_
          try simp only [Act.put, List.setIfInBounds_toArray, List.set_cons_zero, List.set_cons_succ]
          refine wpAnyG_take 6 rfl (by kernel_rfl) (fun _ _ _ h => h) (YieldsG.call (v := .tuple #[.int .u64 (hi : Int), .int .u64 (lo : Int)]) (by rfl) 51 _ (fun w9 => by go_simp; try (first | with_reducible rfl | rfl)) (fun w9 h9 => cm w9)) ?_
          try simp only [Act.put, List.setIfInBounds_toArray, List.set_cons_zero, List.set_cons_succ]
          refine wpAnyG_take 7 rfl (by kernel_rfl) (fun _ _ _ h => h) (YieldsG.pure (by rfl) (fun w9 _ => by go_simp; try with_reducible rfl)) ?_
          try simp only [Act.put, List.setIfInBounds_toArray, List.set_cons_zero, List.set_cons_succ]
          refine wpAnyG_take 8 rfl (by kernel_rfl) (fun _ _ _ h => h) (YieldsG.pure (by rfl) (fun w9 _ => by go_simp; try with_reducible rfl)) ?_
          try simp only [Act.put, List.setIfInBounds_toArray, List.set_cons_zero, List.set_cons_succ]
          refine wpAnyG_take 9 rfl (by kernel_rfl) (fun _ _ _ h => h) (YieldsG.pure (by rfl) (fun w9 _ => by go_simp; try with_reducible rfl)) ?_
          try simp only [Act.put, List.setIfInBounds_toArray, List.set_cons_zero, List.set_cons_succ]
          refine wpAnyG_take 10 rfl (by kernel_rfl) (fun _ _ _ h => h) (YieldsG.pure (by rfl) (fun w9 _ => by go_simp; try with_reducible rfl)) ?_
          try simp only [Act.put, List.setIfInBounds_toArray, List.set_cons_zero, List.set_cons_succ]
          refine wpAnyG_take 11 rfl (by kernel_rfl) (fun _ _ _ h => h) (YieldsG.pure (by rfl) (fun w9 _ => by go_simp; try with_reducible rfl)) ?_
          try simp only [Act.put, List.setIfInBounds_toArray, List.set_cons_zero, List.set_cons_succ]
          refine wpAnyG_done (by kernel_rfl) (fun u hu => ?_)
          have BM := Gr.blk hu BM
          have BX := Gr.blk hu BX
          have BY := Gr.blk hu BY
          have BR := Gr.blk hu BR
          have BW := Gr.blk hu BW
          have hb := Below.gr hb hu
          have pa : u.cell? ⟨w.heap.size + 4, 4, none⟩ = some (.int .u64 (r4 : Int)) := BW.cell 4
          have pf := BW.frozen 4
          clear hu cm px py
          go_wp2
          obtain ⟨hnew, ⟨b0, b1, b2, b3, b4⟩, bY⟩ := HN.out
          refine ⟨⟨(hb.setCell (by show w.heap.size ≤ w.heap.size + 4; omega) _), (BM.far (by show w.heap.size ≠ w.heap.size + 4; omega) _), (BX.far (by show w.heap.size + 1 ≠ w.heap.size + 4; omega) _), (BY.far (by show w.heap.size + 2 ≠ w.heap.size + 4; omega) _), (BR.far (by show w.heap.size + 3 ≠ w.heap.size + 4; omega) _), Lib.hid (.inr (.inr (.inr (.inr (⟨rfl, r0, r1, r2, r3, yy, hi + k + l, by congr 1, BW.set_ 4 _, ⟨b0, b1, b2, b3, bY⟩, hsum, hnew⟩)))))⟩, by decide⟩
        · clear HI
          obtain ⟨r0, r1, r2, r3, r4, c, rfl, BW, ⟨b0, b1, b2, b3, b4⟩, hc, hval⟩ := X
          have HV := Lib.hid hval
          have pa : wr.cell? ⟨w.heap.size + 4, 5, none⟩ = some (.int .u64 0) := BW.cell 5
          have pf := BW.frozen 5
          clear hval
          go_wp2
          refine ⟨⟨(hb.setCell (by show w.heap.size ≤ w.heap.size + 4; omega) _), (BM.far (by show w.heap.size ≠ w.heap.size + 4; omega) _), (BX.far (by show w.heap.size + 1 ≠ w.heap.size + 4; omega) _), (BY.far (by show w.heap.size + 2 ≠ w.heap.size + 4; omega) _), (BR.far (by show w.heap.size + 3 ≠ w.heap.size + 4; omega) _), Lib.hid (.inr (.inr (.inl (⟨rfl, r0, r1, r2, r3, r4, c, BW.set_ 5 _, ⟨b0, b1, b2, b3, b4, hc⟩, by have := HV.out; simp only [val8] at this ⊢; omega⟩))))⟩, by decide⟩
    · clear HI
      obtain ⟨r0, r1, r2, r3, r4, r5, BW, hlt, hval⟩ := X
      go_wp2
      go_loopw [9, 10] (fun cv j wr => Below w.heap.size w wr ∧ Blk wr w.heap.size 76 #[.int .u64 18446744069414583343, .int .u64 18446744073709551615, .int .u64 18446744073709551615, .int .u64 18446744073709551615, .int .u64 4294968273, .int .u64 0, .int .u64 0] ∧ Blk wr (w.heap.size + 1) 68 #[.int .u64 (x0 : Int), .int .u64 (x1 : Int), .int .u64 (x2 : Int), .int .u64 (x3 : Int)] ∧ Blk wr (w.heap.size + 2) 68 #[.int .u64 (y0 : Int), .int .u64 (y1 : Int), .int .u64 (y2 : Int), .int .u64 (y3 : Int)] ∧ Blk wr (w.heap.size + 3) 68 #[.int .u64 0, .int .u64 0, .int .u64 0, .int .u64 0] ∧ Hid ((j = .int .i64 0 ∧ ∃ r0 r1 r2 r3 r4 r5 c : Nat, cv = .int .u64 (c : Int) ∧ Blk wr (w.heap.size + 4) 154 #[.int .u64 (r0 : Int), .int .u64 (r1 : Int), .int .u64 (r2 : Int), .int .u64 (r3 : Int), .int .u64 (r4 : Int), .int .u64 (r5 : Int), .int .u64 0, .int .u64 0] ∧ (r0 < 18446744073709551616 ∧ r1 < 18446744073709551616 ∧ r2 < 18446744073709551616 ∧ r3 < 18446744073709551616 ∧ r4 < 18446744073709551616 ∧ r5 < 18446744073709551616) ∧ c = 0 ∧ val8 r0 r1 r2 r3 r4 r5 0 0 + 340282366920938463463374607431768211456 * c = 0 + 1 * t00 + 18446744073709551616 * t01 + 340282366920938463463374607431768211456 * t02 + 6277101735386680763835789423207666416102355444464034512896 * t03 + 18446744073709551616 * t10 + 340282366920938463463374607431768211456 * t11 + 6277101735386680763835789423207666416102355444464034512896 * t12 + 115792089237316195423570985008687907853269984665640564039457584007913129639936 * t13) ∨ (j = .int .i64 1 ∧ ∃ r0 r1 r2 r3 r4 r5 c : Nat, cv = .int .u64 (c : Int) ∧ Blk wr (w.heap.size + 4) 154 #[.int .u64 (r0 : Int), .int .u64 (r1 : Int), .int .u64 (r2 : Int), .int .u64 (r3 : Int), .int .u64 (r4 : Int), .int .u64 (r5 : Int), .int .u64 0, .int .u64 0] ∧ (r0 < 18446744073709551616 ∧ r1 < 18446744073709551616 ∧ r2 < 18446744073709551616 ∧ r3 < 18446744073709551616 ∧ r4 < 18446744073709551616 ∧ r5 < 18446744073709551616) ∧ c < 18446744073709551616 ∧ val8 r0 r1 r2 r3 r4 r5 0 0 + 6277101735386680763835789423207666416102355444464034512896 * c = 0 + 1 * t00 + 18446744073709551616 * t01 + 340282366920938463463374607431768211456 * t02 + 6277101735386680763835789423207666416102355444464034512896 * t03 + 18446744073709551616 * t10 + 340282366920938463463374607431768211456 * t11 + 6277101735386680763835789423207666416102355444464034512896 * t12 + 115792089237316195423570985008687907853269984665640564039457584007913129639936 * t13 + 340282366920938463463374607431768211456 * t20) ∨ (j = .int .i64 2 ∧ ∃ r0 r1 r2 r3 r4 r5 c : Nat, cv = .int .u64 (c : Int) ∧ Blk wr (w.heap.size + 4) 154 #[.int .u64 (r0 : Int), .int .u64 (r1 : Int), .int .u64 (r2 : Int), .int .u64 (r3 : Int), .int .u64 (r4 : Int), .int .u64 (r5 : Int), .int .u64 0, .int .u64 0] ∧ (r0 < 18446744073709551616 ∧ r1 < 18446744073709551616 ∧ r2 < 18446744073709551616 ∧ r3 < 18446744073709551616 ∧ r4 < 18446744073709551616 ∧ r5 < 18446744073709551616) ∧ c < 18446744073709551616 ∧ val8 r0 r1 r2 r3 r4 r5 0 0 + 115792089237316195423570985008687907853269984665640564039457584007913129639936 * c = 0 + 1 * t00 + 18446744073709551616 * t01 + 340282366920938463463374607431768211456 * t02 + 6277101735386680763835789423207666416102355444464034512896 * t03 + 18446744073709551616 * t10 + 340282366920938463463374607431768211456 * t11 + 6277101735386680763835789423207666416102355444464034512896 * t12 + 115792089237316195423570985008687907853269984665640564039457584007913129639936 * t13 + 340282366920938463463374607431768211456 * t20 + 6277101735386680763835789423207666416102355444464034512896 * t21) ∨ (j = .int .i64 3 ∧ ∃ r0 r1 r2 r3 r4 r5 c : Nat, cv = .int .u64 (c : Int) ∧ Blk wr (w.heap.size + 4) 154 #[.int .u64 (r0 : Int), .int .u64 (r1 : Int), .int .u64 (r2 : Int), .int .u64 (r3 : Int), .int .u64 (r4 : Int), .int .u64 (r5 : Int), .int .u64 0, .int .u64 0] ∧ (r0 < 18446744073709551616 ∧ r1 < 18446744073709551616 ∧ r2 < 18446744073709551616 ∧ r3 < 18446744073709551616 ∧ r4 < 18446744073709551616 ∧ r5 < 18446744073709551616) ∧ c < 18446744073709551616 ∧ val8 r0 r1 r2 r3 r4 r5 0 0 + 2135987035920910082395021706169552114602704522356652769947041607822219725780640550022962086936576 * c = 0 + 1 * t00 + 18446744073709551616 * t01 + 340282366920938463463374607431768211456 * t02 + 6277101735386680763835789423207666416102355444464034512896 * t03 + 18446744073709551616 * t10 + 340282366920938463463374607431768211456 * t11 + 6277101735386680763835789423207666416102355444464034512896 * t12 + 115792089237316195423570985008687907853269984665640564039457584007913129639936 * t13 + 340282366920938463463374607431768211456 * t20 + 6277101735386680763835789423207666416102355444464034512896 * t21 + 115792089237316195423570985008687907853269984665640564039457584007913129639936 * t22) ∨ (j = .int .i64 4 ∧ ∃ r0 r1 r2 r3 r4 r5 c : Nat, cv = .int .u64 (c : Int) ∧ Blk wr (w.heap.size + 4) 154 #[.int .u64 (r0 : Int), .int .u64 (r1 : Int), .int .u64 (r2 : Int), .int .u64 (r3 : Int), .int .u64 (r4 : Int), .int .u64 (r5 : Int), .int .u64 0, .int .u64 0] ∧ (r0 < 18446744073709551616 ∧ r1 < 18446744073709551616 ∧ r2 < 18446744073709551616 ∧ r3 < 18446744073709551616 ∧ r4 < 18446744073709551616 ∧ r5 < 18446744073709551616) ∧ c < 18446744073709551616 ∧ val8 r0 r1 r2 r3 r4 r5 0 0 + 39402006196394479212279040100143613805079739270465446667948293404245721771497210611414266254884915640806627990306816 * c = 0 + 1 * t00 + 18446744073709551616 * t01 + 340282366920938463463374607431768211456 * t02 + 6277101735386680763835789423207666416102355444464034512896 * t03 + 18446744073709551616 * t10 + 340282366920938463463374607431768211456 * t11 + 6277101735386680763835789423207666416102355444464034512896 * t12 + 115792089237316195423570985008687907853269984665640564039457584007913129639936 * t13 + 340282366920938463463374607431768211456 * t20 + 6277101735386680763835789423207666416102355444464034512896 * t21 + 115792089237316195423570985008687907853269984665640564039457584007913129639936 * t22 + 2135987035920910082395021706169552114602704522356652769947041607822219725780640550022962086936576 * t23))) (fun _ j _ => 4 - (intOf j).toNat)
      case atStart => exact ⟨hb, BM, BX, BY, BR, Lib.hid (.inl ⟨rfl, r0, r1, r2, r3, r4, r5, 0, rfl, BW, hlt, rfl, by omega⟩)⟩
      case round =>
        clear hb BM BX BY BR BW hlt hval
        obtain ⟨hb, BM, BX, BY, BR, HI⟩ := hrel
        have lX := BX.lt
        have lY := BY.lt
        rcases HI.out with ⟨rfl, X⟩ | ⟨rfl, X⟩ | ⟨rfl, X⟩ | ⟨rfl, X⟩ | ⟨rfl, X⟩
        · clear HI
          obtain ⟨r0, r1, r2, r3, r4, r5, c, rfl, BW, ⟨b0, b1, b2, b3, b4, b5⟩, hc, hval⟩ := X
          obtain ⟨hi, lo, blo, bhi, hml⟩ := mul_ex x2 y0 HT.out.1.2.2.1 HT.out.2.1.1
          have cm := fun w => (mul64_at w x2 y0 hi lo HT.out.1.2.2.1 HT.out.2.1.1 blo hml).mono fun e w' (h : _ ∧ w' = w) => (⟨h.1, by rw [h.2]; exact Below.refl _ _⟩ : _ ∧ Below w.heap.size w w')
          have htl : t20 ≤ 18446744073709551615 * 18446744073709551615 := by rw [HT.out.2.2.2.2.2.2.2.2.2.2.1]; exact Nat.mul_le_mul (by have := HT.out.1.2.2.1; omega) (by have := HT.out.2.1.1; omega)
          rw [← HT.out.2.2.2.2.2.2.2.2.2.2.1] at hml
          obtain ⟨xx, k, bx, bk, hxk, ra⟩ := add0_ex lo r2 blo b2
          obtain ⟨yy, l, bY, bl, hyl, rb⟩ := add0_ex xx c bx (by omega)
          have hsum : hi + k + l < 18446744073709551616 := by omega
          have hnew : val8 r0 r1 yy r3 r4 r5 0 0 + 6277101735386680763835789423207666416102355444464034512896 * (hi + k + l) = 0 + 1 * t00 + 18446744073709551616 * t01 + 340282366920938463463374607431768211456 * t02 + 6277101735386680763835789423207666416102355444464034512896 * t03 + 18446744073709551616 * t10 + 340282366920938463463374607431768211456 * t11 + 6277101735386680763835789423207666416102355444464034512896 * t12 + 115792089237316195423570985008687907853269984665640564039457584007913129639936 * t13 + 340282366920938463463374607431768211456 * t20 := by
            simp only [val8] at hval ⊢
            omega
          have HN := Lib.hid (And.intro hnew (And.intro (And.intro b0 (And.intro b1 (And.intro b2 (And.intro b3 (And.intro b4 b5))))) bY))
          have px : wr.cell? ⟨w.heap.size + 1, 2, none⟩ = some (.int .u64 (x2 : Int)) := BX.cell 2
          have py : wr.cell? ⟨w.heap.size + 2, 0, none⟩ = some (.int .u64 (y0 : Int)) := BY.cell 0
          clear hval hnew hml hxk hyl blo bx bY hc htl b0 b1 b2 b3 b4 b5
          go_wp2
          refine wp_region_G (fun _ => false) (by kernel_rfl) ?_
          try simp only [Act.put]
          refine wpAnyG_take 0 rfl (by kernel_rfl) (fun _ _ _ h => h) (YieldsG.pure (by rfl) (fun w9 _ => by go_simp; try with_reducible rfl)) ?_
          try simp only [Act.put, List.setIfInBounds_toArray, List.set_cons_zero, List.set_cons_succ]
          refine wpAnyG_take 1 rfl (by kernel_rfl) (fun _ _ _ h => h) (YieldsG.pure (by rfl) (fun w9 _ => by go_simp; try with_reducible rfl)) ?_
          try simp only [Act.put, List.setIfInBounds_toArray, List.set_cons_zero, List.set_cons_succ]
          refine wpAnyG_take 2 rfl (by kernel_rfl) (fun _ _ _ h => h) (YieldsG.pure (v := .int .u64 (x2 : Int)) (by rfl) (fun w9 h9 => by have hz := (Below.cell (p := ⟨w.heap.size + 1, 2, none⟩) h9 lX).trans px; go_simp; first | done | simp [hz])) ?_
          try simp only [Act.put, List.setIfInBounds_toArray, List.set_cons_zero, List.set_cons_succ]
          refine wpAnyG_take 3 rfl (by kernel_rfl) (fun _ _ _ h => h) (YieldsG.pure (by rfl) (fun w9 _ => by go_simp; try with_reducible rfl)) ?_
          try simp only [Act.put, List.setIfInBounds_toArray, List.set_cons_zero, List.set_cons_succ]
          refine wpAnyG_take 4 rfl (by kernel_rfl) (fun _ _ _ h => h) (YieldsG.pure (by rfl) (fun w9 _ => by go_simp; try with_reducible rfl)) ?_
          try simp only [Act.put, List.setIfInBounds_toArray, List.set_cons_zero, List.set_cons_succ]
          refine wpAnyG_take 5 rfl (by kernel_rfl) (fun _ _ _ h => h) (YieldsG.pure (v := .int .u64 (y0 : Int)) (by rfl) (fun w9 h9 => by have hz := (Below.cell (p := ⟨w.heap.size + 2, 0, none⟩) h9 lY).trans py; go_simp; first | done | simp [hz])) ?_
          try simp only [Act.put, List.setIfInBounds_toArray, List.set_cons_zero, List.set_cons_succ]
          refine wpAnyG_take 6 rfl (by kernel_rfl) (fun _ _ _ h => h) (YieldsG.call (v := .tuple #[.int .u64 (hi : Int), .int .u64 (lo : Int)]) (by rfl) 51 _ (fun w9 => by go_simp; try (first | with_reducible rfl | rfl)) (fun w9 h9 => cm w9)) ?_
          try simp only [Act.put, List.setIfInBounds_toArray, List.set_cons_zero, List.set_cons_succ]
          refine wpAnyG_take 7 rfl (by kernel_rfl) (fun _ _ _ h => h) (YieldsG.pure (by rfl) (fun w9 _ => by go_simp; try with_reducible rfl)) ?_
          try simp only [Act.put, List.setIfInBounds_toArray, List.set_cons_zero, List.set_cons_succ]
          refine wpAnyG_take 8 rfl (by kernel_rfl) (fun _ _ _ h => h) (YieldsG.pure (by rfl) (fun w9 _ => by go_simp; try with_reducible rfl)) ?_
          try simp only [Act.put, List.setIfInBounds_toArray, List.set_cons_zero, List.set_cons_succ]
          refine wpAnyG_take 9 rfl (by kernel_rfl) (fun _ _ _ h => h) (YieldsG.pure (by rfl) (fun w9 _ => by go_simp; try with_reducible rfl)) ?_
          try simp only [Act.put, List.setIfInBounds_toArray, List.set_cons_zero, List.set_cons_succ]
          refine wpAnyG_take 10 rfl (by kernel_rfl) (fun _ _ _ h => h) (YieldsG.pure (by rfl) (fun w9 _ => by go_simp; try with_reducible rfl)) ?_
          try simp only [Act.put, List.setIfInBounds_toArray, List.set_cons_zero, List.set_cons_succ]
          refine wpAnyG_take 11 rfl (by kernel_rfl) (fun _ _ _ h => h) (YieldsG.pure (by rfl) (fun w9 _ => by go_simp; try with_reducible rfl)) ?_
          try simp only [Act.put, List.setIfInBounds_toArray, List.set_cons_zero, List.set_cons_succ]
          refine wpAnyG_done (by kernel_rfl) (fun u hu => ?_)
          have BM := Gr.blk hu BM
          have BX := Gr.blk hu BX
          have BY := Gr.blk hu BY
          have BR := Gr.blk hu BR
          have BW := Gr.blk hu BW
          have hb := Below.gr hb hu
          have pa : u.cell? ⟨w.heap.size + 4, 2, none⟩ = some (.int .u64 (r2 : Int)) := BW.cell 2
          have pf := BW.frozen 2
          clear hu cm px py
          go_wp2
          obtain ⟨hnew, ⟨b0, b1, b2, b3, b4, b5⟩, bY⟩ := HN.out
          refine ⟨⟨(hb.setCell (by show w.heap.size ≤ w.heap.size + 4; omega) _), (BM.far (by show w.heap.size ≠ w.heap.size + 4; omega) _), (BX.far (by show w.heap.size + 1 ≠ w.heap.size + 4; omega) _), (BY.far (by show w.heap.size + 2 ≠ w.heap.size + 4; omega) _), (BR.far (by show w.heap.size + 3 ≠ w.heap.size + 4; omega) _), Lib.hid (.inr (.inl (⟨rfl, r0, r1, yy, r3, r4, r5, hi + k + l, by congr 1, BW.set_ 2 _, ⟨b0, b1, bY, b3, b4, b5⟩, hsum, hnew⟩)))⟩, by decide⟩
        · clear HI
          obtain ⟨r0, r1, r2, r3, r4, r5, c, rfl, BW, ⟨b0, b1, b2, b3, b4, b5⟩, hc, hval⟩ := X
          obtain ⟨hi, lo, blo, bhi, hml⟩ := mul_ex x2 y1 HT.out.1.2.2.1 HT.out.2.1.2.1
          have cm := fun w => (mul64_at w x2 y1 hi lo HT.out.1.2.2.1 HT.out.2.1.2.1 blo hml).mono fun e w' (h : _ ∧ w' = w) => (⟨h.1, by rw [h.2]; exact Below.refl _ _⟩ : _ ∧ Below w.heap.size w w')
          have htl : t21 ≤ 18446744073709551615 * 18446744073709551615 := by rw [HT.out.2.2.2.2.2.2.2.2.2.2.2.1]; exact Nat.mul_le_mul (by have := HT.out.1.2.2.1; omega) (by have := HT.out.2.1.2.1; omega)
          rw [← HT.out.2.2.2.2.2.2.2.2.2.2.2.1] at hml
          obtain ⟨xx, k, bx, bk, hxk, ra⟩ := add0_ex lo r3 blo b3
          obtain ⟨yy, l, bY, bl, hyl, rb⟩ := add0_ex xx c bx (by omega)
          have hsum : hi + k + l < 18446744073709551616 := by omega
          have hnew : val8 r0 r1 r2 yy r4 r5 0 0 + 115792089237316195423570985008687907853269984665640564039457584007913129639936 * (hi + k + l) = 0 + 1 * t00 + 18446744073709551616 * t01 + 340282366920938463463374607431768211456 * t02 + 6277101735386680763835789423207666416102355444464034512896 * t03 + 18446744073709551616 * t10 + 340282366920938463463374607431768211456 * t11 + 6277101735386680763835789423207666416102355444464034512896 * t12 + 115792089237316195423570985008687907853269984665640564039457584007913129639936 * t13 + 340282366920938463463374607431768211456 * t20 + 6277101735386680763835789423207666416102355444464034512896 * t21 := by
            simp only [val8] at hval ⊢
            omega
          have HN := Lib.hid (And.intro hnew (And.intro (And.intro b0 (And.intro b1 (And.intro b2 (And.intro b3 (And.intro b4 b5))))) bY))
          have px : wr.cell? ⟨w.heap.size + 1, 2, none⟩ = some (.int .u64 (x2 : Int)) := BX.cell 2
          have py : wr.cell? ⟨w.heap.size + 2, 1, none⟩ = some (.int .u64 (y1 : Int)) := BY.cell 1
          clear hval hnew hml hxk hyl blo bx bY hc htl b0 b1 b2 b3 b4 b5
          go_wp2
          refine wp_region_G (fun _ => false) (by kernel_rfl) ?_
          try simp only [Act.put]
          refine wpAnyG_take 0 rfl (by kernel_rfl) (fun _ _ _ h => h) (YieldsG.pure (by rfl) (fun w9 _ => by go_simp; try with_reducible rfl)) ?_
          try simp only [Act.put, List.setIfInBounds_toArray, List.set_cons_zero, List.set_cons_succ]
          refine wpAnyG_take 1 rfl (by kernel_rfl) (fun _ _ _ h => h) (YieldsG.pure (by rfl) (fun w9 _ => by go_simp; try with_reducible rfl)) ?_
          try simp only [Act.put, List.setIfInBounds_toArray, List.set_cons_zero, List.set_cons_succ]
          refine wpAnyG_take 2 rfl (by kernel_rfl) (fun _ _ _ h => h) (YieldsG.pure (v := .int .u64 (x2 : Int)) (by rfl) (fun w9 h9 => by have hz := (Below.cell (p := ⟨w.heap.size + 1, 2, none⟩) h9 lX).trans px; go_simp; first | done | simp [hz])) ?_
          try simp only [Act.put, List.setIfInBounds_toArray, List.set_cons_zero, List.set_cons_succ]
          refine wpAnyG_take 3 rfl (by kernel_rfl) (fun _ _ _ h => h) (YieldsG.pure (by rfl) (fun w9 _ => by go_simp; try with_reducible rfl)) ?_
          try simp only [Act.put, List.setIfInBounds_toArray, List.set_cons_zero, List.set_cons_succ]
          refine wpAnyG_take 4 rfl (by kernel_rfl) (fun _ _ _ h => h) (YieldsG.pure (by rfl) (fun w9 _ => by go_simp; try with_reducible rfl)) ?_
          try simp only [Act.put, List.setIfInBounds_toArray, List.set_cons_zero, List.set_cons_succ]
          refine wpAnyG_take 5 rfl (by kernel_rfl) (fun _ _ _ h => h) (YieldsG.pure (v := .int .u64 (y1 : Int)) (by rfl) (fun w9 h9 => by have hz := (Below.cell (p := ⟨w.heap.size + 2, 1, none⟩) h9 lY).trans py; go_simp; first | done | simp [hz])) ?_
          try simp only [Act.put, List.setIfInBounds_toArray, List.set_cons_zero, List.set_cons_succ]
          refine wpAnyG_take 6 rfl (by kernel_rfl) (fun _ _ _ h => h) (YieldsG.call (v := .tuple #[.int .u64 (hi : Int), .int .u64 (lo : Int)]) (by rfl) 51 _ (fun w9 => by go_simp; try (first | with_reducible rfl | rfl)) (fun w9 h9 => cm w9)) ?_
          try simp only [Act.put, List.setIfInBounds_toArray, List.set_cons_zero, List.set_cons_succ]
          refine wpAnyG_take 7 rfl (by kernel_rfl) (fun _ _ _ h => h) (YieldsG.pure (by rfl) (fun w9 _ => by go_simp; try with_reducible rfl)) ?_
          try simp only [Act.put, List.setIfInBounds_toArray, List.set_cons_zero, List.set_cons_succ]
          refine wpAnyG_take 8 rfl (by kernel_rfl) (fun _ _ _ h => h) (YieldsG.pure (by rfl) (fun w9 _ => by go_simp; try with_reducible rfl)) ?_
          try simp only [Act.put, List.setIfInBounds_toArray, List.set_cons_zero, List.set_cons_succ]
          refine wpAnyG_take 9 rfl (by kernel_rfl) (fun _ _ _ h => h) (YieldsG.pure (by rfl) (fun w9 _ => by go_simp; try with_reducible rfl)) ?_
          try simp only [Act.put, List.setIfInBounds_toArray, List.set_cons_zero, List.set_cons_succ]
          refine wpAnyG_take 10 rfl (by kernel_rfl) (fun _ _ _ h => h) (YieldsG.pure (by rfl) (fun w9 _ => by go_simp; try with_reducible rfl)) ?_
          try simp only [Act.put, List.setIfInBounds_toArray, List.set_cons_zero, List.set_cons_succ]
          refine wpAnyG_take 11 rfl (by kernel_rfl) (fun _ _ _ h => h) (YieldsG.pure (by rfl) (fun w9 _ => by go_simp; try with_reducible rfl)) ?_
          try simp only [Act.put, List.setIfInBounds_toArray, List.set_cons_zero, List.set_cons_succ]
          refine wpAnyG_done (by kernel_rfl) (fun u hu => ?_)
          have BM := Gr.blk hu BM
          have BX := Gr.blk hu BX
          have BY := Gr.blk hu BY
          have BR := Gr.blk hu BR
          have BW := Gr.blk hu BW
          have hb := Below.gr hb hu
          have pa : u.cell? ⟨w.heap.size + 4, 3, none⟩ = some (.int .u64 (r3 : Int)) := BW.cell 3
          have pf := BW.frozen 3
          clear hu cm px py
          go_wp2
          obtain ⟨hnew, ⟨b0, b1, b2, b3, b4, b5⟩, bY⟩ := HN.out
          refine ⟨⟨(hb.setCell (by show w.heap.size ≤ w.heap.size + 4; omega) _), (BM.far (by show w.heap.size ≠ w.heap.size + 4; omega) _), (BX.far (by show w.heap.size + 1 ≠ w.heap.size + 4; omega) _), (BY.far (by show w.heap.size + 2 ≠ w.heap.size + 4; omega) _), (BR.far (by show w.heap.size + 3 ≠ w.heap.size + 4; omega) _), Lib.hid (.inr (.inr (.inl (⟨rfl, r0, r1, r2, yy, r4, r5, hi + k + l, by congr 1, BW.set_ 3 _, ⟨b0, b1, b2, bY, b4, b5⟩, hsum, hnew⟩))))⟩, by decide⟩
        · clear HI
          obtain ⟨r0, r1, r2, r3, r4, r5, c, rfl, BW, ⟨b0, b1, b2, b3, b4, b5⟩, hc, hval⟩ := X
          obtain ⟨hi, lo, blo, bhi, hml⟩ := mul_ex x2 y2 HT.out.1.2.2.1 HT.out.2.1.2.2.1
          have cm := fun w => (mul64_at w x2 y2 hi lo HT.out.1.2.2.1 HT.out.2.1.2.2.1 blo hml).mono fun e w' (h : _ ∧ w' = w) => (⟨h.1, by rw [h.2]; exact Below.refl _ _⟩ : _ ∧ Below w.heap.size w w')
          have htl : t22 ≤ 18446744073709551615 * 18446744073709551615 := by rw [HT.out.2.2.2.2.2.2.2.2.2.2.2.2.1]; exact Nat.mul_le_mul (by have := HT.out.1.2.2.1; omega) (by have := HT.out.2.1.2.2.1; omega)
          rw [← HT.out.2.2.2.2.2.2.2.2.2.2.2.2.1] at hml
          obtain ⟨xx, k, bx, bk, hxk, ra⟩ := add0_ex lo r4 blo b4
          obtain ⟨yy, l, bY, bl, hyl, rb⟩ := add0_ex xx c bx (by omega)
          have hsum : hi + k + l < 18446744073709551616 := by omega
          have hnew : val8 r0 r1 r2 r3 yy r5 0 0 + 2135987035920910082395021706169552114602704522356652769947041607822219725780640550022962086936576 * (hi + k + l) = 0 + 1 * t00 + 18446744073709551616 * t01 + 340282366920938463463374607431768211456 * t02 + 6277101735386680763835789423207666416102355444464034512896 * t03 + 18446744073709551616 * t10 + 340282366920938463463374607431768211456 * t11 + 6277101735386680763835789423207666416102355444464034512896 * t12 + 115792089237316195423570985008687907853269984665640564039457584007913129639936 * t13 + 340282366920938463463374607431768211456 * t20 + 6277101735386680763835789423207666416102355444464034512896 * t21 + 115792089237316195423570985008687907853269984665640564039457584007913129639936 * t22 := by
            simp only [val8] at hval ⊢
            omega
          have HN := Lib.hid (And.intro hnew (And.intro (And.intro b0 (And.intro b1 (And.intro b2 (And.intro b3 (And.intro b4 b5))))) bY))
          have px : wr.cell? ⟨w.heap.size + 1, 2, none⟩ = some (.int .u64 (x2 : Int)) := BX.cell 2
          have py : wr.cell? ⟨w.heap.size + 2, 2, none⟩ = some (.int .u64 (y2 : Int)) := BY.cell 2
          clear hval hnew hml hxk hyl blo bx bY hc htl b0 b1 b2 b3 b4 b5
          go_wp2
          refine wp_region_G (fun _ => false) (by kernel_rfl) ?_
          try simp only [Act.put]
          refine wpAnyG_take 0 rfl (by kernel_rfl) (fun _ _ _ h => h) (YieldsG.pure (by rfl) (fun w9 _ => by go_simp; try with_reducible rfl)) ?_
          try simp only [Act.put, List.setIfInBounds_toArray, List.set_cons_zero, List.set_cons_succ]
          refine wpAnyG_take 1 rfl (by kernel_rfl) (fun _ _ _ h => h) (YieldsG.pure (by rfl) (fun w9 _ => by go_simp; try with_reducible rfl)) ?_
          try simp only [Act.put, List.setIfInBounds_toArray, List.set_cons_zero, List.set_cons_succ]
          refine wpAnyG_take 2 rfl (by kernel_rfl) (fun _ _ _ h => h) (YieldsG.pure (v := .int .u64 (x2 : Int)) (by rfl) (fun w9 h9 => by have hz := (Below.cell (p := ⟨w.heap.size + 1, 2, none⟩) h9 lX).trans px; go_simp; first | done | simp [hz])) ?_
          try simp only [Act.put, List.setIfInBounds_toArray, List.set_cons_zero, List.set_cons_succ]
          refine wpAnyG_take 3 rfl (by kernel_rfl) (fun _ _ _ h => h) (YieldsG.pure (by rfl) (fun w9 _ => by go_simp; try with_reducible rfl)) ?_
          try simp only [Act.put, List.setIfInBounds_toArray, List.set_cons_zero, List.set_cons_succ]
          refine wpAnyG_take 4 rfl (by kernel_rfl) (fun _ _ _ h => h) (YieldsG.pure (by rfl) (fun w9 _ => by go_simp; try with_reducible rfl)) ?_
          try simp only [Act.put, List.setIfInBounds_toArray, List.set_cons_zero, List.set_cons_succ]
          refine wpAnyG_take 5 rfl (by kernel_rfl) (fun _ _ _ h => h) (YieldsG.pure (v := .int .u64 (y2 : Int)) (by rfl) (fun w9 h9 => by have hz := (Below.cell (p := ⟨w.heap.size + 2, 2, none⟩) h9 lY).trans py; go_simp; first | done | simp [hz])) ?_
          try simp only [Act.put, List.setIfInBounds_toArray, List.set_cons_zero, List.set_cons_succ]
          refine wpAnyG_take 6 rfl (by kernel_rfl) (fun _ _ _ h => h) (YieldsG.call (v := .tuple #[.int .u64 (hi : Int), .int .u64 (lo : Int)]) (by rfl) 51 _ (fun w9 => by go_simp; try (first | with_reducible rfl | rfl)) (fun w9 h9 => cm w9)) ?_
          try simp only [Act.put, List.setIfInBounds_toArray, List.set_cons_zero, List.set_cons_succ]
          refine wpAnyG_take 7 rfl (by kernel_rfl) (fun _ _ _ h => h) (YieldsG.pure (by rfl) (fun w9 _ => by go_simp; try with_reducible rfl)) ?_
          try simp only [Act.put, List.setIfInBounds_toArray, List.set_cons_zero, List.set_cons_succ]
          refine wpAnyG_take 8 rfl (by kernel_rfl) (fun _ _ _ h => h) (YieldsG.pure (by rfl) (fun w9 _ => by go_simp; try with_reducible rfl)) ?_
          try simp only [Act.put, List.setIfInBounds_toArray, List.set_cons_zero, List.set_cons_succ]
          refine wpAnyG_take 9 rfl (by kernel_rfl) (fun _ _ _ h => h) (YieldsG.pure (by rfl) (fun w9 _ => by go_simp; try with_reducible rfl)) ?_
          try simp only [Act.put, List.setIfInBounds_toArray, List.set_cons_zero, List.set_cons_succ]
          refine wpAnyG_take 10 rfl (by kernel_rfl) (fun _ _ _ h => h) (YieldsG.pure (by rfl) (fun w9 _ => by go_simp; try with_reducible rfl)) ?_
          try simp only [Act.put, List.setIfInBounds_toArray, List.set_cons_zero, List.set_cons_succ]
          refine wpAnyG_take 11 rfl (by kernel_rfl) (fun _ _ _ h => h) (YieldsG.pure (by rfl) (fun w9 _ => by go_simp; try with_reducible rfl)) ?_
          try simp only [Act.put, List.setIfInBounds_toArray, List.set_cons_zero, List.set_cons_succ]
          refine wpAnyG_done (by kernel_rfl) (fun u hu => ?_)
          have BM := Gr.blk hu BM
          have BX := Gr.blk hu BX
          have BY := Gr.blk hu BY
          have BR := Gr.blk hu BR
          have BW := Gr.blk hu BW
          have hb := Below.gr hb hu
          have pa : u.cell? ⟨w.heap.size + 4, 4, none⟩ = some (.int .u64 (r4 : Int)) := BW.cell 4
          have pf := BW.frozen 4
          clear hu cm px py
          go_wp2
          obtain ⟨hnew, ⟨b0, b1, b2, b3, b4, b5⟩, bY⟩ := HN.out
          refine ⟨⟨(hb.setCell (by show w.heap.size ≤ w.heap.size + 4; omega) _), (BM.far (by show w.heap.size ≠ w.heap.size + 4; omega) _), (BX.far (by show w.heap.size + 1 ≠ w.heap.size + 4; omega) _), (BY.far (by show w.heap.size + 2 ≠ w.heap.size + 4; omega) _), (BR.far (by show w.heap.size + 3 ≠ w.heap.size + 4; omega) _), Lib.hid (.inr (.inr (.inr (.inl (⟨rfl, r0, r1, r2, r3, yy, r5, hi + k + l, by congr 1, BW.set_ 4 _, ⟨b0, b1, b2, b3, bY, b5⟩, hsum, hnew⟩)))))⟩, by decide⟩
        · clear HI
          obtain ⟨r0, r1, r2, r3, r4, r5, c, rfl, BW, ⟨b0, b1, b2, b3, b4, b5⟩, hc, hval⟩ := X
          obtain ⟨hi, lo, blo, bhi, hml⟩ := mul_ex x2 y3 HT.out.1.2.2.1 HT.out.2.1.2.2.2
          have cm := fun w => (mul64_at w x2 y3 hi lo HT.out.1.2.2.1 HT.out.2.1.2.2.2 blo hml).mono fun e w' (h : _ ∧ w' = w) => (⟨h.1, by rw [h.2]; exact Below.refl _ _⟩ : _ ∧ Below w.heap.size w w')
          have htl : t23 ≤ 18446744073709551615 * 18446744073709551615 := by rw [HT.out.2.2.2.2.2.2.2.2.2.2.2.2.2.1]; exact Nat.mul_le_mul (by have := HT.out.1.2.2.1; omega) (by have := HT.out.2.1.2.2.2; omega)
          rw [← HT.out.2.2.2.2.2.2.2.2.2.2.2.2.2.1] at hml
          obtain ⟨xx, k, bx, bk, hxk, ra⟩ := add0_ex lo r5 blo b5
          obtain ⟨yy, l, bY, bl, hyl, rb⟩ := add0_ex xx c bx (by omega)
          have hsum : hi + k + l < 18446744073709551616 := by omega
          have hnew : val8 r0 r1 r2 r3 r4 yy 0 0 + 39402006196394479212279040100143613805079739270465446667948293404245721771497210611414266254884915640806627990306816 * (hi + k + l) = 0 + 1 * t00 + 18446744073709551616 * t01 + 340282366920938463463374607431768211456 * t02 + 6277101735386680763835789423207666416102355444464034512896 * t03 + 18446744073709551616 * t10 + 340282366920938463463374607431768211456 * t11 + 6277101735386680763835789423207666416102355444464034512896 * t12 + 115792089237316195423570985008687907853269984665640564039457584007913129639936 * t13 + 340282366920938463463374607431768211456 * t20 + 6277101735386680763835789423207666416102355444464034512896 * t21 + 115792089237316195423570985008687907853269984665640564039457584007913129639936 * t22 + 2135987035920910082395021706169552114602704522356652769947041607822219725780640550022962086936576 * t23 := by
            simp only [val8] at hval ⊢
            omega
          have HN := Lib.hid (And.intro hnew (And.intro (And.intro b0 (And.intro b1 (And.intro b2 (And.intro b3 (And.intro b4 b5))))) bY))
          have px : wr.cell? ⟨w.heap.size + 1, 2, none⟩ = some (.int .u64 (x2 : Int)) := BX.cell 2
          have py : wr.cell? ⟨w.heap.size + 2, 3, none⟩ = some (.int .u64 (y3 : Int)) := BY.cell 3
          clear hval hnew hml hxk hyl blo bx bY hc htl b0 b1 b2 b3 b4 b5
          go_wp2
          refine wp_region_G (fun _ => false) (by kernel_rfl) ?_
          try simp only [Act.put]
          refine wpAnyG_take 0 rfl (by kernel_rfl) (fun _ _ _ h => h) (YieldsG.pure (by rfl) (fun w9 _ => by go_simp; try with_reducible rfl)) ?_
          try simp only [Act.put, List.setIfInBounds_toArray, List.set_cons_zero, List.set_cons_succ]
          refine wpAnyG_take 1 rfl (by kernel_rfl) (fun _ _ _ h => h) (YieldsG.pure (by rfl) (fun w9 _ => by go_simp; try with_reducible rfl)) ?_
          try simp only [Act.put, List.setIfInBounds_toArray, List.set_cons_zero, List.set_cons_succ]
          refine wpAnyG_take 2 rfl (by kernel_rfl) (fun _ _ _ h => h) (YieldsG.pure (v := .int .u64 (x2 : Int)) (by rfl) (fun w9 h9 => by have hz := (Below.cell (p := ⟨w.heap.size + 1, 2, none⟩) h9 lX).trans px; go_simp; first | done | simp [hz])) ?_
          try simp only [Act.put, List.setIfInBounds_toArray, List.set_cons_zero, List.set_cons_succ]
          refine wpAnyG_take 3 rfl (by kernel_rfl) (fun _ _ _ h => h) (YieldsG.pure (by rfl) (fun w9 _ => by go_simp; try with_reducible rfl)) ?_
          try simp only [Act.put, List.setIfInBounds_toArray, List.set_cons_zero, List.set_cons_succ]
          refine wpAnyG_take 4 rfl (by kernel_rfl) (fun _ _ _ h => h) (YieldsG.pure (by rfl) (fun w9 _ => by go_simp; try with_reducible rfl)) ?_
          try simp only [Act.put, List.setIfInBounds_toArray, List.set_cons_zero, List.set_cons_succ]
          refine wpAnyG_take 5 rfl (by kernel_rfl) (fun _ _ _ h => h) (YieldsG.pure (v := .int .u64 (y3 : Int)) (by rfl) (fun w9 h9 => by have hz := (Below.cell (p := ⟨w.heap.size + 2, 3, none⟩) h9 lY).trans py; go_simp; first | done | simp [hz])) ?_
          try simp only [Act.put, List.setIfInBounds_toArray, List.set_cons_zero, List.set_cons_succ]
          refine wpAnyG_take 6 rfl (by kernel_rfl) (fun _ _ _ h => h) (YieldsG.call (v := .tuple #[.int .u64 (hi : Int), .int .u64 (lo : Int)]) (by rfl) 51 _ (fun w9 => by go_simp; try (first | with_reducible rfl | rfl)) (fun w9 h9 => cm w9)) ?_
          try simp only [Act.put, List.setIfInBounds_toArray, List.set_cons_zero, List.set_cons_succ]
          refine wpAnyG_take 7 rfl (by kernel_rfl) (fun _ _ _ h => h) (YieldsG.pure (by rfl) (fun w9 _ => by go_simp; try with_reducible rfl)) ?_
          try simp only [Act.put, List.setIfInBounds_toArray, List.set_cons_zero, List.set_cons_succ]
          refine wpAnyG_take 8 rfl (by kernel_rfl) (fun _ _ _ h => h) (YieldsG.pure (by rfl) (fun w9 _ => by go_simp; try with_reducible rfl)) ?_
          try simp only [Act.put, List.setIfInBounds_toArray, List.set_cons_zero, List.set_cons_succ]
          refine wpAnyG_take 9 rfl (by kernel_rfl) (fun _ _ _ h => h) (YieldsG.pure (by rfl) (fun w9 _ => by go_simp; try with_reducible rfl)) ?_
          try simp only [Act.put, List.setIfInBounds_toArray, List.set_cons_zero, List.set_cons_succ]
          refine wpAnyG_take 10 rfl (by kernel_rfl) (fun _ _ _ h => h) (YieldsG.pure (by rfl) (fun w9 _ => by go_simp; try with_reducible rfl)) ?_
          try simp only [Act.put, List.setIfInBounds_toArray, List.set_cons_zero, List.set_cons_succ]
          refine wpAnyG_take 11 rfl (by kernel_rfl) (fun _ _ _ h => h) (YieldsG.pure (by rfl) (fun w9 _ => by go_simp; try with_reducible rfl)) ?_
          try simp only [Act.put, List.setIfInBounds_toArray, List.set_cons_zero, List.set_cons_succ]
          refine wpAnyG_done (by kernel_rfl) (fun u hu => ?_)
          have BM := Gr.blk hu BM
          have BX := Gr.blk hu BX
          have BY := Gr.blk hu BY
          have BR := Gr.blk hu BR
          have BW := Gr.blk hu BW
          have hb := Below.gr hb hu
          have pa : u.cell? ⟨w.heap.size + 4, 5, none⟩ = some (.int .u64 (r5 : Int)) := BW.cell 5
          have pf := BW.frozen 5
          clear hu cm px py
          go_wp2
          obtain ⟨hnew, ⟨b0, b1, b2, b3, b4, b5⟩, bY⟩ := HN.out
          refine ⟨⟨(hb.setCell (by show w.heap.size ≤ w.heap.size + 4; omega) _), (BM.far (by show w.heap.size ≠ w.heap.size + 4; omega) _), (BX.far (by show w.heap.size + 1 ≠ w.heap.size + 4; omega) _), (BY.far (by show w.heap.size + 2 ≠ w.heap.size + 4; omega) _), (BR.far (by show w.heap.size + 3 ≠ w.heap.size + 4; omega) _), Lib.hid (.inr (.inr (.inr (.inr (⟨rfl, r0, r1, r2, r3, r4, yy, hi + k + l, by congr 1, BW.set_ 5 _, ⟨b0, b1, b2, b3, b4, bY⟩, hsum, hnew⟩)))))⟩, by decide⟩
        · clear HI
          obtain ⟨r0, r1, r2, r3, r4, r5, c, rfl, BW, ⟨b0, b1, b2, b3, b4, b5⟩, hc, hval⟩ := X
          have HV := Lib.hid hval
          have pa : wr.cell? ⟨w.heap.size + 4, 6, none⟩ = some (.int .u64 0) := BW.cell 6
          have pf := BW.frozen 6
          clear hval
          go_wp2
          refine ⟨⟨(hb.setCell (by show w.heap.size ≤ w.heap.size + 4; omega) _), (BM.far (by show w.heap.size ≠ w.heap.size + 4; omega) _), (BX.far (by show w.heap.size + 1 ≠ w.heap.size + 4; omega) _), (BY.far (by show w.heap.size + 2 ≠ w.heap.size + 4; omega) _), (BR.far (by show w.heap.size + 3 ≠ w.heap.size + 4; omega) _), Lib.hid (.inr (.inr (.inr (.inl (⟨rfl, r0, r1, r2, r3, r4, r5, c, BW.set_ 6 _, ⟨b0, b1, b2, b3, b4, b5, hc⟩, by have := HV.out; simp only [val8] at this ⊢; omega⟩)))))⟩, by decide⟩
    · clear HI
      obtain ⟨r0, r1, r2, r3, r4, r5, r6, BW, hlt, hval⟩ := X
      go_wp2
      go_loopw [9, 10] (fun cv j wr => Below w.heap.size w wr ∧ Blk wr w.heap.size 76 #[.int .u64 18446744069414583343, .int .u64 18446744073709551615, .int .u64 18446744073709551615, .int .u64 18446744073709551615, .int .u64 4294968273, .int .u64 0, .int .u64 0] ∧ Blk wr (w.heap.size + 1) 68 #[.int .u64 (x0 : Int), .int .u64 (x1 : Int), .int .u64 (x2 : Int), .int .u64 (x3 : Int)] ∧ Blk wr (w.heap.size + 2) 68 #[.int .u64 (y0 : Int), .int .u64 (y1 : Int), .int .u64 (y2 : Int), .int .u64 (y3 : Int)] ∧ Blk wr (w.heap.size + 3) 68 #[.int .u64 0, .int .u64 0, .int .u64 0, .int .u64 0] ∧ Hid ((j = .int .i64 0 ∧ ∃ r0 r1 r2 r3 r4 r5 r6 c : Nat, cv = .int .u64 (c : Int) ∧ Blk wr (w.heap.size + 4) 154 #[.int .u64 (r0 : Int), .int .u64 (r1 : Int), .int .u64 (r2 : Int), .int .u64 (r3 : Int), .int .u64 (r4 : Int), .int .u64 (r5 : Int), .int .u64 (r6 : Int), .int .u64 0] ∧ (r0 < 18446744073709551616 ∧ r1 < 18446744073709551616 ∧ r2 < 18446744073709551616 ∧ r3 < 18446744073709551616 ∧ r4 < 18446744073709551616 ∧ r5 < 18446744073709551616 ∧ r6 < 18446744073709551616) ∧ c = 0 ∧ val8 r0 r1 r2 r3 r4 r5 r6 0 + 6277101735386680763835789423207666416102355444464034512896 * c = 0 + 1 * t00 + 18446744073709551616 * t01 + 340282366920938463463374607431768211456 * t02 + 6277101735386680763835789423207666416102355444464034512896 * t03 + 18446744073709551616 * t10 + 340282366920938463463374607431768211456 * t11 + 6277101735386680763835789423207666416102355444464034512896 * t12 + 115792089237316195423570985008687907853269984665640564039457584007913129639936 * t13 + 340282366920938463463374607431768211456 * t20 + 6277101735386680763835789423207666416102355444464034512896 * t21 + 115792089237316195423570985008687907853269984665640564039457584007913129639936 * t22 + 2135987035920910082395021706169552114602704522356652769947041607822219725780640550022962086936576 * t23) ∨ (j = .int .i64 1 ∧ ∃ r0 r1 r2 r3 r4 r5 r6 c : Nat, cv = .int .u64 (c : Int) ∧ Blk wr (w.heap.size + 4) 154 #[.int .u64 (r0 : Int), .int .u64 (r1 : Int), .int .u64 (r2 : Int), .int .u64 (r3 : Int), .int .u64 (r4 : Int), .int .u64 (r5 : Int), .int .u64 (r6 : Int), .int .u64 0] ∧ (r0 < 18446744073709551616 ∧ r1 < 18446744073709551616 ∧ r2 < 18446744073709551616 ∧ r3 < 18446744073709551616 ∧ r4 < 18446744073709551616 ∧ r5 < 18446744073709551616 ∧ r6 < 18446744073709551616) ∧ c < 18446744073709551616 ∧ val8 r0 r1 r2 r3 r4 r5 r6 0 + 115792089237316195423570985008687907853269984665640564039457584007913129639936 * c = 0 + 1 * t00 + 18446744073709551616 * t01 + 340282366920938463463374607431768211456 * t02 + 6277101735386680763835789423207666416102355444464034512896 * t03 + 18446744073709551616 * t10 + 340282366920938463463374607431768211456 * t11 + 6277101735386680763835789423207666416102355444464034512896 * t12 + 115792089237316195423570985008687907853269984665640564039457584007913129639936 * t13 + 340282366920938463463374607431768211456 * t20 + 6277101735386680763835789423207666416102355444464034512896 * t21 + 115792089237316195423570985008687907853269984665640564039457584007913129639936 * t22 + 2135987035920910082395021706169552114602704522356652769947041607822219725780640550022962086936576 * t23 + 6277101735386680763835789423207666416102355444464034512896 * t30) ∨ (j = .int .i64 2 ∧ ∃ r0 r1 r2 r3 r4 r5 r6 c : Nat, cv = .int .u64 (c : Int) ∧ Blk wr (w.heap.size + 4) 154 #[.int .u64 (r0 : Int), .int .u64 (r1 : Int), .int .u64 (r2 : Int), .int .u64 (r3 : Int), .int .u64 (r4 : Int), .int .u64 (r5 : Int), .int .u64 (r6 : Int), .int .u64 0] ∧ (r0 < 18446744073709551616 ∧ r1 < 18446744073709551616 ∧ r2 < 18446744073709551616 ∧ r3 < 18446744073709551616 ∧ r4 < 18446744073709551616 ∧ r5 < 18446744073709551616 ∧ r6 < 18446744073709551616) ∧ c < 18446744073709551616 ∧ val8 r0 r1 r2 r3 r4 r5 r6 0 + 2135987035920910082395021706169552114602704522356652769947041607822219725780640550022962086936576 * c = 0 + 1 * t00 + 18446744073709551616 * t01 + 340282366920938463463374607431768211456 * t02 + 6277101735386680763835789423207666416102355444464034512896 * t03 + 18446744073709551616 * t10 + 340282366920938463463374607431768211456 * t11 + 6277101735386680763835789423207666416102355444464034512896 * t12 + 115792089237316195423570985008687907853269984665640564039457584007913129639936 * t13 + 340282366920938463463374607431768211456 * t20 + 6277101735386680763835789423207666416102355444464034512896 * t21 + 115792089237316195423570985008687907853269984665640564039457584007913129639936 * t22 + 2135987035920910082395021706169552114602704522356652769947041607822219725780640550022962086936576 * t23 + 6277101735386680763835789423207666416102355444464034512896 * t30 + 115792089237316195423570985008687907853269984665640564039457584007913129639936 * t31) ∨ (j = .int .i64 3 ∧ ∃ r0 r1 r2 r3 r4 r5 r6 c : Nat, cv = .int .u64 (c : Int) ∧ Blk wr (w.heap.size + 4) 154 #[.int .u64 (r0 : Int), .int .u64 (r1 : Int), .int .u64 (r2 : Int), .int .u64 (r3 : Int), .int .u64 (r4 : Int), .int .u64 (r5 : Int), .int .u64 (r6 : Int), .int .u64 0] ∧ (r0 < 18446744073709551616 ∧ r1 < 18446744073709551616 ∧ r2 < 18446744073709551616 ∧ r3 < 18446744073709551616 ∧ r4 < 18446744073709551616 ∧ r5 < 18446744073709551616 ∧ r6 < 18446744073709551616) ∧ c < 18446744073709551616 ∧ val8 r0 r1 r2 r3 r4 r5 r6 0 + 39402006196394479212279040100143613805079739270465446667948293404245721771497210611414266254884915640806627990306816 * c = 0 + 1 * t00 + 18446744073709551616 * t01 + 340282366920938463463374607431768211456 * t02 + 6277101735386680763835789423207666416102355444464034512896 * t03 + 18446744073709551616 * t10 + 340282366920938463463374607431768211456 * t11 + 6277101735386680763835789423207666416102355444464034512896 * t12 + 115792089237316195423570985008687907853269984665640564039457584007913129639936 * t13 + 340282366920938463463374607431768211456 * t20 + 6277101735386680763835789423207666416102355444464034512896 * t21 + 115792089237316195423570985008687907853269984665640564039457584007913129639936 * t22 + 2135987035920910082395021706169552114602704522356652769947041607822219725780640550022962086936576 * t23 + 6277101735386680763835789423207666416102355444464034512896 * t30 + 115792089237316195423570985008687907853269984665640564039457584007913129639936 * t31 + 2135987035920910082395021706169552114602704522356652769947041607822219725780640550022962086936576 * t32) ∨ (j = .int .i64 4 ∧ ∃ r0 r1 r2 r3 r4 r5 r6 c : Nat, cv = .int .u64 (c : Int) ∧ Blk wr (w.heap.size + 4) 154 #[.int .u64 (r0 : Int), .int .u64 (r1 : Int), .int .u64 (r2 : Int), .int .u64 (r3 : Int), .int .u64 (r4 : Int), .int .u64 (r5 : Int), .int .u64 (r6 : Int), .int .u64 0] ∧ (r0 < 18446744073709551616 ∧ r1 < 18446744073709551616 ∧ r2 < 18446744073709551616 ∧ r3 < 18446744073709551616 ∧ r4 < 18446744073709551616 ∧ r5 < 18446744073709551616 ∧ r6 < 18446744073709551616) ∧ c < 18446744073709551616 ∧ val8 r0 r1 r2 r3 r4 r5 r6 0 + 726838724295606890549323807888004534353641360687318060281490199180639288113397923326191050713763565560762521606266177933534601628614656 * c = 0 + 1 * t00 + 18446744073709551616 * t01 + 340282366920938463463374607431768211456 * t02 + 6277101735386680763835789423207666416102355444464034512896 * t03 + 18446744073709551616 * t10 + 340282366920938463463374607431768211456 * t11 + 6277101735386680763835789423207666416102355444464034512896 * t12 + 115792089237316195423570985008687907853269984665640564039457584007913129639936 * t13 + 340282366920938463463374607431768211456 * t20 + 6277101735386680763835789423207666416102355444464034512896 * t21 + 115792089237316195423570985008687907853269984665640564039457584007913129639936 * t22 + 2135987035920910082395021706169552114602704522356652769947041607822219725780640550022962086936576 * t23 + 6277101735386680763835789423207666416102355444464034512896 * t30 + 115792089237316195423570985008687907853269984665640564039457584007913129639936 * t31 + 2135987035920910082395021706169552114602704522356652769947041607822219725780640550022962086936576 * t32 + 39402006196394479212279040100143613805079739270465446667948293404245721771497210611414266254884915640806627990306816 * t33))) (fun _ j _ => 4 - (intOf j).toNat)
      case atStart => exact ⟨hb, BM, BX, BY, BR, Lib.hid (.inl ⟨rfl, r0, r1, r2, r3, r4, r5, r6, 0, rfl, BW, hlt, rfl, by omega⟩)⟩
      case round =>
        clear hb BM BX BY BR BW hlt hval
        obtain ⟨hb, BM, BX, BY, BR, HI⟩ := hrel
        have lX := BX.lt
        have lY := BY.lt
        rcases HI.out with ⟨rfl, X⟩ | ⟨rfl, X⟩ | ⟨rfl, X⟩ | ⟨rfl, X⟩ | ⟨rfl, X⟩
        · clear HI
          obtain ⟨r0, r1, r2, r3, r4, r5, r6, c, rfl, BW, ⟨b0, b1, b2, b3, b4, b5, b6⟩, hc, hval⟩ := X
          obtain ⟨hi, lo, blo, bhi, hml⟩ := mul_ex x3 y0 HT.out.1.2.2.2 HT.out.2.1.1
          have cm := fun w => (mul64_at w x3 y0 hi lo HT.out.1.2.2.2 HT.out.2.1.1 blo hml).mono fun e w' (h : _ ∧ w' = w) => (⟨h.1, by rw [h.2]; exact Below.refl _ _⟩ : _ ∧ Below w.heap.size w w')
          have htl : t30 ≤ 18446744073709551615 * 18446744073709551615 := by rw [HT.out.2.2.2.2.2.2.2.2.2.2.2.2.2.2.1]; exact Nat.mul_le_mul (by have := HT.out.1.2.2.2; omega) (by have := HT.out.2.1.1; omega)
          rw [← HT.out.2.2.2.2.2.2.2.2.2.2.2.2.2.2.1] at hml
          obtain ⟨xx, k, bx, bk, hxk, ra⟩ := add0_ex lo r3 blo b3
          obtain ⟨yy, l, bY, bl, hyl, rb⟩ := add0_ex xx c bx (by omega)
          have hsum : hi + k + l < 18446744073709551616 := by omega
          have hnew : val8 r0 r1 r2 yy r4 r5 r6 0 + 115792089237316195423570985008687907853269984665640564039457584007913129639936 * (hi + k + l) = 0 + 1 * t00 + 18446744073709551616 * t01 + 340282366920938463463374607431768211456 * t02 + 6277101735386680763835789423207666416102355444464034512896 * t03 + 18446744073709551616 * t10 + 340282366920938463463374607431768211456 * t11 + 6277101735386680763835789423207666416102355444464034512896 * t12 + 115792089237316195423570985008687907853269984665640564039457584007913129639936 * t13 + 340282366920938463463374607431768211456 * t20 + 6277101735386680763835789423207666416102355444464034512896 * t21 + 115792089237316195423570985008687907853269984665640564039457584007913129639936 * t22 + 2135987035920910082395021706169552114602704522356652769947041607822219725780640550022962086936576 * t23 + 6277101735386680763835789423207666416102355444464034512896 * t30 := by
            simp only [val8] at hval ⊢
            omega
          have HN := Lib.hid (And.intro hnew (And.intro (And.intro b0 (And.intro b1 (And.intro b2 (And.intro b3 (And.intro b4 (And.intro b5 b6)))))) bY))
          have px : wr.cell? ⟨w.heap.size + 1, 3, none⟩ = some (.int .u64 (x3 : Int)) := BX.cell 3
          have py : wr.cell? ⟨w.heap.size + 2, 0, none⟩ = some (.int .u64 (y0 : Int)) := BY.cell 0
          clear hval hnew hml hxk hyl blo bx bY hc htl b0 b1 b2 b3 b4 b5 b6
          go_wp2
          refine wp_region_G (fun _ => false) (by kernel_rfl) ?_
          try simp only [Act.put]
          refine wpAnyG_take 0 rfl (by kernel_rfl) (fun _ _ _ h => h) (YieldsG.pure (by rfl) (fun w9 _ => by go_simp; try with_reducible rfl)) ?_
          try simp only [Act.put, List.setIfInBounds_toArray, List.set_cons_zero, List.set_cons_succ]
          refine wpAnyG_take 1 rfl (by kernel_rfl) (fun _ _ _ h => h) (YieldsG.pure (by rfl) (fun w9 _ => by go_simp; try with_reducible rfl)) ?_
          try simp only [Act.put, List.setIfInBounds_toArray, List.set_cons_zero, List.set_cons_succ]
          refine wpAnyG_take 2 rfl (by kernel_rfl) (fun _ _ _ h => h) (YieldsG.pure (v := .int .u64 (x3 : Int)) (by rfl) (fun w9 h9 => by have hz := (Below.cell (p := ⟨w.heap.size + 1, 3, none⟩) h9 lX).trans px; go_simp; first | done | simp [hz])) ?_
          try simp only [Act.put, List.setIfInBounds_toArray, List.set_cons_zero, List.set_cons_succ]
          refine wpAnyG_take 3 rfl (by kernel_rfl) (fun _ _ _ h => h) (YieldsG.pure (by rfl) (fun w9 _ => by go_simp; try with_reducible rfl)) ?_
          try simp only [Act.put, List.setIfInBounds_toArray, List.set_cons_zero, List.set_cons_succ]
          refine wpAnyG_take 4 rfl (by kernel_rfl) (fun _ _ _ h => h) (YieldsG.pure (by rfl) (fun w9 _ => by go_simp; try with_reducible rfl)) ?_
          try simp only [Act.put, List.setIfInBounds_toArray, List.set_cons_zero, List.set_cons_succ]
          refine wpAnyG_take 5 rfl (by kernel_rfl) (fun _ _ _ h => h) (YieldsG.pure (v := .int .u64 (y0 : Int)) (by rfl) (fun w9 h9 => by have hz := (Below.cell (p := ⟨w.heap.size + 2, 0, none⟩) h9 lY).trans py; go_simp; first | done | simp [hz])) ?_
          try simp only [Act.put, List.setIfInBounds_toArray, List.set_cons_zero, List.set_cons_succ]
          refine wpAnyG_take 6 rfl (by kernel_rfl) (fun _ _ _ h => h) (YieldsG.call (v := .tuple #[.int .u64 (hi : Int), .int .u64 (lo : Int)]) (by rfl) 51 _ (fun w9 => by go_simp; try (first | with_reducible rfl | rfl)) (fun w9 h9 => cm w9)) ?_
          try simp only [Act.put, List.setIfInBounds_toArray, List.set_cons_zero, List.set_cons_succ]
          refine wpAnyG_take 7 rfl (by kernel_rfl) (fun _ _ _ h => h) (YieldsG.pure (by rfl) (fun w9 _ => by go_simp; try with_reducible rfl)) ?_
          try simp only [Act.put, List.setIfInBounds_toArray, List.set_cons_zero, List.set_cons_succ]
          refine wpAnyG_take 8 rfl (by kernel_rfl) (fun _ _ _ h => h) (YieldsG.pure (by rfl) (fun w9 _ => by go_simp; try with_reducible rfl)) ?_
          try simp only [Act.put, List.setIfInBounds_toArray, List.set_cons_zero, List.set_cons_succ]
          refine wpAnyG_take 9 rfl (by kernel_rfl) (fun _ _ _ h => h) (YieldsG.pure (by rfl) (fun w9 _ => by go_simp; try with_reducible rfl)) ?_
          try simp only [Act.put, List.setIfInBounds_toArray, List.set_cons_zero, List.set_cons_succ]
          refine wpAnyG_take 10 rfl (by kernel_rfl) (fun _ _ _ h => h) (YieldsG.pure (by rfl) (fun w9 _ => by go_simp; try with_reducible rfl)) ?_
          try simp only [Act.put, List.setIfInBounds_toArray, List.set_cons_zero, List.set_cons_succ]
          refine wpAnyG_take 11 rfl (by kernel_rfl) (fun _ _ _ h => h) (YieldsG.pure (by rfl) (fun w9 _ => by go_simp; try with_reducible rfl)) ?_
          try simp only [Act.put, List.setIfInBounds_toArray, List.set_cons_zero, List.set_cons_succ]
          refine wpAnyG_done (by kernel_rfl) (fun u hu => ?_)
          have BM := Gr.blk hu BM
          have BX := Gr.blk hu BX
          have BY := Gr.blk hu BY
          have BR := Gr.blk hu BR
          have BW := Gr.blk hu BW
          have hb := Below.gr hb hu
          have pa : u.cell? ⟨w.heap.size + 4, 3, none⟩ = some (.int .u64 (r3 : Int)) := BW.cell 3
          have pf := BW.frozen 3
          clear hu cm px py
          go_wp2
          obtain ⟨hnew, ⟨b0, b1, b2, b3, b4, b5, b6⟩, bY⟩ := HN.out
          refine ⟨⟨(hb.setCell (by show w.heap.size ≤ w.heap.size + 4; omega) _), (BM.far (by show w.heap.size ≠ w.heap.size + 4; omega) _), (BX.far (by show w.heap.size + 1 ≠ w.heap.size + 4; omega) _), (BY.far (by show w.heap.size + 2 ≠ w.heap.size + 4; omega) _), (BR.far (by show w.heap.size + 3 ≠ w.heap.size + 4; omega) _), Lib.hid (.inr (.inl (⟨rfl, r0, r1, r2, yy, r4, r5, r6, hi + k + l, by congr 1, BW.set_ 3 _, ⟨b0, b1, b2, bY, b4, b5, b6⟩, hsum, hnew⟩)))⟩, by decide⟩
        · clear HI
          obtain ⟨r0, r1, r2, r3, r4, r5, r6, c, rfl, BW, ⟨b0, b1, b2, b3, b4, b5, b6⟩, hc, hval⟩ := X
          obtain ⟨hi, lo, blo, bhi, hml⟩ := mul_ex x3 y1 HT.out.1.2.2.2 HT.out.2.1.2.1
          have cm := fun w => (mul64_at w x3 y1 hi lo HT.out.1.2.2.2 HT.out.2.1.2.1 blo hml).mono fun e w' (h : _ ∧ w' = w) => (⟨h.1, by rw [h.2]; exact Below.refl _ _⟩ : _ ∧ Below w.heap.size w w')
          have htl : t31 ≤ 18446744073709551615 * 18446744073709551615 := by rw [HT.out.2.2.2.2.2.2.2.2.2.2.2.2.2.2.2.1]; exact Nat.mul_le_mul (by have := HT.out.1.2.2.2; omega) (by have := HT.out.2.1.2.1; omega)
          rw [← HT.out.2.2.2.2.2.2.2.2.2.2.2.2.2.2.2.1] at hml
          obtain ⟨xx, k, bx, bk, hxk, ra⟩ := add0_ex lo r4 blo b4
          obtain ⟨yy, l, bY, bl, hyl, rb⟩ := add0_ex xx c bx (by omega)
          have hsum : hi + k + l < 18446744073709551616 := by omega
          have hnew : val8 r0 r1 r2 r3 yy r5 r6 0 + 2135987035920910082395021706169552114602704522356652769947041607822219725780640550022962086936576 * (hi + k + l) = 0 + 1 * t00 + 18446744073709551616 * t01 + 340282366920938463463374607431768211456 * t02 + 6277101735386680763835789423207666416102355444464034512896 * t03 + 18446744073709551616 * t10 + 340282366920938463463374607431768211456 * t11 + 6277101735386680763835789423207666416102355444464034512896 * t12 + 115792089237316195423570985008687907853269984665640564039457584007913129639936 * t13 + 340282366920938463463374607431768211456 * t20 + 6277101735386680763835789423207666416102355444464034512896 * t21 + 115792089237316195423570985008687907853269984665640564039457584007913129639936 * t22 + 2135987035920910082395021706169552114602704522356652769947041607822219725780640550022962086936576 * t23 + 6277101735386680763835789423207666416102355444464034512896 * t30 + 115792089237316195423570985008687907853269984665640564039457584007913129639936 * t31 := by
            simp only [val8] at hval ⊢
            omega
          have HN := Lib.hid (And.intro hnew (And.intro (And.intro b0 (And.intro b1 (And.intro b2 (And.intro b3 (And.intro b4 (And.intro b5 b6)))))) bY))
          have px : wr.cell? ⟨w.heap.size + 1, 3, none⟩ = some (.int .u64 (x3 : Int)) := BX.cell 3
          have py : wr.cell? ⟨w.heap.size + 2, 1, none⟩ = some (.int .u64 (y1 : Int)) := BY.cell 1
          clear hval hnew hml hxk hyl blo bx bY hc htl b0 b1 b2 b3 b4 b5 b6
          go_wp2
          refine wp_region_G (fun _ => false) (by kernel_rfl) ?_
          try simp only [Act.put]
          refine wpAnyG_take 0 rfl (by kernel_rfl) (fun _ _ _ h => h) (YieldsG.pure (by rfl) (fun w9 _ => by go_simp; try with_reducible rfl)) ?_
          try simp only [Act.put, List.setIfInBounds_toArray, List.set_cons_zero, List.set_cons_succ]
          refine wpAnyG_take 1 rfl (by kernel_rfl) (fun _ _ _ h => h) (YieldsG.pure (by rfl) (fun w9 _ => by go_simp; try with_reducible rfl)) ?_
          try simp only [Act.put, List.setIfInBounds_toArray, List.set_cons_zero, List.set_cons_succ]
          refine wpAnyG_take 2 rfl (by kernel_rfl) (fun _ _ _ h => h) (YieldsG.pure (v := .int .u64 (x3 : Int)) (by rfl) (fun w9 h9 => by have hz := (Below.cell (p := ⟨w.heap.size + 1, 3, none⟩) h9 lX).trans px; go_simp; first | done | simp [hz])) ?_
          try simp only [Act.put, List.setIfInBounds_toArray, List.set_cons_zero, List.set_cons_succ]
          refine wpAnyG_take 3 rfl (by kernel_rfl) (fun _ _ _ h => h) (YieldsG.pure (by rfl) (fun w9 _ => by go_simp; try with_reducible rfl)) ?_
          try simp only [Act.put, List.setIfInBounds_toArray, List.set_cons_zero, List.set_cons_succ]
          refine wpAnyG_take 4 rfl (by kernel_rfl) (fun _ _ _ h => h) (YieldsG.pure (by rfl) (fun w9 _ => by go_simp; try with_reducible rfl)) ?_
          try simp only [Act.put, List.setIfInBounds_toArray, List.set_cons_zero, List.set_cons_succ]
          refine wpAnyG_take 5 rfl (by kernel_rfl) (fun _ _ _ h => h) (YieldsG.pure (v := .int .u64 (y1 : Int)) (by rfl) (fun w9 h9 => by have hz := (Below.cell (p := ⟨w.heap.size + 2, 1, none⟩) h9 lY).trans py; go_simp; first | done | simp [hz])) ?_
          try simp only [Act.put, List.setIfInBounds_toArray, List.set_cons_zero, List.set_cons_succ]
          refine wpAnyG_take 6 rfl (by kernel_rfl) (fun _ _ _ h => h) (YieldsG.call (v := .tuple #[.int .u64 (hi : Int), .int .u64 (lo : Int)]) (by rfl) 51 _ (fun w9 => by go_simp; try (first | with_reducible rfl | rfl)) (fun w9 h9 => cm w9)) ?_
          try simp only [Act.put, List.setIfInBounds_toArray, List.set_cons_zero, List.set_cons_succ]
          refine wpAnyG_take 7 rfl (by kernel_rfl) (fun _ _ _ h => h) (YieldsG.pure (by rfl) (fun w9 _ => by go_simp; try with_reducible rfl)) ?_
          try simp only [Act.put, List.setIfInBounds_toArray, List.set_cons_zero, List.set_cons_succ]
          refine wpAnyG_take 8 rfl (by kernel_rfl) (fun _ _ _ h => h) (YieldsG.pure (by rfl) (fun w9 _ => by go_simp; try with_reducible rfl)) ?_
          try simp only [Act.put, List.setIfInBounds_toArray, List.set_cons_zero, List.set_cons_succ]
          refine wpAnyG_take 9 rfl (by kernel_rfl) (fun _ _ _ h => h) (YieldsG.pure (by rfl) (fun w9 _ => by go_simp; try with_reducible rfl)) ?_
          try simp only [Act.put, List.setIfInBounds_toArray, List.set_cons_zero, List.set_cons_succ]
          refine wpAnyG_take 10 rfl (by kernel_rfl) (fun _ _ _ h => h) (YieldsG.pure (by rfl) (fun w9 _ => by go_simp; try with_reducible rfl)) ?_
          try simp only [Act.put, List.setIfInBounds_toArray, List.set_cons_zero, List.set_cons_succ]
          refine wpAnyG_take 11 rfl (by kernel_rfl) (fun _ _ _ h => h) (YieldsG.pure (by rfl) (fun w9 _ => by go_simp; try with_reducible rfl)) ?_
          try simp only [Act.put, List.setIfInBounds_toArray, List.set_cons_zero, List.set_cons_succ]
          refine wpAnyG_done (by kernel_rfl) (fun u hu => ?_)
          have BM := Gr.blk hu BM
          have BX := Gr.blk hu BX
          have BY := Gr.blk hu BY
          have BR := Gr.blk hu BR
          have BW := Gr.blk hu BW
          have hb := Below.gr hb hu
          have pa : u.cell? ⟨w.heap.size + 4, 4, none⟩ = some (.int .u64 (r4 : Int)) := BW.cell 4
          have pf := BW.frozen 4
          clear hu cm px py
          go_wp2
          obtain ⟨hnew, ⟨b0, b1, b2, b3, b4, b5, b6⟩, bY⟩ := HN.out
          refine ⟨⟨(hb.setCell (by show w.heap.size ≤ w.heap.size + 4; omega) _), (BM.far (by show w.heap.size ≠ w.heap.size + 4; omega) _), (BX.far (by show w.heap.size + 1 ≠ w.heap.size + 4; omega) _), (BY.far (by show w.heap.size + 2 ≠ w.heap.size + 4; omega) _), (BR.far (by show w.heap.size + 3 ≠ w.heap.size + 4; omega) _), Lib.hid (.inr (.inr (.inl (⟨rfl, r0, r1, r2, r3, yy, r5, r6, hi + k + l, by congr 1, BW.set_ 4 _, ⟨b0, b1, b2, b3, bY, b5, b6⟩, hsum, hnew⟩))))⟩, by decide⟩
        · clear HI
          obtain ⟨r0, r1, r2, r3, r4, r5, r6, c, rfl, BW, ⟨b0, b1, b2, b3, b4, b5, b6⟩, hc, hval⟩ := X
          obtain ⟨hi, lo, blo, bhi, hml⟩ := mul_ex x3 y2 HT.out.1.2.2.2 HT.out.2.1.2.2.1
          have cm := fun w => (mul64_at w x3 y2 hi lo HT.out.1.2.2.2 HT.out.2.1.2.2.1 blo hml).mono fun e w' (h : _ ∧ w' = w) => (⟨h.1, by rw [h.2]; exact Below.refl _ _⟩ : _ ∧ Below w.heap.size w w')
          have htl : t32 ≤ 18446744073709551615 * 18446744073709551615 := by rw [HT.out.2.2.2.2.2.2.2.2.2.2.2.2.2.2.2.2.1]; exact Nat.mul_le_mul (by have := HT.out.1.2.2.2; omega) (by have := HT.out.2.1.2.2.1; omega)
          rw [← HT.out.2.2.2.2.2.2.2.2.2.2.2.2.2.2.2.2.1] at hml
          obtain ⟨xx, k, bx, bk, hxk, ra⟩ := add0_ex lo r5 blo b5
          obtain ⟨yy, l, bY, bl, hyl, rb⟩ := add0_ex xx c bx (by omega)
          have hsum : hi + k + l < 18446744073709551616 := by omega
          have hnew : val8 r0 r1 r2 r3 r4 yy r6 0 + 39402006196394479212279040100143613805079739270465446667948293404245721771497210611414266254884915640806627990306816 * (hi + k + l) = 0 + 1 * t00 + 18446744073709551616 * t01 + 340282366920938463463374607431768211456 * t02 + 6277101735386680763835789423207666416102355444464034512896 * t03 + 18446744073709551616 * t10 + 340282366920938463463374607431768211456 * t11 + 6277101735386680763835789423207666416102355444464034512896 * t12 + 115792089237316195423570985008687907853269984665640564039457584007913129639936 * t13 + 340282366920938463463374607431768211456 * t20 + 6277101735386680763835789423207666416102355444464034512896 * t21 + 115792089237316195423570985008687907853269984665640564039457584007913129639936 * t22 + 2135987035920910082395021706169552114602704522356652769947041607822219725780640550022962086936576 * t23 + 6277101735386680763835789423207666416102355444464034512896 * t30 + 115792089237316195423570985008687907853269984665640564039457584007913129639936 * t31 + 2135987035920910082395021706169552114602704522356652769947041607822219725780640550022962086936576 * t32 := by
            simp only [val8] at hval ⊢
            omega
          have HN := Lib.hid (And.intro hnew (And.intro (And.intro b0 (And.intro b1 (And.intro b2 (And.intro b3 (And.intro b4 (And.intro b5 b6)))))) bY))
          have px : wr.cell? ⟨w.heap.size + 1, 3, none⟩ = some (.int .u64 (x3 : Int)) := BX.cell 3
          have py : wr.cell? ⟨w.heap.size + 2, 2, none⟩ = some (.int .u64 (y2 : Int)) := BY.cell 2
          clear hval hnew hml hxk hyl blo bx bY hc htl b0 b1 b2 b3 b4 b5 b6
          go_wp2
          refine wp_region_G (fun _ => false) (by kernel_rfl) ?_
          try simp only [Act.put]
          refine wpAnyG_take 0 rfl (by kernel_rfl) (fun _ _ _ h => h) (YieldsG.pure (by rfl) (fun w9 _ => by go_simp; try with_reducible rfl)) ?_
          try simp only [Act.put, List.setIfInBounds_toArray, List.set_cons_zero, List.set_cons_succ]
          refine wpAnyG_take 1 rfl (by kernel_rfl) (fun _ _ _ h => h) (YieldsG.pure (by rfl) (fun w9 _ => by go_simp; try with_reducible rfl)) ?_
          try simp only [Act.put, List.setIfInBounds_toArray, List.set_cons_zero, List.set_cons_succ]
          refine wpAnyG_take 2 rfl (by kernel_rfl) (fun _ _ _ h => h) (YieldsG.pure (v := .int .u64 (x3 : Int)) (by rfl) (fun w9 h9 => by have hz := (Below.cell (p := ⟨w.heap.size + 1, 3, none⟩) h9 lX).trans px; go_simp; first | done | simp [hz])) ?_
          try simp only [Act.put, List.setIfInBounds_toArray, List.set_cons_zero, List.set_cons_succ]
          refine wpAnyG_take 3 rfl (by kernel_rfl) (fun _ _ _ h => h) (YieldsG.pure (by rfl) (fun w9 _ => by go_simp; try with_reducible rfl)) ?_
          try simp only [Act.put, List.setIfInBounds_toArray, List.set_cons_zero, List.set_cons_succ]
          refine wpAnyG_take 4 rfl (by kernel_rfl) (fun _ _ _ h => h) (YieldsG.pure (by rfl) (fun w9 _ => by go_simp; try with_reducible rfl)) ?_
          try simp only [Act.put, List.setIfInBounds_toArray, List.set_cons_zero, List.set_cons_succ]
          refine wpAnyG_take 5 rfl (by kernel_rfl) (fun _ _ _ h => h) (YieldsG.pure (v := .int .u64 (y2 : Int)) (by rfl) (fun w9 h9 => by have hz := (Below.cell (p := ⟨w.heap.size + 2, 2, none⟩) h9 lY).trans py; go_simp; first | done | simp [hz])) ?_
          try simp only [Act.put, List.setIfInBounds_toArray, List.set_cons_zero, List.set_cons_succ]
          refine wpAnyG_take 6 rfl (by kernel_rfl) (fun _ _ _ h => h) (YieldsG.call (v := .tuple #[.int .u64 (hi : Int), .int .u64 (lo : Int)]) (by rfl) 51 _ (fun w9 => by go_simp; try (first | with_reducible rfl | rfl)) (fun w9 h9 => cm w9)) ?_
          try simp only [Act.put, List.setIfInBounds_toArray, List.set_cons_zero, List.set_cons_succ]
          refine wpAnyG_take 7 rfl (by kernel_rfl) (fun _ _ _ h => h) (YieldsG.pure (by rfl) (fun w9 _ => by go_simp; try with_reducible rfl)) ?_
          try simp only [Act.put, List.setIfInBounds_toArray, List.set_cons_zero, List.set_cons_succ]
          refine wpAnyG_take 8 rfl (by kernel_rfl) (fun _ _ _ h => h) (YieldsG.pure (by rfl) (fun w9 _ => by go_simp; try with_reducible rfl)) ?_
          try simp only [Act.put, List.setIfInBounds_toArray, List.set_cons_zero, List.set_cons_succ]
          refine wpAnyG_take 9 rfl (by kernel_rfl) (fun _ _ _ h => h) (YieldsG.pure (by rfl) (fun w9 _ => by go_simp; try with_reducible rfl)) ?_
          try simp only [Act.put, List.setIfInBounds_toArray, List.set_cons_zero, List.set_cons_succ]
          refine wpAnyG_take 10 rfl (by kernel_rfl) (fun _ _ _ h => h) (YieldsG.pure (by rfl) (fun w9 _ => by go_simp; try with_reducible rfl)) ?_
          try simp only [Act.put, List.setIfInBounds_toArray, List.set_cons_zero, List.set_cons_succ]
          refine wpAnyG_take 11 rfl (by kernel_rfl) (fun _ _ _ h => h) (YieldsG.pure (by rfl) (fun w9 _ => by go_simp; try with_reducible rfl)) ?_
          try simp only [Act.put, List.setIfInBounds_toArray, List.set_cons_zero, List.set_cons_succ]
          refine wpAnyG_done (by kernel_rfl) (fun u hu => ?_)
          have BM := Gr.blk hu BM
          have BX := Gr.blk hu BX
          have BY := Gr.blk hu BY
          have BR := Gr.blk hu BR
          have BW := Gr.blk hu BW
          have hb := Below.gr hb hu
          have pa : u.cell? ⟨w.heap.size + 4, 5, none⟩ = some (.int .u64 (r5 : Int)) := BW.cell 5
          have pf := BW.frozen 5
          clear hu cm px py
          go_wp2
          obtain ⟨hnew, ⟨b0, b1, b2, b3, b4, b5, b6⟩, bY⟩ := HN.out
          refine ⟨⟨(hb.setCell (by show w.heap.size ≤ w.heap.size + 4; omega) _), (BM.far (by show w.heap.size ≠ w.heap.size + 4; omega) _), (BX.far (by show w.heap.size + 1 ≠ w.heap.size + 4; omega) _), (BY.far (by show w.heap.size + 2 ≠ w.heap.size + 4; omega) _), (BR.far (by show w.heap.size + 3 ≠ w.heap.size + 4; omega) _), Lib.hid (.inr (.inr (.inr (.inl (⟨rfl, r0, r1, r2, r3, r4, yy, r6, hi + k + l, by congr 1, BW.set_ 5 _, ⟨b0, b1, b2, b3, b4, bY, b6⟩, hsum, hnew⟩)))))⟩, by decide⟩
        · clear HI
          obtain ⟨r0, r1, r2, r3, r4, r5, r6, c, rfl, BW, ⟨b0, b1, b2, b3, b4, b5, b6⟩, hc, hval⟩ := X
          obtain ⟨hi, lo, blo, bhi, hml⟩ := mul_ex x3 y3 HT.out.1.2.2.2 HT.out.2.1.2.2.2
          have cm := fun w => (mul64_at w x3 y3 hi lo HT.out.1.2.2.2 HT.out.2.1.2.2.2 blo hml).mono fun e w' (h : _ ∧ w' = w) => (⟨h.1, by rw [h.2]; exact Below.refl _ _⟩ : _ ∧ Below w.heap.size w w')
          have htl : t33 ≤ 18446744073709551615 * 18446744073709551615 := by rw [HT.out.2.2.2.2.2.2.2.2.2.2.2.2.2.2.2.2.2.1]; exact Nat.mul_le_mul (by have := HT.out.1.2.2.2; omega) (by have := HT.out.2.1.2.2.2; omega)
          rw [← HT.out.2.2.2.2.2.2.2.2.2.2.2.2.2.2.2.2.2.1] at hml
          obtain ⟨xx, k, bx, bk, hxk, ra⟩ := add0_ex lo r6 blo b6
          obtain ⟨yy, l, bY, bl, hyl, rb⟩ := add0_ex xx c bx (by omega)
          have hsum : hi + k + l < 18446744073709551616 := by omega
          have hnew : val8 r0 r1 r2 r3 r4 r5 yy 0 + 726838724295606890549323807888004534353641360687318060281490199180639288113397923326191050713763565560762521606266177933534601628614656 * (hi + k + l) = 0 + 1 * t00 + 18446744073709551616 * t01 + 340282366920938463463374607431768211456 * t02 + 6277101735386680763835789423207666416102355444464034512896 * t03 + 18446744073709551616 * t10 + 340282366920938463463374607431768211456 * t11 + 6277101735386680763835789423207666416102355444464034512896 * t12 + 115792089237316195423570985008687907853269984665640564039457584007913129639936 * t13 + 340282366920938463463374607431768211456 * t20 + 6277101735386680763835789423207666416102355444464034512896 * t21 + 115792089237316195423570985008687907853269984665640564039457584007913129639936 * t22 + 2135987035920910082395021706169552114602704522356652769947041607822219725780640550022962086936576 * t23 + 6277101735386680763835789423207666416102355444464034512896 * t30 + 115792089237316195423570985008687907853269984665640564039457584007913129639936 * t31 + 2135987035920910082395021706169552114602704522356652769947041607822219725780640550022962086936576 * t32 + 39402006196394479212279040100143613805079739270465446667948293404245721771497210611414266254884915640806627990306816 * t33 := by
            simp only [val8] at hval ⊢
            omega
          have HN := Lib.hid (And.intro hnew (And.intro (And.intro b0 (And.intro b1 (And.intro b2 (And.intro b3 (And.intro b4 (And.intro b5 b6)))))) bY))
          have px : wr.cell? ⟨w.heap.size + 1, 3, none⟩ = some (.int .u64 (x3 : Int)) := BX.cell 3
          have py : wr.cell? ⟨w.heap.size + 2, 3, none⟩ = some (.int .u64 (y3 : Int)) := BY.cell 3
          clear hval hnew hml hxk hyl blo bx bY hc htl b0 b1 b2 b3 b4 b5 b6
          go_wp2
          refine wp_region_G (fun _ => false) (by kernel_rfl) ?_
          try simp only [Act.put]
          refine wpAnyG_take 0 rfl (by kernel_rfl) (fun _ _ _ h => h) (YieldsG.pure (by rfl) (fun w9 _ => by go_simp; try with_reducible rfl)) ?_
          try simp only [Act.put, List.setIfInBounds_toArray, List.set_cons_zero, List.set_cons_succ]
          refine wpAnyG_take 1 rfl (by kernel_rfl) (fun _ _ _ h => h) (YieldsG.pure (by rfl) (fun w9 _ => by go_simp; try with_reducible rfl)) ?_
          try simp only [Act.put, List.setIfInBounds_toArray, List.set_cons_zero, List.set_cons_succ]
          refine wpAnyG_take 2 rfl (by kernel_rfl) (fun _ _ _ h => h) (YieldsG.pure (v := .int .u64 (x3 : Int)) (by rfl) (fun w9 h9 => by have hz := (Below.cell (p := ⟨w.heap.size + 1, 3, none⟩) h9 lX).trans px; go_simp; first | done | simp [hz])) ?_
          try simp only [Act.put, List.setIfInBounds_toArray, List.set_cons_zero, List.set_cons_succ]
          refine wpAnyG_take 3 rfl (by kernel_rfl) (fun _ _ _ h => h) (YieldsG.pure (by rfl) (fun w9 _ => by go_simp; try with_reducible rfl)) ?_
          try simp only [Act.put, List.setIfInBounds_toArray, List.set_cons_zero, List.set_cons_succ]
          refine wpAnyG_take 4 rfl (by kernel_rfl) (fun _ _ _ h => h) (YieldsG.pure (by rfl) (fun w9 _ => by go_simp; try with_reducible rfl)) ?_
          try simp only [Act.put, List.setIfInBounds_toArray, List.set_cons_zero, List.set_cons_succ]
          refine wpAnyG_take 5 rfl (by kernel_rfl) (fun _ _ _ h => h) (YieldsG.pure (v := .int .u64 (y3 : Int)) (by rfl) (fun w9 h9 => by have hz := (Below.cell (p := ⟨w.heap.size + 2, 3, none⟩) h9 lY).trans py; go_simp; first | done | simp [hz])) ?_
          try simp only [Act.put, List.setIfInBounds_toArray, List.set_cons_zero, List.set_cons_succ]
          refine wpAnyG_take 6 rfl (by kernel_rfl) (fun _ _ _ h => h) (YieldsG.call (v := .tuple #[.int .u64 (hi : Int), .int .u64 (lo : Int)]) (by rfl) 51 _ (fun w9 => by go_simp; try (first | with_reducible rfl | rfl)) (fun w9 h9 => cm w9)) ?_
          try simp only [Act.put, List.setIfInBounds_toArray, List.set_cons_zero, List.set_cons_succ]
          refine wpAnyG_take 7 rfl (by kernel_rfl) (fun _ _ _ h => h) (YieldsG.pure (by rfl) (fun w9 _ => by go_simp; try with_reducible rfl)) ?_
          try simp only [Act.put, List.setIfInBounds_toArray, List.set_cons_zero, List.set_cons_succ]
          refine wpAnyG_take 8 rfl (by kernel_rfl) (fun _ _ _ h => h) (YieldsG.pure (by rfl) (fun w9 _ => by go_simp; try with_reducible rfl)) ?_
          try simp only [Act.put, List.setIfInBounds_toArray, List.set_cons_zero, List.set_cons_succ]
          refine wpAnyG_take 9 rfl (by kernel_rfl) (fun _ _ _ h => h) (YieldsG.pure (by rfl) (fun w9 _ => by go_simp; try with_reducible rfl)) ?_
          try simp only [Act.put, List.setIfInBounds_toArray, List.set_cons_zero, List.set_cons_succ]
          refine wpAnyG_take 10 rfl (by kernel_rfl) (fun _ _ _ h => h) (YieldsG.pure (by rfl) (fun w9 _ => by go_simp; try with_reducible rfl)) ?_
          try simp only [Act.put, List.setIfInBounds_toArray, List.set_cons_zero, List.set_cons_succ]
          refine wpAnyG_take 11 rfl (by kernel_rfl) (fun _ _ _ h => h) (YieldsG.pure (by rfl) (fun w9 _ => by go_simp; try with_reducible rfl)) ?_
          try simp only [Act.put, List.setIfInBounds_toArray, List.set_cons_zero, List.set_cons_succ]
          refine wpAnyG_done (by kernel_rfl) (fun u hu => ?_)
          have BM := Gr.blk hu BM
          have BX := Gr.blk hu BX
          have BY := Gr.blk hu BY
          have BR := Gr.blk hu BR
          have BW := Gr.blk hu BW
          have hb := Below.gr hb hu
          have pa : u.cell? ⟨w.heap.size + 4, 6, none⟩ = some (.int .u64 (r6 : Int)) := BW.cell 6
          have pf := BW.frozen 6
          clear hu cm px py
          go_wp2
          obtain ⟨hnew, ⟨b0, b1, b2, b3, b4, b5, b6⟩, bY⟩ := HN.out
          refine ⟨⟨(hb.setCell (by show w.heap.size ≤ w.heap.size + 4; omega) _), (BM.far (by show w.heap.size ≠ w.heap.size + 4; omega) _), (BX.far (by show w.heap.size + 1 ≠ w.heap.size + 4; omega) _), (BY.far (by show w.heap.size + 2 ≠ w.heap.size + 4; omega) _), (BR.far (by show w.heap.size + 3 ≠ w.heap.size + 4; omega) _), Lib.hid (.inr (.inr (.inr (.inr (⟨rfl, r0, r1, r2, r3, r4, r5, yy, hi + k + l, by congr 1, BW.set_ 6 _, ⟨b0, b1, b2, b3, b4, b5, bY⟩, hsum, hnew⟩)))))⟩, by decide⟩
        · clear HI
          obtain ⟨r0, r1, r2, r3, r4, r5, r6, c, rfl, BW, ⟨b0, b1, b2, b3, b4, b5, b6⟩, hc, hval⟩ := X
          have HV := Lib.hid hval
          have pa : wr.cell? ⟨w.heap.size + 4, 7, none⟩ = some (.int .u64 0) := BW.cell 7
          have pf := BW.frozen 7
          clear hval
          go_wp2
          refine ⟨⟨(hb.setCell (by show w.heap.size ≤ w.heap.size + 4; omega) _), (BM.far (by show w.heap.size ≠ w.heap.size + 4; omega) _), (BX.far (by show w.heap.size + 1 ≠ w.heap.size + 4; omega) _), (BY.far (by show w.heap.size + 2 ≠ w.heap.size + 4; omega) _), (BR.far (by show w.heap.size + 3 ≠ w.heap.size + 4; omega) _), Lib.hid (.inr (.inr (.inr (.inr (⟨rfl, r0, r1, r2, r3, r4, r5, r6, c, BW.set_ 7 _, ⟨b0, b1, b2, b3, b4, b5, b6, hc⟩, by have := HV.out; simp only [val8] at this ⊢; omega⟩)))))⟩, by decide⟩
    · clear HI
      obtain ⟨r0, r1, r2, r3, r4, r5, r6, r7, BW, hlt, hval⟩ := X
      have cf := cF r0 r1 r2 r3 r4 r5 r6 r7 hlt hval
      clear cF hlt hval
      have H4 := Lib.hid (And.intro BM (And.intro BW (And.intro BR hb)))
      clear BM BX BY BR BW hb
      go_wp2_with (first | ((with_reducible refine here_load (d := some 65) ?_); refine wpList_load_blk rfl _ _ rfl w.heap.size rfl _ _ _ H4.out.1 Tryd.underlying76 rfl (by kernel_rfl) ?_) | ((with_reducible refine here_load (d := some 66) ?_); refine wpList_load_blk rfl _ _ rfl (w.heap.size + 4) rfl _ _ _ H4.out.2.1 Tryd.underlying154 rfl (by kernel_rfl) ?_))
      refine (cf _).mono ?_
      rintro e u ⟨rfl, hu⟩
      have BRu := Gr.blk hu H4.out.2.2.1
      have hbu := Below.gr H4.out.2.2.2 hu
      clear hu H4 cf
      go_wp2_with (first | ((with_reducible refine here_store ?_); refine wpList_store_blk rfl _ _ _ rfl (w.heap.size + 3) (fcs (z)) rfl rfl _ _ (BRu) (by kernel_rfl) (by rfl) (fcs_one _) ?_; intro w9 hL9 hB9 hK9))
      exact bodyPost_ret (results_cell_row rfl _ _ (w.heap.size + 3) _ _ (0, 0) _ rfl hL9 Tryd.underlying68 rfl (by kernel_rfl)) rfl ⟨rfl, hbu.trans (hB9 _ (by omega))⟩
end Go.Proofs.YtneeefinaejgcaaDoor

end
