/-
  The document's add and Sqrt.
-/
import Derived.Test.YtajjjdmjlloifaaRefPow
import Derived.Test.YtajjjdmjlloifaaNumEq
namespace Go.Proofs.Ytajjjdmjlloifaa
open Go.RowKit Go.Lib

set_option maxHeartbeats 8000000 in
set_option maxRecDepth 100000 in
theorem addR_at {v1 v2 : Value} (w : World) (x y s k : Nat) (h1 : fv x = v1) (h2 : fv y = v2) (hx : x < 115792089237316195423570985008687907853269984665640564039457584007913129639936) (hy : y < 115792089237316195423570985008687907853269984665640564039457584007913129639936) (hs : s < 115792089237316195423570985008687907853269984665640564039457584007913129639936) (he : s + 115792089237316195423570985008687907853269984665640564039457584007913129639936 * k = x + y) : Calls Try.prog 48 #[v1, v2] w fun e w' => e = .returned (fv s) ∧ Below w.heap.size w w' := by
  subst h1 h2
  obtain ⟨x0, x1, x2, x3, a0, a1, a2, a3, ex, fx⟩ := words_of x hx
  obtain ⟨y0, y1, y2, y3, b0, b1, b2, b3, ey, fy⟩ := words_of y hy
  obtain ⟨s0, c0, d0, k0, e0, r0⟩ := add0_ex x0 y0 a0 b0
  obtain ⟨s1, c1, d1, k1, e1, r1⟩ := addc_ex x1 y1 c0 a1 b1 k0
  obtain ⟨s2, c2, d2, k2, e2, r2⟩ := addc_ex x2 y2 c1 a2 b2 k1
  obtain ⟨s3, c3, d3, k3, e3, r3⟩ := addc_ex x3 y3 c2 a3 b3 k2
  have fin : s0 + 18446744073709551616 * s1 + 340282366920938463463374607431768211456 * s2 + 6277101735386680763835789423207666416102355444464034512896 * s3 = s := by omega
  have hfs := fv_mk s0 s1 s2 s3 d0 d1 d2 d3
  rw [fin] at hfs
  have Fd := Lib.hid hfs
  rw [fx, fy]
  clear fx fy ex ey hx hy hs he a0 a1 a2 a3 b0 b1 b2 b3 d0 d1 d2 d3 k0 k1 k2 k3 e0 e1 e2 e3 fin hfs
  go_enter Try.func48, Try.ntmps48
  go_wp2_with fail
  go_loopw [5, 6] (fun bo i wr => Below w.heap.size w wr ∧ Blk wr (w.heap.size + 1) 27 #[.int .u64 (y0 : Int), .int .u64 (y1 : Int), .int .u64 (y2 : Int), .int .u64 (y3 : Int)] ∧ Blk wr (w.heap.size + 2) 27 #[.int .u64 0, .int .u64 0, .int .u64 0, .int .u64 0] ∧ Hid ((i = .int .i64 0 ∧ bo = .int .u64 0 ∧ Blk wr w.heap.size 27 #[.int .u64 (x0 : Int), .int .u64 (x1 : Int), .int .u64 (x2 : Int), .int .u64 (x3 : Int)]) ∨ (i = .int .i64 1 ∧ bo = .int .u64 (c0 : Int) ∧ Blk wr w.heap.size 27 #[.int .u64 (s0 : Int), .int .u64 (x1 : Int), .int .u64 (x2 : Int), .int .u64 (x3 : Int)]) ∨ (i = .int .i64 2 ∧ bo = .int .u64 (c1 : Int) ∧ Blk wr w.heap.size 27 #[.int .u64 (s0 : Int), .int .u64 (s1 : Int), .int .u64 (x2 : Int), .int .u64 (x3 : Int)]) ∨ (i = .int .i64 3 ∧ bo = .int .u64 (c2 : Int) ∧ Blk wr w.heap.size 27 #[.int .u64 (s0 : Int), .int .u64 (s1 : Int), .int .u64 (s2 : Int), .int .u64 (x3 : Int)]) ∨ (i = .int .i64 4 ∧ bo = .int .u64 (c3 : Int) ∧ Blk wr w.heap.size 27 #[.int .u64 (s0 : Int), .int .u64 (s1 : Int), .int .u64 (s2 : Int), .int .u64 (s3 : Int)]))) (fun _ i _ => 4 - (intOf i).toNat)
  case atStart => exact ⟨below_alloc3 w _ _ _, (blk_new2 w _ _ _).alloc _, blk_new3 w _ _ _ _, Lib.hid (.inl ⟨rfl, rfl, ((Blk.new w _ _).alloc _).alloc _⟩)⟩
  case round =>
    obtain ⟨hb, BY, BR, HI⟩ := hrel
    have lY := BY.lt
    have lX : w.heap.size < wr.heap.size := by omega
    have hsz : w.heap.size + 2 < wr.heap.size := BR.lt
    rcases HI.out with ⟨rfl, rfl, BX⟩ | ⟨rfl, rfl, BX⟩ | ⟨rfl, rfl, BX⟩ | ⟨rfl, rfl, BX⟩ | ⟨rfl, rfl, BX⟩
    · clear HI
      have px : wr.cell? ⟨w.heap.size, 0, none⟩ = some (.int .u64 (x0 : Int)) := BX.cell 0
      have py : wr.cell? ⟨w.heap.size + 1, 0, none⟩ = some (.int .u64 (y0 : Int)) := BY.cell 0
      go_wp2
      refine wp_region_G (fun _ => false) (by kernel_rfl) ?_
      try simp only [Act.put]
      refine wpAnyG_take 0 rfl (by kernel_rfl) (fun _ _ _ h => h) (YieldsG.pure (by rfl) (fun w9 _ => by go_simp; try with_reducible rfl)) ?_
      try simp only [Act.put, List.setIfInBounds_toArray, List.set_cons_zero, List.set_cons_succ]
      refine wpAnyG_take 1 rfl (by kernel_rfl) (fun _ _ _ h => h) (YieldsG.pure (by rfl) (fun w9 _ => by go_simp; try with_reducible rfl)) ?_
      try simp only [Act.put, List.setIfInBounds_toArray, List.set_cons_zero, List.set_cons_succ]
      refine wpAnyG_take 2 rfl (by kernel_rfl) (fun _ _ _ h => h) (YieldsG.pure (v := .int .u64 (x0 : Int)) (by rfl) (fun w9 h9 => by have hz := (Below.cell (p := ⟨w.heap.size, 0, none⟩) h9 lX).trans px; go_simp; first | done | simp [hz])) ?_
      try simp only [Act.put, List.setIfInBounds_toArray, List.set_cons_zero, List.set_cons_succ]
      refine wpAnyG_take 3 rfl (by kernel_rfl) (fun _ _ _ h => h) (YieldsG.pure (by rfl) (fun w9 _ => by go_simp; try with_reducible rfl)) ?_
      try simp only [Act.put, List.setIfInBounds_toArray, List.set_cons_zero, List.set_cons_succ]
      refine wpAnyG_take 4 rfl (by kernel_rfl) (fun _ _ _ h => h) (YieldsG.pure (by rfl) (fun w9 _ => by go_simp; try with_reducible rfl)) ?_
      try simp only [Act.put, List.setIfInBounds_toArray, List.set_cons_zero, List.set_cons_succ]
      refine wpAnyG_take 5 rfl (by kernel_rfl) (fun _ _ _ h => h) (YieldsG.pure (v := .int .u64 (y0 : Int)) (by rfl) (fun w9 h9 => by have hz := (Below.cell (p := ⟨w.heap.size + 1, 0, none⟩) h9 lY).trans py; go_simp; first | done | simp [hz])) ?_
      try simp only [Act.put, List.setIfInBounds_toArray, List.set_cons_zero, List.set_cons_succ]
      refine wpAnyG_take 6 rfl (by kernel_rfl) (fun _ _ _ h => h) (YieldsG.pure (by rfl) (fun w9 _ => by go_simp; try with_reducible rfl)) ?_
      try simp only [Act.put, List.setIfInBounds_toArray, List.set_cons_zero, List.set_cons_succ]
      refine wpAnyG_take 7 rfl (by kernel_rfl) (fun _ _ _ h => h) (YieldsG.pure (v := .tuple #[.int .u64 (s0 : Int), .int .u64 (c0 : Int)]) (by rfl) (fun w9 h9 => by go_simp)) ?_
      try simp only [Act.put, List.setIfInBounds_toArray, List.set_cons_zero, List.set_cons_succ]
      refine wpAnyG_take 8 rfl (by kernel_rfl) (fun _ _ _ h => h) (YieldsG.pure (by rfl) (fun w9 _ => by go_simp; try with_reducible rfl)) ?_
      try simp only [Act.put, List.setIfInBounds_toArray, List.set_cons_zero, List.set_cons_succ]
      refine wpAnyG_take 9 rfl (by kernel_rfl) (fun _ _ _ h => h) (YieldsG.pure (by rfl) (fun w9 _ => by go_simp; try with_reducible rfl)) ?_
      try simp only [Act.put, List.setIfInBounds_toArray, List.set_cons_zero, List.set_cons_succ]
      refine wpAnyG_take 10 rfl (by kernel_rfl) (fun _ _ _ h => h) (YieldsG.pure (by rfl) (fun w9 _ => by go_simp; try with_reducible rfl)) ?_
      try simp only [Act.put, List.setIfInBounds_toArray, List.set_cons_zero, List.set_cons_succ]
      refine wpAnyG_take 11 rfl (by kernel_rfl) (fun _ _ _ h => h) (YieldsG.pure (by rfl) (fun w9 _ => by go_simp; try with_reducible rfl)) ?_
      try simp only [Act.put, List.setIfInBounds_toArray, List.set_cons_zero, List.set_cons_succ]
      refine wpAnyG_take 12 rfl (by kernel_rfl) (fun _ _ _ h => h) (YieldsG.pure (by rfl) (fun w9 _ => by go_simp; try with_reducible rfl)) ?_
      try simp only [Act.put, List.setIfInBounds_toArray, List.set_cons_zero, List.set_cons_succ]
      refine wpAnyG_done (by kernel_rfl) (fun u hu => ?_)
      have BXu := Gr.blk hu BX
      have BYu := Gr.blk hu BY
      have BRu := Gr.blk hu BR
      have hbu := Below.gr hb hu
      have pc : u.cell? ⟨w.heap.size, 0, none⟩ = some (.int .u64 (x0 : Int)) := BXu.cell 0
      have pf := BXu.frozen 0
      go_wp2
      refine ⟨⟨hbu.setCell (Nat.le_refl _) _, BYu.far (by show w.heap.size + 1 ≠ w.heap.size; omega) _, BRu.far (by show w.heap.size + 2 ≠ w.heap.size; omega) _, Lib.hid (.inr (.inl (⟨rfl, rfl, BXu.set_ 0 _⟩)))⟩, by decide⟩
    · clear HI
      have px : wr.cell? ⟨w.heap.size, 1, none⟩ = some (.int .u64 (x1 : Int)) := BX.cell 1
      have py : wr.cell? ⟨w.heap.size + 1, 1, none⟩ = some (.int .u64 (y1 : Int)) := BY.cell 1
      go_wp2
      refine wp_region_G (fun _ => false) (by kernel_rfl) ?_
      try simp only [Act.put]
      refine wpAnyG_take 0 rfl (by kernel_rfl) (fun _ _ _ h => h) (YieldsG.pure (by rfl) (fun w9 _ => by go_simp; try with_reducible rfl)) ?_
      try simp only [Act.put, List.setIfInBounds_toArray, List.set_cons_zero, List.set_cons_succ]
      refine wpAnyG_take 1 rfl (by kernel_rfl) (fun _ _ _ h => h) (YieldsG.pure (by rfl) (fun w9 _ => by go_simp; try with_reducible rfl)) ?_
      try simp only [Act.put, List.setIfInBounds_toArray, List.set_cons_zero, List.set_cons_succ]
      refine wpAnyG_take 2 rfl (by kernel_rfl) (fun _ _ _ h => h) (YieldsG.pure (v := .int .u64 (x1 : Int)) (by rfl) (fun w9 h9 => by have hz := (Below.cell (p := ⟨w.heap.size, 1, none⟩) h9 lX).trans px; go_simp; first | done | simp [hz])) ?_
      try simp only [Act.put, List.setIfInBounds_toArray, List.set_cons_zero, List.set_cons_succ]
      refine wpAnyG_take 3 rfl (by kernel_rfl) (fun _ _ _ h => h) (YieldsG.pure (by rfl) (fun w9 _ => by go_simp; try with_reducible rfl)) ?_
      try simp only [Act.put, List.setIfInBounds_toArray, List.set_cons_zero, List.set_cons_succ]
      refine wpAnyG_take 4 rfl (by kernel_rfl) (fun _ _ _ h => h) (YieldsG.pure (by rfl) (fun w9 _ => by go_simp; try with_reducible rfl)) ?_
      try simp only [Act.put, List.setIfInBounds_toArray, List.set_cons_zero, List.set_cons_succ]
      refine wpAnyG_take 5 rfl (by kernel_rfl) (fun _ _ _ h => h) (YieldsG.pure (v := .int .u64 (y1 : Int)) (by rfl) (fun w9 h9 => by have hz := (Below.cell (p := ⟨w.heap.size + 1, 1, none⟩) h9 lY).trans py; go_simp; first | done | simp [hz])) ?_
      try simp only [Act.put, List.setIfInBounds_toArray, List.set_cons_zero, List.set_cons_succ]
      refine wpAnyG_take 6 rfl (by kernel_rfl) (fun _ _ _ h => h) (YieldsG.pure (by rfl) (fun w9 _ => by go_simp; try with_reducible rfl)) ?_
      try simp only [Act.put, List.setIfInBounds_toArray, List.set_cons_zero, List.set_cons_succ]
      refine wpAnyG_take 7 rfl (by kernel_rfl) (fun _ _ _ h => h) (YieldsG.pure (v := .tuple #[.int .u64 (s1 : Int), .int .u64 (c1 : Int)]) (by rfl) (fun w9 h9 => by go_simp)) ?_
      try simp only [Act.put, List.setIfInBounds_toArray, List.set_cons_zero, List.set_cons_succ]
      refine wpAnyG_take 8 rfl (by kernel_rfl) (fun _ _ _ h => h) (YieldsG.pure (by rfl) (fun w9 _ => by go_simp; try with_reducible rfl)) ?_
      try simp only [Act.put, List.setIfInBounds_toArray, List.set_cons_zero, List.set_cons_succ]
      refine wpAnyG_take 9 rfl (by kernel_rfl) (fun _ _ _ h => h) (YieldsG.pure (by rfl) (fun w9 _ => by go_simp; try with_reducible rfl)) ?_
      try simp only [Act.put, List.setIfInBounds_toArray, List.set_cons_zero, List.set_cons_succ]
      refine wpAnyG_take 10 rfl (by kernel_rfl) (fun _ _ _ h => h) (YieldsG.pure (by rfl) (fun w9 _ => by go_simp; try with_reducible rfl)) ?_
      try simp only [Act.put, List.setIfInBounds_toArray, List.set_cons_zero, List.set_cons_succ]
      refine wpAnyG_take 11 rfl (by kernel_rfl) (fun _ _ _ h => h) (YieldsG.pure (by rfl) (fun w9 _ => by go_simp; try with_reducible rfl)) ?_
      try simp only [Act.put, List.setIfInBounds_toArray, List.set_cons_zero, List.set_cons_succ]
      refine wpAnyG_take 12 rfl (by kernel_rfl) (fun _ _ _ h => h) (YieldsG.pure (by rfl) (fun w9 _ => by go_simp; try with_reducible rfl)) ?_
      try simp only [Act.put, List.setIfInBounds_toArray, List.set_cons_zero, List.set_cons_succ]
      refine wpAnyG_done (by kernel_rfl) (fun u hu => ?_)
      have BXu := Gr.blk hu BX
      have BYu := Gr.blk hu BY
      have BRu := Gr.blk hu BR
      have hbu := Below.gr hb hu
      have pc : u.cell? ⟨w.heap.size, 1, none⟩ = some (.int .u64 (x1 : Int)) := BXu.cell 1
      have pf := BXu.frozen 1
      go_wp2
      refine ⟨⟨hbu.setCell (Nat.le_refl _) _, BYu.far (by show w.heap.size + 1 ≠ w.heap.size; omega) _, BRu.far (by show w.heap.size + 2 ≠ w.heap.size; omega) _, Lib.hid (.inr (.inr (.inl (⟨rfl, rfl, BXu.set_ 1 _⟩))))⟩, by decide⟩
    · clear HI
      have px : wr.cell? ⟨w.heap.size, 2, none⟩ = some (.int .u64 (x2 : Int)) := BX.cell 2
      have py : wr.cell? ⟨w.heap.size + 1, 2, none⟩ = some (.int .u64 (y2 : Int)) := BY.cell 2
      go_wp2
      refine wp_region_G (fun _ => false) (by kernel_rfl) ?_
      try simp only [Act.put]
      refine wpAnyG_take 0 rfl (by kernel_rfl) (fun _ _ _ h => h) (YieldsG.pure (by rfl) (fun w9 _ => by go_simp; try with_reducible rfl)) ?_
      try simp only [Act.put, List.setIfInBounds_toArray, List.set_cons_zero, List.set_cons_succ]
      refine wpAnyG_take 1 rfl (by kernel_rfl) (fun _ _ _ h => h) (YieldsG.pure (by rfl) (fun w9 _ => by go_simp; try with_reducible rfl)) ?_
      try simp only [Act.put, List.setIfInBounds_toArray, List.set_cons_zero, List.set_cons_succ]
      refine wpAnyG_take 2 rfl (by kernel_rfl) (fun _ _ _ h => h) (YieldsG.pure (v := .int .u64 (x2 : Int)) (by rfl) (fun w9 h9 => by have hz := (Below.cell (p := ⟨w.heap.size, 2, none⟩) h9 lX).trans px; go_simp; first | done | simp [hz])) ?_
      try simp only [Act.put, List.setIfInBounds_toArray, List.set_cons_zero, List.set_cons_succ]
      refine wpAnyG_take 3 rfl (by kernel_rfl) (fun _ _ _ h => h) (YieldsG.pure (by rfl) (fun w9 _ => by go_simp; try with_reducible rfl)) ?_
      try simp only [Act.put, List.setIfInBounds_toArray, List.set_cons_zero, List.set_cons_succ]
      refine wpAnyG_take 4 rfl (by kernel_rfl) (fun _ _ _ h => h) (YieldsG.pure (by rfl) (fun w9 _ => by go_simp; try with_reducible rfl)) ?_
      try simp only [Act.put, List.setIfInBounds_toArray, List.set_cons_zero, List.set_cons_succ]
      refine wpAnyG_take 5 rfl (by kernel_rfl) (fun _ _ _ h => h) (YieldsG.pure (v := .int .u64 (y2 : Int)) (by rfl) (fun w9 h9 => by have hz := (Below.cell (p := ⟨w.heap.size + 1, 2, none⟩) h9 lY).trans py; go_simp; first | done | simp [hz])) ?_
      try simp only [Act.put, List.setIfInBounds_toArray, List.set_cons_zero, List.set_cons_succ]
      refine wpAnyG_take 6 rfl (by kernel_rfl) (fun _ _ _ h => h) (YieldsG.pure (by rfl) (fun w9 _ => by go_simp; try with_reducible rfl)) ?_
      try simp only [Act.put, List.setIfInBounds_toArray, List.set_cons_zero, List.set_cons_succ]
      refine wpAnyG_take 7 rfl (by kernel_rfl) (fun _ _ _ h => h) (YieldsG.pure (v := .tuple #[.int .u64 (s2 : Int), .int .u64 (c2 : Int)]) (by rfl) (fun w9 h9 => by go_simp)) ?_
      try simp only [Act.put, List.setIfInBounds_toArray, List.set_cons_zero, List.set_cons_succ]
      refine wpAnyG_take 8 rfl (by kernel_rfl) (fun _ _ _ h => h) (YieldsG.pure (by rfl) (fun w9 _ => by go_simp; try with_reducible rfl)) ?_
      try simp only [Act.put, List.setIfInBounds_toArray, List.set_cons_zero, List.set_cons_succ]
      refine wpAnyG_take 9 rfl (by kernel_rfl) (fun _ _ _ h => h) (YieldsG.pure (by rfl) (fun w9 _ => by go_simp; try with_reducible rfl)) ?_
      try simp only [Act.put, List.setIfInBounds_toArray, List.set_cons_zero, List.set_cons_succ]
      refine wpAnyG_take 10 rfl (by kernel_rfl) (fun _ _ _ h => h) (YieldsG.pure (by rfl) (fun w9 _ => by go_simp; try with_reducible rfl)) ?_
      try simp only [Act.put, List.setIfInBounds_toArray, List.set_cons_zero, List.set_cons_succ]
      refine wpAnyG_take 11 rfl (by kernel_rfl) (fun _ _ _ h => h) (YieldsG.pure (by rfl) (fun w9 _ => by go_simp; try with_reducible rfl)) ?_
      try simp only [Act.put, List.setIfInBounds_toArray, List.set_cons_zero, List.set_cons_succ]
      refine wpAnyG_take 12 rfl (by kernel_rfl) (fun _ _ _ h => h) (YieldsG.pure (by rfl) (fun w9 _ => by go_simp; try with_reducible rfl)) ?_
      try simp only [Act.put, List.setIfInBounds_toArray, List.set_cons_zero, List.set_cons_succ]
      refine wpAnyG_done (by kernel_rfl) (fun u hu => ?_)
      have BXu := Gr.blk hu BX
      have BYu := Gr.blk hu BY
      have BRu := Gr.blk hu BR
      have hbu := Below.gr hb hu
      have pc : u.cell? ⟨w.heap.size, 2, none⟩ = some (.int .u64 (x2 : Int)) := BXu.cell 2
      have pf := BXu.frozen 2
      go_wp2
      refine ⟨⟨hbu.setCell (Nat.le_refl _) _, BYu.far (by show w.heap.size + 1 ≠ w.heap.size; omega) _, BRu.far (by show w.heap.size + 2 ≠ w.heap.size; omega) _, Lib.hid (.inr (.inr (.inr (.inl (⟨rfl, rfl, BXu.set_ 2 _⟩)))))⟩, by decide⟩
    · clear HI
      have px : wr.cell? ⟨w.heap.size, 3, none⟩ = some (.int .u64 (x3 : Int)) := BX.cell 3
      have py : wr.cell? ⟨w.heap.size + 1, 3, none⟩ = some (.int .u64 (y3 : Int)) := BY.cell 3
      go_wp2
      refine wp_region_G (fun _ => false) (by kernel_rfl) ?_
      try simp only [Act.put]
      refine wpAnyG_take 0 rfl (by kernel_rfl) (fun _ _ _ h => h) (YieldsG.pure (by rfl) (fun w9 _ => by go_simp; try with_reducible rfl)) ?_
      try simp only [Act.put, List.setIfInBounds_toArray, List.set_cons_zero, List.set_cons_succ]
      refine wpAnyG_take 1 rfl (by kernel_rfl) (fun _ _ _ h => h) (YieldsG.pure (by rfl) (fun w9 _ => by go_simp; try with_reducible rfl)) ?_
      try simp only [Act.put, List.setIfInBounds_toArray, List.set_cons_zero, List.set_cons_succ]
      refine wpAnyG_take 2 rfl (by kernel_rfl) (fun _ _ _ h => h) (YieldsG.pure (v := .int .u64 (x3 : Int)) (by rfl) (fun w9 h9 => by have hz := (Below.cell (p := ⟨w.heap.size, 3, none⟩) h9 lX).trans px; go_simp; first | done | simp [hz])) ?_
      try simp only [Act.put, List.setIfInBounds_toArray, List.set_cons_zero, List.set_cons_succ]
      refine wpAnyG_take 3 rfl (by kernel_rfl) (fun _ _ _ h => h) (YieldsG.pure (by rfl) (fun w9 _ => by go_simp; try with_reducible rfl)) ?_
      try simp only [Act.put, List.setIfInBounds_toArray, List.set_cons_zero, List.set_cons_succ]
      refine wpAnyG_take 4 rfl (by kernel_rfl) (fun _ _ _ h => h) (YieldsG.pure (by rfl) (fun w9 _ => by go_simp; try with_reducible rfl)) ?_
      try simp only [Act.put, List.setIfInBounds_toArray, List.set_cons_zero, List.set_cons_succ]
      refine wpAnyG_take 5 rfl (by kernel_rfl) (fun _ _ _ h => h) (YieldsG.pure (v := .int .u64 (y3 : Int)) (by rfl) (fun w9 h9 => by have hz := (Below.cell (p := ⟨w.heap.size + 1, 3, none⟩) h9 lY).trans py; go_simp; first | done | simp [hz])) ?_
      try simp only [Act.put, List.setIfInBounds_toArray, List.set_cons_zero, List.set_cons_succ]
      refine wpAnyG_take 6 rfl (by kernel_rfl) (fun _ _ _ h => h) (YieldsG.pure (by rfl) (fun w9 _ => by go_simp; try with_reducible rfl)) ?_
      try simp only [Act.put, List.setIfInBounds_toArray, List.set_cons_zero, List.set_cons_succ]
      refine wpAnyG_take 7 rfl (by kernel_rfl) (fun _ _ _ h => h) (YieldsG.pure (v := .tuple #[.int .u64 (s3 : Int), .int .u64 (c3 : Int)]) (by rfl) (fun w9 h9 => by go_simp)) ?_
      try simp only [Act.put, List.setIfInBounds_toArray, List.set_cons_zero, List.set_cons_succ]
      refine wpAnyG_take 8 rfl (by kernel_rfl) (fun _ _ _ h => h) (YieldsG.pure (by rfl) (fun w9 _ => by go_simp; try with_reducible rfl)) ?_
      try simp only [Act.put, List.setIfInBounds_toArray, List.set_cons_zero, List.set_cons_succ]
      refine wpAnyG_take 9 rfl (by kernel_rfl) (fun _ _ _ h => h) (YieldsG.pure (by rfl) (fun w9 _ => by go_simp; try with_reducible rfl)) ?_
      try simp only [Act.put, List.setIfInBounds_toArray, List.set_cons_zero, List.set_cons_succ]
      refine wpAnyG_take 10 rfl (by kernel_rfl) (fun _ _ _ h => h) (YieldsG.pure (by rfl) (fun w9 _ => by go_simp; try with_reducible rfl)) ?_
      try simp only [Act.put, List.setIfInBounds_toArray, List.set_cons_zero, List.set_cons_succ]
      refine wpAnyG_take 11 rfl (by kernel_rfl) (fun _ _ _ h => h) (YieldsG.pure (by rfl) (fun w9 _ => by go_simp; try with_reducible rfl)) ?_
      try simp only [Act.put, List.setIfInBounds_toArray, List.set_cons_zero, List.set_cons_succ]
      refine wpAnyG_take 12 rfl (by kernel_rfl) (fun _ _ _ h => h) (YieldsG.pure (by rfl) (fun w9 _ => by go_simp; try with_reducible rfl)) ?_
      try simp only [Act.put, List.setIfInBounds_toArray, List.set_cons_zero, List.set_cons_succ]
      refine wpAnyG_done (by kernel_rfl) (fun u hu => ?_)
      have BXu := Gr.blk hu BX
      have BYu := Gr.blk hu BY
      have BRu := Gr.blk hu BR
      have hbu := Below.gr hb hu
      have pc : u.cell? ⟨w.heap.size, 3, none⟩ = some (.int .u64 (x3 : Int)) := BXu.cell 3
      have pf := BXu.frozen 3
      go_wp2
      refine ⟨⟨hbu.setCell (Nat.le_refl _) _, BYu.far (by show w.heap.size + 1 ≠ w.heap.size; omega) _, BRu.far (by show w.heap.size + 2 ≠ w.heap.size; omega) _, Lib.hid (.inr (.inr (.inr (.inr (⟨rfl, rfl, BXu.set_ 3 _⟩)))))⟩, by decide⟩
    · clear HI
      have BS := BX.eq_ (fcs_words Fd.out.symm).symm
      go_wp2_with (first | ((with_reducible refine here_load (d := some 28) ?_); refine wpList_load_fv rfl _ _ rfl (w.heap.size) rfl (s) _ _ _ (BS) (fv_fcs s) Try.underlying27 rfl (by kernel_rfl) ?_) | ((with_reducible refine here_store ?_); refine wpList_store_blk rfl _ _ _ rfl (w.heap.size + 2) (fcs (s)) rfl rfl _ _ (BR) (by kernel_rfl) (by rfl) (fcs_one _) ?_; intro w9 hL9 hB9 hK9))
      exact bodyPost_ret (results_cell_row rfl _ _ (w.heap.size + 2) _ _ (0, 0) _ rfl hL9 Try.underlying27 rfl (by kernel_rfl)) rfl ⟨rfl, hb.trans (hB9 _ (by omega))⟩

/-- (p + 1) / 4 -/
def eQ : Nat := 28948022309329048855892746252171976963317496166410141009864396001977208667916
def rtR (x : Nat) : Nat := pw x eQ
/-- the even root, if there is one -/
def sqrtR (x : Nat) : Nat × Bool := if mulP (rtR x) (rtR x) ≠ x % pM then (0, false) else if rtR x % 18446744073709551616 % 2 = 1 then (negP (rtR x), true) else (rtR x, true)
theorem fv_eQ : fv 28948022309329048855892746252171976963317496166410141009864396001977208667916 = .agg #[.int .u64 18446744072635809548, .int .u64 18446744073709551615, .int .u64 18446744073709551615, .int .u64 4611686018427387903] := rfl
theorem rem_two (n : Nat) (_ : n < 18446744073709551616) : ∃ b : Bool, b = decide (n % 2 = 1) ∧ (((n : Int) % 2 == 1) = b) := by
  refine ⟨_, rfl, ?_⟩
  rcases (show n % 2 = 0 ∨ n % 2 = 1 by omega) with h | h
  · have : (n : Int) % 2 = 0 := by omega
    rw [this, h]; rfl
  · have : (n : Int) % 2 = 1 := by omega
    rw [this, h]; rfl

set_option maxHeartbeats 8000000 in
set_option maxRecDepth 100000 in
theorem sqrtR_any (w : World) (x : Nat) (hx : x < 115792089237316195423570985008687907853269984665640564039457584007913129639936) : Calls Try.prog 12 #[fv x] w fun e w' => e = .returned (.tuple #[fv (sqrtR x).1, .bool (sqrtR x).2]) ∧ Below w.heap.size w w' := by
  obtain ⟨p, hp⟩ : ∃ p, p = 115792089237316195423570985008687907853269984665640564039457584007908834671663 := ⟨_, rfl⟩
  obtain ⟨one, h1⟩ : ∃ n, n = 1 := ⟨_, rfl⟩
  obtain ⟨e, he⟩ : ∃ e, e = 115792089237316195423570985008687907853269984665640564039457584007908834671663 + 1 := ⟨_, rfl⟩
  obtain ⟨q, hq⟩ : ∃ q, q = eQ := ⟨_, rfl⟩
  obtain ⟨r, hr⟩ : ∃ r, r = rtR x := ⟨_, rfl⟩
  obtain ⟨m, hm⟩ : ∃ z, z = mulP r r := ⟨_, rfl⟩
  obtain ⟨n, hn⟩ : ∃ z, z = x % pM := ⟨_, rfl⟩
  obtain ⟨g, hg⟩ : ∃ z, z = negP r := ⟨_, rfl⟩
  have lq : q < 115792089237316195423570985008687907853269984665640564039457584007913129639936 := by rw [hq, eQ]; omega
  have lr : r < 115792089237316195423570985008687907853269984665640564039457584007913129639936 := by rw [hr]; exact pw_lt _ _
  have lm : m < 115792089237316195423570985008687907853269984665640564039457584007913129639936 := by rw [hm]; exact mulP_lt _ _
  have ln : n < 115792089237316195423570985008687907853269984665640564039457584007913129639936 := by rw [hn]; exact mod_lt x
  have cP : ∀ w, Calls Try.prog 47 #[] w fun e w' => e = .returned (.agg #[.int .u64 18446744069414583343, .int .u64 18446744073709551615, .int .u64 18446744073709551615, .int .u64 18446744073709551615, .int .u64 4294968273, .int .u64 0, .int .u64 0]) ∧ Below w.heap.size w w' := refP_any
  have c1 : ∀ w, Calls Try.prog 49 #[.int .u64 1] w fun e w' => e = .returned (fv one) ∧ Below w.heap.size w w' := fun w => small_at w one 1 (by rw [h1]; rfl) (by omega)
  have cA : ∀ w, Calls Try.prog 48 #[fv p, fv one] w fun r w' => r = .returned (fv e) ∧ Below w.heap.size w w' := fun w => addR_at w p one e 0 rfl rfl (by omega) (by omega) (by omega) (by omega)
  have cW : ∀ w, Calls Try.prog 50 #[.agg #[.int .u64 18446744069414583343, .int .u64 18446744073709551615, .int .u64 18446744073709551615, .int .u64 18446744073709551615, .int .u64 4294968273, .int .u64 0, .int .u64 0], fv x, fv q] w fun e w' => e = .returned (fv r) ∧ Below w.heap.size w w' := by
    intro w; rw [hr, rtR, ← hq]; exact power_any w x q hx lq
  have cM : ∀ w, Calls Try.prog 33 #[.agg #[.int .u64 18446744069414583343, .int .u64 18446744073709551615, .int .u64 18446744073709551615, .int .u64 18446744073709551615, .int .u64 4294968273, .int .u64 0, .int .u64 0], fv r, fv r] w fun e w' => e = .returned (fv m) ∧ Below w.heap.size w w' := by
    intro w; rw [hm]; exact mulR_any w r r lr lr
  have cN : ∀ w, Calls Try.prog 24 #[.agg #[.int .u64 18446744069414583343, .int .u64 18446744073709551615, .int .u64 18446744073709551615, .int .u64 18446744073709551615, .int .u64 4294968273, .int .u64 0, .int .u64 0], fv x] w fun e w' => e = .returned (fv n) ∧ Below w.heap.size w w' := by
    intro w; rw [hn]; exact normR_any w x hx
  have cG : ∀ w, Calls Try.prog 28 #[.agg #[.int .u64 18446744069414583343, .int .u64 18446744073709551615, .int .u64 18446744073709551615, .int .u64 18446744073709551615, .int .u64 4294968273, .int .u64 0, .int .u64 0], fv r] w fun e w' => e = .returned (fv g) ∧ Below w.heap.size w w' := by
    intro w; rw [hg]; exact negR_any w r lr
  obtain ⟨b, hb⟩ : ∃ b, b = decide (m ≠ n) := ⟨_, rfl⟩
  have eb : ∀ W, (binOp .neq 27 (fv m) (fv n)).run Try.prog W = .ok (.bool b) W := fun W => by rw [hb]; exact Nm.run_neq_fv W m n lm ln
  obtain ⟨r0, r1, r2, r3, a0, a1, a2, a3, er, fr⟩ := words_of r lr
  obtain ⟨o, ho, hob⟩ := rem_two r0 a0
  have hS : sqrtR x = if b = true then (0, false) else if o = true then (g, true) else (r, true) := by
    unfold sqrtR
    have h0 : r % 18446744073709551616 = r0 := by omega
    rw [← hr, ← hm, ← hn, ← hg, hb, ho, h0]
    by_cases h1 : m = n <;> by_cases h2 : r0 % 2 = 1 <;> simp [h1, h2]
  have FP : Hid (fv p = .agg #[.int .u64 18446744069414583343, .int .u64 18446744073709551615, .int .u64 18446744073709551615, .int .u64 18446744073709551615]) := Lib.hid (by rw [hp]; exact fv_P)
  have FE : Hid (fv e = .agg #[.int .u64 18446744069414583344, .int .u64 18446744073709551615, .int .u64 18446744073709551615, .int .u64 18446744073709551615]) := Lib.hid (by rw [he]; rfl)
  have FQ : Hid (fv q = .agg #[.int .u64 18446744072635809548, .int .u64 18446744073709551615, .int .u64 18446744073709551615, .int .u64 4611686018427387903]) := Lib.hid (by rw [hq]; exact fv_eQ)
  have FR := Lib.hid fr
  obtain ⟨x0, x1, x2, x3, fx⟩ := words_fv x hx
  have FX := Lib.hid fx
  rw [fx, hS]
  clear fx hx hp h1 he hq hr hm hn hg lq lr lm ln hb ho hS a0 a1 a2 a3 er fr
  go_enter Try.func12, Try.ntmps12
  go_wp2_with fail
  refine (cP _).mono ?_
  rintro z w1 ⟨rfl, k1⟩
  have BX := Gr.blk k1 ((Blk.new w _ _).alloc _)
  have BR := Gr.blk k1 (blk_new2 w _ _ _)
  have hB := Below.gr (below_alloc2 w _ _) k1
  have sz1 : w.heap.size + 1 < w1.heap.size := BR.lt
  clear k1 cP
  go_wp2_with (first | ((with_reducible refine here_store ?_); refine wpList_store_blk rfl _ _ _ rfl (w1.heap.size) #[.int .u64 18446744069414583343, .int .u64 18446744073709551615, .int .u64 18446744073709551615, .int .u64 18446744073709551615, .int .u64 4294968273, .int .u64 0, .int .u64 0] rfl rfl _ _ (Blk.new w1 _ _) (by kernel_rfl) (by rfl) (by simp [Value.oneCell']) ?_; intro w2 hL2 hq2 hK2; have BX2 := hK2 _ (by omega) _ _ (BX.alloc _); have BR2 := hK2 _ (by omega) _ _ (BR.alloc _); have hB2 := (hB.alloc (by omega) _).trans (hq2 _ (by omega))))
  refine wp_region_G (fun j => j == 5) (by kernel_rfl) ?_
  try simp only [Act.put]
  refine wpAnyG_take 0 rfl (by kernel_rfl) (fun _ _ _ h => h) (YieldsG.pure (by rfl) (fun w9 _ => by go_simp; try with_reducible rfl)) ?_
  try simp only [Act.put, List.setIfInBounds_toArray, List.set_cons_zero, List.set_cons_succ]
  refine wpAnyG_take 1 rfl (by kernel_rfl) (fun _ _ _ h => h) (YieldsG.loadP (by rfl) _ _ rfl w1.heap.size rfl p _ (Blk.lt hL2) (mod_range hL2) FP.out Try.underlying27 rfl (by kernel_rfl)) ?_
  try simp only [Act.put, List.setIfInBounds_toArray, List.set_cons_zero, List.set_cons_succ]
  refine wpAnyG_take 2 rfl (by kernel_rfl) (fun _ _ _ h => h) (YieldsG.call (v := fv one) (by rfl) 49 _ (fun w9 => by go_simp; try (first | with_reducible rfl | rfl)) (fun w9 h9 => c1 w9)) ?_
  try simp only [Act.put, List.setIfInBounds_toArray, List.set_cons_zero, List.set_cons_succ]
  refine wpAnyG_take 3 rfl (by kernel_rfl) (fun _ _ _ h => h) (YieldsG.call (v := fv e) (by rfl) 48 _ (fun w9 => by go_simp; try (first | with_reducible rfl | rfl)) (fun w9 h9 => cA w9)) ?_
  try simp only [Act.put, List.setIfInBounds_toArray, List.set_cons_zero, List.set_cons_succ]
  refine wpAnyG_sole 4 rfl (by kernel_rfl) (by rfl) (fun w4 h4 K hK => ?_)
  go_simp
  refine hK _ _ (fun _ => gr_alloc _ _) ?_
  clear hK K
  try simp only [Act.put, List.setIfInBounds_toArray, List.set_cons_zero, List.set_cons_succ]
  refine wpAnyG_store 5 rfl (by kernel_rfl) (by rfl) _ _ _ rfl (w4.heap.size) (fcs (e)) rfl rfl _ _ (Blk.new w4 _ _) (by kernel_rfl) (by rfl) (fcs_one _) rfl (fun w6 h6 w7 hB7 hL7 => ?_)
  try simp only [Act.put]
  refine wpAnyG_done (by kernel_rfl) (fun w8 h8 => ?_)
  have sz4 : w1.heap.size < w4.heap.size := by have := hL2.lt; have := h4.size; omega
  have BM8 : Blk w8 w1.heap.size 39 #[.int .u64 18446744069414583343, .int .u64 18446744073709551615, .int .u64 18446744073709551615, .int .u64 18446744073709551615, .int .u64 4294968273, .int .u64 0, .int .u64 0] := Gr.blk h8 (Blk.below (B := w4.heap.size) (Gr.blk h6 (Blk.alloc (Gr.blk h4 hL2) _)) (hB7 _ (Nat.le_refl _)) (by omega))
  have BX8 := Gr.blk h8 (Blk.below (B := w4.heap.size) (Gr.blk h6 (Blk.alloc (Gr.blk h4 BX2) _)) (hB7 _ (Nat.le_refl _)) (by omega))
  have BR8 := Gr.blk h8 (Blk.below (B := w4.heap.size) (Gr.blk h6 (Blk.alloc (Gr.blk h4 BR2) _)) (hB7 _ (Nat.le_refl _)) (by omega))
  have BE8 : Blk w8 w4.heap.size 27 #[.int .u64 18446744069414583344, .int .u64 18446744073709551615, .int .u64 18446744073709551615, .int .u64 18446744073709551615] := (Gr.blk h8 hL7).eq_ (fcs_words FE.out)
  have hB8 : Below w.heap.size w w8 := Below.gr ((Below.gr ((Below.gr hB2 h4).alloc (by omega) _) h6).trans (hB7 _ (by omega))) h8
  clear h4 h6 hB7 hL7 h8 c1 cA hL2 BX2 BR2 hB2
  go_wp2_with fail
  go_loopw [6, 7] (fun rs i wr => Below w.heap.size w wr ∧ Blk wr w1.heap.size 39 #[.int .u64 18446744069414583343, .int .u64 18446744073709551615, .int .u64 18446744073709551615, .int .u64 18446744073709551615, .int .u64 4294968273, .int .u64 0, .int .u64 0] ∧ Blk wr w.heap.size 27 #[.int .u64 x0, .int .u64 x1, .int .u64 x2, .int .u64 x3] ∧ Blk wr (w.heap.size + 1) 27 #[.int .u64 0, .int .u64 0, .int .u64 0, .int .u64 0] ∧ Hid ((i = .int .i64 3 ∧ rs = .int .u64 0 ∧ Blk wr w4.heap.size 27 #[.int .u64 18446744069414583344, .int .u64 18446744073709551615, .int .u64 18446744073709551615, .int .u64 18446744073709551615]) ∨ (i = .int .i64 2 ∧ rs = .int .u64 3 ∧ Blk wr w4.heap.size 27 #[.int .u64 18446744069414583344, .int .u64 18446744073709551615, .int .u64 18446744073709551615, .int .u64 4611686018427387903]) ∨ (i = .int .i64 1 ∧ rs = .int .u64 3 ∧ Blk wr w4.heap.size 27 #[.int .u64 18446744069414583344, .int .u64 18446744073709551615, .int .u64 18446744073709551615, .int .u64 4611686018427387903]) ∨ (i = .int .i64 0 ∧ rs = .int .u64 3 ∧ Blk wr w4.heap.size 27 #[.int .u64 18446744069414583344, .int .u64 18446744073709551615, .int .u64 18446744073709551615, .int .u64 4611686018427387903]) ∨ (i = .int .i64 (-1) ∧ rs = .int .u64 0 ∧ Blk wr w4.heap.size 27 #[.int .u64 18446744072635809548, .int .u64 18446744073709551615, .int .u64 18446744073709551615, .int .u64 4611686018427387903]))) (fun _ i _ => (intOf i + 1).toNat)
  case atStart => exact ⟨hB8, BM8, BX8, BR8, Lib.hid (.inl ⟨rfl, rfl, BE8⟩)⟩
  case round =>
    clear hB8 BM8 BX8 BR8 BE8
    obtain ⟨hb, BM, BX, BR, HI⟩ := hrel
    rcases HI.out with ⟨rfl, rfl, BE⟩ | ⟨rfl, rfl, BE⟩ | ⟨rfl, rfl, BE⟩ | ⟨rfl, rfl, BE⟩ | ⟨rfl, rfl, BE⟩
    · clear HI
      have pe : wr.cell? ⟨w4.heap.size, 3, none⟩ = some (.int .u64 18446744073709551615) := BE.cell 3
      have pf := BE.frozen 3
      go_wp2
      refine ⟨⟨hb.setCell (by show w.heap.size ≤ w4.heap.size; omega) _, BM.far (by show w1.heap.size ≠ w4.heap.size; omega) _, BX.far (by show w.heap.size ≠ w4.heap.size; omega) _, BR.far (by show w.heap.size + 1 ≠ w4.heap.size; omega) _, Lib.hid (.inr (.inl (⟨rfl, rfl, BE.set_ 3 _⟩)))⟩, by decide⟩
    · clear HI
      have pe : wr.cell? ⟨w4.heap.size, 2, none⟩ = some (.int .u64 18446744073709551615) := BE.cell 2
      have pf := BE.frozen 2
      go_wp2
      refine ⟨⟨hb.setCell (by show w.heap.size ≤ w4.heap.size; omega) _, BM.far (by show w1.heap.size ≠ w4.heap.size; omega) _, BX.far (by show w.heap.size ≠ w4.heap.size; omega) _, BR.far (by show w.heap.size + 1 ≠ w4.heap.size; omega) _, Lib.hid (.inr (.inr (.inl (⟨rfl, rfl, BE.set_ 2 _⟩))))⟩, by decide⟩
    · clear HI
      have pe : wr.cell? ⟨w4.heap.size, 1, none⟩ = some (.int .u64 18446744073709551615) := BE.cell 1
      have pf := BE.frozen 1
      go_wp2
      refine ⟨⟨hb.setCell (by show w.heap.size ≤ w4.heap.size; omega) _, BM.far (by show w1.heap.size ≠ w4.heap.size; omega) _, BX.far (by show w.heap.size ≠ w4.heap.size; omega) _, BR.far (by show w.heap.size + 1 ≠ w4.heap.size; omega) _, Lib.hid (.inr (.inr (.inr (.inl (⟨rfl, rfl, BE.set_ 1 _⟩)))))⟩, by decide⟩
    · clear HI
      have pe : wr.cell? ⟨w4.heap.size, 0, none⟩ = some (.int .u64 18446744069414583344) := BE.cell 0
      have pf := BE.frozen 0
      go_wp2
      refine ⟨⟨hb.setCell (by show w.heap.size ≤ w4.heap.size; omega) _, BM.far (by show w1.heap.size ≠ w4.heap.size; omega) _, BX.far (by show w.heap.size ≠ w4.heap.size; omega) _, BR.far (by show w.heap.size + 1 ≠ w4.heap.size; omega) _, Lib.hid (.inr (.inr (.inr (.inr (⟨rfl, rfl, BE.set_ 0 _⟩)))))⟩, by decide⟩
    · clear HI
      have sl := BE.lt
      go_wp2_with (first | ((with_reducible refine here_load (d := some 31) ?_); refine wpList_load_blk rfl _ _ rfl w1.heap.size rfl _ _ _ (BM) Try.underlying39 rfl (by kernel_rfl) ?_) | ((with_reducible refine here_load (d := some 32) ?_); refine wpList_load_fv rfl _ _ rfl (w.heap.size) rfl (x) _ _ _ (BX) (FX.out) Try.underlying27 rfl (by kernel_rfl) ?_) | ((with_reducible refine here_load (d := some 33) ?_); refine wpList_load_fv rfl _ _ rfl (w4.heap.size) rfl (q) _ _ _ (BE) (FQ.out) Try.underlying27 rfl (by kernel_rfl) ?_))
      refine (cW _).mono ?_
      rintro z w5 ⟨rfl, k1⟩
      have BM := Gr.blk k1 BM
      have BX := Gr.blk k1 BX
      have BR := Gr.blk k1 BR
      have hb := Below.gr hb k1
      have sz5 : w4.heap.size < w5.heap.size := Nat.lt_of_lt_of_le sl k1.size
      clear k1 cW BE
      go_wp2_with (first | ((with_reducible refine here_store ?_); refine wpList_store_blk rfl _ _ _ rfl (w5.heap.size) (fcs (r)) rfl rfl _ _ (Blk.new w5 _ _) (by kernel_rfl) (by rfl) (fcs_one _) ?_; intro w6 hL6 hq6 hK6; have BM6 := hK6 _ (by omega) _ _ (BM.alloc _); have BX6 := hK6 _ (by omega) _ _ (BX.alloc _); have BR6 := hK6 _ (by omega) _ _ (BR.alloc _); have hB6 := (hb.alloc (by omega) _).trans (hq6 _ (by omega))))
      refine wp_region_G (fun _ => false) (by kernel_rfl) ?_
      try simp only [Act.put]
      refine wpAnyG_take 0 rfl (by kernel_rfl) (fun _ _ _ h => h) (YieldsG.load (by rfl) _ _ rfl w1.heap.size 0 rfl ([.int .u64 18446744069414583343, .int .u64 18446744073709551615, .int .u64 18446744073709551615, .int .u64 18446744073709551615, .int .u64 4294968273, .int .u64 0, .int .u64 0]) _ (Blk.lt (BM6)) (Blk.range (BM6)) Try.underlying39 rfl (by kernel_rfl)) ?_
      try simp only [Act.put, List.setIfInBounds_toArray, List.set_cons_zero, List.set_cons_succ]
      refine wpAnyG_take 1 rfl (by kernel_rfl) (fun _ _ _ h => h) (YieldsG.loadF (by rfl) _ _ rfl (w5.heap.size) rfl (r) _ _ (hL6) (fv_fcs _) Try.underlying27 rfl (by kernel_rfl)) ?_
      try simp only [Act.put, List.setIfInBounds_toArray, List.set_cons_zero, List.set_cons_succ]
      refine wpAnyG_take 2 rfl (by kernel_rfl) (fun _ _ _ h => h) (YieldsG.loadF (by rfl) _ _ rfl (w5.heap.size) rfl (r) _ _ (hL6) (fv_fcs _) Try.underlying27 rfl (by kernel_rfl)) ?_
      try simp only [Act.put, List.setIfInBounds_toArray, List.set_cons_zero, List.set_cons_succ]
      refine wpAnyG_take 3 rfl (by kernel_rfl) (fun _ _ _ h => h) (YieldsG.call (v := fv m) (by rfl) 33 _ (fun w9 => by go_simp; try (first | with_reducible rfl | rfl)) (fun w9 h9 => cM w9)) ?_
      try simp only [Act.put, List.setIfInBounds_toArray, List.set_cons_zero, List.set_cons_succ]
      refine wpAnyG_take 4 rfl (by kernel_rfl) (fun _ _ _ h => h) (YieldsG.load (by rfl) _ _ rfl w1.heap.size 0 rfl ([.int .u64 18446744069414583343, .int .u64 18446744073709551615, .int .u64 18446744073709551615, .int .u64 18446744073709551615, .int .u64 4294968273, .int .u64 0, .int .u64 0]) _ (Blk.lt (BM6)) (Blk.range (BM6)) Try.underlying39 rfl (by kernel_rfl)) ?_
      try simp only [Act.put, List.setIfInBounds_toArray, List.set_cons_zero, List.set_cons_succ]
      refine wpAnyG_take 5 rfl (by kernel_rfl) (fun _ _ _ h => h) (YieldsG.loadF (by rfl) _ _ rfl (w.heap.size) rfl (x) _ _ (BX6) (FX.out) Try.underlying27 rfl (by kernel_rfl)) ?_
      try simp only [Act.put, List.setIfInBounds_toArray, List.set_cons_zero, List.set_cons_succ]
      refine wpAnyG_take 6 rfl (by kernel_rfl) (fun _ _ _ h => h) (YieldsG.call (v := fv n) (by rfl) 24 _ (fun w9 => by go_simp; try (first | with_reducible rfl | rfl)) (fun w9 h9 => cN w9)) ?_
      try simp only [Act.put, List.setIfInBounds_toArray, List.set_cons_zero, List.set_cons_succ]
      refine wpAnyG_take 7 rfl (by kernel_rfl) (fun _ _ _ h => h) (YieldsG.pure (v := .bool b) (by rfl) (fun w9 h9 => by go_simp; rw [Nm.run_eqGuard_fv]; simp only [Result.andThen_ok])) ?_
      try simp only [Act.put, List.setIfInBounds_toArray, List.set_cons_zero, List.set_cons_succ]
      refine wpAnyG_done (by kernel_rfl) (fun u hu => ?_)
      have BM := Gr.blk hu BM6
      have BR := Gr.blk hu BR6
      have BRT := Gr.blk hu hL6
      have hb := Below.gr hB6 hu
      have BW : Blk u w5.heap.size 27 #[.int .u64 (r0 : Int), .int .u64 (r1 : Int), .int .u64 (r2 : Int), .int .u64 (r3 : Int)] := BRT.eq_ (fcs_words FR.out)
      have pc : u.cell? ⟨w5.heap.size, 0, none⟩ = some (.int .u64 (r0 : Int)) := BW.cell 0
      clear hu BM6 BX6 BR6 hL6 hB6 BX eb cM cN BW
      cases b
      · cases o
        · go_wp2_with (first | ((with_reducible refine here_load (d := some 51) ?_); refine wpList_load_fv rfl _ _ rfl (w5.heap.size) rfl (r) _ _ _ (BRT) (fv_fcs _) Try.underlying27 rfl (by kernel_rfl) ?_) | ((with_reducible refine here_store ?_); refine wpList_store_blk rfl _ _ _ rfl (w.heap.size + 1) (fcs (r)) rfl rfl _ _ (BR) (by kernel_rfl) (by rfl) (fcs_one _) ?_; intro w9 hL9 hB9 hK9))
          exact bodyPost_ret (res_cell_tmp rfl _ _ (w.heap.size + 1) _ _ _ _ rfl hL9 rfl Try.underlying27 rfl (by kernel_rfl)) rfl ⟨rfl, hb.trans (hB9 _ (by omega))⟩
        · go_wp2_with (first | ((with_reducible refine here_load (d := some 48) ?_); refine wpList_load_blk rfl _ _ rfl w1.heap.size rfl _ _ _ (BM) Try.underlying39 rfl (by kernel_rfl) ?_) | ((with_reducible refine here_load (d := some 49) ?_); refine wpList_load_fv rfl _ _ rfl (w5.heap.size) rfl (r) _ _ _ (BRT) (fv_fcs _) Try.underlying27 rfl (by kernel_rfl) ?_))
          refine (cG _).mono ?_
          rintro z w6 ⟨rfl, k1⟩
          have BR := Gr.blk k1 BR
          have hb := Below.gr hb k1
          clear k1 cG
          go_wp2_with (first | ((with_reducible refine here_store ?_); refine wpList_store_blk rfl _ _ _ rfl (w.heap.size + 1) (fcs (g)) rfl rfl _ _ (BR) (by kernel_rfl) (by rfl) (fcs_one _) ?_; intro w9 hL9 hB9 hK9))
          exact bodyPost_ret (res_cell_tmp rfl _ _ (w.heap.size + 1) _ _ _ _ rfl hL9 rfl Try.underlying27 rfl (by kernel_rfl)) rfl ⟨rfl, hb.trans (hB9 _ (by omega))⟩
      · go_wp2_with (first | ((with_reducible refine here_store ?_); refine wpList_store_blk rfl _ _ _ rfl (w.heap.size + 1) _ rfl rfl _ _ (BR) (by kernel_rfl) (by rfl) (by simp [Value.oneCell']) ?_; intro w9 hL9 hB9 hK9))
        exact bodyPost_ret (res_cell_tmp rfl _ _ (w.heap.size + 1) _ _ _ _ rfl hL9 rfl Try.underlying27 rfl (by kernel_rfl)) rfl ⟨rfl, hb.trans (hB9 _ (by omega))⟩
end Go.Proofs.Ytajjjdmjlloifaa
