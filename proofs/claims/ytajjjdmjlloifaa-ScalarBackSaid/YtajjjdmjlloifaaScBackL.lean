/-
  The law on numbers and bytes, back and forth, walked.
-/
import Derived.Test.YtajjjdmjlloifaaScB32
import Derived.Test.YtajjjdmjlloifaaScAlive
namespace Go.Proofs.Ytajjjdmjlloifaa.Sc
open Go.RowKit Go.Lib

theorem read_bytes (z : Nat) (hz : z < pM) : readS (bytesS z) = (z, true) := by
  have hl : z < 115792089237316195423570985008687907853269984665640564039457584007913129639936 := by rw [pM_eq] at hz; omega
  unfold readS
  rw [valB_bytesS z hl, if_pos hz]

set_option maxHeartbeats 4000000 in
set_option maxRecDepth 100000 in
theorem law_back (w : World) (a : Nat) (l : List UInt8) (ha : a < 115792089237316195423570985008687907853269984665640564039457584007913129639936) (hl : l.length = 32) : Calls Try.prog 9 #[fv a, .agg (l.map bv).toArray] w fun e w' => e = .returned (.bool true) ∧ Below w.heap.size w w' := by
  obtain ⟨n, hn⟩ : ∃ n, n = a % pM := ⟨_, rfl⟩
  have ln : n < 115792089237316195423570985008687907853269984665640564039457584007913129639936 := by rw [hn]; exact mod_lt a
  obtain ⟨d, hd⟩ : ∃ d, d = bytesS n := ⟨_, rfl⟩
  have ld : d.length = 32 := by rw [hd]; exact bytesS_length n
  have c1 : ∀ w, Calls Try.prog 38 #[fv a] w fun e w' => e = .returned (.agg (d.map bv).toArray) ∧ Below w.heap.size w w' := by
    intro w; rw [hd, hn]; exact bytes_any w a ha
  have c2 : ∀ w, Calls Try.prog 42 #[.agg (d.map bv).toArray] w fun e w' => e = .returned (.tuple #[fv n, .bool true]) ∧ Below w.heap.size w w' := by
    intro w
    have h := read_any w d ld
    rw [hd, read_bytes n (by rw [hn]; exact mod_lt_p a), ← hd] at h
    exact h
  have cn : ∀ w, Calls Try.prog 22 #[fv a] w fun e w' => e = .returned (fv n) ∧ Below w.heap.size w w' := by
    intro w; rw [hn]; exact norm_any w a ha
  have en : ∀ W, (binOp .eql 36 (fv n) (fv n)).run Try.prog W = .ok (.bool true) W := fun W => by rw [run_eql_fv W n n ln ln]; simp
  obtain ⟨y, b, hS⟩ : ∃ y b, readS l = (y, b) := ⟨_, _, rfl⟩
  have c3 : ∀ w, Calls Try.prog 42 #[.agg (l.map bv).toArray] w fun e w' => e = .returned (.tuple #[fv y, .bool b]) ∧ Below w.heap.size w w' := by
    intro w
    have h := read_any w l hl
    rw [hS] at h
    exact h
  have c4 : b = true → ∀ w, Calls Try.prog 38 #[fv y] w fun e w' => e = .returned (.agg (l.map bv).toArray) ∧ Below w.heap.size w w' := by
    intro hb w
    unfold readS at hS
    by_cases h : valB l < pM
    · rw [if_pos h] at hS
      injection hS with hy _
      have hc := bytes_any w y (by rw [← hy]; exact valB_lt32 l hl)
      rw [Nat.mod_eq_of_lt (by rw [← hy]; exact h)] at hc
      rw [← hy, bytesS_valB l hl] at hc
      rw [← hy]
      exact hc
    · rw [if_neg h] at hS
      injection hS with _ hb2
      rw [hb] at hb2
      cases hb2
  have hyl : y < 115792089237316195423570985008687907853269984665640564039457584007913129639936 := by
    unfold readS at hS
    by_cases h : valB l < pM
    · rw [if_pos h] at hS
      injection hS with hy _
      rw [← hy]; exact valB_lt32 l hl
    · rw [if_neg h] at hS
      injection hS with hy _
      omega
  have c5 : b = true → ∀ w, Calls Try.prog 43 #[.agg (l.map bv).toArray] w fun e w' => e = .returned (fv y) ∧ Below w.heap.size w w' := by
    intro hb w
    unfold readS at hS
    by_cases h : valB l < pM
    · rw [if_pos h] at hS
      injection hS with hy _
      have hc := reduceB_any w l hl
      rw [Nat.mod_eq_of_lt h, hy] at hc
      exact hc
    · rw [if_neg h] at hS
      injection hS with _ hb2
      rw [hb] at hb2
      cases hb2
  have ey : ∀ W, (binOp .eql 36 (fv y) (fv y)).run Try.prog W = .ok (.bool true) W := fun W => by rw [run_eql_fv W y y hyl hyl]; simp
  clear hyl
  have eb := fun W => run_eql_b32 W l hl
  have HL := Lib.hid hl
  have li := b32_info hl
  obtain ⟨a0, a1, a2, a3, fa⟩ := words_fv a ha
  have FA := Lib.hid fa
  rw [fa]
  have LI := Lib.hid li
  clear fa ha hl hn ln hd ld hS li
  go_enter Try.func9, Try.ntmps9
  go_wp2_with (first | ((with_reducible refine here_load (d := some 10) ?_); refine wpList_load_fv rfl _ _ rfl (w.heap.size) rfl (a) _ _ _ ((Blk.new w _ _).alloc _) (FA.out) Try.underlying36 rfl (by kernel_rfl) ?_))
  refine (c1 _).mono ?_
  rintro e w1 ⟨rfl, k1⟩
  go_wp2_with fail
  refine (c2 _).mono ?_
  rintro e w2 ⟨rfl, k2⟩
  have A2 : Blk w2 w.heap.size 36 _ := Gr.blk k2 (Gr.blk k1 ((Blk.new w _ _).alloc _))
  have B2 : Blk w2 (w.heap.size + 1) 53 _ := Gr.blk k2 (Gr.blk k1 (blk_new2 w _ _ _))
  have hB2 := Below.gr (Below.gr (below_alloc2 w _ _) k1) k2
  have s2 := B2.lt
  clear k1 k2 c1 c2
  go_wp2_with (first | ((with_reducible refine here_store ?_); refine wpList_store_blk rfl _ _ _ rfl (w2.heap.size) (fcs (n)) rfl rfl _ _ (Blk.new w2 _ _) (by kernel_rfl) (by rfl) (fcs_one _) ?_; intro w3 hL3 hq3 hK3; have A3 := hK3 _ (by omega) _ _ (A2.alloc _); have B3 := hK3 _ (by omega) _ _ (B2.alloc _); have hb3 := (hB2.alloc (by omega) _).trans (hq3 _ (by omega))) | ((with_reducible refine here_load (d := some 16) ?_); refine wpList_load_blk rfl _ _ rfl (w.heap.size + 1) rfl _ _ _ B3 Try.underlying53 rfl LI.out ?_))
  refine (c3 _).mono ?_
  rintro e w4 ⟨rfl, k4⟩
  have A4 := Gr.blk k4 A3
  have B4 := Gr.blk k4 B3
  have N4 := Gr.blk k4 hL3
  have hB4 := Below.gr hb3 k4
  have s4 := N4.lt
  clear k4 c3
  go_wp2_with (first | ((with_reducible refine here_store ?_); refine wpList_store_blk rfl _ _ _ rfl (w4.heap.size) (fcs (y)) rfl rfl _ _ (Blk.new w4 _ _) (by kernel_rfl) (by rfl) (fcs_one _) ?_; intro w5 Y5 hq5 hK5; have A5 := hK5 _ (by omega) _ _ (A4.alloc _); have B5 := hK5 _ (by omega) _ _ (B4.alloc _); have N5 := hK5 _ (by omega) _ _ (N4.alloc _); have hb5 := (hB4.alloc (by omega) _).trans (hq5 _ (by omega))))
  cases b
  · clear c4 c5 ey
    refine wp_region_G (fun _ => false) (by kernel_rfl) ?_
    try simp only [Act.put]
    refine wpAnyG_take 0 rfl (by kernel_rfl) (fun _ _ _ h => h) (YieldsG.call (v := .bool true) (by rfl) 31 _ (fun w9 => by go_simp; try (first | with_reducible rfl | rfl)) (fun w9 h9 => alive4_any w9)) ?_
    try simp only [Act.put, List.setIfInBounds_toArray, List.set_cons_zero, List.set_cons_succ]
    refine wpAnyG_take 1 rfl (by kernel_rfl) (fun _ _ _ h => h) (YieldsG.pure (by rfl) (fun w9 _ => by go_simp; try with_reducible rfl)) ?_
    try simp only [Act.put, List.setIfInBounds_toArray, List.set_cons_zero, List.set_cons_succ]
    refine wpAnyG_take 2 rfl (by kernel_rfl) (fun _ _ _ h => h) (YieldsG.pure (by rfl) (fun w9 _ => by go_simp; try with_reducible rfl)) ?_
    try simp only [Act.put, List.setIfInBounds_toArray, List.set_cons_zero, List.set_cons_succ]
    refine wpAnyG_take 3 rfl (by kernel_rfl) (fun _ _ _ h => h) (YieldsG.pure (by rfl) (fun w9 _ => by go_simp; try with_reducible rfl)) ?_
    try simp only [Act.put, List.setIfInBounds_toArray, List.set_cons_zero, List.set_cons_succ]
    refine wpAnyG_take 4 rfl (by kernel_rfl) (fun _ _ _ h => h) (YieldsG.pure (by rfl) (fun w9 _ => by go_simp; try with_reducible rfl)) ?_
    try simp only [Act.put, List.setIfInBounds_toArray, List.set_cons_zero, List.set_cons_succ]
    refine wpAnyG_take 5 rfl (by kernel_rfl) (fun _ _ _ h => h) (YieldsG.loadF (by rfl) _ _ rfl (w2.heap.size) rfl (n) _ _ (N5) (fv_fcs _) Try.underlying36 rfl (by kernel_rfl)) ?_
    try simp only [Act.put, List.setIfInBounds_toArray, List.set_cons_zero, List.set_cons_succ]
    refine wpAnyG_take 6 rfl (by kernel_rfl) (fun _ _ _ h => h) (YieldsG.loadF (by rfl) _ _ rfl (w.heap.size) rfl (a) _ _ (A5) (FA.out) Try.underlying36 rfl (by kernel_rfl)) ?_
    try simp only [Act.put, List.setIfInBounds_toArray, List.set_cons_zero, List.set_cons_succ]
    refine wpAnyG_take 7 rfl (by kernel_rfl) (fun _ _ _ h => h) (YieldsG.call (v := fv n) (by rfl) 22 _ (fun w9 => by go_simp; try (first | with_reducible rfl | rfl)) (fun w9 h9 => cn w9)) ?_
    try simp only [Act.put, List.setIfInBounds_toArray, List.set_cons_zero, List.set_cons_succ]
    refine wpAnyG_take 8 rfl (by kernel_rfl) (fun _ _ _ h => h) (YieldsG.pure (v := .bool true) (by rfl) (fun w9 h9 => by go_simp; rw [run_eqGuard_fv]; simp only [Result.andThen_ok])) ?_
    try simp only [Act.put, List.setIfInBounds_toArray, List.set_cons_zero, List.set_cons_succ]
    refine wpAnyG_take 9 rfl (by kernel_rfl) (fun _ _ _ h => h) (YieldsG.pure (by rfl) (fun w9 _ => by go_simp; try with_reducible rfl)) ?_
    try simp only [Act.put, List.setIfInBounds_toArray, List.set_cons_zero, List.set_cons_succ]
    refine wpAnyG_take 10 rfl (by kernel_rfl) (fun _ _ _ h => h) (YieldsG.pure (by rfl) (fun w9 _ => by go_simp; try with_reducible rfl)) ?_
    try simp only [Act.put, List.setIfInBounds_toArray, List.set_cons_zero, List.set_cons_succ]
    refine wpAnyG_take 11 rfl (by kernel_rfl) (fun _ _ _ h => h) (YieldsG.pure (by rfl) (fun w9 _ => by go_simp; try with_reducible rfl)) ?_
    try simp only [Act.put, List.setIfInBounds_toArray, List.set_cons_zero, List.set_cons_succ]
    refine wpAnyG_take 12 rfl (by kernel_rfl) (fun _ _ _ h => h) (YieldsG.pure (by rfl) (fun w9 _ => by go_simp; try with_reducible rfl)) ?_
    try simp only [Act.put, List.setIfInBounds_toArray, List.set_cons_zero, List.set_cons_succ]
    refine wpAnyG_take 13 rfl (by kernel_rfl) (fun _ _ _ h => h) (YieldsG.pure (by rfl) (fun w9 _ => by go_simp; try with_reducible rfl)) ?_
    try simp only [Act.put, List.setIfInBounds_toArray, List.set_cons_zero, List.set_cons_succ]
    refine wpAnyG_take 14 rfl (by kernel_rfl) (fun _ _ _ h => h) (YieldsG.skip (by rfl)) ?_
    try simp only [Act.put, List.setIfInBounds_toArray, List.set_cons_zero, List.set_cons_succ]
    refine wpAnyG_take 15 rfl (by kernel_rfl) (fun _ _ _ h => h) (YieldsG.skip (by rfl)) ?_
    try simp only [Act.put, List.setIfInBounds_toArray, List.set_cons_zero, List.set_cons_succ]
    refine wpAnyG_take 16 rfl (by kernel_rfl) (fun _ _ _ h => h) (YieldsG.skip (by rfl)) ?_
    try simp only [Act.put, List.setIfInBounds_toArray, List.set_cons_zero, List.set_cons_succ]
    refine wpAnyG_take 17 rfl (by kernel_rfl) (fun _ _ _ h => h) (YieldsG.skip (by rfl)) ?_
    try simp only [Act.put, List.setIfInBounds_toArray, List.set_cons_zero, List.set_cons_succ]
    refine wpAnyG_take 18 rfl (by kernel_rfl) (fun _ _ _ h => h) (YieldsG.skip (by rfl)) ?_
    try simp only [Act.put, List.setIfInBounds_toArray, List.set_cons_zero, List.set_cons_succ]
    refine wpAnyG_take 19 rfl (by kernel_rfl) (fun _ _ _ h => h) (YieldsG.skip (by rfl)) ?_
    try simp only [Act.put, List.setIfInBounds_toArray, List.set_cons_zero, List.set_cons_succ]
    refine wpAnyG_take 20 rfl (by kernel_rfl) (fun _ _ _ h => h) (YieldsG.skip (by rfl)) ?_
    try simp only [Act.put, List.setIfInBounds_toArray, List.set_cons_zero, List.set_cons_succ]
    refine wpAnyG_take 21 rfl (by kernel_rfl) (fun _ _ _ h => h) (YieldsG.skip (by rfl)) ?_
    try simp only [Act.put, List.setIfInBounds_toArray, List.set_cons_zero, List.set_cons_succ]
    refine wpAnyG_take 22 rfl (by kernel_rfl) (fun _ _ _ h => h) (YieldsG.skip (by rfl)) ?_
    try simp only [Act.put, List.setIfInBounds_toArray, List.set_cons_zero, List.set_cons_succ]
    refine wpAnyG_take 23 rfl (by kernel_rfl) (fun _ _ _ h => h) (YieldsG.skip (by rfl)) ?_
    try simp only [Act.put, List.setIfInBounds_toArray, List.set_cons_zero, List.set_cons_succ]
    refine wpAnyG_take 24 rfl (by kernel_rfl) (fun _ _ _ h => h) (YieldsG.pure (by rfl) (fun w9 _ => by go_simp; try with_reducible rfl)) ?_
    try simp only [Act.put, List.setIfInBounds_toArray, List.set_cons_zero, List.set_cons_succ]
    refine wpAnyG_take 25 rfl (by kernel_rfl) (fun _ _ _ h => h) (YieldsG.pure (by rfl) (fun w9 _ => by go_simp; try with_reducible rfl)) ?_
    try simp only [Act.put, List.setIfInBounds_toArray, List.set_cons_zero, List.set_cons_succ]
    refine wpAnyG_takeA 26 rfl (by kernel_rfl) (fun _ _ _ h => h) (fun _ => YieldsG.pure (by rfl) (fun w9 _ => by go_simp; try with_reducible rfl)) ?_
    try simp only [Act.put, List.setIfInBounds_toArray, List.set_cons_zero, List.set_cons_succ]
    refine wpAnyG_done (by kernel_rfl) (fun u hu => ?_)
    have hbu := Below.gr hb5 hu
    go_wp2
    go_ret
    exact ⟨rfl, hbu⟩
  · have c4 := c4 rfl
    have c5 := c5 rfl
    refine wp_region_G (fun _ => false) (by kernel_rfl) ?_
    try simp only [Act.put]
    refine wpAnyG_take 0 rfl (by kernel_rfl) (fun _ _ _ h => h) (YieldsG.call (v := .bool true) (by rfl) 31 _ (fun w9 => by go_simp; try (first | with_reducible rfl | rfl)) (fun w9 h9 => alive4_any w9)) ?_
    try simp only [Act.put, List.setIfInBounds_toArray, List.set_cons_zero, List.set_cons_succ]
    refine wpAnyG_take 1 rfl (by kernel_rfl) (fun _ _ _ h => h) (YieldsG.pure (by rfl) (fun w9 _ => by go_simp; try with_reducible rfl)) ?_
    try simp only [Act.put, List.setIfInBounds_toArray, List.set_cons_zero, List.set_cons_succ]
    refine wpAnyG_take 2 rfl (by kernel_rfl) (fun _ _ _ h => h) (YieldsG.pure (by rfl) (fun w9 _ => by go_simp; try with_reducible rfl)) ?_
    try simp only [Act.put, List.setIfInBounds_toArray, List.set_cons_zero, List.set_cons_succ]
    refine wpAnyG_take 3 rfl (by kernel_rfl) (fun _ _ _ h => h) (YieldsG.pure (by rfl) (fun w9 _ => by go_simp; try with_reducible rfl)) ?_
    try simp only [Act.put, List.setIfInBounds_toArray, List.set_cons_zero, List.set_cons_succ]
    refine wpAnyG_take 4 rfl (by kernel_rfl) (fun _ _ _ h => h) (YieldsG.pure (by rfl) (fun w9 _ => by go_simp; try with_reducible rfl)) ?_
    try simp only [Act.put, List.setIfInBounds_toArray, List.set_cons_zero, List.set_cons_succ]
    refine wpAnyG_take 5 rfl (by kernel_rfl) (fun _ _ _ h => h) (YieldsG.loadF (by rfl) _ _ rfl (w2.heap.size) rfl (n) _ _ (N5) (fv_fcs _) Try.underlying36 rfl (by kernel_rfl)) ?_
    try simp only [Act.put, List.setIfInBounds_toArray, List.set_cons_zero, List.set_cons_succ]
    refine wpAnyG_take 6 rfl (by kernel_rfl) (fun _ _ _ h => h) (YieldsG.loadF (by rfl) _ _ rfl (w.heap.size) rfl (a) _ _ (A5) (FA.out) Try.underlying36 rfl (by kernel_rfl)) ?_
    try simp only [Act.put, List.setIfInBounds_toArray, List.set_cons_zero, List.set_cons_succ]
    refine wpAnyG_take 7 rfl (by kernel_rfl) (fun _ _ _ h => h) (YieldsG.call (v := fv n) (by rfl) 22 _ (fun w9 => by go_simp; try (first | with_reducible rfl | rfl)) (fun w9 h9 => cn w9)) ?_
    try simp only [Act.put, List.setIfInBounds_toArray, List.set_cons_zero, List.set_cons_succ]
    refine wpAnyG_take 8 rfl (by kernel_rfl) (fun _ _ _ h => h) (YieldsG.pure (v := .bool true) (by rfl) (fun w9 h9 => by go_simp; rw [run_eqGuard_fv]; simp only [Result.andThen_ok])) ?_
    try simp only [Act.put, List.setIfInBounds_toArray, List.set_cons_zero, List.set_cons_succ]
    refine wpAnyG_take 9 rfl (by kernel_rfl) (fun _ _ _ h => h) (YieldsG.pure (by rfl) (fun w9 _ => by go_simp; try with_reducible rfl)) ?_
    try simp only [Act.put, List.setIfInBounds_toArray, List.set_cons_zero, List.set_cons_succ]
    refine wpAnyG_take 10 rfl (by kernel_rfl) (fun _ _ _ h => h) (YieldsG.pure (by rfl) (fun w9 _ => by go_simp; try with_reducible rfl)) ?_
    try simp only [Act.put, List.setIfInBounds_toArray, List.set_cons_zero, List.set_cons_succ]
    refine wpAnyG_take 11 rfl (by kernel_rfl) (fun _ _ _ h => h) (YieldsG.pure (by rfl) (fun w9 _ => by go_simp; try with_reducible rfl)) ?_
    try simp only [Act.put, List.setIfInBounds_toArray, List.set_cons_zero, List.set_cons_succ]
    refine wpAnyG_take 12 rfl (by kernel_rfl) (fun _ _ _ h => h) (YieldsG.pure (by rfl) (fun w9 _ => by go_simp; try with_reducible rfl)) ?_
    try simp only [Act.put, List.setIfInBounds_toArray, List.set_cons_zero, List.set_cons_succ]
    refine wpAnyG_take 13 rfl (by kernel_rfl) (fun _ _ _ h => h) (YieldsG.pure (by rfl) (fun w9 _ => by go_simp; try with_reducible rfl)) ?_
    try simp only [Act.put, List.setIfInBounds_toArray, List.set_cons_zero, List.set_cons_succ]
    refine wpAnyG_take 14 rfl (by kernel_rfl) (fun _ _ _ h => h) (YieldsG.loadF (by rfl) _ _ rfl (w4.heap.size) rfl (y) _ _ (Y5) (fv_fcs _) Try.underlying36 rfl (by kernel_rfl)) ?_
    try simp only [Act.put, List.setIfInBounds_toArray, List.set_cons_zero, List.set_cons_succ]
    refine wpAnyG_take 15 rfl (by kernel_rfl) (fun _ _ _ h => h) (YieldsG.call (v := .agg (l.map bv).toArray) (by rfl) 38 _ (fun w9 => by go_simp; try (first | with_reducible rfl | rfl)) (fun w9 h9 => c4 w9)) ?_
    try simp only [Act.put, List.setIfInBounds_toArray, List.set_cons_zero, List.set_cons_succ]
    refine wpAnyG_take 16 rfl (by kernel_rfl) (fun _ _ _ h => h) (YieldsG.load (by rfl) _ _ rfl (w.heap.size + 1) 0 rfl (l.map bv) _ B5.lt B5.range Try.underlying53 rfl LI.out) ?_
    try simp only [Act.put, List.setIfInBounds_toArray, List.set_cons_zero, List.set_cons_succ]
    refine wpAnyG_take 17 rfl (by kernel_rfl) (fun _ _ _ h => h) (YieldsG.pure (v := .bool true) (by rfl) (fun w9 h9 => by go_simp; try rw [eqGuard_b32]; try simp only [Result.andThen_ok, eb])) ?_
    try simp only [Act.put, List.setIfInBounds_toArray, List.set_cons_zero, List.set_cons_succ]
    refine wpAnyG_take 18 rfl (by kernel_rfl) (fun _ _ _ h => h) (YieldsG.pure (by rfl) (fun w9 _ => by go_simp; try with_reducible rfl)) ?_
    try simp only [Act.put, List.setIfInBounds_toArray, List.set_cons_zero, List.set_cons_succ]
    refine wpAnyG_take 19 rfl (by kernel_rfl) (fun _ _ _ h => h) (YieldsG.load (by rfl) _ _ rfl (w.heap.size + 1) 0 rfl (l.map bv) _ B5.lt B5.range Try.underlying53 rfl LI.out) ?_
    try simp only [Act.put, List.setIfInBounds_toArray, List.set_cons_zero, List.set_cons_succ]
    refine wpAnyG_take 20 rfl (by kernel_rfl) (fun _ _ _ h => h) (YieldsG.call (v := fv y) (by rfl) 43 _ (fun w9 => by go_simp; try (first | with_reducible rfl | rfl)) (fun w9 h9 => c5 w9)) ?_
    try simp only [Act.put, List.setIfInBounds_toArray, List.set_cons_zero, List.set_cons_succ]
    refine wpAnyG_take 21 rfl (by kernel_rfl) (fun _ _ _ h => h) (YieldsG.loadF (by rfl) _ _ rfl (w4.heap.size) rfl (y) _ _ (Y5) (fv_fcs _) Try.underlying36 rfl (by kernel_rfl)) ?_
    try simp only [Act.put, List.setIfInBounds_toArray, List.set_cons_zero, List.set_cons_succ]
    refine wpAnyG_take 22 rfl (by kernel_rfl) (fun _ _ _ h => h) (YieldsG.pure (v := .bool true) (by rfl) (fun w9 h9 => by go_simp; rw [run_eqGuard_fv]; simp only [Result.andThen_ok])) ?_
    try simp only [Act.put, List.setIfInBounds_toArray, List.set_cons_zero, List.set_cons_succ]
    refine wpAnyG_take 23 rfl (by kernel_rfl) (fun _ _ _ h => h) (YieldsG.pure (by rfl) (fun w9 _ => by go_simp; try with_reducible rfl)) ?_
    try simp only [Act.put, List.setIfInBounds_toArray, List.set_cons_zero, List.set_cons_succ]
    refine wpAnyG_take 24 rfl (by kernel_rfl) (fun _ _ _ h => h) (YieldsG.pure (by rfl) (fun w9 _ => by go_simp; try with_reducible rfl)) ?_
    try simp only [Act.put, List.setIfInBounds_toArray, List.set_cons_zero, List.set_cons_succ]
    refine wpAnyG_take 25 rfl (by kernel_rfl) (fun _ _ _ h => h) (YieldsG.pure (by rfl) (fun w9 _ => by go_simp; try with_reducible rfl)) ?_
    try simp only [Act.put, List.setIfInBounds_toArray, List.set_cons_zero, List.set_cons_succ]
    refine wpAnyG_takeA 26 rfl (by kernel_rfl) (fun _ _ _ h => h) (fun _ => YieldsG.pure (by rfl) (fun w9 _ => by go_simp; try with_reducible rfl)) ?_
    try simp only [Act.put, List.setIfInBounds_toArray, List.set_cons_zero, List.set_cons_succ]
    refine wpAnyG_done (by kernel_rfl) (fun u hu => ?_)
    have hbu := Below.gr hb5 hu
    go_wp2
    go_ret
    exact ⟨rfl, hbu⟩
end Go.Proofs.Ytajjjdmjlloifaa.Sc
