/-
  The law on sums, walked.
-/
import Derived.Test.YtajjjdmjlloifaaScRefAdd
import Derived.Test.YtajjjdmjlloifaaScAlive
namespace Go.Proofs.Ytajjjdmjlloifaa.Sc
open Go.RowKit Go.Lib

set_option maxHeartbeats 8000000 in
set_option maxRecDepth 100000 in
theorem law_sums (w : World) (a b : Nat) (ha : a < 115792089237316195423570985008687907853269984665640564039457584007913129639936) (hb : b < 115792089237316195423570985008687907853269984665640564039457584007913129639936) : Calls Try.prog 4 #[fv a, fv b] w fun e w' => e = .returned (.bool true) ∧ Below w.heap.size w w' := by
  obtain ⟨n, hn⟩ : ∃ v, v = a % pM := ⟨_, rfl⟩
  have ln : n < 115792089237316195423570985008687907853269984665640564039457584007913129639936 := by rw [hn]; exact mod_lt a
  obtain ⟨ab, hab⟩ : ∃ v, v = addP a b := ⟨_, rfl⟩
  have lab : ab < 115792089237316195423570985008687907853269984665640564039457584007913129639936 := by rw [hab]; exact addP_lt _ _
  obtain ⟨g, hg⟩ : ∃ v, v = negP a := ⟨_, rfl⟩
  have lg : g < 115792089237316195423570985008687907853269984665640564039457584007913129639936 := by rw [hg]; exact negP_lt a
  obtain ⟨d, hd⟩ : ∃ v, v = subP a b := ⟨_, rfl⟩
  have ld : d < 115792089237316195423570985008687907853269984665640564039457584007913129639936 := by rw [hd]; exact subP_lt _ _
  have c0 : ∀ w, Calls Try.prog 22 #[fv a] w fun e w' => e = .returned (fv n) ∧ Below w.heap.size w w' := by
    intro w; rw [hn]; exact norm_any w a ha
  have c1 : ∀ w, Calls Try.prog 24 #[.agg #[.int .u64 13822214165235122497, .int .u64 13451932020343611451, .int .u64 18446744073709551614, .int .u64 18446744073709551615, .int .u64 4624529908474429119, .int .u64 4994812053365940164, .int .u64 1], fv a] w fun e w' => e = .returned (fv n) ∧ Below w.heap.size w w' := by
    intro w; rw [hn]; exact normR_any w a ha
  have c2 : ∀ w, Calls Try.prog 25 #[fv a, fv b] w fun e w' => e = .returned (fv ab) ∧ Below w.heap.size w w' := by
    intro w; rw [hab]; exact addF_any w a b ha hb
  have c3 : ∀ w, Calls Try.prog 26 #[.agg #[.int .u64 13822214165235122497, .int .u64 13451932020343611451, .int .u64 18446744073709551614, .int .u64 18446744073709551615, .int .u64 4624529908474429119, .int .u64 4994812053365940164, .int .u64 1], fv a, fv b] w fun e w' => e = .returned (fv ab) ∧ Below w.heap.size w w' := by
    intro w; rw [hab]; exact addR_any w a b ha hb
  have c4 : ∀ w, Calls Try.prog 27 #[fv a] w fun e w' => e = .returned (fv g) ∧ Below w.heap.size w w' := by
    intro w; rw [hg]; exact negF_any w a ha
  have c5 : ∀ w, Calls Try.prog 28 #[.agg #[.int .u64 13822214165235122497, .int .u64 13451932020343611451, .int .u64 18446744073709551614, .int .u64 18446744073709551615, .int .u64 4624529908474429119, .int .u64 4994812053365940164, .int .u64 1], fv a] w fun e w' => e = .returned (fv g) ∧ Below w.heap.size w w' := by
    intro w; rw [hg]; exact negR_any w a ha
  have c6 : ∀ w, Calls Try.prog 29 #[fv a, fv b] w fun e w' => e = .returned (fv d) ∧ Below w.heap.size w w' := by
    intro w; rw [hd]; exact subF_any w a b ha hb
  have c7 : ∀ w, Calls Try.prog 30 #[.agg #[.int .u64 13822214165235122497, .int .u64 13451932020343611451, .int .u64 18446744073709551614, .int .u64 18446744073709551615, .int .u64 4624529908474429119, .int .u64 4994812053365940164, .int .u64 1], fv a, fv b] w fun e w' => e = .returned (fv d) ∧ Below w.heap.size w w' := by
    intro w; rw [hd]; exact subR_any w a b ha hb
  have c8 : ∀ w, Calls Try.prog 23 #[fv n] w fun e w' => e = .returned (fv n) ∧ Below w.heap.size w w' := by
    intro w; exact refSc_any w n ln
  have c9 : ∀ w, Calls Try.prog 23 #[fv ab] w fun e w' => e = .returned (fv ab) ∧ Below w.heap.size w w' := by
    intro w; exact refSc_any w ab lab
  have c10 : ∀ w, Calls Try.prog 23 #[fv g] w fun e w' => e = .returned (fv g) ∧ Below w.heap.size w w' := by
    intro w; exact refSc_any w g lg
  have c11 : ∀ w, Calls Try.prog 23 #[fv d] w fun e w' => e = .returned (fv d) ∧ Below w.heap.size w w' := by
    intro w; exact refSc_any w d ld
  have en : ∀ W, (binOp .eql 36 (fv n) (fv n)).run Try.prog W = .ok (.bool true) W := fun W => by rw [run_eql_fv W n n ln ln]; simp
  have eab : ∀ W, (binOp .eql 36 (fv ab) (fv ab)).run Try.prog W = .ok (.bool true) W := fun W => by rw [run_eql_fv W ab ab lab lab]; simp
  have eg : ∀ W, (binOp .eql 36 (fv g) (fv g)).run Try.prog W = .ok (.bool true) W := fun W => by rw [run_eql_fv W g g lg lg]; simp
  have ed : ∀ W, (binOp .eql 36 (fv d) (fv d)).run Try.prog W = .ok (.bool true) W := fun W => by rw [run_eql_fv W d d ld ld]; simp
  have cP : ∀ w, Calls Try.prog 20 #[] w fun e w' => e = .returned (.agg #[.int .u64 13822214165235122497, .int .u64 13451932020343611451, .int .u64 18446744073709551614, .int .u64 18446744073709551615, .int .u64 4624529908474429119, .int .u64 4994812053365940164, .int .u64 1]) ∧ Below w.heap.size w w' := refN_any
  have cA := fun w => refOf_any w a ha
  have cB := fun w => refOf_any w b hb
  obtain ⟨a0, a1, a2, a3, fa⟩ := words_fv a ha
  obtain ⟨b0, b1, b2, b3, fb⟩ := words_fv b hb
  have FA := Lib.hid fa
  have FB := Lib.hid fb
  rw [fa, fb]
  clear fa fb ha hb hn hab hg hd ln lab lg ld
  go_enter Try.func4, Try.ntmps4
  go_wp2_with fail
  refine (cP _).mono ?_
  rintro e w1 ⟨rfl, g1⟩
  have Fa : Blk w1 w.heap.size 36 _ := Gr.blk g1 ((Blk.new w _ _).alloc _)
  have Fb : Blk w1 (w.heap.size + 1) 36 _ := Gr.blk g1 (blk_new2 w _ _ _)
  have hB := Below.gr (below_alloc2 w _ _) g1
  have z1 := Fb.lt
  clear g1 cP
  go_wp2_with (first | ((with_reducible refine here_load (d := some 9) ?_); refine wpList_load_fv rfl _ _ rfl (w.heap.size) rfl (a) _ _ _ (Fa.alloc _) (FA.out) Try.underlying36 rfl (by kernel_rfl) ?_))
  refine (cA _).mono ?_
  rintro e w2 ⟨rfl, g2⟩
  have Ga : Blk w2 w.heap.size 36 _ := Gr.blk g2 (Fa.alloc _)
  have Gb : Blk w2 (w.heap.size + 1) 36 _ := Gr.blk g2 (Fb.alloc _)
  have Gm : Blk w2 w1.heap.size 39 #[.int .u64 13822214165235122497, .int .u64 13451932020343611451, .int .u64 18446744073709551614, .int .u64 18446744073709551615, .int .u64 4624529908474429119, .int .u64 4994812053365940164, .int .u64 1] := Gr.blk g2 (Blk.new w1 _ _)
  have hG := Below.gr (hB.alloc (by omega) _) g2
  have z2 := Gm.lt
  clear g2 cA Fa Fb hB
  go_wp2_with (first | ((with_reducible refine here_store ?_); refine wpList_store_blk rfl _ _ _ rfl (w2.heap.size) (fcs (a)) rfl rfl _ _ (Blk.new w2 _ _) (by kernel_rfl) (by rfl) (fcs_one _) ?_; intro w3 Hx hq3 hK3; have Ha := hK3 _ (by omega) _ _ (Ga.alloc _); have Hb := hK3 _ (by omega) _ _ (Gb.alloc _); have Hm := hK3 _ (by omega) _ _ (Gm.alloc _); have hH := (hG.alloc (by omega) _).trans (hq3 _ (by omega))) | ((with_reducible refine here_load (d := some 11) ?_); refine wpList_load_fv rfl _ _ rfl (w.heap.size + 1) rfl (b) _ _ _ (Hb) (FB.out) Try.underlying36 rfl (by kernel_rfl) ?_))
  refine (cB _).mono ?_
  rintro e w4 ⟨rfl, g4⟩
  have Ia : Blk w4 w.heap.size 36 _ := Gr.blk g4 Ha
  have Ib : Blk w4 (w.heap.size + 1) 36 _ := Gr.blk g4 Hb
  have Im : Blk w4 w1.heap.size 39 #[.int .u64 13822214165235122497, .int .u64 13451932020343611451, .int .u64 18446744073709551614, .int .u64 18446744073709551615, .int .u64 4624529908474429119, .int .u64 4994812053365940164, .int .u64 1] := Gr.blk g4 Hm
  have Ix : Blk w4 w2.heap.size 27 _ := Gr.blk g4 Hx
  have hI := Below.gr hH g4
  have z4 := Ix.lt
  clear g4 cB Ha Hb Hm Hx hH
  go_wp2_with (first | ((with_reducible refine here_store ?_); refine wpList_store_blk rfl _ _ _ rfl (w4.heap.size) (fcs (b)) rfl rfl _ _ (Blk.new w4 _ _) (by kernel_rfl) (by rfl) (fcs_one _) ?_; intro w5 Jy hq5 hK5; have Ja := hK5 _ (by omega) _ _ (Ia.alloc _); have Jb := hK5 _ (by omega) _ _ (Ib.alloc _); have Jm := hK5 _ (by omega) _ _ (Im.alloc _); have Jx := hK5 _ (by omega) _ _ (Ix.alloc _); have hJ := (hI.alloc (by omega) _).trans (hq5 _ (by omega))))
  refine wp_region_G (fun _ => false) (by kernel_rfl) ?_
  try simp only [Act.put]
  refine wpAnyG_take 0 rfl (by kernel_rfl) (fun _ _ _ h => h) (YieldsG.loadF (by rfl) _ _ rfl (w.heap.size) rfl (a) _ _ (Ja) (FA.out) Try.underlying36 rfl (by kernel_rfl)) ?_
  try simp only [Act.put, List.setIfInBounds_toArray, List.set_cons_zero, List.set_cons_succ]
  refine wpAnyG_take 1 rfl (by kernel_rfl) (fun _ _ _ h => h) (YieldsG.call (v := fv n) (by rfl) 22 _ (fun w9 => by go_simp; try (first | with_reducible rfl | rfl)) (fun w9 h9 => c0 w9)) ?_
  try simp only [Act.put, List.setIfInBounds_toArray, List.set_cons_zero, List.set_cons_succ]
  refine wpAnyG_take 2 rfl (by kernel_rfl) (fun _ _ _ h => h) (YieldsG.load (by rfl) _ _ rfl w1.heap.size 0 rfl ([.int .u64 13822214165235122497, .int .u64 13451932020343611451, .int .u64 18446744073709551614, .int .u64 18446744073709551615, .int .u64 4624529908474429119, .int .u64 4994812053365940164, .int .u64 1]) _ (Blk.lt (Jm)) (Blk.range (Jm)) Try.underlying39 rfl (by kernel_rfl)) ?_
  try simp only [Act.put, List.setIfInBounds_toArray, List.set_cons_zero, List.set_cons_succ]
  refine wpAnyG_take 3 rfl (by kernel_rfl) (fun _ _ _ h => h) (YieldsG.loadF (by rfl) _ _ rfl (w2.heap.size) rfl (a) _ _ (Jx) (fv_fcs _) Try.underlying27 rfl (by kernel_rfl)) ?_
  try simp only [Act.put, List.setIfInBounds_toArray, List.set_cons_zero, List.set_cons_succ]
  refine wpAnyG_take 4 rfl (by kernel_rfl) (fun _ _ _ h => h) (YieldsG.call (v := fv n) (by rfl) 24 _ (fun w9 => by go_simp; try (first | with_reducible rfl | rfl)) (fun w9 h9 => c1 w9)) ?_
  try simp only [Act.put, List.setIfInBounds_toArray, List.set_cons_zero, List.set_cons_succ]
  refine wpAnyG_take 5 rfl (by kernel_rfl) (fun _ _ _ h => h) (YieldsG.call (v := fv n) (by rfl) 23 _ (fun w9 => by go_simp; try (first | with_reducible rfl | rfl)) (fun w9 h9 => c8 w9)) ?_
  try simp only [Act.put, List.setIfInBounds_toArray, List.set_cons_zero, List.set_cons_succ]
  refine wpAnyG_take 6 rfl (by kernel_rfl) (fun _ _ _ h => h) (YieldsG.pure (v := .bool true) (by rfl) (fun w9 h9 => by go_simp; rw [run_eqGuard_fv]; simp only [Result.andThen_ok])) ?_
  try simp only [Act.put, List.setIfInBounds_toArray, List.set_cons_zero, List.set_cons_succ]
  refine wpAnyG_take 7 rfl (by kernel_rfl) (fun _ _ _ h => h) (YieldsG.pure (by rfl) (fun w9 _ => by go_simp; try with_reducible rfl)) ?_
  try simp only [Act.put, List.setIfInBounds_toArray, List.set_cons_zero, List.set_cons_succ]
  refine wpAnyG_take 8 rfl (by kernel_rfl) (fun _ _ _ h => h) (YieldsG.loadF (by rfl) _ _ rfl (w.heap.size) rfl (a) _ _ (Ja) (FA.out) Try.underlying36 rfl (by kernel_rfl)) ?_
  try simp only [Act.put, List.setIfInBounds_toArray, List.set_cons_zero, List.set_cons_succ]
  refine wpAnyG_take 9 rfl (by kernel_rfl) (fun _ _ _ h => h) (YieldsG.loadF (by rfl) _ _ rfl (w.heap.size + 1) rfl (b) _ _ (Jb) (FB.out) Try.underlying36 rfl (by kernel_rfl)) ?_
  try simp only [Act.put, List.setIfInBounds_toArray, List.set_cons_zero, List.set_cons_succ]
  refine wpAnyG_take 10 rfl (by kernel_rfl) (fun _ _ _ h => h) (YieldsG.call (v := fv ab) (by rfl) 25 _ (fun w9 => by go_simp; try (first | with_reducible rfl | rfl)) (fun w9 h9 => c2 w9)) ?_
  try simp only [Act.put, List.setIfInBounds_toArray, List.set_cons_zero, List.set_cons_succ]
  refine wpAnyG_take 11 rfl (by kernel_rfl) (fun _ _ _ h => h) (YieldsG.load (by rfl) _ _ rfl w1.heap.size 0 rfl ([.int .u64 13822214165235122497, .int .u64 13451932020343611451, .int .u64 18446744073709551614, .int .u64 18446744073709551615, .int .u64 4624529908474429119, .int .u64 4994812053365940164, .int .u64 1]) _ (Blk.lt (Jm)) (Blk.range (Jm)) Try.underlying39 rfl (by kernel_rfl)) ?_
  try simp only [Act.put, List.setIfInBounds_toArray, List.set_cons_zero, List.set_cons_succ]
  refine wpAnyG_take 12 rfl (by kernel_rfl) (fun _ _ _ h => h) (YieldsG.loadF (by rfl) _ _ rfl (w2.heap.size) rfl (a) _ _ (Jx) (fv_fcs _) Try.underlying27 rfl (by kernel_rfl)) ?_
  try simp only [Act.put, List.setIfInBounds_toArray, List.set_cons_zero, List.set_cons_succ]
  refine wpAnyG_take 13 rfl (by kernel_rfl) (fun _ _ _ h => h) (YieldsG.loadF (by rfl) _ _ rfl (w4.heap.size) rfl (b) _ _ (Jy) (fv_fcs _) Try.underlying27 rfl (by kernel_rfl)) ?_
  try simp only [Act.put, List.setIfInBounds_toArray, List.set_cons_zero, List.set_cons_succ]
  refine wpAnyG_take 14 rfl (by kernel_rfl) (fun _ _ _ h => h) (YieldsG.call (v := fv ab) (by rfl) 26 _ (fun w9 => by go_simp; try (first | with_reducible rfl | rfl)) (fun w9 h9 => c3 w9)) ?_
  try simp only [Act.put, List.setIfInBounds_toArray, List.set_cons_zero, List.set_cons_succ]
  refine wpAnyG_take 15 rfl (by kernel_rfl) (fun _ _ _ h => h) (YieldsG.call (v := fv ab) (by rfl) 23 _ (fun w9 => by go_simp; try (first | with_reducible rfl | rfl)) (fun w9 h9 => c9 w9)) ?_
  try simp only [Act.put, List.setIfInBounds_toArray, List.set_cons_zero, List.set_cons_succ]
  refine wpAnyG_take 16 rfl (by kernel_rfl) (fun _ _ _ h => h) (YieldsG.pure (v := .bool true) (by rfl) (fun w9 h9 => by go_simp; rw [run_eqGuard_fv]; simp only [Result.andThen_ok])) ?_
  try simp only [Act.put, List.setIfInBounds_toArray, List.set_cons_zero, List.set_cons_succ]
  refine wpAnyG_take 17 rfl (by kernel_rfl) (fun _ _ _ h => h) (YieldsG.pure (by rfl) (fun w9 _ => by go_simp; try with_reducible rfl)) ?_
  try simp only [Act.put, List.setIfInBounds_toArray, List.set_cons_zero, List.set_cons_succ]
  refine wpAnyG_take 18 rfl (by kernel_rfl) (fun _ _ _ h => h) (YieldsG.pure (by rfl) (fun w9 _ => by go_simp; try with_reducible rfl)) ?_
  try simp only [Act.put, List.setIfInBounds_toArray, List.set_cons_zero, List.set_cons_succ]
  refine wpAnyG_take 19 rfl (by kernel_rfl) (fun _ _ _ h => h) (YieldsG.loadF (by rfl) _ _ rfl (w.heap.size) rfl (a) _ _ (Ja) (FA.out) Try.underlying36 rfl (by kernel_rfl)) ?_
  try simp only [Act.put, List.setIfInBounds_toArray, List.set_cons_zero, List.set_cons_succ]
  refine wpAnyG_take 20 rfl (by kernel_rfl) (fun _ _ _ h => h) (YieldsG.call (v := fv g) (by rfl) 27 _ (fun w9 => by go_simp; try (first | with_reducible rfl | rfl)) (fun w9 h9 => c4 w9)) ?_
  try simp only [Act.put, List.setIfInBounds_toArray, List.set_cons_zero, List.set_cons_succ]
  refine wpAnyG_take 21 rfl (by kernel_rfl) (fun _ _ _ h => h) (YieldsG.load (by rfl) _ _ rfl w1.heap.size 0 rfl ([.int .u64 13822214165235122497, .int .u64 13451932020343611451, .int .u64 18446744073709551614, .int .u64 18446744073709551615, .int .u64 4624529908474429119, .int .u64 4994812053365940164, .int .u64 1]) _ (Blk.lt (Jm)) (Blk.range (Jm)) Try.underlying39 rfl (by kernel_rfl)) ?_
  try simp only [Act.put, List.setIfInBounds_toArray, List.set_cons_zero, List.set_cons_succ]
  refine wpAnyG_take 22 rfl (by kernel_rfl) (fun _ _ _ h => h) (YieldsG.loadF (by rfl) _ _ rfl (w2.heap.size) rfl (a) _ _ (Jx) (fv_fcs _) Try.underlying27 rfl (by kernel_rfl)) ?_
  try simp only [Act.put, List.setIfInBounds_toArray, List.set_cons_zero, List.set_cons_succ]
  refine wpAnyG_take 23 rfl (by kernel_rfl) (fun _ _ _ h => h) (YieldsG.call (v := fv g) (by rfl) 28 _ (fun w9 => by go_simp; try (first | with_reducible rfl | rfl)) (fun w9 h9 => c5 w9)) ?_
  try simp only [Act.put, List.setIfInBounds_toArray, List.set_cons_zero, List.set_cons_succ]
  refine wpAnyG_take 24 rfl (by kernel_rfl) (fun _ _ _ h => h) (YieldsG.call (v := fv g) (by rfl) 23 _ (fun w9 => by go_simp; try (first | with_reducible rfl | rfl)) (fun w9 h9 => c10 w9)) ?_
  try simp only [Act.put, List.setIfInBounds_toArray, List.set_cons_zero, List.set_cons_succ]
  refine wpAnyG_take 25 rfl (by kernel_rfl) (fun _ _ _ h => h) (YieldsG.pure (v := .bool true) (by rfl) (fun w9 h9 => by go_simp; rw [run_eqGuard_fv]; simp only [Result.andThen_ok])) ?_
  try simp only [Act.put, List.setIfInBounds_toArray, List.set_cons_zero, List.set_cons_succ]
  refine wpAnyG_take 26 rfl (by kernel_rfl) (fun _ _ _ h => h) (YieldsG.pure (by rfl) (fun w9 _ => by go_simp; try with_reducible rfl)) ?_
  try simp only [Act.put, List.setIfInBounds_toArray, List.set_cons_zero, List.set_cons_succ]
  refine wpAnyG_take 27 rfl (by kernel_rfl) (fun _ _ _ h => h) (YieldsG.pure (by rfl) (fun w9 _ => by go_simp; try with_reducible rfl)) ?_
  try simp only [Act.put, List.setIfInBounds_toArray, List.set_cons_zero, List.set_cons_succ]
  refine wpAnyG_take 28 rfl (by kernel_rfl) (fun _ _ _ h => h) (YieldsG.loadF (by rfl) _ _ rfl (w.heap.size) rfl (a) _ _ (Ja) (FA.out) Try.underlying36 rfl (by kernel_rfl)) ?_
  try simp only [Act.put, List.setIfInBounds_toArray, List.set_cons_zero, List.set_cons_succ]
  refine wpAnyG_take 29 rfl (by kernel_rfl) (fun _ _ _ h => h) (YieldsG.loadF (by rfl) _ _ rfl (w.heap.size + 1) rfl (b) _ _ (Jb) (FB.out) Try.underlying36 rfl (by kernel_rfl)) ?_
  try simp only [Act.put, List.setIfInBounds_toArray, List.set_cons_zero, List.set_cons_succ]
  refine wpAnyG_take 30 rfl (by kernel_rfl) (fun _ _ _ h => h) (YieldsG.call (v := fv d) (by rfl) 29 _ (fun w9 => by go_simp; try (first | with_reducible rfl | rfl)) (fun w9 h9 => c6 w9)) ?_
  try simp only [Act.put, List.setIfInBounds_toArray, List.set_cons_zero, List.set_cons_succ]
  refine wpAnyG_take 31 rfl (by kernel_rfl) (fun _ _ _ h => h) (YieldsG.load (by rfl) _ _ rfl w1.heap.size 0 rfl ([.int .u64 13822214165235122497, .int .u64 13451932020343611451, .int .u64 18446744073709551614, .int .u64 18446744073709551615, .int .u64 4624529908474429119, .int .u64 4994812053365940164, .int .u64 1]) _ (Blk.lt (Jm)) (Blk.range (Jm)) Try.underlying39 rfl (by kernel_rfl)) ?_
  try simp only [Act.put, List.setIfInBounds_toArray, List.set_cons_zero, List.set_cons_succ]
  refine wpAnyG_take 32 rfl (by kernel_rfl) (fun _ _ _ h => h) (YieldsG.loadF (by rfl) _ _ rfl (w2.heap.size) rfl (a) _ _ (Jx) (fv_fcs _) Try.underlying27 rfl (by kernel_rfl)) ?_
  try simp only [Act.put, List.setIfInBounds_toArray, List.set_cons_zero, List.set_cons_succ]
  refine wpAnyG_take 33 rfl (by kernel_rfl) (fun _ _ _ h => h) (YieldsG.loadF (by rfl) _ _ rfl (w4.heap.size) rfl (b) _ _ (Jy) (fv_fcs _) Try.underlying27 rfl (by kernel_rfl)) ?_
  try simp only [Act.put, List.setIfInBounds_toArray, List.set_cons_zero, List.set_cons_succ]
  refine wpAnyG_take 34 rfl (by kernel_rfl) (fun _ _ _ h => h) (YieldsG.call (v := fv d) (by rfl) 30 _ (fun w9 => by go_simp; try (first | with_reducible rfl | rfl)) (fun w9 h9 => c7 w9)) ?_
  try simp only [Act.put, List.setIfInBounds_toArray, List.set_cons_zero, List.set_cons_succ]
  refine wpAnyG_take 35 rfl (by kernel_rfl) (fun _ _ _ h => h) (YieldsG.call (v := fv d) (by rfl) 23 _ (fun w9 => by go_simp; try (first | with_reducible rfl | rfl)) (fun w9 h9 => c11 w9)) ?_
  try simp only [Act.put, List.setIfInBounds_toArray, List.set_cons_zero, List.set_cons_succ]
  refine wpAnyG_take 36 rfl (by kernel_rfl) (fun _ _ _ h => h) (YieldsG.pure (v := .bool true) (by rfl) (fun w9 h9 => by go_simp; rw [run_eqGuard_fv]; simp only [Result.andThen_ok])) ?_
  try simp only [Act.put, List.setIfInBounds_toArray, List.set_cons_zero, List.set_cons_succ]
  refine wpAnyG_take 37 rfl (by kernel_rfl) (fun _ _ _ h => h) (YieldsG.pure (by rfl) (fun w9 _ => by go_simp; try with_reducible rfl)) ?_
  try simp only [Act.put, List.setIfInBounds_toArray, List.set_cons_zero, List.set_cons_succ]
  refine wpAnyG_take 38 rfl (by kernel_rfl) (fun _ _ _ h => h) (YieldsG.pure (by rfl) (fun w9 _ => by go_simp; try with_reducible rfl)) ?_
  try simp only [Act.put, List.setIfInBounds_toArray, List.set_cons_zero, List.set_cons_succ]
  refine wpAnyG_take 39 rfl (by kernel_rfl) (fun _ _ _ h => h) (YieldsG.call (v := .bool true) (by rfl) 31 _ (fun w9 => by go_simp; try (first | with_reducible rfl | rfl)) (fun w9 h9 => alive4_any w9)) ?_
  try simp only [Act.put, List.setIfInBounds_toArray, List.set_cons_zero, List.set_cons_succ]
  refine wpAnyG_take 40 rfl (by kernel_rfl) (fun _ _ _ h => h) (YieldsG.pure (by rfl) (fun w9 _ => by go_simp; try with_reducible rfl)) ?_
  try simp only [Act.put, List.setIfInBounds_toArray, List.set_cons_zero, List.set_cons_succ]
  refine wpAnyG_take 41 rfl (by kernel_rfl) (fun _ _ _ h => h) (YieldsG.pure (by rfl) (fun w9 _ => by go_simp; try with_reducible rfl)) ?_
  try simp only [Act.put, List.setIfInBounds_toArray, List.set_cons_zero, List.set_cons_succ]
  refine wpAnyG_done (by kernel_rfl) (fun u hu => ?_)
  have hbu := Below.gr hJ hu
  go_wp2
  go_ret
  exact ⟨rfl, hbu⟩
end Go.Proofs.Ytajjjdmjlloifaa.Sc
