/-
  The answers that the document fixes, of layer 3.
-/
import Derived.Test.YtajjjdmjlloifaaFeSqrt
namespace Go.Proofs.Ytajjjdmjlloifaa
open Go.RowKit Go.Lib

theorem of_at (w : World) (n : Nat) (di : Int) (hdi : di = (n : Int)) (hn : n < 18446744073709551616) : Calls Try.prog 51 #[.int .u64 di] w fun e w' => e = .returned (fv n) ∧ Below w.heap.size w w' := by
  subst hdi; exact of_any w n hn
theorem root_four : rootR 4 = 2 := by
  have h : rootR 4 % pM = Nt.pm pM 4 (Nt.bitsOf 256 eRoot []) 1 := (rootR_pow 4).trans (Nt.pow_is 256 pM 4 eRoot (by decide +kernel) (by decide +kernel)).symm
  rw [rootR_red] at h
  rw [h]
  decide +kernel
theorem sqrt_four : sqrtS 4 = (2, true) := by
  unfold sqrtS
  rw [root_four]
  decide +kernel

set_option maxHeartbeats 4000000 in
set_option maxRecDepth 100000 in
theorem alive3_any (w : World) : Calls Try.prog 14 #[] w fun e w' => e = .returned (.bool true) ∧ Below w.heap.size w w' := by
  obtain ⟨n1, h1⟩ : ∃ n, n = 1 := ⟨_, rfl⟩
  obtain ⟨n2, h2⟩ : ∃ n, n = 2 := ⟨_, rfl⟩
  obtain ⟨n4, h4⟩ : ∃ n, n = 4 := ⟨_, rfl⟩
  obtain ⟨g, hg⟩ : ∃ g, g = negP n1 := ⟨_, rfl⟩
  have c1 : ∀ w, Calls Try.prog 51 #[.int .u64 1] w fun e w' => e = .returned (fv n1) ∧ Below w.heap.size w w' := fun w => of_at w n1 1 (by rw [h1]; rfl) (by omega)
  have c2 : ∀ w, Calls Try.prog 51 #[.int .u64 2] w fun e w' => e = .returned (fv n2) ∧ Below w.heap.size w w' := fun w => of_at w n2 2 (by rw [h2]; rfl) (by omega)
  have c4 : ∀ w, Calls Try.prog 51 #[.int .u64 4] w fun e w' => e = .returned (fv n4) ∧ Below w.heap.size w w' := fun w => of_at w n4 4 (by rw [h4]; rfl) (by omega)
  have cs : ∀ w, Calls Try.prog 11 #[fv n4] w fun e w' => e = .returned (.tuple #[fv n2, .bool true]) ∧ Below w.heap.size w w' := by
    intro w
    have h := sqrt_any w n4 (by omega)
    rw [h4, sqrt_four] at h
    rw [h4, h2]
    exact h
  have ca : ∀ w, Calls Try.prog 52 #[fv n1, fv n1] w fun e w' => e = .returned (fv n2) ∧ Below w.heap.size w w' := by
    intro w
    have h := addF_any w n1 n1 (by omega) (by omega)
    rw [show addP n1 n1 = n2 by rw [h1, h2]; decide +kernel] at h
    exact h
  have cg : ∀ w, Calls Try.prog 19 #[fv n1] w fun e w' => e = .returned (fv g) ∧ Below w.heap.size w w' := by
    intro w; rw [hg]; exact negF_any w n1 (by omega)
  have cm : ∀ w, Calls Try.prog 17 #[fv g, fv g] w fun e w' => e = .returned (fv n1) ∧ Below w.heap.size w w' := by
    intro w
    have h := mulF_any w g g (by rw [hg]; exact negP_lt _) (by rw [hg]; exact negP_lt _)
    rw [show mulP g g = n1 by rw [hg, h1]; decide +kernel] at h
    exact h
  have e1 : ∀ W, (binOp .eql 24 (fv n1) (fv n1)).run Try.prog W = .ok (.bool true) W := fun W => by rw [run_eql_fv W n1 n1 (by omega) (by omega)]; simp
  have e2 : ∀ W, (binOp .eql 24 (fv n2) (fv n2)).run Try.prog W = .ok (.bool true) W := fun W => by rw [run_eql_fv W n2 n2 (by omega) (by omega)]; simp
  clear h1 h2 h4 hg
  go_enter Try.func14, Try.ntmps14
  go_wp2_with fail
  refine (c1 _).mono ?_
  rintro e w10 ⟨rfl, hb⟩
  have hB0 := Below.gr (Below.refl _ _) hb
  have sz0 := hB0.size
  clear hb c1
  go_wp2_with (first | ((with_reducible refine here_store ?_); refine wpList_store_blk rfl _ _ _ rfl (w10.heap.size) (fcs (n1)) rfl rfl _ _ (Blk.new w10 _ _) (by kernel_rfl) (by rfl) (fcs_one _) ?_; intro v11 hL1 hq1 hK1; have hC1 := (((hB0).alloc (by omega) _)).trans (hq1 _ (by omega))))
  refine (c4 _).mono ?_
  rintro e w11 ⟨rfl, hb⟩
  have B1_t1 : Blk w11 (w10.heap.size) 24 _ := Gr.blk hb (hL1)
  have l1_t1 := B1_t1.lt
  have hB1 := Below.gr (hC1) hb
  have sz1 := hB1.size
  clear hb c4
  go_wp2_with fail
  refine (cs _).mono ?_
  rintro e w12 ⟨rfl, hb⟩
  have B2_t1 : Blk w12 (w10.heap.size) 24 _ := Gr.blk hb (B1_t1)
  have l2_t1 := B2_t1.lt
  have hB2 := Below.gr (hB1) hb
  have sz2 := hB2.size
  clear hb cs
  go_wp2_with (first | ((with_reducible refine here_store ?_); refine wpList_store_blk rfl _ _ _ rfl (w12.heap.size) (fcs (n2)) rfl rfl _ _ (Blk.new w12 _ _) (by kernel_rfl) (by rfl) (fcs_one _) ?_; intro v13 hL3 hq3 hK3; have C3_t1 := hK3 _ (by omega) _ _ ((B2_t1).alloc _); have hC3 := (((hB2).alloc (by omega) _)).trans (hq3 _ (by omega))))
  refine wp_region_G (fun _ => false) (by kernel_rfl) ?_
  try simp only [Act.put]
  refine wpAnyG_take 0 rfl (by kernel_rfl) (fun _ _ _ h => h) (YieldsG.loadF (by rfl) _ _ rfl (w10.heap.size) rfl (n1) _ _ (C3_t1) (fv_fcs _) Try.underlying24 rfl (by kernel_rfl)) ?_
  try simp only [Act.put, List.setIfInBounds_toArray, List.set_cons_zero, List.set_cons_succ]
  refine wpAnyG_take 1 rfl (by kernel_rfl) (fun _ _ _ h => h) (YieldsG.loadF (by rfl) _ _ rfl (w10.heap.size) rfl (n1) _ _ (C3_t1) (fv_fcs _) Try.underlying24 rfl (by kernel_rfl)) ?_
  try simp only [Act.put, List.setIfInBounds_toArray, List.set_cons_zero, List.set_cons_succ]
  refine wpAnyG_take 2 rfl (by kernel_rfl) (fun _ _ _ h => h) (YieldsG.call (v := fv n2) (by rfl) 52 _ (fun w9 => by go_simp; try (first | with_reducible rfl | rfl)) (fun w9 h9 => ca w9)) ?_
  try simp only [Act.put, List.setIfInBounds_toArray, List.set_cons_zero, List.set_cons_succ]
  refine wpAnyG_take 3 rfl (by kernel_rfl) (fun _ _ _ h => h) (YieldsG.call (v := fv n2) (by rfl) 51 _ (fun w9 => by go_simp; try (first | with_reducible rfl | rfl)) (fun w9 h9 => c2 w9)) ?_
  try simp only [Act.put, List.setIfInBounds_toArray, List.set_cons_zero, List.set_cons_succ]
  refine wpAnyG_take 4 rfl (by kernel_rfl) (fun _ _ _ h => h) (YieldsG.pure (v := .bool true) (by rfl) (fun w9 h9 => by go_simp; rw [run_eqGuard_fv]; simp only [Result.andThen_ok])) ?_
  try simp only [Act.put, List.setIfInBounds_toArray, List.set_cons_zero, List.set_cons_succ]
  refine wpAnyG_take 5 rfl (by kernel_rfl) (fun _ _ _ h => h) (YieldsG.pure (by rfl) (fun w9 _ => by go_simp; try with_reducible rfl)) ?_
  try simp only [Act.put, List.setIfInBounds_toArray, List.set_cons_zero, List.set_cons_succ]
  refine wpAnyG_take 6 rfl (by kernel_rfl) (fun _ _ _ h => h) (YieldsG.loadF (by rfl) _ _ rfl (w10.heap.size) rfl (n1) _ _ (C3_t1) (fv_fcs _) Try.underlying24 rfl (by kernel_rfl)) ?_
  try simp only [Act.put, List.setIfInBounds_toArray, List.set_cons_zero, List.set_cons_succ]
  refine wpAnyG_take 7 rfl (by kernel_rfl) (fun _ _ _ h => h) (YieldsG.call (v := fv g) (by rfl) 19 _ (fun w9 => by go_simp; try (first | with_reducible rfl | rfl)) (fun w9 h9 => cg w9)) ?_
  try simp only [Act.put, List.setIfInBounds_toArray, List.set_cons_zero, List.set_cons_succ]
  refine wpAnyG_take 8 rfl (by kernel_rfl) (fun _ _ _ h => h) (YieldsG.loadF (by rfl) _ _ rfl (w10.heap.size) rfl (n1) _ _ (C3_t1) (fv_fcs _) Try.underlying24 rfl (by kernel_rfl)) ?_
  try simp only [Act.put, List.setIfInBounds_toArray, List.set_cons_zero, List.set_cons_succ]
  refine wpAnyG_take 9 rfl (by kernel_rfl) (fun _ _ _ h => h) (YieldsG.call (v := fv g) (by rfl) 19 _ (fun w9 => by go_simp; try (first | with_reducible rfl | rfl)) (fun w9 h9 => cg w9)) ?_
  try simp only [Act.put, List.setIfInBounds_toArray, List.set_cons_zero, List.set_cons_succ]
  refine wpAnyG_take 10 rfl (by kernel_rfl) (fun _ _ _ h => h) (YieldsG.call (v := fv n1) (by rfl) 17 _ (fun w9 => by go_simp; try (first | with_reducible rfl | rfl)) (fun w9 h9 => cm w9)) ?_
  try simp only [Act.put, List.setIfInBounds_toArray, List.set_cons_zero, List.set_cons_succ]
  refine wpAnyG_take 11 rfl (by kernel_rfl) (fun _ _ _ h => h) (YieldsG.loadF (by rfl) _ _ rfl (w10.heap.size) rfl (n1) _ _ (C3_t1) (fv_fcs _) Try.underlying24 rfl (by kernel_rfl)) ?_
  try simp only [Act.put, List.setIfInBounds_toArray, List.set_cons_zero, List.set_cons_succ]
  refine wpAnyG_take 12 rfl (by kernel_rfl) (fun _ _ _ h => h) (YieldsG.pure (v := .bool true) (by rfl) (fun w9 h9 => by go_simp; rw [run_eqGuard_fv]; simp only [Result.andThen_ok])) ?_
  try simp only [Act.put, List.setIfInBounds_toArray, List.set_cons_zero, List.set_cons_succ]
  refine wpAnyG_take 13 rfl (by kernel_rfl) (fun _ _ _ h => h) (YieldsG.pure (by rfl) (fun w9 _ => by go_simp; try with_reducible rfl)) ?_
  try simp only [Act.put, List.setIfInBounds_toArray, List.set_cons_zero, List.set_cons_succ]
  refine wpAnyG_take 14 rfl (by kernel_rfl) (fun _ _ _ h => h) (YieldsG.pure (by rfl) (fun w9 _ => by go_simp; try with_reducible rfl)) ?_
  try simp only [Act.put, List.setIfInBounds_toArray, List.set_cons_zero, List.set_cons_succ]
  refine wpAnyG_take 15 rfl (by kernel_rfl) (fun _ _ _ h => h) (YieldsG.pure (by rfl) (fun w9 _ => by go_simp; try with_reducible rfl)) ?_
  try simp only [Act.put, List.setIfInBounds_toArray, List.set_cons_zero, List.set_cons_succ]
  refine wpAnyG_take 16 rfl (by kernel_rfl) (fun _ _ _ h => h) (YieldsG.pure (by rfl) (fun w9 _ => by go_simp; try with_reducible rfl)) ?_
  try simp only [Act.put, List.setIfInBounds_toArray, List.set_cons_zero, List.set_cons_succ]
  refine wpAnyG_take 17 rfl (by kernel_rfl) (fun _ _ _ h => h) (YieldsG.pure (by rfl) (fun w9 _ => by go_simp; try with_reducible rfl)) ?_
  try simp only [Act.put, List.setIfInBounds_toArray, List.set_cons_zero, List.set_cons_succ]
  refine wpAnyG_take 18 rfl (by kernel_rfl) (fun _ _ _ h => h) (YieldsG.loadF (by rfl) _ _ rfl (w12.heap.size) rfl (n2) _ _ (hL3) (fv_fcs _) Try.underlying24 rfl (by kernel_rfl)) ?_
  try simp only [Act.put, List.setIfInBounds_toArray, List.set_cons_zero, List.set_cons_succ]
  refine wpAnyG_take 19 rfl (by kernel_rfl) (fun _ _ _ h => h) (YieldsG.call (v := fv n2) (by rfl) 51 _ (fun w9 => by go_simp; try (first | with_reducible rfl | rfl)) (fun w9 h9 => c2 w9)) ?_
  try simp only [Act.put, List.setIfInBounds_toArray, List.set_cons_zero, List.set_cons_succ]
  refine wpAnyG_take 20 rfl (by kernel_rfl) (fun _ _ _ h => h) (YieldsG.pure (v := .bool true) (by rfl) (fun w9 h9 => by go_simp; rw [run_eqGuard_fv]; simp only [Result.andThen_ok])) ?_
  try simp only [Act.put, List.setIfInBounds_toArray, List.set_cons_zero, List.set_cons_succ]
  refine wpAnyG_take 21 rfl (by kernel_rfl) (fun _ _ _ h => h) (YieldsG.pure (by rfl) (fun w9 _ => by go_simp; try with_reducible rfl)) ?_
  try simp only [Act.put, List.setIfInBounds_toArray, List.set_cons_zero, List.set_cons_succ]
  refine wpAnyG_take 22 rfl (by kernel_rfl) (fun _ _ _ h => h) (YieldsG.pure (by rfl) (fun w9 _ => by go_simp; try with_reducible rfl)) ?_
  try simp only [Act.put, List.setIfInBounds_toArray, List.set_cons_zero]
  refine wpAnyG_done (by kernel_rfl) (fun u hu => ?_)
  have hbu := Below.gr (hC3) hu
  go_wp2
  go_ret
  exact ⟨rfl, hbu⟩
end Go.Proofs.Ytajjjdmjlloifaa
