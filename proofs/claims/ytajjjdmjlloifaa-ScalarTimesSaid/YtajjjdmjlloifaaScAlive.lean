/-
  The answers that the document fixes, of layer 4.
-/
import Derived.Test.YtajjjdmjlloifaaScSum
import Derived.Test.YtajjjdmjlloifaaScMul
import Derived.Test.YtajjjdmjlloifaaScEq
namespace Go.Proofs.Ytajjjdmjlloifaa.Sc
open Go.RowKit Go.Lib

theorem infoSc : (Try.prog.info? 36).map (fun i => (i.zero, i.size, i.bytes)) = some (some (.agg #[.int .u64 0, .int .u64 0, .int .u64 0, .int .u64 0]), 4, 32) := by kernel_rfl

set_option maxHeartbeats 4000000 in
set_option maxRecDepth 100000 in
theorem alive4_any (w : World) : Calls Try.prog 31 #[] w fun e w' => e = .returned (.bool true) ∧ Below w.heap.size w w' := by
  obtain ⟨n1, h1⟩ : ∃ n, n = 1 := ⟨_, rfl⟩
  obtain ⟨n2, h2⟩ : ∃ n, n = 2 := ⟨_, rfl⟩
  obtain ⟨z, hz⟩ : ∃ n, n = 0 := ⟨_, rfl⟩
  obtain ⟨g, hg⟩ : ∃ g, g = negP n1 := ⟨_, rfl⟩
  obtain ⟨g2, hg2⟩ : ∃ g, g = negP n2 := ⟨_, rfl⟩
  have l1 : n1 < 115792089237316195423570985008687907853269984665640564039457584007913129639936 := by omega
  have l2 : n2 < 115792089237316195423570985008687907853269984665640564039457584007913129639936 := by omega
  have lz : z < 115792089237316195423570985008687907853269984665640564039457584007913129639936 := by omega
  have lg2 : g2 < 115792089237316195423570985008687907853269984665640564039457584007913129639936 := by rw [hg2]; exact negP_lt _
  have c1 : ∀ w, Calls Try.prog 36 #[.int .u64 1] w fun e w' => e = .returned (fv n1) ∧ Below w.heap.size w w' := fun w => of_at w n1 1 (by rw [h1]; rfl) (by omega)
  have c2 : ∀ w, Calls Try.prog 36 #[.int .u64 2] w fun e w' => e = .returned (fv n2) ∧ Below w.heap.size w w' := fun w => of_at w n2 2 (by rw [h2]; rfl) (by omega)
  have c0 : ∀ w, Calls Try.prog 36 #[.int .u64 0] w fun e w' => e = .returned (fv z) ∧ Below w.heap.size w w' := fun w => of_at w z 0 (by rw [hz]; rfl) (by omega)
  have ca : ∀ w, Calls Try.prog 25 #[fv n1, fv n1] w fun e w' => e = .returned (fv n2) ∧ Below w.heap.size w w' := by
    intro w
    have h := addF_any w n1 n1 l1 l1
    rw [show addP n1 n1 = n2 by rw [h1, h2]; decide +kernel] at h
    exact h
  have cg : ∀ w, Calls Try.prog 27 #[fv n1] w fun e w' => e = .returned (fv g) ∧ Below w.heap.size w w' := by
    intro w; rw [hg]; exact negF_any w n1 l1
  have cg2 : ∀ w, Calls Try.prog 27 #[fv n2] w fun e w' => e = .returned (fv g2) ∧ Below w.heap.size w w' := by
    intro w; rw [hg2]; exact negF_any w n2 l2
  have cm : ∀ w, Calls Try.prog 32 #[fv g, fv g] w fun e w' => e = .returned (fv n1) ∧ Below w.heap.size w w' := by
    intro w
    have h := mulF_any w g g (by rw [hg]; exact negP_lt _) (by rw [hg]; exact negP_lt _)
    rw [show mulP g g = n1 by rw [hg, h1]; decide +kernel] at h
    exact h
  have cs : ∀ (w : World) (N : Nat), NSrc w (some ⟨N, 0, none⟩) [n1, n1, g2] → Calls Try.prog 37 #[.slice (some ⟨N, 0, none⟩) 3 3] w fun e w' => e = .returned (fv z) ∧ Below w.heap.size w w' := by
    intro w N hs
    have h := sum_any w (some ⟨N, 0, none⟩) [n1, n1, g2] 3 3 rfl hs (by intro x hx; simp at hx; rcases hx with rfl | rfl <;> assumption) (by omega)
    rw [show sumL [n1, n1, g2] = z by rw [hg2, h1, h2, hz]; decide +kernel] at h
    exact h
  have e1 : ∀ W, (binOp .eql 36 (fv n1) (fv n1)).run Try.prog W = .ok (.bool true) W := fun W => by rw [run_eql_fv W n1 n1 l1 l1]; simp
  have e2 : ∀ W, (binOp .eql 36 (fv n2) (fv n2)).run Try.prog W = .ok (.bool true) W := fun W => by rw [run_eql_fv W n2 n2 l2 l2]; simp
  have ez : ∀ W, (binOp .eql 36 (fv z) (fv z)).run Try.prog W = .ok (.bool true) W := fun W => by rw [run_eql_fv W z z lz lz]; simp
  have en : ∀ W, (binOp .neq 36 (fv n2) (fv n1)).run Try.prog W = .ok (.bool true) W := fun W => by rw [run_neq_fv W n2 n1 l2 l1]; simp [h1, h2]
  clear h1 h2 hz hg hg2 l1 l2 lz lg2
  go_enter Try.func31, Try.ntmps31
  go_wp2_with fail
  refine (c1 _).mono ?_
  rintro e w10 ⟨rfl, hb⟩
  have hB0 := Below.gr (Below.refl _ _) hb
  have sz0 := hB0.size
  clear hb c1
  go_wp2_with (first | ((with_reducible refine here_store ?_); refine wpList_store_blk rfl _ _ _ rfl (w10.heap.size) (fcs (n1)) rfl rfl _ _ (Blk.new w10 _ _) (by kernel_rfl) (by rfl) (fcs_one _) ?_; intro v11 hL1 hq1 hK1; have hC1 := (((hB0).alloc (by omega) _)).trans (hq1 _ (by omega))))
  refine wp_region_G (fun _ => false) (by kernel_rfl) ?_
  try simp only [Act.put]
  refine wpAnyG_take 0 rfl (by kernel_rfl) (fun _ _ _ h => h) (YieldsG.loadF (by rfl) _ _ rfl (w10.heap.size) rfl (n1) _ _ (hL1) (fv_fcs _) Try.underlying36 rfl (by kernel_rfl)) ?_
  try simp only [Act.put, List.setIfInBounds_toArray, List.set_cons_zero, List.set_cons_succ]
  refine wpAnyG_take 1 rfl (by kernel_rfl) (fun _ _ _ h => h) (YieldsG.loadF (by rfl) _ _ rfl (w10.heap.size) rfl (n1) _ _ (hL1) (fv_fcs _) Try.underlying36 rfl (by kernel_rfl)) ?_
  try simp only [Act.put, List.setIfInBounds_toArray, List.set_cons_zero, List.set_cons_succ]
  refine wpAnyG_take 2 rfl (by kernel_rfl) (fun _ _ _ h => h) (YieldsG.call (v := fv n2) (by rfl) 25 _ (fun w9 => by go_simp; try (first | with_reducible rfl | rfl)) (fun w9 h9 => ca w9)) ?_
  try simp only [Act.put, List.setIfInBounds_toArray, List.set_cons_zero, List.set_cons_succ]
  refine wpAnyG_take 3 rfl (by kernel_rfl) (fun _ _ _ h => h) (YieldsG.call (v := fv n2) (by rfl) 36 _ (fun w9 => by go_simp; try (first | with_reducible rfl | rfl)) (fun w9 h9 => c2 w9)) ?_
  try simp only [Act.put, List.setIfInBounds_toArray, List.set_cons_zero, List.set_cons_succ]
  refine wpAnyG_take 4 rfl (by kernel_rfl) (fun _ _ _ h => h) (YieldsG.pure (v := .bool true) (by rfl) (fun w9 h9 => by go_simp; rw [run_eqGuard_fv]; simp only [Result.andThen_ok])) ?_
  try simp only [Act.put, List.setIfInBounds_toArray, List.set_cons_zero, List.set_cons_succ]
  refine wpAnyG_take 5 rfl (by kernel_rfl) (fun _ _ _ h => h) (YieldsG.pure (by rfl) (fun w9 _ => by go_simp; try with_reducible rfl)) ?_
  try simp only [Act.put, List.setIfInBounds_toArray, List.set_cons_zero, List.set_cons_succ]
  refine wpAnyG_take 6 rfl (by kernel_rfl) (fun _ _ _ h => h) (YieldsG.loadF (by rfl) _ _ rfl (w10.heap.size) rfl (n1) _ _ (hL1) (fv_fcs _) Try.underlying36 rfl (by kernel_rfl)) ?_
  try simp only [Act.put, List.setIfInBounds_toArray, List.set_cons_zero, List.set_cons_succ]
  refine wpAnyG_take 7 rfl (by kernel_rfl) (fun _ _ _ h => h) (YieldsG.call (v := fv g) (by rfl) 27 _ (fun w9 => by go_simp; try (first | with_reducible rfl | rfl)) (fun w9 h9 => cg w9)) ?_
  try simp only [Act.put, List.setIfInBounds_toArray, List.set_cons_zero, List.set_cons_succ]
  refine wpAnyG_take 8 rfl (by kernel_rfl) (fun _ _ _ h => h) (YieldsG.loadF (by rfl) _ _ rfl (w10.heap.size) rfl (n1) _ _ (hL1) (fv_fcs _) Try.underlying36 rfl (by kernel_rfl)) ?_
  try simp only [Act.put, List.setIfInBounds_toArray, List.set_cons_zero, List.set_cons_succ]
  refine wpAnyG_take 9 rfl (by kernel_rfl) (fun _ _ _ h => h) (YieldsG.call (v := fv g) (by rfl) 27 _ (fun w9 => by go_simp; try (first | with_reducible rfl | rfl)) (fun w9 h9 => cg w9)) ?_
  try simp only [Act.put, List.setIfInBounds_toArray, List.set_cons_zero, List.set_cons_succ]
  refine wpAnyG_take 10 rfl (by kernel_rfl) (fun _ _ _ h => h) (YieldsG.call (v := fv n1) (by rfl) 32 _ (fun w9 => by go_simp; try (first | with_reducible rfl | rfl)) (fun w9 h9 => cm w9)) ?_
  try simp only [Act.put, List.setIfInBounds_toArray, List.set_cons_zero, List.set_cons_succ]
  refine wpAnyG_take 11 rfl (by kernel_rfl) (fun _ _ _ h => h) (YieldsG.loadF (by rfl) _ _ rfl (w10.heap.size) rfl (n1) _ _ (hL1) (fv_fcs _) Try.underlying36 rfl (by kernel_rfl)) ?_
  try simp only [Act.put, List.setIfInBounds_toArray, List.set_cons_zero, List.set_cons_succ]
  refine wpAnyG_take 12 rfl (by kernel_rfl) (fun _ _ _ h => h) (YieldsG.pure (v := .bool true) (by rfl) (fun w9 h9 => by go_simp; rw [run_eqGuard_fv]; simp only [Result.andThen_ok])) ?_
  try simp only [Act.put, List.setIfInBounds_toArray, List.set_cons_zero, List.set_cons_succ]
  refine wpAnyG_take 13 rfl (by kernel_rfl) (fun _ _ _ h => h) (YieldsG.pure (by rfl) (fun w9 _ => by go_simp; try with_reducible rfl)) ?_
  try simp only [Act.put, List.setIfInBounds_toArray, List.set_cons_zero, List.set_cons_succ]
  refine wpAnyG_take 14 rfl (by kernel_rfl) (fun _ _ _ h => h) (YieldsG.pure (by rfl) (fun w9 _ => by go_simp; try with_reducible rfl)) ?_
  try simp only [Act.put, List.setIfInBounds_toArray, List.set_cons_zero, List.set_cons_succ]
  refine wpAnyG_take 15 rfl (by kernel_rfl) (fun _ _ _ h => h) (YieldsG.loadF (by rfl) _ _ rfl (w10.heap.size) rfl (n1) _ _ (hL1) (fv_fcs _) Try.underlying36 rfl (by kernel_rfl)) ?_
  try simp only [Act.put, List.setIfInBounds_toArray, List.set_cons_zero, List.set_cons_succ]
  refine wpAnyG_take 16 rfl (by kernel_rfl) (fun _ _ _ h => h) (YieldsG.loadF (by rfl) _ _ rfl (w10.heap.size) rfl (n1) _ _ (hL1) (fv_fcs _) Try.underlying36 rfl (by kernel_rfl)) ?_
  try simp only [Act.put, List.setIfInBounds_toArray, List.set_cons_zero, List.set_cons_succ]
  refine wpAnyG_take 17 rfl (by kernel_rfl) (fun _ _ _ h => h) (YieldsG.call (v := fv n2) (by rfl) 36 _ (fun w9 => by go_simp; try (first | with_reducible rfl | rfl)) (fun w9 h9 => c2 w9)) ?_
  try simp only [Act.put, List.setIfInBounds_toArray, List.set_cons_zero, List.set_cons_succ]
  refine wpAnyG_take 18 rfl (by kernel_rfl) (fun _ _ _ h => h) (YieldsG.call (v := fv g2) (by rfl) 27 _ (fun w9 => by go_simp; try (first | with_reducible rfl | rfl)) (fun w9 h9 => cg2 w9)) ?_
  try simp only [Act.put, List.setIfInBounds_toArray, List.set_cons_zero, List.set_cons_succ]
  refine wpAnyG_sole 19 rfl (by kernel_rfl) (by rfl) (fun wb hb K hK => ?_)
  refine wp_build_elems Try.underlying50 infoSc (by omega) 3 _ rfl (nvals [n1, n1, g2]) (elems_nvals _) rfl (by omega) (by decide) (by simp [nvals]; exact ⟨rfl, rfl, rfl⟩) wb.heap.size rfl ?_
  refine hK _ _ (fun _ => gr_alloc _ _) ?_
  clear hK K
  try simp only [Act.put, List.setIfInBounds_toArray, List.set_cons_zero, List.set_cons_succ]
  have hN : NSrc (wb.alloc (.cells (nvals [n1, n1, g2]).flatten.toArray 36)) (some ⟨wb.heap.size, 0, none⟩) [n1, n1, g2] := ESrc.lit wb.heap.size rfl _ (elems_nvals _)
  have F1 := (Gr.blk hb (hL1)).alloc (.cells (nvals [n1, n1, g2]).flatten.toArray 36)
  have hbb := (Below.gr (hC1) hb).trans (Below.mono (gr_alloc wb (.cells (nvals [n1, n1, g2]).flatten.toArray 36)) (by have := hb.size; have := (hC1).size; omega))
  have HN := Lib.hid hN
  clear hN hb
  refine wpAnyG_take 20 rfl (by kernel_rfl) (fun _ _ _ h => h) (YieldsG.call (v := fv z) (by rfl) 37 _ (fun w9 => by go_simp; try (first | with_reducible rfl | rfl)) (fun w9 h9 => cs w9 _ (HN.out.below h9))) ?_
  try simp only [Act.put, List.setIfInBounds_toArray, List.set_cons_zero, List.set_cons_succ]
  refine wpAnyG_take 21 rfl (by kernel_rfl) (fun _ _ _ h => h) (YieldsG.call (v := fv z) (by rfl) 36 _ (fun w9 => by go_simp; try (first | with_reducible rfl | rfl)) (fun w9 h9 => c0 w9)) ?_
  try simp only [Act.put, List.setIfInBounds_toArray, List.set_cons_zero, List.set_cons_succ]
  refine wpAnyG_take 22 rfl (by kernel_rfl) (fun _ _ _ h => h) (YieldsG.pure (v := .bool true) (by rfl) (fun w9 h9 => by go_simp; rw [run_eqGuard_fv]; simp only [Result.andThen_ok])) ?_
  try simp only [Act.put, List.setIfInBounds_toArray, List.set_cons_zero, List.set_cons_succ]
  refine wpAnyG_take 23 rfl (by kernel_rfl) (fun _ _ _ h => h) (YieldsG.pure (by rfl) (fun w9 _ => by go_simp; try with_reducible rfl)) ?_
  try simp only [Act.put, List.setIfInBounds_toArray, List.set_cons_zero, List.set_cons_succ]
  refine wpAnyG_take 24 rfl (by kernel_rfl) (fun _ _ _ h => h) (YieldsG.pure (by rfl) (fun w9 _ => by go_simp; try with_reducible rfl)) ?_
  try simp only [Act.put, List.setIfInBounds_toArray, List.set_cons_zero, List.set_cons_succ]
  refine wpAnyG_take 25 rfl (by kernel_rfl) (fun _ _ _ h => h) (YieldsG.call (v := fv n2) (by rfl) 36 _ (fun w9 => by go_simp; try (first | with_reducible rfl | rfl)) (fun w9 h9 => c2 w9)) ?_
  try simp only [Act.put, List.setIfInBounds_toArray, List.set_cons_zero, List.set_cons_succ]
  refine wpAnyG_take 26 rfl (by kernel_rfl) (fun _ _ _ h => h) (YieldsG.loadF (by rfl) _ _ rfl (w10.heap.size) rfl (n1) _ _ (F1) (fv_fcs _) Try.underlying36 rfl (by kernel_rfl)) ?_
  try simp only [Act.put, List.setIfInBounds_toArray, List.set_cons_zero, List.set_cons_succ]
  refine wpAnyG_take 27 rfl (by kernel_rfl) (fun _ _ _ h => h) (YieldsG.pure (v := .bool true) (by rfl) (fun w9 h9 => by go_simp; rw [run_eqGuard_fv]; simp only [Result.andThen_ok])) ?_
  try simp only [Act.put, List.setIfInBounds_toArray, List.set_cons_zero, List.set_cons_succ]
  refine wpAnyG_take 28 rfl (by kernel_rfl) (fun _ _ _ h => h) (YieldsG.pure (by rfl) (fun w9 _ => by go_simp; try with_reducible rfl)) ?_
  try simp only [Act.put, List.setIfInBounds_toArray, List.set_cons_zero, List.set_cons_succ]
  refine wpAnyG_takeA 29 rfl (by kernel_rfl) (fun _ _ _ h => h) (fun _ => YieldsG.pure (by rfl) (fun w9 _ => by go_simp; try with_reducible rfl)) ?_
  try simp only [Act.put, List.setIfInBounds_toArray, List.set_cons_zero]
  refine wpAnyG_done (by kernel_rfl) (fun u hu => ?_)
  have hbu := Below.gr hbb hu
  go_wp2
  go_ret
  exact ⟨rfl, hbu⟩
end Go.Proofs.Ytajjjdmjlloifaa.Sc
