/-
  The law on the laws of a field, walked.
-/
import Derived.Test.YtajjjdmjlloifaaScAlive
namespace Go.Proofs.Ytajjjdmjlloifaa.Sc
open Go.RowKit Go.Lib

set_option maxHeartbeats 4000000 in
set_option maxRecDepth 100000 in
theorem law_laws (w : World) (a b c : Nat) (ha : a < 115792089237316195423570985008687907853269984665640564039457584007913129639936) (hb : b < 115792089237316195423570985008687907853269984665640564039457584007913129639936) (hc : c < 115792089237316195423570985008687907853269984665640564039457584007913129639936) : Calls Try.prog 10 #[fv a, fv b, fv c] w fun e w' => e = .returned (.bool true) ∧ Below w.heap.size w w' := by
  obtain ⟨ab, hab⟩ : ∃ v, v = addP a b := ⟨_, rfl⟩
  have lab : ab < 115792089237316195423570985008687907853269984665640564039457584007913129639936 := by rw [hab]; exact addP_lt _ _
  obtain ⟨abc, habc⟩ : ∃ v, v = addP ab c := ⟨_, rfl⟩
  have labc : abc < 115792089237316195423570985008687907853269984665640564039457584007913129639936 := by rw [habc]; exact addP_lt _ _
  obtain ⟨bc, hbc⟩ : ∃ v, v = addP b c := ⟨_, rfl⟩
  have lbc : bc < 115792089237316195423570985008687907853269984665640564039457584007913129639936 := by rw [hbc]; exact addP_lt _ _
  obtain ⟨mab, hmab⟩ : ∃ v, v = mulP a b := ⟨_, rfl⟩
  have lmab : mab < 115792089237316195423570985008687907853269984665640564039457584007913129639936 := by rw [hmab]; exact mulP_lt _ _
  obtain ⟨mabc, hmabc⟩ : ∃ v, v = mulP mab c := ⟨_, rfl⟩
  have lmabc : mabc < 115792089237316195423570985008687907853269984665640564039457584007913129639936 := by rw [hmabc]; exact mulP_lt _ _
  obtain ⟨mbc, hmbc⟩ : ∃ v, v = mulP b c := ⟨_, rfl⟩
  have lmbc : mbc < 115792089237316195423570985008687907853269984665640564039457584007913129639936 := by rw [hmbc]; exact mulP_lt _ _
  obtain ⟨mac, hmac⟩ : ∃ v, v = mulP a c := ⟨_, rfl⟩
  have lmac : mac < 115792089237316195423570985008687907853269984665640564039457584007913129639936 := by rw [hmac]; exact mulP_lt _ _
  obtain ⟨t, ht⟩ : ∃ v, v = mulP a bc := ⟨_, rfl⟩
  have lt : t < 115792089237316195423570985008687907853269984665640564039457584007913129639936 := by rw [ht]; exact mulP_lt _ _
  obtain ⟨n, hn⟩ : ∃ v, v = a % pM := ⟨_, rfl⟩
  have ln : n < 115792089237316195423570985008687907853269984665640564039457584007913129639936 := by rw [hn]; exact mod_lt a
  obtain ⟨g, hg⟩ : ∃ v, v = negP a := ⟨_, rfl⟩
  have lg : g < 115792089237316195423570985008687907853269984665640564039457584007913129639936 := by rw [hg]; exact negP_lt a
  obtain ⟨z, hz⟩ : ∃ v, v = (0 : Nat) := ⟨_, rfl⟩
  have lz : z < 115792089237316195423570985008687907853269984665640564039457584007913129639936 := by rw [hz]; omega
  have c0 : ∀ w, Calls Try.prog 25 #[fv a, fv b] w fun e w' => e = .returned (fv ab) ∧ Below w.heap.size w w' := by
    intro w; rw [hab]; exact addF_any w a b ha hb
  have c1 : ∀ w, Calls Try.prog 25 #[fv b, fv a] w fun e w' => e = .returned (fv ab) ∧ Below w.heap.size w w' := by
    intro w; rw [hab, add_comm_p]; exact addF_any w b a hb ha
  have c2 : ∀ w, Calls Try.prog 25 #[fv ab, fv c] w fun e w' => e = .returned (fv abc) ∧ Below w.heap.size w w' := by
    intro w; rw [habc]; exact addF_any w ab c lab hc
  have c3 : ∀ w, Calls Try.prog 25 #[fv b, fv c] w fun e w' => e = .returned (fv bc) ∧ Below w.heap.size w w' := by
    intro w; rw [hbc]; exact addF_any w b c hb hc
  have c4 : ∀ w, Calls Try.prog 25 #[fv a, fv bc] w fun e w' => e = .returned (fv abc) ∧ Below w.heap.size w w' := by
    intro w; rw [habc, hab, add_assoc_p, ← hbc]; exact addF_any w a bc ha lbc
  have c5 : ∀ w, Calls Try.prog 32 #[fv a, fv b] w fun e w' => e = .returned (fv mab) ∧ Below w.heap.size w w' := by
    intro w; rw [hmab]; exact mulF_any w a b ha hb
  have c6 : ∀ w, Calls Try.prog 32 #[fv b, fv a] w fun e w' => e = .returned (fv mab) ∧ Below w.heap.size w w' := by
    intro w; rw [hmab, mul_comm_p]; exact mulF_any w b a hb ha
  have c7 : ∀ w, Calls Try.prog 32 #[fv mab, fv c] w fun e w' => e = .returned (fv mabc) ∧ Below w.heap.size w w' := by
    intro w; rw [hmabc]; exact mulF_any w mab c lmab hc
  have c8 : ∀ w, Calls Try.prog 32 #[fv b, fv c] w fun e w' => e = .returned (fv mbc) ∧ Below w.heap.size w w' := by
    intro w; rw [hmbc]; exact mulF_any w b c hb hc
  have c9 : ∀ w, Calls Try.prog 32 #[fv a, fv mbc] w fun e w' => e = .returned (fv mabc) ∧ Below w.heap.size w w' := by
    intro w; rw [hmabc, hmab, mul_assoc_p, ← hmbc]; exact mulF_any w a mbc ha lmbc
  have c10 : ∀ w, Calls Try.prog 32 #[fv a, fv bc] w fun e w' => e = .returned (fv t) ∧ Below w.heap.size w w' := by
    intro w; rw [ht]; exact mulF_any w a bc ha lbc
  have c11 : ∀ w, Calls Try.prog 32 #[fv a, fv c] w fun e w' => e = .returned (fv mac) ∧ Below w.heap.size w w' := by
    intro w; rw [hmac]; exact mulF_any w a c ha hc
  have c12 : ∀ w, Calls Try.prog 25 #[fv mab, fv mac] w fun e w' => e = .returned (fv t) ∧ Below w.heap.size w w' := by
    intro w; rw [ht, hbc, mul_add_p, ← hmab, ← hmac]; exact addF_any w mab mac lmab lmac
  have c13 : ∀ w, Calls Try.prog 29 #[fv ab, fv b] w fun e w' => e = .returned (fv n) ∧ Below w.heap.size w w' := by
    intro w; rw [hn, ← sub_add_p a b, ← hab]; exact subF_any w ab b lab hb
  have c14 : ∀ w, Calls Try.prog 22 #[fv a] w fun e w' => e = .returned (fv n) ∧ Below w.heap.size w w' := by
    intro w; rw [hn]; exact norm_any w a ha
  have c15 : ∀ w, Calls Try.prog 27 #[fv a] w fun e w' => e = .returned (fv g) ∧ Below w.heap.size w w' := by
    intro w; rw [hg]; exact negF_any w a ha
  have c16 : ∀ w, Calls Try.prog 25 #[fv a, fv g] w fun e w' => e = .returned (fv z) ∧ Below w.heap.size w w' := by
    intro w; rw [hz, ← add_neg_p a, ← hg]; exact addF_any w a g ha lg
  have cz : ∀ w, Calls Try.prog 36 #[.int .u64 0] w fun e w' => e = .returned (fv z) ∧ Below w.heap.size w w' := fun w => of_at w z 0 (by rw [hz]; rfl) (by omega)
  have eab : ∀ W, (binOp .eql 36 (fv ab) (fv ab)).run Try.prog W = .ok (.bool true) W := fun W => by rw [run_eql_fv W ab ab lab lab]; simp
  have eabc : ∀ W, (binOp .eql 36 (fv abc) (fv abc)).run Try.prog W = .ok (.bool true) W := fun W => by rw [run_eql_fv W abc abc labc labc]; simp
  have emab : ∀ W, (binOp .eql 36 (fv mab) (fv mab)).run Try.prog W = .ok (.bool true) W := fun W => by rw [run_eql_fv W mab mab lmab lmab]; simp
  have emabc : ∀ W, (binOp .eql 36 (fv mabc) (fv mabc)).run Try.prog W = .ok (.bool true) W := fun W => by rw [run_eql_fv W mabc mabc lmabc lmabc]; simp
  have et : ∀ W, (binOp .eql 36 (fv t) (fv t)).run Try.prog W = .ok (.bool true) W := fun W => by rw [run_eql_fv W t t lt lt]; simp
  have en : ∀ W, (binOp .eql 36 (fv n) (fv n)).run Try.prog W = .ok (.bool true) W := fun W => by rw [run_eql_fv W n n ln ln]; simp
  have ez : ∀ W, (binOp .eql 36 (fv z) (fv z)).run Try.prog W = .ok (.bool true) W := fun W => by rw [run_eql_fv W z z lz lz]; simp
  obtain ⟨a0, a1, a2, a3, fa⟩ := words_fv a ha
  obtain ⟨b0, b1, b2, b3, fb⟩ := words_fv b hb
  obtain ⟨c0', c1', c2', c3', fc⟩ := words_fv c hc
  have FA := Lib.hid fa
  have FB := Lib.hid fb
  have FC := Lib.hid fc
  rw [fa, fb, fc]
  clear fa fb fc ha hb hc hab habc hbc hmab hmabc hmbc hmac ht hn hg hz lab labc lbc lmab lmabc lmbc lmac lt ln lg lz
  go_enter Try.func10, Try.ntmps10
  go_wp2
  refine wp_region_G (fun _ => false) (by kernel_rfl) ?_
  try simp only [Act.put]
  refine wpAnyG_take 0 rfl (by kernel_rfl) (fun _ _ _ h => h) (YieldsG.loadF (by rfl) _ _ rfl (w.heap.size) rfl (a) _ _ (((Blk.new w _ _).alloc _).alloc _) (FA.out) Try.underlying36 rfl (by kernel_rfl)) ?_
  try simp only [Act.put, List.setIfInBounds_toArray, List.set_cons_zero, List.set_cons_succ]
  refine wpAnyG_take 1 rfl (by kernel_rfl) (fun _ _ _ h => h) (YieldsG.loadF (by rfl) _ _ rfl (w.heap.size + 1) rfl (b) _ _ ((blk_new2 w _ _ _).alloc _) (FB.out) Try.underlying36 rfl (by kernel_rfl)) ?_
  try simp only [Act.put, List.setIfInBounds_toArray, List.set_cons_zero, List.set_cons_succ]
  refine wpAnyG_take 2 rfl (by kernel_rfl) (fun _ _ _ h => h) (YieldsG.call (v := fv ab) (by rfl) 25 _ (fun w9 => by go_simp; try (first | with_reducible rfl | rfl)) (fun w9 h9 => c0 w9)) ?_
  try simp only [Act.put, List.setIfInBounds_toArray, List.set_cons_zero, List.set_cons_succ]
  refine wpAnyG_take 3 rfl (by kernel_rfl) (fun _ _ _ h => h) (YieldsG.loadF (by rfl) _ _ rfl (w.heap.size + 1) rfl (b) _ _ ((blk_new2 w _ _ _).alloc _) (FB.out) Try.underlying36 rfl (by kernel_rfl)) ?_
  try simp only [Act.put, List.setIfInBounds_toArray, List.set_cons_zero, List.set_cons_succ]
  refine wpAnyG_take 4 rfl (by kernel_rfl) (fun _ _ _ h => h) (YieldsG.loadF (by rfl) _ _ rfl (w.heap.size) rfl (a) _ _ (((Blk.new w _ _).alloc _).alloc _) (FA.out) Try.underlying36 rfl (by kernel_rfl)) ?_
  try simp only [Act.put, List.setIfInBounds_toArray, List.set_cons_zero, List.set_cons_succ]
  refine wpAnyG_take 5 rfl (by kernel_rfl) (fun _ _ _ h => h) (YieldsG.call (v := fv ab) (by rfl) 25 _ (fun w9 => by go_simp; try (first | with_reducible rfl | rfl)) (fun w9 h9 => c1 w9)) ?_
  try simp only [Act.put, List.setIfInBounds_toArray, List.set_cons_zero, List.set_cons_succ]
  refine wpAnyG_take 6 rfl (by kernel_rfl) (fun _ _ _ h => h) (YieldsG.pure (v := .bool true) (by rfl) (fun w9 h9 => by go_simp; rw [run_eqGuard_fv]; simp only [Result.andThen_ok])) ?_
  try simp only [Act.put, List.setIfInBounds_toArray, List.set_cons_zero, List.set_cons_succ]
  refine wpAnyG_take 7 rfl (by kernel_rfl) (fun _ _ _ h => h) (YieldsG.pure (by rfl) (fun w9 _ => by go_simp; try with_reducible rfl)) ?_
  try simp only [Act.put, List.setIfInBounds_toArray, List.set_cons_zero, List.set_cons_succ]
  refine wpAnyG_take 8 rfl (by kernel_rfl) (fun _ _ _ h => h) (YieldsG.loadF (by rfl) _ _ rfl (w.heap.size) rfl (a) _ _ (((Blk.new w _ _).alloc _).alloc _) (FA.out) Try.underlying36 rfl (by kernel_rfl)) ?_
  try simp only [Act.put, List.setIfInBounds_toArray, List.set_cons_zero, List.set_cons_succ]
  refine wpAnyG_take 9 rfl (by kernel_rfl) (fun _ _ _ h => h) (YieldsG.loadF (by rfl) _ _ rfl (w.heap.size + 1) rfl (b) _ _ ((blk_new2 w _ _ _).alloc _) (FB.out) Try.underlying36 rfl (by kernel_rfl)) ?_
  try simp only [Act.put, List.setIfInBounds_toArray, List.set_cons_zero, List.set_cons_succ]
  refine wpAnyG_take 10 rfl (by kernel_rfl) (fun _ _ _ h => h) (YieldsG.call (v := fv ab) (by rfl) 25 _ (fun w9 => by go_simp; try (first | with_reducible rfl | rfl)) (fun w9 h9 => c0 w9)) ?_
  try simp only [Act.put, List.setIfInBounds_toArray, List.set_cons_zero, List.set_cons_succ]
  refine wpAnyG_take 11 rfl (by kernel_rfl) (fun _ _ _ h => h) (YieldsG.loadF (by rfl) _ _ rfl (w.heap.size + 2) rfl (c) _ _ (blk_new3 w _ _ _ _) (FC.out) Try.underlying36 rfl (by kernel_rfl)) ?_
  try simp only [Act.put, List.setIfInBounds_toArray, List.set_cons_zero, List.set_cons_succ]
  refine wpAnyG_take 12 rfl (by kernel_rfl) (fun _ _ _ h => h) (YieldsG.call (v := fv abc) (by rfl) 25 _ (fun w9 => by go_simp; try (first | with_reducible rfl | rfl)) (fun w9 h9 => c2 w9)) ?_
  try simp only [Act.put, List.setIfInBounds_toArray, List.set_cons_zero, List.set_cons_succ]
  refine wpAnyG_take 13 rfl (by kernel_rfl) (fun _ _ _ h => h) (YieldsG.loadF (by rfl) _ _ rfl (w.heap.size) rfl (a) _ _ (((Blk.new w _ _).alloc _).alloc _) (FA.out) Try.underlying36 rfl (by kernel_rfl)) ?_
  try simp only [Act.put, List.setIfInBounds_toArray, List.set_cons_zero, List.set_cons_succ]
  refine wpAnyG_take 14 rfl (by kernel_rfl) (fun _ _ _ h => h) (YieldsG.loadF (by rfl) _ _ rfl (w.heap.size + 1) rfl (b) _ _ ((blk_new2 w _ _ _).alloc _) (FB.out) Try.underlying36 rfl (by kernel_rfl)) ?_
  try simp only [Act.put, List.setIfInBounds_toArray, List.set_cons_zero, List.set_cons_succ]
  refine wpAnyG_take 15 rfl (by kernel_rfl) (fun _ _ _ h => h) (YieldsG.loadF (by rfl) _ _ rfl (w.heap.size + 2) rfl (c) _ _ (blk_new3 w _ _ _ _) (FC.out) Try.underlying36 rfl (by kernel_rfl)) ?_
  try simp only [Act.put, List.setIfInBounds_toArray, List.set_cons_zero, List.set_cons_succ]
  refine wpAnyG_take 16 rfl (by kernel_rfl) (fun _ _ _ h => h) (YieldsG.call (v := fv bc) (by rfl) 25 _ (fun w9 => by go_simp; try (first | with_reducible rfl | rfl)) (fun w9 h9 => c3 w9)) ?_
  try simp only [Act.put, List.setIfInBounds_toArray, List.set_cons_zero, List.set_cons_succ]
  refine wpAnyG_take 17 rfl (by kernel_rfl) (fun _ _ _ h => h) (YieldsG.call (v := fv abc) (by rfl) 25 _ (fun w9 => by go_simp; try (first | with_reducible rfl | rfl)) (fun w9 h9 => c4 w9)) ?_
  try simp only [Act.put, List.setIfInBounds_toArray, List.set_cons_zero, List.set_cons_succ]
  refine wpAnyG_take 18 rfl (by kernel_rfl) (fun _ _ _ h => h) (YieldsG.pure (v := .bool true) (by rfl) (fun w9 h9 => by go_simp; rw [run_eqGuard_fv]; simp only [Result.andThen_ok])) ?_
  try simp only [Act.put, List.setIfInBounds_toArray, List.set_cons_zero, List.set_cons_succ]
  refine wpAnyG_take 19 rfl (by kernel_rfl) (fun _ _ _ h => h) (YieldsG.pure (by rfl) (fun w9 _ => by go_simp; try with_reducible rfl)) ?_
  try simp only [Act.put, List.setIfInBounds_toArray, List.set_cons_zero, List.set_cons_succ]
  refine wpAnyG_take 20 rfl (by kernel_rfl) (fun _ _ _ h => h) (YieldsG.pure (by rfl) (fun w9 _ => by go_simp; try with_reducible rfl)) ?_
  try simp only [Act.put, List.setIfInBounds_toArray, List.set_cons_zero, List.set_cons_succ]
  refine wpAnyG_done (by kernel_rfl) (fun u1 k1 => ?_)
  have hB1 := Below.gr (below_alloc3 w _ _ _) k1
  have Ba1 : Blk u1 w.heap.size 36 _ := Gr.blk k1 (((Blk.new w _ _).alloc _).alloc _)
  have Bb1 : Blk u1 (w.heap.size + 1) 36 _ := Gr.blk k1 ((blk_new2 w _ _ _).alloc _)
  have Bc1 : Blk u1 (w.heap.size + 2) 36 _ := Gr.blk k1 (blk_new3 w _ _ _ _)
  clear k1
  go_wp2
  refine wp_region_G (fun _ => false) (by kernel_rfl) ?_
  try simp only [Act.put]
  refine wpAnyG_take 0 rfl (by kernel_rfl) (fun _ _ _ h => h) (YieldsG.loadF (by rfl) _ _ rfl (w.heap.size) rfl (a) _ _ (Ba1) (FA.out) Try.underlying36 rfl (by kernel_rfl)) ?_
  try simp only [Act.put, List.setIfInBounds_toArray, List.set_cons_zero, List.set_cons_succ]
  refine wpAnyG_take 1 rfl (by kernel_rfl) (fun _ _ _ h => h) (YieldsG.loadF (by rfl) _ _ rfl (w.heap.size + 1) rfl (b) _ _ (Bb1) (FB.out) Try.underlying36 rfl (by kernel_rfl)) ?_
  try simp only [Act.put, List.setIfInBounds_toArray, List.set_cons_zero, List.set_cons_succ]
  refine wpAnyG_take 2 rfl (by kernel_rfl) (fun _ _ _ h => h) (YieldsG.call (v := fv mab) (by rfl) 32 _ (fun w9 => by go_simp; try (first | with_reducible rfl | rfl)) (fun w9 h9 => c5 w9)) ?_
  try simp only [Act.put, List.setIfInBounds_toArray, List.set_cons_zero, List.set_cons_succ]
  refine wpAnyG_take 3 rfl (by kernel_rfl) (fun _ _ _ h => h) (YieldsG.loadF (by rfl) _ _ rfl (w.heap.size + 1) rfl (b) _ _ (Bb1) (FB.out) Try.underlying36 rfl (by kernel_rfl)) ?_
  try simp only [Act.put, List.setIfInBounds_toArray, List.set_cons_zero, List.set_cons_succ]
  refine wpAnyG_take 4 rfl (by kernel_rfl) (fun _ _ _ h => h) (YieldsG.loadF (by rfl) _ _ rfl (w.heap.size) rfl (a) _ _ (Ba1) (FA.out) Try.underlying36 rfl (by kernel_rfl)) ?_
  try simp only [Act.put, List.setIfInBounds_toArray, List.set_cons_zero, List.set_cons_succ]
  refine wpAnyG_take 5 rfl (by kernel_rfl) (fun _ _ _ h => h) (YieldsG.call (v := fv mab) (by rfl) 32 _ (fun w9 => by go_simp; try (first | with_reducible rfl | rfl)) (fun w9 h9 => c6 w9)) ?_
  try simp only [Act.put, List.setIfInBounds_toArray, List.set_cons_zero, List.set_cons_succ]
  refine wpAnyG_take 6 rfl (by kernel_rfl) (fun _ _ _ h => h) (YieldsG.pure (v := .bool true) (by rfl) (fun w9 h9 => by go_simp; rw [run_eqGuard_fv]; simp only [Result.andThen_ok])) ?_
  try simp only [Act.put, List.setIfInBounds_toArray, List.set_cons_zero, List.set_cons_succ]
  refine wpAnyG_take 7 rfl (by kernel_rfl) (fun _ _ _ h => h) (YieldsG.pure (by rfl) (fun w9 _ => by go_simp; try with_reducible rfl)) ?_
  try simp only [Act.put, List.setIfInBounds_toArray, List.set_cons_zero, List.set_cons_succ]
  refine wpAnyG_take 8 rfl (by kernel_rfl) (fun _ _ _ h => h) (YieldsG.loadF (by rfl) _ _ rfl (w.heap.size) rfl (a) _ _ (Ba1) (FA.out) Try.underlying36 rfl (by kernel_rfl)) ?_
  try simp only [Act.put, List.setIfInBounds_toArray, List.set_cons_zero, List.set_cons_succ]
  refine wpAnyG_take 9 rfl (by kernel_rfl) (fun _ _ _ h => h) (YieldsG.loadF (by rfl) _ _ rfl (w.heap.size + 1) rfl (b) _ _ (Bb1) (FB.out) Try.underlying36 rfl (by kernel_rfl)) ?_
  try simp only [Act.put, List.setIfInBounds_toArray, List.set_cons_zero, List.set_cons_succ]
  refine wpAnyG_take 10 rfl (by kernel_rfl) (fun _ _ _ h => h) (YieldsG.call (v := fv mab) (by rfl) 32 _ (fun w9 => by go_simp; try (first | with_reducible rfl | rfl)) (fun w9 h9 => c5 w9)) ?_
  try simp only [Act.put, List.setIfInBounds_toArray, List.set_cons_zero, List.set_cons_succ]
  refine wpAnyG_take 11 rfl (by kernel_rfl) (fun _ _ _ h => h) (YieldsG.loadF (by rfl) _ _ rfl (w.heap.size + 2) rfl (c) _ _ (Bc1) (FC.out) Try.underlying36 rfl (by kernel_rfl)) ?_
  try simp only [Act.put, List.setIfInBounds_toArray, List.set_cons_zero, List.set_cons_succ]
  refine wpAnyG_take 12 rfl (by kernel_rfl) (fun _ _ _ h => h) (YieldsG.call (v := fv mabc) (by rfl) 32 _ (fun w9 => by go_simp; try (first | with_reducible rfl | rfl)) (fun w9 h9 => c7 w9)) ?_
  try simp only [Act.put, List.setIfInBounds_toArray, List.set_cons_zero, List.set_cons_succ]
  refine wpAnyG_take 13 rfl (by kernel_rfl) (fun _ _ _ h => h) (YieldsG.loadF (by rfl) _ _ rfl (w.heap.size) rfl (a) _ _ (Ba1) (FA.out) Try.underlying36 rfl (by kernel_rfl)) ?_
  try simp only [Act.put, List.setIfInBounds_toArray, List.set_cons_zero, List.set_cons_succ]
  refine wpAnyG_take 14 rfl (by kernel_rfl) (fun _ _ _ h => h) (YieldsG.loadF (by rfl) _ _ rfl (w.heap.size + 1) rfl (b) _ _ (Bb1) (FB.out) Try.underlying36 rfl (by kernel_rfl)) ?_
  try simp only [Act.put, List.setIfInBounds_toArray, List.set_cons_zero, List.set_cons_succ]
  refine wpAnyG_take 15 rfl (by kernel_rfl) (fun _ _ _ h => h) (YieldsG.loadF (by rfl) _ _ rfl (w.heap.size + 2) rfl (c) _ _ (Bc1) (FC.out) Try.underlying36 rfl (by kernel_rfl)) ?_
  try simp only [Act.put, List.setIfInBounds_toArray, List.set_cons_zero, List.set_cons_succ]
  refine wpAnyG_take 16 rfl (by kernel_rfl) (fun _ _ _ h => h) (YieldsG.call (v := fv mbc) (by rfl) 32 _ (fun w9 => by go_simp; try (first | with_reducible rfl | rfl)) (fun w9 h9 => c8 w9)) ?_
  try simp only [Act.put, List.setIfInBounds_toArray, List.set_cons_zero, List.set_cons_succ]
  refine wpAnyG_take 17 rfl (by kernel_rfl) (fun _ _ _ h => h) (YieldsG.call (v := fv mabc) (by rfl) 32 _ (fun w9 => by go_simp; try (first | with_reducible rfl | rfl)) (fun w9 h9 => c9 w9)) ?_
  try simp only [Act.put, List.setIfInBounds_toArray, List.set_cons_zero, List.set_cons_succ]
  refine wpAnyG_take 18 rfl (by kernel_rfl) (fun _ _ _ h => h) (YieldsG.pure (v := .bool true) (by rfl) (fun w9 h9 => by go_simp; rw [run_eqGuard_fv]; simp only [Result.andThen_ok])) ?_
  try simp only [Act.put, List.setIfInBounds_toArray, List.set_cons_zero, List.set_cons_succ]
  refine wpAnyG_take 19 rfl (by kernel_rfl) (fun _ _ _ h => h) (YieldsG.pure (by rfl) (fun w9 _ => by go_simp; try with_reducible rfl)) ?_
  try simp only [Act.put, List.setIfInBounds_toArray, List.set_cons_zero, List.set_cons_succ]
  refine wpAnyG_take 20 rfl (by kernel_rfl) (fun _ _ _ h => h) (YieldsG.pure (by rfl) (fun w9 _ => by go_simp; try with_reducible rfl)) ?_
  try simp only [Act.put, List.setIfInBounds_toArray, List.set_cons_zero, List.set_cons_succ]
  refine wpAnyG_done (by kernel_rfl) (fun u2 k2 => ?_)
  have hB2 := Below.gr (hB1) k2
  have Ba2 : Blk u2 w.heap.size 36 _ := Gr.blk k2 (Ba1)
  have Bb2 : Blk u2 (w.heap.size + 1) 36 _ := Gr.blk k2 (Bb1)
  have Bc2 : Blk u2 (w.heap.size + 2) 36 _ := Gr.blk k2 (Bc1)
  clear k2
  go_wp2
  refine wp_region_G (fun _ => false) (by kernel_rfl) ?_
  try simp only [Act.put]
  refine wpAnyG_take 0 rfl (by kernel_rfl) (fun _ _ _ h => h) (YieldsG.loadF (by rfl) _ _ rfl (w.heap.size) rfl (a) _ _ (Ba2) (FA.out) Try.underlying36 rfl (by kernel_rfl)) ?_
  try simp only [Act.put, List.setIfInBounds_toArray, List.set_cons_zero, List.set_cons_succ]
  refine wpAnyG_take 1 rfl (by kernel_rfl) (fun _ _ _ h => h) (YieldsG.loadF (by rfl) _ _ rfl (w.heap.size + 1) rfl (b) _ _ (Bb2) (FB.out) Try.underlying36 rfl (by kernel_rfl)) ?_
  try simp only [Act.put, List.setIfInBounds_toArray, List.set_cons_zero, List.set_cons_succ]
  refine wpAnyG_take 2 rfl (by kernel_rfl) (fun _ _ _ h => h) (YieldsG.loadF (by rfl) _ _ rfl (w.heap.size + 2) rfl (c) _ _ (Bc2) (FC.out) Try.underlying36 rfl (by kernel_rfl)) ?_
  try simp only [Act.put, List.setIfInBounds_toArray, List.set_cons_zero, List.set_cons_succ]
  refine wpAnyG_take 3 rfl (by kernel_rfl) (fun _ _ _ h => h) (YieldsG.call (v := fv bc) (by rfl) 25 _ (fun w9 => by go_simp; try (first | with_reducible rfl | rfl)) (fun w9 h9 => c3 w9)) ?_
  try simp only [Act.put, List.setIfInBounds_toArray, List.set_cons_zero, List.set_cons_succ]
  refine wpAnyG_take 4 rfl (by kernel_rfl) (fun _ _ _ h => h) (YieldsG.call (v := fv t) (by rfl) 32 _ (fun w9 => by go_simp; try (first | with_reducible rfl | rfl)) (fun w9 h9 => c10 w9)) ?_
  try simp only [Act.put, List.setIfInBounds_toArray, List.set_cons_zero, List.set_cons_succ]
  refine wpAnyG_take 5 rfl (by kernel_rfl) (fun _ _ _ h => h) (YieldsG.loadF (by rfl) _ _ rfl (w.heap.size) rfl (a) _ _ (Ba2) (FA.out) Try.underlying36 rfl (by kernel_rfl)) ?_
  try simp only [Act.put, List.setIfInBounds_toArray, List.set_cons_zero, List.set_cons_succ]
  refine wpAnyG_take 6 rfl (by kernel_rfl) (fun _ _ _ h => h) (YieldsG.loadF (by rfl) _ _ rfl (w.heap.size + 1) rfl (b) _ _ (Bb2) (FB.out) Try.underlying36 rfl (by kernel_rfl)) ?_
  try simp only [Act.put, List.setIfInBounds_toArray, List.set_cons_zero, List.set_cons_succ]
  refine wpAnyG_take 7 rfl (by kernel_rfl) (fun _ _ _ h => h) (YieldsG.call (v := fv mab) (by rfl) 32 _ (fun w9 => by go_simp; try (first | with_reducible rfl | rfl)) (fun w9 h9 => c5 w9)) ?_
  try simp only [Act.put, List.setIfInBounds_toArray, List.set_cons_zero, List.set_cons_succ]
  refine wpAnyG_take 8 rfl (by kernel_rfl) (fun _ _ _ h => h) (YieldsG.loadF (by rfl) _ _ rfl (w.heap.size) rfl (a) _ _ (Ba2) (FA.out) Try.underlying36 rfl (by kernel_rfl)) ?_
  try simp only [Act.put, List.setIfInBounds_toArray, List.set_cons_zero, List.set_cons_succ]
  refine wpAnyG_take 9 rfl (by kernel_rfl) (fun _ _ _ h => h) (YieldsG.loadF (by rfl) _ _ rfl (w.heap.size + 2) rfl (c) _ _ (Bc2) (FC.out) Try.underlying36 rfl (by kernel_rfl)) ?_
  try simp only [Act.put, List.setIfInBounds_toArray, List.set_cons_zero, List.set_cons_succ]
  refine wpAnyG_take 10 rfl (by kernel_rfl) (fun _ _ _ h => h) (YieldsG.call (v := fv mac) (by rfl) 32 _ (fun w9 => by go_simp; try (first | with_reducible rfl | rfl)) (fun w9 h9 => c11 w9)) ?_
  try simp only [Act.put, List.setIfInBounds_toArray, List.set_cons_zero, List.set_cons_succ]
  refine wpAnyG_take 11 rfl (by kernel_rfl) (fun _ _ _ h => h) (YieldsG.call (v := fv t) (by rfl) 25 _ (fun w9 => by go_simp; try (first | with_reducible rfl | rfl)) (fun w9 h9 => c12 w9)) ?_
  try simp only [Act.put, List.setIfInBounds_toArray, List.set_cons_zero, List.set_cons_succ]
  refine wpAnyG_take 12 rfl (by kernel_rfl) (fun _ _ _ h => h) (YieldsG.pure (v := .bool true) (by rfl) (fun w9 h9 => by go_simp; rw [run_eqGuard_fv]; simp only [Result.andThen_ok])) ?_
  try simp only [Act.put, List.setIfInBounds_toArray, List.set_cons_zero, List.set_cons_succ]
  refine wpAnyG_take 13 rfl (by kernel_rfl) (fun _ _ _ h => h) (YieldsG.pure (by rfl) (fun w9 _ => by go_simp; try with_reducible rfl)) ?_
  try simp only [Act.put, List.setIfInBounds_toArray, List.set_cons_zero, List.set_cons_succ]
  refine wpAnyG_done (by kernel_rfl) (fun u3 k3 => ?_)
  have hB3 := Below.gr (hB2) k3
  have Ba3 : Blk u3 w.heap.size 36 _ := Gr.blk k3 (Ba2)
  have Bb3 : Blk u3 (w.heap.size + 1) 36 _ := Gr.blk k3 (Bb2)
  have Bc3 : Blk u3 (w.heap.size + 2) 36 _ := Gr.blk k3 (Bc2)
  clear k3
  go_wp2
  refine wp_region_G (fun _ => false) (by kernel_rfl) ?_
  try simp only [Act.put]
  refine wpAnyG_take 0 rfl (by kernel_rfl) (fun _ _ _ h => h) (YieldsG.pure (by rfl) (fun w9 _ => by go_simp; try with_reducible rfl)) ?_
  try simp only [Act.put, List.setIfInBounds_toArray, List.set_cons_zero, List.set_cons_succ]
  refine wpAnyG_take 1 rfl (by kernel_rfl) (fun _ _ _ h => h) (YieldsG.pure (by rfl) (fun w9 _ => by go_simp; try with_reducible rfl)) ?_
  try simp only [Act.put, List.setIfInBounds_toArray, List.set_cons_zero, List.set_cons_succ]
  refine wpAnyG_take 2 rfl (by kernel_rfl) (fun _ _ _ h => h) (YieldsG.pure (by rfl) (fun w9 _ => by go_simp; try with_reducible rfl)) ?_
  try simp only [Act.put, List.setIfInBounds_toArray, List.set_cons_zero, List.set_cons_succ]
  refine wpAnyG_take 3 rfl (by kernel_rfl) (fun _ _ _ h => h) (YieldsG.pure (by rfl) (fun w9 _ => by go_simp; try with_reducible rfl)) ?_
  try simp only [Act.put, List.setIfInBounds_toArray, List.set_cons_zero, List.set_cons_succ]
  refine wpAnyG_take 4 rfl (by kernel_rfl) (fun _ _ _ h => h) (YieldsG.pure (by rfl) (fun w9 _ => by go_simp; try with_reducible rfl)) ?_
  try simp only [Act.put, List.setIfInBounds_toArray, List.set_cons_zero, List.set_cons_succ]
  refine wpAnyG_take 5 rfl (by kernel_rfl) (fun _ _ _ h => h) (YieldsG.pure (by rfl) (fun w9 _ => by go_simp; try with_reducible rfl)) ?_
  try simp only [Act.put, List.setIfInBounds_toArray, List.set_cons_zero, List.set_cons_succ]
  refine wpAnyG_take 6 rfl (by kernel_rfl) (fun _ _ _ h => h) (YieldsG.pure (by rfl) (fun w9 _ => by go_simp; try with_reducible rfl)) ?_
  try simp only [Act.put, List.setIfInBounds_toArray, List.set_cons_zero, List.set_cons_succ]
  refine wpAnyG_take 7 rfl (by kernel_rfl) (fun _ _ _ h => h) (YieldsG.pure (by rfl) (fun w9 _ => by go_simp; try with_reducible rfl)) ?_
  try simp only [Act.put, List.setIfInBounds_toArray, List.set_cons_zero, List.set_cons_succ]
  refine wpAnyG_take 8 rfl (by kernel_rfl) (fun _ _ _ h => h) (YieldsG.loadF (by rfl) _ _ rfl (w.heap.size) rfl (a) _ _ (Ba3) (FA.out) Try.underlying36 rfl (by kernel_rfl)) ?_
  try simp only [Act.put, List.setIfInBounds_toArray, List.set_cons_zero, List.set_cons_succ]
  refine wpAnyG_take 9 rfl (by kernel_rfl) (fun _ _ _ h => h) (YieldsG.loadF (by rfl) _ _ rfl (w.heap.size + 1) rfl (b) _ _ (Bb3) (FB.out) Try.underlying36 rfl (by kernel_rfl)) ?_
  try simp only [Act.put, List.setIfInBounds_toArray, List.set_cons_zero, List.set_cons_succ]
  refine wpAnyG_take 10 rfl (by kernel_rfl) (fun _ _ _ h => h) (YieldsG.call (v := fv ab) (by rfl) 25 _ (fun w9 => by go_simp; try (first | with_reducible rfl | rfl)) (fun w9 h9 => c0 w9)) ?_
  try simp only [Act.put, List.setIfInBounds_toArray, List.set_cons_zero, List.set_cons_succ]
  refine wpAnyG_take 11 rfl (by kernel_rfl) (fun _ _ _ h => h) (YieldsG.loadF (by rfl) _ _ rfl (w.heap.size + 1) rfl (b) _ _ (Bb3) (FB.out) Try.underlying36 rfl (by kernel_rfl)) ?_
  try simp only [Act.put, List.setIfInBounds_toArray, List.set_cons_zero, List.set_cons_succ]
  refine wpAnyG_take 12 rfl (by kernel_rfl) (fun _ _ _ h => h) (YieldsG.call (v := fv n) (by rfl) 29 _ (fun w9 => by go_simp; try (first | with_reducible rfl | rfl)) (fun w9 h9 => c13 w9)) ?_
  try simp only [Act.put, List.setIfInBounds_toArray, List.set_cons_zero, List.set_cons_succ]
  refine wpAnyG_take 13 rfl (by kernel_rfl) (fun _ _ _ h => h) (YieldsG.loadF (by rfl) _ _ rfl (w.heap.size) rfl (a) _ _ (Ba3) (FA.out) Try.underlying36 rfl (by kernel_rfl)) ?_
  try simp only [Act.put, List.setIfInBounds_toArray, List.set_cons_zero, List.set_cons_succ]
  refine wpAnyG_take 14 rfl (by kernel_rfl) (fun _ _ _ h => h) (YieldsG.call (v := fv n) (by rfl) 22 _ (fun w9 => by go_simp; try (first | with_reducible rfl | rfl)) (fun w9 h9 => c14 w9)) ?_
  try simp only [Act.put, List.setIfInBounds_toArray, List.set_cons_zero, List.set_cons_succ]
  refine wpAnyG_take 15 rfl (by kernel_rfl) (fun _ _ _ h => h) (YieldsG.pure (v := .bool true) (by rfl) (fun w9 h9 => by go_simp; rw [run_eqGuard_fv]; simp only [Result.andThen_ok])) ?_
  try simp only [Act.put, List.setIfInBounds_toArray, List.set_cons_zero, List.set_cons_succ]
  refine wpAnyG_take 16 rfl (by kernel_rfl) (fun _ _ _ h => h) (YieldsG.pure (by rfl) (fun w9 _ => by go_simp; try with_reducible rfl)) ?_
  try simp only [Act.put, List.setIfInBounds_toArray, List.set_cons_zero, List.set_cons_succ]
  refine wpAnyG_take 17 rfl (by kernel_rfl) (fun _ _ _ h => h) (YieldsG.pure (by rfl) (fun w9 _ => by go_simp; try with_reducible rfl)) ?_
  try simp only [Act.put, List.setIfInBounds_toArray, List.set_cons_zero, List.set_cons_succ]
  refine wpAnyG_take 18 rfl (by kernel_rfl) (fun _ _ _ h => h) (YieldsG.loadF (by rfl) _ _ rfl (w.heap.size) rfl (a) _ _ (Ba3) (FA.out) Try.underlying36 rfl (by kernel_rfl)) ?_
  try simp only [Act.put, List.setIfInBounds_toArray, List.set_cons_zero, List.set_cons_succ]
  refine wpAnyG_take 19 rfl (by kernel_rfl) (fun _ _ _ h => h) (YieldsG.loadF (by rfl) _ _ rfl (w.heap.size) rfl (a) _ _ (Ba3) (FA.out) Try.underlying36 rfl (by kernel_rfl)) ?_
  try simp only [Act.put, List.setIfInBounds_toArray, List.set_cons_zero, List.set_cons_succ]
  refine wpAnyG_take 20 rfl (by kernel_rfl) (fun _ _ _ h => h) (YieldsG.call (v := fv g) (by rfl) 27 _ (fun w9 => by go_simp; try (first | with_reducible rfl | rfl)) (fun w9 h9 => c15 w9)) ?_
  try simp only [Act.put, List.setIfInBounds_toArray, List.set_cons_zero, List.set_cons_succ]
  refine wpAnyG_take 21 rfl (by kernel_rfl) (fun _ _ _ h => h) (YieldsG.call (v := fv z) (by rfl) 25 _ (fun w9 => by go_simp; try (first | with_reducible rfl | rfl)) (fun w9 h9 => c16 w9)) ?_
  try simp only [Act.put, List.setIfInBounds_toArray, List.set_cons_zero, List.set_cons_succ]
  refine wpAnyG_take 22 rfl (by kernel_rfl) (fun _ _ _ h => h) (YieldsG.call (v := fv z) (by rfl) 36 _ (fun w9 => by go_simp; try (first | with_reducible rfl | rfl)) (fun w9 h9 => cz w9)) ?_
  try simp only [Act.put, List.setIfInBounds_toArray, List.set_cons_zero, List.set_cons_succ]
  refine wpAnyG_take 23 rfl (by kernel_rfl) (fun _ _ _ h => h) (YieldsG.pure (v := .bool true) (by rfl) (fun w9 h9 => by go_simp; rw [run_eqGuard_fv]; simp only [Result.andThen_ok])) ?_
  try simp only [Act.put, List.setIfInBounds_toArray, List.set_cons_zero, List.set_cons_succ]
  refine wpAnyG_take 24 rfl (by kernel_rfl) (fun _ _ _ h => h) (YieldsG.pure (by rfl) (fun w9 _ => by go_simp; try with_reducible rfl)) ?_
  try simp only [Act.put, List.setIfInBounds_toArray, List.set_cons_zero, List.set_cons_succ]
  refine wpAnyG_take 25 rfl (by kernel_rfl) (fun _ _ _ h => h) (YieldsG.pure (by rfl) (fun w9 _ => by go_simp; try with_reducible rfl)) ?_
  try simp only [Act.put, List.setIfInBounds_toArray, List.set_cons_zero, List.set_cons_succ]
  refine wpAnyG_take 26 rfl (by kernel_rfl) (fun _ _ _ h => h) (YieldsG.call (v := .bool true) (by rfl) 31 _ (fun w9 => by go_simp; try (first | with_reducible rfl | rfl)) (fun w9 h9 => alive4_any w9)) ?_
  try simp only [Act.put, List.setIfInBounds_toArray, List.set_cons_zero, List.set_cons_succ]
  refine wpAnyG_take 27 rfl (by kernel_rfl) (fun _ _ _ h => h) (YieldsG.pure (by rfl) (fun w9 _ => by go_simp; try with_reducible rfl)) ?_
  try simp only [Act.put, List.setIfInBounds_toArray, List.set_cons_zero, List.set_cons_succ]
  refine wpAnyG_take 28 rfl (by kernel_rfl) (fun _ _ _ h => h) (YieldsG.pure (by rfl) (fun w9 _ => by go_simp; try with_reducible rfl)) ?_
  try simp only [Act.put, List.setIfInBounds_toArray, List.set_cons_zero, List.set_cons_succ]
  refine wpAnyG_done (by kernel_rfl) (fun u4 k4 => ?_)
  have hB4 := Below.gr (hB3) k4
  go_wp2
  go_ret
  exact ⟨rfl, hB4⟩
end Go.Proofs.Ytajjjdmjlloifaa.Sc
