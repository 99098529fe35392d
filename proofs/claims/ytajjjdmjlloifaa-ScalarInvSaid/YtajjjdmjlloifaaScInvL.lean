/-
  The law on inverses, walked.
-/
import Derived.Test.YtajjjdmjlloifaaScInv
import Derived.Test.YtajjjdmjlloifaaScNum
import Derived.Test.YtajjjdmjlloifaaScRefPow
import Derived.Test.YtajjjdmjlloifaaScAlive
namespace Go.Proofs.Ytajjjdmjlloifaa.Sc
open Go.RowKit Go.Lib

theorem inv_is (a : Nat) : pwI a (115792089237316195423570985008687907852837564279074904382605163141518161494337 - 2) = pw a (115792089237316195423570985008687907852837564279074904382605163141518161494337 - 2) := rfl
theorem inv_gen (p q a : Nat) (hp : Nt.Pr p) (hq : q + 1 = p - 1) (h : a % p ≠ 0) : a * (a ^ q % p) % p = 1 := by
  rw [Nat.mul_mod_mod, ← Nat.pow_succ', show q.succ = p - 1 from hq]
  exact Nt.flt hp a h
theorem prime_pM : Nt.Pr pM := Nt.pr_n
theorem inv_one (a : Nat) (h : a % pM ≠ 0) : mulP a (pw a (115792089237316195423570985008687907852837564279074904382605163141518161494337 - 2)) = 1 := by
  obtain ⟨q, hq⟩ : ∃ q, q = 115792089237316195423570985008687907852837564279074904382605163141518161494337 - 2 := ⟨_, rfl⟩
  rw [← hq]
  exact inv_gen pM q a prime_pM (by rw [pM_eq]; omega) h
theorem inv_none (a : Nat) (h : a % pM = 0) : pw a (115792089237316195423570985008687907852837564279074904382605163141518161494337 - 2) = 0 := by
  obtain ⟨q, hq⟩ : ∃ q, q + 1 = 115792089237316195423570985008687907852837564279074904382605163141518161494337 - 2 := ⟨115792089237316195423570985008687907852837564279074904382605163141518161494337 - 3, by omega⟩
  rw [← hq]
  unfold pw
  rw [Nat.pow_mod, h, Nat.pow_succ, Nat.mul_zero, Nat.zero_mod]

set_option maxHeartbeats 4000000 in
set_option maxRecDepth 100000 in
theorem law_inv (w : World) (a : Nat) (ha : a < 115792089237316195423570985008687907853269984665640564039457584007913129639936) : Calls Try.prog 6 #[fv a] w fun e w' => e = .returned (.bool true) ∧ Below w.heap.size w w' := by
  obtain ⟨i, hi⟩ : ∃ i, i = pw a (115792089237316195423570985008687907852837564279074904382605163141518161494337 - 2) := ⟨_, rfl⟩
  have li : i < 115792089237316195423570985008687907853269984665640564039457584007913129639936 := by rw [hi]; exact pw_lt _ _
  obtain ⟨n, hn⟩ : ∃ n, n = a % pM := ⟨_, rfl⟩
  have ln : n < 115792089237316195423570985008687907853269984665640564039457584007913129639936 := by rw [hn]; exact mod_lt a
  obtain ⟨z, hz⟩ : ∃ z, z = 0 := ⟨_, rfl⟩
  obtain ⟨u1, h1⟩ : ∃ u, u = 1 := ⟨_, rfl⟩
  have lz : z < 115792089237316195423570985008687907853269984665640564039457584007913129639936 := by omega
  have lu : u1 < 115792089237316195423570985008687907853269984665640564039457584007913129639936 := by omega
  obtain ⟨b, hb⟩ : ∃ b, b = decide (n = z) := ⟨_, rfl⟩
  have cI : ∀ w, Calls Try.prog 34 #[fv a] w fun e w' => e = .returned (fv i) ∧ Below w.heap.size w w' := by
    intro w; rw [hi, ← inv_is]; exact inv_any w a ha
  have cR : ∀ w, Calls Try.prog 35 #[.agg #[.int .u64 13822214165235122497, .int .u64 13451932020343611451, .int .u64 18446744073709551614, .int .u64 18446744073709551615, .int .u64 4624529908474429119, .int .u64 4994812053365940164, .int .u64 1], fv a] w fun e w' => e = .returned (fv i) ∧ Below w.heap.size w w' := by
    intro w; rw [hi]; exact invRef_any w a ha
  have cP : ∀ w, Calls Try.prog 20 #[] w fun e w' => e = .returned (.agg #[.int .u64 13822214165235122497, .int .u64 13451932020343611451, .int .u64 18446744073709551614, .int .u64 18446744073709551615, .int .u64 4624529908474429119, .int .u64 4994812053365940164, .int .u64 1]) ∧ Below w.heap.size w w' := refN_any
  have cO := fun w => refOf_any w a ha
  have cF := fun w => refSc_any w i li
  have cN : ∀ w, Calls Try.prog 22 #[fv a] w fun e w' => e = .returned (fv n) ∧ Below w.heap.size w w' := by
    intro w; rw [hn]; exact norm_any w a ha
  have c0 : ∀ w, Calls Try.prog 36 #[.int .u64 0] w fun e w' => e = .returned (fv z) ∧ Below w.heap.size w w' := fun w => of_at w z 0 (by rw [hz]; rfl) (by omega)
  have c1 : ∀ w, Calls Try.prog 36 #[.int .u64 1] w fun e w' => e = .returned (fv u1) ∧ Below w.heap.size w w' := fun w => of_at w u1 1 (by rw [h1]; rfl) (by omega)
  have cM : b = false → ∀ w, Calls Try.prog 32 #[fv a, fv i] w fun e w' => e = .returned (fv u1) ∧ Below w.heap.size w w' := fun h w => by
    have hne : a % pM ≠ 0 := by
      rw [hb] at h
      rw [← hn, ← hz]
      simpa using h
    have hm := mulF_any w a i ha li
    rw [show mulP a i = u1 by rw [hi, inv_one a hne, h1]] at hm
    exact hm
  have hiz : b = true → i = z := fun h => by
    have he : a % pM = 0 := by
      rw [hb] at h
      rw [← hn]
      have h' : n = z := by simpa using h
      rw [h', hz]
    rw [hi, inv_none a he, hz]
  have en : ∀ W, (binOp .neq 36 (fv i) (fv i)).run Try.prog W = .ok (.bool false) W := fun W => by rw [run_neq_fv W i i li li]; simp
  have eb : ∀ W, (binOp .eql 36 (fv n) (fv z)).run Try.prog W = .ok (.bool b) W := fun W => by rw [hb]; exact run_eql_fv W n z ln lz
  have e1 : ∀ W, (binOp .eql 36 (fv u1) (fv u1)).run Try.prog W = .ok (.bool true) W := fun W => by rw [run_eql_fv W u1 u1 lu lu]; simp
  have ez : b = true → ∀ W, (binOp .eql 36 (fv i) (fv z)).run Try.prog W = .ok (.bool true) W := fun h W => by rw [run_eql_fv W i z li lz, hiz h]; simp
  have g1 := fun (op : BinOp) x y W => run_eqGuard_fv op x y n z W
  have g2 := fun (op : BinOp) x y W => run_eqGuard_fv op x y u1 u1 W
  obtain ⟨x0, x1, x2, x3, fa⟩ := words_fv a ha
  have FA := Lib.hid fa
  rw [fa] at cI ⊢
  clear fa ha hi li hn ln hz h1 lz lu hb hiz
  go_enter Try.func6, Try.ntmps6
  go_wp2_with fail
  refine (cI _).mono ?_
  rintro e w1 ⟨rfl, k1⟩
  have Fa : Blk w1 w.heap.size 36 _ := Gr.blk k1 (Blk.new w _ _)
  have hB := Below.gr ((Below.refl _ _).alloc (Nat.le_refl _) _) k1
  have z1 := Fa.lt
  clear k1 cI
  go_wp2_with (first | ((with_reducible refine here_store ?_); refine wpList_store_blk rfl _ _ _ rfl (w1.heap.size) (fcs (i)) rfl rfl _ _ (Blk.new w1 _ _) (by kernel_rfl) (by rfl) (fcs_one _) ?_; intro w2 Gi hq hK; have Ga := hK _ (by omega) _ _ (Fa.alloc _); have hG := (hB.alloc (by omega) _).trans (hq _ (by omega))))
  refine wp_region_G (fun _ => false) (by kernel_rfl) ?_
  try simp only [Act.put]
  refine wpAnyG_take 0 rfl (by kernel_rfl) (fun _ _ _ h => h) (YieldsG.loadF (by rfl) _ _ rfl (w1.heap.size) rfl (i) _ _ (Gi) (fv_fcs _) Try.underlying36 rfl (by kernel_rfl)) ?_
  try simp only [Act.put, List.setIfInBounds_toArray, List.set_cons_zero, List.set_cons_succ]
  refine wpAnyG_take 1 rfl (by kernel_rfl) (fun _ _ _ h => h) (YieldsG.call (v := .agg #[.int .u64 13822214165235122497, .int .u64 13451932020343611451, .int .u64 18446744073709551614, .int .u64 18446744073709551615, .int .u64 4624529908474429119, .int .u64 4994812053365940164, .int .u64 1]) (by rfl) 20 _ (fun w9 => by go_simp; try (first | with_reducible rfl | rfl)) (fun w9 h9 => cP w9)) ?_
  try simp only [Act.put, List.setIfInBounds_toArray, List.set_cons_zero, List.set_cons_succ]
  refine wpAnyG_take 2 rfl (by kernel_rfl) (fun _ _ _ h => h) (YieldsG.loadF (by rfl) _ _ rfl (w.heap.size) rfl (a) _ _ (Ga) (FA.out) Try.underlying36 rfl (by kernel_rfl)) ?_
  try simp only [Act.put, List.setIfInBounds_toArray, List.set_cons_zero, List.set_cons_succ]
  refine wpAnyG_take 3 rfl (by kernel_rfl) (fun _ _ _ h => h) (YieldsG.call (v := fv a) (by rfl) 21 _ (fun w9 => by go_simp; try (first | with_reducible rfl | rfl)) (fun w9 h9 => cO w9)) ?_
  try simp only [Act.put, List.setIfInBounds_toArray, List.set_cons_zero, List.set_cons_succ]
  refine wpAnyG_take 4 rfl (by kernel_rfl) (fun _ _ _ h => h) (YieldsG.call (v := fv i) (by rfl) 35 _ (fun w9 => by go_simp; try (first | with_reducible rfl | rfl)) (fun w9 h9 => cR w9)) ?_
  try simp only [Act.put, List.setIfInBounds_toArray, List.set_cons_zero, List.set_cons_succ]
  refine wpAnyG_take 5 rfl (by kernel_rfl) (fun _ _ _ h => h) (YieldsG.call (v := fv i) (by rfl) 23 _ (fun w9 => by go_simp; try (first | with_reducible rfl | rfl)) (fun w9 h9 => cF w9)) ?_
  try simp only [Act.put, List.setIfInBounds_toArray, List.set_cons_zero, List.set_cons_succ]
  refine wpAnyG_take 6 rfl (by kernel_rfl) (fun _ _ _ h => h) (YieldsG.pure (v := .bool false) (by rfl) (fun w9 h9 => by go_simp; rw [run_eqGuard_fv]; simp only [Result.andThen_ok])) ?_
  try simp only [Act.put, List.setIfInBounds_toArray, List.set_cons_zero, List.set_cons_succ]
  refine wpAnyG_take 7 rfl (by kernel_rfl) (fun _ _ _ h => h) (YieldsG.pure (by rfl) (fun w9 _ => by go_simp; try with_reducible rfl)) ?_
  try simp only [Act.put, List.setIfInBounds_toArray, List.set_cons_zero, List.set_cons_succ]
  refine wpAnyG_take 8 rfl (by kernel_rfl) (fun _ _ _ h => h) (YieldsG.call (v := .bool true) (by rfl) 31 _ (fun w9 => by go_simp; try (first | with_reducible rfl | rfl)) (fun w9 h9 => alive4_any w9)) ?_
  try simp only [Act.put, List.setIfInBounds_toArray, List.set_cons_zero, List.set_cons_succ]
  refine wpAnyG_take 9 rfl (by kernel_rfl) (fun _ _ _ h => h) (YieldsG.pure (by rfl) (fun w9 _ => by go_simp; try with_reducible rfl)) ?_
  try simp only [Act.put, List.setIfInBounds_toArray, List.set_cons_zero, List.set_cons_succ]
  refine wpAnyG_take 10 rfl (by kernel_rfl) (fun _ _ _ h => h) (YieldsG.pure (by rfl) (fun w9 _ => by go_simp; try with_reducible rfl)) ?_
  try simp only [Act.put, List.setIfInBounds_toArray, List.set_cons_zero, List.set_cons_succ]
  refine wpAnyG_done (by kernel_rfl) (fun u hu => ?_)
  have Ha := Gr.blk hu Ga
  have Hi := Gr.blk hu Gi
  have hH := Below.gr hG hu
  clear hu Ga Gi hG cP cO cR cF en
  go_wp2_with (first | ((with_reducible refine here_load (d := some 17) ?_); refine wpList_load_fv rfl _ _ rfl (w.heap.size) rfl (a) _ _ _ (Ha) (FA.out) Try.underlying36 rfl (by kernel_rfl) ?_))
  refine (cN _).mono ?_
  rintro e w3 ⟨rfl, k3⟩
  go_wp2_with fail
  refine (c0 _).mono ?_
  rintro e w4 ⟨rfl, k4⟩
  have Ja := Gr.blk k4 (Gr.blk k3 Ha)
  have Ji := Gr.blk k4 (Gr.blk k3 Hi)
  have hJ := Below.gr (Below.gr hH k3) k4
  clear k3 k4 cN Ha Hi hH
  cases b
  · have cMM := cM rfl
    clear ez cM
    go_wp2_with (first | ((with_reducible refine here_load (d := some 24) ?_); refine wpList_load_fv rfl _ _ rfl (w.heap.size) rfl (a) _ _ _ (Ja) (FA.out) Try.underlying36 rfl (by kernel_rfl) ?_) | ((with_reducible refine here_load (d := some 25) ?_); refine wpList_load_fv rfl _ _ rfl (w1.heap.size) rfl (i) _ _ _ (Ji) (fv_fcs i) Try.underlying36 rfl (by kernel_rfl) ?_))
    refine (cMM _).mono ?_
    rintro e w5 ⟨rfl, k5⟩
    go_wp2_with fail
    refine (c1 _).mono ?_
    rintro e w6 ⟨rfl, k6⟩
    have hL := Below.gr (Below.gr hJ k5) k6
    clear k5 k6
    go_wp2
    go_ret
    exact ⟨rfl, hL⟩
  · have ezz := ez rfl
    clear cM ez
    go_wp2
    refine wp_region_G (fun _ => false) (by kernel_rfl) ?_
    try simp only [Act.put]
    refine wpAnyG_take 0 rfl (by kernel_rfl) (fun _ _ _ h => h) (YieldsG.loadF (by rfl) _ _ rfl (w1.heap.size) rfl (i) _ _ (Ji) (fv_fcs _) Try.underlying36 rfl (by kernel_rfl)) ?_
    try simp only [Act.put, List.setIfInBounds_toArray, List.set_cons_zero, List.set_cons_succ]
    refine wpAnyG_take 1 rfl (by kernel_rfl) (fun _ _ _ h => h) (YieldsG.call (v := fv z) (by rfl) 36 _ (fun w9 => by go_simp; try (first | with_reducible rfl | rfl)) (fun w9 h9 => c0 w9)) ?_
    try simp only [Act.put, List.setIfInBounds_toArray, List.set_cons_zero, List.set_cons_succ]
    refine wpAnyG_take 2 rfl (by kernel_rfl) (fun _ _ _ h => h) (YieldsG.pure (v := .bool true) (by rfl) (fun w9 h9 => by go_simp; rw [run_eqGuard_fv]; simp only [Result.andThen_ok])) ?_
    try simp only [Act.put, List.setIfInBounds_toArray, List.set_cons_zero, List.set_cons_succ]
    refine wpAnyG_take 3 rfl (by kernel_rfl) (fun _ _ _ h => h) (YieldsG.pure (by rfl) (fun w9 _ => by go_simp; try with_reducible rfl)) ?_
    try simp only [Act.put, List.setIfInBounds_toArray, List.set_cons_zero, List.set_cons_succ]
    refine wpAnyG_done (by kernel_rfl) (fun v hv => ?_)
    have hL := Below.gr hJ hv
    go_wp2
    go_ret
    exact ⟨rfl, hL⟩
end Go.Proofs.Ytajjjdmjlloifaa.Sc
