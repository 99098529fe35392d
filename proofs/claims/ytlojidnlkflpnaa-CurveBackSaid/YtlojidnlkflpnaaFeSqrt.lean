/-
  fe.Sqrt.
-/
import Derived.Test.YtlojidnlkflpnaaFeRuns
import Derived.Test.YtlojidnlkflpnaaFeEq
namespace Go.Proofs.Ytlojidnlkflpnaa
open Go.RowKit Go.Lib

def rZ1 (x : Nat) : Nat := jn (rMost x) 23 (rSome x)
def rZ2 (x : Nat) : Nat := jn (rZ1 x) 6 (rTwo x)
def rootR (x : Nat) : Nat := sqI (rZ2 x) 2
theorem rootR_lt (x : Nat) : rootR x < 115792089237316195423570985008687907853269984665640564039457584007913129639936 := mulP_lt _ _
theorem rootR_red (x : Nat) : rootR x % pM = rootR x := by
  have h : rootR x = sqI (rZ2 x) 1 * sqI (rZ2 x) 1 % pM := rfl
  rw [h, Nat.mod_mod]
def eRoot : Nat := ((eMost * 2 ^ 23 + eSome) * 2 ^ 6 + eTwo) * 2 ^ 2
theorem rootR_pow (x : Nat) : rootR x % pM = x ^ eRoot % pM := by
  unfold rootR eRoot
  exact sqI_pow (jn_pow (jn_pow (rMost_pow x) (rSome_pow x)) (rTwo_pow x)) 2
/-- the even root, if there is one -/
def sqrtS (x : Nat) : Nat × Bool := if mulP (rootR x) (rootR x) ≠ x % pM then (0, false) else if rootR x % pM % 2 = 1 then (negP (rootR x), true) else (rootR x, true)

set_option maxHeartbeats 4000000 in
set_option maxRecDepth 100000 in
theorem sqrt_any (w : World) (x : Nat) (hx : x < 115792089237316195423570985008687907853269984665640564039457584007913129639936) : Calls Try.prog 70 #[fv x] w fun e w' => e = .returned (.tuple #[fv (sqrtS x).1, .bool (sqrtS x).2]) ∧ Below w.heap.size w w' := by
  obtain ⟨z2, hz2⟩ : ∃ z, z = rTwo x := ⟨_, rfl⟩
  obtain ⟨zs, hzs⟩ : ∃ z, z = rSome x := ⟨_, rfl⟩
  obtain ⟨zm, hzm⟩ : ∃ z, z = rMost x := ⟨_, rfl⟩
  obtain ⟨y1, hy1⟩ : ∃ z, z = rZ1 x := ⟨_, rfl⟩
  obtain ⟨y2, hy2⟩ : ∃ z, z = rZ2 x := ⟨_, rfl⟩
  obtain ⟨r, hr⟩ : ∃ z, z = rootR x := ⟨_, rfl⟩
  obtain ⟨m, hm⟩ : ∃ z, z = mulP r r := ⟨_, rfl⟩
  obtain ⟨n, hn⟩ : ∃ z, z = x % pM := ⟨_, rfl⟩
  obtain ⟨g, hg⟩ : ∃ z, z = negP r := ⟨_, rfl⟩
  have hrl : r < 115792089237316195423570985008687907853269984665640564039457584007913129639936 := by rw [hr]; exact rootR_lt x
  have hml : m < 115792089237316195423570985008687907853269984665640564039457584007913129639936 := by rw [hm]; exact mulP_lt _ _
  have hnl : n < 115792089237316195423570985008687907853269984665640564039457584007913129639936 := by rw [hn]; exact mod_lt x
  have cR : ∀ w, Calls Try.prog 99 #[fv x] w fun e w' => e = .returned (.tuple #[fv z2, fv zs, fv zm]) ∧ Below w.heap.size w w' := by
    intro w; rw [hz2, hzs, hzm]; exact runs_any w x hx
  have c1 := fun w => join_at w zm 23 zs y1 23 rfl (by rw [hzm, hzs, hy1]; rfl) (by rw [hzm]; exact rMost_lt x) (by rw [hzs]; exact rSome_lt x) (by omega)
  have c2 := fun w => join_at w y1 6 z2 y2 6 rfl (by rw [hy1, hz2, hy2]; rfl) (by rw [hy1]; exact jn_lt _ _ _) (by rw [hz2]; exact rTwo_lt x) (by omega)
  have c3 : ∀ w, Calls Try.prog 101 #[fv y2, .int .i64 2] w fun e w' => e = .returned (fv r) ∧ Below w.heap.size w w' := by
    intro w; rw [hr, rootR, ← hy2]; exact square_any w y2 2 (by rw [hy2]; exact jn_lt _ _ _) (by omega)
  have cm : ∀ w, Calls Try.prog 39 #[fv r, fv r] w fun e w' => e = .returned (fv m) ∧ Below w.heap.size w w' := by
    intro w; rw [hm]; exact mulF_any w r r hrl hrl
  have cn : ∀ w, Calls Try.prog 38 #[fv x] w fun e w' => e = .returned (fv n) ∧ Below w.heap.size w w' := by
    intro w; rw [hn]; exact norm_any w x hx
  obtain ⟨o, ho⟩ : ∃ o, o = decide (r % pM % 2 = 1) := ⟨_, rfl⟩
  have co : ∀ w, Calls Try.prog 66 #[fv r] w fun e w' => e = .returned (.bool o) ∧ Below w.heap.size w w' := by
    intro w; rw [ho]; exact odd_any w r hrl
  have cg : ∀ w, Calls Try.prog 48 #[fv r] w fun e w' => e = .returned (fv g) ∧ Below w.heap.size w w' := by
    intro w; rw [hg]; exact negF_any w r hrl
  obtain ⟨b, hb⟩ : ∃ b, b = decide (m ≠ n) := ⟨_, rfl⟩
  have eb : ∀ W, (binOp .neq 24 (fv m) (fv n)).run Try.prog W = .ok (.bool b) W := fun W => by rw [hb]; exact run_neq_fv W m n hml hnl
  have hS : sqrtS x = if b = true then (0, false) else if o = true then (g, true) else (r, true) := by
    unfold sqrtS
    rw [← hr, ← hm, ← hn, ← hg, hb, ho]
    by_cases h1 : m = n <;> by_cases h2 : r % pM % 2 = 1 <;> simp [h1, h2]
  obtain ⟨x0, x1, x2, x3, fx⟩ := words_fv x hx
  have FX := Lib.hid fx
  rw [fx] at cR ⊢
  rw [hS]
  clear fx hx hz2 hzs hzm hy1 hy2 hr hm hn hg hrl hml hnl ho hb hS
  go_enter Try.func70, Try.ntmps70
  go_wp2_with fail
  refine (cR _).mono ?_
  rintro e w10 ⟨rfl, hb⟩
  have B0_a : Blk w10 (w.heap.size) 24 _ := Gr.blk hb (Blk.eq_ ((Blk.new w _ _).alloc _) (fcs_words FX.out).symm)
  have l0_a := B0_a.lt
  have B0_t2 : Blk w10 (w.heap.size + 1) 24 _ := Gr.blk hb (blk_new2 w _ _ _)
  have l0_t2 := B0_t2.lt
  have hB0 := Below.gr (below_alloc2 w _ _) hb
  have sz0 := hB0.size
  clear hb
  go_wp2_with (first | ((with_reducible refine here_store ?_); refine wpList_store_blk rfl _ _ _ rfl (w10.heap.size) (fcs (z2)) rfl rfl _ _ (((Blk.new w10 _ _).alloc _).alloc _) (by kernel_rfl) (by rfl) (fcs_one _) ?_; intro v11t4 hLt4 hqt4 hKt4; have Ct4_a := hKt4 _ (by omega) _ _ ((((B0_a).alloc _).alloc _).alloc _); have Ct4_t2 := hKt4 _ (by omega) _ _ ((((B0_t2).alloc _).alloc _).alloc _); have Ct4_t5 := hKt4 _ (by omega) _ _ ((blk_new2 w10 _ _ _).alloc _); have Ct4_t6 := hKt4 _ (by omega) _ _ (blk_new3 w10 _ _ _ _); have hCt4 := ((((hB0).alloc (by omega) _).alloc (by simp <;> omega) _).alloc (by simp <;> omega) _).trans (hqt4 _ (by omega))) | ((with_reducible refine here_store ?_); refine wpList_store_blk rfl _ _ _ rfl (w10.heap.size + 1) (fcs (zs)) rfl rfl _ _ (Ct4_t5) (by kernel_rfl) (by rfl) (fcs_one _) ?_; intro v11t5 hLt5 hqt5 hKt5; have Ct5_a := hKt5 _ (by omega) _ _ (Ct4_a); have Ct5_t2 := hKt5 _ (by omega) _ _ (Ct4_t2); have Ct5_t6 := hKt5 _ (by omega) _ _ (Ct4_t6); have Ct5_t4 := hKt5 _ (by omega) _ _ (hLt4); have hCt5 := (hCt4).trans (hqt5 _ (by omega))) | ((with_reducible refine here_store ?_); refine wpList_store_blk rfl _ _ _ rfl (w10.heap.size + 2) (fcs (zm)) rfl rfl _ _ (Ct5_t6) (by kernel_rfl) (by rfl) (fcs_one _) ?_; intro v11t6 hLt6 hqt6 hKt6; have Ct6_a := hKt6 _ (by omega) _ _ (Ct5_a); have Ct6_t2 := hKt6 _ (by omega) _ _ (Ct5_t2); have Ct6_t4 := hKt6 _ (by omega) _ _ (Ct5_t4); have Ct6_t5 := hKt6 _ (by omega) _ _ (hLt5); have hCt6 := (hCt5).trans (hqt6 _ (by omega))) | ((with_reducible refine here_load (d := some 14) ?_); refine wpList_load_fv rfl _ _ rfl (w10.heap.size + 2) rfl (zm) _ _ _ (hLt6) (fv_fcs (zm)) Try.underlying24 rfl (by kernel_rfl) ?_) | ((with_reducible refine here_load (d := some 15) ?_); refine wpList_load_fv rfl _ _ rfl (w10.heap.size + 1) rfl (zs) _ _ _ (Ct6_t5) (fv_fcs (zs)) Try.underlying24 rfl (by kernel_rfl) ?_))
  refine (c1 _).mono ?_
  rintro e w11 ⟨rfl, hb⟩
  have B1_a : Blk w11 (w.heap.size) 24 _ := Gr.blk hb (Ct6_a)
  have l1_a := B1_a.lt
  have B1_t2 : Blk w11 (w.heap.size + 1) 24 _ := Gr.blk hb (Ct6_t2)
  have l1_t2 := B1_t2.lt
  have B1_t4 : Blk w11 (w10.heap.size) 24 _ := Gr.blk hb (Ct6_t4)
  have l1_t4 := B1_t4.lt
  have B1_t5 : Blk w11 (w10.heap.size + 1) 24 _ := Gr.blk hb (Ct6_t5)
  have l1_t5 := B1_t5.lt
  have B1_t6 : Blk w11 (w10.heap.size + 2) 24 _ := Gr.blk hb (hLt6)
  have l1_t6 := B1_t6.lt
  have hB1 := Below.gr (hCt6) hb
  have sz1 := hB1.size
  clear hb
  go_wp2_with (first | ((with_reducible refine here_store ?_); refine wpList_store_blk rfl _ _ _ rfl (w11.heap.size) (fcs (y1)) rfl rfl _ _ (Blk.new w11 _ _) (by kernel_rfl) (by rfl) (fcs_one _) ?_; intro v12 hL2 hq2 hK2; have C2_a := hK2 _ (by omega) _ _ ((B1_a).alloc _); have C2_t2 := hK2 _ (by omega) _ _ ((B1_t2).alloc _); have C2_t4 := hK2 _ (by omega) _ _ ((B1_t4).alloc _); have C2_t5 := hK2 _ (by omega) _ _ ((B1_t5).alloc _); have C2_t6 := hK2 _ (by omega) _ _ ((B1_t6).alloc _); have hC2 := (((hB1).alloc (by omega) _)).trans (hq2 _ (by omega))) | ((with_reducible refine here_load (d := some 17) ?_); refine wpList_load_fv rfl _ _ rfl (w11.heap.size) rfl (y1) _ _ _ (hL2) (fv_fcs (y1)) Try.underlying24 rfl (by kernel_rfl) ?_) | ((with_reducible refine here_load (d := some 18) ?_); refine wpList_load_fv rfl _ _ rfl (w10.heap.size) rfl (z2) _ _ _ (C2_t4) (fv_fcs (z2)) Try.underlying24 rfl (by kernel_rfl) ?_))
  refine (c2 _).mono ?_
  rintro e w12 ⟨rfl, hb⟩
  have B2_a : Blk w12 (w.heap.size) 24 _ := Gr.blk hb (C2_a)
  have l2_a := B2_a.lt
  have B2_t2 : Blk w12 (w.heap.size + 1) 24 _ := Gr.blk hb (C2_t2)
  have l2_t2 := B2_t2.lt
  have B2_t4 : Blk w12 (w10.heap.size) 24 _ := Gr.blk hb (C2_t4)
  have l2_t4 := B2_t4.lt
  have B2_t5 : Blk w12 (w10.heap.size + 1) 24 _ := Gr.blk hb (C2_t5)
  have l2_t5 := B2_t5.lt
  have B2_t6 : Blk w12 (w10.heap.size + 2) 24 _ := Gr.blk hb (C2_t6)
  have l2_t6 := B2_t6.lt
  have B2_t7 : Blk w12 (w11.heap.size) 24 _ := Gr.blk hb (hL2)
  have l2_t7 := B2_t7.lt
  have hB2 := Below.gr (hC2) hb
  have sz2 := hB2.size
  clear hb
  go_wp2_with (first | ((with_reducible refine here_store ?_); refine wpList_store_blk rfl _ _ _ rfl (w11.heap.size) (fcs (y2)) rfl rfl _ _ (B2_t7) (by kernel_rfl) (by rfl) (fcs_one _) ?_; intro v13 hL3 hq3 hK3; have C3_a := hK3 _ (by omega) _ _ (B2_a); have C3_t2 := hK3 _ (by omega) _ _ (B2_t2); have C3_t4 := hK3 _ (by omega) _ _ (B2_t4); have C3_t5 := hK3 _ (by omega) _ _ (B2_t5); have C3_t6 := hK3 _ (by omega) _ _ (B2_t6); have hC3 := (hB2).trans (hq3 _ (by omega))) | ((with_reducible refine here_load (d := some 20) ?_); refine wpList_load_fv rfl _ _ rfl (w11.heap.size) rfl (y2) _ _ _ (hL3) (fv_fcs (y2)) Try.underlying24 rfl (by kernel_rfl) ?_))
  refine (c3 _).mono ?_
  rintro e w13 ⟨rfl, hb⟩
  have B3_a : Blk w13 (w.heap.size) 24 _ := Gr.blk hb (C3_a)
  have l3_a := B3_a.lt
  have B3_t2 : Blk w13 (w.heap.size + 1) 24 _ := Gr.blk hb (C3_t2)
  have l3_t2 := B3_t2.lt
  have B3_t4 : Blk w13 (w10.heap.size) 24 _ := Gr.blk hb (C3_t4)
  have l3_t4 := B3_t4.lt
  have B3_t5 : Blk w13 (w10.heap.size + 1) 24 _ := Gr.blk hb (C3_t5)
  have l3_t5 := B3_t5.lt
  have B3_t6 : Blk w13 (w10.heap.size + 2) 24 _ := Gr.blk hb (C3_t6)
  have l3_t6 := B3_t6.lt
  have B3_t7 : Blk w13 (w11.heap.size) 24 _ := Gr.blk hb (hL3)
  have l3_t7 := B3_t7.lt
  have hB3 := Below.gr (hC3) hb
  have sz3 := hB3.size
  clear hb
  go_wp2_with (first | ((with_reducible refine here_store ?_); refine wpList_store_blk rfl _ _ _ rfl (w11.heap.size) (fcs (r)) rfl rfl _ _ (B3_t7) (by kernel_rfl) (by rfl) (fcs_one _) ?_; intro v14 hL4 hq4 hK4; have C4_a := hK4 _ (by omega) _ _ (B3_a); have C4_t2 := hK4 _ (by omega) _ _ (B3_t2); have C4_t4 := hK4 _ (by omega) _ _ (B3_t4); have C4_t5 := hK4 _ (by omega) _ _ (B3_t5); have C4_t6 := hK4 _ (by omega) _ _ (B3_t6); have hC4 := (hB3).trans (hq4 _ (by omega))))
  refine wp_region_G (fun _ => false) (by kernel_rfl) ?_
  try simp only [Act.put]
  refine wpAnyG_take 0 rfl (by kernel_rfl) (fun _ _ _ h => h) (YieldsG.loadF (by rfl) _ _ rfl (w11.heap.size) rfl (r) _ _ (hL4) (fv_fcs _) Try.underlying24 rfl (by kernel_rfl)) ?_
  try simp only [Act.put, List.setIfInBounds_toArray, List.set_cons_zero, List.set_cons_succ]
  refine wpAnyG_take 1 rfl (by kernel_rfl) (fun _ _ _ h => h) (YieldsG.loadF (by rfl) _ _ rfl (w11.heap.size) rfl (r) _ _ (hL4) (fv_fcs _) Try.underlying24 rfl (by kernel_rfl)) ?_
  try simp only [Act.put, List.setIfInBounds_toArray, List.set_cons_zero, List.set_cons_succ]
  refine wpAnyG_take 2 rfl (by kernel_rfl) (fun _ _ _ h => h) (YieldsG.call (v := fv m) (by rfl) 39 _ (fun w9 => by go_simp; try (first | with_reducible rfl | rfl)) (fun w9 h9 => cm w9)) ?_
  try simp only [Act.put, List.setIfInBounds_toArray, List.set_cons_zero, List.set_cons_succ]
  refine wpAnyG_take 3 rfl (by kernel_rfl) (fun _ _ _ h => h) (YieldsG.loadF (by rfl) _ _ rfl (w.heap.size) rfl (x) _ _ (C4_a) (fv_fcs _) Try.underlying24 rfl (by kernel_rfl)) ?_
  try simp only [Act.put, List.setIfInBounds_toArray, List.set_cons_zero, List.set_cons_succ]
  refine wpAnyG_take 4 rfl (by kernel_rfl) (fun _ _ _ h => h) (YieldsG.call (v := fv n) (by rfl) 38 _ (fun w9 => by go_simp; try (first | with_reducible rfl | rfl)) (fun w9 h9 => cn w9)) ?_
  try simp only [Act.put, List.setIfInBounds_toArray, List.set_cons_zero, List.set_cons_succ]
  refine wpAnyG_take 5 rfl (by kernel_rfl) (fun _ _ _ h => h) (YieldsG.pure (v := .bool b) (by rfl) (fun w9 h9 => by go_simp; rw [run_eqGuard_fv]; simp only [Result.andThen_ok])) ?_
  try simp only [Act.put, List.setIfInBounds_toArray, List.set_cons_zero, List.set_cons_succ]
  refine wpAnyG_done (by kernel_rfl) (fun u hu => ?_)
  have hbu := Below.gr (hC4) hu
  have Et2 := Gr.blk hu C4_t2
  have lt2 := Et2.lt
  have Et7 := Gr.blk hu hL4
  have lt7 := Et7.lt
  clear eb cm cn c1 c2 c3 cR
  cases b
  · skip
    go_wp2_with (first | ((with_reducible refine here_load (d := some 29) ?_); refine wpList_load_fv rfl _ _ rfl (w11.heap.size) rfl (r) _ _ _ (Et7) (fv_fcs (r)) Try.underlying24 rfl (by kernel_rfl) ?_))
    refine (co _).mono ?_
    rintro e w30 ⟨rfl, hb⟩
    have B20_t2 : Blk w30 (w.heap.size + 1) 24 _ := Gr.blk hb (Et2)
    have l20_t2 := B20_t2.lt
    have B20_t7 : Blk w30 (w11.heap.size) 24 _ := Gr.blk hb (Et7)
    have l20_t7 := B20_t7.lt
    have hB20 := Below.gr (hbu) hb
    have sz20 := hB20.size
    clear hb
    cases o
    · skip
      go_wp2_with (first | ((with_reducible refine here_load (d := some 33) ?_); refine wpList_load_fv rfl _ _ rfl (w11.heap.size) rfl (r) _ _ _ (B20_t7) (fv_fcs (r)) Try.underlying24 rfl (by kernel_rfl) ?_) | ((with_reducible refine here_store ?_); refine wpList_store_blk rfl _ _ _ rfl (w.heap.size + 1) (fcs (r)) rfl rfl _ _ (B20_t2) (by kernel_rfl) (by rfl) (fcs_one _) ?_; intro v31 hL21 hq21 hK21; have C21_t7 := hK21 _ (by omega) _ _ (B20_t7); have hC21 := (hB20).trans (hq21 _ (by omega))))
      exact bodyPost_ret (res_cell_tmp rfl _ _ (w.heap.size + 1) _ _ _ _ rfl hL21 rfl Try.underlying24 rfl (by kernel_rfl)) rfl ⟨rfl, hC21⟩
    · skip
      go_wp2_with (first | ((with_reducible refine here_load (d := some 31) ?_); refine wpList_load_fv rfl _ _ rfl (w11.heap.size) rfl (r) _ _ _ (B20_t7) (fv_fcs (r)) Try.underlying24 rfl (by kernel_rfl) ?_))
      refine (cg _).mono ?_
      rintro e w31 ⟨rfl, hb⟩
      have B21_t2 : Blk w31 (w.heap.size + 1) 24 _ := Gr.blk hb (B20_t2)
      have l21_t2 := B21_t2.lt
      have B21_t7 : Blk w31 (w11.heap.size) 24 _ := Gr.blk hb (B20_t7)
      have l21_t7 := B21_t7.lt
      have hB21 := Below.gr (hB20) hb
      have sz21 := hB21.size
      clear hb
      go_wp2_with (first | ((with_reducible refine here_store ?_); refine wpList_store_blk rfl _ _ _ rfl (w11.heap.size) (fcs (g)) rfl rfl _ _ (B21_t7) (by kernel_rfl) (by rfl) (fcs_one _) ?_; intro v32 hL22 hq22 hK22; have C22_t2 := hK22 _ (by omega) _ _ (B21_t2); have hC22 := (hB21).trans (hq22 _ (by omega))) | ((with_reducible refine here_load (d := some 33) ?_); refine wpList_load_fv rfl _ _ rfl (w11.heap.size) rfl (g) _ _ _ (hL22) (fv_fcs (g)) Try.underlying24 rfl (by kernel_rfl) ?_) | ((with_reducible refine here_store ?_); refine wpList_store_blk rfl _ _ _ rfl (w.heap.size + 1) (fcs (g)) rfl rfl _ _ (C22_t2) (by kernel_rfl) (by rfl) (fcs_one _) ?_; intro vz hLz hqz hKz))
      exact bodyPost_ret (res_cell_tmp rfl _ _ (w.heap.size + 1) _ _ _ _ rfl hLz rfl Try.underlying24 rfl (by kernel_rfl)) rfl ⟨rfl, (hC22).trans (hqz _ (by omega))⟩
  · skip
    go_wp2_with (first | ((with_reducible refine here_store ?_); refine wpList_store_blk rfl _ _ _ rfl (w.heap.size + 1) _ rfl rfl _ _ (Et2) (by kernel_rfl) (by rfl) (by simp [Value.oneCell']) ?_; intro vz hLz hqz hKz))
    exact bodyPost_ret (res_cell_tmp rfl _ _ (w.heap.size + 1) _ _ _ _ rfl hLz rfl Try.underlying24 rfl (by kernel_rfl)) rfl ⟨rfl, hbu.trans (hqz _ (by omega))⟩
end Go.Proofs.Ytlojidnlkflpnaa
