/-
  scalar.Mul.
-/
import Derived.Test.YtajjjdmjlloifaaScProd
namespace Go.Proofs.Ytajjjdmjlloifaa.Sc
open Go.RowKit Go.Lib

theorem mul_step (s h l h' s' : Nat) (hl : l + 115792089237316195423570985008687907853269984665640564039457584007913129639936 * h' = h * 432420386565659656852420866394968145599) (hs : s' = addP s l) : (s' + 115792089237316195423570985008687907853269984665640564039457584007913129639936 * h') % pM = (s + 115792089237316195423570985008687907853269984665640564039457584007913129639936 * h) % pM := by
  rw [hs, addP, Nat.mod_add_mod]
  refine mod_of_mult (k := h) ?_
  omega
theorem fold_ex (h : Nat) (_ : h < 115792089237316195423570985008687907853269984665640564039457584007913129639936) : ∃ l h' : Nat, l < 115792089237316195423570985008687907853269984665640564039457584007913129639936 ∧ l + 115792089237316195423570985008687907853269984665640564039457584007913129639936 * h' = h * 432420386565659656852420866394968145599 := ⟨h * 432420386565659656852420866394968145599 % 115792089237316195423570985008687907853269984665640564039457584007913129639936, h * 432420386565659656852420866394968145599 / 115792089237316195423570985008687907853269984665640564039457584007913129639936, by omega, by omega⟩
theorem gap_at (w : World) (g : Nat) (hg : g = 432420386565659656852420866394968145599) : Calls Try.prog 70 #[] w fun e w' => e = .returned (fv g) ∧ Below w.heap.size w w' := by
  subst hg; exact gap_any w

set_option maxHeartbeats 8000000 in
set_option maxRecDepth 100000 in
theorem mulF_any (w : World) (x y : Nat) (hx : x < 115792089237316195423570985008687907853269984665640564039457584007913129639936) (hy : y < 115792089237316195423570985008687907853269984665640564039457584007913129639936) : Calls Try.prog 32 #[fv x, fv y] w fun e w' => e = .returned (fv (mulP x y)) ∧ Below w.heap.size w w' := by
  have hxy : x * y ≤ 115792089237316195423570985008687907853269984665640564039457584007913129639935 * 115792089237316195423570985008687907853269984665640564039457584007913129639935 := Nat.mul_le_mul (by omega) (by omega)
  obtain ⟨s0, h0, ls0, lh0, e0⟩ : ∃ lo hi : Nat, lo < 115792089237316195423570985008687907853269984665640564039457584007913129639936 ∧ hi < 115792089237316195423570985008687907853269984665640564039457584007913129639936 ∧ lo + 115792089237316195423570985008687907853269984665640564039457584007913129639936 * hi = x * y := ⟨x * y % 115792089237316195423570985008687907853269984665640564039457584007913129639936, x * y / 115792089237316195423570985008687907853269984665640564039457584007913129639936, by omega, by omega, by omega⟩
  obtain ⟨l1, h1, ll1, e1⟩ := fold_ex h0 lh0
  have lh1 : h1 ≤ 432420386565659656852420866394968145599 := by omega
  obtain ⟨l2, h2, ll2, e2⟩ := fold_ex h1 (by omega)
  have lh2 : h2 ≤ 2 := by omega
  obtain ⟨l3, h3, ll3, e3⟩ := fold_ex h2 (by omega)
  have lh3 : h3 = 0 := by omega
  obtain ⟨s1, hs1⟩ : ∃ s, s = addP s0 l1 := ⟨_, rfl⟩
  obtain ⟨s2, hs2⟩ : ∃ s, s = addP s1 l2 := ⟨_, rfl⟩
  obtain ⟨s3, hs3⟩ : ∃ s, s = addP s2 l3 := ⟨_, rfl⟩
  have ls1 : s1 < 115792089237316195423570985008687907853269984665640564039457584007913129639936 := by rw [hs1]; exact addP_lt _ _
  have ls2 : s2 < 115792089237316195423570985008687907853269984665640564039457584007913129639936 := by rw [hs2]; exact addP_lt _ _
  have hfin : mulP x y = s3 := by
    have q1 := mul_step s0 h0 l1 h1 s1 e1 hs1
    have q2 := mul_step s1 h1 l2 h2 s2 e2 hs2
    have q3 := mul_step s2 h2 l3 h3 s3 e3 hs3
    rw [q2, q1, e0, lh3, Nat.mul_zero, Nat.add_zero] at q3
    have : s3 % pM = s3 := by rw [hs3, addP, Nat.mod_mod]
    rw [mulP, ← q3, this]
  obtain ⟨g, hg⟩ : ∃ g, g = 432420386565659656852420866394968145599 := ⟨_, rfl⟩
  have cg := fun w => gap_at w g hg
  have cp := fun w => product_any w x y s0 h0 hx hy ls0 lh0 e0
  have p1 := fun w => product_any w h0 g l1 h1 lh0 (by omega) ll1 (by omega) (by rw [hg]; exact e1)
  have p2 := fun w => product_any w h1 g l2 h2 (by omega) (by omega) ll2 (by omega) (by rw [hg]; exact e2)
  have p3 := fun w => product_any w h2 g l3 h3 (by omega) (by omega) ll3 (by omega) (by rw [hg]; exact e3)
  have c1 : ∀ w, Calls Try.prog 25 #[fv s0, fv l1] w fun e w' => e = .returned (fv s1) ∧ Below w.heap.size w w' := by
    intro w; rw [hs1]; exact addF_any w s0 l1 ls0 ll1
  have c2 : ∀ w, Calls Try.prog 25 #[fv s1, fv l2] w fun e w' => e = .returned (fv s2) ∧ Below w.heap.size w w' := by
    intro w; rw [hs2]; exact addF_any w s1 l2 ls1 ll2
  have c3 : ∀ w, Calls Try.prog 25 #[fv s2, fv l3] w fun e w' => e = .returned (fv s3) ∧ Below w.heap.size w w' := by
    intro w; rw [hs3]; exact addF_any w s2 l3 ls2 ll3
  rw [hfin]
  obtain ⟨x0, x1, x2, x3, fx⟩ := words_fv x hx
  obtain ⟨y0, y1, y2, y3, fy⟩ := words_fv y hy
  have FX := Lib.hid fx
  have FY := Lib.hid fy
  rw [fx, fy]
  clear fx fy hx hy hxy ls0 lh0 e0 ll1 e1 lh1 ll2 e2 lh2 ll3 e3 lh3 hs1 hs2 hs3 ls1 ls2 hfin hg
  go_enter Try.func32, Try.ntmps32
  go_wp2_with (first | ((with_reducible refine here_load (d := some 9) ?_); refine wpList_load_fv rfl _ _ rfl (w.heap.size) rfl (x) _ _ _ (((Blk.new w _ _).alloc _).alloc _) (FX.out) Try.underlying36 rfl (by kernel_rfl) ?_) | ((with_reducible refine here_load (d := some 10) ?_); refine wpList_load_fv rfl _ _ rfl (w.heap.size + 1) rfl (y) _ _ _ ((blk_new2 w _ _ _).alloc _) (FY.out) Try.underlying36 rfl (by kernel_rfl) ?_))
  refine (cp _).mono ?_
  rintro e w1 ⟨rfl, k1⟩
  have BR : Blk w1 (w.heap.size + 2) 36 _ := Gr.blk k1 (blk_new3 w _ _ _ _)
  have hB := Below.gr (below_alloc3 w _ _ _) k1
  have sz : w.heap.size + 2 < w1.heap.size := BR.lt
  clear k1 cp
  go_wp2_with (first | ((with_reducible refine here_store ?_); refine wpList_store_blk rfl _ _ _ rfl (w1.heap.size) (fcs (s0)) rfl rfl _ _ ((Blk.new w1 _ _).alloc _) (by kernel_rfl) (by rfl) (fcs_one _) ?_; intro w2 hL2 hB2' hK2; have CR2 := hK2 _ (by omega) _ _ ((BR.alloc _).alloc _); have CH2 := hK2 _ (by omega) _ _ (blk_new2 w1 _ _ _); have hB2 := ((hB.alloc (by omega) _).alloc (by simp <;> omega) _).trans (hB2' _ (by omega))) | ((with_reducible refine here_store ?_); refine wpList_store_blk rfl _ _ _ rfl (w1.heap.size + 1) (fcs (h0)) rfl rfl _ _ (CH2) (by kernel_rfl) (by rfl) (fcs_one _) ?_; intro w3 hL3 hB3' hK3; have CR3 := hK3 _ (by omega) _ _ CR2; have CS3 := hK3 _ (by omega) _ _ hL2; have hB3 := hB2.trans (hB3' _ (by omega))))
  go_loopw [14] (fun i wr => Below w.heap.size w wr ∧ Blk wr (w.heap.size + 2) 36 #[.int .u64 0, .int .u64 0, .int .u64 0, .int .u64 0] ∧ Hid ((i = .int .i64 0 ∧ Blk wr w1.heap.size 36 (fcs s0) ∧ Blk wr (w1.heap.size + 1) 36 (fcs h0)) ∨ (i = .int .i64 1 ∧ Blk wr w1.heap.size 36 (fcs s1) ∧ Blk wr (w1.heap.size + 1) 36 (fcs h1)) ∨ (i = .int .i64 2 ∧ Blk wr w1.heap.size 36 (fcs s2) ∧ Blk wr (w1.heap.size + 1) 36 (fcs h2)) ∨ (i = .int .i64 3 ∧ Blk wr w1.heap.size 36 (fcs s3) ∧ Blk wr (w1.heap.size + 1) 36 (fcs h3)))) (fun i _ => 3 - (intOf i).toNat)
  case atStart => exact ⟨hB3, CR3, Lib.hid (.inl ⟨rfl, CS3, hL3⟩)⟩
  case round =>
    obtain ⟨hb, CR, HI⟩ := hrel
    rcases HI.out with ⟨rfl, BS, BH⟩ | ⟨rfl, BS, BH⟩ | ⟨rfl, BS, BH⟩ | ⟨rfl, BS, BH⟩
    · clear HI
      have szr : w1.heap.size + 1 < wr.heap.size := BH.lt
      go_wp2
      refine wp_region_G (fun j => j == 6 || j == 7) (by kernel_rfl) ?_
      try simp only [Act.put]
      refine wpAnyG_take 0 rfl (by kernel_rfl) (fun _ _ _ h => h) (YieldsG.loadF (by rfl) _ _ rfl (w1.heap.size + 1) rfl (h0) _ _ (BH.alloc _) (fv_fcs _) Try.underlying36 rfl (by kernel_rfl)) ?_
      try simp only [Act.put, List.setIfInBounds_toArray, List.set_cons_zero, List.set_cons_succ]
      refine wpAnyG_take 1 rfl (by kernel_rfl) (fun _ _ _ h => h) (YieldsG.call (v := fv g) (by rfl) 70 _ (fun w9 => by go_simp; try (first | with_reducible rfl | rfl)) (fun w9 h9 => cg w9)) ?_
      try simp only [Act.put, List.setIfInBounds_toArray, List.set_cons_zero, List.set_cons_succ]
      refine wpAnyG_take 2 rfl (by kernel_rfl) (fun _ _ _ h => h) (YieldsG.call (v := .tuple #[fv l1, fv h1]) (by rfl) 69 _ (fun w9 => by go_simp; try (first | with_reducible rfl | rfl)) (fun w9 h9 => p1 w9)) ?_
      try simp only [Act.put, List.setIfInBounds_toArray, List.set_cons_zero, List.set_cons_succ]
      refine wpAnyG_take 3 rfl (by kernel_rfl) (fun _ _ _ h => h) (YieldsG.pure (by rfl) (fun w9 _ => by go_simp; try with_reducible rfl)) ?_
      try simp only [Act.put, List.setIfInBounds_toArray, List.set_cons_zero, List.set_cons_succ]
      refine wpAnyG_take 4 rfl (by kernel_rfl) (fun _ _ _ h => h) (YieldsG.pure (by rfl) (fun w9 _ => by go_simp; try with_reducible rfl)) ?_
      try simp only [Act.put, List.setIfInBounds_toArray, List.set_cons_zero, List.set_cons_succ]
      refine wpAnyG_takeA 5 rfl (by kernel_rfl) (fun _ _ _ h => h) (fun _ => YieldsG.pure (by rfl) (fun w9 _ => by go_simp; try with_reducible rfl)) ?_
      try simp only [Act.put, List.setIfInBounds_toArray, List.set_cons_zero, List.set_cons_succ]
      refine wpAnyG_storeK 6 rfl (by kernel_rfl) (by rfl) _ _ _ rfl (wr.heap.size) (fcs l1) rfl rfl _ _ (Blk.new wr _ _) (by kernel_rfl) (by rfl) (fcs_one _) rfl (fun u1 g1 v1 hB1 hK1 hL1 => ?_)
      try simp only [Act.put]
      have BH1 := hK1 _ (by omega) _ _ (Gr.blk g1 (BH.alloc _))
      have BS1 := hK1 _ (by omega) _ _ (Gr.blk g1 (BS.alloc _))
      have CR1 := hK1 _ (by omega) _ _ (Gr.blk g1 (CR.alloc _))
      have hb1 := (Below.gr (hb.alloc (by omega) _) g1).trans (hB1 _ (by omega))
      refine wpAnyG_storeK 7 rfl (by kernel_rfl) (by rfl) _ _ _ rfl (w1.heap.size + 1) (fcs h1) rfl rfl _ _ (BH1) (by kernel_rfl) (by rfl) (fcs_one _) rfl (fun u2 g2 v2 hB2 hK2 hL2 => ?_)
      try simp only [Act.put]
      have BL2 := hK2 _ (by omega) _ _ (Gr.blk g2 hL1)
      have BS2 := hK2 _ (by omega) _ _ (Gr.blk g2 BS1)
      have CR2 := hK2 _ (by omega) _ _ (Gr.blk g2 CR1)
      have hb2 := (Below.gr hb1 g2).trans (hB2 _ (by omega))
      refine wpAnyG_done (by kernel_rfl) (fun v hv => ?_)
      have DH := Gr.blk hv hL2
      have DL := Gr.blk hv BL2
      have DS := Gr.blk hv BS2
      have DR := Gr.blk hv CR2
      have hbv := Below.gr hb2 hv
      clear hv g1 g2 BH1 BS1 CR1 hb1 BL2 BS2 CR2 hb2 hL1 hL2 hB1 hB2 hK1 hK2
      go_wp2_with (first | ((with_reducible refine here_load (d := some 22) ?_); refine wpList_load_fv rfl _ _ rfl (w1.heap.size) rfl (s0) _ _ _ (DS) (fv_fcs _) Try.underlying36 rfl (by kernel_rfl) ?_) | ((with_reducible refine here_load (d := some 23) ?_); refine wpList_load_fv rfl _ _ rfl (wr.heap.size) rfl (l1) _ _ _ (DL) (fv_fcs _) Try.underlying36 rfl (by kernel_rfl) ?_))
      refine (c1 _).mono ?_
      rintro e y1 ⟨rfl, k1⟩
      have EH := Gr.blk k1 DH
      have ES := Gr.blk k1 DS
      have ER := Gr.blk k1 DR
      have hby := Below.gr hbv k1
      clear k1
      go_wp2_with (first | ((with_reducible refine here_store ?_); refine wpList_store_blk rfl _ _ _ rfl (w1.heap.size) (fcs (s1)) rfl rfl _ _ (ES) (by kernel_rfl) (by rfl) (fcs_one _) ?_; intro y2 hLy hBy hKy))
      exact ⟨⟨hby.trans (hBy _ (by omega)), hKy _ (by omega) _ _ ER, Lib.hid (.inr (.inl (⟨rfl, hLy, hKy _ (by omega) _ _ EH⟩)))⟩, by decide⟩
    · clear HI
      have szr : w1.heap.size + 1 < wr.heap.size := BH.lt
      go_wp2
      refine wp_region_G (fun j => j == 6 || j == 7) (by kernel_rfl) ?_
      try simp only [Act.put]
      refine wpAnyG_take 0 rfl (by kernel_rfl) (fun _ _ _ h => h) (YieldsG.loadF (by rfl) _ _ rfl (w1.heap.size + 1) rfl (h1) _ _ (BH.alloc _) (fv_fcs _) Try.underlying36 rfl (by kernel_rfl)) ?_
      try simp only [Act.put, List.setIfInBounds_toArray, List.set_cons_zero, List.set_cons_succ]
      refine wpAnyG_take 1 rfl (by kernel_rfl) (fun _ _ _ h => h) (YieldsG.call (v := fv g) (by rfl) 70 _ (fun w9 => by go_simp; try (first | with_reducible rfl | rfl)) (fun w9 h9 => cg w9)) ?_
      try simp only [Act.put, List.setIfInBounds_toArray, List.set_cons_zero, List.set_cons_succ]
      refine wpAnyG_take 2 rfl (by kernel_rfl) (fun _ _ _ h => h) (YieldsG.call (v := .tuple #[fv l2, fv h2]) (by rfl) 69 _ (fun w9 => by go_simp; try (first | with_reducible rfl | rfl)) (fun w9 h9 => p2 w9)) ?_
      try simp only [Act.put, List.setIfInBounds_toArray, List.set_cons_zero, List.set_cons_succ]
      refine wpAnyG_take 3 rfl (by kernel_rfl) (fun _ _ _ h => h) (YieldsG.pure (by rfl) (fun w9 _ => by go_simp; try with_reducible rfl)) ?_
      try simp only [Act.put, List.setIfInBounds_toArray, List.set_cons_zero, List.set_cons_succ]
      refine wpAnyG_take 4 rfl (by kernel_rfl) (fun _ _ _ h => h) (YieldsG.pure (by rfl) (fun w9 _ => by go_simp; try with_reducible rfl)) ?_
      try simp only [Act.put, List.setIfInBounds_toArray, List.set_cons_zero, List.set_cons_succ]
      refine wpAnyG_takeA 5 rfl (by kernel_rfl) (fun _ _ _ h => h) (fun _ => YieldsG.pure (by rfl) (fun w9 _ => by go_simp; try with_reducible rfl)) ?_
      try simp only [Act.put, List.setIfInBounds_toArray, List.set_cons_zero, List.set_cons_succ]
      refine wpAnyG_storeK 6 rfl (by kernel_rfl) (by rfl) _ _ _ rfl (wr.heap.size) (fcs l2) rfl rfl _ _ (Blk.new wr _ _) (by kernel_rfl) (by rfl) (fcs_one _) rfl (fun u1 g1 v1 hB1 hK1 hL1 => ?_)
      try simp only [Act.put]
      have BH1 := hK1 _ (by omega) _ _ (Gr.blk g1 (BH.alloc _))
      have BS1 := hK1 _ (by omega) _ _ (Gr.blk g1 (BS.alloc _))
      have CR1 := hK1 _ (by omega) _ _ (Gr.blk g1 (CR.alloc _))
      have hb1 := (Below.gr (hb.alloc (by omega) _) g1).trans (hB1 _ (by omega))
      refine wpAnyG_storeK 7 rfl (by kernel_rfl) (by rfl) _ _ _ rfl (w1.heap.size + 1) (fcs h2) rfl rfl _ _ (BH1) (by kernel_rfl) (by rfl) (fcs_one _) rfl (fun u2 g2 v2 hB2 hK2 hL2 => ?_)
      try simp only [Act.put]
      have BL2 := hK2 _ (by omega) _ _ (Gr.blk g2 hL1)
      have BS2 := hK2 _ (by omega) _ _ (Gr.blk g2 BS1)
      have CR2 := hK2 _ (by omega) _ _ (Gr.blk g2 CR1)
      have hb2 := (Below.gr hb1 g2).trans (hB2 _ (by omega))
      refine wpAnyG_done (by kernel_rfl) (fun v hv => ?_)
      have DH := Gr.blk hv hL2
      have DL := Gr.blk hv BL2
      have DS := Gr.blk hv BS2
      have DR := Gr.blk hv CR2
      have hbv := Below.gr hb2 hv
      clear hv g1 g2 BH1 BS1 CR1 hb1 BL2 BS2 CR2 hb2 hL1 hL2 hB1 hB2 hK1 hK2
      go_wp2_with (first | ((with_reducible refine here_load (d := some 22) ?_); refine wpList_load_fv rfl _ _ rfl (w1.heap.size) rfl (s1) _ _ _ (DS) (fv_fcs _) Try.underlying36 rfl (by kernel_rfl) ?_) | ((with_reducible refine here_load (d := some 23) ?_); refine wpList_load_fv rfl _ _ rfl (wr.heap.size) rfl (l2) _ _ _ (DL) (fv_fcs _) Try.underlying36 rfl (by kernel_rfl) ?_))
      refine (c2 _).mono ?_
      rintro e y1 ⟨rfl, k1⟩
      have EH := Gr.blk k1 DH
      have ES := Gr.blk k1 DS
      have ER := Gr.blk k1 DR
      have hby := Below.gr hbv k1
      clear k1
      go_wp2_with (first | ((with_reducible refine here_store ?_); refine wpList_store_blk rfl _ _ _ rfl (w1.heap.size) (fcs (s2)) rfl rfl _ _ (ES) (by kernel_rfl) (by rfl) (fcs_one _) ?_; intro y2 hLy hBy hKy))
      exact ⟨⟨hby.trans (hBy _ (by omega)), hKy _ (by omega) _ _ ER, Lib.hid (.inr (.inr (.inl (⟨rfl, hLy, hKy _ (by omega) _ _ EH⟩))))⟩, by decide⟩
    · clear HI
      have szr : w1.heap.size + 1 < wr.heap.size := BH.lt
      go_wp2
      refine wp_region_G (fun j => j == 6 || j == 7) (by kernel_rfl) ?_
      try simp only [Act.put]
      refine wpAnyG_take 0 rfl (by kernel_rfl) (fun _ _ _ h => h) (YieldsG.loadF (by rfl) _ _ rfl (w1.heap.size + 1) rfl (h2) _ _ (BH.alloc _) (fv_fcs _) Try.underlying36 rfl (by kernel_rfl)) ?_
      try simp only [Act.put, List.setIfInBounds_toArray, List.set_cons_zero, List.set_cons_succ]
      refine wpAnyG_take 1 rfl (by kernel_rfl) (fun _ _ _ h => h) (YieldsG.call (v := fv g) (by rfl) 70 _ (fun w9 => by go_simp; try (first | with_reducible rfl | rfl)) (fun w9 h9 => cg w9)) ?_
      try simp only [Act.put, List.setIfInBounds_toArray, List.set_cons_zero, List.set_cons_succ]
      refine wpAnyG_take 2 rfl (by kernel_rfl) (fun _ _ _ h => h) (YieldsG.call (v := .tuple #[fv l3, fv h3]) (by rfl) 69 _ (fun w9 => by go_simp; try (first | with_reducible rfl | rfl)) (fun w9 h9 => p3 w9)) ?_
      try simp only [Act.put, List.setIfInBounds_toArray, List.set_cons_zero, List.set_cons_succ]
      refine wpAnyG_take 3 rfl (by kernel_rfl) (fun _ _ _ h => h) (YieldsG.pure (by rfl) (fun w9 _ => by go_simp; try with_reducible rfl)) ?_
      try simp only [Act.put, List.setIfInBounds_toArray, List.set_cons_zero, List.set_cons_succ]
      refine wpAnyG_take 4 rfl (by kernel_rfl) (fun _ _ _ h => h) (YieldsG.pure (by rfl) (fun w9 _ => by go_simp; try with_reducible rfl)) ?_
      try simp only [Act.put, List.setIfInBounds_toArray, List.set_cons_zero, List.set_cons_succ]
      refine wpAnyG_takeA 5 rfl (by kernel_rfl) (fun _ _ _ h => h) (fun _ => YieldsG.pure (by rfl) (fun w9 _ => by go_simp; try with_reducible rfl)) ?_
      try simp only [Act.put, List.setIfInBounds_toArray, List.set_cons_zero, List.set_cons_succ]
      refine wpAnyG_storeK 6 rfl (by kernel_rfl) (by rfl) _ _ _ rfl (wr.heap.size) (fcs l3) rfl rfl _ _ (Blk.new wr _ _) (by kernel_rfl) (by rfl) (fcs_one _) rfl (fun u1 g1 v1 hB1 hK1 hL1 => ?_)
      try simp only [Act.put]
      have BH1 := hK1 _ (by omega) _ _ (Gr.blk g1 (BH.alloc _))
      have BS1 := hK1 _ (by omega) _ _ (Gr.blk g1 (BS.alloc _))
      have CR1 := hK1 _ (by omega) _ _ (Gr.blk g1 (CR.alloc _))
      have hb1 := (Below.gr (hb.alloc (by omega) _) g1).trans (hB1 _ (by omega))
      refine wpAnyG_storeK 7 rfl (by kernel_rfl) (by rfl) _ _ _ rfl (w1.heap.size + 1) (fcs h3) rfl rfl _ _ (BH1) (by kernel_rfl) (by rfl) (fcs_one _) rfl (fun u2 g2 v2 hB2 hK2 hL2 => ?_)
      try simp only [Act.put]
      have BL2 := hK2 _ (by omega) _ _ (Gr.blk g2 hL1)
      have BS2 := hK2 _ (by omega) _ _ (Gr.blk g2 BS1)
      have CR2 := hK2 _ (by omega) _ _ (Gr.blk g2 CR1)
      have hb2 := (Below.gr hb1 g2).trans (hB2 _ (by omega))
      refine wpAnyG_done (by kernel_rfl) (fun v hv => ?_)
      have DH := Gr.blk hv hL2
      have DL := Gr.blk hv BL2
      have DS := Gr.blk hv BS2
      have DR := Gr.blk hv CR2
      have hbv := Below.gr hb2 hv
      clear hv g1 g2 BH1 BS1 CR1 hb1 BL2 BS2 CR2 hb2 hL1 hL2 hB1 hB2 hK1 hK2
      go_wp2_with (first | ((with_reducible refine here_load (d := some 22) ?_); refine wpList_load_fv rfl _ _ rfl (w1.heap.size) rfl (s2) _ _ _ (DS) (fv_fcs _) Try.underlying36 rfl (by kernel_rfl) ?_) | ((with_reducible refine here_load (d := some 23) ?_); refine wpList_load_fv rfl _ _ rfl (wr.heap.size) rfl (l3) _ _ _ (DL) (fv_fcs _) Try.underlying36 rfl (by kernel_rfl) ?_))
      refine (c3 _).mono ?_
      rintro e y1 ⟨rfl, k1⟩
      have EH := Gr.blk k1 DH
      have ES := Gr.blk k1 DS
      have ER := Gr.blk k1 DR
      have hby := Below.gr hbv k1
      clear k1
      go_wp2_with (first | ((with_reducible refine here_store ?_); refine wpList_store_blk rfl _ _ _ rfl (w1.heap.size) (fcs (s3)) rfl rfl _ _ (ES) (by kernel_rfl) (by rfl) (fcs_one _) ?_; intro y2 hLy hBy hKy))
      exact ⟨⟨hby.trans (hBy _ (by omega)), hKy _ (by omega) _ _ ER, Lib.hid (.inr (.inr (.inr (⟨rfl, hLy, hKy _ (by omega) _ _ EH⟩))))⟩, by decide⟩
    · clear HI
      go_wp2_with (first | ((with_reducible refine here_load (d := some 26) ?_); refine wpList_load_fv rfl _ _ rfl (w1.heap.size) rfl (s3) _ _ _ (BS) (fv_fcs _) Try.underlying36 rfl (by kernel_rfl) ?_) | ((with_reducible refine here_store ?_); refine wpList_store_blk rfl _ _ _ rfl (w.heap.size + 2) (fcs (s3)) rfl rfl _ _ (CR) (by kernel_rfl) (by rfl) (fcs_one _) ?_; intro w9 hL9 hB9 hK9))
      exact bodyPost_ret (results_cell_row rfl _ _ (w.heap.size + 2) _ _ (0, 0) _ rfl hL9 Try.underlying36 rfl (by kernel_rfl)) rfl ⟨rfl, hb.trans (hB9 _ (by omega))⟩
end Go.Proofs.Ytajjjdmjlloifaa.Sc
