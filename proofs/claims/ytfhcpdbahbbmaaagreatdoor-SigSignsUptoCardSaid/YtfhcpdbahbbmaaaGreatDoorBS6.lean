/-
  Texts of ours, put together: ScMul, Concat, SigD, SigE, CrvY, RefNumber, CrvE, CrvZ, SigF, SigG, ScNum, EcN, SigM, SigN, ScRefN, ScFold, ScRefAdd, ScRefMul, GenM, GenR, CrvO.
-/
import Derived.Test.YtfhcpdbahbbmaaaGreatDoorBS5
set_option linter.unusedVariables false
set_option linter.unusedSimpArgs false
section
namespace Go.Proofs.YtfhcpdbahbbmaaaGreatDoor.Sc
open Go.RowKit Go.Lib

theorem mul_step (s h l h' s' : Nat) (hl : l + (2^256) * h' = h * 432420386565659656852420866394968145599) (hs : s' = addP s l) : (s' + (2^256) * h') % pM = (s + (2^256) * h) % pM := by
 rw [hs, addP, Nat.mod_add_mod]
 refine mod_of_mult (k := h) ?_
 omega
theorem fold_ex (h : Nat) (_ : h < (2^256)) : ∃ l h' : Nat, l < (2^256) ∧ l + (2^256) * h' = h * 432420386565659656852420866394968145599 := ⟨h * 432420386565659656852420866394968145599 % (2^256), h * 432420386565659656852420866394968145599 / (2^256), by omega, by omega⟩
theorem gap_at (w : World) (g : Nat) (hg : g = 432420386565659656852420866394968145599) : Calls Tryz.prog 149 #[] w fun e w' => e = .returned (fv g) ∧ Below w.heap.size w w' := by
 subst hg; exact gap_any w

set_option maxHeartbeats 8000000 in
set_option maxRecDepth 100000 in
theorem mulF_any (w : World) (x y : Nat) (hx : x < (2^256)) (hy : y < (2^256)) : Calls Tryz.prog 98 #[fv x, fv y] w fun e w' => e = .returned (fv (mulP x y)) ∧ Below w.heap.size w w' := by
 have hxy : x * y ≤ 115792089237316195423570985008687907853269984665640564039457584007913129639935 * 115792089237316195423570985008687907853269984665640564039457584007913129639935 := Nat.mul_le_mul (by omega) (by omega)
 obtain ⟨s0, h0, ls0, lh0, e0⟩ : ∃ lo hi : Nat, lo < (2^256) ∧ hi < (2^256) ∧ lo + (2^256) * hi = x * y := ⟨x * y % (2^256), x * y / (2^256), by omega, by omega, by omega⟩
 obtain ⟨l1, h1, ll1, e1⟩ := fold_ex h0 lh0
 have lh1 : h1 ≤ 432420386565659656852420866394968145599 := by omega
 obtain ⟨l2, h2, ll2, e2⟩ := fold_ex h1 (by omega)
 have lh2 : h2 ≤ 2 := by omega
 obtain ⟨l3, h3, ll3, e3⟩ := fold_ex h2 (by omega)
 have lh3 : h3 = 0 := by omega
 obtain ⟨s1, hs1⟩ : ∃ s, s = addP s0 l1 := ⟨_, rfl⟩
 obtain ⟨s2, hs2⟩ : ∃ s, s = addP s1 l2 := ⟨_, rfl⟩
 obtain ⟨s3, hs3⟩ : ∃ s, s = addP s2 l3 := ⟨_, rfl⟩
 have ls1 : s1 < (2^256) := by rw [hs1]; exact addP_lt _ _
 have ls2 : s2 < (2^256) := by rw [hs2]; exact addP_lt _ _
 have hfin : mulP x y = s3 := by
  have q1 := mul_step s0 h0 l1 h1 s1 e1 hs1
  have q2 := mul_step s1 h1 l2 h2 s2 e2 hs2
  have q3 := mul_step s2 h2 l3 h3 s3 e3 hs3
  rw [q2, q1, e0, lh3, Nat.mul_zero, Nat.add_zero] at q3
  have : s3 % pM = s3 := by rw [hs3, addP, Nat.mod_mod]
  rw [mulP, ← q3, this]
 obtain ⟨g, hg⟩ : ∃ g, g = 432420386565659656852420866394968145599 := ⟨_, rfl⟩
 have cg := fun w => gap_at w g hg
 have cp := fun w => product_any w x y s0 h0 hx hy ls0 lh0 e0
 have p1 := fun w => product_any w h0 g l1 h1 lh0 (by omega) ll1 (by omega) (by rw [hg]; exact e1)
 have p2 := fun w => product_any w h1 g l2 h2 (by omega) (by omega) ll2 (by omega) (by rw [hg]; exact e2)
 have p3 := fun w => product_any w h2 g l3 h3 (by omega) (by omega) ll3 (by omega) (by rw [hg]; exact e3)
 have c1 : ∀ w, Calls Tryz.prog 97 #[fv s0, fv l1] w fun e w' => e = .returned (fv s1) ∧ Below w.heap.size w w' := by
  intro w; rw [hs1]; exact addF_any w s0 l1 ls0 ll1
 have c2 : ∀ w, Calls Tryz.prog 97 #[fv s1, fv l2] w fun e w' => e = .returned (fv s2) ∧ Below w.heap.size w w' := by
  intro w; rw [hs2]; exact addF_any w s1 l2 ls1 ll2
 have c3 : ∀ w, Calls Tryz.prog 97 #[fv s2, fv l3] w fun e w' => e = .returned (fv s3) ∧ Below w.heap.size w w' := by
  intro w; rw [hs3]; exact addF_any w s2 l3 ls2 ll3
 rw [hfin]
 obtain ⟨x0, x1, x2, x3, fx⟩ := words_fv x hx
 obtain ⟨y0, y1, y2, y3, fy⟩ := words_fv y hy
 have FX := Lib.hid fx
 have FY := Lib.hid fy
 rw [fx, fy]
 clear fx fy hx hy hxy ls0 lh0 e0 ll1 e1 lh1 ll2 e2 lh2 ll3 e3 lh3 hs1 hs2 hs3 ls1 ls2 hfin hg
 go_enter Tryz.func98, Tryz.ntmps98
 go_wp2_with (first | ((with_reducible refine here_load (d := some 9) ?_); refine wpList_load_fv rfl _ _ rfl (w.heap.size) rfl (x) _ _ _ (((Blk.new w _ _).alloc _).alloc _) (FX.out) Tryz.underlying24 rfl (by kernel_rfl) ?_) | ((with_reducible refine here_load (d := some 10) ?_); refine wpList_load_fv rfl _ _ rfl (w.heap.size + 1) rfl (y) _ _ _ ((blk_new2 w _ _ _).alloc _) (FY.out) Tryz.underlying24 rfl (by kernel_rfl) ?_))
 refine (cp _).mono ?_
 rintro e w1 ⟨rfl, k1⟩
 have BR : Blk w1 (w.heap.size + 2) 24 _ := Gr.blk k1 (blk_new3 w _ _ _ _)
 have hB := Below.gr (below_alloc3 w _ _ _) k1
 have sz : w.heap.size + 2 < w1.heap.size := BR.lt
 clear k1 cp
 go_wp2_with (first | ((with_reducible refine here_store ?_); refine wpList_store_blk rfl _ _ _ rfl (w1.heap.size) (fcs (s0)) rfl rfl _ _ ((Blk.new w1 _ _).alloc _) (by kernel_rfl) (by rfl) (fcs_one _) ?_; intro w2 hL2 hB2' hK2; have CR2 := hK2 _ (by omega) _ _ ((BR.alloc _).alloc _); have CH2 := hK2 _ (by omega) _ _ (blk_new2 w1 _ _ _); have hB2 := ((hB.alloc (by omega) _).alloc (by simp <;> omega) _).trans (hB2' _ (by omega))) | ((with_reducible refine here_store ?_); refine wpList_store_blk rfl _ _ _ rfl (w1.heap.size + 1) (fcs (h0)) rfl rfl _ _ (CH2) (by kernel_rfl) (by rfl) (fcs_one _) ?_; intro w3 hL3 hB3' hK3; have CR3 := hK3 _ (by omega) _ _ CR2; have CS3 := hK3 _ (by omega) _ _ hL2; have hB3 := hB2.trans (hB3' _ (by omega))))
 go_loopw [14] (fun i wr => Below w.heap.size w wr ∧ Blk wr (w.heap.size + 2) 24 #[.int .u64 0, .int .u64 0, .int .u64 0, .int .u64 0] ∧ Hid ((i = .int .i64 0 ∧ Blk wr w1.heap.size 24 (fcs s0) ∧ Blk wr (w1.heap.size + 1) 24 (fcs h0)) ∨ (i = .int .i64 1 ∧ Blk wr w1.heap.size 24 (fcs s1) ∧ Blk wr (w1.heap.size + 1) 24 (fcs h1)) ∨ (i = .int .i64 2 ∧ Blk wr w1.heap.size 24 (fcs s2) ∧ Blk wr (w1.heap.size + 1) 24 (fcs h2)) ∨ (i = .int .i64 3 ∧ Blk wr w1.heap.size 24 (fcs s3) ∧ Blk wr (w1.heap.size + 1) 24 (fcs h3)))) (fun i _ => 3 - (intOf i).toNat)
 case atStart => exact ⟨hB3, CR3, Lib.hid (.inl ⟨rfl, CS3, hL3⟩)⟩
 case round =>
  obtain ⟨hb, CR, HI⟩ := hrel
  rcases HI.out with ⟨rfl, BS, BH⟩ | ⟨rfl, BS, BH⟩ | ⟨rfl, BS, BH⟩ | ⟨rfl, BS, BH⟩
  ·clear HI
   have szr : w1.heap.size + 1 < wr.heap.size := BH.lt
   go_wp2
   refine wp_region_G (fun j => j == 6 || j == 7) (by kernel_rfl) ?_
   try simp only [Act.put]
   refine tkw 0 rfl (YieldsG.loadF (by rfl) _ _ rfl (w1.heap.size + 1) rfl (h0) _ _ (BH.alloc _) (fv_fcs _) Tryz.underlying24 rfl (by kernel_rfl)) ?_
   try simp only [Act.put, aA, aZ, aS]
   refine tkw 1 rfl (YieldsG.call (v := fv g) (by rfl) 149 _ (fun w9 => by go_simp; try (first | with_reducible rfl | rfl)) (fun w9 h9 => cg w9)) ?_
   try simp only [Act.put, aA, aZ, aS]
   refine tkw 2 rfl (YieldsG.call (v := .tuple #[fv l1, fv h1]) (by rfl) 148 _ (fun w9 => by go_simp; try (first | with_reducible rfl | rfl)) (fun w9 h9 => p1 w9)) ?_
   try simp only [Act.put, aA, aZ, aS]
   refine tk 3 rfl ?_
   try simp only [Act.put, aA, aZ, aS]
   refine tk 4 rfl ?_
   try simp only [Act.put, aA, aZ, aS]
   refine wpAnyG_takeA 5 rfl (by kernel_rfl) (fun _ _ _ h => h) (fun _ => YieldsG.pure (by rfl) (fun w9 _ => by go_simp; try with_reducible rfl)) ?_
   try simp only [Act.put, aA, aZ, aS]
   refine wpAnyG_storeK 6 rfl (by kernel_rfl) (by rfl) _ _ _ rfl (wr.heap.size) (fcs l1) rfl rfl _ _ (Blk.new wr _ _) (by kernel_rfl) (by rfl) (fcs_one _) rfl (fun u1 g1 v1 hB1 hK1 hL1 => ?_)
   try simp only [Act.put]
   have BH1 := hK1 _ (by omega) _ _ (Gr.blk g1 (BH.alloc _))
   have BS1 := hK1 _ (by omega) _ _ (Gr.blk g1 (BS.alloc _))
   have CR1 := hK1 _ (by omega) _ _ (Gr.blk g1 (CR.alloc _))
   have hb1 := (Below.gr (hb.alloc (by omega) _) g1).trans (hB1 _ (by omega))
   refine wpAnyG_storeK 7 rfl (by kernel_rfl) (by rfl) _ _ _ rfl (w1.heap.size + 1) (fcs h1) rfl rfl _ _ (BH1) (by kernel_rfl) (by rfl) (fcs_one _) rfl (fun u2 g2 v2 hB2 hK2 hL2 => ?_)
   try simp only [Act.put]
   have BL2 := hK2 _ (by omega) _ _ (Gr.blk g2 hL1)
   have BS2 := hK2 _ (by omega) _ _ (Gr.blk g2 BS1)
   have CR2 := hK2 _ (by omega) _ _ (Gr.blk g2 CR1)
   have hb2 := (Below.gr hb1 g2).trans (hB2 _ (by omega))
   refine wpAnyG_done (by kernel_rfl) (fun v hv => ?_)
   have DH := Gr.blk hv hL2
   have DL := Gr.blk hv BL2
   have DS := Gr.blk hv BS2
   have DR := Gr.blk hv CR2
   have hbv := Below.gr hb2 hv
   clear hv g1 g2 BH1 BS1 CR1 hb1 BL2 BS2 CR2 hb2 hL1 hL2 hB1 hB2 hK1 hK2
   go_wp2_with (first | ((with_reducible refine here_load (d := some 22) ?_); refine wpList_load_fv rfl _ _ rfl (w1.heap.size) rfl (s0) _ _ _ (DS) (fv_fcs _) Tryz.underlying24 rfl (by kernel_rfl) ?_) | ((with_reducible refine here_load (d := some 23) ?_); refine wpList_load_fv rfl _ _ rfl (wr.heap.size) rfl (l1) _ _ _ (DL) (fv_fcs _) Tryz.underlying24 rfl (by kernel_rfl) ?_))
   refine (c1 _).mono ?_
   rintro e y1 ⟨rfl, k1⟩
   have EH := Gr.blk k1 DH
   have ES := Gr.blk k1 DS
   have ER := Gr.blk k1 DR
   have hby := Below.gr hbv k1
   clear k1
   go_wp2_with (first | ((with_reducible refine here_store ?_); refine wpList_store_blk rfl _ _ _ rfl (w1.heap.size) (fcs (s1)) rfl rfl _ _ (ES) (by kernel_rfl) (by rfl) (fcs_one _) ?_; intro y2 hLy hBy hKy))
   exact ⟨⟨hby.trans (hBy _ (by omega)), hKy _ (by omega) _ _ ER, Lib.hid (.inr (.inl (⟨rfl, hLy, hKy _ (by omega) _ _ EH⟩)))⟩, by decide⟩
  ·clear HI
   have szr : w1.heap.size + 1 < wr.heap.size := BH.lt
   go_wp2
   refine wp_region_G (fun j => j == 6 || j == 7) (by kernel_rfl) ?_
   try simp only [Act.put]
   refine tkw 0 rfl (YieldsG.loadF (by rfl) _ _ rfl (w1.heap.size + 1) rfl (h1) _ _ (BH.alloc _) (fv_fcs _) Tryz.underlying24 rfl (by kernel_rfl)) ?_
   try simp only [Act.put, aA, aZ, aS]
   refine tkw 1 rfl (YieldsG.call (v := fv g) (by rfl) 149 _ (fun w9 => by go_simp; try (first | with_reducible rfl | rfl)) (fun w9 h9 => cg w9)) ?_
   try simp only [Act.put, aA, aZ, aS]
   refine tkw 2 rfl (YieldsG.call (v := .tuple #[fv l2, fv h2]) (by rfl) 148 _ (fun w9 => by go_simp; try (first | with_reducible rfl | rfl)) (fun w9 h9 => p2 w9)) ?_
   try simp only [Act.put, aA, aZ, aS]
   refine tk 3 rfl ?_
   try simp only [Act.put, aA, aZ, aS]
   refine tk 4 rfl ?_
   try simp only [Act.put, aA, aZ, aS]
   refine wpAnyG_takeA 5 rfl (by kernel_rfl) (fun _ _ _ h => h) (fun _ => YieldsG.pure (by rfl) (fun w9 _ => by go_simp; try with_reducible rfl)) ?_
   try simp only [Act.put, aA, aZ, aS]
   refine wpAnyG_storeK 6 rfl (by kernel_rfl) (by rfl) _ _ _ rfl (wr.heap.size) (fcs l2) rfl rfl _ _ (Blk.new wr _ _) (by kernel_rfl) (by rfl) (fcs_one _) rfl (fun u1 g1 v1 hB1 hK1 hL1 => ?_)
   try simp only [Act.put]
   have BH1 := hK1 _ (by omega) _ _ (Gr.blk g1 (BH.alloc _))
   have BS1 := hK1 _ (by omega) _ _ (Gr.blk g1 (BS.alloc _))
   have CR1 := hK1 _ (by omega) _ _ (Gr.blk g1 (CR.alloc _))
   have hb1 := (Below.gr (hb.alloc (by omega) _) g1).trans (hB1 _ (by omega))
   refine wpAnyG_storeK 7 rfl (by kernel_rfl) (by rfl) _ _ _ rfl (w1.heap.size + 1) (fcs h2) rfl rfl _ _ (BH1) (by kernel_rfl) (by rfl) (fcs_one _) rfl (fun u2 g2 v2 hB2 hK2 hL2 => ?_)
   try simp only [Act.put]
   have BL2 := hK2 _ (by omega) _ _ (Gr.blk g2 hL1)
   have BS2 := hK2 _ (by omega) _ _ (Gr.blk g2 BS1)
   have CR2 := hK2 _ (by omega) _ _ (Gr.blk g2 CR1)
   have hb2 := (Below.gr hb1 g2).trans (hB2 _ (by omega))
   refine wpAnyG_done (by kernel_rfl) (fun v hv => ?_)
   have DH := Gr.blk hv hL2
   have DL := Gr.blk hv BL2
   have DS := Gr.blk hv BS2
   have DR := Gr.blk hv CR2
   have hbv := Below.gr hb2 hv
   clear hv g1 g2 BH1 BS1 CR1 hb1 BL2 BS2 CR2 hb2 hL1 hL2 hB1 hB2 hK1 hK2
   go_wp2_with (first | ((with_reducible refine here_load (d := some 22) ?_); refine wpList_load_fv rfl _ _ rfl (w1.heap.size) rfl (s1) _ _ _ (DS) (fv_fcs _) Tryz.underlying24 rfl (by kernel_rfl) ?_) | ((with_reducible refine here_load (d := some 23) ?_); refine wpList_load_fv rfl _ _ rfl (wr.heap.size) rfl (l2) _ _ _ (DL) (fv_fcs _) Tryz.underlying24 rfl (by kernel_rfl) ?_))
   refine (c2 _).mono ?_
   rintro e y1 ⟨rfl, k1⟩
   have EH := Gr.blk k1 DH
   have ES := Gr.blk k1 DS
   have ER := Gr.blk k1 DR
   have hby := Below.gr hbv k1
   clear k1
   go_wp2_with (first | ((with_reducible refine here_store ?_); refine wpList_store_blk rfl _ _ _ rfl (w1.heap.size) (fcs (s2)) rfl rfl _ _ (ES) (by kernel_rfl) (by rfl) (fcs_one _) ?_; intro y2 hLy hBy hKy))
   exact ⟨⟨hby.trans (hBy _ (by omega)), hKy _ (by omega) _ _ ER, Lib.hid (.inr (.inr (.inl (⟨rfl, hLy, hKy _ (by omega) _ _ EH⟩))))⟩, by decide⟩
  ·clear HI
   have szr : w1.heap.size + 1 < wr.heap.size := BH.lt
   go_wp2
   refine wp_region_G (fun j => j == 6 || j == 7) (by kernel_rfl) ?_
   try simp only [Act.put]
   refine tkw 0 rfl (YieldsG.loadF (by rfl) _ _ rfl (w1.heap.size + 1) rfl (h2) _ _ (BH.alloc _) (fv_fcs _) Tryz.underlying24 rfl (by kernel_rfl)) ?_
   try simp only [Act.put, aA, aZ, aS]
   refine tkw 1 rfl (YieldsG.call (v := fv g) (by rfl) 149 _ (fun w9 => by go_simp; try (first | with_reducible rfl | rfl)) (fun w9 h9 => cg w9)) ?_
   try simp only [Act.put, aA, aZ, aS]
   refine tkw 2 rfl (YieldsG.call (v := .tuple #[fv l3, fv h3]) (by rfl) 148 _ (fun w9 => by go_simp; try (first | with_reducible rfl | rfl)) (fun w9 h9 => p3 w9)) ?_
   try simp only [Act.put, aA, aZ, aS]
   refine tk 3 rfl ?_
   try simp only [Act.put, aA, aZ, aS]
   refine tk 4 rfl ?_
   try simp only [Act.put, aA, aZ, aS]
   refine wpAnyG_takeA 5 rfl (by kernel_rfl) (fun _ _ _ h => h) (fun _ => YieldsG.pure (by rfl) (fun w9 _ => by go_simp; try with_reducible rfl)) ?_
   try simp only [Act.put, aA, aZ, aS]
   refine wpAnyG_storeK 6 rfl (by kernel_rfl) (by rfl) _ _ _ rfl (wr.heap.size) (fcs l3) rfl rfl _ _ (Blk.new wr _ _) (by kernel_rfl) (by rfl) (fcs_one _) rfl (fun u1 g1 v1 hB1 hK1 hL1 => ?_)
   try simp only [Act.put]
   have BH1 := hK1 _ (by omega) _ _ (Gr.blk g1 (BH.alloc _))
   have BS1 := hK1 _ (by omega) _ _ (Gr.blk g1 (BS.alloc _))
   have CR1 := hK1 _ (by omega) _ _ (Gr.blk g1 (CR.alloc _))
   have hb1 := (Below.gr (hb.alloc (by omega) _) g1).trans (hB1 _ (by omega))
   refine wpAnyG_storeK 7 rfl (by kernel_rfl) (by rfl) _ _ _ rfl (w1.heap.size + 1) (fcs h3) rfl rfl _ _ (BH1) (by kernel_rfl) (by rfl) (fcs_one _) rfl (fun u2 g2 v2 hB2 hK2 hL2 => ?_)
   try simp only [Act.put]
   have BL2 := hK2 _ (by omega) _ _ (Gr.blk g2 hL1)
   have BS2 := hK2 _ (by omega) _ _ (Gr.blk g2 BS1)
   have CR2 := hK2 _ (by omega) _ _ (Gr.blk g2 CR1)
   have hb2 := (Below.gr hb1 g2).trans (hB2 _ (by omega))
   refine wpAnyG_done (by kernel_rfl) (fun v hv => ?_)
   have DH := Gr.blk hv hL2
   have DL := Gr.blk hv BL2
   have DS := Gr.blk hv BS2
   have DR := Gr.blk hv CR2
   have hbv := Below.gr hb2 hv
   clear hv g1 g2 BH1 BS1 CR1 hb1 BL2 BS2 CR2 hb2 hL1 hL2 hB1 hB2 hK1 hK2
   go_wp2_with (first | ((with_reducible refine here_load (d := some 22) ?_); refine wpList_load_fv rfl _ _ rfl (w1.heap.size) rfl (s2) _ _ _ (DS) (fv_fcs _) Tryz.underlying24 rfl (by kernel_rfl) ?_) | ((with_reducible refine here_load (d := some 23) ?_); refine wpList_load_fv rfl _ _ rfl (wr.heap.size) rfl (l3) _ _ _ (DL) (fv_fcs _) Tryz.underlying24 rfl (by kernel_rfl) ?_))
   refine (c3 _).mono ?_
   rintro e y1 ⟨rfl, k1⟩
   have EH := Gr.blk k1 DH
   have ES := Gr.blk k1 DS
   have ER := Gr.blk k1 DR
   have hby := Below.gr hbv k1
   clear k1
   go_wp2_with (first | ((with_reducible refine here_store ?_); refine wpList_store_blk rfl _ _ _ rfl (w1.heap.size) (fcs (s3)) rfl rfl _ _ (ES) (by kernel_rfl) (by rfl) (fcs_one _) ?_; intro y2 hLy hBy hKy))
   exact ⟨⟨hby.trans (hBy _ (by omega)), hKy _ (by omega) _ _ ER, Lib.hid (.inr (.inr (.inr (⟨rfl, hLy, hKy _ (by omega) _ _ EH⟩))))⟩, by decide⟩
  ·clear HI
   go_wp2_with (first | ((with_reducible refine here_load (d := some 26) ?_); refine wpList_load_fv rfl _ _ rfl (w1.heap.size) rfl (s3) _ _ _ (BS) (fv_fcs _) Tryz.underlying24 rfl (by kernel_rfl) ?_) | ((with_reducible refine here_store ?_); refine wpList_store_blk rfl _ _ _ rfl (w.heap.size + 2) (fcs (s3)) rfl rfl _ _ (CR) (by kernel_rfl) (by rfl) (fcs_one _) ?_; intro w9 hL9 hB9 hK9))
   exact bodyPost_ret (results_cell_row rfl _ _ (w.heap.size + 2) _ _ (0, 0) _ rfl hL9 Tryz.underlying24 rfl (by kernel_rfl)) rfl ⟨rfl, hb.trans (hB9 _ (by omega))⟩
end Go.Proofs.YtfhcpdbahbbmaaaGreatDoor.Sc

end
section
namespace Go.Proofs.YtfhcpdbahbbmaaaGreatDoor.Sh
open Go.RowKit Sp

set_option maxHeartbeats 2000000 in
set_option maxRecDepth 100000 in
theorem grow_nil (w : World) (n : Nat) (h0 : 0 < n) (hn : n ≤ 1000000) :
    Calls Tryz.prog 150 #[.slice none 0 0, .int .i64 n] w fun e w' => ∃ v, e = .returned v ∧ OwnB w' w.heap.size v [] ∧ Below w.heap.size w w' := by
  obtain ⟨i, hi, hz0, hz1, hz2⟩ := info_parts infoByte
  have q0 : (0 : Int) < (n : Int) := by omega
  have q1 : (n : Int) ≤ 1000000 := by omega
  have hrun : ∀ ty, (Builtin.append_ #[25, 3] ty #[.slice none 0 0, .int .i64 n]).run Tryz.prog w = _ := fun ty =>
    Lib.run_append_nil_zeros w 25 3 ty 5 i (.int .u8 0) .i64 .i64 Tryz.underlying25 Tryz.underlying3 hi hz0 n h0 (by omega) (by omega) (by rw [hz2]; omega)
  have HI := Lib.hid hrun
  clear hrun hi hz0 hz1 hz2
  have hcap := grownCap_ge w n 0 5
  have hcap2 : grownCap w n 0 5 ≤ 9223372036854775807 := by have := grownCap_le_maxLen w n 0 5 (by simp [maxLen]; omega); simpa [maxLen] using this
  obtain ⟨c, hc⟩ : ∃ c, c = grownCap w n 0 5 := ⟨_, rfl⟩
  rw [← hc] at hcap hcap2
  have HCc := Lib.hid hc
  clear hc
  go_enter Tryz.func150, Tryz.ntmps150
  go_wp2_with (at_builtin; refine Lib.wpList_append_run _ rfl _ _ _ _ rfl _ _ rfl rfl _ _ (HI.out _) ?_)
  rw [← HCc.out]
  go_wp2
  go_ret
  refine ⟨_, rfl, ?_, ?_⟩
  · have h := World.ownsRow_made (base := w.heap.size) (e := 5) (size := 1) w.drew (Builtin.zeroCells (Value.int .u8 0).cells n ++ Builtin.zeroCells (Value.int .u8 0).cells (c - n)) c (by simp) (by simpa [maxLen] using hcap2) (by simp [size_zeroCells, Value.cells]; omega)
    exact h
  · exact ((Below.refl _ _).drew).alloc (Nat.le_refl _) _

set_option maxHeartbeats 4000000 in
set_option maxRecDepth 100000 in
theorem concat_any (w : World) (T : Option Addr) (ts : List Tx) (ct : Nat) (hT : Texts w T ts) (h0 : 0 < (cat ts).length) (hm : (cat ts).length ≤ 1000000) (hn : ts.length ≤ 1000000) :
    Calls Tryz.prog 99 #[.slice T ts.length ct] w fun e w' => ∃ v, e = .returned v ∧ OwnB w' w.heap.size v (cat ts) ∧ Below w.heap.size w w' := by
  have HT := Lib.hid hT
  clear hT
  obtain ⟨M, hM⟩ : ∃ M, M = (cat ts).length := ⟨_, rfl⟩
  rw [← hM] at h0 hm
  have HM := Lib.hid hM
  clear hM
  have q0 : (0 : Int) < (M : Int) := by omega
  have q1 : (M : Int) ≤ 1000000 := by omega
  go_enter Tryz.func99, Tryz.ntmps99
  go_wp2
  go_loopw [3, 11] (fun s i wr => ∃ k z : Nat, k ≤ ts.length ∧ i = .int .i64 k ∧ s = .int .i64 z ∧ z = (cat (ts.take k)).length ∧ wr = w)
    (fun _ i _ => ts.length - (intOf i).toNat)
  case atStart => exact ⟨0, 0, Nat.zero_le _, rfl, rfl, rfl, rfl⟩
  case round =>
    obtain ⟨k, z, hk, rfl, rfl, hz, hw⟩ := hrel
    have hw' := hw.symm
    clear hw
    subst hw'
    have hzM : z ≤ M := by rw [hz, HM.out]; exact cat_le ts k
    have HZ := Lib.hid hz
    clear hz
    by_cases hlt : k < ts.length
    · obtain ⟨x, hx⟩ : ∃ x, ts[k]? = some x := ⟨ts[k], List.getElem?_eq_getElem hlt⟩
      obtain ⟨b, o, rfl, hbl, htx⟩ := HT.out (fun e => by rw [e] at hlt; exact absurd hlt (Nat.not_lt_zero _))
      have hc : w.cell? ⟨b, o + k, none⟩ = some (.slice x.A x.l.length x.c) := (htx k x hx).1
      obtain ⟨L, hL⟩ : ∃ L, L = x.l.length := ⟨_, rfl⟩
      rw [← hL] at hc
      have hlx : z + L ≤ M := by rw [HZ.out, HM.out, hL]; exact cat_next ts k x hx
      have q2 : (0 : Int) ≤ (z : Int) := by omega
      have q3 : (0 : Int) ≤ (L : Int) := by omega
      have q4 : (z : Int) + (L : Int) ≤ 1000000 := by omega
      have HX := Lib.hid (And.intro hx hL)
      clear hx htx hL
      go_wp2
      go_roundw
      case rel => exact ⟨k + 1, z + L, by omega, by go_num, by go_num, by rw [cat_step ts k x HX.out.1, List.length_append, ← HZ.out, ← HX.out.2], by first | trivial | rfl⟩
      case measure => simp [intOf]; omega
    · obtain rfl : k = ts.length := by omega
      obtain rfl : z = M := by rw [HZ.out, HM.out, List.take_length]
      clear hlt
      go_wp2_with fail
      refine (grow_nil w z (by omega) hm).mono ?_
      rintro e w1 ⟨v, rfl, hown, hb⟩
      go_wp2
      go_loopw [6, 27] (fun v i wq => ∃ (k : Nat) (v0 : Value), k ≤ ts.length ∧ v0 = v ∧ i = .int .i64 k ∧ OwnB wq w.heap.size v0 (cat (ts.take k)) ∧ Below w.heap.size w wq)
        (fun _ i _ => ts.length - (intOf i).toNat)
      case atStart => exact ⟨0, _, Nat.zero_le _, rfl, rfl, hown, hb⟩
      case round =>
        clear hown hb
        obtain ⟨k, v0, hk, rfl, rfl, hown, hb⟩ := hrel
        by_cases hlt : k < ts.length
        · obtain ⟨x, hx⟩ : ∃ x, ts[k]? = some x := ⟨ts[k], List.getElem?_eq_getElem hlt⟩
          obtain ⟨b, o, rfl, hbl, htx⟩ := HT.out (fun e => by rw [e] at hlt; exact absurd hlt (Nat.not_lt_zero _))
          have hc : wr.cell? ⟨b, o + k, none⟩ = some (.slice x.A x.l.length x.c) := (hb.cell (p := ⟨b, o + k, none⟩) hbl).trans (htx k x hx).1
          have hok := (htx k x hx).2.below hb
          have hlx := cat_next ts k x hx
          have HX := Lib.hid (And.intro hx (And.intro hok hlx))
          clear hx htx hok hlx
          go_wp2_with (at_builtin
                       refine wpList_append_bytes rfl (.tmp 31) (.tmp 32) rfl w.heap.size v0 (cat (ts.take k)) rfl hown x.A x.l x.c rfl HX.out.2.1.1 (by have := HX.out.2.2; have := HM.out; omega) hb.size ?_
                       intro v7 w7 hv7 hg7
                       have hb7 := below_own hb hown hg7 (Nat.le_refl _) hb.size)
          go_roundw
          case rel => exact ⟨k + 1, v7, by omega, rfl, by go_num, by rw [cat_step ts k x HX.out.1]; exact hv7, hb7⟩
          case measure => simp [intOf]; omega
        · obtain rfl : k = ts.length := by omega
          rw [List.take_length] at hown
          go_wp2
          go_ret
          exact ⟨_, rfl, hown, hb⟩
end Go.Proofs.YtfhcpdbahbbmaaaGreatDoor.Sh

end
section
namespace Go.Proofs.YtfhcpdbahbbmaaaGreatDoor.Cu
open Go.RowKit Go.Proofs.YtfhcpdbahbbmaaaGreatDoor Go.Proofs.YtfhcpdbahbbmaaaGreatDoor.Sy
set_option maxRecDepth 100000
set_option maxHeartbeats 4000000

theorem own_row2 {l : List UInt8} {k : Nat} {sp : List Value} (h : l.length = k) : (((l.map bv ++ sp).toArray).toList.drop 0).take k = l.map bv := by
 rw [List.drop_zero, List.take_append_of_le_length (by rw [List.length_map, h]; exact Nat.le_refl _), List.take_of_length_le (by rw [List.length_map, h]; exact Nat.le_refl _)]
theorem own_agg {l : List UInt8} {k : Nat} {sp : List Value} (h : l.length = k) : Value.agg ((((l.map bv ++ sp).toArray).toList.drop 0).take k).toArray = .agg (l.map bv).toArray := congrArg (fun l : List Value => Value.agg l.toArray) (own_row2 h)
theorem own_sz2 {l : List UInt8} {k : Nat} {sp : List Value} (h : l.length = k) : 0 + k ≤ ((l.map bv ++ sp).toArray).size := by
 simp only [List.size_toArray, List.length_append, List.length_map]
 omega
theorem concat2_c (w : World) (g g1 g2 : Nat) (t t1 t2 : TypeId) (x y : List UInt8) (hx : x.length = 32) (hy : y.length = 32)
  (h1 : Blk w g1 t1 (x.map bv).toArray) (h2 : Blk w g2 t2 (y.map bv).toArray) (hb : Blk w g t #[.slice (some ⟨g1, 0, none⟩) 32 32, .slice (some ⟨g2, 0, none⟩) 32 32]) :
  Calls Tryz.prog 99 #[.slice (some ⟨g, 0, none⟩) 2 2] w (GetsN w (fun vq Mq => ∃ (g : Nat) (sp : List Value) (cap : Nat), vq = .slice (some ⟨g, 0, none⟩) 64 cap ∧ Mq = [(g, 5, ((x ++ y).map bv ++ sp).toArray)])) := by
 have e : Sh.cat [⟨some ⟨g1, 0, none⟩, x, 32⟩, ⟨some ⟨g2, 0, none⟩, y, 32⟩] = x ++ y := by simp [Sh.cat]
 have hl : (x ++ y).length = 64 := by rw [List.length_append, hx, hy]
 have hb' : Blk w g t (([⟨some ⟨g1, 0, none⟩, x, 32⟩, ⟨some ⟨g2, 0, none⟩, y, 32⟩] : List Sh.Tx).map Sh.Tx.val).toArray := by
  rw [List.map_cons, List.map_cons, List.map_nil, val_key hx, val_key hy]
  exact hb
 refine (Sh.concat_any w _ _ 2 (texts_blk hb' (fun z hz => ?_)) (by rw [e, hl]; decide) (by rw [e, hl]; decide) (by show 2 ≤ 1000000; decide)).mono ?_
 ·simp only [List.mem_cons, List.not_mem_nil, or_false] at hz
  rcases hz with rfl | rfl
  ·exact ok_key h1 hx
  ·exact ok_key h2 hy
 rintro e' w' ⟨v, rfl, ho, hb2⟩
 rw [e] at ho
 unfold Sh.OwnB at ho
 rw [hl] at ho
 rcases ho.2 with ⟨_, h0⟩ | ⟨g', cap', cur, hv, hg, hk, q3, q4, q5, q6⟩
 ·cases h0
 ·subst hv
  have hc : cur = ((x ++ y).map bv ++ cur.toList.drop 64).toArray := by
   rw [Nat.mul_one] at q6
   rw [← q6, List.take_append_drop]
  refine ⟨_, [(g', 5, cur)], rfl, ⟨g', cur.toList.drop 64, cap', rfl, by rw [← hc]⟩, hb2, fun g1 t1 cs1 hm => ?_, by simp⟩
  simp only [List.mem_singleton, Prod.mk.injEq] at hm
  obtain ⟨rfl, rfl, rfl⟩ := hm
  exact ⟨hg, hk⟩
def ansS (d : Nat) (key m : List UInt8) (k : Nat) : Nat := Sc.addP (evD k) (Sc.mulP (chalS (evX (evP k)) key m) d)
def sigS (d : Nat) (key m : List UInt8) (k : Nat) : List UInt8 := evX (evP k) ++ bytesS (ansS d key m k % Sc.pM)
theorem sigS_length (d : Nat) (key m : List UInt8) (k : Nat) : (sigS d key m k).length = 64 := by
 unfold sigS
 rw [List.length_append, evX_length, bytesS_length]
theorem evD_lt (k : Nat) (hk : k < K4) : evD k < K4 := by
 unfold evD
 split
 ·decide
 ·split
  ·exact Sc.mod_lt _
  ·exact hk
theorem chalS_lt (x key m : List UInt8) : chalS x key m < K4 := Sc.mod_lt _
theorem cat_length {x y : List UInt8} (hx : x.length = 32) (hy : y.length = 32) : (x ++ y).length = 64 := by rw [List.length_append, hx, hy]
theorem sign_none (w : World) (d k : Nat) (hd : d < K4) (hk : k < K4) (hsm : (evP k).isSome = false) (key : List UInt8) (hkey : key.length = 32) (A : Option Addr) (m : List UInt8) (n c : Nat) (hn : m.length = n) (hm : n ≤ 999999900) (hc : n ≤ c) (hc2 : c ≤ 9223372036854775807) (hs : Sh.Src w A m) (ht : Sh.TabAt w 1) : Calls Tryz.prog 40 #[fv d, .agg (key.map bv).toArray, .slice A n c, fv k] w (Gets w (.tuple #[.agg ((List.replicate 64 (0 : UInt8)).map bv).toArray, .bool false])) := by
 refine Sy.enter (args := [fv d, .agg (key.map bv).toArray, .slice A n c, fv k]) Tryz.func40 rfl kL ?_
 refine sC ?_
 refine sM 24 (fcs d) (fun g0 => ?_)
 refine sM 31 (key.map bv).toArray (fun g1 => ?_)
 refine sM 24 (fcs k) (fun g2 => ?_)
 refine sM 27 (Zl 64).toArray (fun g3 => ?_)
 refine sP (.bool false) ?_
 refine sA ?_
 refine sS (fv k) (qL 2 g2 0 4 24 24 (fcs k) rfl Tryz.underlying24) <| sS (.tuple #[fv (evD k), .agg ((evX (evP k)).map bv).toArray, .bool false]) (qF 39 #[fv k] (fun w => by have q := even_any w k hk; rw [hsm] at q; exact q)) <| sP (.tuple #[fv (evD k), .agg ((evX (evP k)).map bv).toArray, .bool false]) <| sP (fv (evD k)) <| sP (.agg ((evX (evP k)).map bv).toArray) <| sP (.bool false) ?_
 refine sM 31 (Zl 32).toArray (fun g4 => ?_)
 refine sW 2 g2 24 (fcs k) (fcs (evD k)) (wS 0 24 (fcs (evD k)) rfl) <| sW 4 g4 31 (Zl 32).toArray ((evX (evP k)).map bv).toArray (Writes.store 0 31 ((evX (evP k)).map bv).toArray _ _ rfl kR kR (by rw [key_sz (evX (evP k)) (evX_length _)]; kernel_rfl) (by rw [key_sz (evX (evP k)) (evX_length _)]; exact Nat.le_of_ble_eq_true kR) (key_one _) (key_set _ _ (by rw [(evX_length _)]; kernel_rfl))) <| sP (.bool false) ?_
 refine sG <| Sy.seq <| sC ?_
 refine sP (.bool false) <| sP (.bool true) ?_
 refine sG <| sT <| sC ?_
 refine sP (.agg ((Zl 64) : List Value).toArray) <| sW 3 g3 27 (Zl 64).toArray (Zl 64).toArray (wS 0 27 (Zl 64).toArray rfl) <| sP (.bool false) ?_
 refine sG <| Sy.ret <| Sy.then_ret ?_
 rw [show (.tuple #[.agg ((List.replicate 64 (0 : UInt8)).map bv).toArray, .bool false] : Value) = .tuple #[.agg ((Zl 64) : List Value).toArray, .bool false] from by kernel_rfl]
 exact Sy.ret2 (v := .agg ((Zl 64) : List Value).toArray) (u := .bool false) rfl (.inl (Res.cell (ty' := 27) g3 3 (Zl 64).toArray _ kR kR Tryz.underlying27 rfl kR kR)) (.inl (show _ = _ by kernel_rfl))
theorem sign_some (w : World) (d k : Nat) (hd : d < K4) (hk : k < K4) (hsm : (evP k).isSome = true) (key : List UInt8) (hkey : key.length = 32) (A : Option Addr) (m : List UInt8) (n c : Nat) (hn : m.length = n) (hm : n ≤ 999999900) (hc : n ≤ c) (hc2 : c ≤ 9223372036854775807) (hs : Sh.Src w A m) (ht : Sh.TabAt w 1) : Calls Tryz.prog 40 #[fv d, .agg (key.map bv).toArray, .slice A n c, fv k] w (Gets w (.tuple #[.agg ((sigS d key m k).map bv).toArray, .bool true])) := by
 refine Sy.enter (args := [fv d, .agg (key.map bv).toArray, .slice A n c, fv k]) Tryz.func40 rfl kL ?_
 refine sC ?_
 refine sM 24 (fcs d) (fun g0 => ?_)
 refine sM 31 (key.map bv).toArray (fun g1 => ?_)
 refine sM 24 (fcs k) (fun g2 => ?_)
 refine sM 27 (Zl 64).toArray (fun g3 => ?_)
 refine sP (.bool false) ?_
 refine sA ?_
 refine sS (fv k) (qL 2 g2 0 4 24 24 (fcs k) rfl Tryz.underlying24) <| sS (.tuple #[fv (evD k), .agg ((evX (evP k)).map bv).toArray, .bool true]) (qF 39 #[fv k] (fun w => by have q := even_any w k hk; rw [hsm] at q; exact q)) <| sP (.tuple #[fv (evD k), .agg ((evX (evP k)).map bv).toArray, .bool true]) <| sP (fv (evD k)) <| sP (.agg ((evX (evP k)).map bv).toArray) <| sP (.bool true) ?_
 refine sM 31 (Zl 32).toArray (fun g4 => ?_)
 refine sW 2 g2 24 (fcs k) (fcs (evD k)) (wS 0 24 (fcs (evD k)) rfl) <| sW 4 g4 31 (Zl 32).toArray ((evX (evP k)).map bv).toArray (Writes.store 0 31 ((evX (evP k)).map bv).toArray _ _ rfl kR kR (by rw [key_sz (evX (evP k)) (evX_length _)]; kernel_rfl) (by rw [key_sz (evX (evP k)) (evX_length _)]; exact Nat.le_of_ble_eq_true kR) (key_one _) (key_set _ _ (by rw [(evX_length _)]; kernel_rfl))) <| sP (.bool true) ?_
 refine sG <| Sy.seq <| sC ?_
 refine sP (.bool true) <| sP (.bool false) ?_
 refine sG <| sU <| Sy.skip <| sB ?_
 refine sS (.agg ((evX (evP k)).map bv).toArray) (Quiet.load 4 g4 0 32 31 31 ((evX (evP k)).map bv).toArray _ _ rfl kR kR Tryz.underlying31 rfl kR _ (key_whole (evX (evP k)) (evX_length _)) (key_size (evX (evP k)) (evX_length _))) <| sS (.agg (key.map bv).toArray) (Quiet.load 1 g1 0 32 31 31 (key.map bv).toArray _ _ rfl kR kR Tryz.underlying31 rfl kR _ (key_whole key hkey) (key_size key hkey)) <| sP (.slice A n c) <| sS (fv (chalS (evX (evP k)) key m)) (qG 96 #[.agg ((evX (evP k)).map bv).toArray, .agg (key.map bv).toArray, .slice A n c] (fun w hw => challenge_any w (evX (evP k)) key (evX_length _) hkey A m n c hn hm hc hc2 (hs.below hw.below) (ht.below hw.below ht.lt))) ?_
 refine sM 24 (fcs 0) (fun g5 => ?_)
 refine sW 5 g5 24 (fcs 0) (fcs (chalS (evX (evP k)) key m)) (wS 0 24 (fcs (chalS (evX (evP k)) key m)) rfl) ?_
 refine sH (fun j => j == 7) ?_
 refine sD 0 rfl (fv (evD k)) (qL 2 g2 0 4 24 24 (fcs (evD k)) rfl Tryz.underlying24) <| sD 1 rfl (fv (chalS (evX (evP k)) key m)) (qL 5 g5 0 4 24 24 (fcs (chalS (evX (evP k)) key m)) rfl Tryz.underlying24) <| sD 2 rfl (fv d) (qL 0 g0 0 4 24 24 (fcs d) rfl Tryz.underlying24) <| sD 3 rfl (fv (Sc.mulP (chalS (evX (evP k)) key m) d)) (qF 98 #[fv (chalS (evX (evP k)) key m), fv d] (fun w => Sc.mulF_any w _ _ (chalS_lt _ _ _) hd)) <| sD 4 rfl (fv (ansS d key m k)) (qF 97 #[fv (evD k), fv (Sc.mulP (chalS (evX (evP k)) key m) d)] (fun w => Sc.addF_any w _ _ (evD_lt k hk) (Sc.mod_lt _))) <| sD 5 rfl (.agg ((bytesS (ansS d key m k % Sc.pM)).map bv).toArray) (qF 91 #[fv (ansS d key m k)] (fun w => Sc.bytes_any w _ (Sc.mod_lt _))) ?_
 refine Sy.makeD 6 rfl kR kR 30 (Zl 32).toArray ptr kF (fun g6 => ?_)
 refine Sy.writeD 7 rfl kR (by rfl) kR 6 g6 30 (Zl 32).toArray ((bytesS (ansS d key m k % Sc.pM)).map bv).toArray kR (Writes.store 0 30 ((bytesS (ansS d key m k % Sc.pM)).map bv).toArray _ _ rfl kR kR (by rw [key_sz (bytesS (ansS d key m k % Sc.pM)) (bytesS_length _)]; kernel_rfl) (by rw [key_sz (bytesS (ansS d key m k % Sc.pM)) (bytesS_length _)]; exact Nat.le_of_ble_eq_true kR) (key_one _) (key_set _ _ (by rw [(bytesS_length _)]; kernel_rfl))) ?_
 refine sE ?_
 refine sR (fun j => j == 6) ?_
 refine sZ 0 rfl (.slice (some ⟨g4, 0, none⟩) 32 32) <| sZ 1 rfl (.slice (some ⟨g6, 0, none⟩) 32 32) ?_
 refine Sy.makeD 2 rfl kR kR 25 #[.slice (some ⟨g4, 0, none⟩) 32 32, .slice (some ⟨g6, 0, none⟩) 32 32] (fun g => .slice (some ⟨g, 0, none⟩) 2 2) kF (fun g7 => ?_)
 refine Sy.callND 3 rfl kR kR 99 #[.slice (some ⟨g7, 0, none⟩) 2 2] kF (fun vq Mq => ∃ (g : Nat) (sp : List Value) (cap : Nat), vq = .slice (some ⟨g, 0, none⟩) 64 cap ∧ Mq = [(g, 5, (((evX (evP k)) ++ (bytesS (ansS d key m k % Sc.pM))).map bv ++ sp).toArray)]) (fun w hw => concat2_c w g7 g4 g6 _ _ _ (evX (evP k)) (bytesS (ansS d key m k % Sc.pM)) (evX_length _) (bytesS_length _) (hw.get (i := 4) rfl) (hw.get (i := 6) rfl) (hw.get (i := 7) rfl)) (fun vq Mq hR0 => ?_)
 obtain ⟨g9, sp9, cp9, rfl, rfl⟩ := hR0
 refine sZ 4 rfl (.pointer (some ⟨g9, 0, none⟩)) <| sD 5 rfl (.agg (((evX (evP k)) ++ (bytesS (ansS d key m k % Sc.pM))).map bv).toArray) (Quiet.load 8 g9 0 64 5 27 (((evX (evP k)) ++ (bytesS (ansS d key m k % Sc.pM))).map bv ++ sp9).toArray _ _ rfl kR kR Tryz.underlying27 rfl kR _ (own_agg (cat_length (evX_length _) (bytesS_length _))) (own_sz2 (cat_length (evX_length _) (bytesS_length _)))) <| sX 6 rfl 3 g3 27 (Zl 64).toArray (((evX (evP k)) ++ (bytesS (ansS d key m k % Sc.pM))).map bv).toArray (Writes.store 0 27 (((evX (evP k)) ++ (bytesS (ansS d key m k % Sc.pM))).map bv).toArray _ _ rfl kR kR (by rw [key_sz ((evX (evP k)) ++ (bytesS (ansS d key m k % Sc.pM))) (cat_length (evX_length _) (bytesS_length _))]; kernel_rfl) (by rw [key_sz ((evX (evP k)) ++ (bytesS (ansS d key m k % Sc.pM))) (cat_length (evX_length _) (bytesS_length _))]; exact Nat.le_of_ble_eq_true kR) (key_one _) (key_set _ _ (by rw [(cat_length (evX_length _) (bytesS_length _))]; kernel_rfl))) ?_
 refine Sy.anyOf [7] kR (by decide) (Sy.each1 ?_)
 refine Sy.oneQuiet rfl kR (.bool true) qP ?_
 refine sI ?_
 refine Sy.ret ?_
 exact Sy.ret2 (v := .agg (((evX (evP k)) ++ (bytesS (ansS d key m k % Sc.pM))).map bv).toArray) (u := .bool true) rfl (.inl (Res.cell (ty' := 27) g3 3 (((evX (evP k)) ++ (bytesS (ansS d key m k % Sc.pM))).map bv).toArray _ kR kR Tryz.underlying27 rfl (by rw [key_sz ((evX (evP k)) ++ (bytesS (ansS d key m k % Sc.pM))) (cat_length (evX_length _) (bytesS_length _))]; kernel_rfl) kR)) (.inl (show _ = _ by kernel_rfl))
end Go.Proofs.YtfhcpdbahbbmaaaGreatDoor.Cu

end
section
namespace Go.Proofs.YtfhcpdbahbbmaaaGreatDoor.Cu
open Go.RowKit Go.Proofs.YtfhcpdbahbbmaaaGreatDoor Go.Proofs.YtfhcpdbahbbmaaaGreatDoor.Sy
set_option maxRecDepth 100000
set_option maxHeartbeats 4000000

def nonS (sec : Nat) (m : List UInt8) : Nat := nonceS (evD sec) (evX (evP sec)) m
theorem nonS_lt (sec : Nat) (m : List UInt8) : nonS sec m < K4 := Sc.mod_lt _
def signB (sec : Nat) (m : List UInt8) : Bool := (evP sec).isSome && (evP (nonS sec m)).isSome
def signL (sec : Nat) (m : List UInt8) : List UInt8 := if signB sec m = true then sigS (evD sec) (evX (evP sec)) m (nonS sec m) else List.replicate 64 0
theorem Sign_no (w : World) (sec : Nat) (hsec : sec < K4) (hsm : (evP sec).isSome = false) (A : Option Addr) (m : List UInt8) (n c : Nat) (hn : m.length = n) (hm : n ≤ 999999900) (hc : n ≤ c) (hc2 : c ≤ 9223372036854775807) (hs : Sh.Src w A m) (ht : Sh.TabAt w 1) : Calls Tryz.prog 11 #[fv sec, .slice A n c] w (Gets w (.tuple #[.agg ((List.replicate 64 (0 : UInt8)).map bv).toArray, .bool false])) := by
 refine Sy.enter (args := [fv sec, .slice A n c]) Tryz.func11 rfl kL ?_
 refine sC ?_
 refine sM 24 (fcs sec) (fun g0 => ?_)
 refine sM 27 (Zl 64).toArray (fun g1 => ?_)
 refine sP (.bool false) ?_
 refine sA ?_
 refine sS (fv sec) (qL 0 g0 0 4 24 24 (fcs sec) rfl Tryz.underlying24) <| sS (.tuple #[fv (evD sec), .agg ((evX (evP sec)).map bv).toArray, .bool false]) (qF 39 #[fv sec] (fun w => by have q := even_any w sec hsec; rw [hsm] at q; exact q)) <| sP (.tuple #[fv (evD sec), .agg ((evX (evP sec)).map bv).toArray, .bool false]) <| sP (fv (evD sec)) <| sP (.agg ((evX (evP sec)).map bv).toArray) <| sP (.bool false) ?_
 refine sM 24 (fcs 0) (fun g2 => ?_)
 refine sM 31 (Zl 32).toArray (fun g3 => ?_)
 refine sW 2 g2 24 (fcs 0) (fcs (evD sec)) (wS 0 24 (fcs (evD sec)) rfl) <| sW 3 g3 31 (Zl 32).toArray ((evX (evP sec)).map bv).toArray (Writes.store 0 31 ((evX (evP sec)).map bv).toArray _ _ rfl kR kR (by rw [key_sz (evX (evP sec)) (evX_length _)]; kernel_rfl) (by rw [key_sz (evX (evP sec)) (evX_length _)]; exact Nat.le_of_ble_eq_true kR) (key_one _) (key_set _ _ (by rw [(evX_length _)]; kernel_rfl))) <| sP (.bool false) ?_
 refine sG <| Sy.seq <| sC ?_
 refine sP (.bool false) <| sP (.bool true) ?_
 refine sG <| sT <| sC ?_
 refine sP (.agg ((Zl 64) : List Value).toArray) <| sW 1 g1 27 (Zl 64).toArray (Zl 64).toArray (wS 0 27 (Zl 64).toArray rfl) <| sP (.bool false) ?_
 refine sG <| Sy.ret <| Sy.then_ret ?_
 rw [show (.tuple #[.agg ((List.replicate 64 (0 : UInt8)).map bv).toArray, .bool false] : Value) = .tuple #[.agg ((Zl 64) : List Value).toArray, .bool false] from by kernel_rfl]
 exact Sy.ret2 (v := .agg ((Zl 64) : List Value).toArray) (u := .bool false) rfl (.inl (Res.cell (ty' := 27) g1 1 (Zl 64).toArray _ kR kR Tryz.underlying27 rfl kR kR)) (.inl (show _ = _ by kernel_rfl))
theorem Sign_no2 (w : World) (sec : Nat) (hsec : sec < K4) (hsm : (evP sec).isSome = true) (A : Option Addr) (m : List UInt8) (n c : Nat) (hn : m.length = n) (hm : n ≤ 999999900) (hc : n ≤ c) (hc2 : c ≤ 9223372036854775807) (hs : Sh.Src w A m) (ht : Sh.TabAt w 1) (hsk : (evP (nonS sec m)).isSome = false) : Calls Tryz.prog 11 #[fv sec, .slice A n c] w (Gets w (.tuple #[.agg ((List.replicate 64 (0 : UInt8)).map bv).toArray, .bool false])) := by
 refine Sy.enter (args := [fv sec, .slice A n c]) Tryz.func11 rfl kL ?_
 refine sC ?_
 refine sM 24 (fcs sec) (fun g0 => ?_)
 refine sM 27 (Zl 64).toArray (fun g1 => ?_)
 refine sP (.bool false) ?_
 refine sA ?_
 refine sS (fv sec) (qL 0 g0 0 4 24 24 (fcs sec) rfl Tryz.underlying24) <| sS (.tuple #[fv (evD sec), .agg ((evX (evP sec)).map bv).toArray, .bool true]) (qF 39 #[fv sec] (fun w => by have q := even_any w sec hsec; rw [hsm] at q; exact q)) <| sP (.tuple #[fv (evD sec), .agg ((evX (evP sec)).map bv).toArray, .bool true]) <| sP (fv (evD sec)) <| sP (.agg ((evX (evP sec)).map bv).toArray) <| sP (.bool true) ?_
 refine sM 24 (fcs 0) (fun g2 => ?_)
 refine sM 31 (Zl 32).toArray (fun g3 => ?_)
 refine sW 2 g2 24 (fcs 0) (fcs (evD sec)) (wS 0 24 (fcs (evD sec)) rfl) <| sW 3 g3 31 (Zl 32).toArray ((evX (evP sec)).map bv).toArray (Writes.store 0 31 ((evX (evP sec)).map bv).toArray _ _ rfl kR kR (by rw [key_sz (evX (evP sec)) (evX_length _)]; kernel_rfl) (by rw [key_sz (evX (evP sec)) (evX_length _)]; exact Nat.le_of_ble_eq_true kR) (key_one _) (key_set _ _ (by rw [(evX_length _)]; kernel_rfl))) <| sP (.bool true) ?_
 refine sG <| Sy.seq <| sC ?_
 refine sP (.bool true) <| sP (.bool false) ?_
 refine sG <| sU <| Sy.skip ?_
 refine sR (fun j => j == 10) ?_
 refine sD 0 rfl (fv (evD sec)) (qL 2 g2 0 4 24 24 (fcs (evD sec)) rfl Tryz.underlying24) <| sD 1 rfl (.agg ((evX (evP sec)).map bv).toArray) (Quiet.load 3 g3 0 32 31 31 ((evX (evP sec)).map bv).toArray _ _ rfl kR kR Tryz.underlying31 rfl kR _ (key_whole (evX (evP sec)) (evX_length _)) (key_size (evX (evP sec)) (evX_length _))) <| sZ 2 rfl (.slice A n c) <| sD 3 rfl (fv (evD sec)) (qL 2 g2 0 4 24 24 (fcs (evD sec)) rfl Tryz.underlying24) <| sD 4 rfl (.agg ((evX (evP sec)).map bv).toArray) (Quiet.load 3 g3 0 32 31 31 ((evX (evP sec)).map bv).toArray _ _ rfl kR kR Tryz.underlying31 rfl kR _ (key_whole (evX (evP sec)) (evX_length _)) (key_size (evX (evP sec)) (evX_length _))) <| sZ 5 rfl (.slice A n c) <| sD 6 rfl (fv (nonS sec m)) (qG 41 #[fv (evD sec), .agg ((evX (evP sec)).map bv).toArray, .slice A n c] (fun w hw => nonce_any w _ (evD_lt sec hsec) _ (evX_length _) A m n c hn hm hc hc2 (hs.below hw.below) (ht.below hw.below ht.lt))) <| sD 7 rfl (.tuple #[.agg ((List.replicate 64 (0 : UInt8)).map bv).toArray, .bool false]) (qG 40 #[fv (evD sec), .agg ((evX (evP sec)).map bv).toArray, .slice A n c, fv (nonS sec m)] (fun w hw => sign_none w _ _ (evD_lt sec hsec) (nonS_lt sec m) hsk _ (evX_length _) A m n c hn hm hc hc2 (hs.below hw.below) (ht.below hw.below ht.lt))) ?_
 refine sZ 8 rfl (.agg ((List.replicate 64 (0 : UInt8)).map bv).toArray) <| sZ 9 rfl (.bool false) <| sX 10 rfl 1 g1 27 (Zl 64).toArray ((List.replicate 64 (0 : UInt8)).map bv).toArray (Writes.store 0 27 ((List.replicate 64 (0 : UInt8)).map bv).toArray _ _ rfl kR kR (by rw [key_sz (List.replicate 64 (0 : UInt8)) (List.length_replicate)]; kernel_rfl) (by rw [key_sz (List.replicate 64 (0 : UInt8)) (List.length_replicate)]; exact Nat.le_of_ble_eq_true kR) (key_one _) (key_set _ _ (by rw [(List.length_replicate)]; kernel_rfl))) ?_
 refine Sy.anyOf [11] kR (by decide) (Sy.each1 ?_)
 refine Sy.oneQuiet rfl kR (.bool false) qP ?_
 refine sI ?_
 refine Sy.ret ?_
 exact Sy.ret2 (v := .agg ((List.replicate 64 (0 : UInt8)).map bv).toArray) (u := .bool false) rfl (.inl (Res.cell (ty' := 27) g1 1 ((List.replicate 64 (0 : UInt8)).map bv).toArray _ kR kR Tryz.underlying27 rfl (by rw [key_sz (List.replicate 64 (0 : UInt8)) (List.length_replicate)]; kernel_rfl) kR)) (.inl (show _ = _ by kernel_rfl))
theorem Sign_yes (w : World) (sec : Nat) (hsec : sec < K4) (hsm : (evP sec).isSome = true) (A : Option Addr) (m : List UInt8) (n c : Nat) (hn : m.length = n) (hm : n ≤ 999999900) (hc : n ≤ c) (hc2 : c ≤ 9223372036854775807) (hs : Sh.Src w A m) (ht : Sh.TabAt w 1) (hsk : (evP (nonS sec m)).isSome = true) : Calls Tryz.prog 11 #[fv sec, .slice A n c] w (Gets w (.tuple #[.agg ((sigS (evD sec) (evX (evP sec)) m (nonS sec m)).map bv).toArray, .bool true])) := by
 refine Sy.enter (args := [fv sec, .slice A n c]) Tryz.func11 rfl kL ?_
 refine sC ?_
 refine sM 24 (fcs sec) (fun g0 => ?_)
 refine sM 27 (Zl 64).toArray (fun g1 => ?_)
 refine sP (.bool false) ?_
 refine sA ?_
 refine sS (fv sec) (qL 0 g0 0 4 24 24 (fcs sec) rfl Tryz.underlying24) <| sS (.tuple #[fv (evD sec), .agg ((evX (evP sec)).map bv).toArray, .bool true]) (qF 39 #[fv sec] (fun w => by have q := even_any w sec hsec; rw [hsm] at q; exact q)) <| sP (.tuple #[fv (evD sec), .agg ((evX (evP sec)).map bv).toArray, .bool true]) <| sP (fv (evD sec)) <| sP (.agg ((evX (evP sec)).map bv).toArray) <| sP (.bool true) ?_
 refine sM 24 (fcs 0) (fun g2 => ?_)
 refine sM 31 (Zl 32).toArray (fun g3 => ?_)
 refine sW 2 g2 24 (fcs 0) (fcs (evD sec)) (wS 0 24 (fcs (evD sec)) rfl) <| sW 3 g3 31 (Zl 32).toArray ((evX (evP sec)).map bv).toArray (Writes.store 0 31 ((evX (evP sec)).map bv).toArray _ _ rfl kR kR (by rw [key_sz (evX (evP sec)) (evX_length _)]; kernel_rfl) (by rw [key_sz (evX (evP sec)) (evX_length _)]; exact Nat.le_of_ble_eq_true kR) (key_one _) (key_set _ _ (by rw [(evX_length _)]; kernel_rfl))) <| sP (.bool true) ?_
 refine sG <| Sy.seq <| sC ?_
 refine sP (.bool true) <| sP (.bool false) ?_
 refine sG <| sU <| Sy.skip ?_
 refine sR (fun j => j == 10) ?_
 refine sD 0 rfl (fv (evD sec)) (qL 2 g2 0 4 24 24 (fcs (evD sec)) rfl Tryz.underlying24) <| sD 1 rfl (.agg ((evX (evP sec)).map bv).toArray) (Quiet.load 3 g3 0 32 31 31 ((evX (evP sec)).map bv).toArray _ _ rfl kR kR Tryz.underlying31 rfl kR _ (key_whole (evX (evP sec)) (evX_length _)) (key_size (evX (evP sec)) (evX_length _))) <| sZ 2 rfl (.slice A n c) <| sD 3 rfl (fv (evD sec)) (qL 2 g2 0 4 24 24 (fcs (evD sec)) rfl Tryz.underlying24) <| sD 4 rfl (.agg ((evX (evP sec)).map bv).toArray) (Quiet.load 3 g3 0 32 31 31 ((evX (evP sec)).map bv).toArray _ _ rfl kR kR Tryz.underlying31 rfl kR _ (key_whole (evX (evP sec)) (evX_length _)) (key_size (evX (evP sec)) (evX_length _))) <| sZ 5 rfl (.slice A n c) <| sD 6 rfl (fv (nonS sec m)) (qG 41 #[fv (evD sec), .agg ((evX (evP sec)).map bv).toArray, .slice A n c] (fun w hw => nonce_any w _ (evD_lt sec hsec) _ (evX_length _) A m n c hn hm hc hc2 (hs.below hw.below) (ht.below hw.below ht.lt))) <| sD 7 rfl (.tuple #[.agg ((sigS (evD sec) (evX (evP sec)) m (nonS sec m)).map bv).toArray, .bool true]) (qG 40 #[fv (evD sec), .agg ((evX (evP sec)).map bv).toArray, .slice A n c, fv (nonS sec m)] (fun w hw => sign_some w _ _ (evD_lt sec hsec) (nonS_lt sec m) hsk _ (evX_length _) A m n c hn hm hc hc2 (hs.below hw.below) (ht.below hw.below ht.lt))) ?_
 refine sZ 8 rfl (.agg ((sigS (evD sec) (evX (evP sec)) m (nonS sec m)).map bv).toArray) <| sZ 9 rfl (.bool true) <| sX 10 rfl 1 g1 27 (Zl 64).toArray ((sigS (evD sec) (evX (evP sec)) m (nonS sec m)).map bv).toArray (Writes.store 0 27 ((sigS (evD sec) (evX (evP sec)) m (nonS sec m)).map bv).toArray _ _ rfl kR kR (by rw [key_sz (sigS (evD sec) (evX (evP sec)) m (nonS sec m)) (sigS_length _ _ _ _)]; kernel_rfl) (by rw [key_sz (sigS (evD sec) (evX (evP sec)) m (nonS sec m)) (sigS_length _ _ _ _)]; exact Nat.le_of_ble_eq_true kR) (key_one _) (key_set _ _ (by rw [(sigS_length _ _ _ _)]; kernel_rfl))) ?_
 refine Sy.anyOf [11] kR (by decide) (Sy.each1 ?_)
 refine Sy.oneQuiet rfl kR (.bool true) qP ?_
 refine sI ?_
 refine Sy.ret ?_
 exact Sy.ret2 (v := .agg ((sigS (evD sec) (evX (evP sec)) m (nonS sec m)).map bv).toArray) (u := .bool true) rfl (.inl (Res.cell (ty' := 27) g1 1 ((sigS (evD sec) (evX (evP sec)) m (nonS sec m)).map bv).toArray _ kR kR Tryz.underlying27 rfl (by rw [key_sz (sigS (evD sec) (evX (evP sec)) m (nonS sec m)) (sigS_length _ _ _ _)]; kernel_rfl) kR)) (.inl (show _ = _ by kernel_rfl))
theorem Sign_any (w : World) (sec : Nat) (hsec : sec < K4) (A : Option Addr) (m : List UInt8) (n c : Nat) (hn : m.length = n) (hm : n ≤ 999999900) (hc : n ≤ c) (hc2 : c ≤ 9223372036854775807) (hs : Sh.Src w A m) (ht : Sh.TabAt w 1) : Calls Tryz.prog 11 #[fv sec, .slice A n c] w (Gets w (.tuple #[.agg ((signL sec m).map bv).toArray, .bool (signB sec m)])) := by
 unfold signL
 cases h1 : (evP sec).isSome with
 | false =>
  rw [show signB sec m = false from by unfold signB; rw [h1]; rfl, if_neg (by decide)]
  exact Sign_no w sec hsec h1 A m n c hn hm hc hc2 hs ht
 | true =>
  cases h2 : (evP (nonS sec m)).isSome with
  | false =>
   rw [show signB sec m = false from by unfold signB; rw [h1, h2]; rfl, if_neg (by decide)]
   exact Sign_no2 w sec hsec h1 A m n c hn hm hc hc2 hs ht h2
  | true =>
   rw [show signB sec m = true from by unfold signB; rw [h1, h2]; rfl, if_pos rfl]
   exact Sign_yes w sec hsec h1 A m n c hn hm hc hc2 hs ht h2
end Go.Proofs.YtfhcpdbahbbmaaaGreatDoor.Cu

end
section
namespace Go.Proofs.YtfhcpdbahbbmaaaGreatDoor.Cu
open Go.RowKit Go.Proofs.YtfhcpdbahbbmaaaGreatDoor Go.Proofs.YtfhcpdbahbbmaaaGreatDoor.Sy
set_option maxRecDepth 100000
set_option maxHeartbeats 4000000

section
variable {P : Program} {w0 : Base} {n : Nat} {F : Slots} {L : Blocks}
theorem retG {w1 : World} {fn : Func} {r : ResultVar} {v : Value} {R : Value → Blocks → Prop} (i : Nat) (b : Nat × TypeId × Array Value) (hr : fn.results = #[r]) (h : Has P F L r v) (hb : L[i]? = some b) (hR : R v [b]) : X (Base.of w1) n (bodyPost P fn (GetsN w1 R)) F L .ret := fun a w ha hw => by
 refine bodyPost_ret (v := v) ?_ ha.1 ⟨v, [b], rfl, hR, hw.below, fun g t cs hm => ?_, by simp⟩
 ·rcases Res.run h ha hw with ⟨t, rfl, e1⟩ | ⟨t, ty, ad, rfl, e1, e2⟩ <;> simp [results, Result.andThen, *]
 ·obtain rfl := List.mem_singleton.1 hm
  exact hw.blk _ _ _ (List.mem_of_getElem? hb)
end
theorem own_row {l : List UInt8} {k : Nat} {sp : List Value} (h : l.length = k) : (((l.map bv ++ sp).toArray).toList.drop 0).take k = l.map bv := by
 rw [List.drop_zero, List.take_append_of_le_length (by rw [List.length_map, h]; exact Nat.le_refl _), List.take_of_length_le (by rw [List.length_map, h]; exact Nat.le_refl _)]
theorem one_row (l : List UInt8) : ∀ u ∈ l.map bv, u.oneCell' = true := fun u hu => by
 obtain ⟨x, _, rfl⟩ := List.mem_map.1 hu
 rfl
theorem rem2 (w : World) (F : Slots) (o : Oper) (x y : Operand) (n : Nat) {yt : TypeId} (ho : o.op = .binOp .rem 22 x y yt) (hx : evF F x = .int .u64 (n : Int)) (hy : evF F y = .int .u64 2) (hn : n < 18446744073709551616) : (execOp (evF F) o).run Tryz.prog w = .ok (.value (.int .u64 ((n % 2 : Nat) : Int))) w := by
 have h : (binOp .rem 22 (.int .u64 (n : Int)) (.int .u64 2)).run Tryz.prog w = .ok (.int .u64 ((n % 2 : Nat) : Int)) w := by
  go_simp
  exact Int.tmod_eq_emod_of_nonneg (by omega)
 have h1 : (eqGuard .rem 22 x y (.int .u64 (n : Int)) (.int .u64 2)).run Tryz.prog w = .ok () w := by go_simp
 unfold execOp
 simp only [ho, hx, hy, Sem.run_bind, h1, h, Result.andThen_ok, Sem.run_pure]
end Go.Proofs.YtfhcpdbahbbmaaaGreatDoor.Cu

end
section
namespace Go.Proofs.YtfhcpdbahbbmaaaGreatDoor
open Go.RowKit Go.Lib

set_option maxHeartbeats 8000000 in
set_option maxRecDepth 100000 in
theorem numberR_any (w : World) (g cap : Nat) (l : List UInt8) (hl : l.length = 32) (hg : g < w.heap.size) (hcell : ∀ j u, l[j]? = some u → w.cell? ⟨g, j, none⟩ = some (bv u)) (_ : 32 ≤ cap) (_ : cap ≤ 9223372036854775807) : Calls Tryz.prog 52 #[.slice (some ⟨g, 0, none⟩) 32 cap] w fun e w' => e = .returned (fv (valB l)) ∧ Below w.heap.size w w' := by
 have HL := Lib.hid hl
 have HG := Lib.hid hcell
 clear hl hcell
 go_enter Tryz.func52, Tryz.ntmps52
 go_wp2_with fail
 go_loopw [4] (fun i wr => ∃ k y0 y1 y2 y3 : Nat, k ≤ 32 ∧ i = .int .i64 (k : Int) ∧ Hid (y0 = wdB l k 0 ∧ y1 = wdB l k 1 ∧ y2 = wdB l k 2 ∧ y3 = wdB l k 3) ∧ Below w.heap.size w wr ∧ Blk wr (w.heap.size + 1) 97 #[.int .u64 (y3 : Int), .int .u64 (y2 : Int), .int .u64 (y1 : Int), .int .u64 (y0 : Int)] ∧ Blk wr w.heap.size 97 #[.int .u64 0, .int .u64 0, .int .u64 0, .int .u64 0]) (fun i _ => 32 - (intOf i).toNat)
 case atStart => exact ⟨0, 0, 0, 0, 0, by omega, rfl, Lib.hid ⟨(wdB_zero l 0).symm, (wdB_zero l 1).symm, (wdB_zero l 2).symm, (wdB_zero l 3).symm⟩, below_alloc2 w _ _, blk_new2 w _ _ _, (Blk.new w _ _).alloc _⟩
 case round =>
  obtain ⟨k, y0, y1, y2, y3, hk, rfl, HY, hb, hP, hR⟩ := hrel
  have q3 : wr.cell? ⟨w.heap.size + 1, 0, none⟩ = some (.int .u64 (y3 : Int)) := hP.cell 0
  have q2 : wr.cell? ⟨w.heap.size + 1, 1, none⟩ = some (.int .u64 (y2 : Int)) := hP.cell 1
  have q1 : wr.cell? ⟨w.heap.size + 1, 2, none⟩ = some (.int .u64 (y1 : Int)) := hP.cell 2
  have q0 : wr.cell? ⟨w.heap.size + 1, 3, none⟩ = some (.int .u64 (y0 : Int)) := hP.cell 3
  have ff : ∀ j, wr.frozen? ⟨w.heap.size + 1, j, none⟩ = false := fun j => hP.frozen j
  by_cases hlt : k < 32
  ·obtain ⟨c, hc⟩ : ∃ c, l[k]? = some c := ⟨l[k]'(by rw [HL.out]; exact hlt), List.getElem?_eq_getElem _⟩
   have HC := Lib.hid hc
   obtain ⟨m, hm⟩ : ∃ m, m = c.toNat := ⟨_, rfl⟩
   have hm8 : m < 256 := by rw [hm]; exact c.toNat_lt
   have hI : wr.cell? ⟨g, k, none⟩ = some (.int .u8 (m : Int)) := by
    rw [hm]
    exact (hb.cell (p := ⟨g, k, none⟩) hg).trans (HG.out k c hc)
   have HM := Lib.hid hm
   have HR := Lib.hid (And.intro hb (And.intro hP hR))
   clear hb hP hR hc hk hm
   rcases (show k = 0 ∨ k = 1 ∨ k = 2 ∨ k = 3 ∨ k = 4 ∨ k = 5 ∨ k = 6 ∨ k = 7 ∨ k = 8 ∨ k = 9 ∨ k = 10 ∨ k = 11 ∨ k = 12 ∨ k = 13 ∨ k = 14 ∨ k = 15 ∨ k = 16 ∨ k = 17 ∨ k = 18 ∨ k = 19 ∨ k = 20 ∨ k = 21 ∨ k = 22 ∨ k = 23 ∨ k = 24 ∨ k = 25 ∨ k = 26 ∨ k = 27 ∨ k = 28 ∨ k = 29 ∨ k = 30 ∨ k = 31 by omega) with rfl | rfl | rfl | rfl | rfl | rfl | rfl | rfl | rfl | rfl | rfl | rfl | rfl | rfl | rfl | rfl | rfl | rfl | rfl | rfl | rfl | rfl | rfl | rfl | rfl | rfl | rfl | rfl | rfl | rfl | rfl | rfl
   all_goals
    first
    | ((have hy : y0 < 72057594037927936 := by rw [HY.out.1]; exact wdB_lt l _ 0 (by decide)); go_wp2; go_region; all_goals go_wp2; all_goals (refine ⟨⟨_, y0 * 256 + m, y1, y2, y3, by decide, rfl, Lib.hid ⟨by rw [HY.out.1, HM.out]; exact (wdB_step l _ 0 c HC.out (by decide)).symm, by rw [HY.out.2.1]; exact (wdB_same l _ 1 (by decide)).symm, by rw [HY.out.2.2.1]; exact (wdB_same l _ 2 (by decide)).symm, by rw [HY.out.2.2.2]; exact (wdB_same l _ 3 (by decide)).symm⟩, (HR.out.1.setCell (by show w.heap.size ≤ w.heap.size + 1; omega) _).drew, Blk.drew (Blk.eq_ (HR.out.2.1.set_ 3 _) (by rw [show ((y0 * 256 + m : Nat) : Int) = (y0 : Int) * 256 + (m : Int) by omega]; rfl)), Blk.drew (HR.out.2.2.far (by show w.heap.size ≠ w.heap.size + 1; omega) _)⟩, by simp [intOf]⟩))
    | ((have hy : y1 < 72057594037927936 := by rw [HY.out.2.1]; exact wdB_lt l _ 1 (by decide)); go_wp2; go_region; all_goals go_wp2; all_goals (refine ⟨⟨_, y0, y1 * 256 + m, y2, y3, by decide, rfl, Lib.hid ⟨by rw [HY.out.1]; exact (wdB_same l _ 0 (by decide)).symm, by rw [HY.out.2.1, HM.out]; exact (wdB_step l _ 1 c HC.out (by decide)).symm, by rw [HY.out.2.2.1]; exact (wdB_same l _ 2 (by decide)).symm, by rw [HY.out.2.2.2]; exact (wdB_same l _ 3 (by decide)).symm⟩, (HR.out.1.setCell (by show w.heap.size ≤ w.heap.size + 1; omega) _).drew, Blk.drew (Blk.eq_ (HR.out.2.1.set_ 2 _) (by rw [show ((y1 * 256 + m : Nat) : Int) = (y1 : Int) * 256 + (m : Int) by omega]; rfl)), Blk.drew (HR.out.2.2.far (by show w.heap.size ≠ w.heap.size + 1; omega) _)⟩, by simp [intOf]⟩))
    | ((have hy : y2 < 72057594037927936 := by rw [HY.out.2.2.1]; exact wdB_lt l _ 2 (by decide)); go_wp2; go_region; all_goals go_wp2; all_goals (refine ⟨⟨_, y0, y1, y2 * 256 + m, y3, by decide, rfl, Lib.hid ⟨by rw [HY.out.1]; exact (wdB_same l _ 0 (by decide)).symm, by rw [HY.out.2.1]; exact (wdB_same l _ 1 (by decide)).symm, by rw [HY.out.2.2.1, HM.out]; exact (wdB_step l _ 2 c HC.out (by decide)).symm, by rw [HY.out.2.2.2]; exact (wdB_same l _ 3 (by decide)).symm⟩, (HR.out.1.setCell (by show w.heap.size ≤ w.heap.size + 1; omega) _).drew, Blk.drew (Blk.eq_ (HR.out.2.1.set_ 1 _) (by rw [show ((y2 * 256 + m : Nat) : Int) = (y2 : Int) * 256 + (m : Int) by omega]; rfl)), Blk.drew (HR.out.2.2.far (by show w.heap.size ≠ w.heap.size + 1; omega) _)⟩, by simp [intOf]⟩))
    | ((have hy : y3 < 72057594037927936 := by rw [HY.out.2.2.2]; exact wdB_lt l _ 3 (by decide)); go_wp2; go_region; all_goals go_wp2; all_goals (refine ⟨⟨_, y0, y1, y2, y3 * 256 + m, by decide, rfl, Lib.hid ⟨by rw [HY.out.1]; exact (wdB_same l _ 0 (by decide)).symm, by rw [HY.out.2.1]; exact (wdB_same l _ 1 (by decide)).symm, by rw [HY.out.2.2.1]; exact (wdB_same l _ 2 (by decide)).symm, by rw [HY.out.2.2.2, HM.out]; exact (wdB_step l _ 3 c HC.out (by decide)).symm⟩, (HR.out.1.setCell (by show w.heap.size ≤ w.heap.size + 1; omega) _).drew, Blk.drew (Blk.eq_ (HR.out.2.1.set_ 0 _) (by rw [show ((y3 * 256 + m : Nat) : Int) = (y3 : Int) * 256 + (m : Int) by omega]; rfl)), Blk.drew (HR.out.2.2.far (by show w.heap.size ≠ w.heap.size + 1; omega) _)⟩, by simp [intOf]⟩))
  ·have p1 : ¬ (k : Int) < 32 := by omega
   obtain rfl : k = 32 := by omega
   have b0 : y0 < 18446744073709551616 := by rw [HY.out.1]; exact wdB_lt8 l _ _
   have b1 : y1 < 18446744073709551616 := by rw [HY.out.2.1]; exact wdB_lt8 l _ _
   have b2 : y2 < 18446744073709551616 := by rw [HY.out.2.2.1]; exact wdB_lt8 l _ _
   have b3 : y3 < 18446744073709551616 := by rw [HY.out.2.2.2]; exact wdB_lt8 l _ _
   obtain ⟨z, hz⟩ : ∃ z, z = y3 + 18446744073709551616 * y2 + 340282366920938463463374607431768211456 * y1 + 6277101735386680763835789423207666416102355444464034512896 * y0 := ⟨_, rfl⟩
   have fz := fv_mk y3 y2 y1 y0 b3 b2 b1 b0
   rw [← hz] at fz
   have hzv : valB l = z := by rw [wdB_all l HL.out, hz, HY.out.1, HY.out.2.1, HY.out.2.2.1, HY.out.2.2.2]
   have HZ := Lib.hid hzv
   have FZ := Lib.hid fz.symm
   have HP := Lib.hid hP
   have HR := Lib.hid hR
   clear HY b0 b1 b2 b3 hz fz hzv q0 q1 q2 q3 ff hP hR
   go_wp2_with (first | ((with_reducible refine here_load (d := some 31) ?_); refine wpList_load_fv rfl _ _ rfl (w.heap.size + 1) rfl (z) _ _ _ (HP.out) (FZ.out) Tryz.underlying97 rfl (by kernel_rfl) ?_) | ((with_reducible refine here_store ?_); refine wpList_store_blk rfl _ _ _ rfl (w.heap.size) (fcs (z)) rfl rfl _ _ (HR.out) (by kernel_rfl) (by rfl) (fcs_one _) ?_; intro vz hLz hqz hKz))
   exact bodyPost_ret (results_cell_row rfl _ _ w.heap.size _ _ (0, 0) _ rfl hLz Tryz.underlying97 rfl (by kernel_rfl)) rfl ⟨by rw [HZ.out]; rfl, hb.trans (hqz _ (by omega))⟩
end Go.Proofs.YtfhcpdbahbbmaaaGreatDoor

end
section
namespace Go.Proofs.YtfhcpdbahbbmaaaGreatDoor.Cu
open Go.RowKit Go.Proofs.YtfhcpdbahbbmaaaGreatDoor Go.Proofs.YtfhcpdbahbbmaaaGreatDoor.Sy

end Go.Proofs.YtfhcpdbahbbmaaaGreatDoor.Cu

end
section
namespace Go.Proofs.YtfhcpdbahbbmaaaGreatDoor.Cu
open Go.RowKit Go.Proofs.YtfhcpdbahbbmaaaGreatDoor Go.Proofs.YtfhcpdbahbbmaaaGreatDoor.Sy
set_option maxRecDepth 100000
set_option maxHeartbeats 4000000

section
variable {P : Program} {w0 : Base} {F : Slots} {L : Blocks} {o : Oper}
theorem Quiet.read {v : Value} (h : ∀ w, St w0 w L → (execOp (evF F) o).run P w = .ok (.value v) w) : Quiet P w0 F L o v := fun w hw => by
 unfold Gives; rw [h w hw]; exact ⟨rfl, Gr.refl _⟩
end
theorem str_of {w : World} {A : Option Addr} {m : List UInt8} {c : Nat} (h : Src w A m) (hm : m ≠ []) :
  (convert 25 9 (.slice A m.length c)).run Tryz.prog w = .ok (.string ⟨m.toArray⟩) w := by
 obtain ⟨b, o, rfl, _, hc⟩ := h hm
 refine run_convert_bytes_back w 25 9 5 _ c m Tryz.underlying25 Tryz.underlying5 Tryz.underlying9 (fun j hj => ?_)
 rw [addr_off]
 exact hc j _ (List.getElem?_eq_getElem hj)
theorem str_src {w0 : Base} {F : Slots} {L : Blocks} {o : Oper} (A : Option Addr) (m : List UInt8) (k c : Nat) (x : Operand) (ho : o.op = .convert 25 9 x) (hx : evF F x = .slice A k c) (hm : m.length = k) (hk : k ≠ 0) (hs : Src w0.world A m) : Quiet Tryz.prog w0 F L o (.string ⟨m.toArray⟩) := Quiet.read fun w hw => by
 have h := str_of (c := c) (hs.below hw.below) (by intro e; rw [e] at hm; exact hk hm.symm)
 rw [hm] at h
 unfold execOp
 simp only [ho, hx, Sem.run_bind, h, Result.andThen_ok, Sem.run_pure]
theorem eql_str (w : World) (F : Slots) (o : Oper) (x y : Operand) (a b : List UInt8) {yt : TypeId} (ho : o.op = .binOp .eql 9 x y yt) (hx : evF F x = .string ⟨a.toArray⟩) (hy : evF F y = .string ⟨b.toArray⟩) : (execOp (evF F) o).run Tryz.prog w = .ok (.value (.bool (decide (a = b)))) w := by
 have h1 : (eqGuard .eql 9 x y (.string ⟨a.toArray⟩) (.string ⟨b.toArray⟩)).run Tryz.prog w = .ok () w := by go_simp
 have h2 : (binOp .eql 9 (.string ⟨a.toArray⟩) (.string ⟨b.toArray⟩)).run Tryz.prog w = .ok (.bool (decide (a = b))) w := by
  by_cases e : a = b <;> simp [go_sem, ByteArray.toList_eq, e]
 unfold execOp
 simp only [ho, hx, hy, Sem.run_bind, h1, h2, Result.andThen_ok, Sem.run_pure]
end Go.Proofs.YtfhcpdbahbbmaaaGreatDoor.Cu

end
section
namespace Go.Proofs.YtfhcpdbahbbmaaaGreatDoor.Cu
open Go.RowKit Go.Proofs.YtfhcpdbahbbmaaaGreatDoor Go.Proofs.YtfhcpdbahbbmaaaGreatDoor.Sy
set_option maxRecDepth 100000
set_option maxHeartbeats 4000000

theorem equal_any (w : World) (A A2 : Option Addr) (l m : List UInt8) (n k c d : Nat) (hl : l.length = n) (hm : m.length = k) (hn : n ≠ 0) (hk : k ≠ 0) (hs : Src w A l) (ht : Src w A2 m) : Calls Tryz.prog 164 #[.slice A n c, .slice A2 k d] w (Gets w (.bool (decide (l = m)))) := by
 refine Sy.enter (args := [.slice A n c, .slice A2 k d]) Tryz.func164 rfl kL ?_
 refine sC ?_
 refine sP (.bool false) ?_
 refine sA ?_
 refine sP (.slice A n c) <| sS (.string ⟨l.toArray⟩) (str_src A l n c _ rfl rfl hl hn hs) <| sP (.slice A2 k d) <| sS (.string ⟨m.toArray⟩) (str_src A2 m k d _ rfl rfl hm hk ht) <| sS (.bool (decide (l = m))) (Quiet.pure (fun w => eql_str w _ _ _ _ l m rfl rfl rfl)) <| sP (.bool (decide (l = m))) ?_
 refine sG <| Sy.ret ?_
 exact rV (.bool (decide (l = m))) rfl
theorem src_part {w : World} {g : Nat} {t : TypeId} {l : List UInt8} (hb : Blk w g t (l.map bv).toArray) (k n : Nat) : Src w (some ⟨g, k, none⟩) ((l.drop k).take n) := fun _ => ⟨g, k, rfl, hb.lt, fun j u hj => by
 refine (hb.cell (k + j)).trans ?_
 rw [List.getElem?_take] at hj
 split at hj
 ·rw [List.getElem?_drop] at hj
  rw [List.getElem?_toArray, List.getElem?_map, hj]
  rfl
 ·cases hj⟩
theorem key_part {l : List UInt8} (k n : Nat) : Value.agg ((((l.map bv).toArray).toList.drop k).take n).toArray = .agg (((l.drop k).take n).map bv).toArray := by
 rw [List.map_take, List.map_drop]
theorem part_size {l : List UInt8} {N : Nat} (h : l.length = N) {k n : Nat} (hk : k + n ≤ N) : k + n ≤ ((l.map bv).toArray).size := by
 rw [key_sz l h]; exact hk
theorem part_len {l : List UInt8} {N : Nat} (h : l.length = N) {k n : Nat} (hk : k + n ≤ N) : ((l.drop k).take n).length = n := by
 rw [List.length_take, List.length_drop, h]; omega
def trl (k x y : Nat) (i : Bool) : List Value := fws k ++ (fws x ++ (fws y ++ [Value.bool i]))
def two (z e px py : Nat) (pi : Bool) (j : Nat) : Trm := if j = 0 then ⟨z, gx.val, gy.val, false⟩ else ⟨e, px, py, pi⟩
def rPt (z e px py : Nat) (pi : Bool) : Pt := Ec.add finv (Ec.nm finv (z % Sc.pM) bP) (Ec.nm finv (e % Sc.pM) (dec px py pi))
theorem rPt_on (z e px py : Nat) (pi : Bool) : Ec.On (rPt z e px py pi) := Ec.On.add fld (bP_on.nm fld _) ((dec_on _ _ _).nm fld _)
theorem two_c (w : World) (g : Nat) (t : TypeId) (z e px py : Nat) (pi : Bool) (hz : z < K4) (he : e < K4) (hx : px < K4) (hy : py < K4) (hb : Blk w g t (trl z gx.val gy.val false ++ trl e px py pi).toArray) : Calls Tryz.prog 143 #[.slice (some ⟨g, 0, none⟩) 2 2] w (Gets w (ptv (rPt z e px py pi))) := by
 have hr : w.rangeAt g 0 (trl z gx.val gy.val false ++ trl e px py pi) := blk_range hb (by rw [List.drop_zero]; exact List.take_of_length_le (Nat.le_refl _))
 have h := multi_any w (some ⟨g, 0, none⟩) g 0 2 2 (two z e px py pi) (Nat.le_refl _) (by decide) (fun j => by
  unfold two
  split
  ·exact ⟨hz, lt4 _, lt4 _⟩
  ·exact ⟨he, hx, hy⟩) (fun _ => ⟨rfl, hb.lt, fun j hj => by
  rcases j with _ | _ | j
  ·exact range_left hr
  ·exact range_right hr rfl
  ·omega⟩)
 have e0 : Ec.sumL finv (fun t => Ec.nm finv (two z e px py pi t).kn (two z e px py pi t).pt) (List.range 2) = rPt z e px py pi := by
  have d0 : dec gx.val gy.val false = bP := dec_fin gx gy bP_on
  unfold rPt
  rw [← d0]
  show Ec.add finv (Ec.add finv none (Ec.nm finv (z % Sc.pM) (dec gx.val gy.val false))) (Ec.nm finv (e % Sc.pM) (dec px py pi)) = _
  rw [Ec.zero_add]
 rw [e0] at h
 exact h
def ansB (s : List UInt8) (e px py : Nat) (pi : Bool) : Bool :=
 (Sc.readS ((s.drop 32).take 32)).2 && (decide ((encS (rPt (Sc.readS ((s.drop 32).take 32)).1 (Sc.negP e) px py pi)).getD 0 0 = UInt8.ofNat 2) && decide (((encS (rPt (Sc.readS ((s.drop 32).take 32)).1 (Sc.negP e) px py pi)).drop 1).take 32 = (s.drop 0).take 32))
theorem readS_lt (l : List UInt8) : (Sc.readS l).1 < K4 := by
 unfold Sc.readS
 split
 ·exact Nat.lt_trans (by assumption) (by decide)
 ·show 0 < _; decide
theorem enc_any' (w : World) {R : Pt} (h : Ec.On R) : Calls Tryz.prog 92 #[pv (pX R) (pY R) (pI R)] w (Gets w (.agg ((encS R).map bv).toArray)) := by
 have q := enc_any w (pX R) (pY R) (pI R) (pX_lt R) (pY_lt R)
 rw [dec_parts h] at q
 exact q
theorem answers_any (w : World) (s : List UInt8) (hs : s.length = 64) (e : Nat) (he : e < K4) (px py : Nat) (pi : Bool) (hpx : px < K4) (hpy : py < K4) : Calls Tryz.prog 108 #[.agg (s.map bv).toArray, fv e, pv px py pi] w (Gets w (.bool (ansB s e px py pi))) := by
 refine Sy.enter (args := [.agg (s.map bv).toArray, fv e, pv px py pi]) Tryz.func108 rfl kL ?_
 refine sC ?_
 refine sM 27 (s.map bv).toArray (fun g0 => ?_)
 refine sM 24 (fcs e) (fun g1 => ?_)
 refine sM 71 (pcs px py pi) (fun g2 => ?_)
 refine sP (.bool false) ?_
 refine sA ?_
 refine sP (.slice (some ⟨g0, 32, none⟩) 32 32) <| sP (.pointer (some ⟨g0, 32, none⟩)) <| sS (.agg (((s.drop 32).take 32).map bv).toArray) (Quiet.load 0 g0 32 32 27 30 (s.map bv).toArray _ _ rfl kR kR Tryz.underlying30 rfl kR _ (key_part 32 32) (part_size hs (by decide))) ?_
 obtain ⟨b1, hb1⟩ : ∃ z : Bool, z = (Sc.readS ((s.drop 32).take 32)).2 := ⟨_, rfl⟩
 refine sS (.tuple #[fv ((Sc.readS ((s.drop 32).take 32)).1), .bool b1]) (qF 137 #[.agg (((s.drop 32).take 32).map bv).toArray] (fun w => by rw [hb1]; exact Sc.read_any w _ (part_len hs (by decide)))) <| sP (.tuple #[fv ((Sc.readS ((s.drop 32).take 32)).1), .bool b1]) <| sP (fv ((Sc.readS ((s.drop 32).take 32)).1)) <| sP (.bool b1) ?_
 refine sM 24 (fcs 0) (fun g3 => ?_)
 refine sW 3 g3 24 (fcs 0) (fcs ((Sc.readS ((s.drop 32).take 32)).1)) (wS 0 24 (fcs ((Sc.readS ((s.drop 32).take 32)).1)) rfl) <| sP (.bool b1) ?_
 refine sG <| Sy.seq <| sC ?_
 refine sP (.bool b1) ?_
 cases b1
 ·refine sP (.bool true) ?_
  refine sG <| sT <| sC ?_
  refine sP (.bool false) ?_
  refine sG <| Sy.ret <| Sy.then_ret ?_
  rw [show (.bool (ansB s e px py pi) : Value) = .bool false from by unfold ansB; rw [← hb1]; rfl]
  exact rV (.bool false) rfl
 ·refine sP (.bool false) ?_
  refine sG <| sU <| Sy.skip ?_
  refine sR (fun j => j == 11) ?_
  refine sD 0 rfl (fv ((Sc.readS ((s.drop 32).take 32)).1)) (qL 3 g3 0 4 24 24 (fcs ((Sc.readS ((s.drop 32).take 32)).1)) rfl Tryz.underlying24) <| sD 1 rfl (pv gx.val gy.val false) (qF 94 #[] (base_c)) <| sZ 2 rfl (trv ((Sc.readS ((s.drop 32).take 32)).1) gx.val gy.val false) <| sD 3 rfl (fv e) (qL 1 g1 0 4 24 24 (fcs e) rfl Tryz.underlying24) <| sD 4 rfl (fv (Sc.negP e)) (qF 95 #[fv e] (fun w => Sc.negF_any w e he)) <| sD 5 rfl (pv px py pi) (qL 2 g2 0 9 71 71 (pcs px py pi) rfl Tryz.underlying71) <| sZ 6 rfl (trv (Sc.negP e) px py pi) ?_
  refine Sy.joinD (fun gq => [(0, .agg (s.map bv).toArray), (1, fv e), (2, pv px py pi), (3, .pointer (some ⟨g0, 0, none⟩)), (4, .pointer (some ⟨g1, 0, none⟩)), (5, .pointer (some ⟨g2, 0, none⟩)), (6, .bool false), (7, .pointer (some ⟨g3, 0, none⟩)), (8, .bool true), (9, .pointer (some ⟨(gq 1), 0, none⟩)), (10, .tuple #[fv ((Sc.readS ((s.drop 32).take 32)).1), .bool true]), (11, .slice (some ⟨g0, 32, none⟩) 32 32), (12, .pointer (some ⟨g0, 32, none⟩)), (13, .agg (((s.drop 32).take 32).map bv).toArray), (14, .tuple #[fv ((Sc.readS ((s.drop 32).take 32)).1), .bool true]), (15, fv ((Sc.readS ((s.drop 32).take 32)).1)), (16, .bool true), (17, .bool true), (18, .bool false), (19, fv ((Sc.readS ((s.drop 32).take 32)).1)), (20, pv gx.val gy.val false), (21, trv ((Sc.readS ((s.drop 32).take 32)).1) gx.val gy.val false), (22, fv e), (23, fv (Sc.negP e)), (24, pv px py pi), (25, trv (Sc.negP e) px py pi), (26, .slice (some ⟨(gq 0), 0, none⟩) 2 2), (27, pv (pX (rPt (Sc.readS ((s.drop 32).take 32)).1 (Sc.negP e) px py pi)) (pY (rPt (Sc.readS ((s.drop 32).take 32)).1 (Sc.negP e) px py pi)) (pI (rPt (Sc.readS ((s.drop 32).take 32)).1 (Sc.negP e) px py pi))), (28, .agg ((encS (rPt (Sc.readS ((s.drop 32).take 32)).1 (Sc.negP e) px py pi)).map bv).toArray)]) (fun gq => [(g0, 27, (s.map bv).toArray), (g1, 24, (fcs e)), (g2, 71, (pcs px py pi)), (g3, 24, (fcs ((Sc.readS ((s.drop 32).take 32)).1))), ((gq 0), 176, (trl ((Sc.readS ((s.drop 32).take 32)).1) gx.val gy.val false ++ (trl (Sc.negP e) px py pi)).toArray), ((gq 1), 139, (Zl 33).toArray)]) 1 #[true, true, true, true, true, true, true, true, true, true, true, false] (fun gq => ?_) (fun fin => ?_)
  ·refine Sy.writeD 11 rfl kR (by rfl) kR 5 (gq 1) 139 (Zl 33).toArray ((encS (rPt (Sc.readS ((s.drop 32).take 32)).1 (Sc.negP e) px py pi)).map bv).toArray kR (Writes.store 0 139 ((encS (rPt (Sc.readS ((s.drop 32).take 32)).1 (Sc.negP e) px py pi)).map bv).toArray _ _ rfl kR kR (by rw [key_sz (encS (rPt (Sc.readS ((s.drop 32).take 32)).1 (Sc.negP e) px py pi)) (encS_length _)]; kernel_rfl) (by rw [key_sz (encS (rPt (Sc.readS ((s.drop 32).take 32)).1 (Sc.negP e) px py pi)) (encS_length _)]; exact Nat.le_of_ble_eq_true kR) (key_one _) (key_set _ _ (by rw [(encS_length _)]; kernel_rfl))) ?_
   refine sE ?_
   refine sR (fun j => false) ?_
   refine sZ 0 rfl (.pointer (some ⟨(gq 1), 0, none⟩)) <| sD 1 rfl (bv ((encS (rPt (Sc.readS ((s.drop 32).take 32)).1 (Sc.negP e) px py pi)).getD 0 0)) (Quiet.cell 5 (gq 1) 0 139 5 ((encS (rPt (Sc.readS ((s.drop 32).take 32)).1 (Sc.negP e) px py pi)).map bv).toArray _ _ rfl kR kR Tryz.underlying5 rfl _ (key_at (encS (rPt (Sc.readS ((s.drop 32).take 32)).1 (Sc.negP e) px py pi)) (encS_length _) 0 (by decide))) ?_
   obtain ⟨b2, hb2⟩ : ∃ z : Bool, z = decide (((encS (rPt (Sc.readS ((s.drop 32).take 32)).1 (Sc.negP e) px py pi)).getD 0 0) = UInt8.ofNat 2) := ⟨_, rfl⟩
   refine sD 2 rfl (.bool b2) (Quiet.pure (fun w => by rw [hb2]; exact eql_u8 w _ _ _ _ _ 2 (by decide) rfl rfl rfl)) <| sZ 3 rfl (.bool b2) ?_
   cases b2
   ·refine sQ 4 rfl <| sQ 5 rfl <| sQ 6 rfl <| sZ 7 rfl (.bool false) <| sZ 8 rfl (.bool false) ?_
    refine sI ?_
    refine Sy.ret ?_
    rw [show (.bool (ansB s e px py pi) : Value) = .bool false from by unfold ansB; rw [← hb1, ← hb2]; rfl]
    exact rV (.bool false) rfl
   ·refine sZ 4 rfl (.slice (some ⟨(gq 1), 1, none⟩) 32 32) <| sZ 5 rfl (.slice (some ⟨g0, 0, none⟩) 32 64) ?_
    obtain ⟨b3, hb3⟩ : ∃ z : Bool, z = decide (((encS (rPt (Sc.readS ((s.drop 32).take 32)).1 (Sc.negP e) px py pi)).drop 1).take 32 = (s.drop 0).take 32) := ⟨_, rfl⟩
    refine sD 6 rfl (.bool b3) (qG 164 #[.slice (some ⟨(gq 1), 1, none⟩) 32 32, .slice (some ⟨g0, 0, none⟩) 32 64] (fun w hw => by rw [hb3]; exact equal_any w _ _ _ _ 32 32 _ _ (part_len (encS_length _) (by decide)) (part_len hs (by decide)) (by decide) (by decide) (src_part (hw.get (i := 5) rfl) 1 32) (src_part (hw.get (i := 0) rfl) 0 32))) <| sZ 7 rfl (.bool b3) <| sZ 8 rfl (.bool b3) ?_
    refine sI ?_
    refine Sy.ret ?_
    rw [show (.bool (ansB s e px py pi) : Value) = .bool b3 from by unfold ansB; rw [← hb1, ← hb2, ← hb3]; rfl]
    exact rV (.bool b3) rfl
  ·refine Sy.anyOf [7, 10] kR (by decide) (Sy.each2 ?_ ?_)
   ·refine Sy.oneMake rfl kR 176 (trl ((Sc.readS ((s.drop 32).take 32)).1) gx.val gy.val false ++ (trl (Sc.negP e) px py pi)).toArray (fun g => .slice (some ⟨g, 0, none⟩) 2 2) kF (fun g4 => ?_)
    refine Sy.anyOf [8, 10] kR (by decide) (Sy.each2 ?_ ?_)
    ·refine Sy.oneQuiet rfl kR (pv (pX (rPt (Sc.readS ((s.drop 32).take 32)).1 (Sc.negP e) px py pi)) (pY (rPt (Sc.readS ((s.drop 32).take 32)).1 (Sc.negP e) px py pi)) (pI (rPt (Sc.readS ((s.drop 32).take 32)).1 (Sc.negP e) px py pi))) (qG 143 #[.slice (some ⟨g4, 0, none⟩) 2 2] (fun w hw => by rw [← ptv_parts]; exact two_c w g4 _ _ _ px py pi (readS_lt _) (Sc.mod_lt _) hpx hpy (hw.get (i := 4) rfl))) ?_
     refine Sy.anyOf [9, 10] kR (by decide) (Sy.each2 ?_ ?_)
     ·refine Sy.oneQuiet rfl kR (.agg ((encS (rPt (Sc.readS ((s.drop 32).take 32)).1 (Sc.negP e) px py pi)).map bv).toArray) (qF 92 #[pv (pX (rPt (Sc.readS ((s.drop 32).take 32)).1 (Sc.negP e) px py pi)) (pY (rPt (Sc.readS ((s.drop 32).take 32)).1 (Sc.negP e) px py pi)) (pI (rPt (Sc.readS ((s.drop 32).take 32)).1 (Sc.negP e) px py pi))] (fun w => enc_any' w (rPt_on _ _ _ _ _))) ?_
      refine Sy.anyOf [10] kR (by decide) (Sy.each1 ?_)
      ·refine Sy.oneMake rfl kR 139 (Zl 33).toArray ptr kF (fun g5 => ?_)
       exact Sy.leafI fin (fun i => if i = 0 then g4 else g5) kR (all_cons kR (all_cons kR (all_cons kR (all_cons kR (all_cons kR (all_cons kR (all_cons kR (all_cons kR (all_cons kR (all_cons kR (all_cons kR (all_cons kR (all_cons kR (all_cons kR (all_cons kR (all_cons kR (all_cons kR (all_cons kR (all_cons kR (all_cons kR (all_cons kR (all_cons kR (all_cons kR (all_cons kR (all_cons kR (all_cons kR (all_cons kR (all_cons kR (all_cons kR all_nil))))))))))))))))))))))))))))) kR
     ·refine Sy.oneMake rfl kR 139 (Zl 33).toArray ptr kF (fun g6 => ?_)
      refine Sy.anyOf [9] kR (by decide) (Sy.each1 ?_)
      ·refine Sy.oneQuiet rfl kR (.agg ((encS (rPt (Sc.readS ((s.drop 32).take 32)).1 (Sc.negP e) px py pi)).map bv).toArray) (qF 92 #[pv (pX (rPt (Sc.readS ((s.drop 32).take 32)).1 (Sc.negP e) px py pi)) (pY (rPt (Sc.readS ((s.drop 32).take 32)).1 (Sc.negP e) px py pi)) (pI (rPt (Sc.readS ((s.drop 32).take 32)).1 (Sc.negP e) px py pi))] (fun w => enc_any' w (rPt_on _ _ _ _ _))) ?_
       exact Sy.leafI fin (fun i => if i = 0 then g4 else g6) kR (all_cons kR (all_cons kR (all_cons kR (all_cons kR (all_cons kR (all_cons kR (all_cons kR (all_cons kR (all_cons kR (all_cons kR (all_cons kR (all_cons kR (all_cons kR (all_cons kR (all_cons kR (all_cons kR (all_cons kR (all_cons kR (all_cons kR (all_cons kR (all_cons kR (all_cons kR (all_cons kR (all_cons kR (all_cons kR (all_cons kR (all_cons kR (all_cons kR (all_cons kR all_nil))))))))))))))))))))))))))))) kR
    ·refine Sy.oneMake rfl kR 139 (Zl 33).toArray ptr kF (fun g7 => ?_)
     refine Sy.anyOf [8] kR (by decide) (Sy.each1 ?_)
     ·refine Sy.oneQuiet rfl kR (pv (pX (rPt (Sc.readS ((s.drop 32).take 32)).1 (Sc.negP e) px py pi)) (pY (rPt (Sc.readS ((s.drop 32).take 32)).1 (Sc.negP e) px py pi)) (pI (rPt (Sc.readS ((s.drop 32).take 32)).1 (Sc.negP e) px py pi))) (qG 143 #[.slice (some ⟨g4, 0, none⟩) 2 2] (fun w hw => by rw [← ptv_parts]; exact two_c w g4 _ _ _ px py pi (readS_lt _) (Sc.mod_lt _) hpx hpy (hw.get (i := 4) rfl))) ?_
      refine Sy.anyOf [9] kR (by decide) (Sy.each1 ?_)
      ·refine Sy.oneQuiet rfl kR (.agg ((encS (rPt (Sc.readS ((s.drop 32).take 32)).1 (Sc.negP e) px py pi)).map bv).toArray) (qF 92 #[pv (pX (rPt (Sc.readS ((s.drop 32).take 32)).1 (Sc.negP e) px py pi)) (pY (rPt (Sc.readS ((s.drop 32).take 32)).1 (Sc.negP e) px py pi)) (pI (rPt (Sc.readS ((s.drop 32).take 32)).1 (Sc.negP e) px py pi))] (fun w => enc_any' w (rPt_on _ _ _ _ _))) ?_
       exact Sy.leafI fin (fun i => if i = 0 then g4 else g7) kR (all_cons kR (all_cons kR (all_cons kR (all_cons kR (all_cons kR (all_cons kR (all_cons kR (all_cons kR (all_cons kR (all_cons kR (all_cons kR (all_cons kR (all_cons kR (all_cons kR (all_cons kR (all_cons kR (all_cons kR (all_cons kR (all_cons kR (all_cons kR (all_cons kR (all_cons kR (all_cons kR (all_cons kR (all_cons kR (all_cons kR (all_cons kR (all_cons kR (all_cons kR all_nil))))))))))))))))))))))))))))) kR
   ·refine Sy.oneMake rfl kR 139 (Zl 33).toArray ptr kF (fun g8 => ?_)
    refine Sy.anyOf [7] kR (by decide) (Sy.each1 ?_)
    ·refine Sy.oneMake rfl kR 176 (trl ((Sc.readS ((s.drop 32).take 32)).1) gx.val gy.val false ++ (trl (Sc.negP e) px py pi)).toArray (fun g => .slice (some ⟨g, 0, none⟩) 2 2) kF (fun g9 => ?_)
     refine Sy.anyOf [8] kR (by decide) (Sy.each1 ?_)
     ·refine Sy.oneQuiet rfl kR (pv (pX (rPt (Sc.readS ((s.drop 32).take 32)).1 (Sc.negP e) px py pi)) (pY (rPt (Sc.readS ((s.drop 32).take 32)).1 (Sc.negP e) px py pi)) (pI (rPt (Sc.readS ((s.drop 32).take 32)).1 (Sc.negP e) px py pi))) (qG 143 #[.slice (some ⟨g9, 0, none⟩) 2 2] (fun w hw => by rw [← ptv_parts]; exact two_c w g9 _ _ _ px py pi (readS_lt _) (Sc.mod_lt _) hpx hpy (hw.get (i := 5) rfl))) ?_
      refine Sy.anyOf [9] kR (by decide) (Sy.each1 ?_)
      ·refine Sy.oneQuiet rfl kR (.agg ((encS (rPt (Sc.readS ((s.drop 32).take 32)).1 (Sc.negP e) px py pi)).map bv).toArray) (qF 92 #[pv (pX (rPt (Sc.readS ((s.drop 32).take 32)).1 (Sc.negP e) px py pi)) (pY (rPt (Sc.readS ((s.drop 32).take 32)).1 (Sc.negP e) px py pi)) (pI (rPt (Sc.readS ((s.drop 32).take 32)).1 (Sc.negP e) px py pi))] (fun w => enc_any' w (rPt_on _ _ _ _ _))) ?_
       exact Sy.leafS (M := [(g0, 27, (s.map bv).toArray), (g1, 24, (fcs e)), (g2, 71, (pcs px py pi)), (g3, 24, (fcs ((Sc.readS ((s.drop 32).take 32)).1)))]) (x := (g9, 176, (trl ((Sc.readS ((s.drop 32).take 32)).1) gx.val gy.val false ++ (trl (Sc.negP e) px py pi)).toArray)) (y := (g8, 139, (Zl 33).toArray)) fin (fun i => if i = 0 then g9 else g8) kR (all_cons kR (all_cons kR (all_cons kR (all_cons kR (all_cons kR (all_cons kR (all_cons kR (all_cons kR (all_cons kR (all_cons kR (all_cons kR (all_cons kR (all_cons kR (all_cons kR (all_cons kR (all_cons kR (all_cons kR (all_cons kR (all_cons kR (all_cons kR (all_cons kR (all_cons kR (all_cons kR (all_cons kR (all_cons kR (all_cons kR (all_cons kR (all_cons kR (all_cons kR all_nil))))))))))))))))))))))))))))) kR kR
end Go.Proofs.YtfhcpdbahbbmaaaGreatDoor.Cu

end
section
namespace Go.Proofs.YtfhcpdbahbbmaaaGreatDoor.Cu
open Go.RowKit Go.Proofs.YtfhcpdbahbbmaaaGreatDoor Go.Proofs.YtfhcpdbahbbmaaaGreatDoor.Sy

def verB (key m s : List UInt8) : Bool := liftB key && ansB s (chalS ((s.drop 0).take 32) key m) (pX (liftP key)) (pY (liftP key)) (pI (liftP key))
set_option maxHeartbeats 4000000 in
set_option maxRecDepth 100000 in
theorem verify_any (w : World) (key s : List UInt8) (hkey : key.length = 32) (hss : s.length = 64) (A : Option Addr) (m : List UInt8) (n c : Nat) (hn : m.length = n) (hm : n ≤ 999999900) (hc : n ≤ c) (hc2 : c ≤ 9223372036854775807) (hs : Sh.Src w A m) (ht : Sh.TabAt w 1) : Calls Tryz.prog 49 #[.agg (key.map bv).toArray, .slice A n c, .agg (s.map bv).toArray] w (Gets w (.bool (verB key m s))) := by
 refine Sy.enter (args := [.agg (key.map bv).toArray, .slice A n c, .agg (s.map bv).toArray]) Tryz.func49 rfl kL ?_
 refine sC ?_
 refine sM 31 (key.map bv).toArray (fun g0 => ?_)
 refine sM 27 (s.map bv).toArray (fun g1 => ?_)
 refine sP (.bool false) ?_
 refine sA ?_
 refine sS (.agg (key.map bv).toArray) (Quiet.load 0 g0 0 32 31 31 (key.map bv).toArray _ _ rfl kR kR Tryz.underlying31 rfl kR _ (key_whole key hkey) (key_size key hkey)) ?_
 obtain ⟨b1, hb1⟩ : ∃ z : Bool, z = liftB key := ⟨_, rfl⟩
 refine sS (.tuple #[pv (pX (liftP key)) (pY (liftP key)) (pI (liftP key)), .bool b1]) (qF 107 #[.agg (key.map bv).toArray] (fun w => by rw [← ptv_parts, hb1]; exact lift_any w key hkey)) <| sP (.tuple #[pv (pX (liftP key)) (pY (liftP key)) (pI (liftP key)), .bool b1]) <| sP (pv (pX (liftP key)) (pY (liftP key)) (pI (liftP key))) <| sP (.bool b1) ?_
 refine sM 71 (pcs 0 0 false) (fun g2 => ?_)
 refine sW 2 g2 71 (pcs 0 0 false) (pcs (pX (liftP key)) (pY (liftP key)) (pI (liftP key))) (wS 0 71 (pcs (pX (liftP key)) (pY (liftP key)) (pI (liftP key))) rfl) <| sP (.bool b1) ?_
 refine sH (fun j => false) ?_
 refine sZ 0 rfl (.bool b1) <| sZ 1 rfl (.bool b1) ?_
 cases b1
 ·refine sQ 2 rfl <| sQ 3 rfl <| sQ 4 rfl <| sQ 5 rfl <| sQ 6 rfl <| sQ 7 rfl <| sQ 8 rfl <| sQ 9 rfl ?_
  refine sQ 10 rfl <| sZ 11 rfl (.bool false) <| sZ 12 rfl (.bool false) ?_
  refine sI ?_
  refine Sy.ret ?_
  rw [show (.bool (verB key m s) : Value) = .bool false from by unfold verB; rw [← hb1]; rfl]
  exact rV (.bool false) rfl
 ·refine sD 2 rfl (.agg (s.map bv).toArray) (Quiet.load 1 g1 0 64 27 27 (s.map bv).toArray _ _ rfl kR kR Tryz.underlying27 rfl kR _ (key_whole s hss) (key_size s hss)) <| sZ 3 rfl (.slice (some ⟨g1, 0, none⟩) 32 64) <| sZ 4 rfl (.pointer (some ⟨g1, 0, none⟩)) <| sD 5 rfl (.agg (((s.drop 0).take 32).map bv).toArray) (Quiet.load 1 g1 0 32 27 31 (s.map bv).toArray _ _ rfl kR kR Tryz.underlying31 rfl kR _ (key_part 0 32) (part_size hss (by decide))) <| sD 6 rfl (.agg (key.map bv).toArray) (Quiet.load 0 g0 0 32 31 31 (key.map bv).toArray _ _ rfl kR kR Tryz.underlying31 rfl kR _ (key_whole key hkey) (key_size key hkey)) <| sZ 7 rfl (.slice A n c) <| sD 8 rfl (fv (chalS ((s.drop 0).take 32) key m)) (qG 96 #[.agg (((s.drop 0).take 32).map bv).toArray, .agg (key.map bv).toArray, .slice A n c] (fun w hw => challenge_any w _ key (part_len hss (by decide)) hkey A m n c hn hm hc hc2 (hs.below hw.below) (ht.below hw.below ht.lt))) <| sD 9 rfl (pv (pX (liftP key)) (pY (liftP key)) (pI (liftP key))) (qL 2 g2 0 9 71 71 (pcs (pX (liftP key)) (pY (liftP key)) (pI (liftP key))) rfl Tryz.underlying71) ?_
  obtain ⟨b2, hb2⟩ : ∃ z : Bool, z = ansB s (chalS ((s.drop 0).take 32) key m) (pX (liftP key)) (pY (liftP key)) (pI (liftP key)) := ⟨_, rfl⟩
  refine sD 10 rfl (.bool b2) (qF 108 #[.agg (s.map bv).toArray, fv (chalS ((s.drop 0).take 32) key m), pv (pX (liftP key)) (pY (liftP key)) (pI (liftP key))] (fun w => by rw [hb2]; exact answers_any w s hss _ (chalS_lt _ _ _) _ _ _ (pX_lt _) (pY_lt _))) <| sZ 11 rfl (.bool b2) <| sZ 12 rfl (.bool b2) ?_
  refine sI ?_
  refine Sy.ret ?_
  rw [show (.bool (verB key m s) : Value) = .bool b2 from by unfold verB; rw [← hb1, ← hb2]; rfl]
  exact rV (.bool b2) rfl
end Go.Proofs.YtfhcpdbahbbmaaaGreatDoor.Cu

end
section
namespace Go.Proofs.YtfhcpdbahbbmaaaGreatDoor.Nt

theorem pr_44706919 : Pr 44706919 := small_prime (b := 6687) (by decide) (by decide) (by decide +kernel)
theorem pr_120233 : Pr 120233 := small_prime (b := 347) (by decide) (by decide) (by decide +kernel)
theorem pr_545358713 : Pr 545358713 := small_prime (b := 23354) (by decide) (by decide) (by decide +kernel)
theorem pr_305873 : Pr 305873 := small_prime (b := 554) (by decide) (by decide) (by decide +kernel)
theorem pr_293 : Pr 293 := small_prime (b := 18) (by decide) (by decide) (by decide +kernel)
theorem pr_n1 : Pr 174723607534414371449 := by
 refine pock (F := 44706919 * 120233) (by decide) (fun r hr hrN => ?_) (by decide)
 have h0 := pock_pm 68 2 (by decide) pr_44706919 (by decide) (by decide +kernel) (by decide +kernel) (by decide) r hr hrN
 have h1 := pock_pm 68 2 (by decide) pr_120233 (by decide) (by decide +kernel) (by decide +kernel) (by decide) r hr hrN
 exact Nat.Coprime.mul_dvd_of_dvd_of_dvd (by decide) h0 h1
theorem pr_n3 : Pr 29047611873442575647497758179 := by
 refine pock (F := 545358713 * (305873 * 293)) (by decide) (fun r hr hrN => ?_) (by decide)
 have h0 := pock_pm 95 2 (by decide) pr_545358713 (by decide) (by decide +kernel) (by decide +kernel) (by decide) r hr hrN
 have h1 := pock_pm 95 2 (by decide) pr_305873 (by decide) (by decide +kernel) (by decide +kernel) (by decide) r hr hrN
 have h2 := pock_pm 95 2 (by decide) pr_293 (by decide) (by decide +kernel) (by decide +kernel) (by decide) r hr hrN
 exact Nat.Coprime.mul_dvd_of_dvd_of_dvd (by decide) h0 (Nat.Coprime.mul_dvd_of_dvd_of_dvd (by decide) h1 h2)
theorem pr_n2 : Pr 341948486974166000522343609283189 :=
 pock (F := 29047611873442575647497758179) (by decide) (fun r hr hrN => pock_pm 109 2 (by decide) pr_n3 (by decide) (by decide +kernel) (by decide +kernel) (by decide) r hr hrN) (by decide)
theorem pr_n : Pr 115792089237316195423570985008687907852837564279074904382605163141518161494337 := by
 refine pock (F := 174723607534414371449 * 341948486974166000522343609283189) (by decide) (fun r hr hrN => ?_) (by decide)
 have h0 := pock_pm 256 2 (by decide) pr_n1 (by decide) (by decide +kernel) (by decide +kernel) (by decide) r hr hrN
 have h1 := pock_pm 256 2 (by decide) pr_n2 (by decide) (by decide +kernel) (by decide +kernel) (by decide) r hr hrN
 exact Nat.Coprime.mul_dvd_of_dvd_of_dvd (by decide) h0 h1
end Go.Proofs.YtfhcpdbahbbmaaaGreatDoor.Nt

end
section
namespace Go.Proofs.YtfhcpdbahbbmaaaGreatDoor.Cu
open Go.RowKit Go.Proofs.YtfhcpdbahbbmaaaGreatDoor

def fm (k : Nat) : Fp := ⟨k % pM, mod_lt_p k⟩
def fc {α : Type} (x : Nat) (f : Nat → α) : α := match x with
 | 0 => f 0
 | n + 1 => f (n + 1)
theorem fc_eq {α : Type} (x : Nat) (f : Nat → α) : fc x f = f x := by cases x <;> rfl
def ml (a b : Nat) : Nat := a * b % pM
def sb (a b : Nat) : Nat := (pM - b + a) % pM
def ad (a b : Nat) : Nat := (a + b) % pM
def dbK {α : Type} (x y z : Nat) (k : Nat → Nat → Nat → α) : α :=
 fc (ml (ml x x) 3) fun u => fc (ml (ml x (ml y y)) 4) fun q => fc (sb (ml u u) (ad q q)) fun X => fc (sb (ml u (sb q X)) (ml (ml (ml y y) (ml y y)) 8)) fun Y => fc (ml (ml y z) 2) fun Z => k X Y Z
theorem dbK_eq {α : Type} (a : J) (k : Nat → Nat → Nat → α) : dbK a.x.val a.y.val a.z.val k = k (dblJ a).x.val (dblJ a).y.val (dblJ a).z.val := by
 unfold dbK
 simp only [fc_eq]
 rfl
def bJ : J := ⟨gx, gy, 1⟩
def adK {α : Type} (x y z : Nat) (k : Nat → Nat → Nat → α) : α :=
 cond (Nat.beq z 0) (k gx.val gy.val 1) <| fc (sb (ml gx.val (ml z z)) x) fun c => fc (sb (ml gy.val (ml (ml z z) z)) y) fun r =>
 cond (Nat.beq c 0 && Nat.beq r 0) (dbK x y z k) <| fc (ml (ml c c) c) fun d => fc (ml x (ml c c)) fun e =>
 fc (sb (sb (ml r r) d) (ad e e)) fun X => fc (sb (ml r (sb e X)) (ml y d)) fun Y => fc (ml z c) fun Z => k X Y Z
theorem one_ne : (1 : Fp) ≠ 0 := by decide +kernel
theorem uJ_b (a : J) : uJ a bJ = a.x := by
 show a.x * (1 * 1) = a.x
 grobner
theorem vJ_b (a : J) : vJ a bJ = a.y := by
 show a.y * (1 * 1 * 1) = a.y
 grobner
theorem zero_val (a : Fp) : Nat.beq a.val 0 = true ↔ a = 0 := by
 rw [Nat.beq_eq]
 exact ⟨fun h => Fin.ext h, fun h => by rw [h]; rfl⟩
theorem adK_eq {α : Type} (a : J) (k : Nat → Nat → Nat → α) : adK a.x.val a.y.val a.z.val k = k (addJ a bJ).x.val (addJ a bJ).y.val (addJ a bJ).z.val := by
 unfold adK
 by_cases h : a.z = 0
 ·rw [(zero_val _).2 h, addJ_1 h]
  rfl
 ·rw [show Nat.beq a.z.val 0 = false from by cases e : Nat.beq a.z.val 0 with | false => rfl | true => exact absurd ((zero_val _).1 e) h]
  simp only [cond_false, fc_eq]
  have hc : cJ a bJ = gx * (a.z * a.z) - a.x := by unfold cJ; rw [uJ_b]; rfl
  have hr : rJ a bJ = gy * (a.z * a.z * a.z) - a.y := by unfold rJ; rw [vJ_b]; rfl
  have ec : sb (ml gx.val (ml a.z.val a.z.val)) a.x.val = (cJ a bJ).val := by rw [hc]; rfl
  have er : sb (ml gy.val (ml (ml a.z.val a.z.val) a.z.val)) a.y.val = (rJ a bJ).val := by rw [hr]; rfl
  rw [ec, er]
  by_cases hz : cJ a bJ = 0 ∧ rJ a bJ = 0
  ·rw [(zero_val _).2 hz.1, (zero_val _).2 hz.2, addJ_3 h one_ne hz.1 hz.2]
   exact dbK_eq a k
  ·have e : (Nat.beq (cJ a bJ).val 0 && Nat.beq (rJ a bJ).val 0) = false := by
    cases q : (Nat.beq (cJ a bJ).val 0 && Nat.beq (rJ a bJ).val 0) with
    | false => rfl
    | true =>
     rw [Bool.and_eq_true] at q
     exact absurd ⟨(zero_val _).1 q.1, (zero_val _).1 q.2⟩ hz
   rw [e, addJ_4 h one_ne hz]
   simp only [cond_false]
   have s1 : szJ a bJ = a.z * cJ a bJ := by
    show a.z * 1 * cJ a bJ = _
    grobner
   unfold sxJ syJ sxJ
   rw [s1, uJ_b, vJ_b]
   rfl
def gK {α : Type} (m : Nat) : Nat → Nat → Nat → Nat → (Nat → Nat → Nat → α) → α
 | 0, x, y, z, k => k x y z
 | i + 1, x, y, z, k => dbK x y z fun x y z => cond (Nat.beq (m / 2 ^ i % 2) 1) (adK x y z fun x y z => gK m i x y z k) (gK m i x y z k)
theorem bJ_rep : Ec.Rep bJ bP := by
 show (1 : Fp) ≠ 0 ∧ gx = gx * (1 * 1) ∧ gy = gy * (1 * 1 * 1)
 exact ⟨one_ne, by grobner, by grobner⟩
theorem gK_rep {α : Type} (m : Nat) (k : Nat → Nat → Nat → α) : ∀ (i : Nat) (a : J) (t : Nat), Ec.Rep a (Ec.nm finv t bP) → ∃ a' : J, gK m i a.x.val a.y.val a.z.val k = k a'.x.val a'.y.val a'.z.val ∧ Ec.Rep a' (Ec.nm finv (t * 2 ^ i + m % 2 ^ i) bP)
 | 0, a, t, h => ⟨a, rfl, by rw [Nat.pow_zero, Nat.mul_one, Nat.mod_one, Nat.add_zero]; exact h⟩
 | i + 1, a, t, h => by
  have o := bP_on.nm fld t
  have h2 : Ec.Rep (dblJ a) (Ec.nm finv (t + t) bP) := by
   rw [Ec.nm_add fld bP_on]
   exact dblJ_rep o h
  show ∃ a', dbK _ _ _ _ = _ ∧ _
  rw [dbK_eq, Nat.mod_pow_succ, Nat.pow_succ]
  by_cases hb : m / 2 ^ i % 2 = 1
  ·rw [show Nat.beq (m / 2 ^ i % 2) 1 = true from by rw [hb]; rfl, cond_true, adK_eq]
   have h3 : Ec.Rep (addJ (dblJ a) bJ) (Ec.nm finv (t + t + 1) bP) := by
    rw [Ec.nm_add fld bP_on, Ec.nm_one]
    exact addJ_rep (bP_on.nm fld _) bP_on h2 bJ_rep
   obtain ⟨a', e, r⟩ := gK_rep m k i _ _ h3
   refine ⟨a', e, ?_⟩
   rw [show (t + t + 1) * 2 ^ i + m % 2 ^ i = t * (2 ^ i * 2) + (m % 2 ^ i + 2 ^ i * (m / 2 ^ i % 2)) from by rw [hb, Nat.mul_one, Nat.add_mul, Nat.one_mul, Nat.add_mul, ← Nat.mul_assoc, Nat.mul_two]; omega] at r
   exact r
  ·have h0 : m / 2 ^ i % 2 = 0 := by omega
   rw [h0]
   show ∃ a', gK m i _ _ _ k = _ ∧ _
   obtain ⟨a', e, r⟩ := gK_rep m k i _ _ h2
   refine ⟨a', e, ?_⟩
   rw [show (t + t) * 2 ^ i + m % 2 ^ i = t * (2 ^ i * 2) + (m % 2 ^ i + 2 ^ i * 0) from by rw [Nat.mul_zero, Nat.add_mul, ← Nat.mul_assoc, Nat.mul_two]; omega] at r
   exact r
def oJ : J := ⟨0, 0, 0⟩
theorem oJ_rep : Ec.Rep oJ (Ec.nm finv 0 bP) := rfl
def nN : Nat := 115792089237316195423570985008687907852837564279074904382605163141518161494337
set_option maxRecDepth 100000 in
theorem nN_big : nN % 2 ^ 256 = nN := by decide +kernel
set_option maxRecDepth 100000 in
theorem chain : gK nN 256 0 0 0 (fun _ _ z => z) = 0 := by decide +kernel
theorem gK_none {m : Nat} (hm : m % 2 ^ 256 = m) (h : gK m 256 0 0 0 (fun _ _ z => z) = 0) : Ec.nm finv m bP = none := by
 obtain ⟨a, e, r⟩ := gK_rep m (fun _ _ z => z) 256 oJ 0 oJ_rep
 rw [Nat.zero_mul, Nat.zero_add, hm] at r
 have e' : gK m 256 0 0 0 (fun _ _ z => z) = a.z.val := e
 rw [h] at e'
 have hz : a.z = 0 := Fin.ext e'.symm
 revert r
 cases Ec.nm finv m bP with
 | none => exact fun _ => rfl
 | some P =>
  obtain ⟨X, Y⟩ := P
  exact fun r => absurd hz r.1
def isK (X Y x y z : Nat) : Bool := !Nat.beq z 0 && (Nat.beq (ml (X % pM) (ml z z)) x && Nat.beq (ml (Y % pM) (ml (ml z z) z)) y)
theorem gK_some {m X Y : Nat} (hm : m % 2 ^ 256 = m) (h : gK m 256 0 0 0 (isK X Y) = true) : Ec.nm finv m bP = some (fm X, fm Y) := by
 obtain ⟨a, e, r⟩ := gK_rep m (isK X Y) 256 oJ 0 oJ_rep
 rw [Nat.zero_mul, Nat.zero_add, hm] at r
 have e' : gK m 256 0 0 0 (isK X Y) = isK X Y a.x.val a.y.val a.z.val := e
 rw [h] at e'
 have e2 := e'.symm
 unfold isK at e2
 rw [Bool.and_eq_true, Bool.and_eq_true, Bool.not_eq_true', Nat.beq_eq, Nat.beq_eq] at e2
 obtain ⟨h0, h1, h2⟩ := e2
 have hz : a.z ≠ 0 := fun q => by
  rw [(zero_val _).2 q] at h0
  cases h0
 have g1 : fm X * (a.z * a.z) = a.x := Fin.ext h1
 have g2 : fm Y * (a.z * a.z * a.z) = a.y := Fin.ext h2
 have hzz := fld.ne_mul hz hz
 have can : ∀ {u v w : Fp}, w ≠ 0 → u * w = v * w → u = v := fun {u v w} hw q => by
  have q2 : (u - v) * w = 0 := by clear hw h h0 h1 h2 g1 g2 hz hzz e e' r hm; grobner
  rcases fld.zero q2 with q3 | q3
  ·clear hw h h0 h1 h2 g1 g2 hz hzz e e' r hm q q2; grobner
  ·exact absurd q3 hw
 revert r
 cases Ec.nm finv m bP with
 | none => exact fun r => absurd r hz
 | some P =>
  obtain ⟨U, V⟩ := P
  rintro ⟨_, r1, r2⟩
  have u1 : U = fm X := can hzz (by rw [← r1, g1])
  have u2 : V = fm Y := can (fld.ne_mul hzz hz) (by rw [← r2, g2])
  rw [u1, u2]
theorem n_base : Ec.nm finv nN bP = none := gK_none nN_big chain
theorem prime_div (q : Nat) (hp : Nt.Pr q) (h1 : ¬ q = 0) (d : Nat) (h : d ∣ q) : d = 1 ∨ d = q := by
 rcases Nat.lt_or_ge d q with hlt | hge
 ·left
  have h0 : 0 < d := by
   rcases Nat.eq_zero_or_pos d with rfl | h0
   ·exact absurd (Nat.eq_zero_of_zero_dvd h) h1
   ·exact h0
  have := hp.2 d h0 hlt
  rwa [Nat.gcd_eq_left h] at this
 ·right
  exact Nat.le_antisymm (Nat.le_of_dvd (by omega) h) hge
set_option maxRecDepth 100000 in
theorem prime_nN : Nt.Pr nN := Nt.pr_n
theorem n_prime : ∀ d, d ∣ nN → d = 1 ∨ d = nN := prime_div nN prime_nN (by decide +kernel)
theorem n_any {P : Pt} (hP : Ec.On P) : Ec.nm finv nN P = none :=
 Ec.all_order fld (by decide +kernel) bP_on (by unfold bP; exact fun h => by cases h) n_base n_prime (by decide +kernel) hP
theorem nm_modN {P : Pt} (hP : Ec.On P) (k : Nat) : Ec.nm finv (k % nN) P = Ec.nm finv k P := Ec.nm_mod fld hP (n_any hP) k
end Go.Proofs.YtfhcpdbahbbmaaaGreatDoor.Cu

end
section
namespace Go.Proofs.YtfhcpdbahbbmaaaGreatDoor.Cu
open Go.RowKit Go.Proofs.YtfhcpdbahbbmaaaGreatDoor Go.Proofs.YtfhcpdbahbbmaaaGreatDoor.Sy

def evE (k : Nat) : Pt := match evP k with
 | none => none
 | some (x, y) => if y.val % 2 = 1 then some (x, -y) else some (x, y)
theorem nN_pM : nN = Sc.pM := by decide +kernel
theorem nm_p {P : Pt} (hP : Ec.On P) (k : Nat) : Ec.nm finv (k % Sc.pM) P = Ec.nm finv k P := by
 have h := nm_modN hP k
 rwa [nN_pM] at h
theorem nm_negP {P : Pt} (hP : Ec.On P) (k : Nat) : Ec.nm finv (Sc.negP k % Sc.pM) P = Ec.neg (Ec.nm finv (k % Sc.pM) P) := by
 have hlt : k % Sc.pM < Sc.pM := Sc.mod_lt_p k
 have e1 : Ec.nm finv (Sc.negP k % Sc.pM) P = Ec.nm finv (Sc.pM - k % Sc.pM) P := by
  unfold Sc.negP
  rw [nm_p hP, nm_p hP]
 have e2 : Ec.add finv (Ec.nm finv (k % Sc.pM) P) (Ec.nm finv (Sc.pM - k % Sc.pM) P) = none := by
  rw [← Ec.nm_add fld hP, show k % Sc.pM + (Sc.pM - k % Sc.pM) = Sc.pM by omega, ← nm_p hP, Nat.mod_self]
  rfl
 have o1 := hP.nm fld (k % Sc.pM)
 have o2 := hP.nm fld (Sc.pM - k % Sc.pM)
 rw [e1]
 have e3 := congrArg (Ec.add finv (Ec.neg (Ec.nm finv (k % Sc.pM) P))) e2
 rw [← Ec.assoc fld o1.neg o1 o2, Ec.neg_add, Ec.zero_add, Ec.add_zero] at e3
 exact e3
theorem evE_is (k : Nat) : Ec.nm finv (evD k % Sc.pM) bP = evE k := by
 unfold evD evE
 rcases h : evP k with _ | ⟨x, y⟩
 ·rfl
 ·show Ec.nm finv ((if y.val % 2 = 1 then Sc.negP k else k) % Sc.pM) bP = if y.val % 2 = 1 then some (x, -y) else some (x, y)
  by_cases hy : y.val % 2 = 1
  ·rw [if_pos hy, if_pos hy, nm_negP bP_on]
   have h' : Ec.nm finv (k % Sc.pM) bP = some (x, y) := h
   rw [h']
   rfl
  ·rw [if_neg hy, if_neg hy]
   exact h
theorem evE_lift {k : Nat} (h : (evP k).isSome = true) : liftP (evX (evP k)) = evE k ∧ liftB (evX (evP k)) = true := by
 have ho := evP_on k
 unfold evE
 rcases e : evP k with _ | ⟨x, y⟩
 ·rw [e] at h; cases h
 ·rw [e] at ho
  have hl := lift_x x y ho
  refine ⟨hl, ?_⟩
  cases hb : liftB (bytesS x.val) with
  | true => exact hb
  | false =>
   rw [lift_no hb] at hl
   split at hl <;> cases hl
theorem evE_enc {k : Nat} (h : (evP k).isSome = true) : encS (evE k) = 2 :: evX (evP k) := by
 have ho := evP_on k
 unfold evE
 rcases e : evP k with _ | ⟨x, y⟩
 ·rw [e] at h; cases h
 ·rw [e] at ho
  show encS (if y.val % 2 = 1 then some (x, -y) else some (x, y)) = 2 :: bytesS x.val
  by_cases hy : y.val % 2 = 1
  ·rw [if_pos hy]
   have hn := val_neg' y (no_two x y ho)
   show (if (-y).val % 2 = 1 then (3 : UInt8) else 2) :: bytesS x.val = _
   rw [if_neg (by omega)]
  ·rw [if_neg hy]
   show (if y.val % 2 = 1 then (3 : UInt8) else 2) :: bytesS x.val = _
   rw [if_neg hy]
theorem sig_first (d : Nat) (key m : List UInt8) (k : Nat) : ((sigS d key m k).drop 0).take 32 = evX (evP k) := by
 unfold sigS
 rw [List.drop_zero, List.take_append_of_le_length (by rw [evX_length]; exact Nat.le_refl _), List.take_of_length_le (by rw [evX_length]; exact Nat.le_refl _)]
theorem sig_last (d : Nat) (key m : List UInt8) (k : Nat) : ((sigS d key m k).drop 32).take 32 = bytesS (ansS d key m k % Sc.pM) := by
 unfold sigS
 rw [List.drop_append_of_le_length (by rw [evX_length]; exact Nat.le_refl _), List.drop_of_length_le (by rw [evX_length]; exact Nat.le_refl _), List.nil_append, List.take_of_length_le (by rw [bytesS_length]; exact Nat.le_refl _)]
theorem readS_bytes (z : Nat) : Sc.readS (bytesS (z % Sc.pM)) = (z % Sc.pM, true) := by
 unfold Sc.readS
 rw [valB_bytesS _ (Sc.mod_lt z), if_pos (Sc.mod_lt_p z)]
theorem rPt_sig (sec k e : Nat) {a b : Nat} {i : Bool} (hd : dec a b i = evE sec) : rPt (Sc.addP (evD k) (Sc.mulP e (evD sec)) % Sc.pM) (Sc.negP e) a b i = evE k := by
 have oB : Ec.On bP := bP_on
 have oE : Ec.On (evE sec) := by rw [← evE_is]; exact oB.nm fld _
 have oK : Ec.On (evE k) := by rw [← evE_is]; exact oB.nm fld _
 unfold rPt
 rw [hd, nm_negP oE]
 have e1 : Ec.nm finv (Sc.addP (evD k) (Sc.mulP e (evD sec)) % Sc.pM % Sc.pM) bP = Ec.add finv (evE k) (Ec.nm finv (e % Sc.pM) (evE sec)) := by
  rw [nm_p oB, nm_p oB]
  unfold Sc.addP Sc.mulP
  rw [nm_p oB, Ec.nm_add fld oB, nm_p oB, Ec.nm_mul fld oB, nm_p oE, ← evE_is k, ← evE_is sec, nm_p oB, nm_p oB]
 rw [e1]
 have o1 := oE.nm fld (e % Sc.pM)
 rw [Ec.assoc fld oK o1 o1.neg, Ec.add_neg, Ec.add_zero]
theorem verB_gen {key m s X Zb : List UInt8} {P E : Pt} {z e : Nat} (he : chalS X key m = e) (h1 : liftB key = true) (h2 : liftP key = P) (h3 : (s.drop 0).take 32 = X) (h4 : (s.drop 32).take 32 = Zb) (h5 : (Sc.readS Zb).1 = z) (h6 : (Sc.readS Zb).2 = true)
  (h7 : rPt z (Sc.negP e) (pX P) (pY P) (pI P) = E) (h8 : encS E = 2 :: X) (h9 : X.length = 32) : verB key m s = true := by
 unfold verB ansB
 rw [h3, he, h1, h2, h4, h6, h5, h7, h8]
 have h10 : (((2 : UInt8) :: X).drop 1).take 32 = X := by
  rw [List.drop_succ_cons, List.drop_zero, List.take_of_length_le (by rw [h9]; exact Nat.le_refl _)]
 rw [h10]
 simp
theorem verB_sig (sec : Nat) (m : List UInt8) (h : signB sec m = true) : verB (evX (evP sec)) m (signL sec m) = true := by
 have hs := h
 unfold signB at hs
 rw [Bool.and_eq_true] at hs
 obtain ⟨h1, h2⟩ := hs
 obtain ⟨l1, l2⟩ := evE_lift h1
 have hd : dec (pX (evE sec)) (pY (evE sec)) (pI (evE sec)) = evE sec := dec_parts (by rw [← evE_is]; exact bP_on.nm fld _)
 have e1 : signL sec m = sigS (evD sec) (evX (evP sec)) m (nonS sec m) := by
  unfold signL
  rw [if_pos h]
 rw [e1]
 generalize nonS sec m = k at h2 ⊢
 have hr := readS_bytes (ansS (evD sec) (evX (evP sec)) m k)
 exact verB_gen (e := chalS (evX (evP k)) (evX (evP sec)) m) rfl l2 l1 (sig_first _ _ _ _) (sig_last _ _ _ _) (congrArg Prod.fst hr) (congrArg Prod.snd hr) (rPt_sig sec k _ hd) (evE_enc h2) (evX_length _)
end Go.Proofs.YtfhcpdbahbbmaaaGreatDoor.Cu

end
section
namespace Go.Proofs.YtfhcpdbahbbmaaaGreatDoor.Cu
open Go.RowKit Go.Proofs.YtfhcpdbahbbmaaaGreatDoor Go.Proofs.YtfhcpdbahbbmaaaGreatDoor.Sy

def evenR (k y : Nat) : Nat := if y % 2 = 1 then Sc.subP 0 k else k % Sc.pM
theorem subP_zero (k : Nat) : Sc.subP 0 k = Sc.negP k % Sc.pM := by
 unfold Sc.subP Sc.negP
 rw [Nat.zero_add, Nat.mod_mod]
theorem evenR_is {k : Nat} {x y : Fp} (h : evP k = some (x, y)) : evenR k y.val = evD k % Sc.pM := by
 unfold evD evenR
 rw [h]
 show _ = (if y.val % 2 = 1 then Sc.negP k else k) % Sc.pM
 split
 ·exact subP_zero k
 ·rfl
end Go.Proofs.YtfhcpdbahbbmaaaGreatDoor.Cu

end
section
namespace Go.Proofs.YtfhcpdbahbbmaaaGreatDoor.Sc
open Go.RowKit Go.Lib

def modV : Value := .agg #[.int .u64 13822214165235122497, .int .u64 13451932020343611451, .int .u64 18446744073709551614, .int .u64 18446744073709551615, .int .u64 4624529908474429119, .int .u64 4994812053365940164, .int .u64 1]
theorem fv_P : fv 115792089237316195423570985008687907852837564279074904382605163141518161494337 = .agg #[.int .u64 13822214165235122497, .int .u64 13451932020343611451, .int .u64 18446744073709551614, .int .u64 18446744073709551615] := rfl

theorem refN_any (w : World) : Calls Tryz.prog 75 #[] w fun e w' => e = .returned modV ∧ Below w.heap.size w w' := by
 go_enter Tryz.func75, Tryz.ntmps75
 go_wp2
 exact bodyPost_ret (results_cell_row rfl _ _ w.heap.size _ _ (0, 0) _ rfl (heap_alloc_new w _) Tryz.underlying102 rfl (by kernel_rfl)) rfl ⟨rfl, (Below.refl _ _).alloc (Nat.le_refl _) _⟩
theorem refOf_any (w : World) (n : Nat) (hn : n < (2^256)) : Calls Tryz.prog 76 #[fv n] w fun e w' => e = .returned (fv n) ∧ Below w.heap.size w w' := by
 obtain ⟨a, b, c, d, fn⟩ := words_fv n hn
 rw [fn]
 clear fn
 go_enter Tryz.func76, Tryz.ntmps76
 go_wp2
 exact bodyPost_ret (results_cell_row rfl _ _ (w.heap.size + 1) _ _ (0, 0) _ rfl (heap_alloc2_new w _ _) Tryz.underlying97 rfl (by kernel_rfl)) rfl ⟨rfl, below_alloc2 w _ _⟩
theorem refSc_any (w : World) (n : Nat) (hn : n < (2^256)) : Calls Tryz.prog 85 #[fv n] w fun e w' => e = .returned (fv n) ∧ Below w.heap.size w w' := by
 obtain ⟨a, b, c, d, fn⟩ := words_fv n hn
 rw [fn]
 clear fn
 go_enter Tryz.func85, Tryz.ntmps85
 go_wp2
 exact bodyPost_ret (results_cell_row rfl _ _ (w.heap.size + 1) _ _ (0, 0) _ rfl (heap_alloc2_new w _ _) Tryz.underlying24 rfl (by kernel_rfl)) rfl ⟨rfl, below_alloc2 w _ _⟩

set_option maxHeartbeats 2000000 in
set_option maxRecDepth 100000 in
theorem normR_any (w : World) (x : Nat) (hx : x < (2^256)) : Calls Tryz.prog 74 #[modV, fv x] w fun e w' => e = .returned (fv (x % pM)) ∧ Below w.heap.size w w' := by
 obtain ⟨z, hz⟩ : ∃ z, z = x % pM := ⟨_, rfl⟩
 obtain ⟨p, hp⟩ : ∃ p, p = 115792089237316195423570985008687907852837564279074904382605163141518161494337 := ⟨_, rfl⟩
 have hpl : p < (2^256) := by omega
 obtain ⟨b, hb⟩ : ∃ b, b = decide (x < p) := ⟨_, rfl⟩
 have cb : ∀ w, Calls Tryz.prog 112 #[fv x, fv p] w fun e w' => e = .returned (.bool b) ∧ Below w.heap.size w w' := by
  intro w; rw [hb]; exact below_at w x p rfl rfl hx hpl
 have t1 : b = true → z = x := fun h => by
  rw [hb] at h
  rw [hz]
  exact Nat.mod_eq_of_lt (by rw [pM_eq, ← hp]; simpa using h)
 have cm : b = false → ∀ w, Calls Tryz.prog 131 #[fv x, fv p] w fun e w' => e = .returned (fv z) ∧ Below w.heap.size w w' := fun h w => by
  rw [hb] at h
  have hle : ¬ x < p := by simpa using h
  have hzx : z + p = x := by rw [hz, red_once x hx, if_neg (by omega)]; omega
  exact minusR_at w x p z 0 rfl rfl hx hpl (by omega) (by omega)
 have hpc : fv p = .agg #[.int .u64 13822214165235122497, .int .u64 13451932020343611451, .int .u64 18446744073709551614, .int .u64 18446744073709551615] := by rw [hp]; exact fv_P
 obtain ⟨x0, x1, x2, x3, fx⟩ := words_fv x hx
 have FX := Lib.hid fx
 have FP := Lib.hid hpc
 rw [fx, ← hz]
 unfold modV
 clear fx hpc hx hz hp hpl hb
 go_enter Tryz.func74, Tryz.ntmps74
 go_wp2_with (first | ((with_reducible refine here_load (d := some 6) ?_); refine wpList_load_fv rfl _ _ rfl (w.heap.size + 1) rfl (x) _ _ _ ((blk_new2 w _ _ _).alloc _) (FX.out) Tryz.underlying97 rfl (by kernel_rfl) ?_) | ((with_reducible refine here_load (d := some 8) ?_); refine wpList_load_part rfl _ _ rfl w.heap.size rfl p [.int .u64 13822214165235122497, .int .u64 13451932020343611451, .int .u64 18446744073709551614, .int .u64 18446744073709551615] _ (mod_range (((Blk.new w _ _).alloc _).alloc _)) FP.out Tryz.underlying97 rfl (by kernel_rfl) ?_))
 refine (cb _).mono ?_
 rintro e w1 ⟨rfl, k1⟩
 have BM : Blk w1 w.heap.size 102 _ := Gr.blk k1 (((Blk.new w _ _).alloc _).alloc _)
 have BX : Blk w1 (w.heap.size + 1) 97 _ := Gr.blk k1 ((blk_new2 w _ _ _).alloc _)
 have BR : Blk w1 (w.heap.size + 2) 97 _ := Gr.blk k1 (blk_new3 w _ _ _ _)
 have hB := Below.gr (below_alloc3 w _ _ _) k1
 clear k1 cb
 cases b
 ·have cmm := cm rfl
  clear cm t1
  go_wp2_with (first | ((with_reducible refine here_load (d := some 12) ?_); refine wpList_load_fv rfl _ _ rfl (w.heap.size + 1) rfl (x) _ _ _ (BX) (FX.out) Tryz.underlying97 rfl (by kernel_rfl) ?_) | ((with_reducible refine here_load (d := some 14) ?_); refine wpList_load_part rfl _ _ rfl w.heap.size rfl p [.int .u64 13822214165235122497, .int .u64 13451932020343611451, .int .u64 18446744073709551614, .int .u64 18446744073709551615] _ (mod_range (BM)) FP.out Tryz.underlying97 rfl (by kernel_rfl) ?_))
  refine (cmm _).mono ?_
  rintro e w2 ⟨rfl, k2⟩
  have BR2 := Gr.blk k2 BR
  have hB2 := Below.gr hB k2
  clear k2 cmm
  go_wp2_with (first | ((with_reducible refine here_store ?_); refine wpList_store_blk rfl _ _ _ rfl (w.heap.size + 2) (fcs (z)) rfl rfl _ _ (BR2) (by kernel_rfl) (by rfl) (fcs_one _) ?_; intro w9 hL9 hB9 hK9))
  exact bodyPost_ret (results_cell_row rfl _ _ (w.heap.size + 2) _ _ (0, 0) _ rfl hL9 Tryz.underlying97 rfl (by kernel_rfl)) rfl ⟨rfl, hB2.trans (hB9 _ (by omega))⟩
 ·have HZX := Lib.hid (t1 rfl)
  clear t1 cm
  go_wp2_with (first | ((with_reducible refine here_load (d := some 11) ?_); refine wpList_load_fv rfl _ _ rfl (w.heap.size + 1) rfl (x) _ _ _ (BX) (FX.out) Tryz.underlying97 rfl (by kernel_rfl) ?_) | ((with_reducible refine here_store ?_); refine wpList_store_blk rfl _ _ _ rfl (w.heap.size + 2) (fcs (x)) rfl rfl _ _ (BR) (by kernel_rfl) (by rfl) (fcs_one _) ?_; intro w9 hL9 hB9 hK9))
  exact bodyPost_ret (results_cell_row rfl _ _ (w.heap.size + 2) _ _ (0, 0) _ rfl hL9 Tryz.underlying97 rfl (by kernel_rfl)) rfl ⟨by rw [HZX.out]; rfl, hB.trans (hB9 _ (by omega))⟩

end Go.Proofs.YtfhcpdbahbbmaaaGreatDoor.Sc

end
section
namespace Go.Proofs.YtfhcpdbahbbmaaaGreatDoor.Sc
open Go.RowKit Go.Lib Go.Proofs.YtfhcpdbahbbmaaaGreatDoor

def lackW : Nat → Nat
 | 0 => 4624529908474429119
 | 1 => 4994812053365940164
 | 2 => 1
 | _ => 0
theorem lackW_lt : ∀ t, lackW t < 18446744073709551616
 | 0 => by decide
 | 1 => by decide
 | 2 => by decide
 | _ + 3 => by show 0 < _; decide
theorem mod_row : Fz.modc pM lackW = #[.int .u64 13822214165235122497, .int .u64 13451932020343611451, .int .u64 18446744073709551614, .int .u64 18446744073709551615, .int .u64 4624529908474429119, .int .u64 4994812053365940164, .int .u64 1] := by kernel_rfl
theorem lack_sum : pM + Fz.vR lackW 3 = 18446744073709551616 ^ 4 := by decide +kernel
theorem pM_pos0 : 0 < pM := by decide +kernel
theorem fold_any (w : World) (d0 d1 d2 d3 d4 d5 d6 d7 : Nat) (hd : d0 < 18446744073709551616 ∧ d1 < 18446744073709551616 ∧ d2 < 18446744073709551616 ∧ d3 < 18446744073709551616 ∧ d4 < 18446744073709551616 ∧ d5 < 18446744073709551616 ∧ d6 < 18446744073709551616 ∧ d7 < 18446744073709551616) : Calls Tryz.prog 159 #[.agg #[.int .u64 13822214165235122497, .int .u64 13451932020343611451, .int .u64 18446744073709551614, .int .u64 18446744073709551615, .int .u64 4624529908474429119, .int .u64 4994812053365940164, .int .u64 1], .agg #[.int .u64 (d0 : Int), .int .u64 (d1 : Int), .int .u64 (d2 : Int), .int .u64 (d3 : Int), .int .u64 (d4 : Int), .int .u64 (d5 : Int), .int .u64 (d6 : Int), .int .u64 (d7 : Int)]] w fun e w' => e = .returned (fv (val8 d0 d1 d2 d3 d4 d5 d6 d7 % pM)) ∧ Below w.heap.size w w' := by
 have h := Fz.foldZ w pM lackW lackW_lt pM_pos0 lack_sum (fun w x hx => by rw [mod_row]; exact normR_any w x hx) (r8 d0 d1 d2 d3 d4 d5 d6 d7) (fun t => by
  obtain ⟨h0, h1, h2, h3, h4, h5, h6, h7⟩ := hd
  rcases t with _ | _ | _ | _ | _ | _ | _ | _ | t <;> first | assumption | exact Nat.zero_lt_succ _)
 rw [r8_val, mod_row] at h
 exact h
end Go.Proofs.YtfhcpdbahbbmaaaGreatDoor.Sc

end
section
namespace Go.Proofs.YtfhcpdbahbbmaaaGreatDoor.Sc
open Go.RowKit Go.Lib

theorem below_alloc4 (w : World) (a b c d : Obj) : Below w.heap.size w ((((w.alloc a).alloc b).alloc c).alloc d) := (below_alloc3 w a b c).alloc (by simp <;> omega) _
theorem below_alloc5 (w : World) (a b c d e : Obj) : Below w.heap.size w (((((w.alloc a).alloc b).alloc c).alloc d).alloc e) := (below_alloc4 w a b c d).alloc (by simp <;> omega) _
theorem blk_new5 (w : World) (a b c d : Obj) (t : TypeId) (cs : Array Value) : Blk (((((w.alloc a).alloc b).alloc c).alloc d).alloc (.cells cs t)) (w.heap.size + 4) t cs := by
 have h := Blk.new ((((w.alloc a).alloc b).alloc c).alloc d) t cs
 have e : ((((w.alloc a).alloc b).alloc c).alloc d).heap.size = w.heap.size + 4 := by simp
 rwa [e] at h
section
variable {P : Program} {ops : Array Oper}
theorem YieldsG.loadP {o : Oper} {a : Act} {w : World} {d : TypeDesc} (hw : Region.wanted o (yielded ops a.tmps) = true) (ty : TypeId) (x : Operand) (ho : o.op = .load ty x)
  (g : Nat) (hx : a.eval x = .pointer (some ⟨g, 0, none⟩)) (n : Nat) (cs : List Value) (hl : g < w.heap.size) (hr : w.rangeAt g 0 cs) (hf : fv n = .agg cs.toArray)
  (hu : P.underlying ty = some d) (hd : d.isRow = true) (hi : (P.info? ty).map (·.size) = some cs.length) : YieldsG P ops o (fv n) a w := by
 rw [hf]
 exact YieldsG.load hw ty x ho g 0 hx cs d hl hr hu hd hi
end

set_option maxHeartbeats 8000000 in
set_option maxRecDepth 100000 in
theorem addR_any (w : World) (x y : Nat) (hx : x < (2^256)) (hy : y < (2^256)) : Calls Tryz.prog 105 #[.agg #[.int .u64 13822214165235122497, .int .u64 13451932020343611451, .int .u64 18446744073709551614, .int .u64 18446744073709551615, .int .u64 4624529908474429119, .int .u64 4994812053365940164, .int .u64 1], fv x, fv y] w fun e w' => e = .returned (fv (addP x y)) ∧ Below w.heap.size w w' := by
 obtain ⟨x0, x1, x2, x3, a0, a1, a2, a3, ex, fx⟩ := words_of x hx
 obtain ⟨y0, y1, y2, y3, b0, b1, b2, b3, ey, fy⟩ := words_of y hy
 obtain ⟨s0, c0, d0, k0, e0, r0⟩ := add0_ex x0 y0 a0 b0
 obtain ⟨s1, c1, d1, k1, e1, r1⟩ := addc_ex x1 y1 c0 a1 b1 k0
 obtain ⟨s2, c2, d2, k2, e2, r2⟩ := addc_ex x2 y2 c1 a2 b2 k1
 obtain ⟨s3, c3, d3, k3, e3, r3⟩ := addc_ex x3 y3 c2 a3 b3 k2
 have fin : val8 s0 s1 s2 s3 c3 0 0 0 = x + y := by simp only [val8]; omega
 obtain ⟨z, hz⟩ : ∃ z, z = addP x y := ⟨_, rfl⟩
 have cF : ∀ w, Calls Tryz.prog 159 #[.agg #[.int .u64 13822214165235122497, .int .u64 13451932020343611451, .int .u64 18446744073709551614, .int .u64 18446744073709551615, .int .u64 4624529908474429119, .int .u64 4994812053365940164, .int .u64 1], .agg #[.int .u64 (s0 : Int), .int .u64 (s1 : Int), .int .u64 (s2 : Int), .int .u64 (s3 : Int), .int .u64 (c3 : Int), .int .u64 0, .int .u64 0, .int .u64 0]] w fun e w' => e = .returned (fv z) ∧ Below w.heap.size w w' := by
  intro w
  have h := fold_any w s0 s1 s2 s3 c3 0 0 0 ⟨d0, d1, d2, d3, by omega, by omega, by omega, by omega⟩
  rw [fin] at h
  rw [hz]
  exact h
 rw [fx, fy, ← hz]
 clear fx fy ex ey hx hy hz a0 a1 a2 a3 b0 b1 b2 b3 d0 d1 d2 d3 k0 k1 k2 k3 e0 e1 e2 e3 fin
 go_enter Tryz.func105, Tryz.ntmps105
 go_wp2_with fail
 go_loopw [8, 9] (fun bo i wr => Below w.heap.size w wr ∧ Blk wr w.heap.size 102 #[.int .u64 13822214165235122497, .int .u64 13451932020343611451, .int .u64 18446744073709551614, .int .u64 18446744073709551615, .int .u64 4624529908474429119, .int .u64 4994812053365940164, .int .u64 1] ∧ Blk wr (w.heap.size + 1) 97 #[.int .u64 (x0 : Int), .int .u64 (x1 : Int), .int .u64 (x2 : Int), .int .u64 (x3 : Int)] ∧ Blk wr (w.heap.size + 2) 97 #[.int .u64 (y0 : Int), .int .u64 (y1 : Int), .int .u64 (y2 : Int), .int .u64 (y3 : Int)] ∧ Blk wr (w.heap.size + 3) 97 #[.int .u64 0, .int .u64 0, .int .u64 0, .int .u64 0] ∧ Hid ((i = .int .i64 0 ∧ bo = .int .u64 0 ∧ Blk wr (w.heap.size + 4) 194 #[.int .u64 0, .int .u64 0, .int .u64 0, .int .u64 0, .int .u64 0, .int .u64 0, .int .u64 0, .int .u64 0]) ∨ (i = .int .i64 1 ∧ bo = .int .u64 (c0 : Int) ∧ Blk wr (w.heap.size + 4) 194 #[.int .u64 (s0 : Int), .int .u64 0, .int .u64 0, .int .u64 0, .int .u64 0, .int .u64 0, .int .u64 0, .int .u64 0]) ∨ (i = .int .i64 2 ∧ bo = .int .u64 (c1 : Int) ∧ Blk wr (w.heap.size + 4) 194 #[.int .u64 (s0 : Int), .int .u64 (s1 : Int), .int .u64 0, .int .u64 0, .int .u64 0, .int .u64 0, .int .u64 0, .int .u64 0]) ∨ (i = .int .i64 3 ∧ bo = .int .u64 (c2 : Int) ∧ Blk wr (w.heap.size + 4) 194 #[.int .u64 (s0 : Int), .int .u64 (s1 : Int), .int .u64 (s2 : Int), .int .u64 0, .int .u64 0, .int .u64 0, .int .u64 0, .int .u64 0]) ∨ (i = .int .i64 4 ∧ bo = .int .u64 (c3 : Int) ∧ Blk wr (w.heap.size + 4) 194 #[.int .u64 (s0 : Int), .int .u64 (s1 : Int), .int .u64 (s2 : Int), .int .u64 (s3 : Int), .int .u64 0, .int .u64 0, .int .u64 0, .int .u64 0]))) (fun _ i _ => 4 - (intOf i).toNat)
 case atStart => exact ⟨below_alloc5 w _ _ _ _ _, (((((Blk.new w _ _).alloc _).alloc _).alloc _).alloc _), ((((blk_new2 w _ _ _).alloc _).alloc _).alloc _), (((blk_new3 w _ _ _ _).alloc _).alloc _), ((blk_new4 w _ _ _ _ _).alloc _), Lib.hid (.inl ⟨rfl, rfl, blk_new5 w _ _ _ _ _ _⟩)⟩
 case round =>
  obtain ⟨hb, BM, BX, BY, BR, HI⟩ := hrel
  have lX := BX.lt
  have lY := BY.lt
  have lR := BR.lt
  rcases HI.out with ⟨rfl, rfl, BW⟩ | ⟨rfl, rfl, BW⟩ | ⟨rfl, rfl, BW⟩ | ⟨rfl, rfl, BW⟩ | ⟨rfl, rfl, BW⟩
  ·clear HI
   have px : wr.cell? ⟨w.heap.size + 1, 0, none⟩ = some (.int .u64 (x0 : Int)) := BX.cell 0
   have py : wr.cell? ⟨w.heap.size + 2, 0, none⟩ = some (.int .u64 (y0 : Int)) := BY.cell 0
   go_wp2
   refine wp_region_G (fun _ => false) (by kernel_rfl) ?_
   try simp only [Act.put]
   refine tk 0 rfl ?_
   try simp only [Act.put, aA, aZ, aS]
   refine tk 1 rfl ?_
   try simp only [Act.put, aA, aZ, aS]
   refine tkw 2 rfl (YieldsG.pure (v := .int .u64 (x0 : Int)) (by rfl) (fun w9 h9 => by have hz := (Below.cell (p := ⟨w.heap.size + 1, 0, none⟩) h9 lX).trans px; go_simp; first | done | simp [hz])) ?_
   try simp only [Act.put, aA, aZ, aS]
   refine tk 3 rfl ?_
   try simp only [Act.put, aA, aZ, aS]
   refine tk 4 rfl ?_
   try simp only [Act.put, aA, aZ, aS]
   refine tkw 5 rfl (YieldsG.pure (v := .int .u64 (y0 : Int)) (by rfl) (fun w9 h9 => by have hz := (Below.cell (p := ⟨w.heap.size + 2, 0, none⟩) h9 lY).trans py; go_simp; first | done | simp [hz])) ?_
   try simp only [Act.put, aA, aZ, aS]
   refine tk 6 rfl ?_
   try simp only [Act.put, aA, aZ, aS]
   refine tkw 7 rfl (YieldsG.pure (v := .tuple #[.int .u64 (s0 : Int), .int .u64 (c0 : Int)]) (by rfl) (fun w9 h9 => by go_simp)) ?_
   try simp only [Act.put, aA, aZ, aS]
   refine tk 8 rfl ?_
   try simp only [Act.put, aA, aZ, aS]
   refine tk 9 rfl ?_
   try simp only [Act.put, aA, aZ, aS]
   refine tk 10 rfl ?_
   try simp only [Act.put, aA, aZ, aS]
   refine tk 11 rfl ?_
   try simp only [Act.put, aA, aZ, aS]
   refine tk 12 rfl ?_
   try simp only [Act.put, aA, aZ, aS]
   refine wpAnyG_done (by kernel_rfl) (fun u hu => ?_)
   have BM := Gr.blk hu BM
   have BX := Gr.blk hu BX
   have BY := Gr.blk hu BY
   have BR := Gr.blk hu BR
   have BW := Gr.blk hu BW
   have hb := Below.gr hb hu
   have pc : u.cell? ⟨w.heap.size + 4, 0, none⟩ = some (.int .u64 0) := BW.cell 0
   have pf := BW.frozen 0
   clear hu px py
   go_wp2
   refine ⟨⟨hb.setCell (by show w.heap.size ≤ w.heap.size + 4; omega) _, BM.far (by show w.heap.size ≠ w.heap.size + 4; omega) _, BX.far (by show w.heap.size + 1 ≠ w.heap.size + 4; omega) _, BY.far (by show w.heap.size + 2 ≠ w.heap.size + 4; omega) _, BR.far (by show w.heap.size + 3 ≠ w.heap.size + 4; omega) _, Lib.hid (.inr (.inl (⟨rfl, rfl, BW.set_ 0 _⟩)))⟩, by decide⟩
  ·clear HI
   have px : wr.cell? ⟨w.heap.size + 1, 1, none⟩ = some (.int .u64 (x1 : Int)) := BX.cell 1
   have py : wr.cell? ⟨w.heap.size + 2, 1, none⟩ = some (.int .u64 (y1 : Int)) := BY.cell 1
   go_wp2
   refine wp_region_G (fun _ => false) (by kernel_rfl) ?_
   try simp only [Act.put]
   refine tk 0 rfl ?_
   try simp only [Act.put, aA, aZ, aS]
   refine tk 1 rfl ?_
   try simp only [Act.put, aA, aZ, aS]
   refine tkw 2 rfl (YieldsG.pure (v := .int .u64 (x1 : Int)) (by rfl) (fun w9 h9 => by have hz := (Below.cell (p := ⟨w.heap.size + 1, 1, none⟩) h9 lX).trans px; go_simp; first | done | simp [hz])) ?_
   try simp only [Act.put, aA, aZ, aS]
   refine tk 3 rfl ?_
   try simp only [Act.put, aA, aZ, aS]
   refine tk 4 rfl ?_
   try simp only [Act.put, aA, aZ, aS]
   refine tkw 5 rfl (YieldsG.pure (v := .int .u64 (y1 : Int)) (by rfl) (fun w9 h9 => by have hz := (Below.cell (p := ⟨w.heap.size + 2, 1, none⟩) h9 lY).trans py; go_simp; first | done | simp [hz])) ?_
   try simp only [Act.put, aA, aZ, aS]
   refine tk 6 rfl ?_
   try simp only [Act.put, aA, aZ, aS]
   refine tkw 7 rfl (YieldsG.pure (v := .tuple #[.int .u64 (s1 : Int), .int .u64 (c1 : Int)]) (by rfl) (fun w9 h9 => by go_simp)) ?_
   try simp only [Act.put, aA, aZ, aS]
   refine tk 8 rfl ?_
   try simp only [Act.put, aA, aZ, aS]
   refine tk 9 rfl ?_
   try simp only [Act.put, aA, aZ, aS]
   refine tk 10 rfl ?_
   try simp only [Act.put, aA, aZ, aS]
   refine tk 11 rfl ?_
   try simp only [Act.put, aA, aZ, aS]
   refine tk 12 rfl ?_
   try simp only [Act.put, aA, aZ, aS]
   refine wpAnyG_done (by kernel_rfl) (fun u hu => ?_)
   have BM := Gr.blk hu BM
   have BX := Gr.blk hu BX
   have BY := Gr.blk hu BY
   have BR := Gr.blk hu BR
   have BW := Gr.blk hu BW
   have hb := Below.gr hb hu
   have pc : u.cell? ⟨w.heap.size + 4, 1, none⟩ = some (.int .u64 0) := BW.cell 1
   have pf := BW.frozen 1
   clear hu px py
   go_wp2
   refine ⟨⟨hb.setCell (by show w.heap.size ≤ w.heap.size + 4; omega) _, BM.far (by show w.heap.size ≠ w.heap.size + 4; omega) _, BX.far (by show w.heap.size + 1 ≠ w.heap.size + 4; omega) _, BY.far (by show w.heap.size + 2 ≠ w.heap.size + 4; omega) _, BR.far (by show w.heap.size + 3 ≠ w.heap.size + 4; omega) _, Lib.hid (.inr (.inr (.inl (⟨rfl, rfl, BW.set_ 1 _⟩))))⟩, by decide⟩
  ·clear HI
   have px : wr.cell? ⟨w.heap.size + 1, 2, none⟩ = some (.int .u64 (x2 : Int)) := BX.cell 2
   have py : wr.cell? ⟨w.heap.size + 2, 2, none⟩ = some (.int .u64 (y2 : Int)) := BY.cell 2
   go_wp2
   refine wp_region_G (fun _ => false) (by kernel_rfl) ?_
   try simp only [Act.put]
   refine tk 0 rfl ?_
   try simp only [Act.put, aA, aZ, aS]
   refine tk 1 rfl ?_
   try simp only [Act.put, aA, aZ, aS]
   refine tkw 2 rfl (YieldsG.pure (v := .int .u64 (x2 : Int)) (by rfl) (fun w9 h9 => by have hz := (Below.cell (p := ⟨w.heap.size + 1, 2, none⟩) h9 lX).trans px; go_simp; first | done | simp [hz])) ?_
   try simp only [Act.put, aA, aZ, aS]
   refine tk 3 rfl ?_
   try simp only [Act.put, aA, aZ, aS]
   refine tk 4 rfl ?_
   try simp only [Act.put, aA, aZ, aS]
   refine tkw 5 rfl (YieldsG.pure (v := .int .u64 (y2 : Int)) (by rfl) (fun w9 h9 => by have hz := (Below.cell (p := ⟨w.heap.size + 2, 2, none⟩) h9 lY).trans py; go_simp; first | done | simp [hz])) ?_
   try simp only [Act.put, aA, aZ, aS]
   refine tk 6 rfl ?_
   try simp only [Act.put, aA, aZ, aS]
   refine tkw 7 rfl (YieldsG.pure (v := .tuple #[.int .u64 (s2 : Int), .int .u64 (c2 : Int)]) (by rfl) (fun w9 h9 => by go_simp)) ?_
   try simp only [Act.put, aA, aZ, aS]
   refine tk 8 rfl ?_
   try simp only [Act.put, aA, aZ, aS]
   refine tk 9 rfl ?_
   try simp only [Act.put, aA, aZ, aS]
   refine tk 10 rfl ?_
   try simp only [Act.put, aA, aZ, aS]
   refine tk 11 rfl ?_
   try simp only [Act.put, aA, aZ, aS]
   refine tk 12 rfl ?_
   try simp only [Act.put, aA, aZ, aS]
   refine wpAnyG_done (by kernel_rfl) (fun u hu => ?_)
   have BM := Gr.blk hu BM
   have BX := Gr.blk hu BX
   have BY := Gr.blk hu BY
   have BR := Gr.blk hu BR
   have BW := Gr.blk hu BW
   have hb := Below.gr hb hu
   have pc : u.cell? ⟨w.heap.size + 4, 2, none⟩ = some (.int .u64 0) := BW.cell 2
   have pf := BW.frozen 2
   clear hu px py
   go_wp2
   refine ⟨⟨hb.setCell (by show w.heap.size ≤ w.heap.size + 4; omega) _, BM.far (by show w.heap.size ≠ w.heap.size + 4; omega) _, BX.far (by show w.heap.size + 1 ≠ w.heap.size + 4; omega) _, BY.far (by show w.heap.size + 2 ≠ w.heap.size + 4; omega) _, BR.far (by show w.heap.size + 3 ≠ w.heap.size + 4; omega) _, Lib.hid (.inr (.inr (.inr (.inl (⟨rfl, rfl, BW.set_ 2 _⟩)))))⟩, by decide⟩
  ·clear HI
   have px : wr.cell? ⟨w.heap.size + 1, 3, none⟩ = some (.int .u64 (x3 : Int)) := BX.cell 3
   have py : wr.cell? ⟨w.heap.size + 2, 3, none⟩ = some (.int .u64 (y3 : Int)) := BY.cell 3
   go_wp2
   refine wp_region_G (fun _ => false) (by kernel_rfl) ?_
   try simp only [Act.put]
   refine tk 0 rfl ?_
   try simp only [Act.put, aA, aZ, aS]
   refine tk 1 rfl ?_
   try simp only [Act.put, aA, aZ, aS]
   refine tkw 2 rfl (YieldsG.pure (v := .int .u64 (x3 : Int)) (by rfl) (fun w9 h9 => by have hz := (Below.cell (p := ⟨w.heap.size + 1, 3, none⟩) h9 lX).trans px; go_simp; first | done | simp [hz])) ?_
   try simp only [Act.put, aA, aZ, aS]
   refine tk 3 rfl ?_
   try simp only [Act.put, aA, aZ, aS]
   refine tk 4 rfl ?_
   try simp only [Act.put, aA, aZ, aS]
   refine tkw 5 rfl (YieldsG.pure (v := .int .u64 (y3 : Int)) (by rfl) (fun w9 h9 => by have hz := (Below.cell (p := ⟨w.heap.size + 2, 3, none⟩) h9 lY).trans py; go_simp; first | done | simp [hz])) ?_
   try simp only [Act.put, aA, aZ, aS]
   refine tk 6 rfl ?_
   try simp only [Act.put, aA, aZ, aS]
   refine tkw 7 rfl (YieldsG.pure (v := .tuple #[.int .u64 (s3 : Int), .int .u64 (c3 : Int)]) (by rfl) (fun w9 h9 => by go_simp)) ?_
   try simp only [Act.put, aA, aZ, aS]
   refine tk 8 rfl ?_
   try simp only [Act.put, aA, aZ, aS]
   refine tk 9 rfl ?_
   try simp only [Act.put, aA, aZ, aS]
   refine tk 10 rfl ?_
   try simp only [Act.put, aA, aZ, aS]
   refine tk 11 rfl ?_
   try simp only [Act.put, aA, aZ, aS]
   refine tk 12 rfl ?_
   try simp only [Act.put, aA, aZ, aS]
   refine wpAnyG_done (by kernel_rfl) (fun u hu => ?_)
   have BM := Gr.blk hu BM
   have BX := Gr.blk hu BX
   have BY := Gr.blk hu BY
   have BR := Gr.blk hu BR
   have BW := Gr.blk hu BW
   have hb := Below.gr hb hu
   have pc : u.cell? ⟨w.heap.size + 4, 3, none⟩ = some (.int .u64 0) := BW.cell 3
   have pf := BW.frozen 3
   clear hu px py
   go_wp2
   refine ⟨⟨hb.setCell (by show w.heap.size ≤ w.heap.size + 4; omega) _, BM.far (by show w.heap.size ≠ w.heap.size + 4; omega) _, BX.far (by show w.heap.size + 1 ≠ w.heap.size + 4; omega) _, BY.far (by show w.heap.size + 2 ≠ w.heap.size + 4; omega) _, BR.far (by show w.heap.size + 3 ≠ w.heap.size + 4; omega) _, Lib.hid (.inr (.inr (.inr (.inr (⟨rfl, rfl, BW.set_ 3 _⟩)))))⟩, by decide⟩
  ·clear HI
   have pc : wr.cell? ⟨w.heap.size + 4, 4, none⟩ = some (.int .u64 0) := BW.cell 4
   have pf := BW.frozen 4
   have BM4 : Blk (wr.setCell ⟨w.heap.size + 4, 4, none⟩ (.int .u64 (c3 : Int))) w.heap.size 102 #[.int .u64 13822214165235122497, .int .u64 13451932020343611451, .int .u64 18446744073709551614, .int .u64 18446744073709551615, .int .u64 4624529908474429119, .int .u64 4994812053365940164, .int .u64 1] := BM.far (by show w.heap.size ≠ w.heap.size + 4; omega) _
   have BW4 : Blk (wr.setCell ⟨w.heap.size + 4, 4, none⟩ (.int .u64 (c3 : Int))) (w.heap.size + 4) 194 #[.int .u64 (s0 : Int), .int .u64 (s1 : Int), .int .u64 (s2 : Int), .int .u64 (s3 : Int), .int .u64 (c3 : Int), .int .u64 0, .int .u64 0, .int .u64 0] := BW.set_ 4 _
   have BR4 : Blk (wr.setCell ⟨w.heap.size + 4, 4, none⟩ (.int .u64 (c3 : Int))) (w.heap.size + 3) 97 #[.int .u64 0, .int .u64 0, .int .u64 0, .int .u64 0] := BR.far (by show w.heap.size + 3 ≠ w.heap.size + 4; omega) _
   have hb4 : Below w.heap.size w (wr.setCell ⟨w.heap.size + 4, 4, none⟩ (.int .u64 (c3 : Int))) := hb.setCell (by show w.heap.size ≤ w.heap.size + 4; omega) _
   have H4 := Lib.hid (And.intro BM4 (And.intro BW4 (And.intro BR4 hb4)))
   clear BM BX BY BR BW hb BM4 BW4 BR4 hb4
   go_wp2_with (first | ((with_reducible refine here_load (d := some 33) ?_); refine wpList_load_blk rfl _ _ rfl w.heap.size rfl _ _ _ H4.out.1 Tryz.underlying102 rfl (by kernel_rfl) ?_) | ((with_reducible refine here_load (d := some 34) ?_); refine wpList_load_blk rfl _ _ rfl (w.heap.size + 4) rfl _ _ _ H4.out.2.1 Tryz.underlying194 rfl (by kernel_rfl) ?_))
   refine (cF _).mono ?_
   rintro e u ⟨rfl, hu⟩
   have BRu := Gr.blk hu H4.out.2.2.1
   have hbu := Below.gr H4.out.2.2.2 hu
   clear hu H4 cF
   go_wp2_with (first | ((with_reducible refine here_store ?_); refine wpList_store_blk rfl _ _ _ rfl (w.heap.size + 3) (fcs (z)) rfl rfl _ _ (BRu) (by kernel_rfl) (by rfl) (fcs_one _) ?_; intro w9 hL9 hB9 hK9))
   exact bodyPost_ret (results_cell_row rfl _ _ (w.heap.size + 3) _ _ (0, 0) _ rfl hL9 Tryz.underlying97 rfl (by kernel_rfl)) rfl ⟨rfl, hbu.trans (hB9 _ (by omega))⟩

set_option maxHeartbeats 2000000 in
set_option maxRecDepth 100000 in
theorem negR_any (w : World) (x : Nat) (hx : x < (2^256)) : Calls Tryz.prog 115 #[.agg #[.int .u64 13822214165235122497, .int .u64 13451932020343611451, .int .u64 18446744073709551614, .int .u64 18446744073709551615, .int .u64 4624529908474429119, .int .u64 4994812053365940164, .int .u64 1], fv x] w fun e w' => e = .returned (fv (negP x)) ∧ Below w.heap.size w w' := by
 obtain ⟨n, hn⟩ : ∃ n, n = x % pM := ⟨_, rfl⟩
 have np : n < 115792089237316195423570985008687907852837564279074904382605163141518161494337 := by rw [hn]; exact mod_lt_p x
 obtain ⟨p, hp⟩ : ∃ p, p = 115792089237316195423570985008687907852837564279074904382605163141518161494337 := ⟨_, rfl⟩
 obtain ⟨q, hq⟩ : ∃ q, q = p - n := ⟨_, rfl⟩
 obtain ⟨g, hg⟩ : ∃ g, g = negP x := ⟨_, rfl⟩
 have hgq : q % pM = g := by rw [hg, negP, ← hn, hq, hp]; rfl
 have cN : ∀ w, Calls Tryz.prog 74 #[.agg #[.int .u64 13822214165235122497, .int .u64 13451932020343611451, .int .u64 18446744073709551614, .int .u64 18446744073709551615, .int .u64 4624529908474429119, .int .u64 4994812053365940164, .int .u64 1], fv x] w fun e w' => e = .returned (fv n) ∧ Below w.heap.size w w' := by
  intro w; rw [hn]; exact normR_any w x hx
 have cM : ∀ w, Calls Tryz.prog 131 #[fv p, fv n] w fun e w' => e = .returned (fv q) ∧ Below w.heap.size w w' := fun w => minusR_at w p n q 0 rfl rfl (by omega) (by omega) (by omega) (by omega)
 have cG : ∀ w, Calls Tryz.prog 74 #[.agg #[.int .u64 13822214165235122497, .int .u64 13451932020343611451, .int .u64 18446744073709551614, .int .u64 18446744073709551615, .int .u64 4624529908474429119, .int .u64 4994812053365940164, .int .u64 1], fv q] w fun e w' => e = .returned (fv g) ∧ Below w.heap.size w w' := by
  intro w; rw [← hgq]; exact normR_any w q (by omega)
 have FP : Hid (fv p = .agg #[.int .u64 13822214165235122497, .int .u64 13451932020343611451, .int .u64 18446744073709551614, .int .u64 18446744073709551615]) := Lib.hid (by rw [hp]; exact fv_P)
 obtain ⟨x0, x1, x2, x3, fx⟩ := words_fv x hx
 have FX := Lib.hid fx
 rw [fx, ← hg]
 clear fx hx hn np hp hq hg hgq
 go_enter Tryz.func115, Tryz.ntmps115
 go_wp2
 refine wp_region_G (fun j => j == 8) (by kernel_rfl) ?_
 try simp only [Act.put]
 refine tkw 0 rfl (YieldsG.load (by rfl) _ _ rfl w.heap.size 0 rfl ([.int .u64 13822214165235122497, .int .u64 13451932020343611451, .int .u64 18446744073709551614, .int .u64 18446744073709551615, .int .u64 4624529908474429119, .int .u64 4994812053365940164, .int .u64 1]) _ (Blk.lt (((Blk.new w _ _).alloc _).alloc _)) (Blk.range (((Blk.new w _ _).alloc _).alloc _)) Tryz.underlying102 rfl (by kernel_rfl)) ?_
 try simp only [Act.put, aA, aZ, aS]
 refine tk 1 rfl ?_
 try simp only [Act.put, aA, aZ, aS]
 refine tkw 2 rfl (YieldsG.loadP (by rfl) _ _ rfl w.heap.size rfl p _ (Blk.lt (((Blk.new w _ _).alloc _).alloc _)) (mod_range (((Blk.new w _ _).alloc _).alloc _)) FP.out Tryz.underlying97 rfl (by kernel_rfl)) ?_
 try simp only [Act.put, aA, aZ, aS]
 refine tkw 3 rfl (YieldsG.load (by rfl) _ _ rfl w.heap.size 0 rfl ([.int .u64 13822214165235122497, .int .u64 13451932020343611451, .int .u64 18446744073709551614, .int .u64 18446744073709551615, .int .u64 4624529908474429119, .int .u64 4994812053365940164, .int .u64 1]) _ (Blk.lt (((Blk.new w _ _).alloc _).alloc _)) (Blk.range (((Blk.new w _ _).alloc _).alloc _)) Tryz.underlying102 rfl (by kernel_rfl)) ?_
 try simp only [Act.put, aA, aZ, aS]
 refine tkw 4 rfl (YieldsG.loadF (by rfl) _ _ rfl (w.heap.size + 1) rfl (x) _ _ ((blk_new2 w _ _ _).alloc _) (FX.out) Tryz.underlying97 rfl (by kernel_rfl)) ?_
 try simp only [Act.put, aA, aZ, aS]
 refine tkw 5 rfl (YieldsG.call (v := fv n) (by rfl) 74 _ (fun w9 => by go_simp; try (first | with_reducible rfl | rfl)) (fun w9 h9 => cN w9)) ?_
 try simp only [Act.put, aA, aZ, aS]
 refine tkw 6 rfl (YieldsG.call (v := fv q) (by rfl) 131 _ (fun w9 => by go_simp; try (first | with_reducible rfl | rfl)) (fun w9 h9 => cM w9)) ?_
 try simp only [Act.put, aA, aZ, aS]
 refine tkw 7 rfl (YieldsG.call (v := fv g) (by rfl) 74 _ (fun w9 => by go_simp; try (first | with_reducible rfl | rfl)) (fun w9 h9 => cG w9)) ?_
 try simp only [Act.put, aA, aZ, aS]
 refine wpAnyG_store 8 rfl (by kernel_rfl) (by rfl) _ _ _ rfl (w.heap.size + 2) (fcs (g)) rfl rfl _ _ (blk_new3 w _ _ _ _) (by kernel_rfl) (by rfl) (fcs_one _) rfl (fun w6 h6 w7 hB7 hL7 => ?_)
 try simp only [Act.put]
 refine wpAnyG_done (by kernel_rfl) (fun w8 h8 => ?_)
 have hfin := Gr.blk h8 hL7
 have hb9 := (Below.gr (below_alloc3 w _ _ _) h6).trans ((hB7 _ (by omega)).trans (Below.mono h8 (by have := hL7.lt; omega)))
 go_wp2
 exact bodyPost_ret (results_cell_row rfl _ _ (w.heap.size + 2) _ _ (0, 0) _ rfl hfin Tryz.underlying97 rfl (by kernel_rfl)) rfl ⟨rfl, hb9⟩

theorem sub_is (x y : Nat) : addP x (negP y) = subP x y := by
 unfold addP negP subP
 rw [Nat.add_mod_mod]
set_option maxHeartbeats 2000000 in
set_option maxRecDepth 100000 in
theorem subR_any (w : World) (x y : Nat) (hx : x < (2^256)) (hy : y < (2^256)) : Calls Tryz.prog 127 #[.agg #[.int .u64 13822214165235122497, .int .u64 13451932020343611451, .int .u64 18446744073709551614, .int .u64 18446744073709551615, .int .u64 4624529908474429119, .int .u64 4994812053365940164, .int .u64 1], fv x, fv y] w fun e w' => e = .returned (fv (subP x y)) ∧ Below w.heap.size w w' := by
 obtain ⟨g, hg⟩ : ∃ g, g = negP y := ⟨_, rfl⟩
 obtain ⟨z, hz⟩ : ∃ z, z = subP x y := ⟨_, rfl⟩
 have cG : ∀ w, Calls Tryz.prog 115 #[.agg #[.int .u64 13822214165235122497, .int .u64 13451932020343611451, .int .u64 18446744073709551614, .int .u64 18446744073709551615, .int .u64 4624529908474429119, .int .u64 4994812053365940164, .int .u64 1], fv y] w fun e w' => e = .returned (fv g) ∧ Below w.heap.size w w' := by
  intro w; rw [hg]; exact negR_any w y hy
 have cA : ∀ w, Calls Tryz.prog 105 #[.agg #[.int .u64 13822214165235122497, .int .u64 13451932020343611451, .int .u64 18446744073709551614, .int .u64 18446744073709551615, .int .u64 4624529908474429119, .int .u64 4994812053365940164, .int .u64 1], fv x, fv g] w fun e w' => e = .returned (fv z) ∧ Below w.heap.size w w' := by
  intro w; rw [hz, ← sub_is, ← hg]; exact addR_any w x g hx (by rw [hg]; exact negP_lt _)
 obtain ⟨x0, x1, x2, x3, fx⟩ := words_fv x hx
 obtain ⟨y0, y1, y2, y3, fy⟩ := words_fv y hy
 have FX := Lib.hid fx
 have FY := Lib.hid fy
 rw [fx, fy, ← hz]
 clear fx fy hx hy hg hz
 go_enter Tryz.func127, Tryz.ntmps127
 go_wp2
 refine wp_region_G (fun j => j == 6) (by kernel_rfl) ?_
 try simp only [Act.put]
 refine tkw 0 rfl (YieldsG.load (by rfl) _ _ rfl w.heap.size 0 rfl ([.int .u64 13822214165235122497, .int .u64 13451932020343611451, .int .u64 18446744073709551614, .int .u64 18446744073709551615, .int .u64 4624529908474429119, .int .u64 4994812053365940164, .int .u64 1]) _ (Blk.lt ((((Blk.new w _ _).alloc _).alloc _).alloc _)) (Blk.range ((((Blk.new w _ _).alloc _).alloc _).alloc _)) Tryz.underlying102 rfl (by kernel_rfl)) ?_
 try simp only [Act.put, aA, aZ, aS]
 refine tkw 1 rfl (YieldsG.loadF (by rfl) _ _ rfl (w.heap.size + 1) rfl (x) _ _ (((blk_new2 w _ _ _).alloc _).alloc _) (FX.out) Tryz.underlying97 rfl (by kernel_rfl)) ?_
 try simp only [Act.put, aA, aZ, aS]
 refine tkw 2 rfl (YieldsG.load (by rfl) _ _ rfl w.heap.size 0 rfl ([.int .u64 13822214165235122497, .int .u64 13451932020343611451, .int .u64 18446744073709551614, .int .u64 18446744073709551615, .int .u64 4624529908474429119, .int .u64 4994812053365940164, .int .u64 1]) _ (Blk.lt ((((Blk.new w _ _).alloc _).alloc _).alloc _)) (Blk.range ((((Blk.new w _ _).alloc _).alloc _).alloc _)) Tryz.underlying102 rfl (by kernel_rfl)) ?_
 try simp only [Act.put, aA, aZ, aS]
 refine tkw 3 rfl (YieldsG.loadF (by rfl) _ _ rfl (w.heap.size + 2) rfl (y) _ _ ((blk_new3 w _ _ _ _).alloc _) (FY.out) Tryz.underlying97 rfl (by kernel_rfl)) ?_
 try simp only [Act.put, aA, aZ, aS]
 refine tkw 4 rfl (YieldsG.call (v := fv g) (by rfl) 115 _ (fun w9 => by go_simp; try (first | with_reducible rfl | rfl)) (fun w9 h9 => cG w9)) ?_
 try simp only [Act.put, aA, aZ, aS]
 refine tkw 5 rfl (YieldsG.call (v := fv z) (by rfl) 105 _ (fun w9 => by go_simp; try (first | with_reducible rfl | rfl)) (fun w9 h9 => cA w9)) ?_
 try simp only [Act.put, aA, aZ, aS]
 refine wpAnyG_store 6 rfl (by kernel_rfl) (by rfl) _ _ _ rfl (w.heap.size + 3) (fcs (z)) rfl rfl _ _ (blk_new4 w _ _ _ _ _) (by kernel_rfl) (by rfl) (fcs_one _) rfl (fun w6 h6 w7 hB7 hL7 => ?_)
 try simp only [Act.put]
 refine wpAnyG_done (by kernel_rfl) (fun w8 h8 => ?_)
 have hfin := Gr.blk h8 hL7
 have hb9 := (Below.gr (below_alloc4 w _ _ _ _) h6).trans ((hB7 _ (by omega)).trans (Below.mono h8 (by have := hL7.lt; omega)))
 go_wp2
 exact bodyPost_ret (results_cell_row rfl _ _ (w.heap.size + 3) _ _ (0, 0) _ rfl hfin Tryz.underlying97 rfl (by kernel_rfl)) rfl ⟨rfl, hb9⟩
end Go.Proofs.YtfhcpdbahbbmaaaGreatDoor.Sc

end
section
namespace Go.Proofs.YtfhcpdbahbbmaaaGreatDoor.Sc
open Go.RowKit Go.Lib Go.Proofs.YtfhcpdbahbbmaaaGreatDoor

theorem mulR_any (w : World) (x y : Nat) (hx : x < (2^256)) (hy : y < (2^256)) : Calls Tryz.prog 106 #[.agg #[.int .u64 13822214165235122497, .int .u64 13451932020343611451, .int .u64 18446744073709551614, .int .u64 18446744073709551615, .int .u64 4624529908474429119, .int .u64 4994812053365940164, .int .u64 1], fv x, fv y] w fun e w' => e = .returned (fv (mulP x y)) ∧ Below w.heap.size w w' := by
 have h := Fz.mulZ w pM lackW lackW_lt pM_pos0 lack_sum (fun w x hx => by rw [mod_row]; exact normR_any w x hx) x y hx hy
 rw [mod_row] at h
 exact h
end Go.Proofs.YtfhcpdbahbbmaaaGreatDoor.Sc

end
section
namespace Go.Proofs.YtfhcpdbahbbmaaaGreatDoor.Cu
open Go.RowKit Go.Proofs.YtfhcpdbahbbmaaaGreatDoor Go.Proofs.YtfhcpdbahbbmaaaGreatDoor.Sy
set_option maxRecDepth 100000

end Go.Proofs.YtfhcpdbahbbmaaaGreatDoor.Cu

end
section
namespace Go.Proofs.YtfhcpdbahbbmaaaGreatDoor.Cu
open Go.RowKit Go.Proofs.YtfhcpdbahbbmaaaGreatDoor Go.Proofs.YtfhcpdbahbbmaaaGreatDoor.Sy

theorem textN_any (w : World) (nm : List UInt8) (hnm : nm.length = 32) : Calls Tryz.prog 72 #[.agg (nm.map bv).toArray] w (GetsN w (fun vq Mq => ∃ (g : Nat) (sp : List Value) (cap : Nat), vq = .slice (some ⟨g, 0, none⟩) 32 cap ∧ (32 ≤ cap ∧ cap ≤ 9223372036854775807) ∧ Mq = [(g, 5, (nm.map bv ++ sp).toArray)])) := by
 refine (Sh.textR_any w nm hnm).mono ?_
 rintro e w' ⟨g, cap, rfl, ho, hl, hb⟩
 unfold Sh.OwnB at ho
 rw [hnm] at ho
 rcases ho.2 with ⟨h0, _⟩ | ⟨g', cap', cur, hv, hg, hk, q3, q4, q5, q6⟩
 ·cases h0
 ·cases hv
  have hc : cur = (nm.map bv ++ cur.toList.drop 32).toArray := by
   rw [Nat.mul_one] at q6
   rw [← q6, List.take_append_drop]
  refine ⟨_, [(g, 5, cur)], rfl, ⟨g, cur.toList.drop 32, cap, rfl, ⟨by omega, by simp only [maxLen] at q4; omega⟩, by rw [← hc]⟩, hb, fun g1 t1 cs1 hm => ?_, by simp⟩
  simp only [List.mem_singleton, Prod.mk.injEq] at hm
  obtain ⟨rfl, rfl, rfl⟩ := hm
  exact ⟨hg, hk⟩
theorem src_own {w : World} {g : Nat} {t : TypeId} {m : List UInt8} {sp : List Value} (hb : Blk w g t (m.map bv ++ sp).toArray) : Sh.Src w (some ⟨g, 0, none⟩) m := fun _ => ⟨g, 0, rfl, hb.lt, fun j u hj => by
 rw [Nat.zero_add]
 refine (hb.cell j).trans ?_
 have hl := (List.getElem?_eq_some_iff.1 hj).1
 rw [List.getElem?_toArray, List.getElem?_append_left (by rw [List.length_map]; exact hl), List.getElem?_map, hj]
 rfl⟩
end Go.Proofs.YtfhcpdbahbbmaaaGreatDoor.Cu

end
section
namespace Go.Proofs.YtfhcpdbahbbmaaaGreatDoor.Cu
open Go.RowKit Go.Proofs.YtfhcpdbahbbmaaaGreatDoor Go.Proofs.YtfhcpdbahbbmaaaGreatDoor.Sy
set_option maxRecDepth 100000
set_option maxHeartbeats 4000000

def dblR (a : J) : J := if a.z = 0 then a else dblJ a
theorem dblR_rep {a : J} {P : Pt} (hP : Ec.On P) (h : Ec.Rep a P) : Ec.Rep (dblR a) (Ec.add finv P P) := by
 unfold dblR
 by_cases k : a.z = 0
 ·rw [if_pos k]
  rcases P with _ | ⟨X, Y⟩
  ·exact k
  ·exact absurd k h.1
 ·rw [if_neg k]; exact dblJ_rep hP h
def hR (a : J) (x : Fp) : Fp := x * (a.z * a.z) - a.x
def rR (a : J) (y : Fp) : Fp := y * (a.z * a.z * a.z) - a.y
def pxR (a : J) (x y : Fp) : Fp := rR a y * rR a y - hR a x * hR a x * hR a x - (a.x * (hR a x * hR a x) + a.x * (hR a x * hR a x))
def pyR (a : J) (x y : Fp) : Fp := rR a y * (a.x * (hR a x * hR a x) - pxR a x y) - a.y * (hR a x * hR a x * hR a x)
def plusR (a : J) (x y : Fp) : J := if a.z = 0 then ⟨x, y, 1⟩ else if x * (a.z * a.z) = a.x then (if y * (a.z * a.z * a.z) = a.y then dblR a else ⟨0, 0, 0⟩) else ⟨pxR a x y, pyR a x y, a.z * hR a x⟩
theorem plusR_rep {a : J} {P : Pt} {x y : Fp} (hP : Ec.On P) (hQ : y * y = x * x * x + 7) (h : Ec.Rep a P) : Ec.Rep (plusR a x y) (Ec.add finv P (some (x, y))) := by
 rcases P with _ | ⟨X, Y⟩
 ·unfold plusR
  rw [if_pos (show a.z = 0 from h), Ec.zero_add]
  exact threeJ_rep (some (x, y))
 obtain ⟨h0, h1, h2⟩ := h
 unfold plusR
 rw [if_neg h0]
 have hZZ := fld.ne_mul h0 h0
 have hZZZ := fld.ne_mul hZZ h0
 by_cases e1 : x * (a.z * a.z) = a.x
 ·rw [if_pos e1]
  have ex : x = X := fld.cancel hZZ (by rw [h1] at e1; clear h1 h2 hP hQ; grobner)
  subst ex
  by_cases e2 : y * (a.z * a.z * a.z) = a.y
  ·rw [if_pos e2]
   have ey : y = Y := fld.cancel hZZZ (by rw [h2] at e2; clear h1 h2 hP hQ e1; grobner)
   subst ey
   exact dblR_rep hP ⟨h0, h1, h2⟩
  ·rw [if_neg e2]
   have hne : Y ≠ y := fun q => e2 (by rw [← q, h2])
   have hs : Y + y = 0 := Classical.byContradiction fun t => Ec.off fld hP hQ (fun q => hne q.2) (fun q => t q.2) rfl
   have ea : Ec.add finv (some (x, Y)) (some (x, y)) = none := if_pos ⟨rfl, hs⟩
   rw [ea]
   rfl
 ·rw [if_neg e1]
  exact Ec.ad fld (Z := a.z) (u := a.x) (v := a.y) (c := hR a x) (r := rR a y) hP hQ h0 h1 h2 rfl rfl (fun q => e1 (by have := q.1; unfold hR at this; clear q h1 h2 hP hQ; grobner)) rfl rfl rfl
theorem plusR_1 {a : J} {x y : Fp} (h : a.z = 0) : plusR a x y = ⟨x, y, 1⟩ := if_pos h
theorem plusR_2 {a : J} {x y : Fp} (h : a.z ≠ 0) (k : x * (a.z * a.z) = a.x) (m : y * (a.z * a.z * a.z) = a.y) : plusR a x y = dblR a := by unfold plusR; rw [if_neg h, if_pos k, if_pos m]
theorem plusR_3 {a : J} {x y : Fp} (h : a.z ≠ 0) (k : x * (a.z * a.z) = a.x) (m : y * (a.z * a.z * a.z) ≠ a.y) : plusR a x y = ⟨0, 0, 0⟩ := by unfold plusR; rw [if_neg h, if_pos k, if_neg m]
theorem plusR_4 {a : J} {x y : Fp} (h : a.z ≠ 0) (k : x * (a.z * a.z) ≠ a.x) : plusR a x y = ⟨pxR a x y, pyR a x y, a.z * hR a x⟩ := by unfold plusR; rw [if_neg h, if_neg k]
theorem twiceR_c (w : World) (a : J) : Calls Tryz.prog 78 #[tv a.x.val a.y.val a.z.val] w (Gets w (tv (dblR a).x.val (dblR a).y.val (dblR a).z.val)) := by
 refine Sy.enter (args := [tv a.x.val a.y.val a.z.val]) Tryz.func78 rfl kL ?_
 refine sC ?_
 refine sM 126 (tcs a.x.val a.y.val a.z.val) (fun g0 => ?_)
 refine sM 126 (tcs 0 0 0) (fun g1 => ?_)
 refine sG <| Sy.seq <| sC ?_
 refine sP (.pointer (some ⟨g0, 8, none⟩)) <| sS (fv a.z.val) (qL 0 g0 8 4 126 97 (tcs a.x.val a.y.val a.z.val) rfl Tryz.underlying97) <| sP (fv 0) ?_
 obtain ⟨b1, hb1⟩ : ∃ z : Bool, z = decide (a.z.val = 0) := ⟨_, rfl⟩
 refine sS (.bool b1) (Quiet.pure (fun w => by rw [hb1]; exact eql_num w _ _ _ _ _ _ rfl rfl rfl lK lK)) ?_
 refine sG ?_
 cases b1
 ·have eb1 : a.z ≠ (0 : Fp) := fun e => of_decide_eq_false hb1.symm (congrArg Fin.val e)
  refine sU <| Sy.skip <| sB ?_
  refine sP (.pointer (some ⟨g0, 0, none⟩)) <| sS (fv a.x.val) (qL 0 g0 0 4 126 97 (tcs a.x.val a.y.val a.z.val) rfl Tryz.underlying97) <| sP (.pointer (some ⟨g0, 0, none⟩)) <| sS (fv a.x.val) (qL 0 g0 0 4 126 97 (tcs a.x.val a.y.val a.z.val) rfl Tryz.underlying97) ?_
  obtain ⟨z1, hz1⟩ : ∃ z : Fp, z = a.x * a.x := ⟨_, rfl⟩
  refine sS (fv z1.val) (qF 82 #[fv a.x.val, fv a.x.val] (fun w => by rw [hz1]; exact mulR_c w a.x a.x)) ?_
  refine sM 97 (fcs 0) (fun g2 => ?_)
  refine sW 2 g2 97 (fcs 0) (fcs z1.val) (wS 0 97 (fcs z1.val) rfl) ?_
  refine sA ?_
  refine sP (.pointer (some ⟨g0, 4, none⟩)) <| sS (fv a.y.val) (qL 0 g0 4 4 126 97 (tcs a.x.val a.y.val a.z.val) rfl Tryz.underlying97) <| sP (.pointer (some ⟨g0, 4, none⟩)) <| sS (fv a.y.val) (qL 0 g0 4 4 126 97 (tcs a.x.val a.y.val a.z.val) rfl Tryz.underlying97) ?_
  obtain ⟨z2, hz2⟩ : ∃ z : Fp, z = a.y * a.y := ⟨_, rfl⟩
  refine sS (fv z2.val) (qF 82 #[fv a.y.val, fv a.y.val] (fun w => by rw [hz2]; exact mulR_c w a.y a.y)) ?_
  refine sM 97 (fcs 0) (fun g3 => ?_)
  refine sW 3 g3 97 (fcs 0) (fcs z2.val) (wS 0 97 (fcs z2.val) rfl) ?_
  refine sA ?_
  refine sS (fv z2.val) (qL 3 g3 0 4 97 97 (fcs z2.val) rfl Tryz.underlying97) <| sS (fv z2.val) (qL 3 g3 0 4 97 97 (fcs z2.val) rfl Tryz.underlying97) ?_
  obtain ⟨z3, hz3⟩ : ∃ z : Fp, z = z2 * z2 := ⟨_, rfl⟩
  refine sS (fv z3.val) (qF 82 #[fv z2.val, fv z2.val] (fun w => by rw [hz3]; exact mulR_c w z2 z2)) ?_
  refine sM 97 (fcs 0) (fun g4 => ?_)
  refine sW 4 g4 97 (fcs 0) (fcs z3.val) (wS 0 97 (fcs z3.val) rfl) ?_
  refine sA ?_
  refine sP (.pointer (some ⟨g0, 0, none⟩)) <| sS (fv a.x.val) (qL 0 g0 0 4 126 97 (tcs a.x.val a.y.val a.z.val) rfl Tryz.underlying97) <| sS (fv z2.val) (qL 3 g3 0 4 97 97 (fcs z2.val) rfl Tryz.underlying97) ?_
  obtain ⟨z4, hz4⟩ : ∃ z : Fp, z = a.x * z2 := ⟨_, rfl⟩
  refine sS (fv z4.val) (qF 82 #[fv a.x.val, fv z2.val] (fun w => by rw [hz4]; exact mulR_c w a.x z2)) ?_
  refine sM 97 (fcs 0) (fun g5 => ?_)
  refine sW 5 g5 97 (fcs 0) (fcs z4.val) (wS 0 97 (fcs z4.val) rfl) ?_
  refine sH (fun j => j == 7) ?_
  refine sD 0 rfl (fv z4.val) (qL 5 g5 0 4 97 97 (fcs z4.val) rfl Tryz.underlying97) <| sD 1 rfl (fv z4.val) (qL 5 g5 0 4 97 97 (fcs z4.val) rfl Tryz.underlying97) ?_
  obtain ⟨z5, hz5⟩ : ∃ z : Fp, z = z4 + z4 := ⟨_, rfl⟩
  refine sD 2 rfl (fv z5.val) (qF 114 #[fv z4.val, fv z4.val] (fun w => by rw [hz5]; exact addR_c w z4 z4)) <| sD 3 rfl (fv z4.val) (qL 5 g5 0 4 97 97 (fcs z4.val) rfl Tryz.underlying97) <| sD 4 rfl (fv z4.val) (qL 5 g5 0 4 97 97 (fcs z4.val) rfl Tryz.underlying97) ?_
  obtain ⟨z6, hz6⟩ : ∃ z : Fp, z = z4 + z4 := ⟨_, rfl⟩
  refine sD 5 rfl (fv z6.val) (qF 114 #[fv z4.val, fv z4.val] (fun w => by rw [hz6]; exact addR_c w z4 z4)) ?_
  obtain ⟨z7, hz7⟩ : ∃ z : Fp, z = z5 + z6 := ⟨_, rfl⟩
  refine sD 6 rfl (fv z7.val) (qF 114 #[fv z5.val, fv z6.val] (fun w => by rw [hz7]; exact addR_c w z5 z6)) <| sX 7 rfl 5 g5 97 (fcs z4.val) (fcs z7.val) (wS 0 97 (fcs z7.val) rfl) ?_
  refine sE ?_
  refine sR (fun j => j == 6) ?_
  refine sD 0 rfl (fv z1.val) (qL 2 g2 0 4 97 97 (fcs z1.val) rfl Tryz.underlying97) <| sD 1 rfl (fv z1.val) (qL 2 g2 0 4 97 97 (fcs z1.val) rfl Tryz.underlying97) <| sD 2 rfl (fv z1.val) (qL 2 g2 0 4 97 97 (fcs z1.val) rfl Tryz.underlying97) ?_
  obtain ⟨z8, hz8⟩ : ∃ z : Fp, z = z1 + z1 := ⟨_, rfl⟩
  refine sD 3 rfl (fv z8.val) (qF 114 #[fv z1.val, fv z1.val] (fun w => by rw [hz8]; exact addR_c w z1 z1)) ?_
  obtain ⟨z9, hz9⟩ : ∃ z : Fp, z = z1 + z8 := ⟨_, rfl⟩
  refine sD 4 rfl (fv z9.val) (qF 114 #[fv z1.val, fv z8.val] (fun w => by rw [hz9]; exact addR_c w z1 z8)) ?_
  refine sO 5 rfl 97 (fcs 0) (fun g6 => ?_)
  refine sX 6 rfl 6 g6 97 (fcs 0) (fcs z9.val) (wS 0 97 (fcs z9.val) rfl) ?_
  refine sE ?_
  refine sR (fun j => j == 8) ?_
  refine sD 0 rfl (fv z9.val) (qL 6 g6 0 4 97 97 (fcs z9.val) rfl Tryz.underlying97) <| sD 1 rfl (fv z9.val) (qL 6 g6 0 4 97 97 (fcs z9.val) rfl Tryz.underlying97) ?_
  obtain ⟨z10, hz10⟩ : ∃ z : Fp, z = z9 * z9 := ⟨_, rfl⟩
  refine sD 2 rfl (fv z10.val) (qF 82 #[fv z9.val, fv z9.val] (fun w => by rw [hz10]; exact mulR_c w z9 z9)) <| sD 3 rfl (fv z7.val) (qL 5 g5 0 4 97 97 (fcs z7.val) rfl Tryz.underlying97) <| sD 4 rfl (fv z7.val) (qL 5 g5 0 4 97 97 (fcs z7.val) rfl Tryz.underlying97) ?_
  obtain ⟨z11, hz11⟩ : ∃ z : Fp, z = z7 + z7 := ⟨_, rfl⟩
  refine sD 5 rfl (fv z11.val) (qF 114 #[fv z7.val, fv z7.val] (fun w => by rw [hz11]; exact addR_c w z7 z7)) ?_
  obtain ⟨z12, hz12⟩ : ∃ z : Fp, z = z10 - z11 := ⟨_, rfl⟩
  refine sD 6 rfl (fv z12.val) (qF 113 #[fv z10.val, fv z11.val] (fun w => by rw [hz12]; exact subR_c w z10 z11)) ?_
  refine sO 7 rfl 97 (fcs 0) (fun g7 => ?_)
  refine sX 8 rfl 7 g7 97 (fcs 0) (fcs z12.val) (wS 0 97 (fcs z12.val) rfl) ?_
  refine sE ?_
  refine sB ?_
  refine sS (fv z3.val) (qL 4 g4 0 4 97 97 (fcs z3.val) rfl Tryz.underlying97) <| sS (fv z3.val) (qL 4 g4 0 4 97 97 (fcs z3.val) rfl Tryz.underlying97) ?_
  obtain ⟨z13, hz13⟩ : ∃ z : Fp, z = z3 + z3 := ⟨_, rfl⟩
  refine sS (fv z13.val) (qF 114 #[fv z3.val, fv z3.val] (fun w => by rw [hz13]; exact addR_c w z3 z3)) <| sW 4 g4 97 (fcs z3.val) (fcs z13.val) (wS 0 97 (fcs z13.val) rfl) ?_
  refine sA ?_
  refine sS (fv z13.val) (qL 4 g4 0 4 97 97 (fcs z13.val) rfl Tryz.underlying97) <| sS (fv z13.val) (qL 4 g4 0 4 97 97 (fcs z13.val) rfl Tryz.underlying97) ?_
  obtain ⟨z14, hz14⟩ : ∃ z : Fp, z = z13 + z13 := ⟨_, rfl⟩
  refine sS (fv z14.val) (qF 114 #[fv z13.val, fv z13.val] (fun w => by rw [hz14]; exact addR_c w z13 z13)) <| sW 4 g4 97 (fcs z13.val) (fcs z14.val) (wS 0 97 (fcs z14.val) rfl) ?_
  refine sA ?_
  refine sS (fv z14.val) (qL 4 g4 0 4 97 97 (fcs z14.val) rfl Tryz.underlying97) <| sS (fv z14.val) (qL 4 g4 0 4 97 97 (fcs z14.val) rfl Tryz.underlying97) ?_
  obtain ⟨z15, hz15⟩ : ∃ z : Fp, z = z14 + z14 := ⟨_, rfl⟩
  refine sS (fv z15.val) (qF 114 #[fv z14.val, fv z14.val] (fun w => by rw [hz15]; exact addR_c w z14 z14)) <| sW 4 g4 97 (fcs z14.val) (fcs z15.val) (wS 0 97 (fcs z15.val) rfl) ?_
  refine sH (fun j => j == 8) ?_
  refine sD 0 rfl (fv z9.val) (qL 6 g6 0 4 97 97 (fcs z9.val) rfl Tryz.underlying97) <| sD 1 rfl (fv z7.val) (qL 5 g5 0 4 97 97 (fcs z7.val) rfl Tryz.underlying97) <| sD 2 rfl (fv z12.val) (qL 7 g7 0 4 97 97 (fcs z12.val) rfl Tryz.underlying97) ?_
  obtain ⟨z16, hz16⟩ : ∃ z : Fp, z = z7 - z12 := ⟨_, rfl⟩
  refine sD 3 rfl (fv z16.val) (qF 113 #[fv z7.val, fv z12.val] (fun w => by rw [hz16]; exact subR_c w z7 z12)) ?_
  obtain ⟨z17, hz17⟩ : ∃ z : Fp, z = z9 * z16 := ⟨_, rfl⟩
  refine sD 4 rfl (fv z17.val) (qF 82 #[fv z9.val, fv z16.val] (fun w => by rw [hz17]; exact mulR_c w z9 z16)) <| sD 5 rfl (fv z15.val) (qL 4 g4 0 4 97 97 (fcs z15.val) rfl Tryz.underlying97) ?_
  obtain ⟨z18, hz18⟩ : ∃ z : Fp, z = z17 - z15 := ⟨_, rfl⟩
  refine sD 6 rfl (fv z18.val) (qF 113 #[fv z17.val, fv z15.val] (fun w => by rw [hz18]; exact subR_c w z17 z15)) ?_
  refine sO 7 rfl 97 (fcs 0) (fun g8 => ?_)
  refine sX 8 rfl 8 g8 97 (fcs 0) (fcs z18.val) (wS 0 97 (fcs z18.val) rfl) ?_
  refine sE ?_
  refine sB ?_
  refine sP (.pointer (some ⟨g0, 4, none⟩)) <| sS (fv a.y.val) (qL 0 g0 4 4 126 97 (tcs a.x.val a.y.val a.z.val) rfl Tryz.underlying97) <| sP (.pointer (some ⟨g0, 8, none⟩)) <| sS (fv a.z.val) (qL 0 g0 8 4 126 97 (tcs a.x.val a.y.val a.z.val) rfl Tryz.underlying97) ?_
  obtain ⟨z19, hz19⟩ : ∃ z : Fp, z = a.y * a.z := ⟨_, rfl⟩
  refine sS (fv z19.val) (qF 82 #[fv a.y.val, fv a.z.val] (fun w => by rw [hz19]; exact mulR_c w a.y a.z)) ?_
  refine sM 97 (fcs 0) (fun g9 => ?_)
  refine sW 9 g9 97 (fcs 0) (fcs z19.val) (wS 0 97 (fcs z19.val) rfl) ?_
  refine sH (fun j => j == 6) ?_
  refine sD 0 rfl (fv z12.val) (qL 7 g7 0 4 97 97 (fcs z12.val) rfl Tryz.underlying97) <| sD 1 rfl (fv z18.val) (qL 8 g8 0 4 97 97 (fcs z18.val) rfl Tryz.underlying97) <| sD 2 rfl (fv z19.val) (qL 9 g9 0 4 97 97 (fcs z19.val) rfl Tryz.underlying97) <| sD 3 rfl (fv z19.val) (qL 9 g9 0 4 97 97 (fcs z19.val) rfl Tryz.underlying97) ?_
  obtain ⟨z20, hz20⟩ : ∃ z : Fp, z = z19 + z19 := ⟨_, rfl⟩
  refine sD 4 rfl (fv z20.val) (qF 114 #[fv z19.val, fv z19.val] (fun w => by rw [hz20]; exact addR_c w z19 z19)) <| sZ 5 rfl (tv z12.val z18.val z20.val) <| sX 6 rfl 1 g1 126 (tcs 0 0 0) (tcs z12.val z18.val z20.val) (wS 0 126 (tcs z12.val z18.val z20.val) rfl) ?_
  refine sI ?_
  refine Sy.ret ?_
  rw [show (tv (dblR a).x.val (dblR a).y.val (dblR a).z.val : Value) = tv z12.val z18.val z20.val from by
   unfold dblR; rw [if_neg eb1]
   have k0 : (dblJ a).x = z12 := by
    simp only [dblJ, pxR, pyR, hR, rR]
    simp only [hz12, hz11, hz10, hz9, hz8, hz7, hz6, hz5, hz4, hz2, hz1]
    grobner
   have k1 : (dblJ a).y = z18 := by
    simp only [dblJ, pxR, pyR, hR, rR]
    simp only [hz18, hz17, hz16, hz15, hz14, hz13, hz12, hz11, hz10, hz9, hz8, hz7, hz6, hz5, hz4, hz3, hz2, hz1]
    grobner
   have k2 : (dblJ a).z = z20 := by
    simp only [dblJ, pxR, pyR, hR, rR]
    simp only [hz20, hz19]
    grobner
   simp only [k0, k1, k2]]
  exact rC (v := tv z12.val z18.val z20.val) 126 g1 1 (tcs z12.val z18.val z20.val) rfl Tryz.underlying126
 ·have eb1 : a.z = (0 : Fp) := Fin.ext (of_decide_eq_true hb1.symm)
  refine sT <| sC ?_
  refine sS (tv a.x.val a.y.val a.z.val) (qL 0 g0 0 12 126 126 (tcs a.x.val a.y.val a.z.val) rfl Tryz.underlying126) <| sW 1 g1 126 (tcs 0 0 0) (tcs a.x.val a.y.val a.z.val) (wS 0 126 (tcs a.x.val a.y.val a.z.val) rfl) ?_
  refine sG <| Sy.ret <| Sy.then_ret ?_
  rw [show (tv (dblR a).x.val (dblR a).y.val (dblR a).z.val : Value) = tv a.x.val a.y.val a.z.val from by unfold dblR; rw [if_pos eb1]]
  exact rC (v := tv a.x.val a.y.val a.z.val) 126 g1 1 (tcs a.x.val a.y.val a.z.val) rfl Tryz.underlying126
theorem plusR_c (w : World) (a : J) (x y : Fp) : Calls Tryz.prog 79 #[tv a.x.val a.y.val a.z.val, fv x.val, fv y.val] w (Gets w (tv (plusR a x y).x.val (plusR a x y).y.val (plusR a x y).z.val)) := by
 refine Sy.enter (args := [tv a.x.val a.y.val a.z.val, fv x.val, fv y.val]) Tryz.func79 rfl kL ?_
 refine sC ?_
 refine sM 126 (tcs a.x.val a.y.val a.z.val) (fun g0 => ?_)
 refine sM 97 (fcs x.val) (fun g1 => ?_)
 refine sM 97 (fcs y.val) (fun g2 => ?_)
 refine sM 126 (tcs 0 0 0) (fun g3 => ?_)
 refine sG <| Sy.seq <| sC ?_
 refine sP (.pointer (some ⟨g0, 8, none⟩)) <| sS (fv a.z.val) (qL 0 g0 8 4 126 97 (tcs a.x.val a.y.val a.z.val) rfl Tryz.underlying97) <| sP (fv 0) ?_
 obtain ⟨b1, hb1⟩ : ∃ z : Bool, z = decide (a.z.val = 0) := ⟨_, rfl⟩
 refine sS (.bool b1) (Quiet.pure (fun w => by rw [hb1]; exact eql_num w _ _ _ _ _ _ rfl rfl rfl lK lK)) ?_
 refine sG ?_
 cases b1
 ·have eb1 : a.z ≠ (0 : Fp) := fun e => of_decide_eq_false hb1.symm (congrArg Fin.val e)
  refine sU <| Sy.skip <| sB ?_
  refine sP (.pointer (some ⟨g0, 8, none⟩)) <| sS (fv a.z.val) (qL 0 g0 8 4 126 97 (tcs a.x.val a.y.val a.z.val) rfl Tryz.underlying97) <| sP (.pointer (some ⟨g0, 8, none⟩)) <| sS (fv a.z.val) (qL 0 g0 8 4 126 97 (tcs a.x.val a.y.val a.z.val) rfl Tryz.underlying97) ?_
  obtain ⟨z1, hz1⟩ : ∃ z : Fp, z = a.z * a.z := ⟨_, rfl⟩
  refine sS (fv z1.val) (qF 82 #[fv a.z.val, fv a.z.val] (fun w => by rw [hz1]; exact mulR_c w a.z a.z)) ?_
  refine sM 97 (fcs 0) (fun g4 => ?_)
  refine sW 4 g4 97 (fcs 0) (fcs z1.val) (wS 0 97 (fcs z1.val) rfl) ?_
  refine sA ?_
  refine sS (fv x.val) (qL 1 g1 0 4 97 97 (fcs x.val) rfl Tryz.underlying97) <| sS (fv z1.val) (qL 4 g4 0 4 97 97 (fcs z1.val) rfl Tryz.underlying97) ?_
  obtain ⟨z2, hz2⟩ : ∃ z : Fp, z = x * z1 := ⟨_, rfl⟩
  refine sS (fv z2.val) (qF 82 #[fv x.val, fv z1.val] (fun w => by rw [hz2]; exact mulR_c w x z1)) ?_
  refine sM 97 (fcs 0) (fun g5 => ?_)
  refine sW 5 g5 97 (fcs 0) (fcs z2.val) (wS 0 97 (fcs z2.val) rfl) ?_
  refine sH (fun j => j == 7) ?_
  refine sD 0 rfl (fv y.val) (qL 2 g2 0 4 97 97 (fcs y.val) rfl Tryz.underlying97) <| sD 1 rfl (fv z1.val) (qL 4 g4 0 4 97 97 (fcs z1.val) rfl Tryz.underlying97) <| sZ 2 rfl (.pointer (some ⟨g0, 8, none⟩)) <| sD 3 rfl (fv a.z.val) (qL 0 g0 8 4 126 97 (tcs a.x.val a.y.val a.z.val) rfl Tryz.underlying97) ?_
  obtain ⟨z3, hz3⟩ : ∃ z : Fp, z = z1 * a.z := ⟨_, rfl⟩
  refine sD 4 rfl (fv z3.val) (qF 82 #[fv z1.val, fv a.z.val] (fun w => by rw [hz3]; exact mulR_c w z1 a.z)) ?_
  obtain ⟨z4, hz4⟩ : ∃ z : Fp, z = y * z3 := ⟨_, rfl⟩
  refine sD 5 rfl (fv z4.val) (qF 82 #[fv y.val, fv z3.val] (fun w => by rw [hz4]; exact mulR_c w y z3)) ?_
  refine sO 6 rfl 97 (fcs 0) (fun g6 => ?_)
  refine sX 7 rfl 6 g6 97 (fcs 0) (fcs z4.val) (wS 0 97 (fcs z4.val) rfl) ?_
  refine sI ?_
  refine Sy.seq <| sC ?_
  refine sS (fv z2.val) (qL 5 g5 0 4 97 97 (fcs z2.val) rfl Tryz.underlying97) <| sP (.pointer (some ⟨g0, 0, none⟩)) <| sS (fv a.x.val) (qL 0 g0 0 4 126 97 (tcs a.x.val a.y.val a.z.val) rfl Tryz.underlying97) ?_
  obtain ⟨b2, hb2⟩ : ∃ z : Bool, z = decide (z2.val = a.x.val) := ⟨_, rfl⟩
  refine sS (.bool b2) (Quiet.pure (fun w => by rw [hb2]; exact eql_num w _ _ _ _ _ _ rfl rfl rfl lK lK)) ?_
  refine sG ?_
  cases b2
  ·have eb2 : z2 ≠ a.x := fun e => of_decide_eq_false hb2.symm (congrArg Fin.val e)
   refine sU <| Sy.skip <| sB ?_
   refine sS (fv z2.val) (qL 5 g5 0 4 97 97 (fcs z2.val) rfl Tryz.underlying97) <| sP (.pointer (some ⟨g0, 0, none⟩)) <| sS (fv a.x.val) (qL 0 g0 0 4 126 97 (tcs a.x.val a.y.val a.z.val) rfl Tryz.underlying97) ?_
   obtain ⟨z5, hz5⟩ : ∃ z : Fp, z = z2 - a.x := ⟨_, rfl⟩
   refine sS (fv z5.val) (qF 113 #[fv z2.val, fv a.x.val] (fun w => by rw [hz5]; exact subR_c w z2 a.x)) ?_
   refine sM 97 (fcs 0) (fun g7 => ?_)
   refine sW 7 g7 97 (fcs 0) (fcs z5.val) (wS 0 97 (fcs z5.val) rfl) ?_
   refine sA ?_
   refine sS (fv z4.val) (qL 6 g6 0 4 97 97 (fcs z4.val) rfl Tryz.underlying97) <| sP (.pointer (some ⟨g0, 4, none⟩)) <| sS (fv a.y.val) (qL 0 g0 4 4 126 97 (tcs a.x.val a.y.val a.z.val) rfl Tryz.underlying97) ?_
   obtain ⟨z6, hz6⟩ : ∃ z : Fp, z = z4 - a.y := ⟨_, rfl⟩
   refine sS (fv z6.val) (qF 113 #[fv z4.val, fv a.y.val] (fun w => by rw [hz6]; exact subR_c w z4 a.y)) ?_
   refine sM 97 (fcs 0) (fun g8 => ?_)
   refine sW 8 g8 97 (fcs 0) (fcs z6.val) (wS 0 97 (fcs z6.val) rfl) ?_
   refine sA ?_
   refine sS (fv z5.val) (qL 7 g7 0 4 97 97 (fcs z5.val) rfl Tryz.underlying97) <| sS (fv z5.val) (qL 7 g7 0 4 97 97 (fcs z5.val) rfl Tryz.underlying97) ?_
   obtain ⟨z7, hz7⟩ : ∃ z : Fp, z = z5 * z5 := ⟨_, rfl⟩
   refine sS (fv z7.val) (qF 82 #[fv z5.val, fv z5.val] (fun w => by rw [hz7]; exact mulR_c w z5 z5)) ?_
   refine sM 97 (fcs 0) (fun g9 => ?_)
   refine sW 9 g9 97 (fcs 0) (fcs z7.val) (wS 0 97 (fcs z7.val) rfl) ?_
   refine sA ?_
   refine sS (fv z5.val) (qL 7 g7 0 4 97 97 (fcs z5.val) rfl Tryz.underlying97) <| sS (fv z7.val) (qL 9 g9 0 4 97 97 (fcs z7.val) rfl Tryz.underlying97) ?_
   obtain ⟨z8, hz8⟩ : ∃ z : Fp, z = z5 * z7 := ⟨_, rfl⟩
   refine sS (fv z8.val) (qF 82 #[fv z5.val, fv z7.val] (fun w => by rw [hz8]; exact mulR_c w z5 z7)) ?_
   refine sM 97 (fcs 0) (fun g10 => ?_)
   refine sW 10 g10 97 (fcs 0) (fcs z8.val) (wS 0 97 (fcs z8.val) rfl) ?_
   refine sA ?_
   refine sP (.pointer (some ⟨g0, 0, none⟩)) <| sS (fv a.x.val) (qL 0 g0 0 4 126 97 (tcs a.x.val a.y.val a.z.val) rfl Tryz.underlying97) <| sS (fv z7.val) (qL 9 g9 0 4 97 97 (fcs z7.val) rfl Tryz.underlying97) ?_
   obtain ⟨z9, hz9⟩ : ∃ z : Fp, z = a.x * z7 := ⟨_, rfl⟩
   refine sS (fv z9.val) (qF 82 #[fv a.x.val, fv z7.val] (fun w => by rw [hz9]; exact mulR_c w a.x z7)) ?_
   refine sM 97 (fcs 0) (fun g11 => ?_)
   refine sW 11 g11 97 (fcs 0) (fcs z9.val) (wS 0 97 (fcs z9.val) rfl) ?_
   refine sH (fun j => j == 10) ?_
   refine sD 0 rfl (fv z6.val) (qL 8 g8 0 4 97 97 (fcs z6.val) rfl Tryz.underlying97) <| sD 1 rfl (fv z6.val) (qL 8 g8 0 4 97 97 (fcs z6.val) rfl Tryz.underlying97) ?_
   obtain ⟨z10, hz10⟩ : ∃ z : Fp, z = z6 * z6 := ⟨_, rfl⟩
   refine sD 2 rfl (fv z10.val) (qF 82 #[fv z6.val, fv z6.val] (fun w => by rw [hz10]; exact mulR_c w z6 z6)) <| sD 3 rfl (fv z8.val) (qL 10 g10 0 4 97 97 (fcs z8.val) rfl Tryz.underlying97) ?_
   obtain ⟨z11, hz11⟩ : ∃ z : Fp, z = z10 - z8 := ⟨_, rfl⟩
   refine sD 4 rfl (fv z11.val) (qF 113 #[fv z10.val, fv z8.val] (fun w => by rw [hz11]; exact subR_c w z10 z8)) <| sD 5 rfl (fv z9.val) (qL 11 g11 0 4 97 97 (fcs z9.val) rfl Tryz.underlying97) <| sD 6 rfl (fv z9.val) (qL 11 g11 0 4 97 97 (fcs z9.val) rfl Tryz.underlying97) ?_
   obtain ⟨z12, hz12⟩ : ∃ z : Fp, z = z9 + z9 := ⟨_, rfl⟩
   refine sD 7 rfl (fv z12.val) (qF 114 #[fv z9.val, fv z9.val] (fun w => by rw [hz12]; exact addR_c w z9 z9)) ?_
   obtain ⟨z13, hz13⟩ : ∃ z : Fp, z = z11 - z12 := ⟨_, rfl⟩
   refine sD 8 rfl (fv z13.val) (qF 113 #[fv z11.val, fv z12.val] (fun w => by rw [hz13]; exact subR_c w z11 z12)) ?_
   refine sO 9 rfl 97 (fcs 0) (fun g12 => ?_)
   refine sX 10 rfl 12 g12 97 (fcs 0) (fcs z13.val) (wS 0 97 (fcs z13.val) rfl) ?_
   refine sE ?_
   refine sR (fun j => j == 16) ?_
   refine sD 0 rfl (fv z13.val) (qL 12 g12 0 4 97 97 (fcs z13.val) rfl Tryz.underlying97) <| sD 1 rfl (fv z6.val) (qL 8 g8 0 4 97 97 (fcs z6.val) rfl Tryz.underlying97) <| sD 2 rfl (fv z9.val) (qL 11 g11 0 4 97 97 (fcs z9.val) rfl Tryz.underlying97) <| sD 3 rfl (fv z13.val) (qL 12 g12 0 4 97 97 (fcs z13.val) rfl Tryz.underlying97) ?_
   obtain ⟨z14, hz14⟩ : ∃ z : Fp, z = z9 - z13 := ⟨_, rfl⟩
   refine sD 4 rfl (fv z14.val) (qF 113 #[fv z9.val, fv z13.val] (fun w => by rw [hz14]; exact subR_c w z9 z13)) ?_
   obtain ⟨z15, hz15⟩ : ∃ z : Fp, z = z6 * z14 := ⟨_, rfl⟩
   refine sD 5 rfl (fv z15.val) (qF 82 #[fv z6.val, fv z14.val] (fun w => by rw [hz15]; exact mulR_c w z6 z14)) <| sZ 6 rfl (.pointer (some ⟨g0, 4, none⟩)) <| sD 7 rfl (fv a.y.val) (qL 0 g0 4 4 126 97 (tcs a.x.val a.y.val a.z.val) rfl Tryz.underlying97) <| sD 8 rfl (fv z8.val) (qL 10 g10 0 4 97 97 (fcs z8.val) rfl Tryz.underlying97) ?_
   obtain ⟨z16, hz16⟩ : ∃ z : Fp, z = a.y * z8 := ⟨_, rfl⟩
   refine sD 9 rfl (fv z16.val) (qF 82 #[fv a.y.val, fv z8.val] (fun w => by rw [hz16]; exact mulR_c w a.y z8)) ?_
   obtain ⟨z17, hz17⟩ : ∃ z : Fp, z = z15 - z16 := ⟨_, rfl⟩
   refine sD 10 rfl (fv z17.val) (qF 113 #[fv z15.val, fv z16.val] (fun w => by rw [hz17]; exact subR_c w z15 z16)) <| sD 11 rfl (fv z5.val) (qL 7 g7 0 4 97 97 (fcs z5.val) rfl Tryz.underlying97) <| sZ 12 rfl (.pointer (some ⟨g0, 8, none⟩)) <| sD 13 rfl (fv a.z.val) (qL 0 g0 8 4 126 97 (tcs a.x.val a.y.val a.z.val) rfl Tryz.underlying97) ?_
   obtain ⟨z18, hz18⟩ : ∃ z : Fp, z = z5 * a.z := ⟨_, rfl⟩
   refine sD 14 rfl (fv z18.val) (qF 82 #[fv z5.val, fv a.z.val] (fun w => by rw [hz18]; exact mulR_c w z5 a.z)) <| sZ 15 rfl (tv z13.val z17.val z18.val) <| sX 16 rfl 3 g3 126 (tcs 0 0 0) (tcs z13.val z17.val z18.val) (wS 0 126 (tcs z13.val z17.val z18.val) rfl) ?_
   refine sI ?_
   refine Sy.ret ?_
   rw [show (tv (plusR a x y).x.val (plusR a x y).y.val (plusR a x y).z.val : Value) = tv z13.val z17.val z18.val from by
    rw [plusR_4 eb1 (by have q := eb2; simp only [hz2, hz1] at q; exact q)]; simp only
    have k0 : pxR a x y = z13 := by
     simp only [dblJ, pxR, pyR, hR, rR]
     simp only [hz13, hz12, hz11, hz10, hz9, hz8, hz7, hz6, hz5, hz4, hz3, hz2, hz1]
     grobner
    have k1 : pyR a x y = z17 := by
     simp only [dblJ, pxR, pyR, hR, rR]
     simp only [hz17, hz16, hz15, hz14, hz13, hz12, hz11, hz10, hz9, hz8, hz7, hz6, hz5, hz4, hz3, hz2, hz1]
     grobner
    have k2 : a.z * hR a x = z18 := by
     simp only [dblJ, pxR, pyR, hR, rR]
     simp only [hz18, hz5, hz2, hz1]
     grobner
    simp only [k0, k1, k2]]
   exact rC (v := tv z13.val z17.val z18.val) 126 g3 3 (tcs z13.val z17.val z18.val) rfl Tryz.underlying126
  ·have eb2 : z2 = a.x := Fin.ext (of_decide_eq_true hb2.symm)
   refine sT <| Sy.seq <| sC ?_
   refine sS (fv z4.val) (qL 6 g6 0 4 97 97 (fcs z4.val) rfl Tryz.underlying97) <| sP (.pointer (some ⟨g0, 4, none⟩)) <| sS (fv a.y.val) (qL 0 g0 4 4 126 97 (tcs a.x.val a.y.val a.z.val) rfl Tryz.underlying97) ?_
   obtain ⟨b3, hb3⟩ : ∃ z : Bool, z = decide (z4.val = a.y.val) := ⟨_, rfl⟩
   refine sS (.bool b3) (Quiet.pure (fun w => by rw [hb3]; exact eql_num w _ _ _ _ _ _ rfl rfl rfl lK lK)) ?_
   refine sG ?_
   cases b3
   ·have eb3 : z4 ≠ a.y := fun e => of_decide_eq_false hb3.symm (congrArg Fin.val e)
    refine sU <| Sy.skip <| sB ?_
    refine sP (tv 0 0 0) <| sW 3 g3 126 (tcs 0 0 0) (tcs 0 0 0) (wS 0 126 (tcs 0 0 0) rfl) ?_
    refine sG <| Sy.ret <| Sy.then_ret ?_
    rw [show (tv (plusR a x y).x.val (plusR a x y).y.val (plusR a x y).z.val : Value) = tv 0 0 0 from by rw [plusR_3 eb1 (by have q := eb2; simp only [hz2, hz1] at q; exact q) (by have q := eb3; simp only [hz4, hz3, hz1] at q; exact q)]; rfl]
    exact rC (v := tv 0 0 0) 126 g3 3 (tcs 0 0 0) rfl Tryz.underlying126
   ·have eb3 : z4 = a.y := Fin.ext (of_decide_eq_true hb3.symm)
    refine sT <| sC ?_
    refine sS (tv a.x.val a.y.val a.z.val) (qL 0 g0 0 12 126 126 (tcs a.x.val a.y.val a.z.val) rfl Tryz.underlying126) <| sS (tv ((dblR a).x.val) ((dblR a).y.val) ((dblR a).z.val)) (qF 78 #[tv a.x.val a.y.val a.z.val] (fun w => twiceR_c w a)) <| sW 3 g3 126 (tcs 0 0 0) (tcs ((dblR a).x.val) ((dblR a).y.val) ((dblR a).z.val)) (wS 0 126 (tcs ((dblR a).x.val) ((dblR a).y.val) ((dblR a).z.val)) rfl) ?_
    refine sG <| Sy.ret <| Sy.then_ret <| Sy.then_ret ?_
    rw [show (tv (plusR a x y).x.val (plusR a x y).y.val (plusR a x y).z.val : Value) = tv ((dblR a).x.val) ((dblR a).y.val) ((dblR a).z.val) from by rw [plusR_2 eb1 (by have q := eb2; simp only [hz2, hz1] at q; exact q) (by have q := eb3; simp only [hz4, hz3, hz1] at q; exact q)]]
    exact rC (v := tv ((dblR a).x.val) ((dblR a).y.val) ((dblR a).z.val)) 126 g3 3 (tcs ((dblR a).x.val) ((dblR a).y.val) ((dblR a).z.val)) rfl Tryz.underlying126
 ·have eb1 : a.z = (0 : Fp) := Fin.ext (of_decide_eq_true hb1.symm)
  refine sT <| Sy.seq ?_
  refine Sy.regionD (fun j => j == 4) kR ?_
  refine sD 0 rfl (fv x.val) (qL 1 g1 0 4 97 97 (fcs x.val) rfl Tryz.underlying97) <| sD 1 rfl (fv y.val) (qL 2 g2 0 4 97 97 (fcs y.val) rfl Tryz.underlying97) ?_
  obtain ⟨z19, hz19⟩ : ∃ z : Fp, z = (1 : Fp) := ⟨_, rfl⟩
  refine sD 2 rfl (fv z19.val) (qF 132 #[.int .u64 1] (fun w => by rw [hz19]; exact small_c w 1 (by decide))) <| sZ 3 rfl (tv x.val y.val z19.val) <| sX 4 rfl 3 g3 126 (tcs 0 0 0) (tcs x.val y.val z19.val) (wS 0 126 (tcs x.val y.val z19.val) rfl) ?_
  refine sI ?_
  refine Sy.ret <| Sy.then_ret ?_
  rw [show (tv (plusR a x y).x.val (plusR a x y).y.val (plusR a x y).z.val : Value) = tv x.val y.val z19.val from by rw [plusR_1 eb1]; simp only [hz19]]
  exact rC (v := tv x.val y.val z19.val) 126 g3 3 (tcs x.val y.val z19.val) rfl Tryz.underlying126
end Go.Proofs.YtfhcpdbahbbmaaaGreatDoor.Cu

end
