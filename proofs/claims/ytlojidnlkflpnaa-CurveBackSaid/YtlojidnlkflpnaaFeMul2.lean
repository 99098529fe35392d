/-
  fe.Mul, fe.Sub, fe.Neg.
-/
import Derived.Test.YtlojidnlkflpnaaFeProd
import Derived.Test.YtlojidnlkflpnaaFeOps
namespace Go.Proofs.Ytlojidnlkflpnaa
open Go.RowKit Go.Lib

theorem minus_fv (w : World) (x y s k : Nat) (hx : x < 115792089237316195423570985008687907853269984665640564039457584007913129639936) (hy : y < 115792089237316195423570985008687907853269984665640564039457584007913129639936) (hs : s < 115792089237316195423570985008687907853269984665640564039457584007913129639936) (he : s + y = x + 115792089237316195423570985008687907853269984665640564039457584007913129639936 * k) :
    Calls Try.prog 90 #[fv x, fv y] w fun e w' => e = .returned (.tuple #[fv s, .int .u64 (k : Int)]) ∧ Below w.heap.size w w' := minus_at w x y s k rfl rfl hx hy hs he
theorem product_fv (w : World) (x y lo hi : Nat) (hx : x < 115792089237316195423570985008687907853269984665640564039457584007913129639936) (hy : y < 115792089237316195423570985008687907853269984665640564039457584007913129639936) (hlo : lo < 115792089237316195423570985008687907853269984665640564039457584007913129639936) (he : lo + 115792089237316195423570985008687907853269984665640564039457584007913129639936 * hi = x * y) :
    Calls Try.prog 79 #[fv x, fv y] w fun e w' => e = .returned (.tuple #[fv lo, fv hi]) ∧ Below w.heap.size w w' := product_at w x y lo hi rfl rfl hx hy hlo he

set_option maxHeartbeats 1000000 in
set_option maxRecDepth 100000 in
theorem subF_any (w : World) (x y : Nat) (hx : x < 115792089237316195423570985008687907853269984665640564039457584007913129639936) (hy : y < 115792089237316195423570985008687907853269984665640564039457584007913129639936) : Calls Try.prog 52 #[fv x, fv y] w fun e w' => e = .returned (fv (subP x y)) ∧ Below w.heap.size w w' := by
  obtain ⟨p, hp⟩ : ∃ p, p = x % pM := ⟨_, rfl⟩
  obtain ⟨q, hq⟩ : ∃ q, q = y % pM := ⟨_, rfl⟩
  have hpl : p < 115792089237316195423570985008687907853269984665640564039457584007913129639936 := by rw [hp]; exact mod_lt x
  have hql : q < 115792089237316195423570985008687907853269984665640564039457584007913129639936 := by rw [hq]; exact mod_lt y
  have hpp : p < 115792089237316195423570985008687907853269984665640564039457584007908834671663 := by rw [hp]; exact mod_lt_p x
  have hqp : q < 115792089237316195423570985008687907853269984665640564039457584007908834671663 := by rw [hq]; exact mod_lt_p y
  obtain ⟨z, hz⟩ : ∃ z, z = subP x y := ⟨_, rfl⟩
  have hzs : z = if q ≤ p then p - q else p + 115792089237316195423570985008687907853269984665640564039457584007908834671663 - q := by rw [hz, sub_words, ← hp, ← hq]
  obtain ⟨s, k, hk, hs, he, hzk⟩ : ∃ s k : Nat, k ≤ 1 ∧ s < 115792089237316195423570985008687907853269984665640564039457584007913129639936 ∧ s + q = p + 115792089237316195423570985008687907853269984665640564039457584007913129639936 * k ∧ z + k * 4294968273 = s + 115792089237316195423570985008687907853269984665640564039457584007913129639936 * 0 := by
    by_cases h : q ≤ p
    · rw [if_pos h] at hzs; exact ⟨p - q, 0, by omega, by omega, by omega, by omega⟩
    · rw [if_neg h] at hzs; exact ⟨p + 115792089237316195423570985008687907853269984665640564039457584007913129639936 - q, 1, by omega, by omega, by omega, by omega⟩
  obtain ⟨j, hj⟩ : ∃ j, j = k * 4294968273 := ⟨_, rfl⟩
  have hJ : (k : Int) * 4294968273 = (j : Int) := by omega
  have hjl : j < 18446744073709551616 := by omega
  have hzl : z < 115792089237316195423570985008687907853269984665640564039457584007913129639936 := by omega
  have cm := fun w => minus_at w s j z 0 (v1 := fv s) rfl (fv_small j hjl) hs (by omega) hzl (by rw [hj]; exact hzk)
  have HP := Lib.hid (And.intro hp hq)
  have HS := Lib.hid (And.intro hpl (And.intro hql (And.intro hs he)))
  obtain ⟨x0, x1, x2, x3, fx⟩ := words_fv x hx
  obtain ⟨y0, y1, y2, y3, fy⟩ := words_fv y hy
  have FX := Lib.hid fx
  have FY := Lib.hid fy
  have HX := Lib.hid hx
  have HY := Lib.hid hy
  rw [fx, fy, ← hz]
  clear fx fy hx hy hp hq hpl hql hpp hqp hz hzs hk hs he hzk hj hzl
  go_enter Try.func52, Try.ntmps52
  go_wp2
  refine wp_region_G (fun j => j == 11) (by kernel_rfl) ?_
  try simp only [Act.put]
  refine wpAnyG_take 0 rfl (by kernel_rfl) (fun _ _ _ h => h) (YieldsG.loadF (by rfl) _ _ rfl (w.heap.size) rfl (x) _ _ (((Blk.new w _ _).alloc _).alloc _) (FX.out) Try.underlying24 rfl (by kernel_rfl)) ?_
  try simp only [Act.put, List.setIfInBounds_toArray, List.set_cons_zero, List.set_cons_succ]
  refine wpAnyG_take 1 rfl (by kernel_rfl) (fun _ _ _ h => h) (YieldsG.call (v := fv x) (by rfl) 78 _ (fun w9 => by go_simp; try (first | with_reducible rfl | rfl)) (fun w9 h9 => split_any w9 x)) ?_
  try simp only [Act.put, List.setIfInBounds_toArray, List.set_cons_zero, List.set_cons_succ]
  refine wpAnyG_take 2 rfl (by kernel_rfl) (fun _ _ _ h => h) (YieldsG.call (v := fv p) (by rfl) 77 _ (fun w9 => by go_simp; try (first | with_reducible rfl | rfl)) (fun w9 h9 => HP.out.1 ▸ reduce_any w9 _ HX.out)) ?_
  try simp only [Act.put, List.setIfInBounds_toArray, List.set_cons_zero, List.set_cons_succ]
  refine wpAnyG_take 3 rfl (by kernel_rfl) (fun _ _ _ h => h) (YieldsG.loadF (by rfl) _ _ rfl (w.heap.size + 1) rfl (y) _ _ ((blk_new2 w _ _ _).alloc _) (FY.out) Try.underlying24 rfl (by kernel_rfl)) ?_
  try simp only [Act.put, List.setIfInBounds_toArray, List.set_cons_zero, List.set_cons_succ]
  refine wpAnyG_take 4 rfl (by kernel_rfl) (fun _ _ _ h => h) (YieldsG.call (v := fv y) (by rfl) 78 _ (fun w9 => by go_simp; try (first | with_reducible rfl | rfl)) (fun w9 h9 => split_any w9 y)) ?_
  try simp only [Act.put, List.setIfInBounds_toArray, List.set_cons_zero, List.set_cons_succ]
  refine wpAnyG_take 5 rfl (by kernel_rfl) (fun _ _ _ h => h) (YieldsG.call (v := fv q) (by rfl) 77 _ (fun w9 => by go_simp; try (first | with_reducible rfl | rfl)) (fun w9 h9 => HP.out.2 ▸ reduce_any w9 _ HY.out)) ?_
  try simp only [Act.put, List.setIfInBounds_toArray, List.set_cons_zero, List.set_cons_succ]
  refine wpAnyG_take 6 rfl (by kernel_rfl) (fun _ _ _ h => h) (YieldsG.call (v := .tuple #[fv s, .int .u64 (k : Int)]) (by rfl) 90 _ (fun w9 => by go_simp; try (first | with_reducible rfl | rfl)) (fun w9 h9 => minus_fv w9 p q s k HS.out.1 HS.out.2.1 HS.out.2.2.1 HS.out.2.2.2)) ?_
  try simp only [Act.put, List.setIfInBounds_toArray, List.set_cons_zero, List.set_cons_succ]
  refine wpAnyG_take 7 rfl (by kernel_rfl) (fun _ _ _ h => h) (YieldsG.pure (by rfl) (fun w9 _ => by go_simp; try with_reducible rfl)) ?_
  try simp only [Act.put, List.setIfInBounds_toArray, List.set_cons_zero, List.set_cons_succ]
  refine wpAnyG_take 8 rfl (by kernel_rfl) (fun _ _ _ h => h) (YieldsG.pure (by rfl) (fun w9 _ => by go_simp; try with_reducible rfl)) ?_
  try simp only [Act.put, List.setIfInBounds_toArray, List.set_cons_zero, List.set_cons_succ]
  refine wpAnyG_takeA 9 rfl (by kernel_rfl) (fun _ _ _ h => h) (fun _ => YieldsG.pure (by rfl) (fun w9 _ => by go_simp; try with_reducible rfl)) ?_
  try simp only [Act.put, List.setIfInBounds_toArray, List.set_cons_zero, List.set_cons_succ]
  refine wpAnyG_sole 10 rfl (by kernel_rfl) (by rfl) (fun w3 h3 K hK => ?_)
  go_simp
  refine hK _ _ (fun _ => gr_alloc _ _) ?_
  clear hK K
  try simp only [Act.put, List.setIfInBounds_toArray, List.set_cons_zero, List.set_cons_succ]
  refine wpAnyG_store 11 rfl (by kernel_rfl) (by rfl) _ _ _ rfl (w3.heap.size) (fcs (s)) rfl rfl _ _ (Blk.new w3 _ _) (by kernel_rfl) (by rfl) (fcs_one _) rfl (fun w6 h6 w7 hB7 hL7 => ?_)
  try simp only [Act.put]
  refine wpAnyG_takeA 12 rfl (by kernel_rfl) (fun _ _ _ h => h) (fun _ => YieldsG.pure (by rfl) (fun w9 _ => by go_simp; try with_reducible rfl)) ?_
  try simp only [Act.put, List.setIfInBounds_toArray, List.set_cons_zero, List.set_cons_succ]
  refine wpAnyG_done (by kernel_rfl) (fun w8 h8 => ?_)
  have hL8 := Gr.blk h8 hL7
  have BR8 : Blk w8 (w.heap.size + 2) 24 _ := Gr.blk h8 (Blk.below (B := w3.heap.size) (Gr.blk h6 (Blk.alloc (Gr.blk h3 (blk_new3 w _ _ _ _)) _)) (hB7 _ (Nat.le_refl _)) (by have := h3.size; simp at this; omega))
  have hsz : w.heap.size + 3 ≤ w3.heap.size := by have := h3.size; simp at this; omega
  have hb9 : Below w.heap.size w w8 := Below.gr ((Below.gr ((Below.gr (below_alloc3 w _ _ _) h3).alloc (by omega) _) h6).trans (hB7 _ (by omega))) h8
  clear h3 h6 hB7 hL7 h8
  go_wp2_with (first | ((with_reducible refine here_load (d := some 18) ?_); refine wpList_load_fv rfl _ _ rfl (w3.heap.size) rfl (s) _ _ _ (hL8) (fv_fcs s) Try.underlying102 rfl (by kernel_rfl) ?_))
  refine (cm _).mono ?_
  rintro e w9 ⟨rfl, hb⟩
  have BR9 := Gr.blk hb BR8
  have BT9 := Gr.blk hb hL8
  have hBn := Below.gr hb9 hb
  clear hb hb9 BR8 hL8 cm
  go_wp2_with (first | ((with_reducible refine here_store ?_); refine wpList_store_blk rfl _ _ _ rfl (w3.heap.size) (fcs (z)) rfl rfl _ _ (BT9) (by kernel_rfl) (by rfl) (fcs_one _) ?_; intro w10 hL10 hB10 hK10; have BR10 := hK10 _ (by omega) _ _ BR9) | ((with_reducible refine here_load (d := some 25) ?_); refine wpList_load_fv rfl _ _ rfl (w3.heap.size) rfl (z) _ _ _ (hL10) (fv_fcs z) Try.underlying102 rfl (by kernel_rfl) ?_))
  refine (number_any _ _).mono ?_
  rintro e w11 ⟨rfl, hb⟩
  have BR11 := Gr.blk hb BR10
  have hBm := Below.gr (hBn.trans (hB10 _ (by omega))) hb
  go_wp2_with (first | ((with_reducible refine here_store ?_); refine wpList_store_blk rfl _ _ _ rfl (w.heap.size + 2) (fcs (z)) rfl rfl _ _ (BR11) (by kernel_rfl) (by rfl) (fcs_one _) ?_; intro w12 hL12 hB12 hK12))
  exact bodyPost_ret (results_cell_row rfl _ _ (w.heap.size + 2) _ _ (0, 0) _ rfl hL12 Try.underlying24 rfl (by kernel_rfl)) rfl ⟨rfl, hBm.trans (hB12 _ (by omega))⟩

theorem negF_any (w : World) (x : Nat) (hx : x < 115792089237316195423570985008687907853269984665640564039457584007913129639936) : Calls Try.prog 48 #[fv x] w fun e w' => e = .returned (fv (negP x)) ∧ Below w.heap.size w w' := by
  obtain ⟨z, hz⟩ : ∃ z, z = negP x := ⟨_, rfl⟩
  have cs : ∀ w, Calls Try.prog 52 #[.agg #[.int .u64 0, .int .u64 0, .int .u64 0, .int .u64 0], fv x] w fun e w' => e = .returned (fv z) ∧ Below w.heap.size w w' := by
    intro w; rw [hz, neg_sub, ← fv_0]; exact subF_any w 0 x (by omega) hx
  obtain ⟨x0, x1, x2, x3, fx⟩ := words_fv x hx
  rw [fx] at cs
  rw [fx, ← hz]
  clear fx hx hz
  go_enter Try.func48, Try.ntmps48
  go_wp2_with fail
  refine (cs _).mono ?_
  rintro e w1 ⟨rfl, hb⟩
  have BR : Blk w1 (w.heap.size + 1) 24 _ := Gr.blk hb (blk_new2 w _ _ _)
  have hB := Below.gr (below_alloc2 w _ _) hb
  go_wp2_with (first | ((with_reducible refine here_store ?_); refine wpList_store_blk rfl _ _ _ rfl (w.heap.size + 1) (fcs (z)) rfl rfl _ _ (BR) (by kernel_rfl) (by rfl) (fcs_one _) ?_; intro w2 hL2 hB2 hK2))
  exact bodyPost_ret (results_cell_row rfl _ _ (w.heap.size + 1) _ _ (0, 0) _ rfl hL2 Try.underlying24 rfl (by kernel_rfl)) rfl ⟨rfl, hB.trans (hB2 _ (by omega))⟩

theorem mul_split (x y : Nat) (hx : x < 115792089237316195423570985008687907853269984665640564039457584007913129639936) (hy : y < 115792089237316195423570985008687907853269984665640564039457584007913129639936) : ∃ lo hi f t b c g : Nat, lo < 115792089237316195423570985008687907853269984665640564039457584007913129639936 ∧ hi < 115792089237316195423570985008687907853269984665640564039457584007913129639936 ∧ lo + 115792089237316195423570985008687907853269984665640564039457584007913129639936 * hi = x * y ∧ f < 115792089237316195423570985008687907853269984665640564039457584007913129639936 ∧ f + 115792089237316195423570985008687907853269984665640564039457584007913129639936 * t = hi * 4294968273 ∧ t < 18446744073709551616 ∧ b < 18446744073709551616 ∧ c < 18446744073709551616 ∧ b + 18446744073709551616 * c = t * 4294968273 ∧ g = b + 18446744073709551616 * c ∧ g < 115792089237316195423570985008687907853269984665640564039457584007913129639936 ∧ (lo + f + g) % pM = mulP x y := by
  have h : x * y ≤ 115792089237316195423570985008687907853269984665640564039457584007913129639935 * 115792089237316195423570985008687907853269984665640564039457584007913129639935 := Nat.mul_le_mul (by omega) (by omega)
  refine ⟨x * y % 115792089237316195423570985008687907853269984665640564039457584007913129639936, x * y / 115792089237316195423570985008687907853269984665640564039457584007913129639936, x * y / 115792089237316195423570985008687907853269984665640564039457584007913129639936 * 4294968273 % 115792089237316195423570985008687907853269984665640564039457584007913129639936, x * y / 115792089237316195423570985008687907853269984665640564039457584007913129639936 * 4294968273 / 115792089237316195423570985008687907853269984665640564039457584007913129639936, x * y / 115792089237316195423570985008687907853269984665640564039457584007913129639936 * 4294968273 / 115792089237316195423570985008687907853269984665640564039457584007913129639936 * 4294968273 % 18446744073709551616, x * y / 115792089237316195423570985008687907853269984665640564039457584007913129639936 * 4294968273 / 115792089237316195423570985008687907853269984665640564039457584007913129639936 * 4294968273 / 18446744073709551616, x * y / 115792089237316195423570985008687907853269984665640564039457584007913129639936 * 4294968273 / 115792089237316195423570985008687907853269984665640564039457584007913129639936 * 4294968273, by omega, by omega, by omega, by omega, by omega, by omega, by omega, by omega, by omega, by omega, by omega, ?_⟩
  unfold mulP
  refine mod_of_mult (k := x * y / 115792089237316195423570985008687907853269984665640564039457584007913129639936 + x * y / 115792089237316195423570985008687907853269984665640564039457584007913129639936 * 4294968273 / 115792089237316195423570985008687907853269984665640564039457584007913129639936) ?_
  generalize x * y = m at *
  omega

set_option maxHeartbeats 1000000 in
set_option maxRecDepth 100000 in
theorem mulF_any (w : World) (x y : Nat) (hx : x < 115792089237316195423570985008687907853269984665640564039457584007913129639936) (hy : y < 115792089237316195423570985008687907853269984665640564039457584007913129639936) : Calls Try.prog 39 #[fv x, fv y] w fun e w' => e = .returned (fv (mulP x y)) ∧ Below w.heap.size w w' := by
  obtain ⟨lo, hi, f, t, b, c, g, hlo, hhi, he, hf, hft, ht, hb, hc, hbc, hg, hgl, hfin⟩ := mul_split x y hx hy
  obtain ⟨a, ha⟩ : ∃ a, a = addW lo f := ⟨_, rfl⟩
  obtain ⟨v, hv⟩ : ∃ v, v = addW a g := ⟨_, rfl⟩
  obtain ⟨z, hz⟩ : ∃ z, z = mulP x y := ⟨_, rfl⟩
  have hal : a < 115792089237316195423570985008687907853269984665640564039457584007913129639936 := by rw [ha]; exact addW_lt _ _ hlo hf
  have hvl : v < 115792089237316195423570985008687907853269984665640564039457584007913129639936 := by rw [hv]; exact addW_lt _ _ hal hgl
  have hvz : v % pM = z := by
    rw [hz, ← hfin, hv, addW_mod, ← Nat.mod_add_mod, ha, addW_mod, Nat.mod_add_mod]
  have ct : ∀ w, Calls Try.prog 80 #[fv hi, .int .u64 4294968273] w fun e w' => e = .returned (.tuple #[fv f, .int .u64 (t : Int)]) ∧ Below w.heap.size w w' := fun w => times_at (v := fv hi) w hi 4294968273 f t rfl hhi (by omega) hf hft
  have cm : ∀ w, Calls Try.prog 81 #[.int .u64 (t : Int), .int .u64 4294968273] w fun e w' => e = .returned (.tuple #[.int .u64 (c : Int), .int .u64 (b : Int)]) ∧ w' = w := fun w => mul64_at w t 4294968273 c b ht (by omega) hb hbc
  have ca := fun w => ha ▸ add_def w lo f hlo hf
  have hgf : fv g = .agg #[.int .u64 (b : Int), .int .u64 (c : Int), .int .u64 0, .int .u64 0] := by
    have h : Value.agg #[.int .u64 (b : Int), .int .u64 (c : Int), .int .u64 0, .int .u64 0] = fv (b + 18446744073709551616 * c + 340282366920938463463374607431768211456 * 0 + 6277101735386680763835789423207666416102355444464034512896 * 0) := fv_mk b c 0 0 hb hc (by omega) (by omega)
    exact (h.trans (congrArg fv (by omega))).symm
  have cb : ∀ w, Calls Try.prog 82 #[fv a, .agg #[.int .u64 (b : Int), .int .u64 (c : Int), .int .u64 0, .int .u64 0]] w fun e w' => e = .returned (fv v) ∧ Below w.heap.size w w' := by
    intro w; rw [← hgf, hv]; exact add_def w a g hal hgl
  have cr : ∀ w, Calls Try.prog 77 #[fv v] w fun e w' => e = .returned (fv z) ∧ Below w.heap.size w w' := by
    intro w; rw [← hvz]; exact reduce_any w v hvl
  have HP := Lib.hid (And.intro hlo he)
  obtain ⟨x0, x1, x2, x3, fx⟩ := words_fv x hx
  obtain ⟨y0, y1, y2, y3, fy⟩ := words_fv y hy
  have FX := Lib.hid fx
  have FY := Lib.hid fy
  have HX := Lib.hid (And.intro hx hy)
  rw [fx, fy, ← hz]
  clear fx fy hx hy hlo hhi he hf hft ht hb hc hbc hg hgl hfin ha hv hz hal hvl hvz hgf
  go_enter Try.func39, Try.ntmps39
  go_wp2
  refine wp_region_G (fun j => j == 10 || j == 11) (by kernel_rfl) ?_
  try simp only [Act.put]
  refine wpAnyG_take 0 rfl (by kernel_rfl) (fun _ _ _ h => h) (YieldsG.loadF (by rfl) _ _ rfl (w.heap.size) rfl (x) _ _ (((Blk.new w _ _).alloc _).alloc _) (FX.out) Try.underlying24 rfl (by kernel_rfl)) ?_
  try simp only [Act.put, List.setIfInBounds_toArray, List.set_cons_zero, List.set_cons_succ]
  refine wpAnyG_take 1 rfl (by kernel_rfl) (fun _ _ _ h => h) (YieldsG.call (v := fv x) (by rfl) 78 _ (fun w9 => by go_simp; try (first | with_reducible rfl | rfl)) (fun w9 h9 => split_any w9 x)) ?_
  try simp only [Act.put, List.setIfInBounds_toArray, List.set_cons_zero, List.set_cons_succ]
  refine wpAnyG_take 2 rfl (by kernel_rfl) (fun _ _ _ h => h) (YieldsG.loadF (by rfl) _ _ rfl (w.heap.size + 1) rfl (y) _ _ ((blk_new2 w _ _ _).alloc _) (FY.out) Try.underlying24 rfl (by kernel_rfl)) ?_
  try simp only [Act.put, List.setIfInBounds_toArray, List.set_cons_zero, List.set_cons_succ]
  refine wpAnyG_take 3 rfl (by kernel_rfl) (fun _ _ _ h => h) (YieldsG.call (v := fv y) (by rfl) 78 _ (fun w9 => by go_simp; try (first | with_reducible rfl | rfl)) (fun w9 h9 => split_any w9 y)) ?_
  try simp only [Act.put, List.setIfInBounds_toArray, List.set_cons_zero, List.set_cons_succ]
  refine wpAnyG_take 4 rfl (by kernel_rfl) (fun _ _ _ h => h) (YieldsG.call (v := .tuple #[fv lo, fv hi]) (by rfl) 79 _ (fun w9 => by go_simp; try (first | with_reducible rfl | rfl)) (fun w9 h9 => product_fv w9 x y lo hi HX.out.1 HX.out.2 HP.out.1 HP.out.2)) ?_
  try simp only [Act.put, List.setIfInBounds_toArray, List.set_cons_zero, List.set_cons_succ]
  refine wpAnyG_take 5 rfl (by kernel_rfl) (fun _ _ _ h => h) (YieldsG.pure (by rfl) (fun w9 _ => by go_simp; try with_reducible rfl)) ?_
  try simp only [Act.put, List.setIfInBounds_toArray, List.set_cons_zero, List.set_cons_succ]
  refine wpAnyG_take 6 rfl (by kernel_rfl) (fun _ _ _ h => h) (YieldsG.pure (by rfl) (fun w9 _ => by go_simp; try with_reducible rfl)) ?_
  try simp only [Act.put, List.setIfInBounds_toArray, List.set_cons_zero, List.set_cons_succ]
  refine wpAnyG_takeA 7 rfl (by kernel_rfl) (fun _ _ _ h => h) (fun _ => YieldsG.pure (by rfl) (fun w9 _ => by go_simp; try with_reducible rfl)) ?_
  try simp only [Act.put, List.setIfInBounds_toArray, List.set_cons_zero, List.set_cons_succ]
  refine wpAnyG_duo 8 9 rfl rfl (by kernel_rfl) (by rfl) (by rfl) (fun w3 h3 K hK => ?_) (fun w3 h3 K hK => ?_)
  · go_simp
    refine hK _ _ (fun _ => gr_alloc _ _) ?_
    clear hK K
    try simp only [Act.put, List.setIfInBounds_toArray, List.set_cons_zero, List.set_cons_succ]
    refine wpAnyG_sole 9 rfl (by kernel_rfl) (by rfl) (fun w4 h4 K hK => ?_)
    go_simp
    refine hK _ _ (fun _ => gr_alloc _ _) ?_
    clear hK K
    try simp only [Act.put, List.setIfInBounds_toArray, List.set_cons_zero, List.set_cons_succ]
    refine wpAnyG_storeK 10 rfl (by kernel_rfl) (by rfl) _ _ _ rfl (w3.heap.size) (fcs (lo)) rfl rfl _ _ (Gr.blk h4 (Blk.new w3 _ _) |>.alloc _) (by kernel_rfl) (by rfl) (fcs_one _) rfl (fun w6 h6 w7 hB7 hK7 hL7 => ?_)
    try simp only [Act.put]
    have hs4 : w3.heap.size + 1 ≤ w4.heap.size := by have := h4.size; simp at this; omega
    have hs3 : w.heap.size + 3 ≤ w3.heap.size := by have := h3.size; simp at this; omega
    have B6 : Blk w7 w4.heap.size 102 _ := hK7 _ (by omega) _ _ (Gr.blk h6 (Blk.new w4 _ _))
    have BR7 : Blk w7 (w.heap.size + 2) 24 _ := hK7 _ (by omega) _ _ (Gr.blk h6 (Blk.alloc (Gr.blk h4 (Blk.alloc (Gr.blk h3 (blk_new3 w _ _ _ _)) _)) _))
    have hb7 : Below w.heap.size w w7 := (Below.gr ((Below.gr ((Below.gr (below_alloc3 w _ _ _) h3).alloc (by omega) _) h4).alloc (by omega) _) h6).trans (hB7 _ (by omega))
    refine wpAnyG_storeK 11 rfl (by kernel_rfl) (by rfl) _ _ _ rfl (w4.heap.size) (fcs (hi)) rfl rfl _ _ (B6) (by kernel_rfl) (by rfl) (fcs_one _) rfl (fun w6 h7 w8 hB8 hK8 hL8 => ?_)
    try simp only [Act.put]
    refine wpAnyG_done (by kernel_rfl) (fun w9 h9 => ?_)
    have B5 : Blk w9 w3.heap.size 102 _ := Gr.blk h9 (hK8 _ (by omega) _ _ (Gr.blk h7 hL7))
    have B6 := Gr.blk h9 hL8
    have BR9 : Blk w9 (w.heap.size + 2) 24 _ := Gr.blk h9 (hK8 _ (by omega) _ _ (Gr.blk h7 BR7))
    have hb9 : Below w.heap.size w w9 := Below.gr ((Below.gr hb7 h7).trans (hB8 _ (by omega))) h9
    have hsz9 : w4.heap.size + 1 ≤ w9.heap.size := by have h1 := B5.lt; have h2 := B6.lt; omega
    clear h3 h4 h6 h7 h9 hB7 hB8 hK7 hK8 hL7 hL8 BR7 hb7
    go_wp2_with (first | ((with_reducible refine here_load (d := some 20) ?_); refine wpList_load_fv rfl _ _ rfl (w4.heap.size) rfl (hi) _ _ _ (B6) (fv_fcs hi) Try.underlying102 rfl (by kernel_rfl) ?_))
    refine (ct _).mono ?_
    rintro e w10 ⟨rfl, hb⟩
    have B5 := Gr.blk hb B5
    have BR := Gr.blk hb BR9
    have hBn := Below.gr hb9 hb
    have hsz10 : w4.heap.size + 1 ≤ w10.heap.size := by have := hb.size; omega
    clear hb hb9 BR9 B6 ct
    go_wp2_with (first | ((with_reducible refine here_store ?_); refine wpList_store_blk rfl _ _ _ rfl (w10.heap.size) (fcs (f)) rfl rfl _ _ (Blk.new w10 _ _) (by kernel_rfl) (by rfl) (fcs_one _) ?_; intro w11 hL11 hB11 hK11; have B5' := hK11 _ (by omega) _ _ (B5.alloc _); have BR' := hK11 _ (by omega) _ _ (BR.alloc _)))
    refine (cm _).mono ?_
    rintro e w12 ⟨rfl, rfl⟩
    go_wp2_with (first | ((with_reducible refine here_load (d := some 29) ?_); refine wpList_load_fv rfl _ _ rfl (w3.heap.size) rfl (lo) _ _ _ (B5') (fv_fcs lo) Try.underlying102 rfl (by kernel_rfl) ?_) | ((with_reducible refine here_load (d := some 30) ?_); refine wpList_load_fv rfl _ _ rfl (w10.heap.size) rfl (f) _ _ _ (hL11) (fv_fcs f) Try.underlying102 rfl (by kernel_rfl) ?_))
    refine (ca _).mono ?_
    rintro e w13 ⟨rfl, hb13⟩
    go_wp2_with fail
    refine (cb _).mono ?_
    rintro e w14 ⟨rfl, hb14⟩
    go_wp2_with fail
    refine (cr _).mono ?_
    rintro e w15 ⟨rfl, hb15⟩
    go_wp2_with fail
    refine (number_any _ _).mono ?_
    rintro e w16 ⟨rfl, hb16⟩
    have BR16 := Gr.blk hb16 (Gr.blk hb15 (Gr.blk hb14 (Gr.blk hb13 BR')))
    have hB16 := Below.gr (Below.gr (Below.gr (Below.gr ((hBn.alloc (by omega) _).trans (hB11 _ (by omega))) hb13) hb14) hb15) hb16
    clear hb13 hb14 hb15 hb16
    go_wp2_with (first | ((with_reducible refine here_store ?_); refine wpList_store_blk rfl _ _ _ rfl (w.heap.size + 2) (fcs (z)) rfl rfl _ _ (BR16) (by kernel_rfl) (by rfl) (fcs_one _) ?_; intro w17 hL17 hB17 hK17))
    exact bodyPost_ret (results_cell_row rfl _ _ (w.heap.size + 2) _ _ (0, 0) _ rfl hL17 Try.underlying24 rfl (by kernel_rfl)) rfl ⟨rfl, hB16.trans (hB17 _ (by omega))⟩
  · go_simp
    refine hK _ _ (fun _ => gr_alloc _ _) ?_
    clear hK K
    try simp only [Act.put, List.setIfInBounds_toArray, List.set_cons_zero, List.set_cons_succ]
    refine wpAnyG_sole 8 rfl (by kernel_rfl) (by rfl) (fun w4 h4 K hK => ?_)
    go_simp
    refine hK _ _ (fun _ => gr_alloc _ _) ?_
    clear hK K
    try simp only [Act.put, List.setIfInBounds_toArray, List.set_cons_zero, List.set_cons_succ]
    refine wpAnyG_storeK 10 rfl (by kernel_rfl) (by rfl) _ _ _ rfl (w4.heap.size) (fcs (lo)) rfl rfl _ _ (Blk.new w4 _ _) (by kernel_rfl) (by rfl) (fcs_one _) rfl (fun w6 h6 w7 hB7 hK7 hL7 => ?_)
    try simp only [Act.put]
    have hs4 : w3.heap.size + 1 ≤ w4.heap.size := by have := h4.size; simp at this; omega
    have hs3 : w.heap.size + 3 ≤ w3.heap.size := by have := h3.size; simp at this; omega
    have B6 : Blk w7 w3.heap.size 102 _ := hK7 _ (by omega) _ _ (Gr.blk h6 (Gr.blk h4 (Blk.new w3 _ _) |>.alloc _))
    have BR7 : Blk w7 (w.heap.size + 2) 24 _ := hK7 _ (by omega) _ _ (Gr.blk h6 (Blk.alloc (Gr.blk h4 (Blk.alloc (Gr.blk h3 (blk_new3 w _ _ _ _)) _)) _))
    have hb7 : Below w.heap.size w w7 := (Below.gr ((Below.gr ((Below.gr (below_alloc3 w _ _ _) h3).alloc (by omega) _) h4).alloc (by omega) _) h6).trans (hB7 _ (by omega))
    refine wpAnyG_storeK 11 rfl (by kernel_rfl) (by rfl) _ _ _ rfl (w3.heap.size) (fcs (hi)) rfl rfl _ _ (B6) (by kernel_rfl) (by rfl) (fcs_one _) rfl (fun w6 h7 w8 hB8 hK8 hL8 => ?_)
    try simp only [Act.put]
    refine wpAnyG_done (by kernel_rfl) (fun w9 h9 => ?_)
    have B5 : Blk w9 w4.heap.size 102 _ := Gr.blk h9 (hK8 _ (by omega) _ _ (Gr.blk h7 hL7))
    have B6 := Gr.blk h9 hL8
    have BR9 : Blk w9 (w.heap.size + 2) 24 _ := Gr.blk h9 (hK8 _ (by omega) _ _ (Gr.blk h7 BR7))
    have hb9 : Below w.heap.size w w9 := Below.gr ((Below.gr hb7 h7).trans (hB8 _ (by omega))) h9
    have hsz9 : w4.heap.size + 1 ≤ w9.heap.size := by have h1 := B5.lt; have h2 := B6.lt; omega
    clear h3 h4 h6 h7 h9 hB7 hB8 hK7 hK8 hL7 hL8 BR7 hb7
    go_wp2_with (first | ((with_reducible refine here_load (d := some 20) ?_); refine wpList_load_fv rfl _ _ rfl (w3.heap.size) rfl (hi) _ _ _ (B6) (fv_fcs hi) Try.underlying102 rfl (by kernel_rfl) ?_))
    refine (ct _).mono ?_
    rintro e w10 ⟨rfl, hb⟩
    have B5 := Gr.blk hb B5
    have BR := Gr.blk hb BR9
    have hBn := Below.gr hb9 hb
    have hsz10 : w4.heap.size + 1 ≤ w10.heap.size := by have := hb.size; omega
    clear hb hb9 BR9 B6 ct
    go_wp2_with (first | ((with_reducible refine here_store ?_); refine wpList_store_blk rfl _ _ _ rfl (w10.heap.size) (fcs (f)) rfl rfl _ _ (Blk.new w10 _ _) (by kernel_rfl) (by rfl) (fcs_one _) ?_; intro w11 hL11 hB11 hK11; have B5' := hK11 _ (by omega) _ _ (B5.alloc _); have BR' := hK11 _ (by omega) _ _ (BR.alloc _)))
    refine (cm _).mono ?_
    rintro e w12 ⟨rfl, rfl⟩
    go_wp2_with (first | ((with_reducible refine here_load (d := some 29) ?_); refine wpList_load_fv rfl _ _ rfl (w4.heap.size) rfl (lo) _ _ _ (B5') (fv_fcs lo) Try.underlying102 rfl (by kernel_rfl) ?_) | ((with_reducible refine here_load (d := some 30) ?_); refine wpList_load_fv rfl _ _ rfl (w10.heap.size) rfl (f) _ _ _ (hL11) (fv_fcs f) Try.underlying102 rfl (by kernel_rfl) ?_))
    refine (ca _).mono ?_
    rintro e w13 ⟨rfl, hb13⟩
    go_wp2_with fail
    refine (cb _).mono ?_
    rintro e w14 ⟨rfl, hb14⟩
    go_wp2_with fail
    refine (cr _).mono ?_
    rintro e w15 ⟨rfl, hb15⟩
    go_wp2_with fail
    refine (number_any _ _).mono ?_
    rintro e w16 ⟨rfl, hb16⟩
    have BR16 := Gr.blk hb16 (Gr.blk hb15 (Gr.blk hb14 (Gr.blk hb13 BR')))
    have hB16 := Below.gr (Below.gr (Below.gr (Below.gr ((hBn.alloc (by omega) _).trans (hB11 _ (by omega))) hb13) hb14) hb15) hb16
    clear hb13 hb14 hb15 hb16
    go_wp2_with (first | ((with_reducible refine here_store ?_); refine wpList_store_blk rfl _ _ _ rfl (w.heap.size + 2) (fcs (z)) rfl rfl _ _ (BR16) (by kernel_rfl) (by rfl) (fcs_one _) ?_; intro w17 hL17 hB17 hK17))
    exact bodyPost_ret (results_cell_row rfl _ _ (w.heap.size + 2) _ _ (0, 0) _ rfl hL17 Try.underlying24 rfl (by kernel_rfl)) rfl ⟨rfl, hB16.trans (hB17 _ (by omega))⟩
end Go.Proofs.Ytlojidnlkflpnaa
