/-
  fe.Norm, Of, Add.
-/
import Derived.Test.YtlojidnlkflpnaaFeAdd
import Derived.Test.YtlojidnlkflpnaaOrd
import Derived.Test.YtlojidnlkflpnaaFeOrd
namespace Go.Proofs.Ytlojidnlkflpnaa
open Go.RowKit Go.Lib

/-- the sum of words modulo p, not the least one -/
def addW (x y : Nat) : Nat := ((x + y) % 115792089237316195423570985008687907853269984665640564039457584007913129639936 + (x + y) / 115792089237316195423570985008687907853269984665640564039457584007913129639936 * 4294968273) % 115792089237316195423570985008687907853269984665640564039457584007913129639936 + ((x + y) % 115792089237316195423570985008687907853269984665640564039457584007913129639936 + (x + y) / 115792089237316195423570985008687907853269984665640564039457584007913129639936 * 4294968273) / 115792089237316195423570985008687907853269984665640564039457584007913129639936 * 4294968273
theorem addW_lt (x y : Nat) (hx : x < 115792089237316195423570985008687907853269984665640564039457584007913129639936) (hy : y < 115792089237316195423570985008687907853269984665640564039457584007913129639936) : addW x y < 115792089237316195423570985008687907853269984665640564039457584007913129639936 := by unfold addW; omega
theorem addW_is (x y s k u j : Nat) (hs : s < 115792089237316195423570985008687907853269984665640564039457584007913129639936) (he : s + 115792089237316195423570985008687907853269984665640564039457584007913129639936 * k = x + y) (hu : u < 115792089237316195423570985008687907853269984665640564039457584007913129639936) (hf : u + 115792089237316195423570985008687907853269984665640564039457584007913129639936 * j = s + k * 4294968273) : addW x y = u + j * 4294968273 := by
  have e1 : (x + y) % 115792089237316195423570985008687907853269984665640564039457584007913129639936 = s := by omega
  have e2 : (x + y) / 115792089237316195423570985008687907853269984665640564039457584007913129639936 = k := by omega
  unfold addW
  rw [e1, e2]
  have e3 : (s + k * 4294968273) % 115792089237316195423570985008687907853269984665640564039457584007913129639936 = u := by omega
  have e4 : (s + k * 4294968273) / 115792089237316195423570985008687907853269984665640564039457584007913129639936 = j := by omega
  rw [e3, e4]
theorem addW_mod (x y : Nat) : addW x y % pM = (x + y) % pM := by
  refine mod_of_mult (k := (x + y) / 115792089237316195423570985008687907853269984665640564039457584007913129639936 + ((x + y) % 115792089237316195423570985008687907853269984665640564039457584007913129639936 + (x + y) / 115792089237316195423570985008687907853269984665640564039457584007913129639936 * 4294968273) / 115792089237316195423570985008687907853269984665640564039457584007913129639936) ?_
  unfold addW
  omega

theorem add_def (w : World) (x y : Nat) (hx : x < 115792089237316195423570985008687907853269984665640564039457584007913129639936) (hy : y < 115792089237316195423570985008687907853269984665640564039457584007913129639936) : Calls Try.prog 82 #[fv x, fv y] w fun e w' => e = .returned (fv (addW x y)) ∧ Below w.heap.size w w' :=
  (add_any w x y hx hy).mono fun _ _ ⟨⟨_, s, k, u, j, hs, he, hu, hf, hz, e⟩, hb⟩ => ⟨by rw [e, hz, addW_is x y s k u j hs he hu hf], hb⟩

theorem norm_any (w : World) (x : Nat) (hx : x < 115792089237316195423570985008687907853269984665640564039457584007913129639936) : Calls Try.prog 38 #[fv x] w fun e w' => e = .returned (fv (x % pM)) ∧ Below w.heap.size w w' := by
  obtain ⟨x0, x1, x2, x3, fx⟩ := words_fv x hx
  have FX := Lib.hid fx
  have HX := Lib.hid hx
  rw [fx]
  clear fx hx
  go_enter Try.func38, Try.ntmps38
  go_wp2_with fail
  refine (split_at x FX.out _).mono ?_
  rintro e w1 ⟨rfl, hb1⟩
  go_wp2_with fail
  refine (reduce_any _ x HX.out).mono ?_
  rintro e w2 ⟨rfl, hb2⟩
  go_wp2_with fail
  refine (number_any _ _).mono ?_
  rintro e w3 ⟨rfl, hb3⟩
  have hg := Below.gr (Below.gr (Below.gr (w := w) (below_alloc2 w _ _) hb1) hb2) hb3
  have hR : Blk w3 (w.heap.size + 1) 24 _ := Gr.blk hb3 (Gr.blk hb2 (Gr.blk hb1 (blk_new2 w _ _ _)))
  go_wp2_with (first | ((with_reducible refine here_store ?_); refine wpList_store_blk rfl _ _ _ rfl (w.heap.size + 1) (fcs (x % pM)) rfl rfl _ _ (hR) (by kernel_rfl) (by rfl) (fcs_one _) ?_; intro w4 hL hB4 hK4))
  exact bodyPost_ret (results_cell_row rfl _ _ (w.heap.size + 1) _ _ (0, 0) _ rfl hL Try.underlying24 rfl (by kernel_rfl)) rfl ⟨rfl, hg.trans (hB4 _ (by omega))⟩

theorem of_any (w : World) (n : Nat) (hn : n < 18446744073709551616) : Calls Try.prog 84 #[.int .u64 (n : Int)] w fun e w' => e = .returned (fv n) ∧ Below w.heap.size w w' := by
  have e : fv n = .agg #[.int .u64 (n : Int), .int .u64 0, .int .u64 0, .int .u64 0] := by
    have h := fv_mk n 0 0 0 hn (by omega) (by omega) (by omega)
    exact h.symm
  rw [e]
  go_enter Try.func84, Try.ntmps84
  go_wp2
  exact bodyPost_ret (results_cell_row rfl _ _ w.heap.size _ _ (0, 0) _ rfl (heap_alloc_new w _) Try.underlying24 rfl (by kernel_rfl)) rfl ⟨rfl, (Below.refl _ _).alloc (Nat.le_refl _) _⟩

set_option maxHeartbeats 1000000 in
set_option maxRecDepth 100000 in
theorem addF_any (w : World) (x y : Nat) (hx : x < 115792089237316195423570985008687907853269984665640564039457584007913129639936) (hy : y < 115792089237316195423570985008687907853269984665640564039457584007913129639936) : Calls Try.prog 83 #[fv x, fv y] w fun e w' => e = .returned (fv (addP x y)) ∧ Below w.heap.size w w' := by
  obtain ⟨v, hv⟩ : ∃ v, v = addW x y := ⟨_, rfl⟩
  obtain ⟨z, hz⟩ : ∃ z, z = v % pM := ⟨_, rfl⟩
  have HZ := Lib.hid (And.intro hv hz)
  have hlt := Lib.hid (hv ▸ addW_lt x y hx hy : v < 115792089237316195423570985008687907853269984665640564039457584007913129639936)
  rw [show addP x y = z by rw [hz, hv, addW_mod]; rfl]
  clear hz hv
  have HX := Lib.hid hx
  have HY := Lib.hid hy
  obtain ⟨x0, x1, x2, x3, fx⟩ := words_fv x hx
  obtain ⟨y0, y1, y2, y3, fy⟩ := words_fv y hy
  have FX := Lib.hid fx
  have FY := Lib.hid fy
  rw [fx, fy]
  clear fx fy hx hy
  go_enter Try.func83, Try.ntmps83
  go_wp2
  refine wp_region_G (fun j => j == 7) (by kernel_rfl) ?_
  try simp only [Act.put]
  refine wpAnyG_take 0 rfl (by kernel_rfl) (fun _ _ _ h => h) (YieldsG.loadF (by rfl) _ _ rfl (w.heap.size) rfl (x) _ _ (((Blk.new w _ _).alloc _).alloc _) (FX.out) Try.underlying24 rfl (by kernel_rfl)) ?_
  try simp only [Act.put, List.setIfInBounds_toArray, List.set_cons_zero, List.set_cons_succ]
  refine wpAnyG_take 1 rfl (by kernel_rfl) (fun _ _ _ h => h) (YieldsG.call (v := fv x) (by rfl) 78 _ (fun w9 => by go_simp; try (first | with_reducible rfl | rfl)) (fun w9 h9 => split_any w9 x)) ?_
  try simp only [Act.put, List.setIfInBounds_toArray, List.set_cons_zero, List.set_cons_succ]
  refine wpAnyG_take 2 rfl (by kernel_rfl) (fun _ _ _ h => h) (YieldsG.loadF (by rfl) _ _ rfl (w.heap.size + 1) rfl (y) _ _ ((blk_new2 w _ _ _).alloc _) (FY.out) Try.underlying24 rfl (by kernel_rfl)) ?_
  try simp only [Act.put, List.setIfInBounds_toArray, List.set_cons_zero, List.set_cons_succ]
  refine wpAnyG_take 3 rfl (by kernel_rfl) (fun _ _ _ h => h) (YieldsG.call (v := fv y) (by rfl) 78 _ (fun w9 => by go_simp; try (first | with_reducible rfl | rfl)) (fun w9 h9 => split_any w9 y)) ?_
  try simp only [Act.put, List.setIfInBounds_toArray, List.set_cons_zero, List.set_cons_succ]
  refine wpAnyG_take 4 rfl (by kernel_rfl) (fun _ _ _ h => h) (YieldsG.call (v := fv v) (by rfl) 82 _ (fun w9 => by go_simp; try (first | with_reducible rfl | rfl)) (fun w9 h9 => HZ.out.1 ▸ add_def w9 x y HX.out HY.out)) ?_
  try simp only [Act.put, List.setIfInBounds_toArray, List.set_cons_zero, List.set_cons_succ]
  refine wpAnyG_take 5 rfl (by kernel_rfl) (fun _ _ _ h => h) (YieldsG.call (v := fv z) (by rfl) 77 _ (fun w9 => by go_simp; try (first | with_reducible rfl | rfl)) (fun w9 h9 => HZ.out.2 ▸ reduce_any w9 _ hlt.out)) ?_
  try simp only [Act.put, List.setIfInBounds_toArray, List.set_cons_zero, List.set_cons_succ]
  refine wpAnyG_take 6 rfl (by kernel_rfl) (fun _ _ _ h => h) (YieldsG.call (v := fv z) (by rfl) 76 _ (fun w9 => by go_simp; try (first | with_reducible rfl | rfl)) (fun w9 h9 => number_any w9 _)) ?_
  try simp only [Act.put, List.setIfInBounds_toArray, List.set_cons_zero, List.set_cons_succ]
  refine wpAnyG_store 7 rfl (by kernel_rfl) (by rfl) _ _ _ rfl (w.heap.size + 2) (fcs (z)) rfl rfl _ _ (blk_new3 w _ _ _ _) (by kernel_rfl) (by rfl) (fcs_one _) rfl (fun w6 h6 w7 hB7 hL7 => ?_)
  try simp only [Act.put]
  refine wpAnyG_done (by kernel_rfl) (fun w8 h8 => ?_)
  have hfin := Gr.blk h8 hL7
  have hb9 := (Below.gr (below_alloc3 w _ _ _) h6).trans ((hB7 _ (by omega)).trans (Below.mono h8 (by have := hL7.lt; omega)))
  go_wp2
  exact bodyPost_ret (results_cell_row rfl _ _ (w.heap.size + 2) _ _ (0, 0) _ rfl hfin Try.underlying24 rfl (by kernel_rfl)) rfl ⟨rfl, hb9⟩
end Go.Proofs.Ytlojidnlkflpnaa
