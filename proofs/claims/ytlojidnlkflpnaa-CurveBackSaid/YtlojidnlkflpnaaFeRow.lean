/-
  fe.row, fe.product.
-/
import Derived.Test.YtlojidnlkflpnaaFeMul
namespace Go.Proofs.Ytlojidnlkflpnaa
open Go.RowKit Go.Lib

theorem fcs_words {n : Nat} {a b c d : Int} (h : fv n = .agg #[.int .u64 a, .int .u64 b, .int .u64 c, .int .u64 d]) : fcs n = #[.int .u64 a, .int .u64 b, .int .u64 c, .int .u64 d] := by
  rw [fv_fcs] at h
  injection h

set_option maxHeartbeats 1000000 in
set_option maxRecDepth 100000 in
theorem row_at {v1 v3 : Value} (w : World) (x m c lo hi : Nat) (h1 : fv x = v1) (h3 : fv c = v3) (hx : x < 115792089237316195423570985008687907853269984665640564039457584007913129639936) (hm : m < 18446744073709551616) (hc : c < 115792089237316195423570985008687907853269984665640564039457584007913129639936) (hlo : lo < 18446744073709551616) (he : lo + 18446744073709551616 * hi = x * m + c) :
    Calls Try.prog 106 #[v1, .int .u64 (m : Int), v3] w fun e w' => e = .returned (.tuple #[.int .u64 (lo : Int), fv hi]) ∧ Below w.heap.size w w' := by
  subst h1 h3
  obtain ⟨x0, x1, x2, x3, fx⟩ := words_fv x hx
  obtain ⟨c0, c1, c2, c3, fc⟩ := words_fv c hc
  obtain ⟨s, t, hs, hst, ht⟩ : ∃ s t : Nat, s < 115792089237316195423570985008687907853269984665640564039457584007913129639936 ∧ s + 115792089237316195423570985008687907853269984665640564039457584007913129639936 * t = x * m ∧ t + 1 < 18446744073709551616 := by
    have h : x * m ≤ 115792089237316195423570985008687907853269984665640564039457584007913129639935 * 18446744073709551615 := Nat.mul_le_mul (by omega) (by omega)
    exact ⟨x * m % 115792089237316195423570985008687907853269984665640564039457584007913129639936, x * m / 115792089237316195423570985008687907853269984665640564039457584007913129639936, by omega, by omega, by omega⟩
  obtain ⟨u, k, hu, hk, huk⟩ : ∃ u k : Nat, u < 115792089237316195423570985008687907853269984665640564039457584007913129639936 ∧ k ≤ 1 ∧ u + 115792089237316195423570985008687907853269984665640564039457584007913129639936 * k = s + c := ⟨(s + c) % 115792089237316195423570985008687907853269984665640564039457584007913129639936, (s + c) / 115792089237316195423570985008687907853269984665640564039457584007913129639936, by omega, by omega, by omega⟩
  obtain ⟨u0, u1, u2, u3, d0, d1, d2, d3, eu, fu⟩ := words_of u hu
  obtain ⟨t1, ht1⟩ : ∃ t1, t1 = t + k := ⟨_, rfl⟩
  obtain rfl : u0 = lo := by omega
  have hhi : u1 + 18446744073709551616 * u2 + 340282366920938463463374607431768211456 * u3 + 6277101735386680763835789423207666416102355444464034512896 * t1 = hi := by omega
  have fh := fv_mk u1 u2 u3 t1 d1 d2 d3 (by omega)
  rw [hhi] at fh
  have ct := fun w => times_at (v := fv x) w x m s t rfl hx hm hs hst
  have cp := fun w => plus_at (v1 := fv s) (v2 := fv c) w s c u k rfl rfl hs hc hu huk
  have hadd : (t : Int) + (k : Int) = (t1 : Int) := by omega
  have ht1' : t1 < 18446744073709551616 := by omega
  have FX := Lib.hid fx
  have FC := Lib.hid fc
  have FU := Lib.hid fu
  have FH := Lib.hid fh
  have ct' : ∀ w, Calls Try.prog 80 #[.agg #[.int .u64 x0, .int .u64 x1, .int .u64 x2, .int .u64 x3], .int .u64 (m : Int)] w fun e w' => e = .returned (.tuple #[fv s, .int .u64 (t : Int)]) ∧ Below w.heap.size w w' := by
    intro w; rw [← fx]; exact ct w
  rw [fx, fc]
  clear fx fc fu fh hx hc hm hs hst ht hu hk huk d0 d1 d2 d3 eu ht1 hhi he ct hlo
  go_enter Try.func106, Try.ntmps106
  go_wp2_with fail
  refine (ct' _).mono ?_
  rintro e w1 ⟨rfl, hb⟩
  have BC : Blk w1 (w.heap.size + 1) 102 _ := Gr.blk hb (Blk.alloc (blk_new2 w _ _ _) _)
  have BR : Blk w1 (w.heap.size + 2) 102 _ := Gr.blk hb (blk_new3 w _ _ _ _)
  have hB : Below w.heap.size w w1 := Below.gr (below_alloc3 w _ _ _) hb
  have hsz : w.heap.size + 3 ≤ w1.heap.size := by have := hb.size; simp at this; omega
  clear hb ct'
  go_wp2_with (first | ((with_reducible refine here_store ?_); refine wpList_store_blk rfl _ _ _ rfl (w1.heap.size) (fcs (s)) rfl rfl _ _ (Blk.new w1 _ _) (by kernel_rfl) (by rfl) (fcs_one _) ?_; intro w2 hL2 hB2 hK2; have BR' := hK2 _ (by omega) _ _ (BR.alloc _); have BC' := hK2 _ (by omega) _ _ (BC.alloc _)) | ((with_reducible refine here_load (d := some 18) ?_); refine wpList_load_fv rfl _ _ rfl (w1.heap.size) rfl (s) _ _ _ (hL2) (fv_fcs s) Try.underlying102 rfl (by kernel_rfl) ?_) | ((with_reducible refine here_load (d := some 19) ?_); refine wpList_load_fv rfl _ _ rfl (w.heap.size + 1) rfl (c) _ _ _ (BC') (FC.out) Try.underlying102 rfl (by kernel_rfl) ?_))
  have BR2 := BR'
  have BC2 := BC'
  refine (cp _).mono ?_
  rintro e w3 ⟨rfl, hb⟩
  have BR3 : Blk w3 (w.heap.size + 2) 102 _ := Gr.blk hb BR2
  have BT3 : Blk w3 w1.heap.size 102 _ := Gr.blk hb hL2
  have hB3 : Below w.heap.size w w3 := Below.gr ((hB.alloc (by omega) _).trans (hB2 _ (by omega))) hb
  clear hb cp
  go_wp2_with (first | ((with_reducible refine here_store ?_); refine wpList_store_blk rfl _ _ _ rfl (w1.heap.size) (fcs (u)) rfl rfl _ _ (BT3) (by kernel_rfl) (by rfl) (fcs_one _) ?_; intro w5 hL5 hB5 hK5; have BR5 := hK5 _ (by omega) _ _ BR3))
  have BT5 : Blk w5 w1.heap.size 102 _ := hL5.eq_ (fcs_words FU.out)
  have lT := BT5.lt
  have q0 : w5.cell? ⟨w1.heap.size, 0, none⟩ = some (.int .u64 (u0 : Int)) := BT5.cell 0
  have q1 : w5.cell? ⟨w1.heap.size, 1, none⟩ = some (.int .u64 (u1 : Int)) := BT5.cell 1
  have q2 : w5.cell? ⟨w1.heap.size, 2, none⟩ = some (.int .u64 (u2 : Int)) := BT5.cell 2
  have q3 : w5.cell? ⟨w1.heap.size, 3, none⟩ = some (.int .u64 (u3 : Int)) := BT5.cell 3
  have hw1 := M64.wrapN t1 ht1'
  refine wp_region_G (fun j => j == 13) (by kernel_rfl) ?_
  try simp only [Act.put]
  refine wpAnyG_take 0 rfl (by kernel_rfl) (fun _ _ _ h => h) (YieldsG.pure (by rfl) (fun w9 _ => by go_simp; try with_reducible rfl)) ?_
  try simp only [Act.put, List.setIfInBounds_toArray, List.set_cons_zero, List.set_cons_succ]
  refine wpAnyG_take 1 rfl (by kernel_rfl) (fun _ _ _ h => h) (YieldsG.pure (v := .int .u64 (u0 : Int)) (by rfl) (fun w9 h9 => by have hz := (Below.cell (p := ⟨w1.heap.size, 0, none⟩) h9 lT).trans q0; go_simp; first | done | simp [hz])) ?_
  try simp only [Act.put, List.setIfInBounds_toArray, List.set_cons_zero, List.set_cons_succ]
  refine wpAnyG_take 2 rfl (by kernel_rfl) (fun _ _ _ h => h) (YieldsG.pure (by rfl) (fun w9 _ => by go_simp; try with_reducible rfl)) ?_
  try simp only [Act.put, List.setIfInBounds_toArray, List.set_cons_zero, List.set_cons_succ]
  refine wpAnyG_take 3 rfl (by kernel_rfl) (fun _ _ _ h => h) (YieldsG.pure (v := .int .u64 (u1 : Int)) (by rfl) (fun w9 h9 => by have hz := (Below.cell (p := ⟨w1.heap.size, 1, none⟩) h9 lT).trans q1; go_simp; first | done | simp [hz])) ?_
  try simp only [Act.put, List.setIfInBounds_toArray, List.set_cons_zero, List.set_cons_succ]
  refine wpAnyG_take 4 rfl (by kernel_rfl) (fun _ _ _ h => h) (YieldsG.pure (by rfl) (fun w9 _ => by go_simp; try with_reducible rfl)) ?_
  try simp only [Act.put, List.setIfInBounds_toArray, List.set_cons_zero, List.set_cons_succ]
  refine wpAnyG_take 5 rfl (by kernel_rfl) (fun _ _ _ h => h) (YieldsG.pure (v := .int .u64 (u2 : Int)) (by rfl) (fun w9 h9 => by have hz := (Below.cell (p := ⟨w1.heap.size, 2, none⟩) h9 lT).trans q2; go_simp; first | done | simp [hz])) ?_
  try simp only [Act.put, List.setIfInBounds_toArray, List.set_cons_zero, List.set_cons_succ]
  refine wpAnyG_take 6 rfl (by kernel_rfl) (fun _ _ _ h => h) (YieldsG.pure (by rfl) (fun w9 _ => by go_simp; try with_reducible rfl)) ?_
  try simp only [Act.put, List.setIfInBounds_toArray, List.set_cons_zero, List.set_cons_succ]
  refine wpAnyG_take 7 rfl (by kernel_rfl) (fun _ _ _ h => h) (YieldsG.pure (v := .int .u64 (u3 : Int)) (by rfl) (fun w9 h9 => by have hz := (Below.cell (p := ⟨w1.heap.size, 3, none⟩) h9 lT).trans q3; go_simp; first | done | simp [hz])) ?_
  try simp only [Act.put, List.setIfInBounds_toArray, List.set_cons_zero, List.set_cons_succ]
  refine wpAnyG_take 8 rfl (by kernel_rfl) (fun _ _ _ h => h) (YieldsG.pure (by rfl) (fun w9 _ => by go_simp; try with_reducible rfl)) ?_
  try simp only [Act.put, List.setIfInBounds_toArray, List.set_cons_zero, List.set_cons_succ]
  refine wpAnyG_take 9 rfl (by kernel_rfl) (fun _ _ _ h => h) (YieldsG.pure (by rfl) (fun w9 _ => by go_simp; try with_reducible rfl)) ?_
  try simp only [Act.put, List.setIfInBounds_toArray, List.set_cons_zero, List.set_cons_succ]
  refine wpAnyG_take 10 rfl (by kernel_rfl) (fun _ _ _ h => h) (YieldsG.pure (v := .int .u64 (t1 : Int)) (by rfl) (fun w9 h9 => by go_simp; first | done | simp [hw1])) ?_
  try simp only [Act.put, List.setIfInBounds_toArray, List.set_cons_zero, List.set_cons_succ]
  refine wpAnyG_take 11 rfl (by kernel_rfl) (fun _ _ _ h => h) (YieldsG.pure (by rfl) (fun w9 _ => by go_simp; try with_reducible rfl)) ?_
  try simp only [Act.put, List.setIfInBounds_toArray, List.set_cons_zero, List.set_cons_succ]
  refine wpAnyG_take 12 rfl (by kernel_rfl) (fun _ _ _ h => h) (YieldsG.pure (by rfl) (fun w9 _ => by go_simp; try with_reducible rfl)) ?_
  try simp only [Act.put, List.setIfInBounds_toArray, List.set_cons_zero, List.set_cons_succ]
  refine wpAnyG_store 13 rfl (by kernel_rfl) (by rfl) _ _ _ rfl (w.heap.size + 2) (#[.int .u64 u1, .int .u64 u2, .int .u64 u3, .int .u64 t1]) rfl rfl _ _ (BR5) (by kernel_rfl) (by rfl) (by simp [Value.oneCell']) rfl (fun w6 h6 w7 hB7 hL7 => ?_)
  try simp only [Act.put]
  refine wpAnyG_done (by kernel_rfl) (fun w8 h8 => ?_)
  have hfin := Gr.blk h8 hL7
  have hb9 := (hB3.trans (hB5 _ (by omega))).trans ((Below.mono h6 (by have := hB3.size; have := (hB5 0 (by omega)).size; omega)).trans ((hB7 _ (by omega)).trans (Below.mono h8 (by have := hL7.lt; omega))))
  go_wp2
  exact bodyPost_ret (res_tmp_cell rfl _ _ (w.heap.size + 2) _ _ _ _ rfl hfin rfl Try.underlying102 rfl (by kernel_rfl)) rfl ⟨by rw [FH.out]; rfl, hb9⟩
end Go.Proofs.Ytlojidnlkflpnaa
