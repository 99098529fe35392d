/-
  fe.Read: the number of 32 bytes, the highest first, if it is below p.
-/
import Derived.Test.YtlojidnlkflpnaaFeB32
namespace Go.Proofs.Ytlojidnlkflpnaa
open Go.RowKit Go.Lib

/-- what Read answers -/
def readS (l : List UInt8) : Nat × Bool := if valB l < pM then (valB l, true) else (0, false)

set_option maxHeartbeats 8000000 in
set_option maxRecDepth 100000 in
theorem read_any (w : World) (l : List UInt8) (hl : l.length = 32) : Calls Try.prog 69 #[.agg (l.map bv).toArray] w fun e w' => e = .returned (.tuple #[fv (readS l).1, .bool (readS l).2]) ∧ Below w.heap.size w w' := by
  have HL := Lib.hid hl
  clear hl
  go_enter Try.func69, Try.ntmps69
  go_wp2_with (first | ((with_reducible refine here_load (d := some 7) ?_); refine wpList_load_blk rfl _ _ rfl w.heap.size rfl _ _ _ (((Blk.new w _ _).alloc _).alloc _) Try.underlying52 rfl (b32_info HL.out) ?_))
  go_loopw [8] (fun i wr => ∃ k y0 y1 y2 y3 : Nat, k ≤ 32 ∧ i = .int .i64 (k : Int) ∧ Hid (y0 = wdB l k 0 ∧ y1 = wdB l k 1 ∧ y2 = wdB l k 2 ∧ y3 = wdB l k 3) ∧ Below w.heap.size w wr ∧ Blk wr (w.heap.size + 2) 24 #[.int .u64 (y3 : Int), .int .u64 (y2 : Int), .int .u64 (y1 : Int), .int .u64 (y0 : Int)] ∧ Blk wr (w.heap.size + 1) 24 #[.int .u64 0, .int .u64 0, .int .u64 0, .int .u64 0]) (fun i _ => 32 - (intOf i).toNat)
  case atStart => exact ⟨0, 0, 0, 0, 0, by omega, rfl, Lib.hid ⟨(wdB_zero l 0).symm, (wdB_zero l 1).symm, (wdB_zero l 2).symm, (wdB_zero l 3).symm⟩, below_alloc3 w _ _ _, blk_new3 w _ _ _ _, (blk_new2 w _ _ _).alloc _⟩
  case round =>
    obtain ⟨k, y0, y1, y2, y3, hk, rfl, HY, hb, hP, hR⟩ := hrel
    have q3 : wr.cell? ⟨w.heap.size + 1 + 1, 0, none⟩ = some (.int .u64 (y3 : Int)) := hP.cell 0
    have q2 : wr.cell? ⟨w.heap.size + 1 + 1, 1, none⟩ = some (.int .u64 (y2 : Int)) := hP.cell 1
    have q1 : wr.cell? ⟨w.heap.size + 1 + 1, 2, none⟩ = some (.int .u64 (y1 : Int)) := hP.cell 2
    have q0 : wr.cell? ⟨w.heap.size + 1 + 1, 3, none⟩ = some (.int .u64 (y0 : Int)) := hP.cell 3
    have ff : ∀ j, wr.frozen? ⟨w.heap.size + 1 + 1, j, none⟩ = false := fun j => hP.frozen j
    by_cases hlt : k < 32
    · obtain ⟨c, hc⟩ : ∃ c, l[k]? = some c := ⟨l[k]'(by rw [HL.out]; exact hlt), List.getElem?_eq_getElem _⟩
      have HC := Lib.hid hc
      obtain ⟨m, hm⟩ : ∃ m, m = c.toNat := ⟨_, rfl⟩
      have hm8 : m < 256 := by rw [hm]; exact c.toNat_lt
      have hI : ∀ W, (Instr.index 52 (.agg (l.map bv).toArray) (.int .i64 (k : Int))).run Try.prog W = .ok (.int .u8 (m : Int)) W := fun W => by
        rw [run_index_b32 W l k c hc hlt, hm]; rfl
      have HM := Lib.hid hm
      have HR := Lib.hid (And.intro hb (And.intro hP hR))
      clear hb hP hR hc hk hm
      rcases (show k = 0 ∨ k = 1 ∨ k = 2 ∨ k = 3 ∨ k = 4 ∨ k = 5 ∨ k = 6 ∨ k = 7 ∨ k = 8 ∨ k = 9 ∨ k = 10 ∨ k = 11 ∨ k = 12 ∨ k = 13 ∨ k = 14 ∨ k = 15 ∨ k = 16 ∨ k = 17 ∨ k = 18 ∨ k = 19 ∨ k = 20 ∨ k = 21 ∨ k = 22 ∨ k = 23 ∨ k = 24 ∨ k = 25 ∨ k = 26 ∨ k = 27 ∨ k = 28 ∨ k = 29 ∨ k = 30 ∨ k = 31 by omega) with rfl | rfl | rfl | rfl | rfl | rfl | rfl | rfl | rfl | rfl | rfl | rfl | rfl | rfl | rfl | rfl | rfl | rfl | rfl | rfl | rfl | rfl | rfl | rfl | rfl | rfl | rfl | rfl | rfl | rfl | rfl | rfl
      all_goals
        simp only [Int.cast_ofNat_Int] at hI
      all_goals
        first
        | ((have hy : y0 < 72057594037927936 := by rw [HY.out.1]; exact wdB_lt l _ 0 (by decide)); (have ho := or_add y0 m hy hm8); go_wp2; (refine ⟨⟨_, y0 * 256 + m, y1, y2, y3, by decide, rfl, Lib.hid ⟨by rw [HY.out.1, HM.out]; exact (wdB_step l _ 0 c HC.out (by decide)).symm, by rw [HY.out.2.1]; exact (wdB_same l _ 1 (by decide)).symm, by rw [HY.out.2.2.1]; exact (wdB_same l _ 2 (by decide)).symm, by rw [HY.out.2.2.2]; exact (wdB_same l _ 3 (by decide)).symm⟩, HR.out.1.setCell (by show w.heap.size ≤ w.heap.size + 1 + 1; omega) _, Blk.eq_ (HR.out.2.1.set_ 3 _) (by rw [show ((y0 * 256 + m : Nat) : Int) = (y0 : Int) * 256 + (m : Int) by omega]; rfl), HR.out.2.2.far (by show w.heap.size + 1 ≠ w.heap.size + 1 + 1; omega) _⟩, by simp [intOf]⟩))
        | ((have hy : y1 < 72057594037927936 := by rw [HY.out.2.1]; exact wdB_lt l _ 1 (by decide)); (have ho := or_add y1 m hy hm8); go_wp2; (refine ⟨⟨_, y0, y1 * 256 + m, y2, y3, by decide, rfl, Lib.hid ⟨by rw [HY.out.1]; exact (wdB_same l _ 0 (by decide)).symm, by rw [HY.out.2.1, HM.out]; exact (wdB_step l _ 1 c HC.out (by decide)).symm, by rw [HY.out.2.2.1]; exact (wdB_same l _ 2 (by decide)).symm, by rw [HY.out.2.2.2]; exact (wdB_same l _ 3 (by decide)).symm⟩, HR.out.1.setCell (by show w.heap.size ≤ w.heap.size + 1 + 1; omega) _, Blk.eq_ (HR.out.2.1.set_ 2 _) (by rw [show ((y1 * 256 + m : Nat) : Int) = (y1 : Int) * 256 + (m : Int) by omega]; rfl), HR.out.2.2.far (by show w.heap.size + 1 ≠ w.heap.size + 1 + 1; omega) _⟩, by simp [intOf]⟩))
        | ((have hy : y2 < 72057594037927936 := by rw [HY.out.2.2.1]; exact wdB_lt l _ 2 (by decide)); (have ho := or_add y2 m hy hm8); go_wp2; (refine ⟨⟨_, y0, y1, y2 * 256 + m, y3, by decide, rfl, Lib.hid ⟨by rw [HY.out.1]; exact (wdB_same l _ 0 (by decide)).symm, by rw [HY.out.2.1]; exact (wdB_same l _ 1 (by decide)).symm, by rw [HY.out.2.2.1, HM.out]; exact (wdB_step l _ 2 c HC.out (by decide)).symm, by rw [HY.out.2.2.2]; exact (wdB_same l _ 3 (by decide)).symm⟩, HR.out.1.setCell (by show w.heap.size ≤ w.heap.size + 1 + 1; omega) _, Blk.eq_ (HR.out.2.1.set_ 1 _) (by rw [show ((y2 * 256 + m : Nat) : Int) = (y2 : Int) * 256 + (m : Int) by omega]; rfl), HR.out.2.2.far (by show w.heap.size + 1 ≠ w.heap.size + 1 + 1; omega) _⟩, by simp [intOf]⟩))
        | ((have hy : y3 < 72057594037927936 := by rw [HY.out.2.2.2]; exact wdB_lt l _ 3 (by decide)); (have ho := or_add y3 m hy hm8); go_wp2; (refine ⟨⟨_, y0, y1, y2, y3 * 256 + m, by decide, rfl, Lib.hid ⟨by rw [HY.out.1]; exact (wdB_same l _ 0 (by decide)).symm, by rw [HY.out.2.1]; exact (wdB_same l _ 1 (by decide)).symm, by rw [HY.out.2.2.1]; exact (wdB_same l _ 2 (by decide)).symm, by rw [HY.out.2.2.2, HM.out]; exact (wdB_step l _ 3 c HC.out (by decide)).symm⟩, HR.out.1.setCell (by show w.heap.size ≤ w.heap.size + 1 + 1; omega) _, Blk.eq_ (HR.out.2.1.set_ 0 _) (by rw [show ((y3 * 256 + m : Nat) : Int) = (y3 : Int) * 256 + (m : Int) by omega]; rfl), HR.out.2.2.far (by show w.heap.size + 1 ≠ w.heap.size + 1 + 1; omega) _⟩, by simp [intOf]⟩))
    · have p1 : ¬ (k : Int) < 32 := by omega
      obtain rfl : k = 32 := by omega
      have b0 : y0 < 18446744073709551616 := by rw [HY.out.1]; exact wdB_lt8 l _ _
      have b1 : y1 < 18446744073709551616 := by rw [HY.out.2.1]; exact wdB_lt8 l _ _
      have b2 : y2 < 18446744073709551616 := by rw [HY.out.2.2.1]; exact wdB_lt8 l _ _
      have b3 : y3 < 18446744073709551616 := by rw [HY.out.2.2.2]; exact wdB_lt8 l _ _
      obtain ⟨z, hz⟩ : ∃ z, z = y3 + 18446744073709551616 * y2 + 340282366920938463463374607431768211456 * y1 + 6277101735386680763835789423207666416102355444464034512896 * y0 := ⟨_, rfl⟩
      have fz := fv_mk y3 y2 y1 y0 b3 b2 b1 b0
      rw [← hz] at fz
      have hzl : z < 115792089237316195423570985008687907853269984665640564039457584007913129639936 := by rw [hz]; exact fv_lt y3 y2 y1 y0 b3 b2 b1 b0
      have hzv : z = valB l := by rw [wdB_all l HL.out, hz, HY.out.1, HY.out.2.1, HY.out.2.2.1, HY.out.2.2.2]
      obtain ⟨n, hn⟩ : ∃ n, n = z % pM := ⟨_, rfl⟩
      have hnl : n < 115792089237316195423570985008687907853269984665640564039457584007913129639936 := by rw [hn]; exact mod_lt z
      obtain ⟨b, hbd⟩ : ∃ b, b = decide (n ≠ z) := ⟨_, rfl⟩
      have eb : ∀ W, (binOp .neq 24 (fv n) (fv z)).run Try.prog W = .ok (.bool b) W := fun W => by rw [hbd]; exact run_neq_fv W n z hnl hzl
      have cn : ∀ w, Calls Try.prog 38 #[fv z] w fun e w' => e = .returned (fv n) ∧ Below w.heap.size w w' := by
        intro w; rw [hn]; exact norm_any w z hzl
      have hS : readS l = if b = true then (0, false) else (z, true) := by
        unfold readS
        rw [← hzv, hbd, hn]
        by_cases h : z < pM
        · rw [if_pos h, Nat.mod_eq_of_lt h]; simp
        · have h2 : z % pM ≠ z := fun e => h (by rw [← e]; exact mod_lt_p z)
          rw [if_neg h]; simp [h2]
      have HS := Lib.hid hS
      have FZ := Lib.hid fz.symm
      have HP := Lib.hid hP
      clear HY b0 b1 b2 b3 hz fz hzl hzv hn hnl hbd hS q0 q1 q2 q3 ff hP
      go_wp2
      refine wp_region_G (fun _ => false) (by kernel_rfl) ?_
      try simp only [Act.put]
      refine wpAnyG_take 0 rfl (by kernel_rfl) (fun _ _ _ h => h) (YieldsG.loadF (by rfl) _ _ rfl (w.heap.size + 2) rfl (z) _ _ (HP.out) (FZ.out) Try.underlying24 rfl (by kernel_rfl)) ?_
      try simp only [Act.put, List.setIfInBounds_toArray, List.set_cons_zero, List.set_cons_succ]
      refine wpAnyG_take 1 rfl (by kernel_rfl) (fun _ _ _ h => h) (YieldsG.call (v := fv n) (by rfl) 38 _ (fun w9 => by go_simp; try (first | with_reducible rfl | rfl)) (fun w9 h9 => cn w9)) ?_
      try simp only [Act.put, List.setIfInBounds_toArray, List.set_cons_zero, List.set_cons_succ]
      refine wpAnyG_take 2 rfl (by kernel_rfl) (fun _ _ _ h => h) (YieldsG.loadF (by rfl) _ _ rfl (w.heap.size + 2) rfl (z) _ _ (HP.out) (FZ.out) Try.underlying24 rfl (by kernel_rfl)) ?_
      try simp only [Act.put, List.setIfInBounds_toArray, List.set_cons_zero, List.set_cons_succ]
      refine wpAnyG_take 3 rfl (by kernel_rfl) (fun _ _ _ h => h) (YieldsG.pure (v := .bool b) (by rfl) (fun w9 h9 => by go_simp; rw [run_eqGuard_fv]; simp only [Result.andThen_ok, eb])) ?_
      try simp only [Act.put, List.setIfInBounds_toArray, List.set_cons_zero, List.set_cons_succ]
      refine wpAnyG_done (by kernel_rfl) (fun u hu => ?_)
      have hbu := Below.gr hb hu
      have BR := Gr.blk hu hR
      have BP := Gr.blk hu HP.out
      clear hu hb hR HP eb cn
      cases b
      · have HT : Hid (readS l = (z, true)) := Lib.hid (by rw [HS.out]; rfl)
        clear HS
        go_wp2_with (first | ((with_reducible refine here_load (d := some 31) ?_); refine wpList_load_fv rfl _ _ rfl (w.heap.size + 2) rfl (z) _ _ _ (BP) (FZ.out) Try.underlying24 rfl (by kernel_rfl) ?_) | ((with_reducible refine here_store ?_); refine wpList_store_blk rfl _ _ _ rfl (w.heap.size + 1) (fcs (z)) rfl rfl _ _ (BR) (by kernel_rfl) (by rfl) (fcs_one _) ?_; intro vz hLz hqz hKz))
        exact bodyPost_ret (res_cell_tmp rfl _ _ (w.heap.size + 1) _ _ _ _ rfl hLz rfl Try.underlying24 rfl (by kernel_rfl)) rfl ⟨by rw [HT.out]; rfl, hbu.trans (hqz _ (by omega))⟩
      · have HT : Hid (readS l = (0, false)) := Lib.hid (by rw [HS.out]; rfl)
        clear HS
        go_wp2_with (first | ((with_reducible refine here_store ?_); refine wpList_store_blk rfl _ _ _ rfl (w.heap.size + 1) _ rfl rfl _ _ (BR) (by kernel_rfl) (by rfl) (by simp [Value.oneCell']) ?_; intro vz hLz hqz hKz))
        exact bodyPost_ret (res_cell_tmp rfl _ _ (w.heap.size + 1) _ _ _ _ rfl hLz rfl Try.underlying24 rfl (by kernel_rfl)) rfl ⟨by rw [HT.out]; rfl, hbu.trans (hqz _ (by omega))⟩
end Go.Proofs.Ytlojidnlkflpnaa
