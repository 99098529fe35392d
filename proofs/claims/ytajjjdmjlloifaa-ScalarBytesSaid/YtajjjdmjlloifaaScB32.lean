/-
  scalar.Bytes, words, Read, Reduce.
-/
import Derived.Test.YtajjjdmjlloifaaNumB
import Derived.Test.YtajjjdmjlloifaaScOps
import Derived.Test.YtajjjdmjlloifaaScEq
namespace Go.Proofs.Ytajjjdmjlloifaa.Sc
open Go.RowKit Go.Lib

set_option maxHeartbeats 8000000 in
set_option maxRecDepth 100000 in
theorem bytes_any (w : World) (x : Nat) (hx : x < 115792089237316195423570985008687907853269984665640564039457584007913129639936) : Calls Try.prog 38 #[fv x] w fun e w' => e = .returned (.agg ((bytesS (x % pM)).map bv).toArray) ∧ Below w.heap.size w w' := by
  obtain ⟨z, hz⟩ : ∃ z, z = x % pM := ⟨_, rfl⟩
  have hzl : z < 115792089237316195423570985008687907853269984665640564039457584007913129639936 := by rw [hz]; exact mod_lt x
  have cn : ∀ w, Calls Try.prog 22 #[fv x] w fun e w' => e = .returned (fv z) ∧ Below w.heap.size w w' := by
    intro w; rw [hz]; exact norm_any w x hx
  rw [← hz]
  obtain ⟨z0, z1, z2, z3, a0, a1, a2, a3, ez, fz⟩ := words_of z hzl
  have HZ := Lib.hid (And.intro a0 (And.intro a1 (And.intro a2 (And.intro a3 ez))))
  have FZ := Lib.hid fz
  obtain ⟨x0, x1, x2, x3, fx⟩ := words_fv x hx
  rw [fx] at cn ⊢
  clear fx fz hz hzl a0 a1 a2 a3 ez hx
  have hZB : Hid ((List.replicate 32 (Value.int .u8 0)).toArray = ((partB z 0).map bv).toArray) := Lib.hid (by simp [partB, lowB, bv])
  go_enter Try.func38, Try.ntmps38
  go_wp2_with fail
  refine (cn _).mono ?_
  rintro e w1 ⟨rfl, hb⟩
  have BR : Blk w1 (w.heap.size + 1) 53 _ := Gr.blk hb (Blk.alloc (blk_new2 w _ _ _) _)
  have BB : Blk w1 (w.heap.size + 2) 53 ((partB z 0).map bv).toArray := Blk.eq_ (Gr.blk hb (blk_new3 w _ _ _ _)) hZB.out
  have hB := Below.gr (below_alloc3 w _ _ _) hb
  have sz := BB.lt
  clear hb cn
  go_wp2_with (first | ((with_reducible refine here_store ?_); refine wpList_store_blk rfl _ _ _ rfl (w1.heap.size) (fcs (z)) rfl rfl _ _ (Blk.new w1 _ _) (by kernel_rfl) (by rfl) (fcs_one _) ?_; intro w2 hL2 hB2 hK2; have CR := hK2 _ (by omega) _ _ (BR.alloc _); have CB := hK2 _ (by omega) _ _ (BB.alloc _); have hC := (hB.alloc (by omega) _).trans (hB2 _ (by omega))))
  go_loopw [8] (fun i wr => ∃ k : Nat, k ≤ 32 ∧ i = .int .i64 (k : Int) ∧ Below w.heap.size w wr ∧ Blk wr (w.heap.size + 2) 53 ((partB z k).map bv).toArray ∧ Blk wr w1.heap.size 36 #[.int .u64 (z0 : Int), .int .u64 (z1 : Int), .int .u64 (z2 : Int), .int .u64 (z3 : Int)] ∧ Blk wr (w.heap.size + 1) 53 (List.replicate 32 (Value.int .u8 0)).toArray) (fun i _ => 32 - (intOf i).toNat)
  case atStart => exact ⟨0, by omega, rfl, hC, CB, hL2.eq_ (fcs_words FZ.out), CR⟩
  case round =>
    obtain ⟨k, hk, rfl, hb, hP, hN, hR⟩ := hrel
    by_cases hlt : k < 32
    · have ce : ∀ j, j < 32 → ∃ v, wr.cell? ⟨w.heap.size + 1 + 1, j, none⟩ = some v := fun j hj => ⟨_, (hP.cell j).trans (Array.getElem?_eq_getElem (by simp [partB_length z k hk]; exact hj))⟩
      obtain ⟨v, hv⟩ := ce (31 - k) (by omega)
      have ff := hP.frozen (31 - k)
      have q0 : wr.cell? ⟨w1.heap.size, 0, none⟩ = some (.int .u64 (z0 : Int)) := hN.cell 0
      have q1 : wr.cell? ⟨w1.heap.size, 1, none⟩ = some (.int .u64 (z1 : Int)) := hN.cell 1
      have q2 : wr.cell? ⟨w1.heap.size, 2, none⟩ = some (.int .u64 (z2 : Int)) := hN.cell 2
      have q3 : wr.cell? ⟨w1.heap.size, 3, none⟩ = some (.int .u64 (z3 : Int)) := hN.cell 3
      have hPn := hP.set_ (31 - k) (bv (byteN z k))
      rw [partB_set z k hlt] at hPn
      have HP := Lib.hid hPn
      clear hPn ce
      have HR := Lib.hid (And.intro hb (And.intro hN hR))
      clear hb hP hN hR hk
      have hsz : w.heap.size + 2 < w1.heap.size := sz
      rcases (show k = 0 ∨ k = 1 ∨ k = 2 ∨ k = 3 ∨ k = 4 ∨ k = 5 ∨ k = 6 ∨ k = 7 ∨ k = 8 ∨ k = 9 ∨ k = 10 ∨ k = 11 ∨ k = 12 ∨ k = 13 ∨ k = 14 ∨ k = 15 ∨ k = 16 ∨ k = 17 ∨ k = 18 ∨ k = 19 ∨ k = 20 ∨ k = 21 ∨ k = 22 ∨ k = 23 ∨ k = 24 ∨ k = 25 ∨ k = 26 ∨ k = 27 ∨ k = 28 ∨ k = 29 ∨ k = 30 ∨ k = 31 by omega) with rfl | rfl | rfl | rfl | rfl | rfl | rfl | rfl | rfl | rfl | rfl | rfl | rfl | rfl | rfl | rfl | rfl | rfl | rfl | rfl | rfl | rfl | rfl | rfl | rfl | rfl | rfl | rfl | rfl | rfl | rfl | rfl
      all_goals
        go_wp2
        obtain ⟨a0, a1, a2, a3, ez⟩ := HZ.out
        refine ⟨⟨_, by decide, rfl, HR.out.1.setCell (by show w.heap.size ≤ w.heap.size + 1 + 1; omega) _, HP.out.val (by rw [bv_byteN]; congr 1; omega), HR.out.2.1.far (by show w1.heap.size ≠ w.heap.size + 1 + 1; omega) _, HR.out.2.2.far (by show w.heap.size + 1 ≠ w.heap.size + 1 + 1; omega) _⟩, by simp [intOf]⟩
    · have p1 : ¬ (k : Int) < 32 := by omega
      obtain rfl : k = 32 := by omega
      rw [partB_full] at hP
      have HI := Lib.hid (bytesS_length z)
      have HL := Lib.hid hP
      have HR := Lib.hid hR
      clear hN hP hR
      go_wp2_with (first | ((with_reducible refine here_load (d := some 24) ?_); refine wpList_load_blk rfl _ _ rfl (w.heap.size + 2) rfl _ _ _ HL.out Try.underlying53 rfl (b32_info HI.out) ?_) | ((with_reducible refine here_store ?_); refine wpList_store_blk rfl _ _ _ rfl (w.heap.size + 1) ((bytesS z).map bv).toArray rfl rfl _ _ HR.out (b32_info HI.out) (by simp [HI.out]) (b32_one _) ?_; intro w9 hL9 hB9 hK9))
      exact bodyPost_ret (results_cell_row rfl _ _ (w.heap.size + 1) _ _ (0, 0) _ rfl hL9 Try.underlying53 rfl (b32_info HI.out)) rfl ⟨rfl, hb.trans (hB9 _ (by omega))⟩

set_option maxHeartbeats 8000000 in
set_option maxRecDepth 100000 in
theorem words_any (w : World) (l : List UInt8) (hl : l.length = 32) : Calls Try.prog 71 #[.agg (l.map bv).toArray] w fun e w' => e = .returned (fv (valB l)) ∧ Below w.heap.size w w' := by
  have HL := Lib.hid hl
  clear hl
  go_enter Try.func71, Try.ntmps71
  go_wp2_with (first | ((with_reducible refine here_load (d := some 6) ?_); refine wpList_load_blk rfl _ _ rfl w.heap.size rfl _ _ _ (((Blk.new w _ _).alloc _).alloc _) Try.underlying53 rfl (b32_info HL.out) ?_))
  go_loopw [7] (fun i wr => ∃ k y0 y1 y2 y3 : Nat, k ≤ 32 ∧ i = .int .i64 (k : Int) ∧ Hid (y0 = wdB l k 0 ∧ y1 = wdB l k 1 ∧ y2 = wdB l k 2 ∧ y3 = wdB l k 3) ∧ Below w.heap.size w wr ∧ Blk wr (w.heap.size + 2) 36 #[.int .u64 (y3 : Int), .int .u64 (y2 : Int), .int .u64 (y1 : Int), .int .u64 (y0 : Int)] ∧ Blk wr (w.heap.size + 1) 36 #[.int .u64 0, .int .u64 0, .int .u64 0, .int .u64 0]) (fun i _ => 32 - (intOf i).toNat)
  case atStart => exact ⟨0, 0, 0, 0, 0, by omega, rfl, Lib.hid ⟨(wdB_zero l 0).symm, (wdB_zero l 1).symm, (wdB_zero l 2).symm, (wdB_zero l 3).symm⟩, below_alloc3 w _ _ _, blk_new3 w _ _ _ _, (blk_new2 w _ _ _).alloc _⟩
  case round =>
    obtain ⟨k, y0, y1, y2, y3, hk, rfl, HY, hb, hP, hR⟩ := hrel
    have q3 : wr.cell? ⟨w.heap.size + 1 + 1, 0, none⟩ = some (.int .u64 (y3 : Int)) := hP.cell 0
    have q2 : wr.cell? ⟨w.heap.size + 1 + 1, 1, none⟩ = some (.int .u64 (y2 : Int)) := hP.cell 1
    have q1 : wr.cell? ⟨w.heap.size + 1 + 1, 2, none⟩ = some (.int .u64 (y1 : Int)) := hP.cell 2
    have q0 : wr.cell? ⟨w.heap.size + 1 + 1, 3, none⟩ = some (.int .u64 (y0 : Int)) := hP.cell 3
    have ff : ∀ j, wr.frozen? ⟨w.heap.size + 1 + 1, j, none⟩ = false := fun j => hP.frozen j
    by_cases hlt : k < 32
    · obtain ⟨c, hc⟩ : ∃ c, l[k]? = some c := ⟨l[k]'(by rw [HL.out]; exact hlt), List.getElem?_eq_getElem _⟩
      have HC := Lib.hid hc
      obtain ⟨m, hm⟩ : ∃ m, m = c.toNat := ⟨_, rfl⟩
      have hm8 : m < 256 := by rw [hm]; exact c.toNat_lt
      have hI : ∀ W, (Instr.index 53 (.agg (l.map bv).toArray) (.int .i64 (k : Int))).run Try.prog W = .ok (.int .u8 (m : Int)) W := fun W => by
        rw [run_index_b32 W l k c hc hlt, hm]; rfl
      have HM := Lib.hid hm
      have HR := Lib.hid (And.intro hb (And.intro hP hR))
      clear hb hP hR hc hk hm
      rcases (show k = 0 ∨ k = 1 ∨ k = 2 ∨ k = 3 ∨ k = 4 ∨ k = 5 ∨ k = 6 ∨ k = 7 ∨ k = 8 ∨ k = 9 ∨ k = 10 ∨ k = 11 ∨ k = 12 ∨ k = 13 ∨ k = 14 ∨ k = 15 ∨ k = 16 ∨ k = 17 ∨ k = 18 ∨ k = 19 ∨ k = 20 ∨ k = 21 ∨ k = 22 ∨ k = 23 ∨ k = 24 ∨ k = 25 ∨ k = 26 ∨ k = 27 ∨ k = 28 ∨ k = 29 ∨ k = 30 ∨ k = 31 by omega) with rfl | rfl | rfl | rfl | rfl | rfl | rfl | rfl | rfl | rfl | rfl | rfl | rfl | rfl | rfl | rfl | rfl | rfl | rfl | rfl | rfl | rfl | rfl | rfl | rfl | rfl | rfl | rfl | rfl | rfl | rfl | rfl
      all_goals
        simp only [Int.cast_ofNat_Int] at hI
      all_goals
        first
        | ((have hy : y0 < 72057594037927936 := by rw [HY.out.1]; exact wdB_lt l _ 0 (by decide)); (have ho := or_add y0 m hy hm8); go_wp2; (refine ⟨⟨_, y0 * 256 + m, y1, y2, y3, by decide, rfl, Lib.hid ⟨by rw [HY.out.1, HM.out]; exact (wdB_step l _ 0 c HC.out (by decide)).symm, by rw [HY.out.2.1]; exact (wdB_same l _ 1 (by decide)).symm, by rw [HY.out.2.2.1]; exact (wdB_same l _ 2 (by decide)).symm, by rw [HY.out.2.2.2]; exact (wdB_same l _ 3 (by decide)).symm⟩, HR.out.1.setCell (by show w.heap.size ≤ w.heap.size + 1 + 1; omega) _, Blk.eq_ (HR.out.2.1.set_ 3 _) (by rw [show ((y0 * 256 + m : Nat) : Int) = (y0 : Int) * 256 + (m : Int) by omega]; rfl), HR.out.2.2.far (by show w.heap.size + 1 ≠ w.heap.size + 1 + 1; omega) _⟩, by simp [intOf]⟩))
        | ((have hy : y1 < 72057594037927936 := by rw [HY.out.2.1]; exact wdB_lt l _ 1 (by decide)); (have ho := or_add y1 m hy hm8); go_wp2; (refine ⟨⟨_, y0, y1 * 256 + m, y2, y3, by decide, rfl, Lib.hid ⟨by rw [HY.out.1]; exact (wdB_same l _ 0 (by decide)).symm, by rw [HY.out.2.1, HM.out]; exact (wdB_step l _ 1 c HC.out (by decide)).symm, by rw [HY.out.2.2.1]; exact (wdB_same l _ 2 (by decide)).symm, by rw [HY.out.2.2.2]; exact (wdB_same l _ 3 (by decide)).symm⟩, HR.out.1.setCell (by show w.heap.size ≤ w.heap.size + 1 + 1; omega) _, Blk.eq_ (HR.out.2.1.set_ 2 _) (by rw [show ((y1 * 256 + m : Nat) : Int) = (y1 : Int) * 256 + (m : Int) by omega]; rfl), HR.out.2.2.far (by show w.heap.size + 1 ≠ w.heap.size + 1 + 1; omega) _⟩, by simp [intOf]⟩))
        | ((have hy : y2 < 72057594037927936 := by rw [HY.out.2.2.1]; exact wdB_lt l _ 2 (by decide)); (have ho := or_add y2 m hy hm8); go_wp2; (refine ⟨⟨_, y0, y1, y2 * 256 + m, y3, by decide, rfl, Lib.hid ⟨by rw [HY.out.1]; exact (wdB_same l _ 0 (by decide)).symm, by rw [HY.out.2.1]; exact (wdB_same l _ 1 (by decide)).symm, by rw [HY.out.2.2.1, HM.out]; exact (wdB_step l _ 2 c HC.out (by decide)).symm, by rw [HY.out.2.2.2]; exact (wdB_same l _ 3 (by decide)).symm⟩, HR.out.1.setCell (by show w.heap.size ≤ w.heap.size + 1 + 1; omega) _, Blk.eq_ (HR.out.2.1.set_ 1 _) (by rw [show ((y2 * 256 + m : Nat) : Int) = (y2 : Int) * 256 + (m : Int) by omega]; rfl), HR.out.2.2.far (by show w.heap.size + 1 ≠ w.heap.size + 1 + 1; omega) _⟩, by simp [intOf]⟩))
        | ((have hy : y3 < 72057594037927936 := by rw [HY.out.2.2.2]; exact wdB_lt l _ 3 (by decide)); (have ho := or_add y3 m hy hm8); go_wp2; (refine ⟨⟨_, y0, y1, y2, y3 * 256 + m, by decide, rfl, Lib.hid ⟨by rw [HY.out.1]; exact (wdB_same l _ 0 (by decide)).symm, by rw [HY.out.2.1]; exact (wdB_same l _ 1 (by decide)).symm, by rw [HY.out.2.2.1]; exact (wdB_same l _ 2 (by decide)).symm, by rw [HY.out.2.2.2, HM.out]; exact (wdB_step l _ 3 c HC.out (by decide)).symm⟩, HR.out.1.setCell (by show w.heap.size ≤ w.heap.size + 1 + 1; omega) _, Blk.eq_ (HR.out.2.1.set_ 0 _) (by rw [show ((y3 * 256 + m : Nat) : Int) = (y3 : Int) * 256 + (m : Int) by omega]; rfl), HR.out.2.2.far (by show w.heap.size + 1 ≠ w.heap.size + 1 + 1; omega) _⟩, by simp [intOf]⟩))
    · have p1 : ¬ (k : Int) < 32 := by omega
      obtain rfl : k = 32 := by omega
      have b0 : y0 < 18446744073709551616 := by rw [HY.out.1]; exact wdB_lt8 l _ _
      have b1 : y1 < 18446744073709551616 := by rw [HY.out.2.1]; exact wdB_lt8 l _ _
      have b2 : y2 < 18446744073709551616 := by rw [HY.out.2.2.1]; exact wdB_lt8 l _ _
      have b3 : y3 < 18446744073709551616 := by rw [HY.out.2.2.2]; exact wdB_lt8 l _ _
      obtain ⟨z, hz⟩ : ∃ z, z = y3 + 18446744073709551616 * y2 + 340282366920938463463374607431768211456 * y1 + 6277101735386680763835789423207666416102355444464034512896 * y0 := ⟨_, rfl⟩
      have fz := fv_mk y3 y2 y1 y0 b3 b2 b1 b0
      rw [← hz] at fz
      have hzv : valB l = z := by rw [wdB_all l HL.out, hz, HY.out.1, HY.out.2.1, HY.out.2.2.1, HY.out.2.2.2]
      have HZ := Lib.hid hzv
      have FZ := Lib.hid fz.symm
      have HP := Lib.hid hP
      have HR := Lib.hid hR
      clear HY b0 b1 b2 b3 hz fz hzv q0 q1 q2 q3 ff hP hR
      go_wp2_with (first | ((with_reducible refine here_load (d := some 25) ?_); refine wpList_load_fv rfl _ _ rfl (w.heap.size + 2) rfl (z) _ _ _ (HP.out) (FZ.out) Try.underlying36 rfl (by kernel_rfl) ?_) | ((with_reducible refine here_store ?_); refine wpList_store_blk rfl _ _ _ rfl (w.heap.size + 1) (fcs (z)) rfl rfl _ _ (HR.out) (by kernel_rfl) (by rfl) (fcs_one _) ?_; intro vz hLz hqz hKz))
      exact bodyPost_ret (results_cell_row rfl _ _ (w.heap.size + 1) _ _ (0, 0) _ rfl hLz Try.underlying36 rfl (by kernel_rfl)) rfl ⟨by rw [HZ.out]; rfl, hb.trans (hqz _ (by omega))⟩

/-- what Read answers -/
def readS (l : List UInt8) : Nat × Bool := if valB l < pM then (valB l, true) else (0, false)
set_option maxHeartbeats 2000000 in
set_option maxRecDepth 100000 in
theorem read_any (w : World) (l : List UInt8) (hl : l.length = 32) : Calls Try.prog 42 #[.agg (l.map bv).toArray] w fun e w' => e = .returned (.tuple #[fv (readS l).1, .bool (readS l).2]) ∧ Below w.heap.size w w' := by
  obtain ⟨z, hz⟩ : ∃ z, z = valB l := ⟨_, rfl⟩
  have hzl : z < 115792089237316195423570985008687907853269984665640564039457584007913129639936 := by rw [hz]; exact valB_lt32 l hl
  obtain ⟨n, hn⟩ : ∃ n, n = z % pM := ⟨_, rfl⟩
  have hnl : n < 115792089237316195423570985008687907853269984665640564039457584007913129639936 := by rw [hn]; exact mod_lt z
  obtain ⟨b, hbd⟩ : ∃ b, b = decide (n ≠ z) := ⟨_, rfl⟩
  have eb : ∀ W, (binOp .neq 36 (fv n) (fv z)).run Try.prog W = .ok (.bool b) W := fun W => by rw [hbd]; exact run_neq_fv W n z hnl hzl
  have cw : ∀ w, Calls Try.prog 71 #[.agg (l.map bv).toArray] w fun e w' => e = .returned (fv z) ∧ Below w.heap.size w w' := by
    intro w; rw [hz]; exact words_any w l hl
  have cn : ∀ w, Calls Try.prog 22 #[fv z] w fun e w' => e = .returned (fv n) ∧ Below w.heap.size w w' := by
    intro w; rw [hn]; exact norm_any w z hzl
  have hS : readS l = if b = true then (0, false) else (z, true) := by
    unfold readS
    rw [← hz, hbd, hn]
    by_cases h : z < pM
    · rw [if_pos h, Nat.mod_eq_of_lt h]; simp
    · have h2 : z % pM ≠ z := fun e => h (by rw [← e]; exact mod_lt_p z)
      rw [if_neg h]; simp [h2]
  have HS := Lib.hid hS
  have HL := Lib.hid hl
  clear hl hz hzl hn hnl hbd hS
  go_enter Try.func42, Try.ntmps42
  go_wp2_with (first | ((with_reducible refine here_load (d := some 5) ?_); refine wpList_load_blk rfl _ _ rfl w.heap.size rfl _ _ _ ((Blk.new w _ _).alloc _) Try.underlying53 rfl (b32_info HL.out) ?_))
  refine (cw _).mono ?_
  rintro e w1 ⟨rfl, k1⟩
  have BR := Gr.blk k1 (blk_new2 w _ _ _)
  have sz := BR.lt
  have hB := Below.gr (below_alloc2 w _ _) k1
  clear k1 cw
  go_wp2_with (first | ((with_reducible refine here_store ?_); refine wpList_store_blk rfl _ _ _ rfl (w1.heap.size) (fcs (z)) rfl rfl _ _ (Blk.new w1 _ _) (by kernel_rfl) (by rfl) (fcs_one _) ?_; intro w2 hL2 hq2 hK2; have CR := hK2 _ (by omega) _ _ (BR.alloc _); have hB2 := (hB.alloc (by omega) _).trans (hq2 _ (by omega))))
  refine wp_region_G (fun _ => false) (by kernel_rfl) ?_
  try simp only [Act.put]
  refine wpAnyG_take 0 rfl (by kernel_rfl) (fun _ _ _ h => h) (YieldsG.loadF (by rfl) _ _ rfl (w1.heap.size) rfl (z) _ _ (hL2) (fv_fcs _) Try.underlying36 rfl (by kernel_rfl)) ?_
  try simp only [Act.put, List.setIfInBounds_toArray, List.set_cons_zero, List.set_cons_succ]
  refine wpAnyG_take 1 rfl (by kernel_rfl) (fun _ _ _ h => h) (YieldsG.call (v := fv n) (by rfl) 22 _ (fun w9 => by go_simp; try (first | with_reducible rfl | rfl)) (fun w9 h9 => cn w9)) ?_
  try simp only [Act.put, List.setIfInBounds_toArray, List.set_cons_zero, List.set_cons_succ]
  refine wpAnyG_take 2 rfl (by kernel_rfl) (fun _ _ _ h => h) (YieldsG.loadF (by rfl) _ _ rfl (w1.heap.size) rfl (z) _ _ (hL2) (fv_fcs _) Try.underlying36 rfl (by kernel_rfl)) ?_
  try simp only [Act.put, List.setIfInBounds_toArray, List.set_cons_zero, List.set_cons_succ]
  refine wpAnyG_take 3 rfl (by kernel_rfl) (fun _ _ _ h => h) (YieldsG.pure (v := .bool b) (by rfl) (fun w9 h9 => by go_simp; rw [run_eqGuard_fv]; simp only [Result.andThen_ok])) ?_
  try simp only [Act.put, List.setIfInBounds_toArray, List.set_cons_zero, List.set_cons_succ]
  refine wpAnyG_done (by kernel_rfl) (fun u hu => ?_)
  have hbu := Below.gr hB2 hu
  have BRu := Gr.blk hu CR
  have BP := Gr.blk hu hL2
  clear hu hB2 CR hL2 eb cn
  cases b
  · have HT : Hid (readS l = (z, true)) := Lib.hid (by rw [HS.out]; rfl)
    clear HS
    go_wp2_with (first | ((with_reducible refine here_load (d := some 12) ?_); refine wpList_load_fv rfl _ _ rfl (w1.heap.size) rfl (z) _ _ _ (BP) (fv_fcs _) Try.underlying36 rfl (by kernel_rfl) ?_) | ((with_reducible refine here_store ?_); refine wpList_store_blk rfl _ _ _ rfl (w.heap.size + 1) (fcs (z)) rfl rfl _ _ (BRu) (by kernel_rfl) (by rfl) (fcs_one _) ?_; intro vz hLz hqz hKz))
    exact bodyPost_ret (res_cell_tmp rfl _ _ (w.heap.size + 1) _ _ _ _ rfl hLz rfl Try.underlying36 rfl (by kernel_rfl)) rfl ⟨by rw [HT.out]; rfl, hbu.trans (hqz _ (by omega))⟩
  · have HT : Hid (readS l = (0, false)) := Lib.hid (by rw [HS.out]; rfl)
    clear HS
    go_wp2_with (first | ((with_reducible refine here_store ?_); refine wpList_store_blk rfl _ _ _ rfl (w.heap.size + 1) _ rfl rfl _ _ (BRu) (by kernel_rfl) (by rfl) (by simp [Value.oneCell']) ?_; intro vz hLz hqz hKz))
    exact bodyPost_ret (res_cell_tmp rfl _ _ (w.heap.size + 1) _ _ _ _ rfl hLz rfl Try.underlying36 rfl (by kernel_rfl)) rfl ⟨by rw [HT.out]; rfl, hbu.trans (hqz _ (by omega))⟩

set_option maxHeartbeats 2000000 in
set_option maxRecDepth 100000 in
theorem reduceB_any (w : World) (l : List UInt8) (hl : l.length = 32) : Calls Try.prog 43 #[.agg (l.map bv).toArray] w fun e w' => e = .returned (fv (valB l % pM)) ∧ Below w.heap.size w w' := by
  obtain ⟨z, hz⟩ : ∃ z, z = valB l := ⟨_, rfl⟩
  have hzl : z < 115792089237316195423570985008687907853269984665640564039457584007913129639936 := by rw [hz]; exact valB_lt32 l hl
  obtain ⟨n, hn⟩ : ∃ n, n = z % pM := ⟨_, rfl⟩
  have cw : ∀ w, Calls Try.prog 71 #[.agg (l.map bv).toArray] w fun e w' => e = .returned (fv z) ∧ Below w.heap.size w w' := by
    intro w; rw [hz]; exact words_any w l hl
  have cn : ∀ w, Calls Try.prog 22 #[fv z] w fun e w' => e = .returned (fv n) ∧ Below w.heap.size w w' := by
    intro w; rw [hn]; exact norm_any w z hzl
  rw [← hz, ← hn]
  have HL := Lib.hid hl
  clear hl hz hzl hn
  go_enter Try.func43, Try.ntmps43
  go_wp2_with (first | ((with_reducible refine here_load (d := some 3) ?_); refine wpList_load_blk rfl _ _ rfl w.heap.size rfl _ _ _ ((Blk.new w _ _).alloc _) Try.underlying53 rfl (b32_info HL.out) ?_))
  refine (cw _).mono ?_
  rintro e w1 ⟨rfl, k1⟩
  go_wp2_with fail
  refine (cn _).mono ?_
  rintro e w2 ⟨rfl, k2⟩
  have BR := Gr.blk k2 (Gr.blk k1 (blk_new2 w _ _ _))
  have hB := Below.gr (Below.gr (below_alloc2 w _ _) k1) k2
  clear k1 k2 cw cn
  go_wp2_with (first | ((with_reducible refine here_store ?_); refine wpList_store_blk rfl _ _ _ rfl (w.heap.size + 1) (fcs (n)) rfl rfl _ _ (BR) (by kernel_rfl) (by rfl) (fcs_one _) ?_; intro vz hLz hqz hKz))
  exact bodyPost_ret (results_cell_row rfl _ _ (w.heap.size + 1) _ _ (0, 0) _ rfl hLz Try.underlying36 rfl (by kernel_rfl)) rfl ⟨rfl, hB.trans (hqz _ (by omega))⟩
end Go.Proofs.Ytajjjdmjlloifaa.Sc
