/-
  fe.Bytes: a number's 32 bytes, the highest first.
-/
import Derived.Test.YtlojidnlkflpnaaFeEq
import Derived.Test.YtlojidnlkflpnaaNumB
namespace Go.Proofs.Ytlojidnlkflpnaa
open Go.RowKit Go.Lib

set_option maxHeartbeats 8000000 in
set_option maxRecDepth 100000 in
theorem bytes_any (w : World) (x : Nat) (hx : x < 115792089237316195423570985008687907853269984665640564039457584007913129639936) : Calls Try.prog 67 #[fv x] w fun e w' => e = .returned (.agg ((bytesS (x % pM)).map bv).toArray) ∧ Below w.heap.size w w' := by
  obtain ⟨z, hz⟩ : ∃ z, z = x % pM := ⟨_, rfl⟩
  have hzl : z < 115792089237316195423570985008687907853269984665640564039457584007913129639936 := by rw [hz]; exact mod_lt x
  have cn : ∀ w, Calls Try.prog 38 #[fv x] w fun e w' => e = .returned (fv z) ∧ Below w.heap.size w w' := by
    intro w; rw [hz]; exact norm_any w x hx
  rw [← hz]
  obtain ⟨z0, z1, z2, z3, a0, a1, a2, a3, ez, fz⟩ := words_of z hzl
  have HZ := Lib.hid (And.intro a0 (And.intro a1 (And.intro a2 (And.intro a3 ez))))
  have FZ := Lib.hid fz
  obtain ⟨x0, x1, x2, x3, fx⟩ := words_fv x hx
  rw [fx] at cn ⊢
  clear fx fz hz hzl a0 a1 a2 a3 ez hx
  have hZB : Hid ((List.replicate 32 (Value.int .u8 0)).toArray = ((partB z 0).map bv).toArray) := Lib.hid (by simp [partB, lowB, bv])
  go_enter Try.func67, Try.ntmps67
  go_wp2_with fail
  refine (cn _).mono ?_
  rintro e w1 ⟨rfl, hb⟩
  have BR : Blk w1 (w.heap.size + 1) 52 _ := Gr.blk hb (Blk.alloc (blk_new2 w _ _ _) _)
  have BB : Blk w1 (w.heap.size + 2) 52 ((partB z 0).map bv).toArray := Blk.eq_ (Gr.blk hb (blk_new3 w _ _ _ _)) hZB.out
  have hB := Below.gr (below_alloc3 w _ _ _) hb
  have sz := BB.lt
  clear hb cn
  go_wp2_with (first | ((with_reducible refine here_store ?_); refine wpList_store_blk rfl _ _ _ rfl (w1.heap.size) (fcs (z)) rfl rfl _ _ (Blk.new w1 _ _) (by kernel_rfl) (by rfl) (fcs_one _) ?_; intro w2 hL2 hB2 hK2; have CR := hK2 _ (by omega) _ _ (BR.alloc _); have CB := hK2 _ (by omega) _ _ (BB.alloc _); have hC := (hB.alloc (by omega) _).trans (hB2 _ (by omega))))
  go_loopw [8] (fun i wr => ∃ k : Nat, k ≤ 32 ∧ i = .int .i64 (k : Int) ∧ Below w.heap.size w wr ∧ Blk wr (w.heap.size + 2) 52 ((partB z k).map bv).toArray ∧ Blk wr w1.heap.size 24 #[.int .u64 (z0 : Int), .int .u64 (z1 : Int), .int .u64 (z2 : Int), .int .u64 (z3 : Int)] ∧ Blk wr (w.heap.size + 1) 52 (List.replicate 32 (Value.int .u8 0)).toArray) (fun i _ => 32 - (intOf i).toNat)
  case atStart => exact ⟨0, by omega, rfl, hC, CB, hL2.eq_ (fcs_words FZ.out), CR⟩
  case round =>
    obtain ⟨k, hk, rfl, hb, hP, hN, hR⟩ := hrel
    by_cases hlt : k < 32
    · have ce : ∀ j, j < 32 → ∃ v, wr.cell? ⟨w.heap.size + 1 + 1, j, none⟩ = some v := fun j hj => ⟨_, (hP.cell j).trans (Array.getElem?_eq_getElem (by simp [partB_length z k hk]; exact hj))⟩
      obtain ⟨v, hv⟩ := ce (31 - k) (by omega)
      have ff := hP.frozen (31 - k)
      have q0 : wr.cell? ⟨w1.heap.size, 0, none⟩ = some (.int .u64 (z0 : Int)) := hN.cell 0
      have q1 : wr.cell? ⟨w1.heap.size, 1, none⟩ = some (.int .u64 (z1 : Int)) := hN.cell 1
      have q2 : wr.cell? ⟨w1.heap.size, 2, none⟩ = some (.int .u64 (z2 : Int)) := hN.cell 2
      have q3 : wr.cell? ⟨w1.heap.size, 3, none⟩ = some (.int .u64 (z3 : Int)) := hN.cell 3
      have hPn := hP.set_ (31 - k) (bv (byteN z k))
      rw [partB_set z k hlt] at hPn
      have HP := Lib.hid hPn
      clear hPn ce
      have HR := Lib.hid (And.intro hb (And.intro hN hR))
      clear hb hP hN hR hk
      have hsz : w.heap.size + 2 < w1.heap.size := sz
      rcases (show k = 0 ∨ k = 1 ∨ k = 2 ∨ k = 3 ∨ k = 4 ∨ k = 5 ∨ k = 6 ∨ k = 7 ∨ k = 8 ∨ k = 9 ∨ k = 10 ∨ k = 11 ∨ k = 12 ∨ k = 13 ∨ k = 14 ∨ k = 15 ∨ k = 16 ∨ k = 17 ∨ k = 18 ∨ k = 19 ∨ k = 20 ∨ k = 21 ∨ k = 22 ∨ k = 23 ∨ k = 24 ∨ k = 25 ∨ k = 26 ∨ k = 27 ∨ k = 28 ∨ k = 29 ∨ k = 30 ∨ k = 31 by omega) with rfl | rfl | rfl | rfl | rfl | rfl | rfl | rfl | rfl | rfl | rfl | rfl | rfl | rfl | rfl | rfl | rfl | rfl | rfl | rfl | rfl | rfl | rfl | rfl | rfl | rfl | rfl | rfl | rfl | rfl | rfl | rfl
      all_goals
        go_wp2
        obtain ⟨a0, a1, a2, a3, ez⟩ := HZ.out
        refine ⟨⟨_, by decide, rfl, HR.out.1.setCell (by show w.heap.size ≤ w.heap.size + 1 + 1; omega) _, HP.out.val (by rw [bv_byteN]; congr 1; omega), HR.out.2.1.far (by show w1.heap.size ≠ w.heap.size + 1 + 1; omega) _, HR.out.2.2.far (by show w.heap.size + 1 ≠ w.heap.size + 1 + 1; omega) _⟩, by simp [intOf]⟩
    · have p1 : ¬ (k : Int) < 32 := by omega
      obtain rfl : k = 32 := by omega
      rw [partB_full] at hP
      have HI := Lib.hid (bytesS_length z)
      have HL := Lib.hid hP
      have HR := Lib.hid hR
      clear hN hP hR
      go_wp2_with (first | ((with_reducible refine here_load (d := some 24) ?_); refine wpList_load_blk rfl _ _ rfl (w.heap.size + 2) rfl _ _ _ HL.out Try.underlying52 rfl (b32_info HI.out) ?_) | ((with_reducible refine here_store ?_); refine wpList_store_blk rfl _ _ _ rfl (w.heap.size + 1) ((bytesS z).map bv).toArray rfl rfl _ _ HR.out (b32_info HI.out) (by simp [HI.out]) (b32_one _) ?_; intro w9 hL9 hB9 hK9))
      exact bodyPost_ret (results_cell_row rfl _ _ (w.heap.size + 1) _ _ (0, 0) _ rfl hL9 Try.underlying52 rfl (b32_info HI.out)) rfl ⟨rfl, hb.trans (hB9 _ (by omega))⟩
end Go.Proofs.Ytlojidnlkflpnaa
