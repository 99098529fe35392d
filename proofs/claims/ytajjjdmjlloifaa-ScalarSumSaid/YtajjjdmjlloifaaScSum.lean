/-
  scalar.Sum.
-/
import Derived.Test.YtajjjdmjlloifaaNRow
import Derived.Test.YtajjjdmjlloifaaScOps
namespace Go.Proofs.Ytajjjdmjlloifaa.Sc
open Go.RowKit Go.Lib

/-- one behind the other -/
def sumL (ds : List Nat) : Nat := ds.foldl addP 0
theorem sumL_snoc (ds : List Nat) (x : Nat) : sumL (ds ++ [x]) = addP (sumL ds) x := by simp [sumL, List.foldl_append]
theorem sumL_lt (ds : List Nat) : sumL ds < 115792089237316195423570985008687907853269984665640564039457584007913129639936 := by
  rcases List.eq_nil_or_concat ds with rfl | ⟨l, x, rfl⟩
  · decide
  · rw [List.concat_eq_append, sumL_snoc]; exact addP_lt _ _
theorem take_snocN (ds : List Nat) (k x : Nat) (h : ds[k]? = some x) : ds.take (k + 1) = ds.take k ++ [x] := by
  rw [List.take_add_one, h]; rfl

set_option maxHeartbeats 2000000 in
set_option maxRecDepth 100000 in
theorem sum_any (w : World) (A : Option Addr) (ds : List Nat) (n c : Nat) (hn : ds.length = n) (hs : NSrc w A ds) (hds : ∀ x ∈ ds, x < 115792089237316195423570985008687907853269984665640564039457584007913129639936) (hmax : n ≤ 9223372036854775807) : Calls Try.prog 37 #[.slice A n c] w fun e w' => e = .returned (fv (sumL ds)) ∧ Below w.heap.size w w' := by
  have HS := Lib.hid (And.intro hs (And.intro hds hn))
  have hm' : (n : Int) ≤ 9223372036854775807 := by omega
  clear hs hds hn
  go_enter Try.func37, Try.ntmps37
  go_wp2_with fail
  go_loopw [8] (fun i wr => ∃ k v : Nat, k ≤ n ∧ i = .int .i64 (k : Int) ∧ Hid (v = sumL (ds.take k)) ∧ Below w.heap.size w wr ∧ Blk wr (w.heap.size + 1) 36 (fcs v) ∧ Blk wr w.heap.size 36 #[.int .u64 0, .int .u64 0, .int .u64 0, .int .u64 0]) (fun i _ => n - (intOf i).toNat)
  case atStart => exact ⟨0, 0, Nat.zero_le _, rfl, Lib.hid rfl, below_alloc2 w _ _, blk_new2 w _ _ _, (Blk.new w _ _).alloc _⟩
  case round =>
    obtain ⟨k, v, hk, rfl, HV, hb, BV, BR⟩ := hrel
    have lV := BV.lt
    by_cases hlt : k < n
    · obtain ⟨x, hx⟩ : ∃ x, ds[k]? = some x := ⟨ds[k]'(by rw [HS.out.2.2]; exact hlt), List.getElem?_eq_getElem _⟩
      have lx : x < 115792089237316195423570985008687907853269984665640564039457584007913129639936 := HS.out.2.1 x (List.mem_of_getElem? hx)
      have lv : v < 115792089237316195423570985008687907853269984665640564039457584007913129639936 := by rw [HV.out]; exact sumL_lt _
      obtain ⟨b, o, rfl, hbl, hr⟩ := NSrc.at HS.out.1 k x hx
      obtain ⟨z, hz⟩ : ∃ z, z = addP v x := ⟨_, rfl⟩
      have cA : ∀ w, Calls Try.prog 25 #[fv v, fv x] w fun e w' => e = .returned (fv z) ∧ Below w.heap.size w w' := by
        intro w; rw [hz]; exact addF_any w v x lv lx
      have HZ : Hid (z = sumL (ds.take (k + 1))) := Lib.hid (by rw [hz, take_snocN ds k x hx, sumL_snoc, ← HV.out])
      have HR := Lib.hid (rangeN hr (hb.mono (Nat.le_refl _)) hbl)
      have k1 : (0 : Int) ≤ (k : Int) := by omega
      have k2 : (k : Int) < (n : Int) := by omega
      clear hx lx lv hbl hr hz
      go_wp2_with (first | ((with_reducible refine here_load (d := some 11) ?_); refine wpList_load_fvm rfl _ _ rfl b (o + k * 4) rfl x _ HR.out Try.underlying36 rfl (by kernel_rfl) ?_) | ((with_reducible refine here_store ?_); refine wpList_store_blk rfl _ _ _ rfl (wr.heap.size) (fcs (x)) rfl rfl _ _ (Blk.new wr _ _) (by kernel_rfl) (by rfl) (fcs_one _) ?_; intro w0 hL0 hq0 hK0; have CV0 := hK0 _ (by omega) _ _ (BV.alloc _); have CR0 := hK0 _ (by omega) _ _ (BR.alloc _); have hb0 := (hb.alloc (by omega) _).trans (hq0 _ (by omega))) | ((with_reducible refine here_load (d := some 12) ?_); refine wpList_load_fv rfl _ _ rfl (w.heap.size + 1) rfl (v) _ _ _ (CV0) (fv_fcs _) Try.underlying36 rfl (by kernel_rfl) ?_) | ((with_reducible refine here_load (d := some 13) ?_); refine wpList_load_fv rfl _ _ rfl (wr.heap.size) rfl (x) _ _ _ (hL0) (fv_fcs _) Try.underlying36 rfl (by kernel_rfl) ?_))
      refine (cA _).mono ?_
      rintro e w1 ⟨rfl, g1⟩
      have CV := Gr.blk g1 CV0
      have CR := Gr.blk g1 CR0
      have hbc := Below.gr hb0 g1
      clear g1 cA CV0 CR0 hb0 hL0 hq0 hK0 BV BR hb
      go_wp2_with (first | ((with_reducible refine here_store ?_); refine wpList_store_blk rfl _ _ _ rfl (w.heap.size + 1) (fcs (z)) rfl rfl _ _ (CV) (by kernel_rfl) (by rfl) (fcs_one _) ?_; intro w9 hL9 hq9 hK9))
      go_roundw
      case rel => exact ⟨k + 1, z, by omega, by simp, HZ, hbc.trans (hq9 _ (by omega)), hL9, hK9 _ (by omega) _ _ CR⟩
      case measure => simp [intOf]; omega
    · have p1 : ¬ (k : Int) < (n : Int) := by omega
      obtain rfl : k = n := by omega
      have HF : Hid (v = sumL ds) := Lib.hid (by rw [HV.out, List.take_of_length_le (by rw [HS.out.2.2]; omega)])
      go_wp2_with (first | ((with_reducible refine here_load (d := some 16) ?_); refine wpList_load_fv rfl _ _ rfl (w.heap.size + 1) rfl (v) _ _ _ (BV) (fv_fcs _) Try.underlying36 rfl (by kernel_rfl) ?_) | ((with_reducible refine here_store ?_); refine wpList_store_blk rfl _ _ _ rfl (w.heap.size) (fcs (v)) rfl rfl _ _ (BR) (by kernel_rfl) (by rfl) (fcs_one _) ?_; intro w9 hL9 hB9 hK9))
      exact bodyPost_ret (results_cell_row rfl _ _ w.heap.size _ _ (0, 0) _ rfl hL9 Try.underlying36 rfl (by kernel_rfl)) rfl ⟨by rw [← HF.out]; rfl, hb.trans (hB9 _ (by omega))⟩
end Go.Proofs.Ytajjjdmjlloifaa.Sc
