/-
  The two digests that the document fixes.
-/
import Derived.Test.YtimnpakmifjgoaaDoorShaOf
import Derived.Lib.SlBytesConst
namespace Go.Proofs.YtimnpakmifjgoaaDoor
open Go.RowKit Sp

theorem sum_cell {w : World} {g : Nat} {t : TypeId} {l : List UInt8} (h : Blk w g t ((sum l).map bv).toArray) (i : Nat) (hi : i < 32) (v : UInt8) (hv : (sum l).getD i 0 = v) : w.cell? ⟨g, i, none⟩ = some (.int .u8 (v.toNat : Int)) := by
  refine (h.cell i).trans ?_
  have hl : i < (sum l).length := by rw [sum_length]; exact hi
  subst hv
  simp [List.getElem?_eq_getElem hl, bv]

theorem Src.of_row {w : World} {g : Nat} {t : TypeId} {fr : Nat × Nat} {m : List UInt8} (h : w.heap[g]? = some (.cells (m.map bv).toArray t fr)) : Src w (some ⟨g, 0, none⟩) m := fun _ =>
  ⟨g, 0, rfl, lt_of_block h, fun j u hu => by rw [Nat.zero_add]; exact (cell_of_row w g j _ _ _ h).trans (by simp [hu])⟩

set_option maxHeartbeats 400000 in
set_option maxRecDepth 100000 in
theorem alive_any (w : World) (ht : TabAt w 1) :
    Calls Tryd.prog 16 #[] w fun e w' => e = .returned (.bool true) ∧ Below w.heap.size w w' := by
  have htl := ht.lt
  have HT := Lib.hid ht
  have kc := fun (W : World) (C : Array Value) (n c : Nat) => Lib.run_convert_bytes_const (P := Tryd.prog) W 22 5 C n c Tryd.underlying22 Tryd.underlying5
  clear ht
  obtain ⟨d1, hd1⟩ : ∃ d, d = sum [] := ⟨_, rfl⟩
  obtain ⟨d2, hd2⟩ : ∃ d, d = sum [97, 98, 99] := ⟨_, rfl⟩
  have HD := Lib.hid (And.intro hd1 hd2)
  clear hd1 hd2
  go_enter Tryd.func16, Tryd.ntmps16
  go_wp2_with fail
  refine (of_any w none [] 0 (fun h => absurd rfl h) HT.out (Nat.le_refl _) (by omega) (by simp)).mono ?_
  rintro e w1 ⟨rfl, hb1⟩
  unfold dv
  go_wp2_with (refine wpList_store_new rfl 24 (.tmp 1) (.tmp 3) rfl _ _ _ rfl rfl (sum_info []) (by rw [sum_size]; rfl) (sum_one []) ?_; intro w2 hk2 hb2 hz2)
  have hbb2 : Below w.heap.size w w2 := hb1.trans (hb2.mono hb1.size)
  refine (of_any _ (some ⟨w2.heap.size, 0, none⟩) [97, 98, 99] 3 (Src.of_row (fr := (3, 4)) (t := 5) (by show (w2.alloc _).heap[_]? = _; exact heap_alloc_new w2 _)) (HT.out.below (hbb2.alloc hbb2.size _) htl) (by simp) (by omega) (by simp)).mono ?_
  rintro e w3 ⟨rfl, hb3⟩
  have hbb3 : Below w.heap.size w w3 := (hbb2.alloc hbb2.size _).trans (hb3.mono (by simp; have := hbb2.size; omega))
  have hk3 := (hk2.alloc (.cells #[.int .u8 97, .int .u8 98, .int .u8 99] 5 (3, 4))).below hb3 (by simp; have := hk2.lt; omega)
  unfold dv
  have hk1w : w1.heap.size < w3.heap.size := hk3.lt
  go_wp2_with (refine wpList_store_new rfl 24 (.tmp 2) (.tmp 6) rfl _ _ _ rfl rfl (sum_info _) (by rw [sum_size]; rfl) (sum_one _) ?_
               intro w4 hk4 hb4 hz4
               have hk1 := hk3.below hb4 hk1w
               have c0 := sum_cell hk1 0 (by omega) _ sum_empty.1
               have c1 := sum_cell hk1 31 (by omega) _ sum_empty.2
               have c2 := sum_cell hk4 0 (by omega) _ sum_abc.1
               have c3 := sum_cell hk4 31 (by omega) _ sum_abc.2
               have hbb4 := hbb3.trans (hb4.mono hbb3.size))
  go_ret
  exact ⟨rfl, hbb4⟩
end Go.Proofs.YtimnpakmifjgoaaDoor
