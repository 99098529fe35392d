/-
  Node and Leaf: the program's and the document's.
-/
import Derived.Test.YtimnpakmifjgoaaDoorOrd2
import Derived.Test.YtimnpakmifjgoaaDoorRefTag
import Derived.Test.YtimnpakmifjgoaaDoorMSpec
namespace Go.Proofs.YtimnpakmifjgoaaDoor
open Go.RowKit Sp

theorem dig_size {l : List UInt8} (h : l.length = 32) : (l.map bv).toArray.size = 32 := by rw [List.size_toArray, List.length_map, h]
theorem dig_info {l : List UInt8} (h : l.length = 32) : (Tryd.prog.info? 24).map (·.size) = some (l.map bv).toArray.size := by rw [dig_size h]; kernel_rfl
theorem dig_info' {l : List UInt8} (h : l.length = 32) : (Tryd.prog.info? 24).map (·.size) = some (l.map bv).length := by rw [List.length_map, h]; kernel_rfl
theorem dig_one (l : List UInt8) : (l.map bv).toArray.all (·.oneCell') = true := by simp [bv, Value.oneCell']
theorem cat_one (x : Tx) : cat [x] = x.l := by simp [cat]
theorem cat_two (x y : Tx) : cat [x, y] = x.l ++ y.l := by simp [cat]
theorem below_alloc3 (w : World) (o o' o'' : Obj) : Below w.heap.size w (((w.alloc o).alloc o').alloc o'') := (below_alloc2 w o o').alloc (by simp; omega) _
theorem blk_new3 (w : World) (o o' : Obj) (t : TypeId) (cs : Array Value) : Blk (((w.alloc o).alloc o').alloc (.cells cs t)) (w.heap.size + 2) t cs := by
  have h := Blk.new ((w.alloc o).alloc o') t cs
  have e : ((w.alloc o).alloc o').heap.size = w.heap.size + 2 := by simp
  rwa [e] at h
theorem Below.gr {w a b : World} (h : Below w.heap.size w a) (g : Gr a b) : Below w.heap.size w b := Below.trans h (Below.mono g (Below.size h))

set_option maxHeartbeats 1000000 in
set_option maxRecDepth 100000 in
theorem node_any (w : World) (l r : List UInt8) (hl : l.length = 32) (hr : r.length = 32) (ht : TabAt w 1) :
    Calls Tryd.prog 29 #[.agg (l.map bv).toArray, .agg (r.map bv).toArray] w fun e w' => e = .returned (dv (nodeS l r)) ∧ Below w.heap.size w w' := by
  have HC := Lib.hid ht
  have htl := ht.lt
  have HL := Lib.hid (And.intro hl hr)
  have hsl := slice_all
  clear ht hl hr
  go_enter Tryd.func29, Tryd.ntmps29
  go_wp2
  refine wp_region_G (fun j => j == 4) (by kernel_rfl) ?_
  refine wpAnyG_take 0 rfl (by kernel_rfl) (fun _ _ _ h => h) (YieldsG.pure (by rfl) (fun w9 _ => by go_simp; try with_reducible rfl)) ?_
  try simp only [Act.put, List.setIfInBounds_toArray, List.set_cons_zero, List.set_cons_succ]
  refine wpAnyG_take 1 rfl (by kernel_rfl) (fun _ _ _ h => h) (YieldsG.pure (by rfl) (fun w9 _ => by go_simp; try with_reducible rfl)) ?_
  try simp only [Act.put, List.setIfInBounds_toArray, List.set_cons_zero, List.set_cons_succ]
  refine wpAnyG_sole 2 rfl (by kernel_rfl) (by rfl) (fun w3 h3 K hK => ?_)
  go_simp
  refine hK _ _ (fun _ => gr_alloc _ _) ?_
  clear hK K
  try simp only [Act.put, List.setIfInBounds_toArray, List.set_cons_zero, List.set_cons_succ]
  have hA : Blk w3 w.heap.size 24 (l.map bv).toArray := h3.blk (((Blk.new w _ _).alloc _).alloc _)
  have hB : Blk w3 (w.heap.size + 1) 24 (r.map bv).toArray := h3.blk (Blk.alloc (heap_alloc2_new w _ _) _)
  have hx1 : (Tx.mk (some ⟨w.heap.size, 0, none⟩) l 32).ok w3 := ⟨Src.of_blk hA, by show l.length ≤ 32; rw [HL.out.1]; exact Nat.le_refl _, by show (32 : Nat) ≤ _; omega⟩
  have hx2 : (Tx.mk (some ⟨w.heap.size + 1, 0, none⟩) r 32).ok w3 := ⟨Src.of_blk hB, by show r.length ≤ 32; rw [HL.out.2]; exact Nat.le_refl _, by show (32 : Nat) ≤ _; omega⟩
  have hT := texts_list (W := w3) _ rfl [Tx.mk (some ⟨w.heap.size, 0, none⟩) l 32, Tx.mk (some ⟨w.heap.size + 1, 0, none⟩) r 32] 22 #[.slice (some ⟨w.heap.size, 0, none⟩) 32 32, .slice (some ⟨w.heap.size + 1, 0, none⟩) 32 32]
    (by simp only [Tx.val, List.map_cons, List.map_nil, HL.out.1, HL.out.2]) (fun x hx => by simp at hx; rcases hx with rfl | rfl <;> assumption)
  have hR : Blk w3 (w.heap.size + 2) 24 _ := h3.blk (blk_new3 w _ _ _ _)
  have hb3 := Below.gr (below_alloc3 w _ _ _) h3
  have HT := Lib.hid hT
  clear hA hB hx1 hx2 hT
  refine wpAnyG_take 3 rfl (by kernel_rfl) (fun _ _ _ h => h) (YieldsG.call (v := .agg ((nodeS l r).map bv).toArray) (by rfl) 25 _ (fun w9 => by go_simp; try (first | with_reducible rfl | rfl)) (fun w9 h9 => calls_dv (tagged_any w9 nodeNm _ [Tx.mk (some ⟨w.heap.size, 0, none⟩) l 32, Tx.mk (some ⟨w.heap.size + 1, 0, none⟩) r 32] 2 (HT.out.below h9) (HC.out.below (Below.gr hb3 ((gr_alloc _ _).trans h9)) htl) (by decide) (by rw [cat_two]; simp only [List.length_append, HL.out.1, HL.out.2]; omega) (by simp)) (by rw [cat_two]; rfl))) ?_
  try simp only [Act.put, List.setIfInBounds_toArray, List.set_cons_zero, List.set_cons_succ]
  refine wpAnyG_store 4 rfl (by kernel_rfl) (by rfl) _ _ _ rfl (w.heap.size + 2) (((nodeS l r).map bv).toArray) rfl rfl _ _ (hR.alloc _) (dig_info (nodeS_length l r)) (by rw [dig_size (nodeS_length l r)]; rfl) (dig_one _) rfl (fun w6 h6 w7 hB7 hL7 => ?_)
  try simp only [Act.put]
  refine wpAnyG_done (by kernel_rfl) (fun w8 h8 => ?_)
  have hfin := h8.blk hL7
  have hb9 := (Below.gr hb3 ((gr_alloc _ _).trans h6)).trans ((hB7 _ (by omega)).trans (Below.mono h8 (by have := hL7.lt; omega)))
  go_wp2
  exact bodyPost_ret (results_cell_row rfl _ _ (w.heap.size + 2) 24 _ (0, 0) _ rfl hfin Tryd.underlying24 rfl (dig_info (nodeS_length l r))) rfl ⟨rfl, hb9⟩

set_option maxHeartbeats 1000000 in
set_option maxRecDepth 100000 in
theorem leaf_any (w : World) (A : Option Addr) (m : List UInt8) (c : Nat) (hs : Src w A m) (hc : m.length ≤ c) (hcm : c ≤ 9223372036854775807) (hm : m.length ≤ 1000000000) (ht : TabAt w 1) :
    Calls Tryd.prog 34 #[.slice A m.length c] w fun e w' => e = .returned (dv (leafS m)) ∧ Below w.heap.size w w' := by
  have HC := Lib.hid ht
  have htl := ht.lt
  have HT := Lib.hid (And.intro hs (And.intro hc hcm))
  clear ht hs hc hcm
  go_enter Tryd.func34, Tryd.ntmps34
  go_wp2_with fail
  refine (tagged_any _ leafNm (some ⟨w.heap.size + 1, 0, none⟩) [Tx.mk A m c] 1 (texts_list (w.heap.size + 1) (by simp) [Tx.mk A m c] _ _ rfl (fun x hx => by simp at hx; subst hx; exact ⟨HT.out.1.below ((Below.refl _ _).alloc (Nat.le_refl _) _), HT.out.2⟩)) (HC.out.below (below_alloc2 w _ _) htl) (by decide) (by rw [cat_one]; exact hm) (by simp)).mono ?_
  rintro e w1 ⟨rfl, hb1⟩
  have hr := Blk.below ((Blk.new w _ _).alloc _) hb1 (by simp; omega)
  have hb2 := (below_alloc2 w _ _).trans (hb1.mono (by simp; omega))
  rw [cat_one, show taggedS leafNm.data.toList (Tx.mk A m c).l = leafS m from rfl]
  clear hb1
  unfold dv
  go_wp2_with (refine wpList_store_row rfl 24 (.tmp 2) (.tmp 5) rfl w.heap.size _ rfl rfl 24 _ hr (dig_info (leafS_length m)) (by rw [dig_size (leafS_length m)]; rfl) (dig_one _) ?_)
  exact bodyPost_ret (results_cell_row rfl _ _ w.heap.size 24 _ (0, 0) _ rfl (hr.setRow _) Tryd.underlying24 rfl (dig_info (leafS_length m))) rfl ⟨rfl, below_setRow hb2 (Nat.le_refl _) _⟩

set_option maxHeartbeats 1000000 in
set_option maxRecDepth 100000 in
theorem leafR_any (w : World) (A : Option Addr) (m : List UInt8) (c : Nat) (hs : Src w A m) (hc : m.length ≤ c) (hcm : c ≤ 9223372036854775807) (hm : m.length ≤ 1000000000) (ht : TabAt w 0) :
    Calls Tryd.prog 35 #[.slice A m.length c] w fun e w' => e = .returned (dv (leafS m)) ∧ Below w.heap.size w w' := by
  have HC := Lib.hid ht
  have htl := ht.lt
  have HT := Lib.hid (And.intro hs (And.intro hc hcm))
  clear ht hs hc hcm
  go_enter Tryd.func35, Tryd.ntmps35
  go_wp2_with fail
  refine (taggedR_any _ leafNm (some ⟨w.heap.size + 1, 0, none⟩) [Tx.mk A m c] 1 (texts_list (w.heap.size + 1) (by simp) [Tx.mk A m c] _ _ rfl (fun x hx => by simp at hx; subst hx; exact ⟨HT.out.1.below ((Below.refl _ _).alloc (Nat.le_refl _) _), HT.out.2⟩)) (HC.out.below (below_alloc2 w _ _) htl) (by decide) (by rw [cat_one]; exact hm) (by simp)).mono ?_
  rintro e w1 ⟨rfl, hb1⟩
  have hr := Blk.below ((Blk.new w _ _).alloc _) hb1 (by simp; omega)
  have hb2 := (below_alloc2 w _ _).trans (hb1.mono (by simp; omega))
  rw [cat_one, show taggedS leafNm.data.toList (Tx.mk A m c).l = leafS m from rfl]
  clear hb1
  unfold dv
  go_wp2_with (refine wpList_store_row rfl 24 (.tmp 2) (.tmp 5) rfl w.heap.size _ rfl rfl 24 _ hr (dig_info (leafS_length m)) (by rw [dig_size (leafS_length m)]; rfl) (dig_one _) ?_)
  exact bodyPost_ret (results_cell_row rfl _ _ w.heap.size 24 _ (0, 0) _ rfl (hr.setRow _) Tryd.underlying24 rfl (dig_info (leafS_length m))) rfl ⟨rfl, below_setRow hb2 (Nat.le_refl _) _⟩

set_option maxHeartbeats 1000000 in
set_option maxRecDepth 100000 in
theorem nodeR_any (w : World) (l r : List UInt8) (hl : l.length = 32) (hr : r.length = 32) (ht : TabAt w 0) :
    Calls Tryd.prog 30 #[.agg (l.map bv).toArray, .agg (r.map bv).toArray] w fun e w' => e = .returned (dv (nodeS l r)) ∧ Below w.heap.size w w' := by
  have HC := Lib.hid ht
  have htl := ht.lt
  have HL := Lib.hid (And.intro hl hr)
  have hu := Tryd.underlying24
  have hi1 := dig_info' hl
  have hi2 := dig_info' hr
  clear ht hl hr
  go_enter Tryd.func30, Tryd.ntmps30
  go_wp2
  have hA := rangeAt_blk (((Blk.new w 24 (l.map bv).toArray).alloc (.cells (r.map bv).toArray 24)).alloc (.cells zeroDigest 24))
  have hB := rangeAt_blk (Blk.alloc (heap_alloc2_new w (.cells (l.map bv).toArray 24) (.cells (r.map bv).toArray 24)) (.cells zeroDigest 24))
  refine wp_region_G (fun j => j == 6) (by kernel_rfl) ?_
  refine wpAnyG_take 0 rfl (by kernel_rfl) (fun _ _ _ h => h) (YieldsG.load (by rfl) _ _ rfl w.heap.size 0 rfl (l.map bv) _ (by simp; omega) hA hu rfl hi1) ?_
  try simp only [Act.put, List.setIfInBounds_toArray, List.set_cons_zero, List.set_cons_succ]
  refine wpAnyG_take 2 rfl (by kernel_rfl) (fun _ _ _ h => h) (YieldsG.load (by rfl) _ _ rfl (w.heap.size + 1) 0 rfl (r.map bv) _ (by simp) hB hu rfl hi2) ?_
  try simp only [Act.put, List.setIfInBounds_toArray, List.set_cons_zero, List.set_cons_succ]
  refine wpAnyG_sole 1 rfl (by kernel_rfl) (by rfl) (fun w1 h1 K hK => ?_)
  go_simp
  refine (textR_any w1 l HL.out.1).mono ?_
  rintro e w2 ⟨g2, c2, rfl, ho2, hl2, hb2⟩
  refine hK _ _ (fun _ => hb2) ?_
  clear hK K
  try simp only [Act.put, List.setIfInBounds_toArray, List.set_cons_zero, List.set_cons_succ]
  refine wpAnyG_sole 3 rfl (by kernel_rfl) (by rfl) (fun w3 h3 K hK => ?_)
  go_simp
  refine (textR_any w3 r HL.out.2).mono ?_
  rintro e w4 ⟨g4, c4, rfl, ho4, hl4, hb4⟩
  refine hK _ _ (fun _ => hb4) ?_
  clear hK K
  try simp only [Act.put, List.setIfInBounds_toArray, List.set_cons_zero, List.set_cons_succ]
  have hR1 : Blk w1 (w.heap.size + 2) 24 _ := h1.blk (blk_new3 w _ _ _ _)
  have hR4 := ((hR1.below hb2 hR1.lt).below h3 (Nat.lt_of_lt_of_le hR1.lt hb2.size)).below hb4 (Nat.lt_of_lt_of_le hR1.lt (Nat.le_trans hb2.size (Below.size h3)))
  have hB4 : Below w.heap.size w w4 := Below.gr (Below.gr (Below.gr (Below.gr (below_alloc3 w _ _ _) h1) hb2) h3) hb4
  have s2 := ((ho2.src hl2).below h3).below hb4
  have s4 := ho4.src hl4
  have k2 := ho2.cap
  have k4 := ho4.cap
  clear hR1 ho2 ho4 hA hB
  refine wpAnyG_sole 4 rfl (by kernel_rfl) (by rfl) (fun w5 h5 K hK => ?_)
  go_simp
  refine hK _ _ (fun _ => gr_alloc _ _) ?_
  clear hK K
  try simp only [Act.put, List.setIfInBounds_toArray, List.set_cons_zero, List.set_cons_succ]
  have hx1 : (Tx.mk (some ⟨g2, 0, none⟩) l c2).ok w5 := ⟨s2.below h5, k2⟩
  have hx2 : (Tx.mk (some ⟨g4, 0, none⟩) r c4).ok w5 := ⟨s4.below h5, k4⟩
  have hT := texts_list (W := w5) _ rfl [Tx.mk (some ⟨g2, 0, none⟩) l c2, Tx.mk (some ⟨g4, 0, none⟩) r c4] 22 #[.slice (some ⟨g2, 0, none⟩) 32 c2, .slice (some ⟨g4, 0, none⟩) 32 c4]
    (by simp only [Tx.val, List.map_cons, List.map_nil, HL.out.1, HL.out.2]) (fun x hx => by simp at hx; rcases hx with rfl | rfl <;> assumption)
  have hR := Gr.blk h5 hR4
  have hb5 := Below.gr hB4 h5
  have HT := Lib.hid hT
  clear hx1 hx2 hT s2 s4 k2 k4 hR4
  refine wpAnyG_take 5 rfl (by kernel_rfl) (fun _ _ _ h => h) (YieldsG.call (v := .agg ((nodeS l r).map bv).toArray) (by rfl) 26 _ (fun w9 => by go_simp; try (first | with_reducible rfl | rfl)) (fun w9 h9 => calls_dv (taggedR_any w9 nodeNm _ [Tx.mk (some ⟨g2, 0, none⟩) l c2, Tx.mk (some ⟨g4, 0, none⟩) r c4] 2 (HT.out.below h9) (HC.out.below (Below.gr hb5 ((gr_alloc _ _).trans h9)) htl) (by decide) (by rw [cat_two]; simp only [List.length_append, HL.out.1, HL.out.2]; omega) (by simp)) (by rw [cat_two]; rfl))) ?_
  try simp only [Act.put, List.setIfInBounds_toArray, List.set_cons_zero, List.set_cons_succ]
  refine wpAnyG_store 6 rfl (by kernel_rfl) (by rfl) _ _ _ rfl (w.heap.size + 2) (((nodeS l r).map bv).toArray) rfl rfl _ _ (hR.alloc _) (dig_info (nodeS_length l r)) (by rw [dig_size (nodeS_length l r)]; rfl) (dig_one _) rfl (fun w6 h6 w7 hB7 hL7 => ?_)
  try simp only [Act.put]
  refine wpAnyG_done (by kernel_rfl) (fun w8 h8 => ?_)
  have hfin := h8.blk hL7
  have hb9 := (Below.gr hb5 ((gr_alloc _ _).trans h6)).trans ((hB7 _ (by omega)).trans (Below.mono h8 (by have := hL7.lt; omega)))
  go_wp2
  exact bodyPost_ret (results_cell_row rfl _ _ (w.heap.size + 2) 24 _ (0, 0) _ rfl hfin Tryd.underlying24 rfl (dig_info (nodeS_length l r))) rfl ⟨rfl, hb9⟩
end Go.Proofs.YtimnpakmifjgoaaDoor
