/-
  The law on Of, walked.
-/
import Derived.Test.YtbjfkfajhmcefaaDoorRefOf
import Derived.Test.YtbjfkfajhmcefaaDoorShaLess
import Derived.Test.YtbjfkfajhmcefaaDoorOwnAny
import Derived.Test.YtbjfkfajhmcefaaDoorTag
import Derived.Test.YtbjfkfajhmcefaaDoorStrOf
namespace Go.Proofs.YtbjfkfajhmcefaaDoor
open Go.RowKit Sp


set_option maxHeartbeats 4000000 in
set_option maxRecDepth 100000 in
theorem law_of (w : World) (A : Option Addr) (m : List UInt8) (c : Nat) (hA : Src w A m) (hm : m.length ≤ 140737488351232)
    (ht : TabAt w 1) (htr : TabAt w 0) :
    Calls Tryd.prog 3 #[.slice A m.length c] w fun e w' => e = .returned (.bool true) ∧ Below w.heap.size w w' := by
  have HA := Lib.hid hA
  have HC := Lib.hid ht
  have HR := Lib.hid htr
  have htl := ht.lt
  have hrl := htr.lt
  clear hA ht htr
  have hl : (sum m).length = 32 := sum_length _
  obtain ⟨X, hX⟩ : ∃ X, X = sum m := ⟨_, rfl⟩
  rw [← hX] at hl
  have e1 : ∀ W, (binOp .eql 24 (.agg (X.map bv).toArray) (.agg (X.map bv).toArray)).run Tryd.prog W = .ok (.bool true) W := fun W => by rw [run_eql_dv W _ _ hl hl]; simp
  have h1 : (X.map bv).toArray.all (·.oneCell') = true := by rw [hX]; exact sum_one _
  have hi : (Tryd.prog.info? 24).map (·.size) = some (X.map bv).toArray.size := by rw [hX]; exact sum_info _
  have hi2 : (Tryd.prog.info? 24).map (·.size) = some (X.map bv).length := by rw [hi]; simp
  have hds : (X.map bv).toArray.size = 32 := by rw [List.size_toArray, List.length_map, hl]
  have HX := Lib.hid (And.intro hX (And.intro h1 (And.intro hi hds)))
  have hu := Tryd.underlying24
  clear hX h1 hi hds hl
  go_enter Tryd.func3, Tryd.ntmps3
  go_wp2_with (at_builtin
               refine wpList_append_bytes rfl (.tmp 5) (.tmp 6) rfl w.heap.size _ [] rfl (OwnB.lit w _ (Nat.le_refl _)) A m c rfl (HA.out.below ((Below.refl _ _).alloc (Nat.le_refl _) _)) (by simp; omega) (by simp) ?_
               intro v1 w1 hv1 hg1
               have hb := below_own ((Below.refl w.heap.size w).alloc (Nat.le_refl _) (.cells #[] 5)) (OwnB.lit w _ (Nat.le_refl _)) hg1 (Nat.le_refl _) (by simp)
               have hv2 : OwnB w1 w.heap.size v1 m := by simpa using hv1
               obtain ⟨S, k, rfl, hs, hk, hkm⟩ := hv2.any
               have HS := Lib.hid hs
               clear hv1 hg1 hv2 hs)
  refine (of_any w1 S m k HS.out (HC.out.below hb htl) hk hkm (by omega)).mono ?_
  rintro e w2 ⟨rfl, hb2⟩
  rw [← HX.out.1]
  have hb3 := hb.trans (hb2.mono hb.size)
  have HS2 := Lib.hid (HS.out.below hb2)
  clear hb2
  unfold dv
  go_wp2_with (refine wpList_store_new rfl 24 (.tmp 4) (.tmp 9) rfl _ _ _ rfl rfl HX.out.2.2.1 (by rw [HX.out.2.2.2]; rfl) HX.out.2.1 ?_
               intro w3 hd3 hb4 hz3
               have hrg := rangeAt_blk hd3
               have hgl := hd3.lt
               have HS3 := Lib.hid (HS2.out.below hb4)
               have hb5 := hb3.trans (hb4.mono hb3.size)
               have HC3 := Lib.hid (HC.out.below hb5 htl)
               have HR3 := Lib.hid (HR.out.below hb5 hrl)
               have HA3 := Lib.hid (HA.out.below hb5)
               have htl3 := HC3.out.lt
               have hrl3 := HR3.out.lt
               clear hd3 hb4 hz3 hb hb3)
  refine wp_region_G (fun _ => false) (by kernel_rfl) ?_
  try simp only [Act.put]
  refine wpAnyG_take 0 rfl (by kernel_rfl) (fun _ _ _ h => h) (YieldsG.call (v := .bool true) (by rfl) 16 _ (fun w9 => by go_simp; try with_reducible rfl) (fun w9 h9 => alive_any w9 (HC3.out.below h9 htl3))) ?_
  try simp only [Act.put, List.setIfInBounds_toArray, List.set_cons_zero, List.set_cons_succ]
  refine wpAnyG_take 1 rfl (by kernel_rfl) (fun _ _ _ h => h) (YieldsG.pure (by rfl) (fun w9 _ => by go_simp; try with_reducible rfl)) ?_
  try simp only [Act.put, List.setIfInBounds_toArray, List.set_cons_zero, List.set_cons_succ]
  refine wpAnyG_take 2 rfl (by kernel_rfl) (fun _ _ _ h => h) (YieldsG.load (by rfl) _ _ rfl w2.heap.size 0 rfl (X.map bv) _ hgl hrg hu rfl hi2) ?_
  try simp only [Act.put, List.setIfInBounds_toArray, List.set_cons_zero, List.set_cons_succ]
  refine wpAnyG_take 3 rfl (by kernel_rfl) (fun _ _ _ h => h) (YieldsG.pure (by rfl) (fun w9 _ => by go_simp; try with_reducible rfl)) ?_
  try simp only [Act.put, List.setIfInBounds_toArray, List.set_cons_zero, List.set_cons_succ]
  refine wpAnyG_take 4 rfl (by kernel_rfl) (fun _ _ _ h => h) (YieldsG.call (v := .agg (X.map bv).toArray) (by rfl) 17 _ (fun w9 => by go_simp; try with_reducible rfl) (fun w9 h9 => calls_dv (ofR_any w9 A m c (HA3.out.below h9) (by omega) (HR3.out.below h9 hrl3)) HX.out.1)) ?_
  try simp only [Act.put, List.setIfInBounds_toArray, List.set_cons_zero, List.set_cons_succ]
  refine wpAnyG_take 5 rfl (by kernel_rfl) (fun _ _ _ h => h) (YieldsG.pure (by rfl) (fun w9 _ => by go_simp; try with_reducible rfl)) ?_
  try simp only [Act.put, List.setIfInBounds_toArray, List.set_cons_zero, List.set_cons_succ]
  refine wpAnyG_take 6 rfl (by kernel_rfl) (fun _ _ _ h => h) (YieldsG.pure (by rfl) (fun w9 _ => by go_simp; try with_reducible rfl)) ?_
  try simp only [Act.put, List.setIfInBounds_toArray, List.set_cons_zero, List.set_cons_succ]
  refine wpAnyG_take 7 rfl (by kernel_rfl) (fun _ _ _ h => h) (YieldsG.pure (by rfl) (fun w9 _ => by go_simp; try with_reducible rfl)) ?_
  try simp only [Act.put, List.setIfInBounds_toArray, List.set_cons_zero, List.set_cons_succ]
  refine wpAnyG_take 8 rfl (by kernel_rfl) (fun _ _ _ h => h) (YieldsG.pure (by rfl) (fun w9 _ => by go_simp; try with_reducible rfl)) ?_
  try simp only [Act.put, List.setIfInBounds_toArray, List.set_cons_zero, List.set_cons_succ]
  refine wpAnyG_take 9 rfl (by kernel_rfl) (fun _ _ _ h => h) (YieldsG.pure (v := .string ⟨m.toArray⟩) (by rfl) (fun w9 h9 => by have hrun := run_string_of (P := Tryd.prog) (dst := 9) (c := k) (HS3.out.below h9) Tryd.underlying22 Tryd.underlying5 Tryd.underlying9; go_simp)) ?_
  try simp only [Act.put, List.setIfInBounds_toArray, List.set_cons_zero, List.set_cons_succ]
  refine wpAnyG_take 10 rfl (by kernel_rfl) (fun _ _ _ h => h) (YieldsG.pure (by rfl) (fun w9 _ => by go_simp; try with_reducible rfl)) ?_
  try simp only [Act.put, List.setIfInBounds_toArray, List.set_cons_zero, List.set_cons_succ]
  refine wpAnyG_take 11 rfl (by kernel_rfl) (fun _ _ _ h => h) (YieldsG.pure (v := .string ⟨m.toArray⟩) (by rfl) (fun w9 h9 => by have hrun := run_string_of (P := Tryd.prog) (dst := 9) (c := c) (HA3.out.below h9) Tryd.underlying22 Tryd.underlying5 Tryd.underlying9; go_simp)) ?_
  try simp only [Act.put, List.setIfInBounds_toArray, List.set_cons_zero, List.set_cons_succ]
  refine wpAnyG_take 12 rfl (by kernel_rfl) (fun _ _ _ h => h) (YieldsG.pure (by rfl) (fun w9 _ => by go_simp; try with_reducible rfl)) ?_
  try simp only [Act.put, List.setIfInBounds_toArray, List.set_cons_zero, List.set_cons_succ]
  refine wpAnyG_take 13 rfl (by kernel_rfl) (fun _ _ _ h => h) (YieldsG.pure (by rfl) (fun w9 _ => by go_simp; try with_reducible rfl)) ?_
  try simp only [Act.put, List.setIfInBounds_toArray, List.set_cons_zero, List.set_cons_succ]
  refine wpAnyG_take 14 rfl (by kernel_rfl) (fun _ _ _ h => h) (YieldsG.pure (by rfl) (fun w9 _ => by go_simp; try with_reducible rfl)) ?_
  try simp only [Act.put, List.setIfInBounds_toArray, List.set_cons_zero, List.set_cons_succ]
  refine wpAnyG_done (by kernel_rfl) (fun w5 h5 => ?_)
  go_wp2
  go_ret
  exact ⟨rfl, hb5.trans (Below.mono h5 hb5.size)⟩
end Go.Proofs.YtbjfkfajhmcefaaDoor
