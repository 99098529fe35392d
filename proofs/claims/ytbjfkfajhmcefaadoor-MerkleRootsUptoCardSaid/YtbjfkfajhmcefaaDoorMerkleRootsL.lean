/-
  The law on roots, walked.
-/
import Derived.Test.YtbjfkfajhmcefaaDoorMAlive
namespace Go.Proofs.YtbjfkfajhmcefaaDoor
open Go.RowKit Sp

set_option maxHeartbeats 1000000 in
set_option maxRecDepth 100000 in
theorem law_roots_few (w : World) (A X : Option Addr) (ds : List (List UInt8)) (m : List UInt8) (n c cx : Nat) (hn : n = ds.length) (hm : n ≤ 1048576) (hs : DSrc w A ds) (hc : n ≤ c) (hcm : c ≤ 9223372036854775807) (hml : m.length ≤ 1048576) (hsx : Src w X m) (hcx : m.length ≤ cx) (hcxm : cx ≤ 9223372036854775807) (ht : TabAt w 1) (htr : TabAt w 0) (h1 : n ≤ 1) :
    Calls Tryd.prog 9 #[.slice A n c, .slice X m.length cx] w fun e w' => e = .returned (.bool true) ∧ Below w.heap.size w w' := by
  have HC := Lib.hid ht
  have HR := Lib.hid htr
  have htl := ht.lt
  have hrl := htr.lt
  obtain ⟨N, hN⟩ : ∃ N, N = rootS ds := ⟨_, rfl⟩
  obtain ⟨M, hM⟩ : ∃ M, M = leafS m := ⟨_, rfl⟩
  have lN : N.length = 32 := by rw [hN]; exact rootS_length _ hs.1
  have lM : M.length = 32 := by rw [hM]; exact leafS_length m
  have eN : ∀ W, (binOp .eql 24 (.agg (N.map bv).toArray) (.agg (N.map bv).toArray)).run Tryd.prog W = .ok (.bool true) W := fun W => by rw [run_eql_digs W _ _ lN lN]; simp
  have eL : ∀ W, (binOp .eql 24 (.agg (M.map bv).toArray) (.agg (M.map bv).toArray)).run Tryd.prog W = .ok (.bool true) W := fun W => by rw [run_eql_digs W _ _ lM lM]; simp
  have HN := Lib.hid (And.intro hN hM)
  have HH := Lib.hid hn
  have p1 : ¬ (1 : Int) < (n : Int) := by omega
  have p2 : (n : Int) ≤ 1 := by omega
  clear ht htr hN hM lN lM hn
  go_enter Tryd.func9, Tryd.ntmps9
  go_wp2
  refine wp_region_G (fun _ => false) (by kernel_rfl) ?_
  refine wpAnyG_take 0 rfl (by kernel_rfl) (fun _ _ _ h => h) (YieldsG.pure (by rfl) (fun w9 _ => by go_simp; try with_reducible rfl)) ?_
  try simp only [Act.put, List.setIfInBounds_toArray, List.set_cons_zero, List.set_cons_succ]
  refine wpAnyG_take 1 rfl (by kernel_rfl) (fun _ _ _ h => h) (YieldsG.pure (by rfl) (fun w9 _ => by go_simp; try with_reducible rfl)) ?_
  try simp only [Act.put, List.setIfInBounds_toArray, List.set_cons_zero, List.set_cons_succ]
  refine wpAnyG_take 2 rfl (by kernel_rfl) (fun _ _ _ h => h) (YieldsG.pure (by rfl) (fun w9 _ => by go_simp; try with_reducible rfl)) ?_
  try simp only [Act.put, List.setIfInBounds_toArray, List.set_cons_zero, List.set_cons_succ]
  refine wpAnyG_take 3 rfl (by kernel_rfl) (fun _ _ _ h => h) (YieldsG.pure (by rfl) (fun w9 _ => by go_simp; try with_reducible rfl)) ?_
  try simp only [Act.put, List.setIfInBounds_toArray, List.set_cons_zero, List.set_cons_succ]
  rw [decide_eq_false (show ¬ (1 : Int) < (n : Int) by omega)]
  refine wpAnyG_take 4 rfl (by kernel_rfl) (fun _ _ _ h => h) (YieldsG.skip (by rfl)) ?_
  try simp only [Act.put, List.setIfInBounds_toArray, List.set_cons_zero, List.set_cons_succ]
  refine wpAnyG_take 5 rfl (by kernel_rfl) (fun _ _ _ h => h) (YieldsG.skip (by rfl)) ?_
  try simp only [Act.put, List.setIfInBounds_toArray, List.set_cons_zero, List.set_cons_succ]
  refine wpAnyG_take 6 rfl (by kernel_rfl) (fun _ _ _ h => h) (YieldsG.skip (by rfl)) ?_
  try simp only [Act.put, List.setIfInBounds_toArray, List.set_cons_zero, List.set_cons_succ]
  refine wpAnyG_take 7 rfl (by kernel_rfl) (fun _ _ _ h => h) (YieldsG.skip (by rfl)) ?_
  try simp only [Act.put, List.setIfInBounds_toArray, List.set_cons_zero, List.set_cons_succ]
  refine wpAnyG_take 8 rfl (by kernel_rfl) (fun _ _ _ h => h) (YieldsG.skip (by rfl)) ?_
  try simp only [Act.put, List.setIfInBounds_toArray, List.set_cons_zero, List.set_cons_succ]
  refine wpAnyG_take 9 rfl (by kernel_rfl) (fun _ _ _ h => h) (YieldsG.skip (by rfl)) ?_
  try simp only [Act.put, List.setIfInBounds_toArray, List.set_cons_zero, List.set_cons_succ]
  refine wpAnyG_take 10 rfl (by kernel_rfl) (fun _ _ _ h => h) (YieldsG.skip (by rfl)) ?_
  try simp only [Act.put, List.setIfInBounds_toArray, List.set_cons_zero, List.set_cons_succ]
  refine wpAnyG_take 11 rfl (by kernel_rfl) (fun _ _ _ h => h) (YieldsG.skip (by rfl)) ?_
  try simp only [Act.put, List.setIfInBounds_toArray, List.set_cons_zero, List.set_cons_succ]
  refine wpAnyG_take 12 rfl (by kernel_rfl) (fun _ _ _ h => h) (YieldsG.skip (by rfl)) ?_
  try simp only [Act.put, List.setIfInBounds_toArray, List.set_cons_zero, List.set_cons_succ]
  refine wpAnyG_take 13 rfl (by kernel_rfl) (fun _ _ _ h => h) (YieldsG.skip (by rfl)) ?_
  try simp only [Act.put, List.setIfInBounds_toArray, List.set_cons_zero, List.set_cons_succ]
  refine wpAnyG_take 14 rfl (by kernel_rfl) (fun _ _ _ h => h) (YieldsG.skip (by rfl)) ?_
  try simp only [Act.put, List.setIfInBounds_toArray, List.set_cons_zero, List.set_cons_succ]
  refine wpAnyG_take 15 rfl (by kernel_rfl) (fun _ _ _ h => h) (YieldsG.skip (by rfl)) ?_
  try simp only [Act.put, List.setIfInBounds_toArray, List.set_cons_zero, List.set_cons_succ]
  refine wpAnyG_take 16 rfl (by kernel_rfl) (fun _ _ _ h => h) (YieldsG.skip (by rfl)) ?_
  try simp only [Act.put, List.setIfInBounds_toArray, List.set_cons_zero, List.set_cons_succ]
  refine wpAnyG_take 17 rfl (by kernel_rfl) (fun _ _ _ h => h) (YieldsG.skip (by rfl)) ?_
  try simp only [Act.put, List.setIfInBounds_toArray, List.set_cons_zero, List.set_cons_succ]
  refine wpAnyG_take 18 rfl (by kernel_rfl) (fun _ _ _ h => h) (YieldsG.skip (by rfl)) ?_
  try simp only [Act.put, List.setIfInBounds_toArray, List.set_cons_zero, List.set_cons_succ]
  refine wpAnyG_take 19 rfl (by kernel_rfl) (fun _ _ _ h => h) (YieldsG.pure (by rfl) (fun w9 _ => by go_simp; try with_reducible rfl)) ?_
  try simp only [Act.put, List.setIfInBounds_toArray, List.set_cons_zero, List.set_cons_succ]
  refine wpAnyG_done (by kernel_rfl) (fun w8 h8 => ?_)
  have HS := Lib.hid (hs.below h8)
  have HX := Lib.hid (hsx.below h8)
  have hb : Below w.heap.size w w8 := h8
  clear hs hsx h8
  go_wp2_with fail
  refine (alive2_any w8 (HC.out.below hb htl) (HR.out.below hb hrl)).mono ?_
  rintro e w1 ⟨rfl, hb1⟩
  have HS := Lib.hid (HS.out.below hb1)
  have HX := Lib.hid (HX.out.below hb1)
  have hb := hb.trans (hb1.mono hb.size)
  clear hb1
  go_wp2_with fail
  refine (calls_dv (root_any n w1 A ds n c (Nat.le_refl _) HH.out hm HS.out hc hcm (HC.out.below hb htl)) HN.out.1).mono ?_
  rintro e w2 ⟨rfl, hb2⟩
  have HS := Lib.hid (HS.out.below hb2)
  have HX := Lib.hid (HX.out.below hb2)
  have hb := Below.gr hb hb2
  clear hb2
  go_wp2_with fail
  refine (calls_dv (rootR_any n w2 A ds n c (Nat.le_refl _) HH.out hm HS.out hc hcm (HR.out.below hb hrl)) HN.out.1).mono ?_
  rintro e w3 ⟨rfl, hb3⟩
  have HX := Lib.hid (HX.out.below hb3)
  have hb := Below.gr hb hb3
  clear hb3
  go_wp2_with fail
  refine (calls_dv (leaf_any w3 X m cx HX.out hcx hcxm (by omega) (HC.out.below hb htl)) HN.out.2).mono ?_
  rintro e w4 ⟨rfl, hb4⟩
  have HX := Lib.hid (HX.out.below hb4)
  have hb := Below.gr hb hb4
  clear hb4
  go_wp2_with fail
  refine (calls_dv (leafR_any w4 X m cx HX.out hcx hcxm (by omega) (HR.out.below hb hrl)) HN.out.2).mono ?_
  rintro e w5 ⟨rfl, hb5⟩
  have hb := Below.gr hb hb5
  clear hb5
  go_wp2
  go_ret
  exact ⟨rfl, hb⟩

set_option maxHeartbeats 1000000 in
set_option maxRecDepth 100000 in
theorem law_roots_more (w : World) (A X : Option Addr) (ds : List (List UInt8)) (m : List UInt8) (n c cx : Nat) (hn : n = ds.length) (hm : n ≤ 1048576) (hs : DSrc w A ds) (hc : n ≤ c) (hcm : c ≤ 9223372036854775807) (hml : m.length ≤ 1048576) (hsx : Src w X m) (hcx : m.length ≤ cx) (hcxm : cx ≤ 9223372036854775807) (ht : TabAt w 1) (htr : TabAt w 0) (h1 : 2 ≤ n) :
    Calls Tryd.prog 9 #[.slice A n c, .slice X m.length cx] w fun e w' => e = .returned (.bool true) ∧ Below w.heap.size w w' := by
  have HC := Lib.hid ht
  have HR := Lib.hid htr
  have htl := ht.lt
  have hrl := htr.lt
  obtain ⟨N, hN⟩ : ∃ N, N = rootS ds := ⟨_, rfl⟩
  obtain ⟨M, hM⟩ : ∃ M, M = leafS m := ⟨_, rfl⟩
  have lN : N.length = 32 := by rw [hN]; exact rootS_length _ hs.1
  have lM : M.length = 32 := by rw [hM]; exact leafS_length m
  have eN : ∀ W, (binOp .eql 24 (.agg (N.map bv).toArray) (.agg (N.map bv).toArray)).run Tryd.prog W = .ok (.bool true) W := fun W => by rw [run_eql_digs W _ _ lN lN]; simp
  have eL : ∀ W, (binOp .eql 24 (.agg (M.map bv).toArray) (.agg (M.map bv).toArray)).run Tryd.prog W = .ok (.bool true) W := fun W => by rw [run_eql_digs W _ _ lM lM]; simp
  have HN := Lib.hid (And.intro hN hM)
  obtain ⟨x, y, hx, hy⟩ : ∃ x y, ds[0]? = some x ∧ ds[1]? = some y := ⟨ds[0]'(by omega), ds[1]'(by omega), List.getElem?_eq_getElem _, List.getElem?_eq_getElem _⟩
  have lx : x.length = 32 := hs.1 x (List.mem_of_getElem? hx)
  have ly : y.length = 32 := hs.1 y (List.mem_of_getElem? hy)
  obtain ⟨b, o, rfl, hlt, hrg⟩ := hs.2 (fun e => by rw [e] at hn; simp at hn; omega)
  have r0 : w.rangeAt b o (x.map bv) := by simpa using hrg 0 x hx
  have r1 : w.rangeAt b (o + 32) (y.map bv) := by simpa using hrg 1 y hy
  have hu := Tryd.underlying24
  have hix := dig_info' lx
  have hiy := dig_info' ly
  obtain ⟨D, hD⟩ : ∃ D, D = nodeS x y := ⟨_, rfl⟩
  have lD : D.length = 32 := by rw [hD]; exact nodeS_length x y
  have eD : ∀ W, (binOp .neq 24 (.agg (D.map bv).toArray) (.agg (D.map bv).toArray)).run Tryd.prog W = .ok (.bool false) W := fun W => by rw [run_neq_digs W _ _ lD lD]; simp
  have HD := Lib.hid (And.intro hD (And.intro lx ly))
  have HH := Lib.hid hn
  have p1 : (1 : Int) < (n : Int) := by omega
  have p0 : (0 : Int) < (n : Int) := by omega
  clear ht htr hN hM lN lM hn hx hy lx ly hrg hD lD
  go_enter Tryd.func9, Tryd.ntmps9
  go_wp2
  refine wp_region_G (fun _ => false) (by kernel_rfl) ?_
  refine wpAnyG_take 0 rfl (by kernel_rfl) (fun _ _ _ h => h) (YieldsG.pure (by rfl) (fun w9 _ => by go_simp; try with_reducible rfl)) ?_
  try simp only [Act.put, List.setIfInBounds_toArray, List.set_cons_zero, List.set_cons_succ]
  refine wpAnyG_take 1 rfl (by kernel_rfl) (fun _ _ _ h => h) (YieldsG.pure (by rfl) (fun w9 _ => by go_simp; try with_reducible rfl)) ?_
  try simp only [Act.put, List.setIfInBounds_toArray, List.set_cons_zero, List.set_cons_succ]
  refine wpAnyG_take 2 rfl (by kernel_rfl) (fun _ _ _ h => h) (YieldsG.pure (by rfl) (fun w9 _ => by go_simp; try with_reducible rfl)) ?_
  try simp only [Act.put, List.setIfInBounds_toArray, List.set_cons_zero, List.set_cons_succ]
  refine wpAnyG_take 3 rfl (by kernel_rfl) (fun _ _ _ h => h) (YieldsG.pure (by rfl) (fun w9 _ => by go_simp; try with_reducible rfl)) ?_
  try simp only [Act.put, List.setIfInBounds_toArray, List.set_cons_zero, List.set_cons_succ]
  try rw [decide_eq_true p1]
  refine wpAnyG_take 4 rfl (by kernel_rfl) (fun _ _ _ h => h) (YieldsG.pure (by rfl) (fun w9 _ => by go_simp; try with_reducible rfl)) ?_
  try simp only [Act.put, List.setIfInBounds_toArray, List.set_cons_zero, List.set_cons_succ]
  refine wpAnyG_take 5 rfl (by kernel_rfl) (fun _ _ _ h => h) (YieldsG.pure (v := .pointer (some ⟨b, o, none⟩)) (by rfl) (fun w9 h9 => by go_simp; first | done | (intro h0; omega) | rfl)) ?_
  try simp only [Act.put, List.setIfInBounds_toArray, List.set_cons_zero, List.set_cons_succ]
  refine wpAnyG_take 6 rfl (by kernel_rfl) (fun _ _ _ h => h) (YieldsG.load (by rfl) _ _ rfl b (o) rfl (x.map bv) _ hlt r0 hu rfl hix) ?_
  try simp only [Act.put, List.setIfInBounds_toArray, List.set_cons_zero, List.set_cons_succ]
  refine wpAnyG_take 7 rfl (by kernel_rfl) (fun _ _ _ h => h) (YieldsG.pure (by rfl) (fun w9 _ => by go_simp; try with_reducible rfl)) ?_
  try simp only [Act.put, List.setIfInBounds_toArray, List.set_cons_zero, List.set_cons_succ]
  refine wpAnyG_take 8 rfl (by kernel_rfl) (fun _ _ _ h => h) (YieldsG.pure (v := .pointer (some ⟨b, o + 32, none⟩)) (by rfl) (fun w9 h9 => by go_simp; first | done | (intro h0; omega) | rfl)) ?_
  try simp only [Act.put, List.setIfInBounds_toArray, List.set_cons_zero, List.set_cons_succ]
  refine wpAnyG_take 9 rfl (by kernel_rfl) (fun _ _ _ h => h) (YieldsG.load (by rfl) _ _ rfl b (o + 32) rfl (y.map bv) _ hlt r1 hu rfl hiy) ?_
  try simp only [Act.put, List.setIfInBounds_toArray, List.set_cons_zero, List.set_cons_succ]
  refine wpAnyG_take 10 rfl (by kernel_rfl) (fun _ _ _ h => h) (YieldsG.call (v := .agg (D.map bv).toArray) (by rfl) 29 _ (fun w9 => by go_simp; try (first | with_reducible rfl | rfl)) (fun w9 h9 => calls_dv (node_any w9 x y HD.out.2.1 HD.out.2.2 (HC.out.below h9 htl)) HD.out.1)) ?_
  try simp only [Act.put, List.setIfInBounds_toArray, List.set_cons_zero, List.set_cons_succ]
  refine wpAnyG_take 11 rfl (by kernel_rfl) (fun _ _ _ h => h) (YieldsG.pure (by rfl) (fun w9 _ => by go_simp; try with_reducible rfl)) ?_
  try simp only [Act.put, List.setIfInBounds_toArray, List.set_cons_zero, List.set_cons_succ]
  refine wpAnyG_take 12 rfl (by kernel_rfl) (fun _ _ _ h => h) (YieldsG.pure (v := .pointer (some ⟨b, o, none⟩)) (by rfl) (fun w9 h9 => by go_simp; first | done | (intro h0; omega) | rfl)) ?_
  try simp only [Act.put, List.setIfInBounds_toArray, List.set_cons_zero, List.set_cons_succ]
  refine wpAnyG_take 13 rfl (by kernel_rfl) (fun _ _ _ h => h) (YieldsG.load (by rfl) _ _ rfl b (o) rfl (x.map bv) _ hlt r0 hu rfl hix) ?_
  try simp only [Act.put, List.setIfInBounds_toArray, List.set_cons_zero, List.set_cons_succ]
  refine wpAnyG_take 14 rfl (by kernel_rfl) (fun _ _ _ h => h) (YieldsG.pure (by rfl) (fun w9 _ => by go_simp; try with_reducible rfl)) ?_
  try simp only [Act.put, List.setIfInBounds_toArray, List.set_cons_zero, List.set_cons_succ]
  refine wpAnyG_take 15 rfl (by kernel_rfl) (fun _ _ _ h => h) (YieldsG.pure (v := .pointer (some ⟨b, o + 32, none⟩)) (by rfl) (fun w9 h9 => by go_simp; first | done | (intro h0; omega) | rfl)) ?_
  try simp only [Act.put, List.setIfInBounds_toArray, List.set_cons_zero, List.set_cons_succ]
  refine wpAnyG_take 16 rfl (by kernel_rfl) (fun _ _ _ h => h) (YieldsG.load (by rfl) _ _ rfl b (o + 32) rfl (y.map bv) _ hlt r1 hu rfl hiy) ?_
  try simp only [Act.put, List.setIfInBounds_toArray, List.set_cons_zero, List.set_cons_succ]
  refine wpAnyG_take 17 rfl (by kernel_rfl) (fun _ _ _ h => h) (YieldsG.call (v := .agg (D.map bv).toArray) (by rfl) 30 _ (fun w9 => by go_simp; try (first | with_reducible rfl | rfl)) (fun w9 h9 => calls_dv (nodeR_any w9 x y HD.out.2.1 HD.out.2.2 (HR.out.below h9 hrl)) HD.out.1)) ?_
  try simp only [Act.put, List.setIfInBounds_toArray, List.set_cons_zero, List.set_cons_succ]
  refine wpAnyG_take 18 rfl (by kernel_rfl) (fun _ _ _ h => h) (YieldsG.pure (by rfl) (fun w9 _ => by go_simp; try with_reducible rfl)) ?_
  try simp only [Act.put, List.setIfInBounds_toArray, List.set_cons_zero, List.set_cons_succ]
  refine wpAnyG_take 19 rfl (by kernel_rfl) (fun _ _ _ h => h) (YieldsG.pure (by rfl) (fun w9 _ => by go_simp; try with_reducible rfl)) ?_
  try simp only [Act.put, List.setIfInBounds_toArray, List.set_cons_zero, List.set_cons_succ]
  refine wpAnyG_done (by kernel_rfl) (fun w8 h8 => ?_)
  have HS := Lib.hid (hs.below h8)
  have HX := Lib.hid (hsx.below h8)
  have hb : Below w.heap.size w w8 := h8
  clear hs hsx h8
  go_wp2_with fail
  refine (alive2_any w8 (HC.out.below hb htl) (HR.out.below hb hrl)).mono ?_
  rintro e w1 ⟨rfl, hb1⟩
  have HS := Lib.hid (HS.out.below hb1)
  have HX := Lib.hid (HX.out.below hb1)
  have hb := hb.trans (hb1.mono hb.size)
  clear hb1
  go_wp2_with fail
  refine (calls_dv (root_any n w1 (some ⟨b, o, none⟩) ds n c (Nat.le_refl _) HH.out hm HS.out hc hcm (HC.out.below hb htl)) HN.out.1).mono ?_
  rintro e w2 ⟨rfl, hb2⟩
  have HS := Lib.hid (HS.out.below hb2)
  have HX := Lib.hid (HX.out.below hb2)
  have hb := Below.gr hb hb2
  clear hb2
  go_wp2_with fail
  refine (calls_dv (rootR_any n w2 (some ⟨b, o, none⟩) ds n c (Nat.le_refl _) HH.out hm HS.out hc hcm (HR.out.below hb hrl)) HN.out.1).mono ?_
  rintro e w3 ⟨rfl, hb3⟩
  have HX := Lib.hid (HX.out.below hb3)
  have hb := Below.gr hb hb3
  clear hb3
  go_wp2_with fail
  refine (calls_dv (leaf_any w3 X m cx HX.out hcx hcxm (by omega) (HC.out.below hb htl)) HN.out.2).mono ?_
  rintro e w4 ⟨rfl, hb4⟩
  have HX := Lib.hid (HX.out.below hb4)
  have hb := Below.gr hb hb4
  clear hb4
  go_wp2_with fail
  refine (calls_dv (leafR_any w4 X m cx HX.out hcx hcxm (by omega) (HR.out.below hb hrl)) HN.out.2).mono ?_
  rintro e w5 ⟨rfl, hb5⟩
  have hb := Below.gr hb hb5
  clear hb5
  go_wp2
  go_ret
  exact ⟨rfl, hb⟩

theorem law_roots (w : World) (A : Option Addr) (ds : List (List UInt8)) (c : Nat) (X : Option Addr) (m : List UInt8) (cx : Nat) (hm : ds.length ≤ 1048576) (hs : DSrc w A ds) (hc : ds.length ≤ c) (hcm : c ≤ 9223372036854775807) (hml : m.length ≤ 1048576) (hsx : Src w X m) (hcx : m.length ≤ cx) (hcxm : cx ≤ 9223372036854775807) (ht : TabAt w 1) (htr : TabAt w 0) :
    Calls Tryd.prog 9 #[.slice A ds.length c, .slice X m.length cx] w fun e w' => e = .returned (.bool true) ∧ Below w.heap.size w w' := by
  rcases Nat.lt_or_ge ds.length 2 with h | h
  · exact law_roots_few w A X ds m _ c cx rfl hm hs hc hcm hml hsx hcx hcxm ht htr (by omega)
  · exact law_roots_more w A X ds m _ c cx rfl hm hs hc hcm hml hsx hcx hcxm ht htr h
end Go.Proofs.YtbjfkfajhmcefaaDoor
