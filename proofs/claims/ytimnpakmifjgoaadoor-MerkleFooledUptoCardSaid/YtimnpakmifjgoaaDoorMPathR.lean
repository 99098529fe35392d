/-
  Path: the document's; are two paths the same?
-/
import Derived.Test.YtimnpakmifjgoaaDoorMPath
namespace Go.Proofs.YtimnpakmifjgoaaDoor
open Go.RowKit Sp

set_option maxHeartbeats 4000000 in
set_option maxRecDepth 100000 in
theorem pathR_any (f : Nat) : ∀ (w : World) (A : Option Addr) (ds : List (List UInt8)) (n c i : Nat), n ≤ f → n = ds.length → i < n → n ≤ 1048576 → DSrc w A ds → n ≤ c → c ≤ 9223372036854775807 → TabAt w 0 →
    Calls Tryd.prog 37 #[.slice A n c, .int .i64 i] w (PathPost w (pathS ds i)) := by
  induction f with
  | zero =>
    intro w A ds n c i hf hn hi
    omega
  | succ f ih =>
    intro w A ds n c i hf hn hi hm hs hc hcm ht
    have HC := Lib.hid ht
    have htl := ht.lt
    clear ht
    have hii : (0 : Int) ≤ (i : Int) := by omega
    have hin : (i : Int) < (n : Int) := by omega
    rcases Nat.lt_or_ge n 2 with h2 | h2
    · obtain rfl : n = 1 := by omega
      have hp := pathS_one ds i (by omega)
      rw [hp]
      clear hn hp hs
      go_enter Tryd.func37, Tryd.ntmps37
      go_wp2
      go_ret2
      exact ⟨_, rfl, OwnE.nil _ _ _ _, Below.refl _ _⟩
    · obtain ⟨b, o, rfl, hlt⟩ := hs.addr (by omega)
      obtain ⟨c0, c1, c2, _⟩ := cut_spec n h2 (by omega)
      have hpl : i < cut n → pathS ds i = pathS (ds.take (cut n)) i ++ [rootS (ds.drop (cut n))] := by rw [hn]; exact pathS_left ds i (by omega) (by omega)
      have hpr : ¬ i < cut n → pathS ds i = pathS (ds.drop (cut n)) (i - cut n) ++ [rootS (ds.take (cut n))] := by rw [hn]; exact pathS_right ds i (by omega) (by omega)
      have hlk : (ds.take (cut n)).length = cut n := by rw [List.length_take]; omega
      have hrk : (ds.drop (cut n)).length = n - cut n := by rw [List.length_drop]; omega
      have hsl : DSrc w (some ⟨b, o, none⟩) (ds.take (cut n)) := hs.take _
      have hsr : DSrc w (some ⟨b, o + cut n * 32, none⟩) (ds.drop (cut n)) := hs.drop _
      obtain ⟨L, hL⟩ : ∃ L, L = ds.take (cut n) := ⟨_, rfl⟩
      obtain ⟨R, hR⟩ : ∃ R, R = ds.drop (cut n) := ⟨_, rfl⟩
      rw [← hL] at hpl hpr hlk hsl
      rw [← hR] at hpl hpr hrk hsr
      have xl : (rootS L).length = 32 := rootS_length _ hsl.1
      have xr : (rootS R).length = 32 := rootS_length _ hsr.1
      obtain ⟨X, hX⟩ : ∃ X, X = rootS L := ⟨_, rfl⟩
      obtain ⟨Y, hY⟩ : ∃ Y, Y = rootS R := ⟨_, rfl⟩
      obtain ⟨k, hk⟩ : ∃ k, k = cut n := ⟨_, rfl⟩
      rw [← hX] at hpr xl
      rw [← hY] at hpl xr
      rw [← hk] at c0 c1 c2 hlk hrk hsr hpl hpr
      have HS := Lib.hid (And.intro hsl hsr)
      have HX := Lib.hid (And.intro hX hY)
      have HL := Lib.hid (And.intro xl xr)
      have HK := Lib.hid (And.intro hk (And.intro hlk hrk))
      have HP := Lib.hid (And.intro hpl hpr)
      clear hs hn hpl hpr hsl hsr hL hR hX hY xl xr hk hlk hrk
      have a1 : (0 : Int) ≤ (k : Int) := by omega
      have a2 : (k : Int) ≤ (n : Int) := by omega
      have a3 : (n : Int) ≤ (c : Int) := by omega
      have a4 : (k : Int) ≤ (c : Int) := by omega
      have a6 : ¬ c = k := by omega
      by_cases hik : i < k
      · rw [HP.out.1 hik]
        go_enter Tryd.func37, Tryd.ntmps37
        go_wp2_with fail
        refine (refCut_any n _ h2 (by omega)).mono ?_
        rintro e w1 ⟨rfl, rfl⟩
        rw [← HK.out.1]
        go_wp2_with fail
        refine (ih w _ L k c i (by omega) HK.out.2.1.symm (by omega) (by omega) HS.out.1 (by omega) hcm HC.out).mono ?_
        rintro e w2 ⟨v, rfl, hown, hb2⟩
        have hpl := pathS_length L i
        rw [HK.out.2.1] at hpl
        obtain ⟨A2, c2, rfl, hs2, _, _⟩ := hown.any
        have HS2 := Lib.hid hs2
        obtain ⟨p, hp⟩ : ∃ p, p = pathS L i := ⟨_, rfl⟩
        rw [← hp] at HS2 hpl
        rw [← hp]
        have HPP := Lib.hid hp
        have hz2 := hb2.size
        clear hown hs2 hp
        go_wp2_with (at_builtin
                     refine wpList_append_digs rfl (.tmp 37) (.tmp 38) rfl w.heap.size (.slice none 0 0) [] rfl (OwnD.nil _ _) A2 p p.length c2 rfl rfl HS2.out (by simp only [List.length_nil]; omega) hz2 ?_
                     intro v3 w3 hv3 hg3 _
                     have hb3 := below_ownD hb2 (OwnD.nil w2 w.heap.size) hg3 (Nat.le_refl _) hz2
                     have hown3 : OwnD w3 w.heap.size v3 p := by simpa using hv3
                     clear hv3 hg3)
        refine (rootR_any (n - k) w3 _ R (n - k) (c - k) (Nat.le_refl _) HK.out.2.2.symm (by omega) (HS.out.2.below hb3) (by omega) (by omega) (HC.out.below hb3 htl)).mono ?_
        rintro e w4 ⟨rfl, hb4⟩
        rw [← HX.out.2]
        have hown4 := hown3.below hb4
        have hb5 := hb3.trans (hb4.mono hb3.size)
        clear hb4
        unfold dv
        go_wp2_with (first
          | (refine wpList_one_dig rfl (.tmp 44) rfl Y HL.out.2 rfl w4.heap.size rfl ?_
             intro w5 hd5 hb6 hl5
             have hown5 := hown4.below hb6
             have hB := hb5.trans (hb6.mono hb5.size))
          | (at_builtin
             refine wpList_append_digs rfl (.tmp 40) (.tmp 45) rfl w.heap.size v3 p rfl hown5 _ [Y] 1 1 rfl rfl hd5 (by simp only [List.length_singleton]; omega) hB.size ?_
             intro v6 w6 hv6 hg6 _
             have hb7 := below_ownD hB hown5 hg6 (Nat.le_refl _) hB.size))
        go_ret2
        exact ⟨_, rfl, by rw [← HPP.out]; exact hv6, hb7⟩
      · rw [HP.out.2 hik]
        have hki : (k : Int) ≤ (i : Int) := by omega
        have hsub : (i : Int) - (k : Int) = ((i - k : Nat) : Int) := by omega
        have HB := Lib.hid hsub
        clear hsub
        go_enter Tryd.func37, Tryd.ntmps37
        go_wp2_with fail
        refine (refCut_any n _ h2 (by omega)).mono ?_
        rintro e w1 ⟨rfl, rfl⟩
        rw [← HK.out.1]
        go_wp2_with fail
        rw [HB.out]
        refine (ih w _ R (n - k) (c - k) (i - k) (by omega) HK.out.2.2.symm (by omega) (by omega) HS.out.2 (by omega) (by omega) HC.out).mono ?_
        rintro e w2 ⟨v, rfl, hown, hb2⟩
        have hpl := pathS_length R (i - k)
        rw [HK.out.2.2] at hpl
        obtain ⟨A2, c2, rfl, hs2, _, _⟩ := hown.any
        have HS2 := Lib.hid hs2
        obtain ⟨p, hp⟩ : ∃ p, p = pathS R (i - k) := ⟨_, rfl⟩
        rw [← hp] at HS2 hpl
        rw [← hp]
        have HPP := Lib.hid hp
        have hz2 := hb2.size
        clear hown hs2 hp
        go_wp2_with (at_builtin
                     refine wpList_append_digs rfl (.tmp 57) (.tmp 58) rfl w.heap.size (.slice none 0 0) [] rfl (OwnD.nil _ _) A2 p p.length c2 rfl rfl HS2.out (by simp only [List.length_nil]; omega) hz2 ?_
                     intro v3 w3 hv3 hg3 _
                     have hb3 := below_ownD hb2 (OwnD.nil w2 w.heap.size) hg3 (Nat.le_refl _) hz2
                     have hown3 : OwnD w3 w.heap.size v3 p := by simpa using hv3
                     clear hv3 hg3)
        refine (rootR_any k w3 _ L k c (Nat.le_refl _) HK.out.2.1.symm (by omega) (HS.out.1.below hb3) (by omega) hcm (HC.out.below hb3 htl)).mono ?_
        rintro e w4 ⟨rfl, hb4⟩
        rw [← HX.out.1]
        have hown4 := hown3.below hb4
        have hb5 := hb3.trans (hb4.mono hb3.size)
        clear hb4
        unfold dv
        go_wp2_with (first
          | (refine wpList_one_dig rfl (.tmp 64) rfl X HL.out.1 rfl w4.heap.size rfl ?_
             intro w5 hd5 hb6 hl5
             have hown5 := hown4.below hb6
             have hB := hb5.trans (hb6.mono hb5.size))
          | (at_builtin
             refine wpList_append_digs rfl (.tmp 60) (.tmp 65) rfl w.heap.size v3 p rfl hown5 _ [X] 1 1 rfl rfl hd5 (by simp only [List.length_singleton]; omega) hB.size ?_
             intro v6 w6 hv6 hg6 _
             have hb7 := below_ownD hB hown5 hg6 (Nat.le_refl _) hB.size))
        go_ret2
        exact ⟨_, rfl, by rw [← HPP.out]; exact hv6, hb7⟩

set_option maxHeartbeats 1000000 in
theorem pathR_no (w : World) (A : Option Addr) (n c : Nat) (z : Int) (hz : z < 0 ∨ (n : Int) ≤ z) :
    Calls Tryd.prog 37 #[.slice A n c, .int .i64 z] w fun e w' => e = .returned (.tuple #[.slice none 0 0, .bool false]) ∧ Below w.heap.size w w' := by
  rcases Int.lt_or_le z 0 with h0 | h0
  · go_enter Tryd.func37, Tryd.ntmps37
    go_wp2_with fail
    go_ret2
    exact ⟨rfl, Below.refl _ _⟩
  · have h1 : (n : Int) ≤ z := by omega
    clear hz
    go_enter Tryd.func37, Tryd.ntmps37
    go_wp2_with fail
    go_ret2
    exact ⟨rfl, Below.refl _ _⟩

theorem map_bv_inj {a b : List UInt8} (h : a.map bv = b.map bv) : a = b := by
  induction a generalizing b with
  | nil => cases b with
    | nil => rfl
    | cons y r => simp at h
  | cons x l ih => cases b with
    | nil => simp at h
    | cons y r =>
      simp only [List.map_cons, List.cons.injEq] at h
      rw [ih h.2]
      congr 1
      have h1 := h.1
      unfold bv at h1
      injection h1 with _ h2
      exact UInt8.toNat_inj.1 (by omega)
theorem run_neq_digs (W : World) (a b : List UInt8) (ha : a.length = 32) (hb : b.length = 32) : (binOp .neq 24 (.agg (a.map bv).toArray) (.agg (b.map bv).toArray)).run Tryd.prog W = .ok (.bool (decide (a ≠ b))) W := by
  rw [run_neq_dv W a b ha hb]
  congr 2
  by_cases h : a = b <;> simp [h]
theorem run_eql_digs (W : World) (a b : List UInt8) (ha : a.length = 32) (hb : b.length = 32) : (binOp .eql 24 (.agg (a.map bv).toArray) (.agg (b.map bv).toArray)).run Tryd.prog W = .ok (.bool (decide (a = b))) W := by
  rw [run_eql_dv W a b ha hb]
  congr 2
  by_cases h : a = b <;> simp [h]

set_option maxHeartbeats 2000000 in
set_option maxRecDepth 100000 in
theorem same_any (w : World) (A B : Option Addr) (ds es : List (List UInt8)) (n m c d : Nat) (hA : DSrc w A ds) (hB : DSrc w B es) (hn : n = ds.length) (hm : m = es.length) (hn2 : n ≤ 4294967296) (hm2 : m ≤ 4294967296) (hc : n ≤ c) (hd : m ≤ d) :
    Calls Tryd.prog 38 #[.slice A n c, .slice B m d] w fun e w' => e = .returned (.bool (decide (ds = es))) ∧ Below w.heap.size w w' := by
  have HA := Lib.hid (And.intro hA hn)
  have HB := Lib.hid (And.intro hB hm)
  have hu := Tryd.underlying24
  have a1 : (n : Int) ≤ 4294967296 := by omega
  have a2 : (m : Int) ≤ 4294967296 := by omega
  have a3 : (n : Int) ≤ (c : Int) := by omega
  have a4 : (m : Int) ≤ (d : Int) := by omega
  by_cases hnm : n = m
  · subst hnm
    clear hA hB hn hm
    go_enter Tryd.func38, Tryd.ntmps38
    go_wp2
    go_loopw [13] (fun i wr => ∃ k : Nat, k ≤ n ∧ i = .int .i64 k ∧ Hid (ds.take k = es.take k) ∧ Below w.heap.size w wr) (fun i _ => n - (intOf i).toNat)
    case atStart => exact ⟨0, Nat.zero_le _, rfl, Lib.hid rfl, Below.refl _ _⟩
    case round =>
      obtain ⟨k, hk, rfl, htk, hb⟩ := hrel
      by_cases hlt : k < n
      · obtain ⟨x, hx⟩ : ∃ x, ds[k]? = some x := ⟨ds[k]'(by rw [← HA.out.2]; exact hlt), List.getElem?_eq_getElem _⟩
        obtain ⟨y, hy⟩ : ∃ y, es[k]? = some y := ⟨es[k]'(by rw [← HB.out.2]; exact hlt), List.getElem?_eq_getElem _⟩
        obtain ⟨b1, o1, rfl, hl1, hc1⟩ := HA.out.1.2 (fun e => by rw [e] at hx; cases hx)
        obtain ⟨b2, o2, rfl, hl2, hc2⟩ := HB.out.1.2 (fun e => by rw [e] at hy; cases hy)
        have hx32 := HA.out.1.1 x (List.mem_of_getElem? hx)
        have hy32 := HB.out.1.1 y (List.mem_of_getElem? hy)
        have r1 : wr.rangeAt b1 (o1 + k * 32) (x.map bv) := fun j v hj => (hb.cell (p := ⟨b1, o1 + k * 32 + j, none⟩) hl1).trans (hc1 k x hx j v hj)
        have r2 : wr.rangeAt b2 (o2 + k * 32) (y.map bv) := fun j v hj => (hb.cell (p := ⟨b2, o2 + k * 32 + j, none⟩) hl2).trans (hc2 k y hy j v hj)
        have i1 := dig_info' hx32
        have i2 := dig_info' hy32
        have k1 : (0 : Int) ≤ (k : Int) := by omega
        have k2 : (k : Int) < (n : Int) := by omega
        have l1 := Nat.lt_of_lt_of_le hl1 hb.size
        have l2 := Nat.lt_of_lt_of_le hl2 hb.size
        have HX := Lib.hid (And.intro hx (And.intro hy (And.intro hc1 hc2)))
        have HR := Lib.hid (And.intro r1 (And.intro r2 (And.intro i1 i2)))
        have H32 := Lib.hid (And.intro hx32 hy32)
        clear hx hy hc1 hc2 hx32 hy32 r1 r2 i1 i2
        by_cases hxy : x = y
        · have en : ∀ W, (binOp .neq 24 (.agg (x.map bv).toArray) (.agg (y.map bv).toArray)).run Tryd.prog W = .ok (.bool false) W := fun W => by rw [run_neq_digs W x y H32.out.1 H32.out.2]; simp [hxy]
          have HXY := Lib.hid hxy
          clear hxy
          go_wp2
          refine wp_region_G (fun _ => false) (by kernel_rfl) ?_
          refine wpAnyG_take 0 rfl (by kernel_rfl) (fun _ _ _ h => h) (YieldsG.pure (by rfl) (fun w9 _ => by go_simp; try with_reducible rfl)) ?_
          try simp only [Act.put, List.setIfInBounds_toArray, List.set_cons_zero, List.set_cons_succ]
          refine wpAnyG_take 1 rfl (by kernel_rfl) (fun _ _ _ h => h) (YieldsG.pure (by rfl) (fun w9 _ => by go_simp; try with_reducible rfl)) ?_
          try simp only [Act.put, List.setIfInBounds_toArray, List.set_cons_zero, List.set_cons_succ]
          refine wpAnyG_take 2 rfl (by kernel_rfl) (fun _ _ _ h => h) (YieldsG.pure (by rfl) (fun w9 _ => by go_simp; try with_reducible rfl)) ?_
          try simp only [Act.put, List.setIfInBounds_toArray, List.set_cons_zero, List.set_cons_succ]
          refine wpAnyG_take 3 rfl (by kernel_rfl) (fun _ _ _ h => h) (YieldsG.load (by rfl) _ _ rfl b1 (o1 + k * 32) rfl (x.map bv) _ l1 HR.out.1 hu rfl HR.out.2.2.1) ?_
          try simp only [Act.put, List.setIfInBounds_toArray, List.set_cons_zero, List.set_cons_succ]
          refine wpAnyG_take 4 rfl (by kernel_rfl) (fun _ _ _ h => h) (YieldsG.pure (by rfl) (fun w9 _ => by go_simp; try with_reducible rfl)) ?_
          try simp only [Act.put, List.setIfInBounds_toArray, List.set_cons_zero, List.set_cons_succ]
          refine wpAnyG_take 5 rfl (by kernel_rfl) (fun _ _ _ h => h) (YieldsG.pure (by rfl) (fun w9 _ => by go_simp; try with_reducible rfl)) ?_
          try simp only [Act.put, List.setIfInBounds_toArray, List.set_cons_zero, List.set_cons_succ]
          refine wpAnyG_take 6 rfl (by kernel_rfl) (fun _ _ _ h => h) (YieldsG.pure (by rfl) (fun w9 _ => by go_simp; try with_reducible rfl)) ?_
          try simp only [Act.put, List.setIfInBounds_toArray, List.set_cons_zero, List.set_cons_succ]
          refine wpAnyG_take 7 rfl (by kernel_rfl) (fun _ _ _ h => h) (YieldsG.load (by rfl) _ _ rfl b2 (o2 + k * 32) rfl (y.map bv) _ l2 HR.out.2.1 hu rfl HR.out.2.2.2) ?_
          try simp only [Act.put, List.setIfInBounds_toArray, List.set_cons_zero, List.set_cons_succ]
          refine wpAnyG_take 8 rfl (by kernel_rfl) (fun _ _ _ h => h) (YieldsG.pure (by rfl) (fun w9 _ => by go_simp; try with_reducible rfl)) ?_
          try simp only [Act.put, List.setIfInBounds_toArray, List.set_cons_zero, List.set_cons_succ]
          refine wpAnyG_done (by kernel_rfl) (fun w5 h5 => ?_)
          have hb5 := Below.gr hb h5
          go_wp2
          go_roundw
          case rel =>
            refine ⟨k + 1, by omega, by go_num, Lib.hid ?_, hb5⟩
            have e1 := (List.getElem?_eq_some_iff.1 HX.out.1)
            have e2 := (List.getElem?_eq_some_iff.1 HX.out.2.1)
            obtain ⟨g1, e1⟩ := e1
            obtain ⟨g2, e2⟩ := e2
            rw [List.take_succ_eq_append_getElem g1, List.take_succ_eq_append_getElem g2, htk.out, e1, e2, HXY.out]
          case measure => simp [intOf]; omega
        · have en : ∀ W, (binOp .neq 24 (.agg (x.map bv).toArray) (.agg (y.map bv).toArray)).run Tryd.prog W = .ok (.bool true) W := fun W => by rw [run_neq_digs W x y H32.out.1 H32.out.2]; simp [hxy]
          have hne : decide (ds = es) = false := by
            simp only [decide_eq_false_iff_not]
            intro e
            apply hxy
            have h1 := HX.out.1
            rw [e, HX.out.2.1] at h1
            exact (Option.some.inj h1).symm
          have HNE := Lib.hid hne
          clear hxy hne
          go_wp2
          refine wp_region_G (fun _ => false) (by kernel_rfl) ?_
          refine wpAnyG_take 0 rfl (by kernel_rfl) (fun _ _ _ h => h) (YieldsG.pure (by rfl) (fun w9 _ => by go_simp; try with_reducible rfl)) ?_
          try simp only [Act.put, List.setIfInBounds_toArray, List.set_cons_zero, List.set_cons_succ]
          refine wpAnyG_take 1 rfl (by kernel_rfl) (fun _ _ _ h => h) (YieldsG.pure (by rfl) (fun w9 _ => by go_simp; try with_reducible rfl)) ?_
          try simp only [Act.put, List.setIfInBounds_toArray, List.set_cons_zero, List.set_cons_succ]
          refine wpAnyG_take 2 rfl (by kernel_rfl) (fun _ _ _ h => h) (YieldsG.pure (by rfl) (fun w9 _ => by go_simp; try with_reducible rfl)) ?_
          try simp only [Act.put, List.setIfInBounds_toArray, List.set_cons_zero, List.set_cons_succ]
          refine wpAnyG_take 3 rfl (by kernel_rfl) (fun _ _ _ h => h) (YieldsG.load (by rfl) _ _ rfl b1 (o1 + k * 32) rfl (x.map bv) _ l1 HR.out.1 hu rfl HR.out.2.2.1) ?_
          try simp only [Act.put, List.setIfInBounds_toArray, List.set_cons_zero, List.set_cons_succ]
          refine wpAnyG_take 4 rfl (by kernel_rfl) (fun _ _ _ h => h) (YieldsG.pure (by rfl) (fun w9 _ => by go_simp; try with_reducible rfl)) ?_
          try simp only [Act.put, List.setIfInBounds_toArray, List.set_cons_zero, List.set_cons_succ]
          refine wpAnyG_take 5 rfl (by kernel_rfl) (fun _ _ _ h => h) (YieldsG.pure (by rfl) (fun w9 _ => by go_simp; try with_reducible rfl)) ?_
          try simp only [Act.put, List.setIfInBounds_toArray, List.set_cons_zero, List.set_cons_succ]
          refine wpAnyG_take 6 rfl (by kernel_rfl) (fun _ _ _ h => h) (YieldsG.pure (by rfl) (fun w9 _ => by go_simp; try with_reducible rfl)) ?_
          try simp only [Act.put, List.setIfInBounds_toArray, List.set_cons_zero, List.set_cons_succ]
          refine wpAnyG_take 7 rfl (by kernel_rfl) (fun _ _ _ h => h) (YieldsG.load (by rfl) _ _ rfl b2 (o2 + k * 32) rfl (y.map bv) _ l2 HR.out.2.1 hu rfl HR.out.2.2.2) ?_
          try simp only [Act.put, List.setIfInBounds_toArray, List.set_cons_zero, List.set_cons_succ]
          refine wpAnyG_take 8 rfl (by kernel_rfl) (fun _ _ _ h => h) (YieldsG.pure (by rfl) (fun w9 _ => by go_simp; try with_reducible rfl)) ?_
          try simp only [Act.put, List.setIfInBounds_toArray, List.set_cons_zero, List.set_cons_succ]
          refine wpAnyG_done (by kernel_rfl) (fun w5 h5 => ?_)
          have hb5 := Below.gr hb h5
          go_wp2
          go_ret
          exact ⟨by rw [HNE.out]; rfl, hb5⟩
      · obtain rfl : k = n := by omega
        have heq : decide (ds = es) = true := by
          simp only [decide_eq_true_eq]
          have h1 := htk.out
          rw [List.take_of_length_le (by rw [← HA.out.2]; exact Nat.le_refl _), List.take_of_length_le (by rw [← HB.out.2]; exact Nat.le_refl _)] at h1
          exact h1
        have HE := Lib.hid heq
        clear heq htk
        go_wp2
        go_ret
        exact ⟨by rw [HE.out]; rfl, hb⟩
  · have hne : decide (ds = es) = false := by
      simp only [decide_eq_false_iff_not]
      intro e
      rw [e] at hn
      omega
    have HNE := Lib.hid hne
    clear hne hA hB hn hm
    go_enter Tryd.func38, Tryd.ntmps38
    go_wp2
    go_ret
    exact ⟨by rw [HNE.out]; rfl, Below.refl _ _⟩
end Go.Proofs.YtimnpakmifjgoaaDoor
