/-
  Root: the program's and the document's.
-/
import Derived.Test.YtimnpakmifjgoaaDoorMCut
import Derived.Test.YtimnpakmifjgoaaDoorMNode
namespace Go.Proofs.YtimnpakmifjgoaaDoor
open Go.RowKit Sp

theorem DSrc.one {w : World} {A : Option Addr} {d : List UInt8} (h : DSrc w A [d]) : ∃ b o, A = some ⟨b, o, none⟩ ∧ b < w.heap.size ∧ w.rangeAt b o (d.map bv) := by
  obtain ⟨b, o, e, hlt, hc⟩ := h.2 (by simp)
  exact ⟨b, o, e, hlt, by simpa using hc 0 d rfl⟩
theorem rangeAt_gr {W W' : World} {g o : Nat} {cs : List Value} (h : W.rangeAt g o cs) (hb : Gr W W') (hg : g < W.heap.size) : W'.rangeAt g o cs := fun j v hj => (Below.cell (p := ⟨g, o + j, none⟩) hb hg).trans (h j v hj)
theorem DSrc.addr {w : World} {A : Option Addr} {ds : List (List UInt8)} (h : DSrc w A ds) (hn : 0 < ds.length) : ∃ b o, A = some ⟨b, o, none⟩ ∧ b < w.heap.size := by
  obtain ⟨b, o, e, hlt, _⟩ := h.2 (fun e => by rw [e] at hn; cases hn)
  exact ⟨b, o, e, hlt⟩

set_option maxHeartbeats 2000000 in
set_option maxRecDepth 100000 in
theorem root_any (f : Nat) : ∀ (w : World) (A : Option Addr) (ds : List (List UInt8)) (n c : Nat), n ≤ f → n = ds.length → n ≤ 1048576 → DSrc w A ds → n ≤ c → c ≤ 9223372036854775807 → TabAt w 1 →
    Calls Tryd.prog 32 #[.slice A n c] w fun e w' => e = .returned (dv (rootS ds)) ∧ Below w.heap.size w w' := by
  induction f with
  | zero =>
    intro w A ds n c hf hn hm hs hc hcm ht
    obtain rfl : ds = [] := List.eq_nil_of_length_eq_zero (by omega)
    obtain rfl : n = 0 := hn
    have HC := Lib.hid ht
    have htl := ht.lt
    clear ht hs
    go_enter Tryd.func32, Tryd.ntmps32
    go_wp2_with fail
    refine (tagged_any _ noneNm none [] 0 (fun h => absurd rfl h) (HC.out.below ((Below.refl _ _).alloc (Nat.le_refl _) _) htl) (by decide) (by decide) (by decide)).mono ?_
    rintro e w1 ⟨rfl, hb1⟩
    have hr := Blk.below (Blk.new w 24 _) hb1 (by simp)
    have hb2 := ((Below.refl w.heap.size w).alloc (Nat.le_refl _) _).trans (hb1.mono (by simp))
    rw [show taggedS noneNm.data.toList (cat []) = noneS from rfl]
    clear hb1
    unfold dv
    go_wp2_with (refine wpList_store_row rfl 24 (.tmp 2) (.tmp 9) rfl w.heap.size _ rfl rfl 24 _ hr (dig_info noneS_length) (by rw [dig_size noneS_length]; rfl) (dig_one _) ?_)
    exact bodyPost_ret (results_cell_row rfl _ _ w.heap.size 24 _ (0, 0) _ rfl (hr.setRow _) Tryd.underlying24 rfl (dig_info noneS_length)) rfl ⟨rfl, below_setRow hb2 (Nat.le_refl _) _⟩
  | succ f ih =>
    intro w A ds n c hf hn hm hs hc hcm ht
    have HC := Lib.hid ht
    have htl := ht.lt
    clear ht
    rcases Nat.lt_or_ge n 1 with h0 | h1
    · exact ih w A ds n c (by omega) hn hm hs hc hcm HC.out
    rcases Nat.lt_or_ge n 2 with h2 | h2
    · obtain ⟨d, rfl⟩ : ∃ d, ds = [d] := by
        cases ds with
        | nil => simp at hn; omega
        | cons d r => exact ⟨d, by rw [List.eq_nil_of_length_eq_zero (l := r) (by simp at hn; omega)]⟩
      obtain rfl : n = 1 := by omega
      obtain ⟨b, o, rfl, hlt, hrg⟩ := hs.one
      have hd : d.length = 32 := hs.1 d (by simp)
      have hrg0 : (w.alloc (.cells zeroDigest 24)).rangeAt b o (d.map bv) := rangeAt_gr hrg (gr_alloc _ _) hlt
      have HR := Lib.hid hrg0
      have HD := Lib.hid hd
      clear hs hn hrg hrg0 hd
      go_enter Tryd.func32, Tryd.ntmps32
      go_wp2_with (first
        | (refine wpList_load_mid rfl 24 (.tmp 13) rfl b o rfl (d.map bv) _ HR.out Tryd.underlying24 rfl (dig_info' HD.out) ?_)
        | (refine wpList_store_row rfl 24 (.tmp 2) (.tmp 14) rfl w.heap.size _ rfl rfl 24 _ (Blk.new w _ _) (dig_info HD.out) (by rw [dig_size HD.out]; rfl) (dig_one _) ?_))
      exact bodyPost_ret (results_cell_row rfl _ _ w.heap.size 24 _ (0, 0) _ rfl ((Blk.new w _ _).setRow _) Tryd.underlying24 rfl (dig_info HD.out)) rfl ⟨by rw [rootS_one]; rfl, below_setRow ((Below.refl _ _).alloc (Nat.le_refl _) _) (Nat.le_refl _) _⟩
    · obtain ⟨b, o, rfl, hlt⟩ := hs.addr (by omega)
      obtain ⟨c0, c1, c2, _⟩ := cut_spec n h2 (by omega)
      have hroot : rootS ds = nodeS (rootS (ds.take (cut n))) (rootS (ds.drop (cut n))) := by rw [hn]; exact rootS_two ds (by omega) (by omega)
      have hlk : (ds.take (cut n)).length = cut n := by rw [List.length_take]; omega
      have hrk : (ds.drop (cut n)).length = n - cut n := by rw [List.length_drop]; omega
      have hsl : DSrc w (some ⟨b, o, none⟩) (ds.take (cut n)) := hs.take _
      have hsr : DSrc w (some ⟨b, o + cut n * 32, none⟩) (ds.drop (cut n)) := hs.drop _
      obtain ⟨L, hL⟩ : ∃ L, L = ds.take (cut n) := ⟨_, rfl⟩
      obtain ⟨R, hR⟩ : ∃ R, R = ds.drop (cut n) := ⟨_, rfl⟩
      rw [← hL] at hroot hlk hsl
      rw [← hR] at hroot hrk hsr
      have xl : (rootS L).length = 32 := rootS_length _ hsl.1
      have xr : (rootS R).length = 32 := rootS_length _ hsr.1
      obtain ⟨X, hX⟩ : ∃ X, X = rootS L := ⟨_, rfl⟩
      obtain ⟨Y, hY⟩ : ∃ Y, Y = rootS R := ⟨_, rfl⟩
      obtain ⟨k, hk⟩ : ∃ k, k = cut n := ⟨_, rfl⟩
      rw [← hX] at hroot xl
      rw [← hY] at hroot xr
      rw [← hk] at c0 c1 c2 hlk hrk hsr
      rw [hroot]
      have HS := Lib.hid (And.intro hsl hsr)
      have HX := Lib.hid (And.intro hX hY)
      have HL := Lib.hid (And.intro xl xr)
      have HK := Lib.hid (And.intro hk (And.intro hlk hrk))
      clear hs hn hroot hsl hsr hL hR hX hY xl xr hk hlk hrk
      go_enter Tryd.func32, Tryd.ntmps32
      go_wp2_with fail
      refine (halves_any _ b o n c h2 (by omega) hc).mono ?_
      rintro e w1 ⟨rfl, hb1⟩
      rw [← HK.out.1]
      have hr := Blk.below (Blk.new w 24 _) hb1 (by simp)
      have hb := ((Below.refl w.heap.size w).alloc (Nat.le_refl _) _).trans (hb1.mono (by simp))
      clear hb1
      go_wp2_with fail
      refine (ih w1 _ L k k (by omega) HK.out.2.1.symm (by omega) (HS.out.1.below hb) (Nat.le_refl _) (by omega) (HC.out.below hb htl)).mono ?_
      rintro e w2 ⟨rfl, hb2⟩
      rw [← HX.out.1]
      have hr := hr.below hb2 hr.lt
      have hb := hb.trans (hb2.mono hb.size)
      clear hb2
      unfold dv
      go_wp2_with fail
      refine (ih w2 _ R (n - k) (n - k) (by omega) HK.out.2.2.symm (by omega) (HS.out.2.below hb) (Nat.le_refl _) (by omega) (HC.out.below hb htl)).mono ?_
      rintro e w3 ⟨rfl, hb3⟩
      rw [← HX.out.2]
      have hr := hr.below hb3 hr.lt
      have hb := hb.trans (hb3.mono hb.size)
      clear hb3
      unfold dv
      go_wp2_with fail
      refine (node_any w3 X Y HL.out.1 HL.out.2 (HC.out.below hb htl)).mono ?_
      rintro e w4 ⟨rfl, hb4⟩
      have hr := hr.below hb4 hr.lt
      have hb := hb.trans (hb4.mono hb.size)
      clear hb4
      unfold dv
      go_wp2_with (refine wpList_store_row rfl 24 (.tmp 2) (.tmp 24) rfl w.heap.size _ rfl rfl 24 _ hr (dig_info (nodeS_length X Y)) (by rw [dig_size (nodeS_length X Y)]; rfl) (dig_one _) ?_)
      exact bodyPost_ret (results_cell_row rfl _ _ w.heap.size 24 _ (0, 0) _ rfl (hr.setRow _) Tryd.underlying24 rfl (dig_info (nodeS_length X Y))) rfl ⟨rfl, below_setRow hb (Nat.le_refl _) _⟩

set_option maxHeartbeats 2000000 in
set_option maxRecDepth 100000 in
theorem rootR_any (f : Nat) : ∀ (w : World) (A : Option Addr) (ds : List (List UInt8)) (n c : Nat), n ≤ f → n = ds.length → n ≤ 1048576 → DSrc w A ds → n ≤ c → c ≤ 9223372036854775807 → TabAt w 0 →
    Calls Tryd.prog 33 #[.slice A n c] w fun e w' => e = .returned (dv (rootS ds)) ∧ Below w.heap.size w w' := by
  induction f with
  | zero =>
    intro w A ds n c hf hn hm hs hc hcm ht
    obtain rfl : ds = [] := List.eq_nil_of_length_eq_zero (by omega)
    obtain rfl : n = 0 := hn
    have HC := Lib.hid ht
    have htl := ht.lt
    clear ht hs
    go_enter Tryd.func33, Tryd.ntmps33
    go_wp2_with fail
    refine (taggedR_any _ noneNm none [] 0 (fun h => absurd rfl h) (HC.out.below ((Below.refl _ _).alloc (Nat.le_refl _) _) htl) (by decide) (by decide) (by decide)).mono ?_
    rintro e w1 ⟨rfl, hb1⟩
    have hr := Blk.below (Blk.new w 24 _) hb1 (by simp)
    have hb2 := ((Below.refl w.heap.size w).alloc (Nat.le_refl _) _).trans (hb1.mono (by simp))
    rw [show taggedS noneNm.data.toList (cat []) = noneS from rfl]
    clear hb1
    unfold dv
    go_wp2_with (refine wpList_store_row rfl 24 (.tmp 2) (.tmp 7) rfl w.heap.size _ rfl rfl 24 _ hr (dig_info noneS_length) (by rw [dig_size noneS_length]; rfl) (dig_one _) ?_)
    exact bodyPost_ret (results_cell_row rfl _ _ w.heap.size 24 _ (0, 0) _ rfl (hr.setRow _) Tryd.underlying24 rfl (dig_info noneS_length)) rfl ⟨rfl, below_setRow hb2 (Nat.le_refl _) _⟩
  | succ f ih =>
    intro w A ds n c hf hn hm hs hc hcm ht
    have HC := Lib.hid ht
    have htl := ht.lt
    clear ht
    rcases Nat.lt_or_ge n 1 with h0 | h1
    · exact ih w A ds n c (by omega) hn hm hs hc hcm HC.out
    rcases Nat.lt_or_ge n 2 with h2 | h2
    · obtain ⟨d, rfl⟩ : ∃ d, ds = [d] := by
        cases ds with
        | nil => simp at hn; omega
        | cons d r => exact ⟨d, by rw [List.eq_nil_of_length_eq_zero (l := r) (by simp at hn; omega)]⟩
      obtain rfl : n = 1 := by omega
      obtain ⟨b, o, rfl, hlt, hrg⟩ := hs.one
      have hd : d.length = 32 := hs.1 d (by simp)
      have hrg0 : (w.alloc (.cells zeroDigest 24)).rangeAt b o (d.map bv) := rangeAt_gr hrg (gr_alloc _ _) hlt
      have HR := Lib.hid hrg0
      have HD := Lib.hid hd
      clear hs hn hrg hrg0 hd
      go_enter Tryd.func33, Tryd.ntmps33
      go_wp2_with (first
        | (refine wpList_load_mid rfl 24 (.tmp 12) rfl b o rfl (d.map bv) _ HR.out Tryd.underlying24 rfl (dig_info' HD.out) ?_)
        | (refine wpList_store_row rfl 24 (.tmp 2) (.tmp 13) rfl w.heap.size _ rfl rfl 24 _ (Blk.new w _ _) (dig_info HD.out) (by rw [dig_size HD.out]; rfl) (dig_one _) ?_))
      exact bodyPost_ret (results_cell_row rfl _ _ w.heap.size 24 _ (0, 0) _ rfl ((Blk.new w _ _).setRow _) Tryd.underlying24 rfl (dig_info HD.out)) rfl ⟨by rw [rootS_one]; rfl, below_setRow ((Below.refl _ _).alloc (Nat.le_refl _) _) (Nat.le_refl _) _⟩
    · obtain ⟨b, o, rfl, hlt⟩ := hs.addr (by omega)
      obtain ⟨c0, c1, c2, _⟩ := cut_spec n h2 (by omega)
      have hroot : rootS ds = nodeS (rootS (ds.take (cut n))) (rootS (ds.drop (cut n))) := by rw [hn]; exact rootS_two ds (by omega) (by omega)
      have hlk : (ds.take (cut n)).length = cut n := by rw [List.length_take]; omega
      have hrk : (ds.drop (cut n)).length = n - cut n := by rw [List.length_drop]; omega
      have hsl : DSrc w (some ⟨b, o, none⟩) (ds.take (cut n)) := hs.take _
      have hsr : DSrc w (some ⟨b, o + cut n * 32, none⟩) (ds.drop (cut n)) := hs.drop _
      obtain ⟨L, hL⟩ : ∃ L, L = ds.take (cut n) := ⟨_, rfl⟩
      obtain ⟨R, hR⟩ : ∃ R, R = ds.drop (cut n) := ⟨_, rfl⟩
      rw [← hL] at hroot hlk hsl
      rw [← hR] at hroot hrk hsr
      have xl : (rootS L).length = 32 := rootS_length _ hsl.1
      have xr : (rootS R).length = 32 := rootS_length _ hsr.1
      obtain ⟨X, hX⟩ : ∃ X, X = rootS L := ⟨_, rfl⟩
      obtain ⟨Y, hY⟩ : ∃ Y, Y = rootS R := ⟨_, rfl⟩
      obtain ⟨k, hk⟩ : ∃ k, k = cut n := ⟨_, rfl⟩
      rw [← hX] at hroot xl
      rw [← hY] at hroot xr
      rw [← hk] at c0 c1 c2 hlk hrk hsr
      rw [hroot]
      have HS := Lib.hid (And.intro hsl hsr)
      have HX := Lib.hid (And.intro hX hY)
      have HL := Lib.hid (And.intro xl xr)
      have HK := Lib.hid (And.intro hk (And.intro hlk hrk))
      clear hs hn hroot hsl hsr hL hR hX hY xl xr hk hlk hrk
      go_enter Tryd.func33, Tryd.ntmps33
      have a1 : (0 : Int) ≤ (k : Int) := by omega
      have a2 : (k : Int) ≤ (n : Int) := by omega
      have a3 : (n : Int) ≤ (c : Int) := by omega
      have a4 : (k : Int) ≤ (c : Int) := by omega
      have a6 : ¬ c = k := by omega
      go_wp2_with fail
      refine (refCut_any n _ h2 (by omega)).mono ?_
      rintro e w1 ⟨rfl, rfl⟩
      rw [← HK.out.1]
      have hr := Blk.new w 24 zeroDigest
      have hb : Below w.heap.size w (w.alloc (.cells zeroDigest 24)) := (Below.refl w.heap.size w).alloc (Nat.le_refl _) _
      go_wp2
      refine wp_region_G (fun j => j == 9) (by kernel_rfl) ?_
      refine wpAnyG_take 0 rfl (by kernel_rfl) (fun _ _ _ h => h) (YieldsG.pure (by rfl) (fun w9 _ => by go_simp; try with_reducible rfl)) ?_
      try simp only [Act.put, List.setIfInBounds_toArray, List.set_cons_zero, List.set_cons_succ]
      refine wpAnyG_take 1 rfl (by kernel_rfl) (fun _ _ _ h => h) (YieldsG.pure (by rfl) (fun w9 _ => by go_simp; try with_reducible rfl)) ?_
      try simp only [Act.put, List.setIfInBounds_toArray, List.set_cons_zero, List.set_cons_succ]
      refine wpAnyG_take 2 rfl (by kernel_rfl) (fun _ _ _ h => h) (YieldsG.pure (by rfl) (fun w9 _ => by go_simp; try with_reducible rfl)) ?_
      try simp only [Act.put, List.setIfInBounds_toArray, List.set_cons_zero, List.set_cons_succ]
      refine wpAnyG_take 3 rfl (by kernel_rfl) (fun _ _ _ h => h) (YieldsG.call (v := .agg (X.map bv).toArray) (by rfl) 33 _ (fun w9 => by go_simp; try (first | with_reducible rfl | rfl)) (fun w9 h9 => calls_dv (ih w9 _ L k c (by omega) HK.out.2.1.symm (by omega) (HS.out.1.below (Below.gr hb h9)) (by omega) hcm (HC.out.below (Below.gr hb h9) htl)) HX.out.1)) ?_
      try simp only [Act.put, List.setIfInBounds_toArray, List.set_cons_zero, List.set_cons_succ]
      refine wpAnyG_take 4 rfl (by kernel_rfl) (fun _ _ _ h => h) (YieldsG.pure (by rfl) (fun w9 _ => by go_simp; try with_reducible rfl)) ?_
      try simp only [Act.put, List.setIfInBounds_toArray, List.set_cons_zero, List.set_cons_succ]
      refine wpAnyG_take 5 rfl (by kernel_rfl) (fun _ _ _ h => h) (YieldsG.pure (by rfl) (fun w9 _ => by go_simp; try with_reducible rfl)) ?_
      try simp only [Act.put, List.setIfInBounds_toArray, List.set_cons_zero, List.set_cons_succ]
      refine wpAnyG_take 6 rfl (by kernel_rfl) (fun _ _ _ h => h) (YieldsG.pure (by rfl) (fun w9 _ => by go_simp; try with_reducible rfl)) ?_
      try simp only [Act.put, List.setIfInBounds_toArray, List.set_cons_zero, List.set_cons_succ]
      refine wpAnyG_take 7 rfl (by kernel_rfl) (fun _ _ _ h => h) (YieldsG.call (v := .agg (Y.map bv).toArray) (by rfl) 33 _ (fun w9 => by go_simp; try (first | with_reducible rfl | rfl)) (fun w9 h9 => calls_dv (ih w9 _ R (n - k) (c - k) (by omega) HK.out.2.2.symm (by omega) (HS.out.2.below (Below.gr hb h9)) (by omega) (by omega) (HC.out.below (Below.gr hb h9) htl)) HX.out.2)) ?_
      try simp only [Act.put, List.setIfInBounds_toArray, List.set_cons_zero, List.set_cons_succ]
      refine wpAnyG_take 8 rfl (by kernel_rfl) (fun _ _ _ h => h) (YieldsG.call (v := .agg ((nodeS X Y).map bv).toArray) (by rfl) 30 _ (fun w9 => by go_simp; try (first | with_reducible rfl | rfl)) (fun w9 h9 => calls_dv (nodeR_any w9 X Y HL.out.1 HL.out.2 (HC.out.below (Below.gr hb h9) htl)) rfl)) ?_
      try simp only [Act.put, List.setIfInBounds_toArray, List.set_cons_zero, List.set_cons_succ]
      refine wpAnyG_store 9 rfl (by kernel_rfl) (by rfl) _ _ _ rfl w.heap.size (((nodeS X Y).map bv).toArray) rfl rfl _ _ hr (dig_info (nodeS_length X Y)) (by rw [dig_size (nodeS_length X Y)]; rfl) (dig_one _) rfl (fun w6 h6 w7 hB7 hL7 => ?_)
      try simp only [Act.put]
      refine wpAnyG_done (by kernel_rfl) (fun w8 h8 => ?_)
      go_wp2
      exact bodyPost_ret (results_cell_row rfl _ _ w.heap.size 24 _ (0, 0) _ rfl (h8.blk hL7) Tryd.underlying24 rfl (dig_info (nodeS_length X Y))) rfl ⟨rfl, (Below.gr hb h6).trans ((hB7 _ (Nat.le_refl _)).trans (Below.mono h8 (Nat.le_of_lt hL7.lt)))⟩
end Go.Proofs.YtimnpakmifjgoaaDoor
