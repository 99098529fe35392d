/-
  The law on Tagged, walked.
-/
import Derived.Test.YtbjfkfajhmcefaaDoorRefTag
import Derived.Test.YtbjfkfajhmcefaaDoorOrd
namespace Go.Proofs.YtbjfkfajhmcefaaDoor
open Go.RowKit Sp

theorem rangeAt_below {W W' : World} {g : Nat} {cs : List Value} (h : W.rangeAt g 0 cs) (hb : Below W.heap.size W W') (hg : g < W.heap.size) : W'.rangeAt g 0 cs := fun j v hj => (hb.cell (p := ⟨g, 0 + j, none⟩) hg).trans (h j v hj)
theorem texts_one {W : World} (x : Tx) (t : TypeId) (h : x.ok W) : Texts (W.alloc (.cells #[x.val] t)) (some ⟨W.heap.size, 0, none⟩) [x] := fun _ =>
  ⟨W.heap.size, 0, rfl, by simp, fun j y hy => by
    have hj : j = 0 := by
      have := (List.getElem?_eq_some_iff.1 hy).1
      simpa using this
    subst hj
    obtain rfl : x = y := by simpa using hy
    exact ⟨cell_of_row _ _ 0 _ t _ (heap_alloc_new W _), h.below ((Below.refl _ _).alloc (Nat.le_refl _) _)⟩⟩

set_option maxHeartbeats 4000000 in
set_option maxRecDepth 100000 in
theorem law_tagged (w : World) (s : ByteArray) (T : Option Addr) (ts : List Tx) (ct : Nat) (hT : Texts w T ts) (hs : s.size ≤ 1048576) (hm : (cat ts).length ≤ 1048576) (hn : ts.length ≤ 1048576)
    (ht : TabAt w 1) (htr : TabAt w 0) :
    Calls Tryd.prog 7 #[.string s, .slice T ts.length ct] w fun e w' => e = .returned (.bool true) ∧ Below w.heap.size w w' := by
  have HT := Lib.hid hT
  have HC := Lib.hid ht
  have HR := Lib.hid htr
  have htl := ht.lt
  have hrl := htr.lt
  have HM := Lib.hid hm
  clear hT ht htr hm
  have hl : (taggedS s.data.toList (cat ts)).length = 32 := sum_length _
  obtain ⟨X, hX⟩ : ∃ X, X = taggedS s.data.toList (cat ts) := ⟨_, rfl⟩
  rw [← hX] at hl
  have e1 : ∀ W, (binOp .eql 24 (.agg (X.map bv).toArray) (.agg (X.map bv).toArray)).run Tryd.prog W = .ok (.bool true) W := fun W => by rw [run_eql_dv W _ _ hl hl]; simp
  have h1 : (X.map bv).toArray.all (·.oneCell') = true := by rw [hX]; exact sum_one _
  have hi : (Tryd.prog.info? 24).map (·.size) = some (X.map bv).toArray.size := by rw [hX]; exact sum_info _
  have hi2 : (Tryd.prog.info? 24).map (·.size) = some (X.map bv).length := by rw [hi]; simp
  have hds : (X.map bv).toArray.size = 32 := by rw [List.size_toArray, List.length_map, hl]
  have HX := Lib.hid (And.intro hX (And.intro h1 (And.intro hi hds)))
  have hu := Tryd.underlying24
  clear hX h1 hi hds hl
  go_enter Tryd.func7, Tryd.ntmps7
  go_wp2
  go_loopw [5, 10] (fun v i wr => ∃ (k : Nat) (v0 : Value), k ≤ ts.length ∧ v0 = v ∧ i = .int .i64 k ∧ OwnB wr w.heap.size v0 (cat (ts.take k)) ∧ Below w.heap.size w wr)
    (fun _ i _ => ts.length - (intOf i).toNat)
  case atStart => exact ⟨0, _, Nat.zero_le _, rfl, rfl, OwnB.nil _ _, Below.refl _ _⟩
  case round =>
    obtain ⟨k, v0, hk, rfl, rfl, hown, hb⟩ := hrel
    by_cases hlt : k < ts.length
    · obtain ⟨x, hx⟩ : ∃ x, ts[k]? = some x := ⟨ts[k], List.getElem?_eq_getElem hlt⟩
      obtain ⟨b, o, rfl, hbl, htx⟩ := HT.out (fun e => by rw [e] at hlt; exact absurd hlt (Nat.not_lt_zero _))
      have hc : wr.cell? ⟨b, o + k, none⟩ = some (.slice x.A x.l.length x.c) := (hb.cell (p := ⟨b, o + k, none⟩) hbl).trans (htx k x hx).1
      have hok := (htx k x hx).2.below hb
      have hlx := cat_next ts k x hx
      have HX2 := Lib.hid (And.intro hx (And.intro htx (And.intro hok hlx)))
      have hz := hb.size
      clear hx htx hok hlx
      go_wp2_with (at_builtin
                   refine wpList_append_bytes rfl (.tmp 13) (.tmp 17) rfl w.heap.size v0 _ rfl hown x.A x.l x.c rfl HX2.out.2.2.1.1 (by have := HX2.out.2.2.2; have := HM.out; omega) hz ?_
                   intro v6 w6 hv6 hg6
                   have b6 := below_own (Below.refl w.heap.size wr) hown hg6 (Nat.le_refl _) hz
                   have hb6 := hb.trans b6
                   clear hg6 b6)
      go_roundw
      case rel => exact ⟨k + 1, v6, by omega, rfl, by go_num, by rw [cat_step ts k x HX2.out.1]; exact hv6, hb6⟩
      case measure => simp [intOf]; omega
    · obtain rfl : k = ts.length := by omega
      rw [List.take_length] at hown
      obtain ⟨A, cap, rfl, hsA, hcA, hmA⟩ := hown.any
      have HS := Lib.hid hsA
      clear hown hlt hsA
      go_wp2_with fail
      refine (tagged_any wr s T ts ct (HT.out.below hb) (HC.out.below hb htl) (by omega) (by have := HM.out; omega) (by omega)).mono ?_
      rintro e w1 ⟨rfl, hb1⟩
      rw [← HX.out.1]
      have hb2 := hb.trans (hb1.mono hb.size)
      have HS1 := Lib.hid (HS.out.below hb1)
      clear hb1
      unfold dv
      go_wp2_with (refine wpList_store_new rfl 24 (.tmp 7) (.tmp 22) rfl _ _ _ rfl rfl HX.out.2.2.1 (by rw [HX.out.2.2.2]; rfl) HX.out.2.1 ?_
                   intro w2 hd2 hb3 hz2
                   have hb4 := hb2.trans (hb3.mono hb2.size)
                   have hrg := rangeAt_blk hd2
                   have hgl := hd2.lt
                   have hok2 : (Tx.mk A (cat ts) cap).ok w2 := ⟨HS1.out.below hb3, hcA, hmA⟩
                   have HC2 := Lib.hid (HC.out.below hb4 htl)
                   have HR2 := Lib.hid (HR.out.below hb4 hrl)
                   have HT2 := Lib.hid (HT.out.below hb4)
                   have htl2 := HC2.out.lt
                   have hrl2 := HR2.out.lt
                   have HK2 := Lib.hid hok2
                   clear hok2 hd2 hb3 hz2 hb hb2)
      refine wp_region_G (fun _ => false) (by kernel_rfl) ?_
      try simp only [Act.put]
      refine wpAnyG_take 0 rfl (by kernel_rfl) (fun _ _ _ h => h) (YieldsG.call (v := .bool true) (by rfl) 16 _ (fun w9 => by go_simp; try with_reducible rfl) (fun w9 h9 => alive_any w9 (HC2.out.below h9 htl2))) ?_
      try simp only [Act.put, List.setIfInBounds_toArray, List.set_cons_zero, List.set_cons_succ]
      refine wpAnyG_take 1 rfl (by kernel_rfl) (fun _ _ _ h => h) (YieldsG.pure (by rfl) (fun w9 _ => by go_simp; try with_reducible rfl)) ?_
      try simp only [Act.put, List.setIfInBounds_toArray, List.set_cons_zero, List.set_cons_succ]
      refine wpAnyG_take 2 rfl (by kernel_rfl) (fun _ _ _ h => h) (YieldsG.load (by rfl) _ _ rfl w1.heap.size 0 rfl (X.map bv) _ hgl hrg hu rfl hi2) ?_
      try simp only [Act.put, List.setIfInBounds_toArray, List.set_cons_zero, List.set_cons_succ]
      refine wpAnyG_take 3 rfl (by kernel_rfl) (fun _ _ _ h => h) (YieldsG.pure (by rfl) (fun w9 _ => by go_simp; try with_reducible rfl)) ?_
      try simp only [Act.put, List.setIfInBounds_toArray, List.set_cons_zero, List.set_cons_succ]
      refine wpAnyG_take 4 rfl (by kernel_rfl) (fun _ _ _ h => h) (YieldsG.pure (by rfl) (fun w9 _ => by go_simp; try with_reducible rfl)) ?_
      try simp only [Act.put, List.setIfInBounds_toArray, List.set_cons_zero, List.set_cons_succ]
      refine wpAnyG_take 5 rfl (by kernel_rfl) (fun _ _ _ h => h) (YieldsG.call (v := .agg (X.map bv).toArray) (by rfl) 26 _ (fun w9 => by go_simp; try with_reducible rfl) (fun w9 h9 => calls_dv (taggedR_any w9 s T ts ct (HT2.out.below h9) (HR2.out.below h9 hrl2) (by omega) (by have := HM.out; omega) (by omega)) HX.out.1)) ?_
      try simp only [Act.put, List.setIfInBounds_toArray, List.set_cons_zero, List.set_cons_succ]
      refine wpAnyG_take 6 rfl (by kernel_rfl) (fun _ _ _ h => h) (YieldsG.pure (by rfl) (fun w9 _ => by go_simp; try with_reducible rfl)) ?_
      try simp only [Act.put, List.setIfInBounds_toArray, List.set_cons_zero, List.set_cons_succ]
      refine wpAnyG_take 7 rfl (by kernel_rfl) (fun _ _ _ h => h) (YieldsG.pure (by rfl) (fun w9 _ => by go_simp; try with_reducible rfl)) ?_
      try simp only [Act.put, List.setIfInBounds_toArray, List.set_cons_zero, List.set_cons_succ]
      refine wpAnyG_take 8 rfl (by kernel_rfl) (fun _ _ _ h => h) (YieldsG.pure (by rfl) (fun w9 _ => by go_simp; try with_reducible rfl)) ?_
      try simp only [Act.put, List.setIfInBounds_toArray, List.set_cons_zero, List.set_cons_succ]
      refine wpAnyG_take 9 rfl (by kernel_rfl) (fun _ _ _ h => h) (YieldsG.load (by rfl) _ _ rfl w1.heap.size 0 rfl (X.map bv) _ hgl hrg hu rfl hi2) ?_
      try simp only [Act.put, List.setIfInBounds_toArray, List.set_cons_zero, List.set_cons_succ]
      refine wpAnyG_take 10 rfl (by kernel_rfl) (fun _ _ _ h => h) (YieldsG.pure (by rfl) (fun w9 _ => by go_simp; try with_reducible rfl)) ?_
      try simp only [Act.put, List.setIfInBounds_toArray, List.set_cons_zero, List.set_cons_succ]
      refine wpAnyG_take 11 rfl (by kernel_rfl) (fun _ _ _ h => h) (YieldsG.pure (by rfl) (fun w9 _ => by go_simp; try with_reducible rfl)) ?_
      try simp only [Act.put, List.setIfInBounds_toArray, List.set_cons_zero, List.set_cons_succ]
      refine wpAnyG_sole 12 rfl (by kernel_rfl) (by rfl) (fun w3 h3 K hK => ?_)
      go_simp
      refine hK _ _ (fun _ => gr_alloc _ _) ?_
      clear hK K
      try simp only [Act.put, List.setIfInBounds_toArray, List.set_cons_zero, List.set_cons_succ]
      refine wpAnyG_take 13 rfl (by kernel_rfl) (fun _ _ _ h => h) (YieldsG.call (v := .agg (X.map bv).toArray) (by rfl) 25 _ (fun w9 => by go_simp; try with_reducible rfl) (fun w9 h9 => calls_dv (tagged_any w9 s _ [Tx.mk A (cat ts) cap] 1 ((texts_one (Tx.mk A (cat ts) cap) _ (HK2.out.below h3)).below h9) (HC2.out.below (h3.trans ((gr_alloc _ _).trans h9)) htl2) (by omega) (by have := HM.out; simp [cat]; simp [cat] at this; omega) (by simp)) (by simpa [cat] using HX.out.1))) ?_
      try simp only [Act.put, List.setIfInBounds_toArray, List.set_cons_zero, List.set_cons_succ]
      refine wpAnyG_take 14 rfl (by kernel_rfl) (fun _ _ _ h => h) (YieldsG.pure (by rfl) (fun w9 _ => by go_simp; try with_reducible rfl)) ?_
      try simp only [Act.put, List.setIfInBounds_toArray, List.set_cons_zero, List.set_cons_succ]
      refine wpAnyG_take 15 rfl (by kernel_rfl) (fun _ _ _ h => h) (YieldsG.pure (by rfl) (fun w9 _ => by go_simp; try with_reducible rfl)) ?_
      try simp only [Act.put, List.setIfInBounds_toArray, List.set_cons_zero, List.set_cons_succ]
      refine wpAnyG_take 16 rfl (by kernel_rfl) (fun _ _ _ h => h) (YieldsG.pure (by rfl) (fun w9 _ => by go_simp; try with_reducible rfl)) ?_
      try simp only [Act.put, List.setIfInBounds_toArray, List.set_cons_zero, List.set_cons_succ]
      refine wpAnyG_done (by kernel_rfl) (fun w5 h5 => ?_)
      go_wp2
      go_ret
      exact ⟨rfl, hb4.trans (Below.mono (h3.trans ((gr_alloc _ _).trans h5)) hb4.size)⟩
end Go.Proofs.YtbjfkfajhmcefaaDoor
