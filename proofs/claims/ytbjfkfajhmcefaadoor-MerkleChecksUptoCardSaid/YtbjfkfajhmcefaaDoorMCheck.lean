/-
  Check: the program's and the document's.
-/
import Derived.Test.YtbjfkfajhmcefaaDoorMClimb3
import Derived.Test.YtbjfkfajhmcefaaDoorMFold
namespace Go.Proofs.YtbjfkfajhmcefaaDoor
open Go.RowKit Sp

theorem fold_check (root leaf : List UInt8) (i n : Nat) (ps : List (List UInt8)) (hn : n ≤ 4294967295) : ((foldS leaf i n ps).2 && decide ((foldS leaf i n ps).1 = root)) = checkS root leaf i n ps := by
  unfold checkS
  rcases Nat.lt_or_ge i n with h | h
  · obtain ⟨h1, h2⟩ := fold_climb leaf n ps i n (Nat.le_refl _) (by omega) h (by omega)
    rw [h1]
    by_cases hl : ps.length = (sidesS i n).length
    · rw [h2 hl]; simp [h]
    · simp [hl]
  · rw [foldS_no leaf i n ps h]
    have : ¬ i < n := by omega
    simp [this]

theorem zero_info' : (Tryd.prog.info? 24).map (·.size) = some (zero32.map bv).toArray.size := zero_info
set_option maxHeartbeats 1000000 in
set_option maxRecDepth 100000 in
theorem check_no (w : World) (root leaf : List UInt8) (A : Option Addr) (ps : List (List UInt8)) (i n m c : Nat) (hr32 : root.length = 32) (hl32 : leaf.length = 32) (hi : i ≤ 4294967295) (hn : n ≤ 4294967295) (hm : m = ps.length) (hs : DSrc w A ps) (hc : m ≤ c) (ht : TabAt w 1) (hge : n ≤ i) :
    Calls Tryd.prog 39 #[.agg (root.map bv).toArray, .agg (leaf.map bv).toArray, .int .u32 i, .int .u32 n, .slice A m c] w fun e w' => e = .returned (.bool false) ∧ Below w.heap.size w w' := by
  have HC := Lib.hid ht
  have HS := Lib.hid (And.intro hs hm)
  have H32 := Lib.hid (And.intro hr32 hl32)
  have hA : Blk ((w.alloc (.cells (root.map bv).toArray 24)).alloc (.cells (leaf.map bv).toArray 24)) w.heap.size 24 (root.map bv).toArray := (Blk.new w _ _).alloc _
  have hB : Blk ((w.alloc (.cells (root.map bv).toArray 24)).alloc (.cells (leaf.map bv).toArray 24)) (w.heap.size + 1) 24 (leaf.map bv).toArray := heap_alloc2_new w _ _
  have h0 := below_alloc2 w (.cells (root.map bv).toArray 24) (.cells (leaf.map bv).toArray 24)
  have htl := ht.lt
  clear ht hs hm hr32 hl32
  go_enter Tryd.func39, Tryd.ntmps39
  go_wp2_with (refine wpList_load_row rfl 24 (.tmp 6) rfl (w.heap.size + 1) rfl 24 _ (0, 0) _ hB Tryd.underlying24 rfl (dig_info H32.out.2) ?_)
  refine (climb_no _ leaf A i n m c hge hi).mono ?_
  rintro e w1 ⟨v, rfl, _, hb1⟩
  have hb := h0.trans (hb1.mono h0.size)
  have hA1 := hA.below hb1 (by simp; omega)
  clear hA hB hb1
  unfold dv
  go_wp2_with (refine wpList_store_new rfl 24 (.tmp 11) (.tmp 20) rfl _ _ _ rfl rfl zero_info' rfl (dig_one _) ?_
               intro w2 hd2 hb2 hz2)
  go_ret
  exact ⟨rfl, hb.trans (hb2.mono hb.size)⟩

set_option maxHeartbeats 1000000 in
set_option maxRecDepth 100000 in
theorem check_off (w : World) (root leaf : List UInt8) (A : Option Addr) (ps : List (List UInt8)) (i n m c : Nat) (hr32 : root.length = 32) (hl32 : leaf.length = 32) (hi : i ≤ 4294967295) (hn : n ≤ 4294967295) (hm : m = ps.length) (hs : DSrc w A ps) (hc : m ≤ c) (ht : TabAt w 1) (hin : i < n) (hlen : m ≠ (sidesS i n).length) :
    Calls Tryd.prog 39 #[.agg (root.map bv).toArray, .agg (leaf.map bv).toArray, .int .u32 i, .int .u32 n, .slice A m c] w fun e w' => e = .returned (.bool false) ∧ Below w.heap.size w w' := by
  have HC := Lib.hid ht
  have HS := Lib.hid (And.intro hs hm)
  have H32 := Lib.hid (And.intro hr32 hl32)
  have hA : Blk ((w.alloc (.cells (root.map bv).toArray 24)).alloc (.cells (leaf.map bv).toArray 24)) w.heap.size 24 (root.map bv).toArray := (Blk.new w _ _).alloc _
  have hB : Blk ((w.alloc (.cells (root.map bv).toArray 24)).alloc (.cells (leaf.map bv).toArray 24)) (w.heap.size + 1) 24 (leaf.map bv).toArray := heap_alloc2_new w _ _
  have h0 := below_alloc2 w (.cells (root.map bv).toArray 24) (.cells (leaf.map bv).toArray 24)
  have htl := ht.lt
  clear ht hs hm hr32 hl32
  go_enter Tryd.func39, Tryd.ntmps39
  go_wp2_with (refine wpList_load_row rfl 24 (.tmp 6) rfl (w.heap.size + 1) rfl 24 _ (0, 0) _ hB Tryd.underlying24 rfl (dig_info H32.out.2) ?_)
  refine (climb_off _ leaf A i n m c hin hn hlen).mono ?_
  rintro e w1 ⟨v, rfl, _, hb1⟩
  have hb := h0.trans (hb1.mono h0.size)
  have hA1 := hA.below hb1 (by simp; omega)
  clear hA hB hb1
  unfold dv
  go_wp2_with (refine wpList_store_new rfl 24 (.tmp 11) (.tmp 20) rfl _ _ _ rfl rfl zero_info' rfl (dig_one _) ?_
               intro w2 hd2 hb2 hz2)
  go_ret
  exact ⟨rfl, hb.trans (hb2.mono hb.size)⟩

set_option maxHeartbeats 1000000 in
set_option maxRecDepth 100000 in
theorem check_yes (w : World) (root leaf : List UInt8) (A : Option Addr) (ps : List (List UInt8)) (i n m c : Nat) (hr32 : root.length = 32) (hl32 : leaf.length = 32) (hi : i ≤ 4294967295) (hn : n ≤ 4294967295) (hm : m = ps.length) (hs : DSrc w A ps) (hc : m ≤ c) (ht : TabAt w 1) (hin : i < n) (hlen : m = (sidesS i n).length) :
    Calls Tryd.prog 39 #[.agg (root.map bv).toArray, .agg (leaf.map bv).toArray, .int .u32 i, .int .u32 n, .slice A m c] w fun e w' => e = .returned (.bool (decide (climbS leaf (sidesS i n) ps m = root))) ∧ Below w.heap.size w w' := by
  have HC := Lib.hid ht
  have HS := Lib.hid (And.intro hs hm)
  have H32 := Lib.hid (And.intro hr32 hl32)
  have hA : Blk ((w.alloc (.cells (root.map bv).toArray 24)).alloc (.cells (leaf.map bv).toArray 24)) w.heap.size 24 (root.map bv).toArray := (Blk.new w _ _).alloc _
  have hB : Blk ((w.alloc (.cells (root.map bv).toArray 24)).alloc (.cells (leaf.map bv).toArray 24)) (w.heap.size + 1) 24 (leaf.map bv).toArray := heap_alloc2_new w _ _
  have h0 := below_alloc2 w (.cells (root.map bv).toArray 24) (.cells (leaf.map bv).toArray 24)
  have htl := ht.lt
  have HL := Lib.hid hlen
  clear hlen
  clear ht hs hm hr32 hl32
  go_enter Tryd.func39, Tryd.ntmps39
  go_wp2_with (refine wpList_load_row rfl 24 (.tmp 6) rfl (w.heap.size + 1) rfl 24 _ (0, 0) _ hB Tryd.underlying24 rfl (dig_info H32.out.2) ?_)
  refine (climb_yes _ leaf A ps i n m c H32.out.2 hin hn HL.out HS.out.2 (HS.out.1.below h0) hc (HC.out.below h0 htl)).mono ?_
  rintro e w1 ⟨v, rfl, _, hb1⟩
  have hb := h0.trans (hb1.mono h0.size)
  have hA1 := hA.below hb1 (by simp; omega)
  clear hA hB hb1
  unfold dv
  have hx32 := climbS_length leaf H32.out.2 (sidesS i n) ps m
  obtain ⟨X, hX⟩ : ∃ X, X = climbS leaf (sidesS i n) ps m := ⟨_, rfl⟩
  rw [← hX] at hx32
  obtain ⟨q, hq⟩ : ∃ q, q = decide (X = root) := ⟨_, rfl⟩
  have e1 : ∀ W, (binOp .eql 24 (.agg (X.map bv).toArray) (.agg (root.map bv).toArray)).run Tryd.prog W = .ok (.bool q) W := fun W => by rw [run_eql_digs W X root hx32 H32.out.1, hq]
  rw [← hX]
  have HX := Lib.hid (And.intro hx32 (And.intro hX hq))
  clear hx32 hX hq
  go_wp2_with (first
    | ((with_reducible refine here_store ?_); (refine wpList_store_new rfl 24 (.tmp 11) (.tmp 20) rfl _ _ _ rfl rfl (dig_info HX.out.1) (by rw [dig_size HX.out.1]; rfl) (dig_one _) ?_; intro w2 hd2 hb2 hz2; have hA2 := hA1.below hb2 hA1.lt))
    | ((with_reducible refine here_load (d := some 25) ?_); (refine wpList_load_want rfl 24 (.tmp 11) rfl w1.heap.size rfl 24 _ _ hd2 Tryd.underlying24 rfl (dig_info HX.out.1) ?_))
    | ((with_reducible refine here_load (d := some 26) ?_); (refine wpList_load_want rfl 24 (.tmp 5) rfl w.heap.size rfl 24 _ _ hA2 Tryd.underlying24 rfl (dig_info H32.out.1) ?_)))
  go_ret
  exact ⟨by rw [← HX.out.2.1, ← HX.out.2.2]; rfl, hb.trans (hb2.mono hb.size)⟩

theorem check_any (w : World) (root leaf : List UInt8) (A : Option Addr) (ps : List (List UInt8)) (i n m c : Nat) (hr32 : root.length = 32) (hl32 : leaf.length = 32) (hi : i ≤ 4294967295) (hn : n ≤ 4294967295) (hm : m = ps.length) (hs : DSrc w A ps) (hc : m ≤ c) (ht : TabAt w 1) :
    Calls Tryd.prog 39 #[.agg (root.map bv).toArray, .agg (leaf.map bv).toArray, .int .u32 i, .int .u32 n, .slice A m c] w fun e w' => e = .returned (.bool (checkS root leaf i n ps)) ∧ Below w.heap.size w w' := by
  unfold checkS
  rcases Nat.lt_or_ge i n with h | h
  · by_cases hl : m = (sidesS i n).length
    · refine (check_yes w root leaf A ps i n m c hr32 hl32 hi hn hm hs hc ht h hl).mono ?_
      rintro e w' ⟨he, hb⟩
      refine ⟨?_, hb⟩
      rw [he]
      have hl2 := hl
      rw [hm] at hl2
      simp [h, hl2, hm]
    · refine (check_off w root leaf A ps i n m c hr32 hl32 hi hn hm hs hc ht h hl).mono ?_
      rintro e w' ⟨he, hb⟩
      refine ⟨?_, hb⟩
      rw [he]
      have hl2 : ¬ ps.length = (sidesS i n).length := by rw [← hm]; exact hl
      simp [hl2]
  · refine (check_no w root leaf A ps i n m c hr32 hl32 hi hn hm hs hc ht h).mono ?_
    rintro e w' ⟨he, hb⟩
    refine ⟨?_, hb⟩
    rw [he]
    have : ¬ i < n := by omega
    simp [this]

set_option maxHeartbeats 2000000 in
set_option maxRecDepth 100000 in
theorem checkR_any (w : World) (root leaf : List UInt8) (A : Option Addr) (ps : List (List UInt8)) (i n m c : Nat) (hr32 : root.length = 32) (hl32 : leaf.length = 32) (hi : i ≤ 4294967295) (hn : n ≤ 4294967295) (hm : m = ps.length) (hs : DSrc w A ps) (hmm : m ≤ 1048576) (hc : m ≤ c) (hcm : c ≤ 9223372036854775807) (ht : TabAt w 0) :
    Calls Tryd.prog 40 #[.agg (root.map bv).toArray, .agg (leaf.map bv).toArray, .int .u32 i, .int .u32 n, .slice A m c] w fun e w' => e = .returned (.bool (checkS root leaf i n ps)) ∧ Below w.heap.size w w' := by
  have HC := Lib.hid ht
  have HS := Lib.hid (And.intro hs hm)
  have H32 := Lib.hid (And.intro hr32 hl32)
  have hA : Blk ((w.alloc (.cells (root.map bv).toArray 24)).alloc (.cells (leaf.map bv).toArray 24)) w.heap.size 24 (root.map bv).toArray := (Blk.new w _ _).alloc _
  have hB : Blk ((w.alloc (.cells (root.map bv).toArray 24)).alloc (.cells (leaf.map bv).toArray 24)) (w.heap.size + 1) 24 (leaf.map bv).toArray := heap_alloc2_new w _ _
  have h0 := below_alloc2 w (.cells (root.map bv).toArray 24) (.cells (leaf.map bv).toArray 24)
  have htl := ht.lt
  have q0 : (0 : Int) ≤ (i : Int) := by omega
  have q1 : (i : Int) ≤ 4294967295 := by omega
  have q2 : (n : Int) ≤ 4294967295 := by omega
  have q3 : (0 : Int) ≤ (n : Int) := by omega
  rcases Nat.lt_or_ge 64 m with h64 | h64
  · have hch : checkS root leaf i n ps = false := by
      unfold checkS
      have h1 := sidesS_32 i n (by omega)
      have h2 : ¬ ps.length = (sidesS i n).length := by omega
      simp [h2]
    rw [hch]
    have q4 : (64 : Int) < (m : Int) := by omega
    clear ht hs hm hr32 hl32 hch
    go_enter Tryd.func40, Tryd.ntmps40
    go_wp2
    go_ret
    exact ⟨rfl, h0⟩
  · have hch := fold_check root leaf i n ps hn
    have hF32 := foldS_length leaf hl32 i n ps
    have q4 : (m : Int) ≤ 64 := by omega
    obtain ⟨F, hF⟩ : ∃ F, F = foldS leaf i n ps := ⟨_, rfl⟩
    rw [← hF] at hch hF32
    rw [← hch]
    have HF := Lib.hid (And.intro hF hF32)
    clear ht hs hm hr32 hl32 hch hF hF32
    obtain ⟨X, b⟩ := F
    obtain ⟨q, hq⟩ : ∃ q, q = decide (X = root) := ⟨_, rfl⟩
    have e1 : ∀ W, (binOp .eql 24 (.agg (X.map bv).toArray) (.agg (root.map bv).toArray)).run Tryd.prog W = .ok (.bool q) W := fun W => by rw [run_eql_digs W X root HF.out.2 H32.out.1, hq]
    have HQ := Lib.hid hq
    clear hq
    cases b
    all_goals
      go_enter Tryd.func40, Tryd.ntmps40
      go_wp2_with (refine wpList_load_row rfl 24 (.tmp 6) rfl (w.heap.size + 1) rfl 24 _ (0, 0) _ hB Tryd.underlying24 rfl (dig_info H32.out.2) ?_)
      refine (fold_any leaf H32.out.2 m _ A ps i n m c (Nat.le_refl _) HS.out.2 hi hn hmm (HS.out.1.below h0) hc hcm (HC.out.below h0 htl)).mono ?_
      rw [← HF.out.1]
      rintro e w1 ⟨rfl, hb1⟩
      have hb := h0.trans (hb1.mono h0.size)
      have hA1 := hA.below hb1 (by simp; omega)
      clear hA hB hb1
      unfold dv
      go_wp2_with (first
        | ((with_reducible refine here_store ?_); (refine wpList_store_new rfl 24 (.tmp 11) (.tmp 24) rfl _ _ _ rfl rfl (dig_info HF.out.2) (by rw [dig_size HF.out.2]; rfl) (dig_one _) ?_; intro w2 hd2 hb2 hz2; have hA2 := hA1.below hb2 hA1.lt))
        | ((with_reducible refine here_load (d := some 28) ?_); (refine wpList_load_want rfl 24 (.tmp 11) rfl w1.heap.size rfl 24 _ _ hd2 Tryd.underlying24 rfl (dig_info HF.out.2) ?_))
        | ((with_reducible refine here_load (d := some 29) ?_); (refine wpList_load_want rfl 24 (.tmp 5) rfl w.heap.size rfl 24 _ _ hA2 Tryd.underlying24 rfl (dig_info H32.out.1) ?_)))
      go_ret
      exact ⟨by first | rfl | (rw [← HQ.out]; rfl), hb.trans (hb2.mono hb.size)⟩
end Go.Proofs.YtbjfkfajhmcefaaDoor
