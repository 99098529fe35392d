/-
  The law on the way back, walked.
-/
import Derived.Test.YtimnpakmifjgoaaDoorMWay
import Derived.Test.YtimnpakmifjgoaaDoorMAlive
import Derived.Test.YtimnpakmifjgoaaDoorStrOf
namespace Go.Proofs.YtimnpakmifjgoaaDoor
open Go.RowKit Sp

theorem TextV.below {w w' : World} {v : Value} {l : List UInt8} (h : TextV w v l) (hb : Below w.heap.size w w') : TextV w' v l := by
  obtain ⟨A, c, e, hs, h1, h2⟩ := h
  exact ⟨A, c, e, hs.below hb, h1, h2⟩
theorem neq_texts {l1 l2 : List UInt8} (h : l1 ≠ l2) (W : World) : (binOp .neq 9 (.string ⟨l1.toArray⟩) (.string ⟨l2.toArray⟩)).run Tryd.prog W = .ok (.bool true) W := by
  simp [go_sem, ByteArray.toList_eq, h]

set_option maxHeartbeats 2000000 in
set_option maxRecDepth 100000 in
theorem law_back_no (w : World) (A : Option Addr) (n c : Nat) (z : Int) (x : List UInt8) (hx : x.length = 32) (hz : z < 0 ∨ (n : Int) ≤ z) (ht : TabAt w 1) (htr : TabAt w 0) :
    Calls Tryd.prog 12 #[.slice A n c, .int .i64 z, .agg (x.map bv).toArray] w fun e w' => e = .returned (.bool true) ∧ Below w.heap.size w w' := by
  have HC := Lib.hid ht
  have HR := Lib.hid htr
  have HZ := Lib.hid hz
  have htl := ht.lt
  have hrl := htr.lt
  clear ht htr hx
  have h0 : Below w.heap.size w (w.alloc (.cells (x.map bv).toArray 24)) := (Below.refl _ _).alloc (Nat.le_refl _) _
  rcases Int.lt_or_le z 0 with hz0 | hz0
  all_goals
    try (have hz1 : (n : Int) ≤ z := by omega)
    clear hz
    go_enter Tryd.func12, Tryd.ntmps12
    go_wp2_with fail
    refine (path_no _ A n c z HZ.out).mono ?_
    rintro e w1 ⟨rfl, hb1⟩
    have hb := h0.trans (hb1.mono h0.size)
    clear hb1
    go_wp2_with fail
    refine (alive2_any w1 (HC.out.below hb htl) (HR.out.below hb hrl)).mono ?_
    rintro e w3 ⟨rfl, hb3⟩
    have hb := hb.trans (hb3.mono hb.size)
    clear hb3
    go_wp2
    go_ret
    exact ⟨rfl, hb⟩

set_option maxHeartbeats 1000000 in
set_option maxRecDepth 100000 in
theorem law_back_yes (w : World) (A : Option Addr) (ds : List (List UInt8)) (n c i : Nat) (x d : List UInt8) (hx : x.length = 32) (hn : n = ds.length) (hd : ds[i]? = some d) (hm : n ≤ 1048576) (hs : DSrc w A ds) (hc : n ≤ c) (hcm : c ≤ 9223372036854775807) (ht : TabAt w 1) (htr : TabAt w 0) :
    Calls Tryd.prog 12 #[.slice A n c, .int .i64 i, .agg (x.map bv).toArray] w fun e w' => e = .returned (.bool true) ∧ Below w.heap.size w w' := by
  have HC := Lib.hid ht
  have HR := Lib.hid htr
  have htl := ht.lt
  have hrl := htr.lt
  have hi : i < n := by rw [hn]; exact (List.getElem?_eq_some_iff.1 hd).1
  have hd32 := hs.1 d (List.mem_of_getElem? hd)
  have hrt := rootS_length ds hs.1
  have hck := path_checks ds d i hd (by omega)
  have hcn := checkS_ge (rootS ds) d n n (pathS ds i) (Nat.le_refl _)
  have hpl := pathS_length ds i
  rw [← hn] at hck hpl
  obtain ⟨b, o, rfl, hbl, hr⟩ := hs.2 (fun e => by rw [e] at hd; cases hd)
  have hrd := hr i d hd
  obtain ⟨p, hp⟩ : ∃ p, p = pathS ds i := ⟨_, rfl⟩
  obtain ⟨R, hR⟩ : ∃ R, R = rootS ds := ⟨_, rfl⟩
  rw [← hp] at hck hcn hpl
  rw [← hR] at hck hcn hrt
  have HS := Lib.hid (And.intro hs (And.intro hn (And.intro hp hR)))
  have H32 := Lib.hid (And.intro hx (And.intro hd32 hrt))
  have HK := Lib.hid (And.intro hck hcn)
  have hu := Tryd.underlying24
  have hix := dig_info' hx
  have hid := dig_info' hd32
  have hir := dig_info' hrt
  have q0 : (0 : Int) ≤ (i : Int) := by omega
  have q1 : (i : Int) < (n : Int) := by omega
  have q2 : (n : Int) ≤ 1048576 := by omega
  have h0 : Below w.heap.size w (w.alloc (.cells (x.map bv).toArray 24)) := (Below.refl _ _).alloc (Nat.le_refl _) _
  have hX := Blk.new w 24 (x.map bv).toArray
  clear ht htr hx hn hd hs hd32 hrt hck hcn hr hp hR
  go_enter Tryd.func12, Tryd.ntmps12
  go_wp2_with fail
  refine (path_any _ _ ds n c i HS.out.2.1 hi hm (HS.out.1.below h0) hc hcm (HC.out.below h0 htl)).mono ?_
  rw [← HS.out.2.2.1]
  rintro e w1 ⟨v1, rfl, hown1, hb1⟩
  have hX := hX.below hb1 hX.lt
  have hb := h0.trans (hb1.mono h0.size)
  obtain ⟨A1, c1, ev, hs1, hc1, hm1⟩ := hown1.any
  obtain ⟨m, hmp⟩ : ∃ m, m = p.length := ⟨_, rfl⟩
  rw [← hmp] at ev hc1 hpl
  subst ev
  have HP := Lib.hid (And.intro hs1 hmp)
  clear hown1 hs1 hb1 hmp
  go_wp2_with fail
  refine (root_any n w1 _ ds n c (Nat.le_refl _) HS.out.2.1 hm (HS.out.1.below hb) hc hcm (HC.out.below hb htl)).mono ?_
  rw [← HS.out.2.2.2]
  rintro e w2 ⟨rfl, hb2⟩
  have hX := hX.below hb2 hX.lt
  have hb := hb.trans (hb2.mono hb.size)
  have HP := Lib.hid (And.intro (HP.out.1.below hb2) HP.out.2)
  clear hb2
  unfold dv
  go_wp2_with (refine wpList_store_new rfl 24 (.tmp 9) (.tmp 39) rfl _ _ _ rfl rfl (dig_info H32.out.2.2) (by rw [dig_size H32.out.2.2]; rfl) (dig_one _) ?_
               intro w3 hRr hb3 hz3
               have hX := hX.below hb3 hX.lt
               have hb := hb.trans (hb3.mono hb.size)
               have HP := Lib.hid (And.intro (HP.out.1.below hb3) HP.out.2)
               clear hb3)
  have hi4 : i ≤ 4294967295 := by omega
  have hn4 : n ≤ 4294967295 := by omega
  have hwi : IntKind.u32.wrap (i : Int) = (i : Int) := by rw [IntKind.wrap_u32]; omega
  have hX0 := hX
  have rX := rangeAt_blk hX
  have lX := hX.lt
  have rR := rangeAt_blk hRr
  have lR := hRr.lt
  have lb : b < w3.heap.size := Nat.lt_of_lt_of_le hbl hb.size
  have rd : w3.rangeAt b (o + i * 32) (d.map bv) := fun j v hj => (hb.cell (p := ⟨b, o + i * 32 + j, none⟩) hbl).trans (hrd j v hj)
  refine wp_region_G (fun _ => false) (by kernel_rfl) ?_
  refine wpAnyG_take 0 rfl (by kernel_rfl) (fun _ _ _ h => h) (YieldsG.call (v := .bool true) (by rfl) 31 _ (fun w9 => by go_simp; try (first | with_reducible rfl | rfl)) (fun w9 h9 => alive2_any w9 (HC.out.below (Below.gr hb h9) htl) (HR.out.below (Below.gr hb h9) hrl))) ?_
  try simp only [Act.put, List.setIfInBounds_toArray, List.set_cons_zero, List.set_cons_succ]
  refine wpAnyG_take 1 rfl (by kernel_rfl) (fun _ _ _ h => h) (YieldsG.pure (by rfl) (fun w9 _ => by go_simp; try with_reducible rfl)) ?_
  try simp only [Act.put, List.setIfInBounds_toArray, List.set_cons_zero, List.set_cons_succ]
  refine wpAnyG_take 2 rfl (by kernel_rfl) (fun _ _ _ h => h) (YieldsG.pure (by rfl) (fun w9 _ => by go_simp; try with_reducible rfl)) ?_
  try simp only [Act.put, List.setIfInBounds_toArray, List.set_cons_zero, List.set_cons_succ]
  refine wpAnyG_take 3 rfl (by kernel_rfl) (fun _ _ _ h => h) (YieldsG.load (by rfl) _ _ rfl w2.heap.size 0 rfl (R.map bv) _ lR rR hu rfl hir) ?_
  try simp only [Act.put, List.setIfInBounds_toArray, List.set_cons_zero, List.set_cons_succ]
  refine wpAnyG_take 4 rfl (by kernel_rfl) (fun _ _ _ h => h) (YieldsG.pure (by rfl) (fun w9 _ => by go_simp; try with_reducible rfl)) ?_
  try simp only [Act.put, List.setIfInBounds_toArray, List.set_cons_zero, List.set_cons_succ]
  refine wpAnyG_take 5 rfl (by kernel_rfl) (fun _ _ _ h => h) (YieldsG.pure (by rfl) (fun w9 _ => by go_simp; try with_reducible rfl)) ?_
  try simp only [Act.put, List.setIfInBounds_toArray, List.set_cons_zero, List.set_cons_succ]
  refine wpAnyG_take 6 rfl (by kernel_rfl) (fun _ _ _ h => h) (YieldsG.pure (by rfl) (fun w9 _ => by go_simp; try with_reducible rfl)) ?_
  try simp only [Act.put, List.setIfInBounds_toArray, List.set_cons_zero, List.set_cons_succ]
  refine wpAnyG_take 7 rfl (by kernel_rfl) (fun _ _ _ h => h) (YieldsG.load (by rfl) _ _ rfl b (o + i * 32) rfl (d.map bv) _ lb rd hu rfl hid) ?_
  try simp only [Act.put, List.setIfInBounds_toArray, List.set_cons_zero, List.set_cons_succ]
  refine wpAnyG_take 8 rfl (by kernel_rfl) (fun _ _ _ h => h) (YieldsG.pure (by rfl) (fun w9 _ => by go_simp; try with_reducible rfl)) ?_
  try simp only [Act.put, List.setIfInBounds_toArray, List.set_cons_zero, List.set_cons_succ]
  refine wpAnyG_take 9 rfl (by kernel_rfl) (fun _ _ _ h => h) (YieldsG.pure (by rfl) (fun w9 _ => by go_simp; try with_reducible rfl)) ?_
  try simp only [Act.put, List.setIfInBounds_toArray, List.set_cons_zero, List.set_cons_succ]
  refine wpAnyG_take 10 rfl (by kernel_rfl) (fun _ _ _ h => h) (YieldsG.pure (by rfl) (fun w9 _ => by go_simp; try with_reducible rfl)) ?_
  try simp only [Act.put, List.setIfInBounds_toArray, List.set_cons_zero, List.set_cons_succ]
  refine wpAnyG_take 11 rfl (by kernel_rfl) (fun _ _ _ h => h) (YieldsG.pure (by rfl) (fun w9 _ => by go_simp; try with_reducible rfl)) ?_
  try simp only [Act.put, List.setIfInBounds_toArray, List.set_cons_zero, List.set_cons_succ]
  refine wpAnyG_take 12 rfl (by kernel_rfl) (fun _ _ _ h => h) (YieldsG.call (v := .bool true) (by rfl) 39 _ (fun w9 => by go_simp; try (first | with_reducible rfl | rfl)) (fun w9 h9 => HK.out.1 ▸ check_any w9 R d A1 p i n m c1 H32.out.2.2 H32.out.2.1 hi4 hn4 HP.out.2 (HP.out.1.below h9) hc1 (HC.out.below (Below.gr hb h9) htl))) ?_
  try simp only [Act.put, List.setIfInBounds_toArray, List.set_cons_zero, List.set_cons_succ]
  refine wpAnyG_take 13 rfl (by kernel_rfl) (fun _ _ _ h => h) (YieldsG.pure (by rfl) (fun w9 _ => by go_simp; try with_reducible rfl)) ?_
  try simp only [Act.put, List.setIfInBounds_toArray, List.set_cons_zero, List.set_cons_succ]
  refine wpAnyG_take 14 rfl (by kernel_rfl) (fun _ _ _ h => h) (YieldsG.pure (by rfl) (fun w9 _ => by go_simp; try with_reducible rfl)) ?_
  try simp only [Act.put, List.setIfInBounds_toArray, List.set_cons_zero, List.set_cons_succ]
  refine wpAnyG_take 15 rfl (by kernel_rfl) (fun _ _ _ h => h) (YieldsG.pure (by rfl) (fun w9 _ => by go_simp; try with_reducible rfl)) ?_
  try simp only [Act.put, List.setIfInBounds_toArray, List.set_cons_zero, List.set_cons_succ]
  refine wpAnyG_take 16 rfl (by kernel_rfl) (fun _ _ _ h => h) (YieldsG.load (by rfl) _ _ rfl w2.heap.size 0 rfl (R.map bv) _ lR rR hu rfl hir) ?_
  try simp only [Act.put, List.setIfInBounds_toArray, List.set_cons_zero, List.set_cons_succ]
  refine wpAnyG_take 17 rfl (by kernel_rfl) (fun _ _ _ h => h) (YieldsG.pure (by rfl) (fun w9 _ => by go_simp; try with_reducible rfl)) ?_
  try simp only [Act.put, List.setIfInBounds_toArray, List.set_cons_zero, List.set_cons_succ]
  refine wpAnyG_take 18 rfl (by kernel_rfl) (fun _ _ _ h => h) (YieldsG.pure (by rfl) (fun w9 _ => by go_simp; try with_reducible rfl)) ?_
  try simp only [Act.put, List.setIfInBounds_toArray, List.set_cons_zero, List.set_cons_succ]
  refine wpAnyG_take 19 rfl (by kernel_rfl) (fun _ _ _ h => h) (YieldsG.pure (by rfl) (fun w9 _ => by go_simp; try with_reducible rfl)) ?_
  try simp only [Act.put, List.setIfInBounds_toArray, List.set_cons_zero, List.set_cons_succ]
  refine wpAnyG_take 20 rfl (by kernel_rfl) (fun _ _ _ h => h) (YieldsG.load (by rfl) _ _ rfl b (o + i * 32) rfl (d.map bv) _ lb rd hu rfl hid) ?_
  try simp only [Act.put, List.setIfInBounds_toArray, List.set_cons_zero, List.set_cons_succ]
  refine wpAnyG_take 21 rfl (by kernel_rfl) (fun _ _ _ h => h) (YieldsG.pure (by rfl) (fun w9 _ => by go_simp; try with_reducible rfl)) ?_
  try simp only [Act.put, List.setIfInBounds_toArray, List.set_cons_zero, List.set_cons_succ]
  refine wpAnyG_take 22 rfl (by kernel_rfl) (fun _ _ _ h => h) (YieldsG.pure (by rfl) (fun w9 _ => by go_simp; try with_reducible rfl)) ?_
  try simp only [Act.put, List.setIfInBounds_toArray, List.set_cons_zero, List.set_cons_succ]
  refine wpAnyG_take 23 rfl (by kernel_rfl) (fun _ _ _ h => h) (YieldsG.pure (by rfl) (fun w9 _ => by go_simp; try with_reducible rfl)) ?_
  try simp only [Act.put, List.setIfInBounds_toArray, List.set_cons_zero, List.set_cons_succ]
  refine wpAnyG_take 24 rfl (by kernel_rfl) (fun _ _ _ h => h) (YieldsG.call (v := .bool false) (by rfl) 39 _ (fun w9 => by go_simp; try (first | with_reducible rfl | rfl)) (fun w9 h9 => HK.out.2 ▸ check_any w9 R d A1 p n n m c1 H32.out.2.2 H32.out.2.1 hn4 hn4 HP.out.2 (HP.out.1.below h9) hc1 (HC.out.below (Below.gr hb h9) htl))) ?_
  try simp only [Act.put, List.setIfInBounds_toArray, List.set_cons_zero, List.set_cons_succ]
  refine wpAnyG_take 25 rfl (by kernel_rfl) (fun _ _ _ h => h) (YieldsG.pure (by rfl) (fun w9 _ => by go_simp; try with_reducible rfl)) ?_
  try simp only [Act.put, List.setIfInBounds_toArray, List.set_cons_zero, List.set_cons_succ]
  refine wpAnyG_done (by kernel_rfl) (fun w4 h4 => ?_)
  have h4' : Below w3.heap.size w3 w4 := h4
  have hb := Below.gr hb h4
  have HP := Lib.hid (And.intro (HP.out.1.below h4') HP.out.2)
  have hX := hX0.below h4' lX
  have rR : w4.rangeAt w2.heap.size 0 (R.map bv) := fun j v hj => (h4'.cell (p := ⟨w2.heap.size, 0 + j, none⟩) lR).trans (rR j v hj)
  have rd : w4.rangeAt b (o + i * 32) (d.map bv) := fun j v hj => (h4'.cell (p := ⟨b, o + i * 32 + j, none⟩) lb).trans (rd j v hj)
  have rX := rangeAt_blk hX
  have lX := hX.lt
  have lR := Nat.lt_of_lt_of_le lR h4'.size
  have lb := Nat.lt_of_lt_of_le lb h4'.size
  have hX0 := hX
  obtain ⟨q, hq⟩ : ∃ q, q = decide (x = d) := ⟨_, rfl⟩
  have e1 : ∀ W, (binOp .eql 24 (.agg (x.map bv).toArray) (.agg (d.map bv).toArray)).run Tryd.prog W = .ok (.bool q) W := fun W => by rw [run_eql_digs W x d H32.out.1 H32.out.2.1, hq]
  have HQ := Lib.hid hq
  clear hq
  go_wp2_with fail
  cases q with
  | true =>
    refine wp_region_G (fun _ => false) (by kernel_rfl) ?_
    refine wpAnyG_take 0 rfl (by kernel_rfl) (fun _ _ _ h => h) (YieldsG.load (by rfl) _ _ rfl w.heap.size 0 rfl (x.map bv) _ lX rX hu rfl hix) ?_
    try simp only [Act.put, List.setIfInBounds_toArray, List.set_cons_zero, List.set_cons_succ]
    refine wpAnyG_take 1 rfl (by kernel_rfl) (fun _ _ _ h => h) (YieldsG.pure (by rfl) (fun w9 _ => by go_simp; try with_reducible rfl)) ?_
    try simp only [Act.put, List.setIfInBounds_toArray, List.set_cons_zero, List.set_cons_succ]
    refine wpAnyG_take 2 rfl (by kernel_rfl) (fun _ _ _ h => h) (YieldsG.pure (by rfl) (fun w9 _ => by go_simp; try with_reducible rfl)) ?_
    try simp only [Act.put, List.setIfInBounds_toArray, List.set_cons_zero, List.set_cons_succ]
    refine wpAnyG_take 3 rfl (by kernel_rfl) (fun _ _ _ h => h) (YieldsG.pure (by rfl) (fun w9 _ => by go_simp; try with_reducible rfl)) ?_
    try simp only [Act.put, List.setIfInBounds_toArray, List.set_cons_zero, List.set_cons_succ]
    refine wpAnyG_take 4 rfl (by kernel_rfl) (fun _ _ _ h => h) (YieldsG.load (by rfl) _ _ rfl b (o + i * 32) rfl (d.map bv) _ lb rd hu rfl hid) ?_
    try simp only [Act.put, List.setIfInBounds_toArray, List.set_cons_zero, List.set_cons_succ]
    refine wpAnyG_take 5 rfl (by kernel_rfl) (fun _ _ _ h => h) (YieldsG.pure (by rfl) (fun w9 _ => by go_simp; try with_reducible rfl)) ?_
    try simp only [Act.put, List.setIfInBounds_toArray, List.set_cons_zero, List.set_cons_succ]
    refine wpAnyG_take 6 rfl (by kernel_rfl) (fun _ _ _ h => h) (YieldsG.pure (by rfl) (fun w9 _ => by go_simp; try with_reducible rfl)) ?_
    try simp only [Act.put, List.setIfInBounds_toArray, List.set_cons_zero, List.set_cons_succ]
    refine wpAnyG_take 7 rfl (by kernel_rfl) (fun _ _ _ h => h) (YieldsG.skip (by rfl)) ?_
    try simp only [Act.put, List.setIfInBounds_toArray, List.set_cons_zero, List.set_cons_succ]
    refine wpAnyG_take 8 rfl (by kernel_rfl) (fun _ _ _ h => h) (YieldsG.skip (by rfl)) ?_
    try simp only [Act.put, List.setIfInBounds_toArray, List.set_cons_zero, List.set_cons_succ]
    refine wpAnyG_take 9 rfl (by kernel_rfl) (fun _ _ _ h => h) (YieldsG.skip (by rfl)) ?_
    try simp only [Act.put, List.setIfInBounds_toArray, List.set_cons_zero, List.set_cons_succ]
    refine wpAnyG_take 10 rfl (by kernel_rfl) (fun _ _ _ h => h) (YieldsG.skip (by rfl)) ?_
    try simp only [Act.put, List.setIfInBounds_toArray, List.set_cons_zero, List.set_cons_succ]
    refine wpAnyG_take 11 rfl (by kernel_rfl) (fun _ _ _ h => h) (YieldsG.skip (by rfl)) ?_
    try simp only [Act.put, List.setIfInBounds_toArray, List.set_cons_zero, List.set_cons_succ]
    refine wpAnyG_take 12 rfl (by kernel_rfl) (fun _ _ _ h => h) (YieldsG.skip (by rfl)) ?_
    try simp only [Act.put, List.setIfInBounds_toArray, List.set_cons_zero, List.set_cons_succ]
    refine wpAnyG_take 13 rfl (by kernel_rfl) (fun _ _ _ h => h) (YieldsG.skip (by rfl)) ?_
    try simp only [Act.put, List.setIfInBounds_toArray, List.set_cons_zero, List.set_cons_succ]
    refine wpAnyG_take 14 rfl (by kernel_rfl) (fun _ _ _ h => h) (YieldsG.skip (by rfl)) ?_
    try simp only [Act.put, List.setIfInBounds_toArray, List.set_cons_zero, List.set_cons_succ]
    refine wpAnyG_take 15 rfl (by kernel_rfl) (fun _ _ _ h => h) (YieldsG.pure (by rfl) (fun w9 _ => by go_simp; try with_reducible rfl)) ?_
    try simp only [Act.put, List.setIfInBounds_toArray, List.set_cons_zero, List.set_cons_succ]
    refine wpAnyG_done (by kernel_rfl) (fun w5 h5 => ?_)
    go_wp2
    go_ret
    exact ⟨rfl, Below.gr hb h5⟩
  | false =>
    have hne : x ≠ d := by
      intro e
      have h := HQ.out
      simp [e] at h
    obtain ⟨cq, hcq⟩ : ∃ cq, cq = checkS R x i n p := ⟨_, rfl⟩
    have HCQ := Lib.hid (And.intro hne hcq.symm)
    clear hne hcq
    refine wp_region_G (fun _ => false) (by kernel_rfl) ?_
    refine wpAnyG_take 0 rfl (by kernel_rfl) (fun _ _ _ h => h) (YieldsG.load (by rfl) _ _ rfl w.heap.size 0 rfl (x.map bv) _ lX rX hu rfl hix) ?_
    try simp only [Act.put, List.setIfInBounds_toArray, List.set_cons_zero, List.set_cons_succ]
    refine wpAnyG_take 1 rfl (by kernel_rfl) (fun _ _ _ h => h) (YieldsG.pure (by rfl) (fun w9 _ => by go_simp; try with_reducible rfl)) ?_
    try simp only [Act.put, List.setIfInBounds_toArray, List.set_cons_zero, List.set_cons_succ]
    refine wpAnyG_take 2 rfl (by kernel_rfl) (fun _ _ _ h => h) (YieldsG.pure (by rfl) (fun w9 _ => by go_simp; try with_reducible rfl)) ?_
    try simp only [Act.put, List.setIfInBounds_toArray, List.set_cons_zero, List.set_cons_succ]
    refine wpAnyG_take 3 rfl (by kernel_rfl) (fun _ _ _ h => h) (YieldsG.pure (by rfl) (fun w9 _ => by go_simp; try with_reducible rfl)) ?_
    try simp only [Act.put, List.setIfInBounds_toArray, List.set_cons_zero, List.set_cons_succ]
    refine wpAnyG_take 4 rfl (by kernel_rfl) (fun _ _ _ h => h) (YieldsG.load (by rfl) _ _ rfl b (o + i * 32) rfl (d.map bv) _ lb rd hu rfl hid) ?_
    try simp only [Act.put, List.setIfInBounds_toArray, List.set_cons_zero, List.set_cons_succ]
    refine wpAnyG_take 5 rfl (by kernel_rfl) (fun _ _ _ h => h) (YieldsG.pure (by rfl) (fun w9 _ => by go_simp; try with_reducible rfl)) ?_
    try simp only [Act.put, List.setIfInBounds_toArray, List.set_cons_zero, List.set_cons_succ]
    refine wpAnyG_take 6 rfl (by kernel_rfl) (fun _ _ _ h => h) (YieldsG.pure (by rfl) (fun w9 _ => by go_simp; try with_reducible rfl)) ?_
    try simp only [Act.put, List.setIfInBounds_toArray, List.set_cons_zero, List.set_cons_succ]
    refine wpAnyG_take 7 rfl (by kernel_rfl) (fun _ _ _ h => h) (YieldsG.load (by rfl) _ _ rfl w2.heap.size 0 rfl (R.map bv) _ lR rR hu rfl hir) ?_
    try simp only [Act.put, List.setIfInBounds_toArray, List.set_cons_zero, List.set_cons_succ]
    refine wpAnyG_take 8 rfl (by kernel_rfl) (fun _ _ _ h => h) (YieldsG.load (by rfl) _ _ rfl w.heap.size 0 rfl (x.map bv) _ lX rX hu rfl hix) ?_
    try simp only [Act.put, List.setIfInBounds_toArray, List.set_cons_zero, List.set_cons_succ]
    refine wpAnyG_take 9 rfl (by kernel_rfl) (fun _ _ _ h => h) (YieldsG.pure (by rfl) (fun w9 _ => by go_simp; try with_reducible rfl)) ?_
    try simp only [Act.put, List.setIfInBounds_toArray, List.set_cons_zero, List.set_cons_succ]
    refine wpAnyG_take 10 rfl (by kernel_rfl) (fun _ _ _ h => h) (YieldsG.pure (by rfl) (fun w9 _ => by go_simp; try with_reducible rfl)) ?_
    try simp only [Act.put, List.setIfInBounds_toArray, List.set_cons_zero, List.set_cons_succ]
    refine wpAnyG_take 11 rfl (by kernel_rfl) (fun _ _ _ h => h) (YieldsG.pure (by rfl) (fun w9 _ => by go_simp; try with_reducible rfl)) ?_
    try simp only [Act.put, List.setIfInBounds_toArray, List.set_cons_zero, List.set_cons_succ]
    refine wpAnyG_take 12 rfl (by kernel_rfl) (fun _ _ _ h => h) (YieldsG.pure (by rfl) (fun w9 _ => by go_simp; try with_reducible rfl)) ?_
    try simp only [Act.put, List.setIfInBounds_toArray, List.set_cons_zero, List.set_cons_succ]
    refine wpAnyG_take 13 rfl (by kernel_rfl) (fun _ _ _ h => h) (YieldsG.call (v := .bool cq) (by rfl) 39 _ (fun w9 => by go_simp; try (first | with_reducible rfl | rfl)) (fun w9 h9 => HCQ.out.2 ▸ check_any w9 R x A1 p i n m c1 H32.out.2.2 H32.out.1 hi4 hn4 HP.out.2 (HP.out.1.below h9) hc1 (HC.out.below (Below.gr hb h9) htl))) ?_
    try simp only [Act.put, List.setIfInBounds_toArray, List.set_cons_zero, List.set_cons_succ]
    refine wpAnyG_take 14 rfl (by kernel_rfl) (fun _ _ _ h => h) (YieldsG.pure (by rfl) (fun w9 _ => by go_simp; try with_reducible rfl)) ?_
    try simp only [Act.put, List.setIfInBounds_toArray, List.set_cons_zero, List.set_cons_succ]
    refine wpAnyG_take 15 rfl (by kernel_rfl) (fun _ _ _ h => h) (YieldsG.pure (by rfl) (fun w9 _ => by go_simp; try with_reducible rfl)) ?_
    try simp only [Act.put, List.setIfInBounds_toArray, List.set_cons_zero, List.set_cons_succ]
    refine wpAnyG_done (by kernel_rfl) (fun w5 h5 => ?_)
    have h5' : Below w4.heap.size w4 w5 := h5
    have hb := Below.gr hb h5
    cases cq with
    | false =>
      go_wp2
      go_ret
      exact ⟨rfl, hb⟩
    | true =>
      have HP := Lib.hid (And.intro (HP.out.1.below h5') HP.out.2)
      have hX := hX0.below h5' lX
      have rd : w5.rangeAt b (o + i * 32) (d.map bv) := fun j v hj => (h5'.cell (p := ⟨b, o + i * 32 + j, none⟩) lb).trans (rd j v hj)
      have rX := rangeAt_blk hX
      have lX := hX.lt
      have lb := Nat.lt_of_lt_of_le lb h5'.size
      have ko := checkS_ok HK.out.1
      have kx := checkS_ok HCQ.out.2
      have HKO := Lib.hid (And.intro ko kx)
      clear ko kx
      go_wp2_with fail
      refine wp_region_G (fun _ => false) (by kernel_rfl) ?_
      refine wpAnyG_take 0 rfl (by kernel_rfl) (fun _ _ _ h => h) (YieldsG.pure (by rfl) (fun w9 _ => by go_simp; try with_reducible rfl)) ?_
      try simp only [Act.put, List.setIfInBounds_toArray, List.set_cons_zero, List.set_cons_succ]
      refine wpAnyG_take 1 rfl (by kernel_rfl) (fun _ _ _ h => h) (YieldsG.pure (by rfl) (fun w9 _ => by go_simp; try with_reducible rfl)) ?_
      try simp only [Act.put, List.setIfInBounds_toArray, List.set_cons_zero, List.set_cons_succ]
      refine wpAnyG_take 2 rfl (by kernel_rfl) (fun _ _ _ h => h) (YieldsG.pure (by rfl) (fun w9 _ => by go_simp; try with_reducible rfl)) ?_
      try simp only [Act.put, List.setIfInBounds_toArray, List.set_cons_zero, List.set_cons_succ]
      refine wpAnyG_take 3 rfl (by kernel_rfl) (fun _ _ _ h => h) (YieldsG.load (by rfl) _ _ rfl b (o + i * 32) rfl (d.map bv) _ lb rd hu rfl hid) ?_
      try simp only [Act.put, List.setIfInBounds_toArray, List.set_cons_zero, List.set_cons_succ]
      refine wpAnyG_take 4 rfl (by kernel_rfl) (fun _ _ _ h => h) (YieldsG.load (by rfl) _ _ rfl w.heap.size 0 rfl (x.map bv) _ lX rX hu rfl hix) ?_
      try simp only [Act.put, List.setIfInBounds_toArray, List.set_cons_zero, List.set_cons_succ]
      refine wpAnyG_take 5 rfl (by kernel_rfl) (fun _ _ _ h => h) (YieldsG.pure (by rfl) (fun w9 _ => by go_simp; try with_reducible rfl)) ?_
      try simp only [Act.put, List.setIfInBounds_toArray, List.set_cons_zero, List.set_cons_succ]
      refine wpAnyG_take 6 rfl (by kernel_rfl) (fun _ _ _ h => h) (YieldsG.pure (by rfl) (fun w9 _ => by go_simp; try with_reducible rfl)) ?_
      try simp only [Act.put, List.setIfInBounds_toArray, List.set_cons_zero, List.set_cons_succ]
      refine wpAnyG_take 7 rfl (by kernel_rfl) (fun _ _ _ h => h) (YieldsG.pure (by rfl) (fun w9 _ => by go_simp; try with_reducible rfl)) ?_
      try simp only [Act.put, List.setIfInBounds_toArray, List.set_cons_zero, List.set_cons_succ]
      refine wpAnyG_take 8 rfl (by kernel_rfl) (fun _ _ _ h => h) (YieldsG.pure (by rfl) (fun w9 _ => by go_simp; try with_reducible rfl)) ?_
      try simp only [Act.put, List.setIfInBounds_toArray, List.set_cons_zero, List.set_cons_succ]
      refine wpAnyG_take 9 rfl (by kernel_rfl) (fun _ _ _ h => h) (YieldsG.pure (by rfl) (fun w9 _ => by go_simp; try with_reducible rfl)) ?_
      try simp only [Act.put, List.setIfInBounds_toArray, List.set_cons_zero, List.set_cons_succ]
      refine wpAnyG_sole 10 rfl (by kernel_rfl) (by rfl) (fun w6 h6 K hK => ?_)
      go_simp
      refine (clash_some w6 d x A1 A1 p p i n m c1 m c1 H32.out.2.1 H32.out.1 hi4 hn4 HP.out.2 HP.out.2 (HP.out.1.below h6) (HP.out.1.below h6) hc1 hc1 (HC.out.below (Below.gr hb h6) htl) HKO.out.1.1 HKO.out.2.1 (HKO.out.1.2.trans HKO.out.2.2.symm) (fun e => HCQ.out.1 e.1.symm)).mono ?_
      rintro e w7 ⟨V1, V2, rfl, ⟨l1, l2, t1, t2, hne, hsum, z1, z2⟩, hb7⟩
      refine hK _ _ (fun _ => hb7) ?_
      clear hK K
      try simp only [Act.put, List.setIfInBounds_toArray, List.set_cons_zero, List.set_cons_succ]
      refine wpAnyG_takeA 11 rfl (by kernel_rfl) (fun _ _ _ h => h) (fun _ => YieldsG.pure (by rfl) (fun w9 _ => by go_simp; try with_reducible rfl)) ?_
      try simp only [Act.put, List.setIfInBounds_toArray, List.set_cons_zero, List.set_cons_succ]
      refine wpAnyG_takeA 12 rfl (by kernel_rfl) (fun _ _ _ h => h) (fun _ => YieldsG.pure (by rfl) (fun w9 _ => by go_simp; try with_reducible rfl)) ?_
      try simp only [Act.put, List.setIfInBounds_toArray, List.set_cons_zero, List.set_cons_succ]
      refine wpAnyG_takeA 13 rfl (by kernel_rfl) (fun _ _ _ h => h) (fun _ => YieldsG.pure (by rfl) (fun w9 _ => by go_simp; try with_reducible rfl)) ?_
      try simp only [Act.put, List.setIfInBounds_toArray, List.set_cons_zero, List.set_cons_succ]
      refine wpAnyG_takeA 14 rfl (by kernel_rfl) (fun _ _ _ h => h) (fun _ => YieldsG.pure (by rfl) (fun w9 _ => by go_simp; try with_reducible rfl)) ?_
      try simp only [Act.put, List.setIfInBounds_toArray, List.set_cons_zero, List.set_cons_succ]
      refine wpAnyG_sole 15 rfl (by kernel_rfl) (by rfl) (fun s1 gs1 K hK => ?_)
      go_simp
      refine hK _ _ (fun _ => Below.refl _ _) ?_
      clear hK K
      try simp only [Act.put, List.setIfInBounds_toArray, List.set_cons_zero, List.set_cons_succ]
      refine wpAnyG_sole 16 rfl (by kernel_rfl) (by rfl) (fun s3 gs3 K hK => ?_)
      go_simp
      refine hK _ _ (fun _ => Below.refl _ _) ?_
      clear hK K
      try simp only [Act.put, List.setIfInBounds_toArray, List.set_cons_zero, List.set_cons_succ]
      refine wpAnyG_sole 17 rfl (by kernel_rfl) (by rfl) (fun s5 gs5 K hK => ?_)
      go_simp
      refine hK _ _ (fun _ => Below.refl _ _) ?_
      clear hK K
      try simp only [Act.put, List.setIfInBounds_toArray, List.set_cons_zero, List.set_cons_succ]
      refine wpAnyG_done (by kernel_rfl) (fun w8 h8 => ?_)
      have hbw := Below.gr (Below.gr (Below.gr (Below.gr (Below.gr (Below.gr hb h6) hb7) gs1) gs3) gs5) h8
      obtain ⟨B1, d1, rfl, hs1, hd1, hd1m⟩ := (((t1.below gs1).below gs3).below gs5).below h8
      obtain ⟨B2, d2, rfl, hs2, hd2, hd2m⟩ := (((t2.below gs1).below gs3).below gs5).below h8
      have es1 := run_string_of (P := Tryd.prog) (c := d1) hs1 Tryd.underlying22 Tryd.underlying5 Tryd.underlying9
      have es2 := run_string_of (P := Tryd.prog) (c := d2) hs2 Tryd.underlying22 Tryd.underlying5 Tryd.underlying9
      have en := neq_texts hne
      have hbeq : (l1 == l2) = false := by simp [hne]
      have y1 := sum_length l1
      have y2 := sum_length l2
      have HT1 := Lib.hid (And.intro hs1 z1)
      have HT2 := Lib.hid (And.intro hs2 z2)
      obtain ⟨S1, hS1⟩ : ∃ S1, S1 = sum l1 := ⟨_, rfl⟩
      obtain ⟨S2, hS2⟩ : ∃ S2, S2 = sum l2 := ⟨_, rfl⟩
      rw [← hS1] at y1
      rw [← hS2] at y2
      have ee : ∀ W, (binOp .eql 24 (.agg (S1.map bv).toArray) (.agg (S2.map bv).toArray)).run Tryd.prog W = .ok (.bool true) W := fun W => by rw [run_eql_digs W _ _ y1 y2, show S1 = S2 from by rw [hS1, hS2]; exact hsum]; simp
      have HSS := Lib.hid (And.intro hS1 hS2)
      clear t1 t2 hs1 hs2 z1 z2 hsum hS1 hS2 hwi hb gs1 gs3 gs5 hb7 y1 y2
      go_wp2_with fail
      refine (ofR_any w8 B1 l1 d1 HT1.out.1 (by rw [HT1.out.2]; decide) (HR.out.below hbw hrl)).mono ?_
      rw [← HSS.out.1]
      rintro e w10 ⟨rfl, hb10⟩
      have hbw := hbw.trans (hb10.mono hbw.size)
      unfold dv
      go_wp2_with fail
      refine (ofR_any w10 B2 l2 d2 (HT2.out.1.below hb10) (by rw [HT2.out.2]; decide) (HR.out.below hbw hrl)).mono ?_
      rw [← HSS.out.2]
      rintro e w11 ⟨rfl, hb11⟩
      have hbw := hbw.trans (hb11.mono hbw.size)
      unfold dv
      go_wp2
      go_ret
      exact ⟨by first | rfl | (show Ending.returned (.bool (!(l1 == l2))) = _; rw [hbeq]; rfl), hbw⟩

theorem law_back (w : World) (A : Option Addr) (ds : List (List UInt8)) (c : Nat) (z : Int) (x : List UInt8) (hx : x.length = 32) (hm : ds.length ≤ 1048576) (hs : DSrc w A ds) (hc : ds.length ≤ c) (hcm : c ≤ 9223372036854775807) (ht : TabAt w 1) (htr : TabAt w 0) :
    Calls Tryd.prog 12 #[.slice A ds.length c, .int .i64 z, .agg (x.map bv).toArray] w fun e w' => e = .returned (.bool true) ∧ Below w.heap.size w w' := by
  by_cases hz : z < 0 ∨ (ds.length : Int) ≤ z
  · exact law_back_no w A ds.length c z x hx hz ht htr
  · obtain ⟨i, rfl⟩ : ∃ i : Nat, z = i := ⟨z.toNat, by omega⟩
    have hi : i < ds.length := by omega
    exact law_back_yes w A ds ds.length c i x ds[i] hx rfl (List.getElem?_eq_getElem hi) hm hs hc hcm ht htr
end Go.Proofs.YtimnpakmifjgoaaDoor
