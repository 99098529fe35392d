/-
  The law on two paths to one root, walked.
-/
import Derived.Test.YtimnpakmifjgoaaDoorMWay
import Derived.Test.YtimnpakmifjgoaaDoorMAlive
import Derived.Test.YtimnpakmifjgoaaDoorStrOf
namespace Go.Proofs.YtimnpakmifjgoaaDoor
open Go.RowKit Sp

theorem TextV.later {w w' : World} {v : Value} {l : List UInt8} (h : TextV w v l) (hb : Below w.heap.size w w') : TextV w' v l := by
  obtain ⟨A, c, e, hs, h1, h2⟩ := h
  exact ⟨A, c, e, hs.below hb, h1, h2⟩
theorem neq_strings {l1 l2 : List UInt8} (h : l1 ≠ l2) (W : World) : (binOp .neq 9 (.string ⟨l1.toArray⟩) (.string ⟨l2.toArray⟩)).run Tryd.prog W = .ok (.bool true) W := by
  simp [go_sem, ByteArray.toList_eq, h]
theorem fold_okS (leaf : List UInt8) (i n : Nat) (ps : List (List UInt8)) (hn : n ≤ 4294967295) : (foldS leaf i n ps).2 = okS i n ps ∧ (okS i n ps = true → (foldS leaf i n ps).1 = topS leaf i n ps) := by
  rcases Nat.lt_or_ge i n with h | h
  · obtain ⟨h1, h2⟩ := fold_climb leaf n ps i n (Nat.le_refl _) (by omega) h (by omega)
    refine ⟨by rw [h1]; unfold okS; simp [h], fun hk => ?_⟩
    rw [h2 (okS_spec hk).2, topS_ok leaf hk]
  · have e : okS i n ps = false := by unfold okS; simp; omega
    rw [foldS_no leaf i n ps h, e]
    exact ⟨rfl, fun hk => by cases hk⟩
theorem okS_long {i n : Nat} {ps : List (List UInt8)} (hn : n ≤ 4294967295) (h : 64 < ps.length) : okS i n ps = false := by
  cases e : okS i n ps with
  | false => rfl
  | true =>
    have h1 := (okS_spec e).2
    have h2 := sidesS_32 i n (by omega)
    omega

set_option maxHeartbeats 1000000 in
set_option maxRecDepth 100000 in
theorem law_fooled_long (w : World) (a b : List UInt8) (A B : Option Addr) (ps qs : List (List UInt8)) (i n i2 n2 m mc k kc : Nat) (ha : a.length = 32) (hb : b.length = 32) (hi : i ≤ 4294967295) (hn : n ≤ 4294967295) (hm : m = ps.length) (hk : k = qs.length) (hmm : m ≤ 1048576) (hkk : k ≤ 1048576) (hA : DSrc w A ps) (hB : DSrc w B qs) (hmc : m ≤ mc) (hmcm : mc ≤ 9223372036854775807) (hkc : k ≤ kc) (hkcm : kc ≤ 9223372036854775807) (ht : TabAt w 1) (htr : TabAt w 0) (hl : 64 < m ∨ 64 < k) :
    Calls Tryd.prog 13 #[.agg (a.map bv).toArray, .agg (b.map bv).toArray, .agg #[.int .u32 i, .int .u32 n, .slice A m mc, .int .u32 i2, .int .u32 n2, .slice B k kc]] w fun e w' => e = .returned (.bool true) ∧ Below w.heap.size w w'  := by
  have hno : okS i n ps = false ∨ okS i n qs = false ∨ topS a i n ps ≠ topS b i n qs ∨ (a = b ∧ ps = qs) := by
    rcases hl with h | h
    · exact .inl (okS_long hn (by omega))
    · exact .inr (.inl (okS_long hn (by omega)))
  have HNO := Lib.hid hno
  have HLL := Lib.hid hl
  clear hno hl
  have HC := Lib.hid ht
  have HR := Lib.hid htr
  have HSA := Lib.hid (And.intro hA hm)
  have HSB := Lib.hid (And.intro hB hk)
  have H32 := Lib.hid (And.intro ha hb)
  have htl := ht.lt
  have hrl := htr.lt
  have hu := Tryd.underlying24
  clear ht htr hA hB hm hk ha hb
  go_enter Tryd.func13, Tryd.ntmps13
  go_wp2
  generalize hW : World.alloc _ _ = W
  have hA : Blk W w.heap.size 24 (a.map bv).toArray := by subst hW; exact ((Blk.new w _ _).alloc _).alloc _
  have hB : Blk W (w.heap.size + 1) 24 (b.map bv).toArray := by subst hW; exact Blk.alloc (heap_alloc2_new w _ _) _
  have hC : Blk W (w.heap.size + 2) 59 #[.int .u32 i, .int .u32 n, .slice A m mc, .int .u32 i2, .int .u32 n2, .slice B k kc] := by subst hW; exact blk_new3 w _ _ _ _
  have hb3 : Below w.heap.size w W := by subst hW; exact below_alloc3 w _ _ _
  clear hW
  have lC := hC.lt
  have c0 := rangeAt_blk hC 0 _ rfl
  have c1 := rangeAt_blk hC 1 _ rfl
  have c2 := rangeAt_blk hC 2 _ rfl
  have c5 := rangeAt_blk hC 5 _ rfl
  refine wp_region_G (fun _ => false) (by kernel_rfl) ?_
  refine wpAnyG_take 0 rfl (by kernel_rfl) (fun _ _ _ h => h) (YieldsG.pure (by rfl) (fun w9 _ => by go_simp; try with_reducible rfl)) ?_
  try simp only [Act.put, List.setIfInBounds_toArray, List.set_cons_zero, List.set_cons_succ]
  refine wpAnyG_take 1 rfl (by kernel_rfl) (fun _ _ _ h => h) (YieldsG.pure (by rfl) (fun w9 _ => by go_simp; try with_reducible rfl)) ?_
  try simp only [Act.put, List.setIfInBounds_toArray, List.set_cons_zero, List.set_cons_succ]
  refine wpAnyG_take 2 rfl (by kernel_rfl) (fun _ _ _ h => h) (YieldsG.pure (v := .int .u32 i) (by rfl) (fun w9 h9 => by have hz := (Below.cell (p := ⟨w.heap.size + 2, 0 + 0, none⟩) h9 lC).trans c0; go_simp; first | done | simp [hz])) ?_
  try simp only [Act.put, List.setIfInBounds_toArray, List.set_cons_zero, List.set_cons_succ]
  refine wpAnyG_take 3 rfl (by kernel_rfl) (fun _ _ _ h => h) (YieldsG.pure (by rfl) (fun w9 _ => by go_simp; try with_reducible rfl)) ?_
  try simp only [Act.put, List.setIfInBounds_toArray, List.set_cons_zero, List.set_cons_succ]
  refine wpAnyG_take 4 rfl (by kernel_rfl) (fun _ _ _ h => h) (YieldsG.pure (by rfl) (fun w9 _ => by go_simp; try with_reducible rfl)) ?_
  try simp only [Act.put, List.setIfInBounds_toArray, List.set_cons_zero, List.set_cons_succ]
  refine wpAnyG_take 5 rfl (by kernel_rfl) (fun _ _ _ h => h) (YieldsG.pure (v := .int .u32 n) (by rfl) (fun w9 h9 => by have hz := (Below.cell (p := ⟨w.heap.size + 2, 0 + 1, none⟩) h9 lC).trans c1; go_simp; first | done | simp [hz])) ?_
  try simp only [Act.put, List.setIfInBounds_toArray, List.set_cons_zero, List.set_cons_succ]
  refine wpAnyG_take 6 rfl (by kernel_rfl) (fun _ _ _ h => h) (YieldsG.pure (by rfl) (fun w9 _ => by go_simp; try with_reducible rfl)) ?_
  try simp only [Act.put, List.setIfInBounds_toArray, List.set_cons_zero, List.set_cons_succ]
  refine wpAnyG_take 7 rfl (by kernel_rfl) (fun _ _ _ h => h) (YieldsG.pure (by rfl) (fun w9 _ => by go_simp; try with_reducible rfl)) ?_
  try simp only [Act.put, List.setIfInBounds_toArray, List.set_cons_zero, List.set_cons_succ]
  refine wpAnyG_take 8 rfl (by kernel_rfl) (fun _ _ _ h => h) (YieldsG.pure (v := .slice A m mc) (by rfl) (fun w9 h9 => by have hz := (Below.cell (p := ⟨w.heap.size + 2, 0 + 2, none⟩) h9 lC).trans c2; go_simp; first | done | simp [hz])) ?_
  try simp only [Act.put, List.setIfInBounds_toArray, List.set_cons_zero, List.set_cons_succ]
  refine wpAnyG_take 9 rfl (by kernel_rfl) (fun _ _ _ h => h) (YieldsG.pure (by rfl) (fun w9 _ => by go_simp; try with_reducible rfl)) ?_
  try simp only [Act.put, List.setIfInBounds_toArray, List.set_cons_zero, List.set_cons_succ]
  refine wpAnyG_take 10 rfl (by kernel_rfl) (fun _ _ _ h => h) (YieldsG.pure (by rfl) (fun w9 _ => by go_simp; try with_reducible rfl)) ?_
  try simp only [Act.put, List.setIfInBounds_toArray, List.set_cons_zero, List.set_cons_succ]
  refine wpAnyG_take 11 rfl (by kernel_rfl) (fun _ _ _ h => h) (YieldsG.pure (v := .slice B k kc) (by rfl) (fun w9 h9 => by have hz := (Below.cell (p := ⟨w.heap.size + 2, 0 + 5, none⟩) h9 lC).trans c5; go_simp; first | done | simp [hz])) ?_
  try simp only [Act.put, List.setIfInBounds_toArray, List.set_cons_zero, List.set_cons_succ]
  refine wpAnyG_sole 12 rfl (by kernel_rfl) (by rfl) (fun s1 gs1 K hK => ?_)
  go_simp
  refine hK _ _ (fun _ => Below.refl _ _) ?_
  clear hK K
  try simp only [Act.put, List.setIfInBounds_toArray, List.set_cons_zero, List.set_cons_succ]
  refine wpAnyG_sole 13 rfl (by kernel_rfl) (by rfl) (fun s2 gs2 K hK => ?_)
  go_simp
  refine hK _ _ (fun _ => Below.refl _ _) ?_
  clear hK K
  try simp only [Act.put, List.setIfInBounds_toArray, List.set_cons_zero, List.set_cons_succ]
  refine wpAnyG_sole 14 rfl (by kernel_rfl) (by rfl) (fun s3 gs3 K hK => ?_)
  go_simp
  refine hK _ _ (fun _ => Below.refl _ _) ?_
  clear hK K
  try simp only [Act.put, List.setIfInBounds_toArray, List.set_cons_zero, List.set_cons_succ]
  refine wpAnyG_sole 15 rfl (by kernel_rfl) (by rfl) (fun s4 gs4 K hK => ?_)
  go_simp
  refine hK _ _ (fun _ => Below.refl _ _) ?_
  clear hK K
  try simp only [Act.put, List.setIfInBounds_toArray, List.set_cons_zero, List.set_cons_succ]
  refine wpAnyG_done (by kernel_rfl) (fun w4 g4 => ?_)
  have gW : Below W.heap.size W w4 := Below.gr (Below.gr (Below.gr (Below.gr (Below.gr (Below.refl _ W) gs1) gs2) gs3) gs4) g4
  have hb := Below.gr hb3 gW
  have hA := hA.below gW hA.lt
  have hB := hB.below gW hB.lt
  have HSA := Lib.hid (And.intro (HSA.out.1.below hb) HSA.out.2)
  have HSB := Lib.hid (And.intro (HSB.out.1.below hb) HSB.out.2)
  clear gW gs1 gs2 gs3 gs4 g4 hb3 hC lC c0 c1 c2 c5
  go_wp2_with (first
    | ((with_reducible refine here_load (d := some 31) ?_); (refine wpList_load_row rfl 24 (.tmp 3) rfl w.heap.size rfl 24 _ (0, 0) _ hA Tryd.underlying24 rfl (dig_info H32.out.1) ?_))
    | ((with_reducible refine here_load (d := some 32) ?_); (refine wpList_load_row rfl 24 (.tmp 4) rfl (w.heap.size + 1) rfl 24 _ (0, 0) _ hB Tryd.underlying24 rfl (dig_info H32.out.2) ?_)))
  refine (clash_none w4 a b A B ps qs i n m mc k kc H32.out.1 H32.out.2 hi hn HSA.out.2 HSB.out.2 HSA.out.1 HSB.out.1 hmc hkc (HC.out.below hb htl) HNO.out).mono ?_
  rintro e w5 ⟨rfl, h5⟩
  have hA := hA.below h5 hA.lt
  have hB := hB.below h5 hB.lt
  have hb := hb.trans (h5.mono hb.size)
  have HSA := Lib.hid (And.intro (HSA.out.1.below h5) HSA.out.2)
  have HSB := Lib.hid (And.intro (HSB.out.1.below h5) HSB.out.2)
  rcases Nat.lt_or_ge 64 m with hm1 | hm1
  · have z1 : (64 : Int) < (m : Int) := by omega
    go_wp2_with fail
    refine (alive2_any w5 (HC.out.below hb htl) (HR.out.below hb hrl)).mono ?_
    rintro e w6 ⟨rfl, hw6⟩
    have hb := hb.trans (hw6.mono hb.size)
    go_wp2
    go_ret
    exact ⟨rfl, hb⟩
  · have z1 : (m : Int) ≤ 64 := by omega
    have z2 : (64 : Int) < (k : Int) := by have := HLL.out; omega
    go_wp2_with fail
    refine (alive2_any w5 (HC.out.below hb htl) (HR.out.below hb hrl)).mono ?_
    rintro e w6 ⟨rfl, hw6⟩
    have hb := hb.trans (hw6.mono hb.size)
    go_wp2
    go_ret
    exact ⟨rfl, hb⟩

set_option maxHeartbeats 2000000 in
set_option maxRecDepth 100000 in
theorem law_fooled_none (w : World) (a b : List UInt8) (A B : Option Addr) (ps qs : List (List UInt8)) (i n i2 n2 m mc k kc : Nat) (ha : a.length = 32) (hb : b.length = 32) (hi : i ≤ 4294967295) (hn : n ≤ 4294967295) (hm : m = ps.length) (hk : k = qs.length) (hmm : m ≤ 1048576) (hkk : k ≤ 1048576) (hA : DSrc w A ps) (hB : DSrc w B qs) (hmc : m ≤ mc) (hmcm : mc ≤ 9223372036854775807) (hkc : k ≤ kc) (hkcm : kc ≤ 9223372036854775807) (ht : TabAt w 1) (htr : TabAt w 0) (hm64 : m ≤ 64) (hk64 : k ≤ 64) (hno : okS i n ps = false ∨ okS i n qs = false ∨ topS a i n ps ≠ topS b i n qs ∨ (a = b ∧ ps = qs)) :
    Calls Tryd.prog 13 #[.agg (a.map bv).toArray, .agg (b.map bv).toArray, .agg #[.int .u32 i, .int .u32 n, .slice A m mc, .int .u32 i2, .int .u32 n2, .slice B k kc]] w fun e w' => e = .returned (.bool true) ∧ Below w.heap.size w w'  := by
  have HNO := Lib.hid hno
  clear hno
  have HC := Lib.hid ht
  have HR := Lib.hid htr
  have HSA := Lib.hid (And.intro hA hm)
  have HSB := Lib.hid (And.intro hB hk)
  have H32 := Lib.hid (And.intro ha hb)
  have htl := ht.lt
  have hrl := htr.lt
  have hu := Tryd.underlying24
  clear ht htr hA hB hm hk ha hb
  go_enter Tryd.func13, Tryd.ntmps13
  go_wp2
  generalize hW : World.alloc _ _ = W
  have hA : Blk W w.heap.size 24 (a.map bv).toArray := by subst hW; exact ((Blk.new w _ _).alloc _).alloc _
  have hB : Blk W (w.heap.size + 1) 24 (b.map bv).toArray := by subst hW; exact Blk.alloc (heap_alloc2_new w _ _) _
  have hC : Blk W (w.heap.size + 2) 59 #[.int .u32 i, .int .u32 n, .slice A m mc, .int .u32 i2, .int .u32 n2, .slice B k kc] := by subst hW; exact blk_new3 w _ _ _ _
  have hb3 : Below w.heap.size w W := by subst hW; exact below_alloc3 w _ _ _
  clear hW
  have lC := hC.lt
  have c0 := rangeAt_blk hC 0 _ rfl
  have c1 := rangeAt_blk hC 1 _ rfl
  have c2 := rangeAt_blk hC 2 _ rfl
  have c5 := rangeAt_blk hC 5 _ rfl
  refine wp_region_G (fun _ => false) (by kernel_rfl) ?_
  refine wpAnyG_take 0 rfl (by kernel_rfl) (fun _ _ _ h => h) (YieldsG.pure (by rfl) (fun w9 _ => by go_simp; try with_reducible rfl)) ?_
  try simp only [Act.put, List.setIfInBounds_toArray, List.set_cons_zero, List.set_cons_succ]
  refine wpAnyG_take 1 rfl (by kernel_rfl) (fun _ _ _ h => h) (YieldsG.pure (by rfl) (fun w9 _ => by go_simp; try with_reducible rfl)) ?_
  try simp only [Act.put, List.setIfInBounds_toArray, List.set_cons_zero, List.set_cons_succ]
  refine wpAnyG_take 2 rfl (by kernel_rfl) (fun _ _ _ h => h) (YieldsG.pure (v := .int .u32 i) (by rfl) (fun w9 h9 => by have hz := (Below.cell (p := ⟨w.heap.size + 2, 0 + 0, none⟩) h9 lC).trans c0; go_simp; first | done | simp [hz])) ?_
  try simp only [Act.put, List.setIfInBounds_toArray, List.set_cons_zero, List.set_cons_succ]
  refine wpAnyG_take 3 rfl (by kernel_rfl) (fun _ _ _ h => h) (YieldsG.pure (by rfl) (fun w9 _ => by go_simp; try with_reducible rfl)) ?_
  try simp only [Act.put, List.setIfInBounds_toArray, List.set_cons_zero, List.set_cons_succ]
  refine wpAnyG_take 4 rfl (by kernel_rfl) (fun _ _ _ h => h) (YieldsG.pure (by rfl) (fun w9 _ => by go_simp; try with_reducible rfl)) ?_
  try simp only [Act.put, List.setIfInBounds_toArray, List.set_cons_zero, List.set_cons_succ]
  refine wpAnyG_take 5 rfl (by kernel_rfl) (fun _ _ _ h => h) (YieldsG.pure (v := .int .u32 n) (by rfl) (fun w9 h9 => by have hz := (Below.cell (p := ⟨w.heap.size + 2, 0 + 1, none⟩) h9 lC).trans c1; go_simp; first | done | simp [hz])) ?_
  try simp only [Act.put, List.setIfInBounds_toArray, List.set_cons_zero, List.set_cons_succ]
  refine wpAnyG_take 6 rfl (by kernel_rfl) (fun _ _ _ h => h) (YieldsG.pure (by rfl) (fun w9 _ => by go_simp; try with_reducible rfl)) ?_
  try simp only [Act.put, List.setIfInBounds_toArray, List.set_cons_zero, List.set_cons_succ]
  refine wpAnyG_take 7 rfl (by kernel_rfl) (fun _ _ _ h => h) (YieldsG.pure (by rfl) (fun w9 _ => by go_simp; try with_reducible rfl)) ?_
  try simp only [Act.put, List.setIfInBounds_toArray, List.set_cons_zero, List.set_cons_succ]
  refine wpAnyG_take 8 rfl (by kernel_rfl) (fun _ _ _ h => h) (YieldsG.pure (v := .slice A m mc) (by rfl) (fun w9 h9 => by have hz := (Below.cell (p := ⟨w.heap.size + 2, 0 + 2, none⟩) h9 lC).trans c2; go_simp; first | done | simp [hz])) ?_
  try simp only [Act.put, List.setIfInBounds_toArray, List.set_cons_zero, List.set_cons_succ]
  refine wpAnyG_take 9 rfl (by kernel_rfl) (fun _ _ _ h => h) (YieldsG.pure (by rfl) (fun w9 _ => by go_simp; try with_reducible rfl)) ?_
  try simp only [Act.put, List.setIfInBounds_toArray, List.set_cons_zero, List.set_cons_succ]
  refine wpAnyG_take 10 rfl (by kernel_rfl) (fun _ _ _ h => h) (YieldsG.pure (by rfl) (fun w9 _ => by go_simp; try with_reducible rfl)) ?_
  try simp only [Act.put, List.setIfInBounds_toArray, List.set_cons_zero, List.set_cons_succ]
  refine wpAnyG_take 11 rfl (by kernel_rfl) (fun _ _ _ h => h) (YieldsG.pure (v := .slice B k kc) (by rfl) (fun w9 h9 => by have hz := (Below.cell (p := ⟨w.heap.size + 2, 0 + 5, none⟩) h9 lC).trans c5; go_simp; first | done | simp [hz])) ?_
  try simp only [Act.put, List.setIfInBounds_toArray, List.set_cons_zero, List.set_cons_succ]
  refine wpAnyG_sole 12 rfl (by kernel_rfl) (by rfl) (fun s1 gs1 K hK => ?_)
  go_simp
  refine hK _ _ (fun _ => Below.refl _ _) ?_
  clear hK K
  try simp only [Act.put, List.setIfInBounds_toArray, List.set_cons_zero, List.set_cons_succ]
  refine wpAnyG_sole 13 rfl (by kernel_rfl) (by rfl) (fun s2 gs2 K hK => ?_)
  go_simp
  refine hK _ _ (fun _ => Below.refl _ _) ?_
  clear hK K
  try simp only [Act.put, List.setIfInBounds_toArray, List.set_cons_zero, List.set_cons_succ]
  refine wpAnyG_sole 14 rfl (by kernel_rfl) (by rfl) (fun s3 gs3 K hK => ?_)
  go_simp
  refine hK _ _ (fun _ => Below.refl _ _) ?_
  clear hK K
  try simp only [Act.put, List.setIfInBounds_toArray, List.set_cons_zero, List.set_cons_succ]
  refine wpAnyG_sole 15 rfl (by kernel_rfl) (by rfl) (fun s4 gs4 K hK => ?_)
  go_simp
  refine hK _ _ (fun _ => Below.refl _ _) ?_
  clear hK K
  try simp only [Act.put, List.setIfInBounds_toArray, List.set_cons_zero, List.set_cons_succ]
  refine wpAnyG_done (by kernel_rfl) (fun w4 g4 => ?_)
  have gW : Below W.heap.size W w4 := Below.gr (Below.gr (Below.gr (Below.gr (Below.gr (Below.refl _ W) gs1) gs2) gs3) gs4) g4
  have hb := Below.gr hb3 gW
  have hA := hA.below gW hA.lt
  have hB := hB.below gW hB.lt
  have HSA := Lib.hid (And.intro (HSA.out.1.below hb) HSA.out.2)
  have HSB := Lib.hid (And.intro (HSB.out.1.below hb) HSB.out.2)
  clear gW gs1 gs2 gs3 gs4 g4 hb3 hC lC c0 c1 c2 c5
  go_wp2_with (first
    | ((with_reducible refine here_load (d := some 31) ?_); (refine wpList_load_row rfl 24 (.tmp 3) rfl w.heap.size rfl 24 _ (0, 0) _ hA Tryd.underlying24 rfl (dig_info H32.out.1) ?_))
    | ((with_reducible refine here_load (d := some 32) ?_); (refine wpList_load_row rfl 24 (.tmp 4) rfl (w.heap.size + 1) rfl 24 _ (0, 0) _ hB Tryd.underlying24 rfl (dig_info H32.out.2) ?_)))
  refine (clash_none w4 a b A B ps qs i n m mc k kc H32.out.1 H32.out.2 hi hn HSA.out.2 HSB.out.2 HSA.out.1 HSB.out.1 hmc hkc (HC.out.below hb htl) HNO.out).mono ?_
  rintro e w5 ⟨rfl, h5⟩
  have hA := hA.below h5 hA.lt
  have hB := hB.below h5 hB.lt
  have hb := hb.trans (h5.mono hb.size)
  have HSA := Lib.hid (And.intro (HSA.out.1.below h5) HSA.out.2)
  have HSB := Lib.hid (And.intro (HSB.out.1.below h5) HSB.out.2)
  have z1 : (m : Int) ≤ 64 := by omega
  have z2 : (k : Int) ≤ 64 := by omega
  go_wp2_with ((with_reducible refine here_load (d := some 55) ?_); (refine wpList_load_want rfl 24 (.tmp 3) rfl w.heap.size rfl 24 _ _ hA Tryd.underlying24 rfl (dig_info H32.out.1) ?_))
  have f1 := fold_okS a i n ps hn
  have f2 := fold_okS b i n qs hn
  have l1 := foldS_length a H32.out.1 i n ps
  have l2 := foldS_length b H32.out.2 i n qs
  refine (fold_any a H32.out.1 m w5 A ps i n m mc (Nat.le_refl _) HSA.out.2 hi hn hmm HSA.out.1 hmc hmcm (HR.out.below hb hrl)).mono ?_
  obtain ⟨F1, hF1⟩ : ∃ F1, F1 = foldS a i n ps := ⟨_, rfl⟩
  obtain ⟨F2, hF2⟩ : ∃ F2, F2 = foldS b i n qs := ⟨_, rfl⟩
  rw [← hF1] at f1 l1
  rw [← hF2] at f2 l2
  rw [← hF1]
  have HF2 := Lib.hid hF2
  clear hF1 hF2
  obtain ⟨X, b1⟩ := F1
  obtain ⟨Y, b2⟩ := F2
  have HX := Lib.hid (And.intro l1 f1)
  have HY := Lib.hid (And.intro l2 f2)
  clear l1 l2 f1 f2
  rintro e w6 ⟨rfl, h6⟩
  have hA := hA.below h6 hA.lt
  have hB := hB.below h6 hB.lt
  have hb := hb.trans (h6.mono hb.size)
  have HSA := Lib.hid (And.intro (HSA.out.1.below h6) HSA.out.2)
  have HSB := Lib.hid (And.intro (HSB.out.1.below h6) HSB.out.2)
  unfold dv
  go_wp2_with (first
    | ((with_reducible refine here_store ?_); (refine wpList_store_new rfl 24 (.tmp 14) (.tmp 62) rfl _ _ _ rfl rfl (dig_info HX.out.1) (by rw [dig_size HX.out.1]; rfl) (dig_one _) ?_; intro w7 hd7 h7 hz7; have hA := hA.below h7 hA.lt; have hB := hB.below h7 hB.lt; have hb := hb.trans (h7.mono hb.size); have HSA := Lib.hid (And.intro (HSA.out.1.below h7) HSA.out.2); have HSB := Lib.hid (And.intro (HSB.out.1.below h7) HSB.out.2)))
    | ((with_reducible refine here_load (d := some 65) ?_); (refine wpList_load_want rfl 24 (.tmp 4) rfl (w.heap.size + 1) rfl 24 _ _ hB Tryd.underlying24 rfl (dig_info H32.out.2) ?_)))
  refine (fold_any b H32.out.2 k w7 B qs i n k kc (Nat.le_refl _) HSB.out.2 hi hn hkk HSB.out.1 hkc hkcm (HR.out.below hb hrl)).mono ?_
  rw [← HF2.out]
  rintro e w8 ⟨rfl, h8⟩
  have hd7 := hd7.below h8 hd7.lt
  have hA := hA.below h8 hA.lt
  have hB := hB.below h8 hB.lt
  have hb := hb.trans (h8.mono hb.size)
  have HSA := Lib.hid (And.intro (HSA.out.1.below h8) HSA.out.2)
  have HSB := Lib.hid (And.intro (HSB.out.1.below h8) HSB.out.2)
  unfold dv
  have e1 : ∀ W, (binOp .neq 24 (.agg (X.map bv).toArray) (.agg (Y.map bv).toArray)).run Tryd.prog W = .ok (.bool (decide (X ≠ Y))) W := fun W => run_neq_digs W X Y HX.out.1 HY.out.1
  have e2 : ∀ W, (binOp .eql 24 (.agg (a.map bv).toArray) (.agg (b.map bv).toArray)).run Tryd.prog W = .ok (.bool (decide (a = b))) W := fun W => run_eql_digs W a b H32.out.1 H32.out.2
  obtain ⟨x, hx⟩ : ∃ x, x = decide (X ≠ Y) := ⟨_, rfl⟩
  obtain ⟨y, hy⟩ : ∃ y, y = decide (a = b) := ⟨_, rfl⟩
  rw [← hx] at e1
  rw [← hy] at e2
  have HXY := Lib.hid (And.intro hx hy)
  clear hx hy
  cases b1 with
  | false =>
    go_wp2_with (first
      | ((with_reducible refine here_store ?_); (refine wpList_store_new rfl 24 (.tmp 16) (.tmp 72) rfl _ _ _ rfl rfl (dig_info HY.out.1) (by rw [dig_size HY.out.1]; rfl) (dig_one _) ?_; intro w9 hd9 h9 hz9; have hA := hA.below h9 hA.lt; have hB := hB.below h9 hB.lt; have hd7 := hd7.below h9 hd7.lt; have hb := hb.trans (h9.mono hb.size); have HSA := Lib.hid (And.intro (HSA.out.1.below h9) HSA.out.2); have HSB := Lib.hid (And.intro (HSB.out.1.below h9) HSB.out.2))))
    refine (alive2_any w9 (HC.out.below hb htl) (HR.out.below hb hrl)).mono ?_
    rintro e w11 ⟨rfl, hw11⟩
    have hb := hb.trans (hw11.mono hb.size)
    go_wp2
    go_ret
    exact ⟨rfl, hb⟩
  | true =>
    cases b2 with
    | false =>
      go_wp2_with (first
        | ((with_reducible refine here_store ?_); (refine wpList_store_new rfl 24 (.tmp 16) (.tmp 72) rfl _ _ _ rfl rfl (dig_info HY.out.1) (by rw [dig_size HY.out.1]; rfl) (dig_one _) ?_; intro w9 hd9 h9 hz9; have hA := hA.below h9 hA.lt; have hB := hB.below h9 hB.lt; have hd7 := hd7.below h9 hd7.lt; have hb := hb.trans (h9.mono hb.size); have HSA := Lib.hid (And.intro (HSA.out.1.below h9) HSA.out.2); have HSB := Lib.hid (And.intro (HSB.out.1.below h9) HSB.out.2))))
      refine (alive2_any w9 (HC.out.below hb htl) (HR.out.below hb hrl)).mono ?_
      rintro e w11 ⟨rfl, hw11⟩
      have hb := hb.trans (hw11.mono hb.size)
      go_wp2
      go_ret
      exact ⟨rfl, hb⟩
    | true =>
      cases x with
      | true =>
        go_wp2_with (first
          | ((with_reducible refine here_store ?_); (refine wpList_store_new rfl 24 (.tmp 16) (.tmp 72) rfl _ _ _ rfl rfl (dig_info HY.out.1) (by rw [dig_size HY.out.1]; rfl) (dig_one _) ?_; intro w9 hd9 h9 hz9; have hA := hA.below h9 hA.lt; have hB := hB.below h9 hB.lt; have hd7 := hd7.below h9 hd7.lt; have hb := hb.trans (h9.mono hb.size); have HSA := Lib.hid (And.intro (HSA.out.1.below h9) HSA.out.2); have HSB := Lib.hid (And.intro (HSB.out.1.below h9) HSB.out.2)))
          | ((with_reducible refine here_load (d := some 81) ?_); (refine wpList_load_want rfl 24 (.tmp 14) rfl w6.heap.size rfl 24 _ _ hd7 Tryd.underlying24 rfl (dig_info HX.out.1) ?_))
          | ((with_reducible refine here_load (d := some 82) ?_); (refine wpList_load_want rfl 24 (.tmp 16) rfl w8.heap.size rfl 24 _ _ hd9 Tryd.underlying24 rfl (dig_info HY.out.1) ?_)))
        refine (alive2_any w9 (HC.out.below hb htl) (HR.out.below hb hrl)).mono ?_
        rintro e w11 ⟨rfl, hw11⟩
        have hb := hb.trans (hw11.mono hb.size)
        go_wp2
        go_ret
        exact ⟨rfl, hb⟩
      | false =>
        have hab : a = b ∧ ps = qs := by
          have hXY : X = Y := by
            have h := HXY.out.1
            by_cases e : X = Y
            · exact e
            · simp [e] at h
          rcases HNO.out with h | h | h | h
          · rw [← HX.out.2.1] at h; cases h
          · rw [← HY.out.2.1] at h; cases h
          · exact absurd (by rw [← HX.out.2.2 HX.out.2.1.symm, ← HY.out.2.2 HY.out.2.1.symm]; exact hXY) h
          · exact h
        obtain rfl : y = true := by rw [HXY.out.2, hab.1]; simp
        have HAB := Lib.hid hab
        clear hab
        go_wp2_with (first
          | ((with_reducible refine here_store ?_); (refine wpList_store_new rfl 24 (.tmp 16) (.tmp 72) rfl _ _ _ rfl rfl (dig_info HY.out.1) (by rw [dig_size HY.out.1]; rfl) (dig_one _) ?_; intro w9 hd9 h9 hz9; have hA := hA.below h9 hA.lt; have hB := hB.below h9 hB.lt; have hd7 := hd7.below h9 hd7.lt; have hb := hb.trans (h9.mono hb.size); have HSA := Lib.hid (And.intro (HSA.out.1.below h9) HSA.out.2); have HSB := Lib.hid (And.intro (HSB.out.1.below h9) HSB.out.2)))
          | ((with_reducible refine here_load (d := some 81) ?_); (refine wpList_load_want rfl 24 (.tmp 14) rfl w6.heap.size rfl 24 _ _ hd7 Tryd.underlying24 rfl (dig_info HX.out.1) ?_))
          | ((with_reducible refine here_load (d := some 82) ?_); (refine wpList_load_want rfl 24 (.tmp 16) rfl w8.heap.size rfl 24 _ _ hd9 Tryd.underlying24 rfl (dig_info HY.out.1) ?_))
          | ((with_reducible refine here_load (d := some 86) ?_); (refine wpList_load_want rfl 24 (.tmp 3) rfl w.heap.size rfl 24 _ _ hA Tryd.underlying24 rfl (dig_info H32.out.1) ?_))
          | ((with_reducible refine here_load (d := some 87) ?_); (refine wpList_load_want rfl 24 (.tmp 4) rfl (w.heap.size + 1) rfl 24 _ _ hB Tryd.underlying24 rfl (dig_info H32.out.2) ?_)))
        refine (same_any w9 A B ps qs m k mc kc HSA.out.1 HSB.out.1 HSA.out.2 HSB.out.2 (by omega) (by omega) hmc hkc).mono ?_
        rw [show decide (ps = qs) = true from by rw [HAB.out.2]; simp]
        rintro e w10 ⟨rfl, h10⟩
        have hb := hb.trans (h10.mono hb.size)
        go_wp2_with fail
        refine (alive2_any w10 (HC.out.below hb htl) (HR.out.below hb hrl)).mono ?_
        rintro e w11 ⟨rfl, hw11⟩
        have hb := hb.trans (hw11.mono hb.size)
        go_wp2
        go_ret
        exact ⟨rfl, hb⟩

set_option maxHeartbeats 2000000 in
set_option maxRecDepth 100000 in
theorem law_fooled_some (w : World) (a b : List UInt8) (A B : Option Addr) (ps qs : List (List UInt8)) (i n i2 n2 m mc k kc : Nat) (ha : a.length = 32) (hb : b.length = 32) (hi : i ≤ 4294967295) (hn : n ≤ 4294967295) (hm : m = ps.length) (hk : k = qs.length) (hmm : m ≤ 1048576) (hkk : k ≤ 1048576) (hA : DSrc w A ps) (hB : DSrc w B qs) (hmc : m ≤ mc) (hmcm : mc ≤ 9223372036854775807) (hkc : k ≤ kc) (hkcm : kc ≤ 9223372036854775807) (ht : TabAt w 1) (htr : TabAt w 0) (hm64 : m ≤ 64) (hk64 : k ≤ 64) (ho1 : okS i n ps = true) (ho2 : okS i n qs = true) (ho3 : topS a i n ps = topS b i n qs) (ho4 : ¬ (a = b ∧ ps = qs)) :
    Calls Tryd.prog 13 #[.agg (a.map bv).toArray, .agg (b.map bv).toArray, .agg #[.int .u32 i, .int .u32 n, .slice A m mc, .int .u32 i2, .int .u32 n2, .slice B k kc]] w fun e w' => e = .returned (.bool true) ∧ Below w.heap.size w w'  := by
  have HO := Lib.hid (And.intro ho1 (And.intro ho2 (And.intro ho3 ho4)))
  clear ho1 ho2 ho3 ho4
  have HC := Lib.hid ht
  have HR := Lib.hid htr
  have HSA := Lib.hid (And.intro hA hm)
  have HSB := Lib.hid (And.intro hB hk)
  have H32 := Lib.hid (And.intro ha hb)
  have htl := ht.lt
  have hrl := htr.lt
  have hu := Tryd.underlying24
  clear ht htr hA hB hm hk ha hb
  go_enter Tryd.func13, Tryd.ntmps13
  go_wp2
  generalize hW : World.alloc _ _ = W
  have hA : Blk W w.heap.size 24 (a.map bv).toArray := by subst hW; exact ((Blk.new w _ _).alloc _).alloc _
  have hB : Blk W (w.heap.size + 1) 24 (b.map bv).toArray := by subst hW; exact Blk.alloc (heap_alloc2_new w _ _) _
  have hC : Blk W (w.heap.size + 2) 59 #[.int .u32 i, .int .u32 n, .slice A m mc, .int .u32 i2, .int .u32 n2, .slice B k kc] := by subst hW; exact blk_new3 w _ _ _ _
  have hb3 : Below w.heap.size w W := by subst hW; exact below_alloc3 w _ _ _
  clear hW
  have lC := hC.lt
  have c0 := rangeAt_blk hC 0 _ rfl
  have c1 := rangeAt_blk hC 1 _ rfl
  have c2 := rangeAt_blk hC 2 _ rfl
  have c5 := rangeAt_blk hC 5 _ rfl
  refine wp_region_G (fun _ => false) (by kernel_rfl) ?_
  refine wpAnyG_take 0 rfl (by kernel_rfl) (fun _ _ _ h => h) (YieldsG.pure (by rfl) (fun w9 _ => by go_simp; try with_reducible rfl)) ?_
  try simp only [Act.put, List.setIfInBounds_toArray, List.set_cons_zero, List.set_cons_succ]
  refine wpAnyG_take 1 rfl (by kernel_rfl) (fun _ _ _ h => h) (YieldsG.pure (by rfl) (fun w9 _ => by go_simp; try with_reducible rfl)) ?_
  try simp only [Act.put, List.setIfInBounds_toArray, List.set_cons_zero, List.set_cons_succ]
  refine wpAnyG_take 2 rfl (by kernel_rfl) (fun _ _ _ h => h) (YieldsG.pure (v := .int .u32 i) (by rfl) (fun w9 h9 => by have hz := (Below.cell (p := ⟨w.heap.size + 2, 0 + 0, none⟩) h9 lC).trans c0; go_simp; first | done | simp [hz])) ?_
  try simp only [Act.put, List.setIfInBounds_toArray, List.set_cons_zero, List.set_cons_succ]
  refine wpAnyG_take 3 rfl (by kernel_rfl) (fun _ _ _ h => h) (YieldsG.pure (by rfl) (fun w9 _ => by go_simp; try with_reducible rfl)) ?_
  try simp only [Act.put, List.setIfInBounds_toArray, List.set_cons_zero, List.set_cons_succ]
  refine wpAnyG_take 4 rfl (by kernel_rfl) (fun _ _ _ h => h) (YieldsG.pure (by rfl) (fun w9 _ => by go_simp; try with_reducible rfl)) ?_
  try simp only [Act.put, List.setIfInBounds_toArray, List.set_cons_zero, List.set_cons_succ]
  refine wpAnyG_take 5 rfl (by kernel_rfl) (fun _ _ _ h => h) (YieldsG.pure (v := .int .u32 n) (by rfl) (fun w9 h9 => by have hz := (Below.cell (p := ⟨w.heap.size + 2, 0 + 1, none⟩) h9 lC).trans c1; go_simp; first | done | simp [hz])) ?_
  try simp only [Act.put, List.setIfInBounds_toArray, List.set_cons_zero, List.set_cons_succ]
  refine wpAnyG_take 6 rfl (by kernel_rfl) (fun _ _ _ h => h) (YieldsG.pure (by rfl) (fun w9 _ => by go_simp; try with_reducible rfl)) ?_
  try simp only [Act.put, List.setIfInBounds_toArray, List.set_cons_zero, List.set_cons_succ]
  refine wpAnyG_take 7 rfl (by kernel_rfl) (fun _ _ _ h => h) (YieldsG.pure (by rfl) (fun w9 _ => by go_simp; try with_reducible rfl)) ?_
  try simp only [Act.put, List.setIfInBounds_toArray, List.set_cons_zero, List.set_cons_succ]
  refine wpAnyG_take 8 rfl (by kernel_rfl) (fun _ _ _ h => h) (YieldsG.pure (v := .slice A m mc) (by rfl) (fun w9 h9 => by have hz := (Below.cell (p := ⟨w.heap.size + 2, 0 + 2, none⟩) h9 lC).trans c2; go_simp; first | done | simp [hz])) ?_
  try simp only [Act.put, List.setIfInBounds_toArray, List.set_cons_zero, List.set_cons_succ]
  refine wpAnyG_take 9 rfl (by kernel_rfl) (fun _ _ _ h => h) (YieldsG.pure (by rfl) (fun w9 _ => by go_simp; try with_reducible rfl)) ?_
  try simp only [Act.put, List.setIfInBounds_toArray, List.set_cons_zero, List.set_cons_succ]
  refine wpAnyG_take 10 rfl (by kernel_rfl) (fun _ _ _ h => h) (YieldsG.pure (by rfl) (fun w9 _ => by go_simp; try with_reducible rfl)) ?_
  try simp only [Act.put, List.setIfInBounds_toArray, List.set_cons_zero, List.set_cons_succ]
  refine wpAnyG_take 11 rfl (by kernel_rfl) (fun _ _ _ h => h) (YieldsG.pure (v := .slice B k kc) (by rfl) (fun w9 h9 => by have hz := (Below.cell (p := ⟨w.heap.size + 2, 0 + 5, none⟩) h9 lC).trans c5; go_simp; first | done | simp [hz])) ?_
  try simp only [Act.put, List.setIfInBounds_toArray, List.set_cons_zero, List.set_cons_succ]
  refine wpAnyG_sole 12 rfl (by kernel_rfl) (by rfl) (fun s1 gs1 K hK => ?_)
  go_simp
  refine hK _ _ (fun _ => Below.refl _ _) ?_
  clear hK K
  try simp only [Act.put, List.setIfInBounds_toArray, List.set_cons_zero, List.set_cons_succ]
  refine wpAnyG_sole 13 rfl (by kernel_rfl) (by rfl) (fun s2 gs2 K hK => ?_)
  go_simp
  refine hK _ _ (fun _ => Below.refl _ _) ?_
  clear hK K
  try simp only [Act.put, List.setIfInBounds_toArray, List.set_cons_zero, List.set_cons_succ]
  refine wpAnyG_sole 14 rfl (by kernel_rfl) (by rfl) (fun s3 gs3 K hK => ?_)
  go_simp
  refine hK _ _ (fun _ => Below.refl _ _) ?_
  clear hK K
  try simp only [Act.put, List.setIfInBounds_toArray, List.set_cons_zero, List.set_cons_succ]
  refine wpAnyG_sole 15 rfl (by kernel_rfl) (by rfl) (fun s4 gs4 K hK => ?_)
  go_simp
  refine hK _ _ (fun _ => Below.refl _ _) ?_
  clear hK K
  try simp only [Act.put, List.setIfInBounds_toArray, List.set_cons_zero, List.set_cons_succ]
  refine wpAnyG_done (by kernel_rfl) (fun w4 g4 => ?_)
  have gW : Below W.heap.size W w4 := Below.gr (Below.gr (Below.gr (Below.gr (Below.gr (Below.refl _ W) gs1) gs2) gs3) gs4) g4
  have hb := Below.gr hb3 gW
  have hA := hA.below gW hA.lt
  have hB := hB.below gW hB.lt
  have HSA := Lib.hid (And.intro (HSA.out.1.below hb) HSA.out.2)
  have HSB := Lib.hid (And.intro (HSB.out.1.below hb) HSB.out.2)
  clear gW gs1 gs2 gs3 gs4 g4 hb3 hC lC c0 c1 c2 c5
  go_wp2_with (first
    | ((with_reducible refine here_load (d := some 31) ?_); (refine wpList_load_row rfl 24 (.tmp 3) rfl w.heap.size rfl 24 _ (0, 0) _ hA Tryd.underlying24 rfl (dig_info H32.out.1) ?_))
    | ((with_reducible refine here_load (d := some 32) ?_); (refine wpList_load_row rfl 24 (.tmp 4) rfl (w.heap.size + 1) rfl 24 _ (0, 0) _ hB Tryd.underlying24 rfl (dig_info H32.out.2) ?_)))
  refine (clash_some w4 a b A B ps qs i n m mc k kc H32.out.1 H32.out.2 hi hn HSA.out.2 HSB.out.2 HSA.out.1 HSB.out.1 hmc hkc (HC.out.below hb htl) HO.out.1 HO.out.2.1 HO.out.2.2.1 HO.out.2.2.2).mono ?_
  rintro e w5 ⟨V1, V2, rfl, ⟨l1, l2, t1, t2, hne, hsum, z1, z2⟩, h5⟩
  have HTT := Lib.hid (And.intro t1 t2)
  have HLL := Lib.hid (And.intro hne (And.intro hsum (And.intro z1 z2)))
  clear t1 t2 hne hsum z1 z2
  have hA := hA.below h5 hA.lt
  have hB := hB.below h5 hB.lt
  have hb := hb.trans (h5.mono hb.size)
  have HSA := Lib.hid (And.intro (HSA.out.1.below h5) HSA.out.2)
  have HSB := Lib.hid (And.intro (HSB.out.1.below h5) HSB.out.2)
  have z1 : (m : Int) ≤ 64 := by omega
  have z2 : (k : Int) ≤ 64 := by omega
  go_wp2_with ((with_reducible refine here_load (d := some 55) ?_); (refine wpList_load_want rfl 24 (.tmp 3) rfl w.heap.size rfl 24 _ _ hA Tryd.underlying24 rfl (dig_info H32.out.1) ?_))
  have f1 := fold_okS a i n ps hn
  have f2 := fold_okS b i n qs hn
  have l1 := foldS_length a H32.out.1 i n ps
  have l2 := foldS_length b H32.out.2 i n qs
  refine (fold_any a H32.out.1 m w5 A ps i n m mc (Nat.le_refl _) HSA.out.2 hi hn hmm HSA.out.1 hmc hmcm (HR.out.below hb hrl)).mono ?_
  obtain ⟨F1, hF1⟩ : ∃ F1, F1 = foldS a i n ps := ⟨_, rfl⟩
  obtain ⟨F2, hF2⟩ : ∃ F2, F2 = foldS b i n qs := ⟨_, rfl⟩
  rw [← hF1] at f1 l1
  rw [← hF2] at f2 l2
  rw [← hF1]
  have HF2 := Lib.hid hF2
  clear hF1 hF2
  obtain ⟨X, b1⟩ := F1
  obtain ⟨Y, b2⟩ := F2
  have HX := Lib.hid (And.intro l1 f1)
  have HY := Lib.hid (And.intro l2 f2)
  clear l1 l2 f1 f2
  rintro e w6 ⟨rfl, h6⟩
  have hA := hA.below h6 hA.lt
  have hB := hB.below h6 hB.lt
  have hb := hb.trans (h6.mono hb.size)
  have HSA := Lib.hid (And.intro (HSA.out.1.below h6) HSA.out.2)
  have HSB := Lib.hid (And.intro (HSB.out.1.below h6) HSB.out.2)
  unfold dv
  go_wp2_with (first
    | ((with_reducible refine here_store ?_); (refine wpList_store_new rfl 24 (.tmp 14) (.tmp 62) rfl _ _ _ rfl rfl (dig_info HX.out.1) (by rw [dig_size HX.out.1]; rfl) (dig_one _) ?_; intro w7 hd7 h7 hz7; have hA := hA.below h7 hA.lt; have hB := hB.below h7 hB.lt; have hb := hb.trans (h7.mono hb.size); have HSA := Lib.hid (And.intro (HSA.out.1.below h7) HSA.out.2); have HSB := Lib.hid (And.intro (HSB.out.1.below h7) HSB.out.2)))
    | ((with_reducible refine here_load (d := some 65) ?_); (refine wpList_load_want rfl 24 (.tmp 4) rfl (w.heap.size + 1) rfl 24 _ _ hB Tryd.underlying24 rfl (dig_info H32.out.2) ?_)))
  refine (fold_any b H32.out.2 k w7 B qs i n k kc (Nat.le_refl _) HSB.out.2 hi hn hkk HSB.out.1 hkc hkcm (HR.out.below hb hrl)).mono ?_
  rw [← HF2.out]
  rintro e w8 ⟨rfl, h8⟩
  have hd7 := hd7.below h8 hd7.lt
  have hA := hA.below h8 hA.lt
  have hB := hB.below h8 hB.lt
  have hb := hb.trans (h8.mono hb.size)
  have HSA := Lib.hid (And.intro (HSA.out.1.below h8) HSA.out.2)
  have HSB := Lib.hid (And.intro (HSB.out.1.below h8) HSB.out.2)
  unfold dv
  have e1 : ∀ W, (binOp .neq 24 (.agg (X.map bv).toArray) (.agg (Y.map bv).toArray)).run Tryd.prog W = .ok (.bool (decide (X ≠ Y))) W := fun W => run_neq_digs W X Y HX.out.1 HY.out.1
  have e2 : ∀ W, (binOp .eql 24 (.agg (a.map bv).toArray) (.agg (b.map bv).toArray)).run Tryd.prog W = .ok (.bool (decide (a = b))) W := fun W => run_eql_digs W a b H32.out.1 H32.out.2
  obtain ⟨x, hx⟩ : ∃ x, x = decide (X ≠ Y) := ⟨_, rfl⟩
  obtain ⟨y, hy⟩ : ∃ y, y = decide (a = b) := ⟨_, rfl⟩
  rw [← hx] at e1
  rw [← hy] at e2
  have HXY := Lib.hid (And.intro hx hy)
  clear hx hy
  obtain rfl : b1 = true := HX.out.2.1.trans HO.out.1
  obtain rfl : b2 = true := HY.out.2.1.trans HO.out.2.1
  obtain rfl : x = false := by
    have h : X = Y := by rw [show X = _ from HX.out.2.2 HO.out.1, show Y = _ from HY.out.2.2 HO.out.2.1]; exact HO.out.2.2.1
    rw [HXY.out.1, h]; simp
  cases y with
  | false =>
    go_wp2_with (first
      | ((with_reducible refine here_store ?_); (refine wpList_store_new rfl 24 (.tmp 16) (.tmp 72) rfl _ _ _ rfl rfl (dig_info HY.out.1) (by rw [dig_size HY.out.1]; rfl) (dig_one _) ?_; intro w9 hd9 h9 hz9; have hA := hA.below h9 hA.lt; have hB := hB.below h9 hB.lt; have hd7 := hd7.below h9 hd7.lt; have hb := hb.trans (h9.mono hb.size); have HSA := Lib.hid (And.intro (HSA.out.1.below h9) HSA.out.2); have HSB := Lib.hid (And.intro (HSB.out.1.below h9) HSB.out.2)))
      | ((with_reducible refine here_load (d := some 81) ?_); (refine wpList_load_want rfl 24 (.tmp 14) rfl w6.heap.size rfl 24 _ _ hd7 Tryd.underlying24 rfl (dig_info HX.out.1) ?_))
      | ((with_reducible refine here_load (d := some 82) ?_); (refine wpList_load_want rfl 24 (.tmp 16) rfl w8.heap.size rfl 24 _ _ hd9 Tryd.underlying24 rfl (dig_info HY.out.1) ?_))
      | ((with_reducible refine here_load (d := some 86) ?_); (refine wpList_load_want rfl 24 (.tmp 3) rfl w.heap.size rfl 24 _ _ hA Tryd.underlying24 rfl (dig_info H32.out.1) ?_))
      | ((with_reducible refine here_load (d := some 87) ?_); (refine wpList_load_want rfl 24 (.tmp 4) rfl (w.heap.size + 1) rfl 24 _ _ hB Tryd.underlying24 rfl (dig_info H32.out.2) ?_)))
    have t1 := TextV.later (TextV.later (TextV.later (TextV.later (HTT.out.1) h6) h7) h8) h9
    have t2 := TextV.later (TextV.later (TextV.later (TextV.later (HTT.out.2) h6) h7) h8) h9
    refine (alive2_any w9 (HC.out.below hb htl) (HR.out.below hb hrl)).mono ?_
    rintro e w11 ⟨rfl, h11⟩
    have hb := hb.trans (h11.mono hb.size)
    obtain ⟨B1, d1, rfl, hs1, hd1, hd1m⟩ := t1.later h11
    obtain ⟨B2, d2, rfl, hs2, hd2, hd2m⟩ := t2.later h11
    have es1 := run_string_of (P := Tryd.prog) (c := d1) hs1 Tryd.underlying22 Tryd.underlying5 Tryd.underlying9
    have es2 := run_string_of (P := Tryd.prog) (c := d2) hs2 Tryd.underlying22 Tryd.underlying5 Tryd.underlying9
    have hne := HLL.out.1
    have en := neq_strings hne
    have hbeq : (l1 == l2) = false := by simp [hne]
    have y1 := sum_length l1
    have y2 := sum_length l2
    have HT1 := Lib.hid (And.intro hs1 HLL.out.2.2.1)
    have HT2 := Lib.hid (And.intro hs2 HLL.out.2.2.2)
    obtain ⟨S1, hS1⟩ : ∃ S1, S1 = sum l1 := ⟨_, rfl⟩
    obtain ⟨S2, hS2⟩ : ∃ S2, S2 = sum l2 := ⟨_, rfl⟩
    rw [← hS1] at y1
    rw [← hS2] at y2
    have ee : ∀ W, (binOp .eql 24 (.agg (S1.map bv).toArray) (.agg (S2.map bv).toArray)).run Tryd.prog W = .ok (.bool true) W := fun W => by rw [run_eql_digs W _ _ y1 y2, show S1 = S2 from by rw [hS1, hS2]; exact HLL.out.2.1]; simp
    have HSS := Lib.hid (And.intro hS1 hS2)
    clear t1 t2 hs1 hs2 hS1 hS2 y1 y2 e1 e2
    go_wp2_with fail
    refine (ofR_any w11 B1 l1 d1 HT1.out.1 (by rw [HT1.out.2]; decide) (HR.out.below hb hrl)).mono ?_
    rw [← HSS.out.1]
    rintro e w12 ⟨rfl, h12⟩
    have hb := hb.trans (h12.mono hb.size)
    unfold dv
    go_wp2_with fail
    refine (ofR_any w12 B2 l2 d2 (HT2.out.1.below h12) (by rw [HT2.out.2]; decide) (HR.out.below hb hrl)).mono ?_
    rw [← HSS.out.2]
    rintro e w13 ⟨rfl, h13⟩
    have hb := hb.trans (h13.mono hb.size)
    unfold dv
    go_wp2
    go_ret
    exact ⟨by first | rfl | (show Ending.returned (.bool (!(l1 == l2))) = _; rw [hbeq]; rfl), hb⟩
  | true =>
    have hpq : ps ≠ qs := by
      intro e
      have h := HXY.out.2
      exact HO.out.2.2.2 ⟨of_decide_eq_true h.symm, e⟩
    have HPQ := Lib.hid hpq
    clear hpq
    go_wp2_with (first
      | ((with_reducible refine here_store ?_); (refine wpList_store_new rfl 24 (.tmp 16) (.tmp 72) rfl _ _ _ rfl rfl (dig_info HY.out.1) (by rw [dig_size HY.out.1]; rfl) (dig_one _) ?_; intro w9 hd9 h9 hz9; have hA := hA.below h9 hA.lt; have hB := hB.below h9 hB.lt; have hd7 := hd7.below h9 hd7.lt; have hb := hb.trans (h9.mono hb.size); have HSA := Lib.hid (And.intro (HSA.out.1.below h9) HSA.out.2); have HSB := Lib.hid (And.intro (HSB.out.1.below h9) HSB.out.2)))
      | ((with_reducible refine here_load (d := some 81) ?_); (refine wpList_load_want rfl 24 (.tmp 14) rfl w6.heap.size rfl 24 _ _ hd7 Tryd.underlying24 rfl (dig_info HX.out.1) ?_))
      | ((with_reducible refine here_load (d := some 82) ?_); (refine wpList_load_want rfl 24 (.tmp 16) rfl w8.heap.size rfl 24 _ _ hd9 Tryd.underlying24 rfl (dig_info HY.out.1) ?_))
      | ((with_reducible refine here_load (d := some 86) ?_); (refine wpList_load_want rfl 24 (.tmp 3) rfl w.heap.size rfl 24 _ _ hA Tryd.underlying24 rfl (dig_info H32.out.1) ?_))
      | ((with_reducible refine here_load (d := some 87) ?_); (refine wpList_load_want rfl 24 (.tmp 4) rfl (w.heap.size + 1) rfl 24 _ _ hB Tryd.underlying24 rfl (dig_info H32.out.2) ?_)))
    refine (same_any w9 A B ps qs m k mc kc HSA.out.1 HSB.out.1 HSA.out.2 HSB.out.2 (by omega) (by omega) hmc hkc).mono ?_
    rw [show decide (ps = qs) = false from by simp [HPQ.out]]
    rintro e w10 ⟨rfl, h10⟩
    have hb := hb.trans (h10.mono hb.size)
    go_wp2_with fail
    have t1 := TextV.later (TextV.later (TextV.later (TextV.later (TextV.later (HTT.out.1) h6) h7) h8) h9) h10
    have t2 := TextV.later (TextV.later (TextV.later (TextV.later (TextV.later (HTT.out.2) h6) h7) h8) h9) h10
    refine (alive2_any w10 (HC.out.below hb htl) (HR.out.below hb hrl)).mono ?_
    rintro e w11 ⟨rfl, h11⟩
    have hb := hb.trans (h11.mono hb.size)
    obtain ⟨B1, d1, rfl, hs1, hd1, hd1m⟩ := t1.later h11
    obtain ⟨B2, d2, rfl, hs2, hd2, hd2m⟩ := t2.later h11
    have es1 := run_string_of (P := Tryd.prog) (c := d1) hs1 Tryd.underlying22 Tryd.underlying5 Tryd.underlying9
    have es2 := run_string_of (P := Tryd.prog) (c := d2) hs2 Tryd.underlying22 Tryd.underlying5 Tryd.underlying9
    have hne := HLL.out.1
    have en := neq_strings hne
    have hbeq : (l1 == l2) = false := by simp [hne]
    have y1 := sum_length l1
    have y2 := sum_length l2
    have HT1 := Lib.hid (And.intro hs1 HLL.out.2.2.1)
    have HT2 := Lib.hid (And.intro hs2 HLL.out.2.2.2)
    obtain ⟨S1, hS1⟩ : ∃ S1, S1 = sum l1 := ⟨_, rfl⟩
    obtain ⟨S2, hS2⟩ : ∃ S2, S2 = sum l2 := ⟨_, rfl⟩
    rw [← hS1] at y1
    rw [← hS2] at y2
    have ee : ∀ W, (binOp .eql 24 (.agg (S1.map bv).toArray) (.agg (S2.map bv).toArray)).run Tryd.prog W = .ok (.bool true) W := fun W => by rw [run_eql_digs W _ _ y1 y2, show S1 = S2 from by rw [hS1, hS2]; exact HLL.out.2.1]; simp
    have HSS := Lib.hid (And.intro hS1 hS2)
    clear t1 t2 hs1 hs2 hS1 hS2 y1 y2 e1 e2
    go_wp2_with fail
    refine (ofR_any w11 B1 l1 d1 HT1.out.1 (by rw [HT1.out.2]; decide) (HR.out.below hb hrl)).mono ?_
    rw [← HSS.out.1]
    rintro e w12 ⟨rfl, h12⟩
    have hb := hb.trans (h12.mono hb.size)
    unfold dv
    go_wp2_with fail
    refine (ofR_any w12 B2 l2 d2 (HT2.out.1.below h12) (by rw [HT2.out.2]; decide) (HR.out.below hb hrl)).mono ?_
    rw [← HSS.out.2]
    rintro e w13 ⟨rfl, h13⟩
    have hb := hb.trans (h13.mono hb.size)
    unfold dv
    go_wp2
    go_ret
    exact ⟨by first | rfl | (show Ending.returned (.bool (!(l1 == l2))) = _; rw [hbeq]; rfl), hb⟩

theorem law_fooled (w : World) (a b : List UInt8) (A B : Option Addr) (ps qs : List (List UInt8)) (i n i2 n2 m mc k kc : Nat) (ha : a.length = 32) (hb : b.length = 32) (hi : i ≤ 4294967295) (hn : n ≤ 4294967295) (hm : m = ps.length) (hk : k = qs.length) (hmm : m ≤ 1048576) (hkk : k ≤ 1048576) (hA : DSrc w A ps) (hB : DSrc w B qs) (hmc : m ≤ mc) (hmcm : mc ≤ 9223372036854775807) (hkc : k ≤ kc) (hkcm : kc ≤ 9223372036854775807) (ht : TabAt w 1) (htr : TabAt w 0) :
    Calls Tryd.prog 13 #[.agg (a.map bv).toArray, .agg (b.map bv).toArray, .agg #[.int .u32 i, .int .u32 n, .slice A m mc, .int .u32 i2, .int .u32 n2, .slice B k kc]] w fun e w' => e = .returned (.bool true) ∧ Below w.heap.size w w'  := by
  by_cases hl : 64 < m ∨ 64 < k
  · exact law_fooled_long w a b A B ps qs i n i2 n2 m mc k kc ha hb hi hn hm hk hmm hkk hA hB hmc hmcm hkc hkcm ht htr hl
  · by_cases h1 : okS i n ps = true
    · by_cases h2 : okS i n qs = true
      · by_cases h3 : topS a i n ps = topS b i n qs
        · by_cases h4 : a = b ∧ ps = qs
          · exact law_fooled_none w a b A B ps qs i n i2 n2 m mc k kc ha hb hi hn hm hk hmm hkk hA hB hmc hmcm hkc hkcm ht htr (by omega) (by omega) (.inr (.inr (.inr h4)))
          · exact law_fooled_some w a b A B ps qs i n i2 n2 m mc k kc ha hb hi hn hm hk hmm hkk hA hB hmc hmcm hkc hkcm ht htr (by omega) (by omega) h1 h2 h3 h4
        · exact law_fooled_none w a b A B ps qs i n i2 n2 m mc k kc ha hb hi hn hm hk hmm hkk hA hB hmc hmcm hkc hkcm ht htr (by omega) (by omega) (.inr (.inr (.inl h3)))
      · exact law_fooled_none w a b A B ps qs i n i2 n2 m mc k kc ha hb hi hn hm hk hmm hkk hA hB hmc hmcm hkc hkcm ht htr (by omega) (by omega) (.inr (.inl (by simpa using h2)))
    · exact law_fooled_none w a b A B ps qs i n i2 n2 m mc k kc ha hb hi hn hm hk hmm hkk hA hB hmc hmcm hkc hkcm ht htr (by omega) (by omega) (.inl (by simpa using h1))
end Go.Proofs.YtimnpakmifjgoaaDoor
