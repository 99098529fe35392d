/-
  Check: the program's and the document's.
-/
import Derived.Test.YtimnpakmifjgoaaDoorMClimb2
import Derived.Test.YtimnpakmifjgoaaDoorMem
import Derived.Test.YtimnpakmifjgoaaDoorOrd2

/-
  climb: the way up, walked where the path is long enough.
-/
/-
  Quick guards for a walk's arms: is the next operation of a plain list a load, a store, ..? No function of the program stands here.
-/
namespace Go.Proofs.YtimnpakmifjgoaaDoor
section
variable {P : Program} {ops : Array Oper} {Q : Exit → Act → World → Prop} {rest : List Oper} {a : Act} {w : World} {d : Option Tmp} {t : TypeId} {p : String} {af : Array Edge} {g : Option (Nat × Bool)}
theorem here_load {ty : TypeId} {x : Operand} (h : wpList P ops Q (⟨d, .load ty x, t, p, af, g⟩ :: rest) a w) : wpList P ops Q (⟨d, .load ty x, t, p, af, g⟩ :: rest) a w := h
theorem here_store {ty : TypeId} {x y : Operand} (h : wpList P ops Q (⟨d, .store ty x y, t, p, af, g⟩ :: rest) a w) : wpList P ops Q (⟨d, .store ty x y, t, p, af, g⟩ :: rest) a w := h
theorem here_build {ty : TypeId} {xs : Array (Nat × Operand)} (h : wpList P ops Q (⟨d, .build ty xs, t, p, af, g⟩ :: rest) a w) : wpList P ops Q (⟨d, .build ty xs, t, p, af, g⟩ :: rest) a w := h
theorem here_slice {ty : TypeId} {n : Nat} {xs : Array (Nat × Operand)} (h : wpList P ops Q (⟨d, .buildSlice ty n xs, t, p, af, g⟩ :: rest) a w) : wpList P ops Q (⟨d, .buildSlice ty n xs, t, p, af, g⟩ :: rest) a w := h
end
end Go.Proofs.YtimnpakmifjgoaaDoor

namespace Go.Proofs.YtimnpakmifjgoaaDoor
open Go.RowKit Sp

set_option maxHeartbeats 8000000 in
set_option maxRecDepth 100000 in
theorem climb_yes (w : World) (leaf : List UInt8) (A : Option Addr) (ps : List (List UInt8)) (i n m c : Nat) (hlf : leaf.length = 32) (hi : i < n) (hn : n ≤ 4294967295) (hm : m = (sidesS i n).length) (hps : m = ps.length) (hs : DSrc w A ps) (hmc : m ≤ c) (ht : TabAt w 1) :
    Calls Tryd.prog 53 #[.agg (leaf.map bv).toArray, .int .u32 i, .int .u32 n, .slice A m c] w (ClimbPost w (climbS leaf (sidesS i n) ps m) (pastS leaf (sidesS i n) ps m) true) := by
  have HC := Lib.hid ht
  have htl := ht.lt
  have hm32 : m ≤ 32 := by rw [hm]; exact sidesS_32 i n (by omega)
  obtain ⟨bs, hbs⟩ : ∃ bs, bs = sidesS i n := ⟨_, rfl⟩
  rw [← hbs] at hm
  have HS := Lib.hid (And.intro hs (And.intro hps (And.intro hm (And.intro hbs hlf))))
  have q0 : (0 : Int) ≤ (i : Int) := by omega
  have q1 : (i : Int) < (n : Int) := by omega
  have q2 : (n : Int) ≤ 4294967295 := by omega
  have q3 : (m : Int) ≤ (c : Int) := by omega
  have q4 : (m : Int) ≤ 32 := by omega
  clear hs hps hm hbs hlf ht
  go_enter Tryd.func53, Tryd.ntmps53
  go_wp2_with fail
  refine (fromRight_any n _ i n (Nat.le_refl _) hi (by omega)).mono ?_
  rintro e w1 ⟨v, rfl, hown, hb1⟩
  rw [← HS.out.2.2.2.1] at hown
  obtain ⟨As, cs, rfl, hsd, hcs, _⟩ := OwnE.any hown
  rw [bvals_length, ← HS.out.2.2.1] at hcs
  rw [bvals_length, ← HS.out.2.2.1]
  have hr := Blk.below (heap_alloc2_new w (.cells (leaf.map bv).toArray 24) (.cells zeroDigest 24)) hb1 (by simp)
  have hlf := Blk.below ((Blk.new w 24 (leaf.map bv).toArray).alloc (.cells zeroDigest 24)) hb1 (by simp; omega)
  have hb := (below_alloc2 w (.cells (leaf.map bv).toArray 24) (.cells zeroDigest 24)).trans (hb1.mono (by simp; omega))
  have hz1 : w.heap.size + 2 ≤ w1.heap.size := by have := hb1.size; simpa using this
  have HB := Lib.hid hsd
  have q5 : (m : Int) ≤ (cs : Int) := by omega
  clear hown hsd hb1
  go_wp2_with (first
    | (refine wpList_load_row rfl 24 (.tmp 4) rfl w.heap.size rfl 24 _ (0, 0) _ hlf Tryd.underlying24 rfl (dig_info HS.out.2.2.2.2) ?_)
    | (refine wpList_store_new rfl 24 (.tmp 12) (.tmp 31) rfl _ _ _ rfl rfl (dig_info HS.out.2.2.2.2) (by rw [dig_size HS.out.2.2.2.2]; rfl) (dig_one _) ?_
       intro w2 hd2 hb2 hz2))
  have hz2' := hz2.out
  clear hlf hz2
  go_loopw [9, 34] (fun v i wr => ∃ (k : Nat) (v0 : Value), k ≤ m ∧ v0 = v ∧ i = .int .i64 k ∧ OwnE 86 64 wr (w1.heap.size + 1) v0 (pvals (pastS leaf bs ps k)) ∧ Blk wr w1.heap.size 24 ((climbS leaf bs ps k).map bv).toArray ∧ Below w1.heap.size w1 wr)
    (fun _ i _ => m - (intOf i).toNat)
  case atStart => exact ⟨0, _, Nat.zero_le _, rfl, rfl, OwnE.nil _ _ _ _, hd2, hb2⟩
  case round =>
    clear hd2 hb2
    obtain ⟨k, v0, hk, rfl, rfl, hown, hat, hbw⟩ := hrel
    have hlt1 := hat.lt
    by_cases hlt : k < m
    · obtain ⟨s, hs⟩ : ∃ s, ps[k]? = some s := ⟨ps[k]'(by rw [← HS.out.2.1]; exact hlt), List.getElem?_eq_getElem _⟩
      obtain ⟨sd, hsd⟩ : ∃ sd, bs[k]? = some sd := ⟨bs[k]'(by rw [← HS.out.2.2.1]; exact hlt), List.getElem?_eq_getElem _⟩
      obtain ⟨pb, po, rfl, hpl, hpc⟩ := HS.out.1.2 (fun e => by rw [e] at hs; cases hs)
      obtain ⟨sb, so, rfl, hsl, hsc⟩ := HB.out.2 (fun e => nomatch (show (none : Option Bool) = some sd from by rw [← hsd, show bs = [] from by simpa [bvals] using e]; rfl))
      have hs32 := HS.out.1.1 s (List.mem_of_getElem? hs)
      have hbb := hb.trans (hbw.mono (by omega))
      have r1 : wr.rangeAt pb (po + k * 32) (s.map bv) := fun j v hj => (hbb.cell (p := ⟨pb, po + k * 32 + j, none⟩) hpl).trans (hpc k s hs j v hj)
      have r2 : wr.cell? ⟨sb, so + k, none⟩ = some (.bool sd) := by
        have h := hsc k [.bool sd] (by unfold bvals; rw [List.getElem?_map, hsd]; rfl) 0 (.bool sd) rfl
        rw [Nat.mul_one, Nat.add_zero] at h
        exact (hbw.cell (p := ⟨sb, so + k, none⟩) hsl).trans h
      obtain ⟨x, hx⟩ : ∃ x, x = climbS leaf bs ps k := ⟨_, rfl⟩
      have hx32 : x.length = 32 := by rw [hx]; exact climbS_length leaf HS.out.2.2.2.2 bs ps k
      have hstep : climbS leaf bs ps (k + 1) = nodeS (kidsS x sd s).1 (kidsS x sd s).2 := by
        rw [climbS, ← hx]
        unfold stepS
        simp only [List.getD_eq_getElem?_getD, hs, hsd, Option.getD_some]
      have hpast : pastS leaf bs ps (k + 1) = pastS leaf bs ps k ++ [kidsS x sd s] := by
        unfold pastS
        rw [List.range_succ, List.map_append, List.map_singleton, ← hx]
        simp only [List.getD_eq_getElem?_getD, hs, hsd, Option.getD_some]
      have hplen : (pastS leaf bs ps k).length = k := by simp [pastS]
      rw [← hx] at hat
      obtain ⟨past, hpe⟩ : ∃ past, past = pastS leaf bs ps k := ⟨_, rfl⟩
      rw [← hpe] at hown hpast hplen
      have hsl' : sb < wr.heap.size := Nat.lt_of_lt_of_le hsl hbw.size
      have k1 : (0 : Int) ≤ (k : Int) := by omega
      have k2 : (k : Int) < (m : Int) := by omega
      have HR := Lib.hid (And.intro r1 r2)
      have H32 := Lib.hid (And.intro hs32 hx32)
      have HN := Lib.hid (And.intro hstep hpast)
      have HL := Lib.hid hplen
      clear hs hsd hpc hsc hs32 hx hx32 hstep hpast hplen hpe r1
      cases sd with
      | true =>
        clear r2
        have r2 := HR.out.2
        go_wp2_with (first
          | ((with_reducible refine here_load ?_); (first
              | ((with_reducible refine here_load (d := some 38) ?_); (refine wpList_load_mid rfl 24 (.tmp 37) rfl pb (po + k * 32) rfl (s.map bv) _ HR.out.1 Tryd.underlying24 rfl (dig_info' H32.out.1) ?_))
              | ((with_reducible refine here_load (d := some 39) ?_); (refine wpList_load_row rfl 24 (.tmp 12) rfl w1.heap.size rfl 24 _ (0, 0) _ hat3 Tryd.underlying24 rfl (dig_info H32.out.2) ?_))
              | ((with_reducible refine here_load (d := some 40) ?_); (refine wpList_load_row rfl 24 (.tmp 14) rfl wr.heap.size rfl 24 _ (0, 0) _ hd3 Tryd.underlying24 rfl (dig_info H32.out.1) ?_))
              | ((with_reducible refine here_load (d := some 46) ?_); (refine wpList_load_row rfl 24 (.tmp 14) rfl wr.heap.size rfl 24 _ (0, 0) _ hd34 Tryd.underlying24 rfl (dig_info H32.out.1) ?_))
              | ((with_reducible refine here_load (d := some 47) ?_); (refine wpList_load_row rfl 24 (.tmp 12) rfl w1.heap.size rfl 24 _ (0, 0) _ hat4 Tryd.underlying24 rfl (dig_info H32.out.2) ?_))
              | ((with_reducible refine here_load (d := some 50) ?_); (refine wpList_load_row rfl 86 (.tmp 15) rfl w3.heap.size rfl 86 _ (0, 0) _ hd5 Tryd.underlying86 rfl (pair_info ⟨H32.out.1, H32.out.2⟩) ?_))
              | ((with_reducible refine here_load (d := some 54) ?_); (refine wpList_load_mid rfl 24 (.tmp 53) rfl w3.heap.size 0 rfl (s.map bv) _ hm1 Tryd.underlying24 rfl (dig_info' H32.out.1) ?_))
              | ((with_reducible refine here_load (d := some 56) ?_); (refine wpList_load_mid rfl 24 (.tmp 55) rfl w3.heap.size 32 rfl (x.map bv) _ hm2 Tryd.underlying24 rfl (dig_info' H32.out.2) ?_))
              ))
          | ((with_reducible refine here_store ?_); (first
              | ((with_reducible refine here_store (y := .tmp 38) ?_); (refine wpList_store_new rfl 24 (.tmp 14) (.tmp 38) rfl _ _ _ rfl rfl (dig_info H32.out.1) (by rw [dig_size H32.out.1]; rfl) (dig_one _) ?_; intro w3 hd3 hb3 hz3; have hat3 := hat.below hb3 hlt1; have hown3 := OwnE.below hown hb3; have hbw3 := hbw.trans (hb3.mono hbw.size); have hl3 : wr.heap.size < w3.heap.size := hd3.lt; have r3 := (hb3.cell (p := ⟨sb, so + k, none⟩) hsl').trans r2))
              | ((with_reducible refine here_store (y := .tmp 41) ?_); (refine wpList_store_new rfl 86 (.tmp 15) (.tmp 41) rfl _ _ _ rfl rfl (pair_info ⟨H32.out.2, H32.out.1⟩) (by rw [pcells_size ⟨H32.out.2, H32.out.1⟩]; rfl) (pcells_all _) ?_; intro w4 hd4 hb4 hz4; have hat4 := hat3.below hb4 hat3.lt; have hd34 := hd3.below hb4 hl3; have hown4 := OwnE.below hown3 hb4; have hbw4 := hbw3.trans (hb4.mono hbw3.size); have hl4 : w3.heap.size < w4.heap.size := hd4.lt; have r4 := (hb4.cell (p := ⟨sb, so + k, none⟩) (Nat.lt_trans hsl' hl3)).trans r3))
              | ((with_reducible refine here_store (y := .tmp 48) ?_); (refine wpList_store_own rfl 86 (.tmp 15) (.tmp 48) rfl w3.heap.size _ rfl rfl 86 _ hd4 (pair_info ⟨H32.out.1, H32.out.2⟩) (by rw [pcells_size (p := (s, x)) ⟨H32.out.1, H32.out.2⟩, pcells_size (p := (x, s)) ⟨H32.out.2, H32.out.1⟩]) (pcells_all _) ?_; intro w5 hd5 hB5 hg5; have hb5 := hB5 w3.heap.size (Nat.le_refl _); have hat5 := hat4.below hb5 hat3.lt; have hown5 := OwnE.below hown3 (hb4.trans hb5); have hbw5 := hbw4.trans (hb5.mono hbw3.size)))
              ))
          | ((with_reducible refine here_build ?_); (first
              | ((with_reducible refine here_build (d := some 41) ?_); (refine wpList_build_pair rfl (.tmp 39) (.tmp 40) rfl x s H32.out.2 H32.out.1 rfl rfl ?_))
              | ((with_reducible refine here_build (d := some 48) ?_); (refine wpList_build_pair rfl (.tmp 46) (.tmp 47) rfl s x H32.out.1 H32.out.2 rfl rfl ?_))
              ))
          | ((with_reducible refine here_slice ?_); (first
              | ((refine wpList_one_pair rfl (.tmp 50) rfl (s, x) ⟨H32.out.1, H32.out.2⟩ rfl w5.heap.size rfl ?_; intro w6 he6 hb6 hl6; have hown6 := OwnE.below hown5 hb6; have hat6 := hat5.below hb6 hat5.lt; have hd6 := hd5.below hb6 hd5.lt; have hbw6 := hbw5.trans (hb6.mono hbw5.size); have hz6 : w1.heap.size + 1 ≤ w6.heap.size := hat6.lt))
              ))
          | (at_builtin
             refine wpList_append_elems Tryd.underlying79 infoPair (by simp [Value.cells]) (by omega) rfl (.tmp 49) (.tmp 51) rfl (w1.heap.size + 1) v0 (pvals past) rfl hown6 (some ⟨w5.heap.size, 0, none⟩) [pcells (s, x)] 1 1 rfl rfl he6 (by rw [pvals_length, HL.out]; simp only [List.length_singleton]; omega) (by rw [pvals_length, HL.out]; simp only [List.length_singleton]; omega) hz6 ?_
             intro v7 w7 hv7 hg7 _
             have hb7 := below_ownE (Below.refl (w1.heap.size + 1) w6) hown6 hg7 (Nat.le_refl _) hz6
             have hat7 := hat6.below hb7 (Nat.lt_succ_self _)
             have hd7 := hd6.grown hg7 (hown.not (.inr (Nat.le_of_lt hl3)))
             have hbw7 := hbw6.trans (hb7.mono (Nat.le_succ _))
             have hbx7 := hb.trans (hbw7.mono (by omega))
             have hmid := pair_ranges hd7 H32.out.1
             have hm1 := hmid.1
             have hm2 := hmid.2
             clear hmid))
        refine (node_any w7 s x H32.out.1 H32.out.2 (HC.out.below hbx7 htl)).mono ?_
        rintro e w8 ⟨rfl, hb8⟩
        have hat8 := hat7.below hb8 hat7.lt
        have hv8 := OwnE.below hv7 hb8
        have hbw8 := hbw7.trans (hb8.mono hbw7.size)
        clear hm1 hm2
        unfold dv
        go_wp2_with ((with_reducible refine here_store ?_)
                     refine wpList_store_own rfl 24 (.tmp 12) (.tmp 57) rfl w1.heap.size _ rfl rfl 24 _ hat8 (dig_info (nodeS_length s x)) (by rw [dig_size (nodeS_length s x), dig_size H32.out.2]) (dig_one _) ?_
                     intro w9 hd9 hB9 hg9)
        have hv9 := OwnE.keep hv8 hg9 (OwnE.not' hv8 (.inl (Nat.lt_succ_self _)))
        have hbw9 := hbw8.trans (hB9 _ (Nat.le_refl _))
        go_roundw
        case rel => exact ⟨k + 1, v7, by omega, rfl, by go_num, by rw [HN.out.2]; unfold pvals; rw [List.map_append]; exact hv9, by rw [HN.out.1]; exact hd9, hbw9⟩
        case measure => simp [intOf]; omega
      | false =>
        clear r2
        have r2 := HR.out.2
        go_wp2_with (first
          | ((with_reducible refine here_load ?_); (first
              | ((with_reducible refine here_load (d := some 38) ?_); (refine wpList_load_mid rfl 24 (.tmp 37) rfl pb (po + k * 32) rfl (s.map bv) _ HR.out.1 Tryd.underlying24 rfl (dig_info' H32.out.1) ?_))
              | ((with_reducible refine here_load (d := some 39) ?_); (refine wpList_load_row rfl 24 (.tmp 12) rfl w1.heap.size rfl 24 _ (0, 0) _ hat3 Tryd.underlying24 rfl (dig_info H32.out.2) ?_))
              | ((with_reducible refine here_load (d := some 40) ?_); (refine wpList_load_row rfl 24 (.tmp 14) rfl wr.heap.size rfl 24 _ (0, 0) _ hd3 Tryd.underlying24 rfl (dig_info H32.out.1) ?_))
              | ((with_reducible refine here_load (d := some 50) ?_); (refine wpList_load_row rfl 86 (.tmp 15) rfl w3.heap.size rfl 86 _ (0, 0) _ hd4 Tryd.underlying86 rfl (pair_info ⟨H32.out.2, H32.out.1⟩) ?_))
              | ((with_reducible refine here_load (d := some 54) ?_); (refine wpList_load_mid rfl 24 (.tmp 53) rfl w3.heap.size 0 rfl (x.map bv) _ hm1 Tryd.underlying24 rfl (dig_info' H32.out.2) ?_))
              | ((with_reducible refine here_load (d := some 56) ?_); (refine wpList_load_mid rfl 24 (.tmp 55) rfl w3.heap.size 32 rfl (s.map bv) _ hm2 Tryd.underlying24 rfl (dig_info' H32.out.1) ?_))
              ))
          | ((with_reducible refine here_store ?_); (first
              | ((with_reducible refine here_store (y := .tmp 38) ?_); (refine wpList_store_new rfl 24 (.tmp 14) (.tmp 38) rfl _ _ _ rfl rfl (dig_info H32.out.1) (by rw [dig_size H32.out.1]; rfl) (dig_one _) ?_; intro w3 hd3 hb3 hz3; have hat3 := hat.below hb3 hlt1; have hown3 := OwnE.below hown hb3; have hbw3 := hbw.trans (hb3.mono hbw.size); have hl3 : wr.heap.size < w3.heap.size := hd3.lt; have r3 := (hb3.cell (p := ⟨sb, so + k, none⟩) hsl').trans r2))
              | ((with_reducible refine here_store (y := .tmp 41) ?_); (refine wpList_store_new rfl 86 (.tmp 15) (.tmp 41) rfl _ _ _ rfl rfl (pair_info ⟨H32.out.2, H32.out.1⟩) (by rw [pcells_size ⟨H32.out.2, H32.out.1⟩]; rfl) (pcells_all _) ?_; intro w4 hd4 hb4 hz4; have hat4 := hat3.below hb4 hat3.lt; have hd34 := hd3.below hb4 hl3; have hown4 := OwnE.below hown3 hb4; have hbw4 := hbw3.trans (hb4.mono hbw3.size); have hl4 : w3.heap.size < w4.heap.size := hd4.lt; have r4 := (hb4.cell (p := ⟨sb, so + k, none⟩) (Nat.lt_trans hsl' hl3)).trans r3))
              ))
          | ((with_reducible refine here_build ?_); (first
              | ((with_reducible refine here_build (d := some 41) ?_); (refine wpList_build_pair rfl (.tmp 39) (.tmp 40) rfl x s H32.out.2 H32.out.1 rfl rfl ?_))
              ))
          | ((with_reducible refine here_slice ?_); (first
              | ((refine wpList_one_pair rfl (.tmp 50) rfl (x, s) ⟨H32.out.2, H32.out.1⟩ rfl w4.heap.size rfl ?_; intro w6 he6 hb6 hl6; have hown6 := OwnE.below hown4 hb6; have hat6 := hat4.below hb6 hat4.lt; have hd6 := hd4.below hb6 hd4.lt; have hbw6 := hbw4.trans (hb6.mono hbw4.size); have hz6 : w1.heap.size + 1 ≤ w6.heap.size := hat6.lt))
              ))
          | (at_builtin
             refine wpList_append_elems Tryd.underlying79 infoPair (by simp [Value.cells]) (by omega) rfl (.tmp 49) (.tmp 51) rfl (w1.heap.size + 1) v0 (pvals past) rfl hown6 (some ⟨w4.heap.size, 0, none⟩) [pcells (x, s)] 1 1 rfl rfl he6 (by rw [pvals_length, HL.out]; simp only [List.length_singleton]; omega) (by rw [pvals_length, HL.out]; simp only [List.length_singleton]; omega) hz6 ?_
             intro v7 w7 hv7 hg7 _
             have hb7 := below_ownE (Below.refl (w1.heap.size + 1) w6) hown6 hg7 (Nat.le_refl _) hz6
             have hat7 := hat6.below hb7 (Nat.lt_succ_self _)
             have hd7 := hd6.grown hg7 (hown.not (.inr (Nat.le_of_lt hl3)))
             have hbw7 := hbw6.trans (hb7.mono (Nat.le_succ _))
             have hbx7 := hb.trans (hbw7.mono (by omega))
             have hmid := pair_ranges hd7 H32.out.2
             have hm1 := hmid.1
             have hm2 := hmid.2
             clear hmid))
        refine (node_any w7 x s H32.out.2 H32.out.1 (HC.out.below hbx7 htl)).mono ?_
        rintro e w8 ⟨rfl, hb8⟩
        have hat8 := hat7.below hb8 hat7.lt
        have hv8 := OwnE.below hv7 hb8
        have hbw8 := hbw7.trans (hb8.mono hbw7.size)
        clear hm1 hm2
        unfold dv
        go_wp2_with ((with_reducible refine here_store ?_)
                     refine wpList_store_own rfl 24 (.tmp 12) (.tmp 57) rfl w1.heap.size _ rfl rfl 24 _ hat8 (dig_info (nodeS_length x s)) (by rw [dig_size (nodeS_length x s), dig_size H32.out.2]) (dig_one _) ?_
                     intro w9 hd9 hB9 hg9)
        have hv9 := OwnE.keep hv8 hg9 (OwnE.not' hv8 (.inl (Nat.lt_succ_self _)))
        have hbw9 := hbw8.trans (hB9 _ (Nat.le_refl _))
        go_roundw
        case rel => exact ⟨k + 1, v7, by omega, rfl, by go_num, by rw [HN.out.2]; unfold pvals; rw [List.map_append]; exact hv9, by rw [HN.out.1]; exact hd9, hbw9⟩
        case measure => simp [intOf]; omega
    · obtain rfl : k = m := by omega
      have hr2 := hr.below hbw (by omega)
      have hcl : (climbS leaf bs ps k).length = 32 := climbS_length leaf HS.out.2.2.2.2 bs ps k
      obtain ⟨x, hx⟩ : ∃ x, x = climbS leaf bs ps k := ⟨_, rfl⟩
      rw [← hx] at hat hcl
      have HX := Lib.hid (And.intro hx hcl)
      clear hx hcl
      go_wp2_with (first
        | (refine wpList_load_row rfl 24 (.tmp 12) rfl w1.heap.size rfl 24 _ (0, 0) _ hat Tryd.underlying24 rfl (dig_info HX.out.2) ?_)
        | (refine wpList_store_own rfl 24 (.tmp 8) (.tmp 59) rfl (w.heap.size + 1) _ rfl rfl 24 _ hr2 (dig_info HX.out.2) (by rw [dig_size HX.out.2]; rfl) (dig_one _) ?_
           intro w3 hd3 hB3 hg3))
      have hown3 := OwnE.keep hown hg3 (by
        cases hv : v0.ownBlock with
        | none => exact .inl rfl
        | some z => exact .inr (fun e => by
            injection e with e
            have := (World.ownsRow.lt hown.2 z hv).1
            omega))
      exact bodyPost_ret (results_row_tmp2 rfl _ _ (w.heap.size + 1) 24 _ (0, 0) _ rfl hd3 Tryd.underlying24 rfl (dig_info HX.out.2)) rfl
        ⟨_, by rw [← HS.out.2.2.2.1, ← HX.out.1]; rfl, by rw [← HS.out.2.2.2.1]; exact OwnE.le hown3 (by omega), (hb.trans (hbw.mono (by omega))).trans (hB3 _ (by omega))⟩
end Go.Proofs.YtimnpakmifjgoaaDoor

/-
  The document's Fold and Check, walked.
-/
/-
  A region that draws, once more: what yields its value in whatever world may be taken first though others store. No function of the program stands here.
-/
namespace Go.Proofs.YtimnpakmifjgoaaDoor
open Go.RowKit

section
variable {P : Program} {ops : Array Oper} {Q : Exit → Act → World → Prop} {md : Region.Mode} {ex : Nat → Bool}
theorem wpOp_putA {j : Nat} {oi oj : Oper} {v : Value} (hj : ops[j]? = some oj) (hap : oi.apart ops oj = true)
    (hsi : ∀ cs b, oi.op ≠ .select cs b) (hsj : ∀ cs b, oj.op ≠ .select cs b)
    (hQ : ∀ c a w, Q (.panic c) (a.put oi.dst v) w → Q (.panic c) a w) {K : Act → World → Prop} {a : Act} {w : World}
    (hy : ∀ w0, YieldsG P ops oi v a w0) (h : wpOp P ops Q j K (a.put oi.dst v) w) :
    wpOp P ops Q j (fun a' w' => (∀ w0, YieldsG P ops oi v a' w0) ∧ K (a'.put oi.dst v) w') a w := by
  obtain ⟨h1, h2, h3⟩ := Oper.apart_spec hap
  have keep : ∀ (a : Act), (∀ w0, YieldsG P ops oi v a w0) → ∀ u w0, YieldsG P ops oi v (a.put oj.dst u) w0 := fun a hy u w0 =>
    (hy w0).of_same (execOp_put oi hsi a oj.dst u h3) (wanted_put oi a oj.dst u h3)
  have keepD : ∀ d w0, YieldsG P ops oi v { a with defers := d :: a.defers } w0 := fun d w0 => (hy w0).of_same rfl rfl
  unfold wpOp at *
  simp only [hj] at *
  rw [wanted_put oj a oi.dst v h1] at h
  split
  · rename_i hw
    simp only [hw, if_true] at h
    rcases h with h | ⟨hasks, hlets⟩
    case inr => exact .inr ⟨by unfold Oper.asks at *; rw [execOp_put oj hsj a oi.dst v h1] at hasks; exact hasks, hlets⟩
    refine .inl ?_
    unfold Oper.wp at *
    rw [execOp_put oj hsj a oi.dst v h1] at h
    generalize (execOp a.eval oj).run P w = r at *
    cases r with
    | ok n w' =>
      cases n <;> simp only [Oper.upon] at h ⊢
      case value u => exact ⟨keep a hy u, by rw [← Act.put_comm a v u h2]; exact h⟩
      case skip => exact ⟨keep a hy _, by rw [← Act.put_comm a v undef h2]; exact h⟩
      case defer d =>
        refine ⟨keep _ (keepD d) _, ?_⟩
        rw [← Act.put_comm _ v undef h2, ← Act.put_defers]
        exact h
      case enter f args =>
        refine Calls.mono h fun e w'' he => ?_
        cases e with
        | returned u => exact ⟨keep a hy u, by rw [← Act.put_comm a v u h2]; exact he⟩
        | panicked c => exact hQ _ _ _ he
        | outgrown => exact he
      case row row args => exact Rows.mono h fun u w'' he => ⟨keep a hy u, by rw [← Act.put_comm a v u h2]; exact he⟩
    | halt x w' =>
      cases x <;> simp only [Oper.upon] at h ⊢
      case panic u => exact hQ _ _ _ h
  · rename_i hw
    simp only [hw] at h
    exact ⟨keep a hy _, by rw [← Act.put_comm a v undef h2]; exact h⟩
theorem wpAnyG_firstA {i : Nat} {oi : Oper} {v : Value} (hi : ops[i]? = some oi) (hsel : ∀ (j : Nat) (o : Oper) cs b, ops[j]? = some o → o.op ≠ .select cs b)
    (hQ : ∀ c a w, Q (.panic c) (a.put oi.dst v) w → Q (.panic c) a w) :
    ∀ (fuel : Nat) (listed : Array Bool) (a : Act) (w : World),
      (∀ j oj, ops[j]? = some oj → j ≠ i → listed.getD j true = false → (∀ e ∈ oj.after, Region.binds md e = true → e.on ≠ i) → oi.apart ops oj = true) →
      i ∈ Region.ready md ops listed → (∀ w0, YieldsG P ops oi v a w0) →
      wpAnyG P md ops Q ex fuel (listed.setIfInBounds i true) (a.put oi.dst v) w → wpAnyG P md ops Q ex (fuel + 1) listed a w := by
  intro fuel
  induction fuel with
  | zero =>
    intro listed a w _ hr hy H w1 hw1
    refine ⟨fun h => (by rw [h] at hr; cases hr), fun j hj => ?_⟩
    by_cases hji : j = i
    · subst hji; exact (hy w1).wpOp hi (fun w' h' => ⟨fun _ => h', wpAnyG_grow _ _ _ _ _ (hw1.trans h') H⟩)
    · have := ready_mono hj hji
      rw [H.1] at this
      cases this
  | succ fuel ih =>
    intro listed a w hfree hr hy H w1 hw1
    refine ⟨fun h => (by rw [h] at hr; cases hr), fun j hj => ?_⟩
    by_cases hji : j = i
    · subst hji; exact (hy w1).wpOp hi (fun w' h' => ⟨fun _ => h', wpAnyG_grow _ _ _ _ _ (hw1.trans h') H⟩)
    · have h1 := (H w1 hw1).2 j (ready_mono hj hji)
      obtain ⟨hjun, oj, hoj, hall⟩ := mem_ready.1 hj
      have hnot : ∀ e ∈ oj.after, Region.binds md e = true → e.on ≠ i := fun e he hb heq => by
        have h1 := hall e he hb
        have h0 := (mem_ready.1 hr).1
        rw [heq] at h1
        rcases Nat.lt_or_ge i listed.size with h' | h'
        · simp [h'] at h0 h1; rw [h0] at h1; cases h1
        · simp [Array.getElem?_eq_none h'] at h1
      have h2 := wpOp_putA hoj (hfree j oj hoj hji hjun hnot) (fun cs b => hsel i oi cs b hi) (fun cs b => hsel j oj cs b hoj) hQ hy h1
      have hfree' : ∀ k ok, ops[k]? = some ok → k ≠ i → (listed.setIfInBounds j true).getD k true = false →
          (∀ e ∈ ok.after, Region.binds md e = true → e.on ≠ i) → oi.apart ops ok = true := fun k ok hk hki hun hno => by
        refine hfree k ok hk hki ?_ hno
        by_cases hjk : j = k
        · subst hjk; exact hjun
        · rw [getD_set_ne true hjk] at hun; exact hun
      refine wpOp_mono (fun a' w' h3 => ⟨h3.2.1, ih (listed.setIfInBounds j true) a' w' hfree' (ready_mono hr (Ne.symm hji)) h3.1 ?_⟩) h2
      rw [Array.setIfInBounds_comm _ _ hji]
      exact h3.2.2
def canTakeA (md : Region.Mode) (ops : Array Oper) (listed : Array Bool) (i : Nat) : Bool :=
  Region.noSelect ops && Region.free md ops listed i && (Region.ready md ops listed).contains i
theorem wpAnyG_takeA (i : Nat) {oi : Oper} {v : Value} {fuel : Nat} {listed : Array Bool} {a : Act} {w : World} (hi0 : ops.toList[i]? = some oi) (hc : canTakeA md ops listed i = true)
    (hQ : ∀ c a w, Q (.panic c) (a.put oi.dst v) w → Q (.panic c) a w) (hy : ∀ w0, YieldsG P ops oi v a w0)
    (h : wpAnyG P md ops Q ex fuel (listed.setIfInBounds i true) (a.put oi.dst v) w) : wpAnyG P md ops Q ex (fuel + 1) listed a w := by
  have hi : ops[i]? = some oi := by simpa using hi0
  unfold canTakeA at hc
  simp only [Bool.and_eq_true] at hc
  exact wpAnyG_firstA hi (Region.noSelect_spec hc.1.1) hQ fuel listed a w (Region.free_spec hi hc.1.2) (by simpa using hc.2) hy h
end
end Go.Proofs.YtimnpakmifjgoaaDoor

namespace Go.Proofs.YtimnpakmifjgoaaDoor
open Go.RowKit Sp

def FoldPost (w : World) (r : List UInt8 × Bool) (e : Ending) (w' : World) : Prop := e = .returned (.tuple #[dv r.1, .bool r.2]) ∧ Below w.heap.size w w'

set_option maxHeartbeats 4000000 in
set_option maxRecDepth 100000 in
theorem fold_any (leaf : List UInt8) (hlf : leaf.length = 32) (f : Nat) : ∀ (w : World) (A : Option Addr) (ps : List (List UInt8)) (i n m c : Nat), m ≤ f → m = ps.length → i ≤ 4294967295 → n ≤ 4294967295 → m ≤ 1048576 → DSrc w A ps → m ≤ c → c ≤ 9223372036854775807 → TabAt w 0 →
    Calls Tryd.prog 42 #[.agg (leaf.map bv).toArray, .int .i64 i, .int .i64 n, .slice A m c] w (FoldPost w (foldS leaf i n ps)) := by
  have HLF := Lib.hid hlf
  clear hlf
  induction f with
  | zero =>
    intro w A ps i n m c hf hm hi hn hmm hs hc hcm ht
    have HC := Lib.hid ht
    have htl := ht.lt
    clear ht
    have q0 : (0 : Int) ≤ (i : Int) := by omega
    have q1 : (i : Int) ≤ 4294967295 := by omega
    have q2 : (n : Int) ≤ 4294967295 := by omega
    have hB0 := below_alloc2 w (.cells (leaf.map bv).toArray 24) (.cells zeroDigest 24)
    have hR0 : Blk ((w.alloc (.cells (leaf.map bv).toArray 24)).alloc (.cells zeroDigest 24)) (w.heap.size + 1) 24 zeroDigest := heap_alloc2_new w _ _
    have hL0 : Blk ((w.alloc (.cells (leaf.map bv).toArray 24)).alloc (.cells zeroDigest 24)) w.heap.size 24 (leaf.map bv).toArray := (Blk.new w _ _).alloc _
    rcases Nat.lt_or_ge i n with hin | hin
    case inr =>
      rw [foldS_no leaf i n ps hin]
      have q3 : (n : Int) ≤ (i : Int) := by omega
      go_enter Tryd.func42, Tryd.ntmps42
      go_wp2_with (refine wpList_store_own rfl 24 (.tmp 8) (.tmp 19) rfl (w.heap.size + 1) zeroDigest rfl rfl 24 _ hR0 zero_info rfl zero_one ?_
                   intro w2 hd2 hB2 _)
      exact bodyPost_ret (results_row_tmp rfl _ _ (w.heap.size + 1) 24 _ (0, 0) _ rfl hd2 Tryd.underlying24 rfl zero_info) rfl ⟨rfl, hB0.trans (hB2 _ (by omega))⟩
    have q3 : (i : Int) < (n : Int) := by omega
    rcases Nat.lt_or_ge n 2 with h2 | h2
    · obtain rfl : n = 1 := by omega
      rw [foldS_one leaf i ps hin]
      obtain ⟨b, hb⟩ : ∃ b, b = decide (ps.length = 0) := ⟨_, rfl⟩
      have hbm : ((m : Int) == 0) = b := by
        rw [hb, hm]
        by_cases h0 : ps.length = 0 <;> simp [h0]
      rw [← hb]
      clear hb hs hm
      go_enter Tryd.func42, Tryd.ntmps42
      go_wp2_with (first
        | (refine wpList_load_row rfl 24 (.tmp 4) rfl w.heap.size rfl 24 _ (0, 0) _ hL0 Tryd.underlying24 rfl (dig_info HLF.out) ?_)
        | (refine wpList_store_own rfl 24 (.tmp 8) (.tmp 22) rfl (w.heap.size + 1) _ rfl rfl 24 _ hR0 (dig_info HLF.out) (by rw [dig_size HLF.out]; rfl) (dig_one _) ?_
           intro w2 hd2 hB2 _))
      exact bodyPost_ret (results_row_tmp rfl _ _ (w.heap.size + 1) 24 _ (0, 0) _ rfl hd2 Tryd.underlying24 rfl (dig_info HLF.out)) rfl ⟨rfl, hB0.trans (hB2 _ (by omega))⟩
    rcases Nat.eq_zero_or_pos m with h0 | h0
    · have hps : ps = [] := List.eq_nil_of_length_eq_zero (by omega)
      subst hps
      subst h0
      rw [foldS_nil leaf i n h2 hin]
      have q4 : (2 : Int) ≤ (n : Int) := by omega
      clear hs hm
      go_enter Tryd.func42, Tryd.ntmps42
      go_wp2_with (refine wpList_store_own rfl 24 (.tmp 8) (.tmp 29) rfl (w.heap.size + 1) zeroDigest rfl rfl 24 _ hR0 zero_info rfl zero_one ?_
                   intro w2 hd2 hB2 _)
      exact bodyPost_ret (results_row_tmp rfl _ _ (w.heap.size + 1) 24 _ (0, 0) _ rfl hd2 Tryd.underlying24 rfl zero_info) rfl ⟨rfl, hB0.trans (hB2 _ (by omega))⟩
    exact absurd hf (by omega)
  | succ f ih =>
    intro w A ps i n m c hf hm hi hn hmm hs hc hcm ht
    have HC := Lib.hid ht
    have htl := ht.lt
    clear ht
    have q0 : (0 : Int) ≤ (i : Int) := by omega
    have q1 : (i : Int) ≤ 4294967295 := by omega
    have q2 : (n : Int) ≤ 4294967295 := by omega
    have hB0 := below_alloc2 w (.cells (leaf.map bv).toArray 24) (.cells zeroDigest 24)
    have hR0 : Blk ((w.alloc (.cells (leaf.map bv).toArray 24)).alloc (.cells zeroDigest 24)) (w.heap.size + 1) 24 zeroDigest := heap_alloc2_new w _ _
    have hL0 : Blk ((w.alloc (.cells (leaf.map bv).toArray 24)).alloc (.cells zeroDigest 24)) w.heap.size 24 (leaf.map bv).toArray := (Blk.new w _ _).alloc _
    rcases Nat.lt_or_ge i n with hin | hin
    case inr =>
      rw [foldS_no leaf i n ps hin]
      have q3 : (n : Int) ≤ (i : Int) := by omega
      go_enter Tryd.func42, Tryd.ntmps42
      go_wp2_with (refine wpList_store_own rfl 24 (.tmp 8) (.tmp 19) rfl (w.heap.size + 1) zeroDigest rfl rfl 24 _ hR0 zero_info rfl zero_one ?_
                   intro w2 hd2 hB2 _)
      exact bodyPost_ret (results_row_tmp rfl _ _ (w.heap.size + 1) 24 _ (0, 0) _ rfl hd2 Tryd.underlying24 rfl zero_info) rfl ⟨rfl, hB0.trans (hB2 _ (by omega))⟩
    have q3 : (i : Int) < (n : Int) := by omega
    rcases Nat.lt_or_ge n 2 with h2 | h2
    · obtain rfl : n = 1 := by omega
      rw [foldS_one leaf i ps hin]
      obtain ⟨b, hb⟩ : ∃ b, b = decide (ps.length = 0) := ⟨_, rfl⟩
      have hbm : ((m : Int) == 0) = b := by
        rw [hb, hm]
        by_cases h0 : ps.length = 0 <;> simp [h0]
      rw [← hb]
      clear hb hs hm
      go_enter Tryd.func42, Tryd.ntmps42
      go_wp2_with (first
        | (refine wpList_load_row rfl 24 (.tmp 4) rfl w.heap.size rfl 24 _ (0, 0) _ hL0 Tryd.underlying24 rfl (dig_info HLF.out) ?_)
        | (refine wpList_store_own rfl 24 (.tmp 8) (.tmp 22) rfl (w.heap.size + 1) _ rfl rfl 24 _ hR0 (dig_info HLF.out) (by rw [dig_size HLF.out]; rfl) (dig_one _) ?_
           intro w2 hd2 hB2 _))
      exact bodyPost_ret (results_row_tmp rfl _ _ (w.heap.size + 1) 24 _ (0, 0) _ rfl hd2 Tryd.underlying24 rfl (dig_info HLF.out)) rfl ⟨rfl, hB0.trans (hB2 _ (by omega))⟩
    rcases Nat.eq_zero_or_pos m with h0 | h0
    · have hps : ps = [] := List.eq_nil_of_length_eq_zero (by omega)
      subst hps
      subst h0
      rw [foldS_nil leaf i n h2 hin]
      have q4 : (2 : Int) ≤ (n : Int) := by omega
      clear hs hm
      go_enter Tryd.func42, Tryd.ntmps42
      go_wp2_with (refine wpList_store_own rfl 24 (.tmp 8) (.tmp 29) rfl (w.heap.size + 1) zeroDigest rfl rfl 24 _ hR0 zero_info rfl zero_one ?_
                   intro w2 hd2 hB2 _)
      exact bodyPost_ret (results_row_tmp rfl _ _ (w.heap.size + 1) 24 _ (0, 0) _ rfl hd2 Tryd.underlying24 rfl zero_info) rfl ⟨rfl, hB0.trans (hB2 _ (by omega))⟩
    obtain ⟨qs, last, hps⟩ : ∃ qs last, ps = qs ++ [last] := by
      rcases List.eq_nil_or_concat ps with rfl | ⟨qs, last, h⟩
      · simp at hm; omega
      · exact ⟨qs, last, by rw [h, List.concat_eq_append]⟩
    subst hps
    have hql : qs.length = m - 1 := by rw [List.length_append, List.length_singleton] at hm; omega
    obtain ⟨b, o, rfl, hbl, hbc⟩ := hs.2 (by simp)
    have hl32 : last.length = 32 := hs.1 last (by simp)
    have hrl := hbc (m - 1) last (by rw [← hql]; simp)
    have hsq : DSrc w (some ⟨b, o, none⟩) qs := by
      have h := hs.take (m - 1)
      rwa [← hql, List.take_left] at h
    have r1 : ((w.alloc (.cells (leaf.map bv).toArray 24)).alloc (.cells zeroDigest 24)).rangeAt b (o + (m - 1) * 32) (last.map bv) := fun j v hj => (hB0.cell (p := ⟨b, o + (m - 1) * 32 + j, none⟩) hbl).trans (hrl j v hj)
    obtain ⟨c0, c1, c2, _⟩ := cut_spec n h2 (by omega)
    have hfl := foldS_left leaf i n qs last h2 hin
    have hfr := foldS_right leaf i n qs last h2 hin
    obtain ⟨k, hk⟩ : ∃ k, k = cut n := ⟨_, rfl⟩
    rw [← hk] at c0 c1 c2 hfl hfr
    have q4 : (2 : Int) ≤ (n : Int) := by omega
    have q5 : (1 : Int) ≤ (m : Int) := by omega
    have q6 : (m : Int) ≤ (c : Int) := by omega
    have q7 : (m : Int) - 1 = ((m - 1 : Nat) : Int) := by omega
    have q8 : (m : Int) ≤ 1048576 := by omega
    have HK := Lib.hid hk
    have HF := Lib.hid (And.intro hfl hfr)
    have HS := Lib.hid (And.intro hsq (And.intro hql hl32))
    have HR := Lib.hid r1
    have H7 := Lib.hid q7
    clear hk hfl hfr hsq hql hl32 r1 hs hm hbc hrl q7
    go_enter Tryd.func42, Tryd.ntmps42
    go_wp2_with fail
    refine (refCut_any n _ h2 (by omega)).mono ?_
    rintro e w1 ⟨rfl, rfl⟩
    rw [← HK.out]
    by_cases hik : i < k
    · rw [HF.out.1 hik]
      obtain ⟨F, hF⟩ : ∃ F, F = foldS leaf i k qs := ⟨_, rfl⟩
      have hF32 : F.1.length = 32 := by rw [hF]; exact foldS_length leaf HLF.out _ _ qs
      rw [← hF]
      have HFF := Lib.hid (And.intro hF hF32)
      clear hF hF32
      go_wp2_with (first
        | (refine wpList_load_mid rfl 24 (.tmp 36) rfl b (o + (m - 1) * 32) rfl (last.map bv) _ HR.out Tryd.underlying24 rfl (dig_info' HS.out.2.2) ?_)
        | (refine wpList_store_own rfl 24 (.tmp 11) (.tmp 37) rfl (w.heap.size + 2) _ rfl rfl 24 _ (blk_new3 w _ _ _ _) (dig_info HS.out.2.2) (by rw [dig_size HS.out.2.2]; rfl) (dig_one _) ?_
           intro w3 hd3 hB3 _
           have hb3 := (below_alloc3 w _ _ _).trans (hB3 _ (Nat.le_add_right _ 2))
           have hL3 := rangeAt_blk (Blk.below (hL0.alloc _) (hB3 _ (Nat.le_refl _)) (by omega))
           have hR3 := Blk.below (hR0.alloc _) (hB3 _ (Nat.le_refl _)) (by omega)
           have hl3 : w.heap.size < w3.heap.size := by have := hd3.lt; omega
           have G3 : w.heap.size + 2 < w3.heap.size := hd3.lt))
      clear hB3 hL0 hR0 hB0
      have hu := Tryd.underlying24
      have hi1 := dig_info' HLF.out
      have m2 : (0 : Int) ≤ ((m - 1 : Nat) : Int) := by omega
      have m3 : ((m - 1 : Nat) : Int) ≤ (c : Int) := by omega
      have m1 : IntKind.i64.wrap ((m : Int) - 1) = ((m - 1 : Nat) : Int) := by rw [IntWalk.i64_in _ (by constructor <;> omega)]; omega
      refine wp_region_G (fun j => j == 13) (by kernel_rfl) ?_
      refine wpAnyG_take 0 rfl (by kernel_rfl) (fun _ _ _ h => h) (YieldsG.load (by rfl) _ _ rfl w.heap.size 0 rfl (leaf.map bv) _ hl3 hL3 hu rfl hi1) ?_
      try simp only [Act.put, List.setIfInBounds_toArray, List.set_cons_zero, List.set_cons_succ]
      refine wpAnyG_takeA 1 rfl (by kernel_rfl) (fun _ _ _ h => h) (fun _ => YieldsG.pure (by rfl) (fun w9 _ => by go_simp; try with_reducible rfl)) ?_
      try simp only [Act.put, List.setIfInBounds_toArray, List.set_cons_zero, List.set_cons_succ]
      refine wpAnyG_takeA 2 rfl (by kernel_rfl) (fun _ _ _ h => h) (fun _ => YieldsG.pure (by rfl) (fun w9 _ => by go_simp; try with_reducible rfl)) ?_
      try simp only [Act.put, List.setIfInBounds_toArray, List.set_cons_zero, List.set_cons_succ]
      refine wpAnyG_takeA 3 rfl (by kernel_rfl) (fun _ _ _ h => h) (fun _ => YieldsG.pure (by rfl) (fun w9 _ => by go_simp; try with_reducible rfl)) ?_
      try simp only [Act.put, List.setIfInBounds_toArray, List.set_cons_zero, List.set_cons_succ]
      refine wpAnyG_takeA 4 rfl (by kernel_rfl) (fun _ _ _ h => h) (fun _ => YieldsG.pure (by rfl) (fun w9 _ => by go_simp; try with_reducible rfl)) ?_
      try simp only [Act.put, List.setIfInBounds_toArray, List.set_cons_zero, List.set_cons_succ]
      refine wpAnyG_takeA 5 rfl (by kernel_rfl) (fun _ _ _ h => h) (fun _ => YieldsG.pure (by rfl) (fun w9 _ => by go_simp; try with_reducible rfl)) ?_
      try simp only [Act.put, List.setIfInBounds_toArray, List.set_cons_zero, List.set_cons_succ]
      refine wpAnyG_takeA 6 rfl (by kernel_rfl) (fun _ _ _ h => h) (fun _ => YieldsG.pure (by rfl) (fun w9 _ => by go_simp; try with_reducible rfl)) ?_
      try simp only [Act.put, List.setIfInBounds_toArray, List.set_cons_zero, List.set_cons_succ]
      refine wpAnyG_takeA 7 rfl (by kernel_rfl) (fun _ _ _ h => h) (fun _ => YieldsG.pure (by rfl) (fun w9 _ => by go_simp; try with_reducible rfl)) ?_
      try simp only [Act.put, List.setIfInBounds_toArray, List.set_cons_zero, List.set_cons_succ]
      refine wpAnyG_take 8 rfl (by kernel_rfl) (fun _ _ _ h => h) (YieldsG.call (v := .tuple #[.agg (F.1.map bv).toArray, .bool F.2]) (by rfl) 42 _ (fun w9 => by go_simp; try (first | with_reducible rfl | rfl)) (fun w9 h9 => HFF.out.1 ▸ ih w9 _ qs i k (m - 1) c (by omega) HS.out.2.1.symm (by omega) (by omega) (by omega) (HS.out.1.below (Below.gr hb3 h9)) (by omega) hcm (HC.out.below (Below.gr hb3 h9) htl))) ?_
      try simp only [Act.put, List.setIfInBounds_toArray, List.set_cons_zero, List.set_cons_succ]
      refine wpAnyG_takeA 9 rfl (by kernel_rfl) (fun _ _ _ h => h) (fun _ => YieldsG.pure (by rfl) (fun w9 _ => by go_simp; try with_reducible rfl)) ?_
      try simp only [Act.put, List.setIfInBounds_toArray, List.set_cons_zero, List.set_cons_succ]
      refine wpAnyG_takeA 10 rfl (by kernel_rfl) (fun _ _ _ h => h) (fun _ => YieldsG.pure (by rfl) (fun w9 _ => by go_simp; try with_reducible rfl)) ?_
      try simp only [Act.put, List.setIfInBounds_toArray, List.set_cons_zero, List.set_cons_succ]
      refine wpAnyG_takeA 11 rfl (by kernel_rfl) (fun _ _ _ h => h) (fun _ => YieldsG.pure (by rfl) (fun w9 _ => by go_simp; try with_reducible rfl)) ?_
      try simp only [Act.put, List.setIfInBounds_toArray, List.set_cons_zero, List.set_cons_succ]
      refine wpAnyG_sole 12 rfl (by kernel_rfl) (by rfl) (fun w5 h5 K hK => ?_)
      go_simp
      refine hK _ _ (fun _ => gr_alloc _ _) ?_
      clear hK K
      try simp only [Act.put, List.setIfInBounds_toArray, List.set_cons_zero, List.set_cons_succ]
      refine wpAnyG_store 13 rfl (by kernel_rfl) (by rfl) _ _ _ rfl w5.heap.size ((F.1.map bv).toArray) rfl rfl _ _ (Blk.new w5 _ _) (dig_info HFF.out.2) (by rw [dig_size HFF.out.2]; rfl) (dig_one _) rfl (fun w6 h6 w7 hB7 hL7 => ?_)
      try simp only [Act.put]
      refine wpAnyG_takeA 14 rfl (by kernel_rfl) (fun _ _ _ h => h) (fun _ => YieldsG.pure (by rfl) (fun w9 _ => by go_simp; try with_reducible rfl)) ?_
      try simp only [Act.put, List.setIfInBounds_toArray, List.set_cons_zero, List.set_cons_succ]
      refine wpAnyG_done (by kernel_rfl) (fun w8 h8 => ?_)
      clear m1
      have g38 : Gr w3 w8 := Below.trans (Below.trans (h5.trans ((gr_alloc _ _).trans h6)) (hB7 _ (Below.size h5))) (Below.mono h8 (Nat.le_trans (Below.size h5) (Nat.le_of_lt hL7.lt)))
      have hf8 := h8.blk hL7
      have hd8 := g38.blk hd3
      have hR8 := g38.blk hR3
      have hb8 := Below.gr hb3 g38
      go_wp2_with (first
        | (refine wpList_load_row rfl 24 (.tmp 12) rfl w5.heap.size rfl 24 _ (0, 0) _ hf8 Tryd.underlying24 rfl (dig_info HFF.out.2) ?_)
        | (refine wpList_load_row rfl 24 (.tmp 11) rfl (w.heap.size + 2) rfl 24 _ (0, 0) _ hd8 Tryd.underlying24 rfl (dig_info HS.out.2.2) ?_))
      refine (nodeR_any w8 F.1 last HFF.out.2 HS.out.2.2 (HC.out.below hb8 htl)).mono ?_
      rintro e w9 ⟨rfl, hb9⟩
      have hR9 := hR8.below hb9 hR8.lt
      have hbf := hb8.trans (hb9.mono hb8.size)
      unfold dv
      go_wp2_with (refine wpList_store_own rfl 24 (.tmp 8) (.tmp 55) rfl (w.heap.size + 1) _ rfl rfl 24 _ hR9 (dig_info (nodeS_length F.1 last)) (by rw [dig_size (nodeS_length F.1 last)]; rfl) (dig_one _) ?_
                   intro w10 hd10 hB10 _)
      exact bodyPost_ret (results_row_tmp rfl _ _ (w.heap.size + 1) 24 _ (0, 0) _ rfl hd10 Tryd.underlying24 rfl (dig_info (nodeS_length F.1 last))) rfl ⟨by first | rfl | (rw [← HFF.out.1]; rfl) | (rw [HF.out.1 hik, ← HFF.out.1]; rfl), hbf.trans (hB10 _ (by omega))⟩
    · rw [HF.out.2 hik]
      obtain ⟨F, hF⟩ : ∃ F, F = foldS leaf (i - k) (n - k) qs := ⟨_, rfl⟩
      have hF32 : F.1.length = 32 := by rw [hF]; exact foldS_length leaf HLF.out _ _ qs
      rw [← hF]
      have HFF := Lib.hid (And.intro hF hF32)
      clear hF hF32
      have hki : (k : Int) ≤ (i : Int) := by omega
      have hd1 : decide (i < k) = false := by simp; omega
      have hd2 : decide ((i : Int) < (k : Int)) = false := by simp; omega
      go_wp2_with (first
        | (refine wpList_load_mid rfl 24 (.tmp 36) rfl b (o + (m - 1) * 32) rfl (last.map bv) _ HR.out Tryd.underlying24 rfl (dig_info' HS.out.2.2) ?_)
        | (refine wpList_store_own rfl 24 (.tmp 11) (.tmp 37) rfl (w.heap.size + 2) _ rfl rfl 24 _ (blk_new3 w _ _ _ _) (dig_info HS.out.2.2) (by rw [dig_size HS.out.2.2]; rfl) (dig_one _) ?_
           intro w3 hd3 hB3 _
           have hb3 := (below_alloc3 w _ _ _).trans (hB3 _ (Nat.le_add_right _ 2))
           have hL3 := rangeAt_blk (Blk.below (hL0.alloc _) (hB3 _ (Nat.le_refl _)) (by omega))
           have hR3 := Blk.below (hR0.alloc _) (hB3 _ (Nat.le_refl _)) (by omega)
           have hl3 : w.heap.size < w3.heap.size := by have := hd3.lt; omega
           have G3 : w.heap.size + 2 < w3.heap.size := hd3.lt))
      clear hB3 hL0 hR0 hB0
      have hu := Tryd.underlying24
      have hi1 := dig_info' HLF.out
      have m2 : (0 : Int) ≤ ((m - 1 : Nat) : Int) := by omega
      have m3 : ((m - 1 : Nat) : Int) ≤ (c : Int) := by omega
      have m1 : IntKind.i64.wrap ((m : Int) - 1) = ((m - 1 : Nat) : Int) := by rw [IntWalk.i64_in _ (by constructor <;> omega)]; omega
      have m4 : IntKind.i64.wrap ((i : Int) - (k : Int)) = ((i - k : Nat) : Int) := by clear m1; rw [IntWalk.i64_in _ (by constructor <;> omega)]; omega
      have m5 : IntKind.i64.wrap ((n : Int) - (k : Int)) = ((n - k : Nat) : Int) := by clear m1 m4; rw [IntWalk.i64_in _ (by constructor <;> omega)]; omega
      refine wp_region_G (fun j => j == 17) (by kernel_rfl) ?_
      refine wpAnyG_take 0 rfl (by kernel_rfl) (fun _ _ _ h => h) (YieldsG.load (by rfl) _ _ rfl w.heap.size 0 rfl (leaf.map bv) _ hl3 hL3 hu rfl hi1) ?_
      try simp only [Act.put, List.setIfInBounds_toArray, List.set_cons_zero, List.set_cons_succ]
      refine wpAnyG_takeA 1 rfl (by kernel_rfl) (fun _ _ _ h => h) (fun _ => YieldsG.pure (by rfl) (fun w9 _ => by go_simp; try with_reducible rfl)) ?_
      try simp only [Act.put, List.setIfInBounds_toArray, List.set_cons_zero, List.set_cons_succ]
      refine wpAnyG_takeA 2 rfl (by kernel_rfl) (fun _ _ _ h => h) (fun _ => YieldsG.pure (by rfl) (fun w9 _ => by go_simp; try with_reducible rfl)) ?_
      try simp only [Act.put, List.setIfInBounds_toArray, List.set_cons_zero, List.set_cons_succ]
      refine wpAnyG_takeA 3 rfl (by kernel_rfl) (fun _ _ _ h => h) (fun _ => YieldsG.pure (by rfl) (fun w9 _ => by go_simp; try with_reducible rfl)) ?_
      try simp only [Act.put, List.setIfInBounds_toArray, List.set_cons_zero, List.set_cons_succ]
      refine wpAnyG_takeA 4 rfl (by kernel_rfl) (fun _ _ _ h => h) (fun _ => YieldsG.pure (by rfl) (fun w9 _ => by go_simp; try with_reducible rfl)) ?_
      try simp only [Act.put, List.setIfInBounds_toArray, List.set_cons_zero, List.set_cons_succ]
      refine wpAnyG_takeA 5 rfl (by kernel_rfl) (fun _ _ _ h => h) (fun _ => YieldsG.pure (by rfl) (fun w9 _ => by go_simp; try with_reducible rfl)) ?_
      try simp only [Act.put, List.setIfInBounds_toArray, List.set_cons_zero, List.set_cons_succ]
      refine wpAnyG_takeA 6 rfl (by kernel_rfl) (fun _ _ _ h => h) (fun _ => YieldsG.pure (by rfl) (fun w9 _ => by go_simp; try with_reducible rfl)) ?_
      try simp only [Act.put, List.setIfInBounds_toArray, List.set_cons_zero, List.set_cons_succ]
      refine wpAnyG_takeA 7 rfl (by kernel_rfl) (fun _ _ _ h => h) (fun _ => YieldsG.pure (by rfl) (fun w9 _ => by go_simp; try with_reducible rfl)) ?_
      try simp only [Act.put, List.setIfInBounds_toArray, List.set_cons_zero, List.set_cons_succ]
      refine wpAnyG_takeA 8 rfl (by kernel_rfl) (fun _ _ _ h => h) (fun _ => YieldsG.pure (by rfl) (fun w9 _ => by go_simp; try with_reducible rfl)) ?_
      try simp only [Act.put, List.setIfInBounds_toArray, List.set_cons_zero, List.set_cons_succ]
      refine wpAnyG_takeA 9 rfl (by kernel_rfl) (fun _ _ _ h => h) (fun _ => YieldsG.pure (by rfl) (fun w9 _ => by go_simp; try with_reducible rfl)) ?_
      try simp only [Act.put, List.setIfInBounds_toArray, List.set_cons_zero, List.set_cons_succ]
      refine wpAnyG_takeA 10 rfl (by kernel_rfl) (fun _ _ _ h => h) (fun _ => YieldsG.pure (by rfl) (fun w9 _ => by go_simp; try with_reducible rfl)) ?_
      try simp only [Act.put, List.setIfInBounds_toArray, List.set_cons_zero, List.set_cons_succ]
      refine wpAnyG_takeA 11 rfl (by kernel_rfl) (fun _ _ _ h => h) (fun _ => YieldsG.pure (by rfl) (fun w9 _ => by go_simp; try with_reducible rfl)) ?_
      try simp only [Act.put, List.setIfInBounds_toArray, List.set_cons_zero, List.set_cons_succ]
      refine wpAnyG_take 12 rfl (by kernel_rfl) (fun _ _ _ h => h) (YieldsG.call (v := .tuple #[.agg (F.1.map bv).toArray, .bool F.2]) (by rfl) 42 _ (fun w9 => by go_simp; try (first | with_reducible rfl | rfl)) (fun w9 h9 => HFF.out.1 ▸ ih w9 _ qs (i - k) (n - k) (m - 1) c (by omega) HS.out.2.1.symm (by omega) (by omega) (by omega) (HS.out.1.below (Below.gr hb3 h9)) (by omega) hcm (HC.out.below (Below.gr hb3 h9) htl))) ?_
      try simp only [Act.put, List.setIfInBounds_toArray, List.set_cons_zero, List.set_cons_succ]
      refine wpAnyG_takeA 13 rfl (by kernel_rfl) (fun _ _ _ h => h) (fun _ => YieldsG.pure (by rfl) (fun w9 _ => by go_simp; try with_reducible rfl)) ?_
      try simp only [Act.put, List.setIfInBounds_toArray, List.set_cons_zero, List.set_cons_succ]
      refine wpAnyG_takeA 14 rfl (by kernel_rfl) (fun _ _ _ h => h) (fun _ => YieldsG.pure (by rfl) (fun w9 _ => by go_simp; try with_reducible rfl)) ?_
      try simp only [Act.put, List.setIfInBounds_toArray, List.set_cons_zero, List.set_cons_succ]
      refine wpAnyG_takeA 15 rfl (by kernel_rfl) (fun _ _ _ h => h) (fun _ => YieldsG.pure (by rfl) (fun w9 _ => by go_simp; try with_reducible rfl)) ?_
      try simp only [Act.put, List.setIfInBounds_toArray, List.set_cons_zero, List.set_cons_succ]
      refine wpAnyG_sole 16 rfl (by kernel_rfl) (by rfl) (fun w5 h5 K hK => ?_)
      go_simp
      refine hK _ _ (fun _ => gr_alloc _ _) ?_
      clear hK K
      try simp only [Act.put, List.setIfInBounds_toArray, List.set_cons_zero, List.set_cons_succ]
      refine wpAnyG_store 17 rfl (by kernel_rfl) (by rfl) _ _ _ rfl w5.heap.size ((F.1.map bv).toArray) rfl rfl _ _ (Blk.new w5 _ _) (dig_info HFF.out.2) (by rw [dig_size HFF.out.2]; rfl) (dig_one _) rfl (fun w6 h6 w7 hB7 hL7 => ?_)
      try simp only [Act.put]
      refine wpAnyG_takeA 18 rfl (by kernel_rfl) (fun _ _ _ h => h) (fun _ => YieldsG.pure (by rfl) (fun w9 _ => by go_simp; try with_reducible rfl)) ?_
      try simp only [Act.put, List.setIfInBounds_toArray, List.set_cons_zero, List.set_cons_succ]
      refine wpAnyG_done (by kernel_rfl) (fun w8 h8 => ?_)
      clear m1 m4 m5
      have g38 : Gr w3 w8 := Below.trans (Below.trans (h5.trans ((gr_alloc _ _).trans h6)) (hB7 _ (Below.size h5))) (Below.mono h8 (Nat.le_trans (Below.size h5) (Nat.le_of_lt hL7.lt)))
      have hf8 := h8.blk hL7
      have hd8 := g38.blk hd3
      have hR8 := g38.blk hR3
      have hb8 := Below.gr hb3 g38
      go_wp2_with (first
        | (refine wpList_load_row rfl 24 (.tmp 14) rfl w5.heap.size rfl 24 _ (0, 0) _ hf8 Tryd.underlying24 rfl (dig_info HFF.out.2) ?_)
        | (refine wpList_load_row rfl 24 (.tmp 11) rfl (w.heap.size + 2) rfl 24 _ (0, 0) _ hd8 Tryd.underlying24 rfl (dig_info HS.out.2.2) ?_))
      refine (nodeR_any w8 last F.1 HS.out.2.2 HFF.out.2 (HC.out.below hb8 htl)).mono ?_
      rintro e w9 ⟨rfl, hb9⟩
      have hR9 := hR8.below hb9 hR8.lt
      have hbf := hb8.trans (hb9.mono hb8.size)
      unfold dv
      go_wp2_with (refine wpList_store_own rfl 24 (.tmp 8) (.tmp 75) rfl (w.heap.size + 1) _ rfl rfl 24 _ hR9 (dig_info (nodeS_length last F.1)) (by rw [dig_size (nodeS_length last F.1)]; rfl) (dig_one _) ?_
                   intro w10 hd10 hB10 _)
      exact bodyPost_ret (results_row_tmp rfl _ _ (w.heap.size + 1) 24 _ (0, 0) _ rfl hd10 Tryd.underlying24 rfl (dig_info (nodeS_length last F.1))) rfl ⟨by first | rfl | (rw [← HFF.out.1]; rfl) | (rw [HF.out.2 hik, ← HFF.out.1]; rfl), hbf.trans (hB10 _ (by omega))⟩
end Go.Proofs.YtimnpakmifjgoaaDoor

namespace Go.Proofs.YtimnpakmifjgoaaDoor
open Go.RowKit Sp

theorem fold_check (root leaf : List UInt8) (i n : Nat) (ps : List (List UInt8)) (hn : n ≤ 4294967295) : ((foldS leaf i n ps).2 && decide ((foldS leaf i n ps).1 = root)) = checkS root leaf i n ps := by
  unfold checkS
  rcases Nat.lt_or_ge i n with h | h
  · obtain ⟨h1, h2⟩ := fold_climb leaf n ps i n (Nat.le_refl _) (by omega) h (by omega)
    rw [h1]
    by_cases hl : ps.length = (sidesS i n).length
    · rw [h2 hl]; simp [h]
    · simp [hl]
  · rw [foldS_no leaf i n ps h]
    have : ¬ i < n := by omega
    simp [this]

theorem zero_info' : (Tryd.prog.info? 24).map (·.size) = some (zero32.map bv).toArray.size := zero_info
set_option maxHeartbeats 1000000 in
set_option maxRecDepth 100000 in
theorem check_no (w : World) (root leaf : List UInt8) (A : Option Addr) (ps : List (List UInt8)) (i n m c : Nat) (hr32 : root.length = 32) (hl32 : leaf.length = 32) (hi : i ≤ 4294967295) (hn : n ≤ 4294967295) (hm : m = ps.length) (hs : DSrc w A ps) (hc : m ≤ c) (ht : TabAt w 1) (hge : n ≤ i) :
    Calls Tryd.prog 39 #[.agg (root.map bv).toArray, .agg (leaf.map bv).toArray, .int .u32 i, .int .u32 n, .slice A m c] w fun e w' => e = .returned (.bool false) ∧ Below w.heap.size w w' := by
  have HC := Lib.hid ht
  have HS := Lib.hid (And.intro hs hm)
  have H32 := Lib.hid (And.intro hr32 hl32)
  have hA : Blk ((w.alloc (.cells (root.map bv).toArray 24)).alloc (.cells (leaf.map bv).toArray 24)) w.heap.size 24 (root.map bv).toArray := (Blk.new w _ _).alloc _
  have hB : Blk ((w.alloc (.cells (root.map bv).toArray 24)).alloc (.cells (leaf.map bv).toArray 24)) (w.heap.size + 1) 24 (leaf.map bv).toArray := heap_alloc2_new w _ _
  have h0 := below_alloc2 w (.cells (root.map bv).toArray 24) (.cells (leaf.map bv).toArray 24)
  have htl := ht.lt
  clear ht hs hm hr32 hl32
  go_enter Tryd.func39, Tryd.ntmps39
  go_wp2_with (refine wpList_load_row rfl 24 (.tmp 6) rfl (w.heap.size + 1) rfl 24 _ (0, 0) _ hB Tryd.underlying24 rfl (dig_info H32.out.2) ?_)
  refine (climb_no _ leaf A i n m c hge hi).mono ?_
  rintro e w1 ⟨v, rfl, _, hb1⟩
  have hb := h0.trans (hb1.mono h0.size)
  have hA1 := hA.below hb1 (by simp; omega)
  clear hA hB hb1
  unfold dv
  go_wp2_with (refine wpList_store_new rfl 24 (.tmp 11) (.tmp 20) rfl _ _ _ rfl rfl zero_info' rfl (dig_one _) ?_
               intro w2 hd2 hb2 hz2)
  go_ret
  exact ⟨rfl, hb.trans (hb2.mono hb.size)⟩

set_option maxHeartbeats 1000000 in
set_option maxRecDepth 100000 in
theorem check_off (w : World) (root leaf : List UInt8) (A : Option Addr) (ps : List (List UInt8)) (i n m c : Nat) (hr32 : root.length = 32) (hl32 : leaf.length = 32) (hi : i ≤ 4294967295) (hn : n ≤ 4294967295) (hm : m = ps.length) (hs : DSrc w A ps) (hc : m ≤ c) (ht : TabAt w 1) (hin : i < n) (hlen : m ≠ (sidesS i n).length) :
    Calls Tryd.prog 39 #[.agg (root.map bv).toArray, .agg (leaf.map bv).toArray, .int .u32 i, .int .u32 n, .slice A m c] w fun e w' => e = .returned (.bool false) ∧ Below w.heap.size w w' := by
  have HC := Lib.hid ht
  have HS := Lib.hid (And.intro hs hm)
  have H32 := Lib.hid (And.intro hr32 hl32)
  have hA : Blk ((w.alloc (.cells (root.map bv).toArray 24)).alloc (.cells (leaf.map bv).toArray 24)) w.heap.size 24 (root.map bv).toArray := (Blk.new w _ _).alloc _
  have hB : Blk ((w.alloc (.cells (root.map bv).toArray 24)).alloc (.cells (leaf.map bv).toArray 24)) (w.heap.size + 1) 24 (leaf.map bv).toArray := heap_alloc2_new w _ _
  have h0 := below_alloc2 w (.cells (root.map bv).toArray 24) (.cells (leaf.map bv).toArray 24)
  have htl := ht.lt
  clear ht hs hm hr32 hl32
  go_enter Tryd.func39, Tryd.ntmps39
  go_wp2_with (refine wpList_load_row rfl 24 (.tmp 6) rfl (w.heap.size + 1) rfl 24 _ (0, 0) _ hB Tryd.underlying24 rfl (dig_info H32.out.2) ?_)
  refine (climb_off _ leaf A i n m c hin hn hlen).mono ?_
  rintro e w1 ⟨v, rfl, _, hb1⟩
  have hb := h0.trans (hb1.mono h0.size)
  have hA1 := hA.below hb1 (by simp; omega)
  clear hA hB hb1
  unfold dv
  go_wp2_with (refine wpList_store_new rfl 24 (.tmp 11) (.tmp 20) rfl _ _ _ rfl rfl zero_info' rfl (dig_one _) ?_
               intro w2 hd2 hb2 hz2)
  go_ret
  exact ⟨rfl, hb.trans (hb2.mono hb.size)⟩

set_option maxHeartbeats 1000000 in
set_option maxRecDepth 100000 in
theorem check_yes (w : World) (root leaf : List UInt8) (A : Option Addr) (ps : List (List UInt8)) (i n m c : Nat) (hr32 : root.length = 32) (hl32 : leaf.length = 32) (hi : i ≤ 4294967295) (hn : n ≤ 4294967295) (hm : m = ps.length) (hs : DSrc w A ps) (hc : m ≤ c) (ht : TabAt w 1) (hin : i < n) (hlen : m = (sidesS i n).length) :
    Calls Tryd.prog 39 #[.agg (root.map bv).toArray, .agg (leaf.map bv).toArray, .int .u32 i, .int .u32 n, .slice A m c] w fun e w' => e = .returned (.bool (decide (climbS leaf (sidesS i n) ps m = root))) ∧ Below w.heap.size w w' := by
  have HC := Lib.hid ht
  have HS := Lib.hid (And.intro hs hm)
  have H32 := Lib.hid (And.intro hr32 hl32)
  have hA : Blk ((w.alloc (.cells (root.map bv).toArray 24)).alloc (.cells (leaf.map bv).toArray 24)) w.heap.size 24 (root.map bv).toArray := (Blk.new w _ _).alloc _
  have hB : Blk ((w.alloc (.cells (root.map bv).toArray 24)).alloc (.cells (leaf.map bv).toArray 24)) (w.heap.size + 1) 24 (leaf.map bv).toArray := heap_alloc2_new w _ _
  have h0 := below_alloc2 w (.cells (root.map bv).toArray 24) (.cells (leaf.map bv).toArray 24)
  have htl := ht.lt
  have HL := Lib.hid hlen
  clear hlen
  clear ht hs hm hr32 hl32
  go_enter Tryd.func39, Tryd.ntmps39
  go_wp2_with (refine wpList_load_row rfl 24 (.tmp 6) rfl (w.heap.size + 1) rfl 24 _ (0, 0) _ hB Tryd.underlying24 rfl (dig_info H32.out.2) ?_)
  refine (climb_yes _ leaf A ps i n m c H32.out.2 hin hn HL.out HS.out.2 (HS.out.1.below h0) hc (HC.out.below h0 htl)).mono ?_
  rintro e w1 ⟨v, rfl, _, hb1⟩
  have hb := h0.trans (hb1.mono h0.size)
  have hA1 := hA.below hb1 (by simp; omega)
  clear hA hB hb1
  unfold dv
  have hx32 := climbS_length leaf H32.out.2 (sidesS i n) ps m
  obtain ⟨X, hX⟩ : ∃ X, X = climbS leaf (sidesS i n) ps m := ⟨_, rfl⟩
  rw [← hX] at hx32
  obtain ⟨q, hq⟩ : ∃ q, q = decide (X = root) := ⟨_, rfl⟩
  have e1 : ∀ W, (binOp .eql 24 (.agg (X.map bv).toArray) (.agg (root.map bv).toArray)).run Tryd.prog W = .ok (.bool q) W := fun W => by rw [run_eql_digs W X root hx32 H32.out.1, hq]
  rw [← hX]
  have HX := Lib.hid (And.intro hx32 (And.intro hX hq))
  clear hx32 hX hq
  go_wp2_with (first
    | ((with_reducible refine here_store ?_); (refine wpList_store_new rfl 24 (.tmp 11) (.tmp 20) rfl _ _ _ rfl rfl (dig_info HX.out.1) (by rw [dig_size HX.out.1]; rfl) (dig_one _) ?_; intro w2 hd2 hb2 hz2; have hA2 := hA1.below hb2 hA1.lt))
    | ((with_reducible refine here_load (d := some 25) ?_); (refine wpList_load_want rfl 24 (.tmp 11) rfl w1.heap.size rfl 24 _ _ hd2 Tryd.underlying24 rfl (dig_info HX.out.1) ?_))
    | ((with_reducible refine here_load (d := some 26) ?_); (refine wpList_load_want rfl 24 (.tmp 5) rfl w.heap.size rfl 24 _ _ hA2 Tryd.underlying24 rfl (dig_info H32.out.1) ?_)))
  go_ret
  exact ⟨by rw [← HX.out.2.1, ← HX.out.2.2]; rfl, hb.trans (hb2.mono hb.size)⟩

theorem check_any (w : World) (root leaf : List UInt8) (A : Option Addr) (ps : List (List UInt8)) (i n m c : Nat) (hr32 : root.length = 32) (hl32 : leaf.length = 32) (hi : i ≤ 4294967295) (hn : n ≤ 4294967295) (hm : m = ps.length) (hs : DSrc w A ps) (hc : m ≤ c) (ht : TabAt w 1) :
    Calls Tryd.prog 39 #[.agg (root.map bv).toArray, .agg (leaf.map bv).toArray, .int .u32 i, .int .u32 n, .slice A m c] w fun e w' => e = .returned (.bool (checkS root leaf i n ps)) ∧ Below w.heap.size w w' := by
  unfold checkS
  rcases Nat.lt_or_ge i n with h | h
  · by_cases hl : m = (sidesS i n).length
    · refine (check_yes w root leaf A ps i n m c hr32 hl32 hi hn hm hs hc ht h hl).mono ?_
      rintro e w' ⟨he, hb⟩
      refine ⟨?_, hb⟩
      rw [he]
      have hl2 := hl
      rw [hm] at hl2
      simp [h, hl2, hm]
    · refine (check_off w root leaf A ps i n m c hr32 hl32 hi hn hm hs hc ht h hl).mono ?_
      rintro e w' ⟨he, hb⟩
      refine ⟨?_, hb⟩
      rw [he]
      have hl2 : ¬ ps.length = (sidesS i n).length := by rw [← hm]; exact hl
      simp [hl2]
  · refine (check_no w root leaf A ps i n m c hr32 hl32 hi hn hm hs hc ht h).mono ?_
    rintro e w' ⟨he, hb⟩
    refine ⟨?_, hb⟩
    rw [he]
    have : ¬ i < n := by omega
    simp [this]

set_option maxHeartbeats 2000000 in
set_option maxRecDepth 100000 in
theorem checkR_any (w : World) (root leaf : List UInt8) (A : Option Addr) (ps : List (List UInt8)) (i n m c : Nat) (hr32 : root.length = 32) (hl32 : leaf.length = 32) (hi : i ≤ 4294967295) (hn : n ≤ 4294967295) (hm : m = ps.length) (hs : DSrc w A ps) (hmm : m ≤ 1048576) (hc : m ≤ c) (hcm : c ≤ 9223372036854775807) (ht : TabAt w 0) :
    Calls Tryd.prog 40 #[.agg (root.map bv).toArray, .agg (leaf.map bv).toArray, .int .u32 i, .int .u32 n, .slice A m c] w fun e w' => e = .returned (.bool (checkS root leaf i n ps)) ∧ Below w.heap.size w w' := by
  have HC := Lib.hid ht
  have HS := Lib.hid (And.intro hs hm)
  have H32 := Lib.hid (And.intro hr32 hl32)
  have hA : Blk ((w.alloc (.cells (root.map bv).toArray 24)).alloc (.cells (leaf.map bv).toArray 24)) w.heap.size 24 (root.map bv).toArray := (Blk.new w _ _).alloc _
  have hB : Blk ((w.alloc (.cells (root.map bv).toArray 24)).alloc (.cells (leaf.map bv).toArray 24)) (w.heap.size + 1) 24 (leaf.map bv).toArray := heap_alloc2_new w _ _
  have h0 := below_alloc2 w (.cells (root.map bv).toArray 24) (.cells (leaf.map bv).toArray 24)
  have htl := ht.lt
  have q0 : (0 : Int) ≤ (i : Int) := by omega
  have q1 : (i : Int) ≤ 4294967295 := by omega
  have q2 : (n : Int) ≤ 4294967295 := by omega
  have q3 : (0 : Int) ≤ (n : Int) := by omega
  rcases Nat.lt_or_ge 64 m with h64 | h64
  · have hch : checkS root leaf i n ps = false := by
      unfold checkS
      have h1 := sidesS_32 i n (by omega)
      have h2 : ¬ ps.length = (sidesS i n).length := by omega
      simp [h2]
    rw [hch]
    have q4 : (64 : Int) < (m : Int) := by omega
    clear ht hs hm hr32 hl32 hch
    go_enter Tryd.func40, Tryd.ntmps40
    go_wp2
    go_ret
    exact ⟨rfl, h0⟩
  · have hch := fold_check root leaf i n ps hn
    have hF32 := foldS_length leaf hl32 i n ps
    have q4 : (m : Int) ≤ 64 := by omega
    obtain ⟨F, hF⟩ : ∃ F, F = foldS leaf i n ps := ⟨_, rfl⟩
    rw [← hF] at hch hF32
    rw [← hch]
    have HF := Lib.hid (And.intro hF hF32)
    clear ht hs hm hr32 hl32 hch hF hF32
    obtain ⟨X, b⟩ := F
    obtain ⟨q, hq⟩ : ∃ q, q = decide (X = root) := ⟨_, rfl⟩
    have e1 : ∀ W, (binOp .eql 24 (.agg (X.map bv).toArray) (.agg (root.map bv).toArray)).run Tryd.prog W = .ok (.bool q) W := fun W => by rw [run_eql_digs W X root HF.out.2 H32.out.1, hq]
    have HQ := Lib.hid hq
    clear hq
    cases b
    all_goals
      go_enter Tryd.func40, Tryd.ntmps40
      go_wp2_with (refine wpList_load_row rfl 24 (.tmp 6) rfl (w.heap.size + 1) rfl 24 _ (0, 0) _ hB Tryd.underlying24 rfl (dig_info H32.out.2) ?_)
      refine (fold_any leaf H32.out.2 m _ A ps i n m c (Nat.le_refl _) HS.out.2 hi hn hmm (HS.out.1.below h0) hc hcm (HC.out.below h0 htl)).mono ?_
      rw [← HF.out.1]
      rintro e w1 ⟨rfl, hb1⟩
      have hb := h0.trans (hb1.mono h0.size)
      have hA1 := hA.below hb1 (by simp; omega)
      clear hA hB hb1
      unfold dv
      go_wp2_with (first
        | ((with_reducible refine here_store ?_); (refine wpList_store_new rfl 24 (.tmp 11) (.tmp 24) rfl _ _ _ rfl rfl (dig_info HF.out.2) (by rw [dig_size HF.out.2]; rfl) (dig_one _) ?_; intro w2 hd2 hb2 hz2; have hA2 := hA1.below hb2 hA1.lt))
        | ((with_reducible refine here_load (d := some 28) ?_); (refine wpList_load_want rfl 24 (.tmp 11) rfl w1.heap.size rfl 24 _ _ hd2 Tryd.underlying24 rfl (dig_info HF.out.2) ?_))
        | ((with_reducible refine here_load (d := some 29) ?_); (refine wpList_load_want rfl 24 (.tmp 5) rfl w.heap.size rfl 24 _ _ hA2 Tryd.underlying24 rfl (dig_info H32.out.1) ?_)))
      go_ret
      exact ⟨by first | rfl | (rw [← HQ.out]; rfl), hb.trans (hb2.mono hb.size)⟩
end Go.Proofs.YtimnpakmifjgoaaDoor
