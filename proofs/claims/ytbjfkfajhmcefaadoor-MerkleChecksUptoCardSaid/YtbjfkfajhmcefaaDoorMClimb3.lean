/-
  climb: the way up, walked where the path is long enough.
-/
import Derived.Test.YtbjfkfajhmcefaaDoorMClimb2
import Derived.Test.YtbjfkfajhmcefaaDoorMem

/-
  Quick guards for a walk's arms: is the next operation of a plain list a load, a store, ..? No function of the program stands here.
-/
namespace Go.Proofs.YtbjfkfajhmcefaaDoor
section
variable {P : Program} {ops : Array Oper} {Q : Exit → Act → World → Prop} {rest : List Oper} {a : Act} {w : World} {d : Option Tmp} {t : TypeId} {p : String} {af : Array Edge} {g : Option (Nat × Bool)}
theorem here_load {ty : TypeId} {x : Operand} (h : wpList P ops Q (⟨d, .load ty x, t, p, af, g⟩ :: rest) a w) : wpList P ops Q (⟨d, .load ty x, t, p, af, g⟩ :: rest) a w := h
theorem here_store {ty : TypeId} {x y : Operand} (h : wpList P ops Q (⟨d, .store ty x y, t, p, af, g⟩ :: rest) a w) : wpList P ops Q (⟨d, .store ty x y, t, p, af, g⟩ :: rest) a w := h
theorem here_build {ty : TypeId} {xs : Array (Nat × Operand)} (h : wpList P ops Q (⟨d, .build ty xs, t, p, af, g⟩ :: rest) a w) : wpList P ops Q (⟨d, .build ty xs, t, p, af, g⟩ :: rest) a w := h
theorem here_slice {ty : TypeId} {n : Nat} {xs : Array (Nat × Operand)} (h : wpList P ops Q (⟨d, .buildSlice ty n xs, t, p, af, g⟩ :: rest) a w) : wpList P ops Q (⟨d, .buildSlice ty n xs, t, p, af, g⟩ :: rest) a w := h
end
end Go.Proofs.YtbjfkfajhmcefaaDoor

namespace Go.Proofs.YtbjfkfajhmcefaaDoor
open Go.RowKit Sp

set_option maxHeartbeats 8000000 in
set_option maxRecDepth 100000 in
theorem climb_yes (w : World) (leaf : List UInt8) (A : Option Addr) (ps : List (List UInt8)) (i n m c : Nat) (hlf : leaf.length = 32) (hi : i < n) (hn : n ≤ 4294967295) (hm : m = (sidesS i n).length) (hps : m = ps.length) (hs : DSrc w A ps) (hmc : m ≤ c) (ht : TabAt w 1) :
    Calls Tryd.prog 53 #[.agg (leaf.map bv).toArray, .int .u32 i, .int .u32 n, .slice A m c] w (ClimbPost w (climbS leaf (sidesS i n) ps m) (pastS leaf (sidesS i n) ps m) true) := by
  have HC := Lib.hid ht
  have htl := ht.lt
  have hm32 : m ≤ 32 := by rw [hm]; exact sidesS_32 i n (by omega)
  obtain ⟨bs, hbs⟩ : ∃ bs, bs = sidesS i n := ⟨_, rfl⟩
  rw [← hbs] at hm
  have HS := Lib.hid (And.intro hs (And.intro hps (And.intro hm (And.intro hbs hlf))))
  have q0 : (0 : Int) ≤ (i : Int) := by omega
  have q1 : (i : Int) < (n : Int) := by omega
  have q2 : (n : Int) ≤ 4294967295 := by omega
  have q3 : (m : Int) ≤ (c : Int) := by omega
  have q4 : (m : Int) ≤ 32 := by omega
  clear hs hps hm hbs hlf ht
  go_enter Tryd.func53, Tryd.ntmps53
  go_wp2_with fail
  refine (fromRight_any n _ i n (Nat.le_refl _) hi (by omega)).mono ?_
  rintro e w1 ⟨v, rfl, hown, hb1⟩
  rw [← HS.out.2.2.2.1] at hown
  obtain ⟨As, cs, rfl, hsd, hcs, _⟩ := OwnE.any hown
  rw [bvals_length, ← HS.out.2.2.1] at hcs
  rw [bvals_length, ← HS.out.2.2.1]
  have hr := Blk.below (heap_alloc2_new w (.cells (leaf.map bv).toArray 24) (.cells zeroDigest 24)) hb1 (by simp)
  have hlf := Blk.below ((Blk.new w 24 (leaf.map bv).toArray).alloc (.cells zeroDigest 24)) hb1 (by simp; omega)
  have hb := (below_alloc2 w (.cells (leaf.map bv).toArray 24) (.cells zeroDigest 24)).trans (hb1.mono (by simp; omega))
  have hz1 : w.heap.size + 2 ≤ w1.heap.size := by have := hb1.size; simpa using this
  have HB := Lib.hid hsd
  have q5 : (m : Int) ≤ (cs : Int) := by omega
  clear hown hsd hb1
  go_wp2_with (first
    | (refine wpList_load_row rfl 24 (.tmp 4) rfl w.heap.size rfl 24 _ (0, 0) _ hlf Tryd.underlying24 rfl (dig_info HS.out.2.2.2.2) ?_)
    | (refine wpList_store_new rfl 24 (.tmp 12) (.tmp 31) rfl _ _ _ rfl rfl (dig_info HS.out.2.2.2.2) (by rw [dig_size HS.out.2.2.2.2]; rfl) (dig_one _) ?_
       intro w2 hd2 hb2 hz2))
  have hz2' := hz2.out
  clear hlf hz2
  go_loopw [9, 34] (fun v i wr => ∃ (k : Nat) (v0 : Value), k ≤ m ∧ v0 = v ∧ i = .int .i64 k ∧ OwnE 86 64 wr (w1.heap.size + 1) v0 (pvals (pastS leaf bs ps k)) ∧ Blk wr w1.heap.size 24 ((climbS leaf bs ps k).map bv).toArray ∧ Below w1.heap.size w1 wr)
    (fun _ i _ => m - (intOf i).toNat)
  case atStart => exact ⟨0, _, Nat.zero_le _, rfl, rfl, OwnE.nil _ _ _ _, hd2, hb2⟩
  case round =>
    clear hd2 hb2
    obtain ⟨k, v0, hk, rfl, rfl, hown, hat, hbw⟩ := hrel
    have hlt1 := hat.lt
    by_cases hlt : k < m
    · obtain ⟨s, hs⟩ : ∃ s, ps[k]? = some s := ⟨ps[k]'(by rw [← HS.out.2.1]; exact hlt), List.getElem?_eq_getElem _⟩
      obtain ⟨sd, hsd⟩ : ∃ sd, bs[k]? = some sd := ⟨bs[k]'(by rw [← HS.out.2.2.1]; exact hlt), List.getElem?_eq_getElem _⟩
      obtain ⟨pb, po, rfl, hpl, hpc⟩ := HS.out.1.2 (fun e => by rw [e] at hs; cases hs)
      obtain ⟨sb, so, rfl, hsl, hsc⟩ := HB.out.2 (fun e => nomatch (show (none : Option Bool) = some sd from by rw [← hsd, show bs = [] from by simpa [bvals] using e]; rfl))
      have hs32 := HS.out.1.1 s (List.mem_of_getElem? hs)
      have hbb := hb.trans (hbw.mono (by omega))
      have r1 : wr.rangeAt pb (po + k * 32) (s.map bv) := fun j v hj => (hbb.cell (p := ⟨pb, po + k * 32 + j, none⟩) hpl).trans (hpc k s hs j v hj)
      have r2 : wr.cell? ⟨sb, so + k, none⟩ = some (.bool sd) := by
        have h := hsc k [.bool sd] (by unfold bvals; rw [List.getElem?_map, hsd]; rfl) 0 (.bool sd) rfl
        rw [Nat.mul_one, Nat.add_zero] at h
        exact (hbw.cell (p := ⟨sb, so + k, none⟩) hsl).trans h
      obtain ⟨x, hx⟩ : ∃ x, x = climbS leaf bs ps k := ⟨_, rfl⟩
      have hx32 : x.length = 32 := by rw [hx]; exact climbS_length leaf HS.out.2.2.2.2 bs ps k
      have hstep : climbS leaf bs ps (k + 1) = nodeS (kidsS x sd s).1 (kidsS x sd s).2 := by
        rw [climbS, ← hx]
        unfold stepS
        simp only [List.getD_eq_getElem?_getD, hs, hsd, Option.getD_some]
      have hpast : pastS leaf bs ps (k + 1) = pastS leaf bs ps k ++ [kidsS x sd s] := by
        unfold pastS
        rw [List.range_succ, List.map_append, List.map_singleton, ← hx]
        simp only [List.getD_eq_getElem?_getD, hs, hsd, Option.getD_some]
      have hplen : (pastS leaf bs ps k).length = k := by simp [pastS]
      rw [← hx] at hat
      obtain ⟨past, hpe⟩ : ∃ past, past = pastS leaf bs ps k := ⟨_, rfl⟩
      rw [← hpe] at hown hpast hplen
      have hsl' : sb < wr.heap.size := Nat.lt_of_lt_of_le hsl hbw.size
      have k1 : (0 : Int) ≤ (k : Int) := by omega
      have k2 : (k : Int) < (m : Int) := by omega
      have HR := Lib.hid (And.intro r1 r2)
      have H32 := Lib.hid (And.intro hs32 hx32)
      have HN := Lib.hid (And.intro hstep hpast)
      have HL := Lib.hid hplen
      clear hs hsd hpc hsc hs32 hx hx32 hstep hpast hplen hpe r1
      cases sd with
      | true =>
        clear r2
        have r2 := HR.out.2
        go_wp2_with (first
          | ((with_reducible refine here_load ?_); (first
              | ((with_reducible refine here_load (d := some 38) ?_); (refine wpList_load_mid rfl 24 (.tmp 37) rfl pb (po + k * 32) rfl (s.map bv) _ HR.out.1 Tryd.underlying24 rfl (dig_info' H32.out.1) ?_))
              | ((with_reducible refine here_load (d := some 39) ?_); (refine wpList_load_row rfl 24 (.tmp 12) rfl w1.heap.size rfl 24 _ (0, 0) _ hat3 Tryd.underlying24 rfl (dig_info H32.out.2) ?_))
              | ((with_reducible refine here_load (d := some 40) ?_); (refine wpList_load_row rfl 24 (.tmp 14) rfl wr.heap.size rfl 24 _ (0, 0) _ hd3 Tryd.underlying24 rfl (dig_info H32.out.1) ?_))
              | ((with_reducible refine here_load (d := some 46) ?_); (refine wpList_load_row rfl 24 (.tmp 14) rfl wr.heap.size rfl 24 _ (0, 0) _ hd34 Tryd.underlying24 rfl (dig_info H32.out.1) ?_))
              | ((with_reducible refine here_load (d := some 47) ?_); (refine wpList_load_row rfl 24 (.tmp 12) rfl w1.heap.size rfl 24 _ (0, 0) _ hat4 Tryd.underlying24 rfl (dig_info H32.out.2) ?_))
              | ((with_reducible refine here_load (d := some 50) ?_); (refine wpList_load_row rfl 86 (.tmp 15) rfl w3.heap.size rfl 86 _ (0, 0) _ hd5 Tryd.underlying86 rfl (pair_info ⟨H32.out.1, H32.out.2⟩) ?_))
              | ((with_reducible refine here_load (d := some 54) ?_); (refine wpList_load_mid rfl 24 (.tmp 53) rfl w3.heap.size 0 rfl (s.map bv) _ hm1 Tryd.underlying24 rfl (dig_info' H32.out.1) ?_))
              | ((with_reducible refine here_load (d := some 56) ?_); (refine wpList_load_mid rfl 24 (.tmp 55) rfl w3.heap.size 32 rfl (x.map bv) _ hm2 Tryd.underlying24 rfl (dig_info' H32.out.2) ?_))
              ))
          | ((with_reducible refine here_store ?_); (first
              | ((with_reducible refine here_store (y := .tmp 38) ?_); (refine wpList_store_new rfl 24 (.tmp 14) (.tmp 38) rfl _ _ _ rfl rfl (dig_info H32.out.1) (by rw [dig_size H32.out.1]; rfl) (dig_one _) ?_; intro w3 hd3 hb3 hz3; have hat3 := hat.below hb3 hlt1; have hown3 := OwnE.below hown hb3; have hbw3 := hbw.trans (hb3.mono hbw.size); have hl3 : wr.heap.size < w3.heap.size := hd3.lt; have r3 := (hb3.cell (p := ⟨sb, so + k, none⟩) hsl').trans r2))
              | ((with_reducible refine here_store (y := .tmp 41) ?_); (refine wpList_store_new rfl 86 (.tmp 15) (.tmp 41) rfl _ _ _ rfl rfl (pair_info ⟨H32.out.2, H32.out.1⟩) (by rw [pcells_size ⟨H32.out.2, H32.out.1⟩]; rfl) (pcells_all _) ?_; intro w4 hd4 hb4 hz4; have hat4 := hat3.below hb4 hat3.lt; have hd34 := hd3.below hb4 hl3; have hown4 := OwnE.below hown3 hb4; have hbw4 := hbw3.trans (hb4.mono hbw3.size); have hl4 : w3.heap.size < w4.heap.size := hd4.lt; have r4 := (hb4.cell (p := ⟨sb, so + k, none⟩) (Nat.lt_trans hsl' hl3)).trans r3))
              | ((with_reducible refine here_store (y := .tmp 48) ?_); (refine wpList_store_own rfl 86 (.tmp 15) (.tmp 48) rfl w3.heap.size _ rfl rfl 86 _ hd4 (pair_info ⟨H32.out.1, H32.out.2⟩) (by rw [pcells_size (p := (s, x)) ⟨H32.out.1, H32.out.2⟩, pcells_size (p := (x, s)) ⟨H32.out.2, H32.out.1⟩]) (pcells_all _) ?_; intro w5 hd5 hB5 hg5; have hb5 := hB5 w3.heap.size (Nat.le_refl _); have hat5 := hat4.below hb5 hat3.lt; have hown5 := OwnE.below hown3 (hb4.trans hb5); have hbw5 := hbw4.trans (hb5.mono hbw3.size)))
              ))
          | ((with_reducible refine here_build ?_); (first
              | ((with_reducible refine here_build (d := some 41) ?_); (refine wpList_build_pair rfl (.tmp 39) (.tmp 40) rfl x s H32.out.2 H32.out.1 rfl rfl ?_))
              | ((with_reducible refine here_build (d := some 48) ?_); (refine wpList_build_pair rfl (.tmp 46) (.tmp 47) rfl s x H32.out.1 H32.out.2 rfl rfl ?_))
              ))
          | ((with_reducible refine here_slice ?_); (first
              | ((refine wpList_one_pair rfl (.tmp 50) rfl (s, x) ⟨H32.out.1, H32.out.2⟩ rfl w5.heap.size rfl ?_; intro w6 he6 hb6 hl6; have hown6 := OwnE.below hown5 hb6; have hat6 := hat5.below hb6 hat5.lt; have hd6 := hd5.below hb6 hd5.lt; have hbw6 := hbw5.trans (hb6.mono hbw5.size); have hz6 : w1.heap.size + 1 ≤ w6.heap.size := hat6.lt))
              ))
          | (at_builtin
             refine wpList_append_elems Tryd.underlying79 infoPair (by simp [Value.cells]) (by omega) rfl (.tmp 49) (.tmp 51) rfl (w1.heap.size + 1) v0 (pvals past) rfl hown6 (some ⟨w5.heap.size, 0, none⟩) [pcells (s, x)] 1 1 rfl rfl he6 (by rw [pvals_length, HL.out]; simp only [List.length_singleton]; omega) (by rw [pvals_length, HL.out]; simp only [List.length_singleton]; omega) hz6 ?_
             intro v7 w7 hv7 hg7 _
             have hb7 := below_ownE (Below.refl (w1.heap.size + 1) w6) hown6 hg7 (Nat.le_refl _) hz6
             have hat7 := hat6.below hb7 (Nat.lt_succ_self _)
             have hd7 := hd6.grown hg7 (hown.not (.inr (Nat.le_of_lt hl3)))
             have hbw7 := hbw6.trans (hb7.mono (Nat.le_succ _))
             have hbx7 := hb.trans (hbw7.mono (by omega))
             have hmid := pair_ranges hd7 H32.out.1
             have hm1 := hmid.1
             have hm2 := hmid.2
             clear hmid))
        refine (node_any w7 s x H32.out.1 H32.out.2 (HC.out.below hbx7 htl)).mono ?_
        rintro e w8 ⟨rfl, hb8⟩
        have hat8 := hat7.below hb8 hat7.lt
        have hv8 := OwnE.below hv7 hb8
        have hbw8 := hbw7.trans (hb8.mono hbw7.size)
        clear hm1 hm2
        unfold dv
        go_wp2_with ((with_reducible refine here_store ?_)
                     refine wpList_store_own rfl 24 (.tmp 12) (.tmp 57) rfl w1.heap.size _ rfl rfl 24 _ hat8 (dig_info (nodeS_length s x)) (by rw [dig_size (nodeS_length s x), dig_size H32.out.2]) (dig_one _) ?_
                     intro w9 hd9 hB9 hg9)
        have hv9 := OwnE.keep hv8 hg9 (OwnE.not' hv8 (.inl (Nat.lt_succ_self _)))
        have hbw9 := hbw8.trans (hB9 _ (Nat.le_refl _))
        go_roundw
        case rel => exact ⟨k + 1, v7, by omega, rfl, by go_num, by rw [HN.out.2]; unfold pvals; rw [List.map_append]; exact hv9, by rw [HN.out.1]; exact hd9, hbw9⟩
        case measure => simp [intOf]; omega
      | false =>
        clear r2
        have r2 := HR.out.2
        go_wp2_with (first
          | ((with_reducible refine here_load ?_); (first
              | ((with_reducible refine here_load (d := some 38) ?_); (refine wpList_load_mid rfl 24 (.tmp 37) rfl pb (po + k * 32) rfl (s.map bv) _ HR.out.1 Tryd.underlying24 rfl (dig_info' H32.out.1) ?_))
              | ((with_reducible refine here_load (d := some 39) ?_); (refine wpList_load_row rfl 24 (.tmp 12) rfl w1.heap.size rfl 24 _ (0, 0) _ hat3 Tryd.underlying24 rfl (dig_info H32.out.2) ?_))
              | ((with_reducible refine here_load (d := some 40) ?_); (refine wpList_load_row rfl 24 (.tmp 14) rfl wr.heap.size rfl 24 _ (0, 0) _ hd3 Tryd.underlying24 rfl (dig_info H32.out.1) ?_))
              | ((with_reducible refine here_load (d := some 50) ?_); (refine wpList_load_row rfl 86 (.tmp 15) rfl w3.heap.size rfl 86 _ (0, 0) _ hd4 Tryd.underlying86 rfl (pair_info ⟨H32.out.2, H32.out.1⟩) ?_))
              | ((with_reducible refine here_load (d := some 54) ?_); (refine wpList_load_mid rfl 24 (.tmp 53) rfl w3.heap.size 0 rfl (x.map bv) _ hm1 Tryd.underlying24 rfl (dig_info' H32.out.2) ?_))
              | ((with_reducible refine here_load (d := some 56) ?_); (refine wpList_load_mid rfl 24 (.tmp 55) rfl w3.heap.size 32 rfl (s.map bv) _ hm2 Tryd.underlying24 rfl (dig_info' H32.out.1) ?_))
              ))
          | ((with_reducible refine here_store ?_); (first
              | ((with_reducible refine here_store (y := .tmp 38) ?_); (refine wpList_store_new rfl 24 (.tmp 14) (.tmp 38) rfl _ _ _ rfl rfl (dig_info H32.out.1) (by rw [dig_size H32.out.1]; rfl) (dig_one _) ?_; intro w3 hd3 hb3 hz3; have hat3 := hat.below hb3 hlt1; have hown3 := OwnE.below hown hb3; have hbw3 := hbw.trans (hb3.mono hbw.size); have hl3 : wr.heap.size < w3.heap.size := hd3.lt; have r3 := (hb3.cell (p := ⟨sb, so + k, none⟩) hsl').trans r2))
              | ((with_reducible refine here_store (y := .tmp 41) ?_); (refine wpList_store_new rfl 86 (.tmp 15) (.tmp 41) rfl _ _ _ rfl rfl (pair_info ⟨H32.out.2, H32.out.1⟩) (by rw [pcells_size ⟨H32.out.2, H32.out.1⟩]; rfl) (pcells_all _) ?_; intro w4 hd4 hb4 hz4; have hat4 := hat3.below hb4 hat3.lt; have hd34 := hd3.below hb4 hl3; have hown4 := OwnE.below hown3 hb4; have hbw4 := hbw3.trans (hb4.mono hbw3.size); have hl4 : w3.heap.size < w4.heap.size := hd4.lt; have r4 := (hb4.cell (p := ⟨sb, so + k, none⟩) (Nat.lt_trans hsl' hl3)).trans r3))
              ))
          | ((with_reducible refine here_build ?_); (first
              | ((with_reducible refine here_build (d := some 41) ?_); (refine wpList_build_pair rfl (.tmp 39) (.tmp 40) rfl x s H32.out.2 H32.out.1 rfl rfl ?_))
              ))
          | ((with_reducible refine here_slice ?_); (first
              | ((refine wpList_one_pair rfl (.tmp 50) rfl (x, s) ⟨H32.out.2, H32.out.1⟩ rfl w4.heap.size rfl ?_; intro w6 he6 hb6 hl6; have hown6 := OwnE.below hown4 hb6; have hat6 := hat4.below hb6 hat4.lt; have hd6 := hd4.below hb6 hd4.lt; have hbw6 := hbw4.trans (hb6.mono hbw4.size); have hz6 : w1.heap.size + 1 ≤ w6.heap.size := hat6.lt))
              ))
          | (at_builtin
             refine wpList_append_elems Tryd.underlying79 infoPair (by simp [Value.cells]) (by omega) rfl (.tmp 49) (.tmp 51) rfl (w1.heap.size + 1) v0 (pvals past) rfl hown6 (some ⟨w4.heap.size, 0, none⟩) [pcells (x, s)] 1 1 rfl rfl he6 (by rw [pvals_length, HL.out]; simp only [List.length_singleton]; omega) (by rw [pvals_length, HL.out]; simp only [List.length_singleton]; omega) hz6 ?_
             intro v7 w7 hv7 hg7 _
             have hb7 := below_ownE (Below.refl (w1.heap.size + 1) w6) hown6 hg7 (Nat.le_refl _) hz6
             have hat7 := hat6.below hb7 (Nat.lt_succ_self _)
             have hd7 := hd6.grown hg7 (hown.not (.inr (Nat.le_of_lt hl3)))
             have hbw7 := hbw6.trans (hb7.mono (Nat.le_succ _))
             have hbx7 := hb.trans (hbw7.mono (by omega))
             have hmid := pair_ranges hd7 H32.out.2
             have hm1 := hmid.1
             have hm2 := hmid.2
             clear hmid))
        refine (node_any w7 x s H32.out.2 H32.out.1 (HC.out.below hbx7 htl)).mono ?_
        rintro e w8 ⟨rfl, hb8⟩
        have hat8 := hat7.below hb8 hat7.lt
        have hv8 := OwnE.below hv7 hb8
        have hbw8 := hbw7.trans (hb8.mono hbw7.size)
        clear hm1 hm2
        unfold dv
        go_wp2_with ((with_reducible refine here_store ?_)
                     refine wpList_store_own rfl 24 (.tmp 12) (.tmp 57) rfl w1.heap.size _ rfl rfl 24 _ hat8 (dig_info (nodeS_length x s)) (by rw [dig_size (nodeS_length x s), dig_size H32.out.2]) (dig_one _) ?_
                     intro w9 hd9 hB9 hg9)
        have hv9 := OwnE.keep hv8 hg9 (OwnE.not' hv8 (.inl (Nat.lt_succ_self _)))
        have hbw9 := hbw8.trans (hB9 _ (Nat.le_refl _))
        go_roundw
        case rel => exact ⟨k + 1, v7, by omega, rfl, by go_num, by rw [HN.out.2]; unfold pvals; rw [List.map_append]; exact hv9, by rw [HN.out.1]; exact hd9, hbw9⟩
        case measure => simp [intOf]; omega
    · obtain rfl : k = m := by omega
      have hr2 := hr.below hbw (by omega)
      have hcl : (climbS leaf bs ps k).length = 32 := climbS_length leaf HS.out.2.2.2.2 bs ps k
      obtain ⟨x, hx⟩ : ∃ x, x = climbS leaf bs ps k := ⟨_, rfl⟩
      rw [← hx] at hat hcl
      have HX := Lib.hid (And.intro hx hcl)
      clear hx hcl
      go_wp2_with (first
        | (refine wpList_load_row rfl 24 (.tmp 12) rfl w1.heap.size rfl 24 _ (0, 0) _ hat Tryd.underlying24 rfl (dig_info HX.out.2) ?_)
        | (refine wpList_store_own rfl 24 (.tmp 8) (.tmp 59) rfl (w.heap.size + 1) _ rfl rfl 24 _ hr2 (dig_info HX.out.2) (by rw [dig_size HX.out.2]; rfl) (dig_one _) ?_
           intro w3 hd3 hB3 hg3))
      have hown3 := OwnE.keep hown hg3 (by
        cases hv : v0.ownBlock with
        | none => exact .inl rfl
        | some z => exact .inr (fun e => by
            injection e with e
            have := (World.ownsRow.lt hown.2 z hv).1
            omega))
      exact bodyPost_ret (results_row_tmp2 rfl _ _ (w.heap.size + 1) 24 _ (0, 0) _ rfl hd3 Tryd.underlying24 rfl (dig_info HX.out.2)) rfl
        ⟨_, by rw [← HS.out.2.2.2.1, ← HX.out.1]; rfl, by rw [← HS.out.2.2.2.1]; exact OwnE.le hown3 (by omega), (hb.trans (hbw.mono (by omega))).trans (hB3 _ (by omega))⟩
end Go.Proofs.YtbjfkfajhmcefaaDoor
