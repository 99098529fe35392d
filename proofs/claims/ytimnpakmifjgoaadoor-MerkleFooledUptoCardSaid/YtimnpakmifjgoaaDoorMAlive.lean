/-
  The answers that the document fixes, of layer 2.
-/
import Derived.Test.YtimnpakmifjgoaaDoorMCheck
namespace Go.Proofs.YtimnpakmifjgoaaDoor
open Go.RowKit Sp

def digA : List UInt8 := 1 :: List.replicate 31 0
def digB : List UInt8 := 2 :: List.replicate 31 0
theorem digA_length : digA.length = 32 := by decide
theorem digB_length : digB.length = 32 := by decide
theorem all_ab : All32 [digA, digB] := fun d hd => by
  simp at hd
  rcases hd with rfl | rfl
  · exact digA_length
  · exact digB_length
theorem cut_two : cut 2 = 1 := by decide
theorem root_ab (a b : List UInt8) : rootS [a, b] = nodeS a b := by
  rw [rootS_two [a, b] (by simp) (by simp)]
  show nodeS (rootS ([a, b].take (cut 2))) (rootS ([a, b].drop (cut 2))) = _
  rw [cut_two]
  show nodeS (rootS [a]) (rootS [b]) = _
  rw [rootS_one, rootS_one]
theorem path_ab (a b : List UInt8) : pathS [a, b] 1 = [a] := by
  have hc : cut [a, b].length = 1 := cut_two
  rw [pathS_right [a, b] 1 (by simp) (by simp) (by rw [hc]; omega), hc]
  show pathS [b] (1 - 1) ++ [rootS [a]] = _
  rw [pathS_one [b] _ (by simp), rootS_one]
  rfl
theorem check_ab (a b : List UInt8) : checkS (nodeS a b) b 1 2 [a] = true := by
  have hc : ¬ 1 < cut 2 := by rw [cut_two]; omega
  have hs : sidesS 1 2 = [true] := by
    rw [sidesS_right 1 2 (by omega) (by omega) hc, cut_two, sidesS_one _ _ (by omega)]
    rfl
  unfold checkS
  rw [hs]
  simp [climbS, stepS, kidsS]

/-- []api.Digest{a, b} -/
theorem wpList_two_digs {w : World} {ops : Array Oper} {rest : List Oper} {o : Oper} {a : Act} {Q : Exit → Act → World → Prop} (hgd : o.guard = none) (x y : Operand) (ho : o.op = .buildSlice 43 2 #[(0, x), (1, y)])
    (d e : List UInt8) (hd : d.length = 32) (he : e.length = 32) (hx : a.eval x = .agg (d.map bv).toArray) (hy : a.eval y = .agg (e.map bv).toArray) (N : Nat) (hN : w.heap.size = N)
    (h : ∀ w', DSrc w' (some ⟨N, 0, none⟩) [d, e] → Below N w w' → N < w'.heap.size → wpList Tryd.prog ops Q rest (a.put o.dst (.slice (some ⟨N, 0, none⟩) 2 2)) w') : wpList Tryd.prog ops Q (o :: rest) a w :=
  have hel : Elems 32 (dvals [d, e]) := elems_dvals (fun z hz => by simp at hz; rcases hz with rfl | rfl <;> assumption)
  wpList_build_elems Tryd.underlying43 infoDig (by omega) hgd 2 _ ho (dvals [d, e]) hel rfl (by omega) (by decide) (by simp [dvals, hx, hy]) N hN
    (h _ (ESrc.lit N hN _ hel).d (by subst hN; exact (Below.refl _ _).alloc (Nat.le_refl _) _) (by subst hN; simp))

set_option maxHeartbeats 4000000 in
set_option maxRecDepth 100000 in
theorem alive2_any (w : World) (ht : TabAt w 1) (htr : TabAt w 0) :
    Calls Tryd.prog 31 #[] w fun e w' => e = .returned (.bool true) ∧ Below w.heap.size w w' := by
  have HC := Lib.hid ht
  have HR := Lib.hid htr
  have htl := ht.lt
  have hrl := htr.lt
  clear ht htr
  have hu := Tryd.underlying24
  go_enter Tryd.func31, Tryd.ntmps31
  go_wp2_with (first
    | ((with_reducible refine here_store (y := .tmp 5) ?_); (refine wpList_store_own rfl 24 (.tmp 1) (.tmp 5) rfl w.heap.size (digA.map bv).toArray rfl rfl 24 _ ((Blk.new w _ _).alloc _) (dig_info digA_length) (by rw [dig_size digA_length]; rfl) (dig_one _) ?_; intro w2 hd2 hB2 hg2; have hb2 := (below_alloc2 w _ _).trans (hB2 _ (Nat.le_refl _)); have he2 := Blk.grown (heap_alloc2_new w _ _) hg2 (fun e => by injection e; omega)))
    | ((with_reducible refine here_store (y := .tmp 6) ?_); (refine wpList_store_own rfl 24 (.tmp 2) (.tmp 6) rfl (w.heap.size + 1) (digB.map bv).toArray rfl rfl 24 _ he2 (dig_info digB_length) (by rw [dig_size digB_length]; rfl) (dig_one _) ?_; intro w3 hd3 hB3 hg3; have hb3 := hb2.trans (hB3 _ (Nat.le_succ _)); have hA3 := hd2.grown hg3 (fun e => by injection e; omega)))
    | ((with_reducible refine here_load (d := some 8) ?_); (refine wpList_load_row rfl 24 (.tmp 1) rfl w.heap.size rfl 24 _ (0, 0) _ hA3 Tryd.underlying24 rfl (dig_info digA_length) ?_))
    | ((with_reducible refine here_load (d := some 9) ?_); (refine wpList_load_row rfl 24 (.tmp 2) rfl (w.heap.size + 1) rfl 24 _ (0, 0) _ hd3 Tryd.underlying24 rfl (dig_info digB_length) ?_))
    | ((with_reducible refine here_slice ?_); (refine wpList_two_digs rfl (.tmp 8) (.tmp 9) rfl digA digB digA_length digB_length rfl rfl w3.heap.size rfl ?_; intro w4 hs4 hb4 hl4; have hA4 := hA3.below hb4 hA3.lt; have hB4 := hd3.below hb4 hd3.lt; have hbb4 := hb3.trans (hb4.mono hb3.size))))
  refine (path_any w4 (some ⟨w3.heap.size, 0, none⟩) [digA, digB] 2 2 1 rfl (by omega) (by omega) hs4 (by omega) (by omega) (HC.out.below hbb4 htl)).mono ?_
  rw [path_ab]
  rintro e w5 ⟨v, rfl, hown, hb5⟩
  obtain ⟨A3, c3, rfl, hs5, hc5, hm5⟩ := hown.any
  have hA5 := rangeAt_blk (hA4.below hb5 hA4.lt)
  have hB5 := rangeAt_blk (hB4.below hb5 hB4.lt)
  have hbb5 := hbb4.trans (hb5.mono hbb4.size)
  have lA5 : w.heap.size < w5.heap.size := (hA4.below hb5 hA4.lt).lt
  have lB5 : w.heap.size + 1 < w5.heap.size := (hB4.below hb5 hB4.lt).lt
  have HS5 := Lib.hid hs5
  clear hs4 hown hs5 hA4 hB4 hbb4 hb5
  obtain ⟨a, ha⟩ : ∃ a, a = digA := ⟨_, rfl⟩
  obtain ⟨b, hb⟩ : ∃ b, b = digB := ⟨_, rfl⟩
  have la : a.length = 32 := by rw [ha]; exact digA_length
  have lb : b.length = 32 := by rw [hb]; exact digB_length
  rw [← ha] at hA5 HS5
  rw [← hb] at hB5
  have hia := dig_info' la
  have hib := dig_info' lb
  obtain ⟨N, hN⟩ : ∃ N, N = nodeS a b := ⟨_, rfl⟩
  obtain ⟨M, hM⟩ : ∃ M, M = leafS [] := ⟨_, rfl⟩
  have lN : N.length = 32 := by rw [hN]; exact nodeS_length a b
  have lM : M.length = 32 := by rw [hM]; exact leafS_length []
  have eN : ∀ W, (binOp .eql 24 (.agg (N.map bv).toArray) (.agg (N.map bv).toArray)).run Tryd.prog W = .ok (.bool true) W := fun W => by rw [run_eql_digs W _ _ lN lN]; simp
  have eL : ∀ W, (binOp .eql 24 (.agg (M.map bv).toArray) (.agg (M.map bv).toArray)).run Tryd.prog W = .ok (.bool true) W := fun W => by rw [run_eql_digs W _ _ lM lM]; simp
  have HN := Lib.hid (And.intro hN (And.intro lN hM))
  have hch : checkS N b 1 2 [a] = true := by rw [hN]; exact check_ab a b
  have HCH := Lib.hid hch
  clear hN hM lN lM hch
  have HL := Lib.hid (And.intro la lb)
  have hel2 : Elems 32 (dvals [a, b]) := elems_dvals (fun z hz => by simp at hz; rcases hz with rfl | rfl <;> assumption)
  have hel1 : Elems 32 (dvals [a]) := elems_dvals (fun z hz => by simp at hz; subst hz; assumption)
  have HE := Lib.hid (And.intro hel2 hel1)
  clear ha hb la lb hel2 hel1
  go_wp2
  refine wp_region_G (fun _ => false) (by kernel_rfl) ?_
  refine wpAnyG_take 0 rfl (by kernel_rfl) (fun _ _ _ h => h) (YieldsG.load (by rfl) _ _ rfl w.heap.size 0 rfl (a.map bv) _ lA5 hA5 hu rfl hia) ?_
  try simp only [Act.put, List.setIfInBounds_toArray, List.set_cons_zero, List.set_cons_succ]
  refine wpAnyG_take 1 rfl (by kernel_rfl) (fun _ _ _ h => h) (YieldsG.load (by rfl) _ _ rfl (w.heap.size + 1) 0 rfl (b.map bv) _ lB5 hB5 hu rfl hib) ?_
  try simp only [Act.put, List.setIfInBounds_toArray, List.set_cons_zero, List.set_cons_succ]
  refine wpAnyG_take 4 rfl (by kernel_rfl) (fun _ _ _ h => h) (YieldsG.load (by rfl) _ _ rfl w.heap.size 0 rfl (a.map bv) _ lA5 hA5 hu rfl hia) ?_
  try simp only [Act.put, List.setIfInBounds_toArray, List.set_cons_zero, List.set_cons_succ]
  refine wpAnyG_take 5 rfl (by kernel_rfl) (fun _ _ _ h => h) (YieldsG.load (by rfl) _ _ rfl (w.heap.size + 1) 0 rfl (b.map bv) _ lB5 hB5 hu rfl hib) ?_
  try simp only [Act.put, List.setIfInBounds_toArray, List.set_cons_zero, List.set_cons_succ]
  refine wpAnyG_sole 2 rfl (by kernel_rfl) (by rfl) (fun w6 h6 K hK => wp_build_elems Tryd.underlying43 infoDig (by omega) 2 _ rfl (dvals [a, b]) HE.out.1 rfl (by omega) (by decide) (by first | rfl | simp [dvals, Act.eval]) w6.heap.size rfl (hK _ _ (fun _ => gr_alloc _ _) ?_))
  clear hK K
  try simp only [Act.put, List.setIfInBounds_toArray, List.set_cons_zero, List.set_cons_succ]
  have g6 : Gr w5 (w6.alloc (.cells (dvals [a, b]).flatten.toArray 24)) := h6.trans (gr_alloc _ _)
  have hA6 := rangeAt_gr hA5 g6 lA5
  have hB6 := rangeAt_gr hB5 g6 lB5
  have lA6 := g6.lt lA5
  have lB6 := g6.lt lB5
  have HD6 := Lib.hid (ESrc.lit (w := w6) w6.heap.size rfl 24 HE.out.1).d
  refine wpAnyG_take 3 rfl (by kernel_rfl) (fun _ _ _ h => h) (YieldsG.call (v := .agg (N.map bv).toArray) (by rfl) 32 _ (fun w9 => by go_simp; try (first | with_reducible rfl | rfl)) (fun w9 h9 => calls_dv (root_any 2 w9 _ [a, b] 2 2 (by omega) rfl (by omega) (HD6.out.below h9) (by omega) (by omega) (HC.out.below (Below.gr hbb5 (g6.trans h9)) htl)) (HN.out.1.trans (root_ab a b).symm))) ?_
  try simp only [Act.put, List.setIfInBounds_toArray, List.set_cons_zero, List.set_cons_succ]
  refine wpAnyG_take 6 rfl (by kernel_rfl) (fun _ _ _ h => h) (YieldsG.call (v := .agg (N.map bv).toArray) (by rfl) 30 _ (fun w9 => by go_simp; try (first | with_reducible rfl | rfl)) (fun w9 h9 => calls_dv (nodeR_any w9 a b HL.out.1 HL.out.2 (HR.out.below (Below.gr hbb5 (g6.trans h9)) hrl)) HN.out.1)) ?_
  try simp only [Act.put, List.setIfInBounds_toArray, List.set_cons_zero, List.set_cons_succ]
  refine wpAnyG_take 7 rfl (by kernel_rfl) (fun _ _ _ h => h) (YieldsG.pure (by rfl) (fun w9 _ => by go_simp; try with_reducible rfl)) ?_
  try simp only [Act.put, List.setIfInBounds_toArray, List.set_cons_zero, List.set_cons_succ]
  refine wpAnyG_take 8 rfl (by kernel_rfl) (fun _ _ _ h => h) (YieldsG.pure (by rfl) (fun w9 _ => by go_simp; try with_reducible rfl)) ?_
  try simp only [Act.put, List.setIfInBounds_toArray, List.set_cons_zero, List.set_cons_succ]
  refine wpAnyG_take 9 rfl (by kernel_rfl) (fun _ _ _ h => h) (YieldsG.pure (by rfl) (fun w9 _ => by go_simp; try with_reducible rfl)) ?_
  try simp only [Act.put, List.setIfInBounds_toArray, List.set_cons_zero, List.set_cons_succ]
  refine wpAnyG_take 10 rfl (by kernel_rfl) (fun _ _ _ h => h) (YieldsG.pure (by rfl) (fun w9 _ => by go_simp; try with_reducible rfl)) ?_
  try simp only [Act.put, List.setIfInBounds_toArray, List.set_cons_zero, List.set_cons_succ]
  refine wpAnyG_take 11 rfl (by kernel_rfl) (fun _ _ _ h => h) (YieldsG.pure (by rfl) (fun w9 _ => by go_simp; try with_reducible rfl)) ?_
  try simp only [Act.put, List.setIfInBounds_toArray, List.set_cons_zero, List.set_cons_succ]
  refine wpAnyG_take 12 rfl (by kernel_rfl) (fun _ _ _ h => h) (YieldsG.pure (by rfl) (fun w9 _ => by go_simp; try with_reducible rfl)) ?_
  try simp only [Act.put, List.setIfInBounds_toArray, List.set_cons_zero, List.set_cons_succ]
  refine wpAnyG_take 13 rfl (by kernel_rfl) (fun _ _ _ h => h) (YieldsG.load (by rfl) _ _ rfl w.heap.size 0 rfl (a.map bv) _ lA6 hA6 hu rfl hia) ?_
  try simp only [Act.put, List.setIfInBounds_toArray, List.set_cons_zero, List.set_cons_succ]
  refine wpAnyG_sole 14 rfl (by kernel_rfl) (by rfl) (fun w7 h7 K hK => wp_build_elems Tryd.underlying43 infoDig (by omega) 1 _ rfl (dvals [a]) HE.out.2 rfl (by omega) (by decide) (by first | rfl | simp [dvals, Act.eval]) w7.heap.size rfl (hK _ _ (fun _ => gr_alloc _ _) ?_))
  clear hK K
  try simp only [Act.put, List.setIfInBounds_toArray, List.set_cons_zero, List.set_cons_succ]
  have g7 : Gr w5 (w7.alloc (.cells (dvals [a]).flatten.toArray 24)) := (g6.trans h7).trans (gr_alloc _ _)
  have hA7 := rangeAt_gr hA5 g7 lA5
  have hB7 := rangeAt_gr hB5 g7 lB5
  have lA7 := g7.lt lA5
  have lB7 := g7.lt lB5
  have HD7 := Lib.hid (ESrc.lit (w := w7) w7.heap.size rfl 24 HE.out.2).d
  refine wpAnyG_take 15 rfl (by kernel_rfl) (fun _ _ _ h => h) (YieldsG.call (v := .bool true) (by rfl) 38 _ (fun w9 => by go_simp; try (first | with_reducible rfl | rfl)) (fun w9 h9 => (same_any w9 A3 (some ⟨w7.heap.size, 0, none⟩) [a] [a] 1 1 c3 1 (HS5.out.below (g7.trans h9)) (HD7.out.below h9) rfl rfl (by omega) (by omega) hc5 (by omega)).mono (fun e w2 h => ⟨by simpa using h.1, h.2⟩))) ?_
  try simp only [Act.put, List.setIfInBounds_toArray, List.set_cons_zero, List.set_cons_succ]
  refine wpAnyG_take 16 rfl (by kernel_rfl) (fun _ _ _ h => h) (YieldsG.pure (by rfl) (fun w9 _ => by go_simp; try with_reducible rfl)) ?_
  try simp only [Act.put, List.setIfInBounds_toArray, List.set_cons_zero, List.set_cons_succ]
  refine wpAnyG_take 17 rfl (by kernel_rfl) (fun _ _ _ h => h) (YieldsG.pure (by rfl) (fun w9 _ => by go_simp; try with_reducible rfl)) ?_
  try simp only [Act.put, List.setIfInBounds_toArray, List.set_cons_zero, List.set_cons_succ]
  refine wpAnyG_take 18 rfl (by kernel_rfl) (fun _ _ _ h => h) (YieldsG.load (by rfl) _ _ rfl w.heap.size 0 rfl (a.map bv) _ lA7 hA7 hu rfl hia) ?_
  try simp only [Act.put, List.setIfInBounds_toArray, List.set_cons_zero, List.set_cons_succ]
  refine wpAnyG_take 19 rfl (by kernel_rfl) (fun _ _ _ h => h) (YieldsG.load (by rfl) _ _ rfl (w.heap.size + 1) 0 rfl (b.map bv) _ lB7 hB7 hu rfl hib) ?_
  try simp only [Act.put, List.setIfInBounds_toArray, List.set_cons_zero, List.set_cons_succ]
  refine wpAnyG_take 20 rfl (by kernel_rfl) (fun _ _ _ h => h) (YieldsG.call (v := .agg (N.map bv).toArray) (by rfl) 30 _ (fun w9 => by go_simp; try (first | with_reducible rfl | rfl)) (fun w9 h9 => calls_dv (nodeR_any w9 a b HL.out.1 HL.out.2 (HR.out.below (Below.gr hbb5 (g7.trans h9)) hrl)) HN.out.1)) ?_
  try simp only [Act.put, List.setIfInBounds_toArray, List.set_cons_zero, List.set_cons_succ]
  refine wpAnyG_take 21 rfl (by kernel_rfl) (fun _ _ _ h => h) (YieldsG.load (by rfl) _ _ rfl (w.heap.size + 1) 0 rfl (b.map bv) _ lB7 hB7 hu rfl hib) ?_
  try simp only [Act.put, List.setIfInBounds_toArray, List.set_cons_zero, List.set_cons_succ]
  refine wpAnyG_take 22 rfl (by kernel_rfl) (fun _ _ _ h => h) (YieldsG.pure (by rfl) (fun w9 _ => by go_simp; try with_reducible rfl)) ?_
  try simp only [Act.put, List.setIfInBounds_toArray, List.set_cons_zero, List.set_cons_succ]
  refine wpAnyG_take 23 rfl (by kernel_rfl) (fun _ _ _ h => h) (YieldsG.call (v := .bool true) (by rfl) 39 _ (fun w9 => by go_simp; try (first | with_reducible rfl | rfl)) (fun w9 h9 => HCH.out ▸ check_any w9 N b A3 [a] 1 2 1 c3 HN.out.2.1 HL.out.2 (by omega) (by omega) rfl (HS5.out.below (g7.trans h9)) hc5 (HC.out.below (Below.gr hbb5 (g7.trans h9)) htl))) ?_
  try simp only [Act.put, List.setIfInBounds_toArray, List.set_cons_zero, List.set_cons_succ]
  refine wpAnyG_take 24 rfl (by kernel_rfl) (fun _ _ _ h => h) (YieldsG.pure (by rfl) (fun w9 _ => by go_simp; try with_reducible rfl)) ?_
  try simp only [Act.put, List.setIfInBounds_toArray, List.set_cons_zero, List.set_cons_succ]
  refine wpAnyG_take 25 rfl (by kernel_rfl) (fun _ _ _ h => h) (YieldsG.pure (by rfl) (fun w9 _ => by go_simp; try with_reducible rfl)) ?_
  try simp only [Act.put, List.setIfInBounds_toArray, List.set_cons_zero, List.set_cons_succ]
  refine wpAnyG_take 26 rfl (by kernel_rfl) (fun _ _ _ h => h) (YieldsG.call (v := .agg (M.map bv).toArray) (by rfl) 34 _ (fun w9 => by go_simp; try (first | with_reducible rfl | rfl)) (fun w9 h9 => calls_dv (leaf_any w9 none [] 0 (fun h => absurd rfl h) (by simp) (by omega) (by simp) (HC.out.below (Below.gr hbb5 (g7.trans h9)) htl)) HN.out.2.2)) ?_
  try simp only [Act.put, List.setIfInBounds_toArray, List.set_cons_zero, List.set_cons_succ]
  refine wpAnyG_take 27 rfl (by kernel_rfl) (fun _ _ _ h => h) (YieldsG.call (v := .agg (M.map bv).toArray) (by rfl) 35 _ (fun w9 => by go_simp; try (first | with_reducible rfl | rfl)) (fun w9 h9 => calls_dv (leafR_any w9 none [] 0 (fun h => absurd rfl h) (by simp) (by omega) (by simp) (HR.out.below (Below.gr hbb5 (g7.trans h9)) hrl)) HN.out.2.2)) ?_
  try simp only [Act.put, List.setIfInBounds_toArray, List.set_cons_zero, List.set_cons_succ]
  refine wpAnyG_take 28 rfl (by kernel_rfl) (fun _ _ _ h => h) (YieldsG.pure (by rfl) (fun w9 _ => by go_simp; try with_reducible rfl)) ?_
  try simp only [Act.put, List.setIfInBounds_toArray, List.set_cons_zero, List.set_cons_succ]
  refine wpAnyG_take 29 rfl (by kernel_rfl) (fun _ _ _ h => h) (YieldsG.pure (by rfl) (fun w9 _ => by go_simp; try with_reducible rfl)) ?_
  try simp only [Act.put, List.setIfInBounds_toArray, List.set_cons_zero, List.set_cons_succ]
  refine wpAnyG_take 30 rfl (by kernel_rfl) (fun _ _ _ h => h) (YieldsG.pure (by rfl) (fun w9 _ => by go_simp; try with_reducible rfl)) ?_
  try simp only [Act.put, List.setIfInBounds_toArray, List.set_cons_zero, List.set_cons_succ]
  refine wpAnyG_done (by kernel_rfl) (fun w8 h8 => ?_)
  go_wp2
  go_ret
  exact ⟨rfl, Below.gr hbb5 (g7.trans h8)⟩
end Go.Proofs.YtimnpakmifjgoaaDoor
