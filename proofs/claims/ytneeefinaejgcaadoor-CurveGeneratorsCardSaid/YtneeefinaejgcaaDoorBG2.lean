/-
  Texts of ours, put together: FeRuns, FeEq, FeSqrt, FeInv, Crv, NumEq, Pnt, CrvA, CrvB, RefNum.
-/
import Derived.Test.YtneeefinaejgcaaDoorBG1
set_option linter.unusedVariables false
set_option linter.unusedSimpArgs false
section
namespace Go.Proofs.YtneeefinaejgcaaDoor
open Go.RowKit Go.Lib

theorem res_three_cells {P : Program} {fn : Func} {p q r : Tmp} {ty : TypeId} (h : fn.results = #[.cell p ty, .cell q ty, .cell r ty]) (tmps : Array Value) (w : World) (g g2 g3 : Nat) (t t2 t3 : TypeId) (cs cs2 cs3 : Array Value) (d : TypeDesc)
    (hp : tmps.getD p undef = .pointer (some ⟨g, 0, none⟩)) (hg : Blk w g t cs) (hq : tmps.getD q undef = .pointer (some ⟨g2, 0, none⟩)) (hg2 : Blk w g2 t2 cs2) (hr : tmps.getD r undef = .pointer (some ⟨g3, 0, none⟩)) (hg3 : Blk w g3 t3 cs3)
    (hu : P.underlying ty = some d) (hd : (match d with | .struct _ | .array _ _ => true | _ => false) = true) (hi : (P.info? ty).map (·.size) = some cs.size) (hi2 : (P.info? ty).map (·.size) = some cs2.size) (hi3 : (P.info? ty).map (·.size) = some cs3.size) :
    (results fn tmps).run P w = .ok (.tuple #[.agg cs, .agg cs2, .agg cs3]) w := by
  have hp' : tmps[p]?.getD undef = .pointer (some ⟨g, 0, none⟩) := by simpa using hp
  have hq' : tmps[q]?.getD undef = .pointer (some ⟨g2, 0, none⟩) := by simpa using hq
  have hr' : tmps[r]?.getD undef = .pointer (some ⟨g3, 0, none⟩) := by simpa using hr
  simp [results, h, hp', hq', hr', asAddr, run_loadVar_row w g t ty cs (0, 0) d hg hu hd hi, run_loadVar_row w g2 t2 ty cs2 (0, 0) d hg2 hu hd hi2, run_loadVar_row w g3 t3 ty cs3 (0, 0) d hg3 hu hd hi3, Result.andThen]

set_option maxHeartbeats 1000000 in
set_option maxRecDepth 100000 in
theorem join_any (w : World) (x d y : Nat) (hx : x < 115792089237316195423570985008687907853269984665640564039457584007913129639936) (hy : y < 115792089237316195423570985008687907853269984665640564039457584007913129639936) (hd : d ≤ 1000) : Calls Tryd.prog 100 #[fv x, .int .i64 (d : Int), fv y] w fun e w' => e = .returned (fv (jn x d y)) ∧ Below w.heap.size w w' := by
  obtain ⟨s, hs⟩ : ∃ s, s = sqI x d := ⟨_, rfl⟩
  obtain ⟨z, hz⟩ : ∃ z, z = mulP s y := ⟨_, rfl⟩
  have hsl : s < 115792089237316195423570985008687907853269984665640564039457584007913129639936 := by rw [hs]; exact sqI_lt x d hx
  have HZ := Lib.hid (And.intro hs (And.intro hz (And.intro hsl (And.intro hx (And.intro hy hd)))))
  rw [show jn x d y = z by rw [hz, hs]; rfl]
  obtain ⟨x0, x1, x2, x3, fx⟩ := words_fv x hx
  obtain ⟨y0, y1, y2, y3, fy⟩ := words_fv y hy
  have FX := Lib.hid fx
  have FY := Lib.hid fy
  rw [fx, fy]
  clear fx fy hx hy hs hz hsl hd
  go_enter Tryd.func100, Tryd.ntmps100
  go_wp2
  refine wp_region_G (fun j => j == 5) (by kernel_rfl) ?_
  try simp only [Act.put]
  refine wpAnyG_take 0 rfl (by kernel_rfl) (fun _ _ _ h => h) (YieldsG.loadF (by rfl) _ _ rfl (w.heap.size) rfl (x) _ _ (((Blk.new w _ _).alloc _).alloc _) (FX.out) Tryd.underlying26 rfl (by kernel_rfl)) ?_
  try simp only [Act.put, List.setIfInBounds_toArray, List.set_cons_zero, List.set_cons_succ]
  refine wpAnyG_take 1 rfl (by kernel_rfl) (fun _ _ _ h => h) (YieldsG.pure (by rfl) (fun w9 _ => by go_simp; try with_reducible rfl)) ?_
  try simp only [Act.put, List.setIfInBounds_toArray, List.set_cons_zero, List.set_cons_succ]
  refine wpAnyG_take 2 rfl (by kernel_rfl) (fun _ _ _ h => h) (YieldsG.call (v := fv s) (by rfl) 101 _ (fun w9 => by go_simp; try (first | with_reducible rfl | rfl)) (fun w9 h9 => HZ.out.1 ▸ square_any w9 x d HZ.out.2.2.2.1 HZ.out.2.2.2.2.2)) ?_
  try simp only [Act.put, List.setIfInBounds_toArray, List.set_cons_zero, List.set_cons_succ]
  refine wpAnyG_take 3 rfl (by kernel_rfl) (fun _ _ _ h => h) (YieldsG.loadF (by rfl) _ _ rfl (w.heap.size + 1) rfl (y) _ _ ((blk_new2 w _ _ _).alloc _) (FY.out) Tryd.underlying26 rfl (by kernel_rfl)) ?_
  try simp only [Act.put, List.setIfInBounds_toArray, List.set_cons_zero, List.set_cons_succ]
  refine wpAnyG_take 4 rfl (by kernel_rfl) (fun _ _ _ h => h) (YieldsG.call (v := fv z) (by rfl) 24 _ (fun w9 => by go_simp; try (first | with_reducible rfl | rfl)) (fun w9 h9 => HZ.out.2.1 ▸ mulF_any w9 s y HZ.out.2.2.1 HZ.out.2.2.2.2.1)) ?_
  try simp only [Act.put, List.setIfInBounds_toArray, List.set_cons_zero, List.set_cons_succ]
  refine wpAnyG_store 5 rfl (by kernel_rfl) (by rfl) _ _ _ rfl (w.heap.size + 2) (fcs (z)) rfl rfl _ _ (blk_new3 w _ _ _ _) (by kernel_rfl) (by rfl) (fcs_one _) rfl (fun w6 h6 w7 hB7 hL7 => ?_)
  try simp only [Act.put]
  refine wpAnyG_done (by kernel_rfl) (fun w8 h8 => ?_)
  have hfin := Gr.blk h8 hL7
  have hb9 := (Below.gr (below_alloc3 w _ _ _) h6).trans ((hB7 _ (by omega)).trans (Below.mono h8 (by have := hL7.lt; omega)))
  go_wp2
  exact bodyPost_ret (results_cell_row rfl _ _ (w.heap.size + 2) _ _ (0, 0) _ rfl hfin Tryd.underlying26 rfl (by kernel_rfl)) rfl ⟨rfl, hb9⟩
theorem join_at (w : World) (x d y z : Nat) (di : Int) (hdi : di = (d : Int)) (hz : z = jn x d y) (hx : x < 115792089237316195423570985008687907853269984665640564039457584007913129639936) (hy : y < 115792089237316195423570985008687907853269984665640564039457584007913129639936) (hd : d ≤ 1000) : Calls Tryd.prog 100 #[fv x, .int .i64 di, fv y] w fun e w' => e = .returned (fv z) ∧ Below w.heap.size w w' := by
  subst hdi hz
  exact join_any w x d y hx hy hd

theorem pow_self (x : Nat) : x % pM = x ^ 1 % pM := by rw [Nat.pow_one]
def rTwo (x : Nat) : Nat := jn x 1 x
theorem rTwo_lt (x : Nat) : rTwo x < 115792089237316195423570985008687907853269984665640564039457584007913129639936 := jn_lt _ _ _
def eTwo : Nat := 1 * 2 ^ 1 + 1
theorem rTwo_pow (x : Nat) : rTwo x % pM = x ^ eTwo % pM := by
  unfold rTwo eTwo
  exact jn_pow (pow_self x) (pow_self x)
def rThree (x : Nat) : Nat := jn (rTwo x) 1 x
theorem rThree_lt (x : Nat) : rThree x < 115792089237316195423570985008687907853269984665640564039457584007913129639936 := jn_lt _ _ _
def eThree : Nat := eTwo * 2 ^ 1 + 1
theorem rThree_pow (x : Nat) : rThree x % pM = x ^ eThree % pM := by
  unfold rThree eThree
  exact jn_pow (rTwo_pow x) (pow_self x)
def rSix (x : Nat) : Nat := jn (rThree x) 3 (rThree x)
theorem rSix_lt (x : Nat) : rSix x < 115792089237316195423570985008687907853269984665640564039457584007913129639936 := jn_lt _ _ _
def eSix : Nat := eThree * 2 ^ 3 + eThree
theorem rSix_pow (x : Nat) : rSix x % pM = x ^ eSix % pM := by
  unfold rSix eSix
  exact jn_pow (rThree_pow x) (rThree_pow x)
def rNine (x : Nat) : Nat := jn (rSix x) 3 (rThree x)
theorem rNine_lt (x : Nat) : rNine x < 115792089237316195423570985008687907853269984665640564039457584007913129639936 := jn_lt _ _ _
def eNine : Nat := eSix * 2 ^ 3 + eThree
theorem rNine_pow (x : Nat) : rNine x % pM = x ^ eNine % pM := by
  unfold rNine eNine
  exact jn_pow (rSix_pow x) (rThree_pow x)
def rEleven (x : Nat) : Nat := jn (rNine x) 2 (rTwo x)
theorem rEleven_lt (x : Nat) : rEleven x < 115792089237316195423570985008687907853269984665640564039457584007913129639936 := jn_lt _ _ _
def eEleven : Nat := eNine * 2 ^ 2 + eTwo
theorem rEleven_pow (x : Nat) : rEleven x % pM = x ^ eEleven % pM := by
  unfold rEleven eEleven
  exact jn_pow (rNine_pow x) (rTwo_pow x)
def rSome (x : Nat) : Nat := jn (rEleven x) 11 (rEleven x)
theorem rSome_lt (x : Nat) : rSome x < 115792089237316195423570985008687907853269984665640564039457584007913129639936 := jn_lt _ _ _
def eSome : Nat := eEleven * 2 ^ 11 + eEleven
theorem rSome_pow (x : Nat) : rSome x % pM = x ^ eSome % pM := by
  unfold rSome eSome
  exact jn_pow (rEleven_pow x) (rEleven_pow x)
def rDbl (x : Nat) : Nat := jn (rSome x) 22 (rSome x)
theorem rDbl_lt (x : Nat) : rDbl x < 115792089237316195423570985008687907853269984665640564039457584007913129639936 := jn_lt _ _ _
def eDbl : Nat := eSome * 2 ^ 22 + eSome
theorem rDbl_pow (x : Nat) : rDbl x % pM = x ^ eDbl % pM := by
  unfold rDbl eDbl
  exact jn_pow (rSome_pow x) (rSome_pow x)
def rM1 (x : Nat) : Nat := jn (rDbl x) 44 (rDbl x)
theorem rM1_lt (x : Nat) : rM1 x < 115792089237316195423570985008687907853269984665640564039457584007913129639936 := jn_lt _ _ _
def eM1 : Nat := eDbl * 2 ^ 44 + eDbl
theorem rM1_pow (x : Nat) : rM1 x % pM = x ^ eM1 % pM := by
  unfold rM1 eM1
  exact jn_pow (rDbl_pow x) (rDbl_pow x)
def rM2 (x : Nat) : Nat := jn (rM1 x) 88 (rM1 x)
theorem rM2_lt (x : Nat) : rM2 x < 115792089237316195423570985008687907853269984665640564039457584007913129639936 := jn_lt _ _ _
def eM2 : Nat := eM1 * 2 ^ 88 + eM1
theorem rM2_pow (x : Nat) : rM2 x % pM = x ^ eM2 % pM := by
  unfold rM2 eM2
  exact jn_pow (rM1_pow x) (rM1_pow x)
def rM3 (x : Nat) : Nat := jn (rM2 x) 44 (rDbl x)
theorem rM3_lt (x : Nat) : rM3 x < 115792089237316195423570985008687907853269984665640564039457584007913129639936 := jn_lt _ _ _
def eM3 : Nat := eM2 * 2 ^ 44 + eDbl
theorem rM3_pow (x : Nat) : rM3 x % pM = x ^ eM3 % pM := by
  unfold rM3 eM3
  exact jn_pow (rM2_pow x) (rDbl_pow x)
def rMost (x : Nat) : Nat := jn (rM3 x) 3 (rThree x)
theorem rMost_lt (x : Nat) : rMost x < 115792089237316195423570985008687907853269984665640564039457584007913129639936 := jn_lt _ _ _
def eMost : Nat := eM3 * 2 ^ 3 + eThree
theorem rMost_pow (x : Nat) : rMost x % pM = x ^ eMost % pM := by
  unfold rMost eMost
  exact jn_pow (rM3_pow x) (rThree_pow x)

set_option maxHeartbeats 4000000 in
set_option maxRecDepth 100000 in
theorem runs_any (w : World) (x : Nat) (hx : x < 115792089237316195423570985008687907853269984665640564039457584007913129639936) : Calls Tryd.prog 99 #[fv x] w fun e w' => e = .returned (.tuple #[fv (rTwo x), fv (rSome x), fv (rMost x)]) ∧ Below w.heap.size w w' := by
  obtain ⟨ztwo, hztwo⟩ : ∃ z, z = rTwo x := ⟨_, rfl⟩
  obtain ⟨zthree, hzthree⟩ : ∃ z, z = rThree x := ⟨_, rfl⟩
  obtain ⟨zsix, hzsix⟩ : ∃ z, z = rSix x := ⟨_, rfl⟩
  obtain ⟨znine, hznine⟩ : ∃ z, z = rNine x := ⟨_, rfl⟩
  obtain ⟨zeleven, hzeleven⟩ : ∃ z, z = rEleven x := ⟨_, rfl⟩
  obtain ⟨zsome, hzsome⟩ : ∃ z, z = rSome x := ⟨_, rfl⟩
  obtain ⟨zdbl, hzdbl⟩ : ∃ z, z = rDbl x := ⟨_, rfl⟩
  obtain ⟨zm1, hzm1⟩ : ∃ z, z = rM1 x := ⟨_, rfl⟩
  obtain ⟨zm2, hzm2⟩ : ∃ z, z = rM2 x := ⟨_, rfl⟩
  obtain ⟨zm3, hzm3⟩ : ∃ z, z = rM3 x := ⟨_, rfl⟩
  obtain ⟨zmost, hzmost⟩ : ∃ z, z = rMost x := ⟨_, rfl⟩
  rw [← hztwo, ← hzsome, ← hzmost]
  have HX := Lib.hid hx
  have HZtwo : Hid (ztwo = jn x 1 x ∧ ztwo < 115792089237316195423570985008687907853269984665640564039457584007913129639936) := Lib.hid ⟨by rw [hztwo]; rfl, by rw [hztwo]; exact rTwo_lt x⟩
  have HZthree : Hid (zthree = jn ztwo 1 x ∧ zthree < 115792089237316195423570985008687907853269984665640564039457584007913129639936) := Lib.hid ⟨by rw [hzthree, hztwo]; rfl, by rw [hzthree]; exact rThree_lt x⟩
  have HZsix : Hid (zsix = jn zthree 3 zthree ∧ zsix < 115792089237316195423570985008687907853269984665640564039457584007913129639936) := Lib.hid ⟨by rw [hzsix, hzthree]; rfl, by rw [hzsix]; exact rSix_lt x⟩
  have HZnine : Hid (znine = jn zsix 3 zthree ∧ znine < 115792089237316195423570985008687907853269984665640564039457584007913129639936) := Lib.hid ⟨by rw [hznine, hzsix, hzthree]; rfl, by rw [hznine]; exact rNine_lt x⟩
  have HZeleven : Hid (zeleven = jn znine 2 ztwo ∧ zeleven < 115792089237316195423570985008687907853269984665640564039457584007913129639936) := Lib.hid ⟨by rw [hzeleven, hznine, hztwo]; rfl, by rw [hzeleven]; exact rEleven_lt x⟩
  have HZsome : Hid (zsome = jn zeleven 11 zeleven ∧ zsome < 115792089237316195423570985008687907853269984665640564039457584007913129639936) := Lib.hid ⟨by rw [hzsome, hzeleven]; rfl, by rw [hzsome]; exact rSome_lt x⟩
  have HZdbl : Hid (zdbl = jn zsome 22 zsome ∧ zdbl < 115792089237316195423570985008687907853269984665640564039457584007913129639936) := Lib.hid ⟨by rw [hzdbl, hzsome]; rfl, by rw [hzdbl]; exact rDbl_lt x⟩
  have HZm1 : Hid (zm1 = jn zdbl 44 zdbl ∧ zm1 < 115792089237316195423570985008687907853269984665640564039457584007913129639936) := Lib.hid ⟨by rw [hzm1, hzdbl]; rfl, by rw [hzm1]; exact rM1_lt x⟩
  have HZm2 : Hid (zm2 = jn zm1 88 zm1 ∧ zm2 < 115792089237316195423570985008687907853269984665640564039457584007913129639936) := Lib.hid ⟨by rw [hzm2, hzm1]; rfl, by rw [hzm2]; exact rM2_lt x⟩
  have HZm3 : Hid (zm3 = jn zm2 44 zdbl ∧ zm3 < 115792089237316195423570985008687907853269984665640564039457584007913129639936) := Lib.hid ⟨by rw [hzm3, hzm2, hzdbl]; rfl, by rw [hzm3]; exact rM3_lt x⟩
  have HZmost : Hid (zmost = jn zm3 3 zthree ∧ zmost < 115792089237316195423570985008687907853269984665640564039457584007913129639936) := Lib.hid ⟨by rw [hzmost, hzm3, hzthree]; rfl, by rw [hzmost]; exact rMost_lt x⟩
  clear hztwo hzthree hzsix hznine hzeleven hzsome hzdbl hzm1 hzm2 hzm3 hzmost
  obtain ⟨x0, x1, x2, x3, fx⟩ := words_fv x hx
  have FX := Lib.hid fx
  rw [fx]
  clear fx hx
  go_enter Tryd.func99, Tryd.ntmps99
  go_wp2_with (first | ((with_reducible refine here_load (d := some 10) ?_); refine wpList_load_fv rfl _ _ rfl (w.heap.size) rfl (x) _ _ _ (Blk.eq_ ((((Blk.new w _ _).alloc _).alloc _).alloc _) (fcs_words FX.out).symm) (fv_fcs (x)) Tryd.underlying26 rfl (by kernel_rfl) ?_) | ((with_reducible refine here_load (d := some 11) ?_); refine wpList_load_fv rfl _ _ rfl (w.heap.size) rfl (x) _ _ _ (Blk.eq_ ((((Blk.new w _ _).alloc _).alloc _).alloc _) (fcs_words FX.out).symm) (fv_fcs (x)) Tryd.underlying26 rfl (by kernel_rfl) ?_))
  refine (join_at _ x 1 x ztwo 1 rfl HZtwo.out.1 HX.out HX.out (by omega)).mono ?_
  rintro e w10 ⟨rfl, hb⟩
  have B0_a : Blk w10 (w.heap.size) 26 _ := Gr.blk hb (Blk.eq_ ((((Blk.new w _ _).alloc _).alloc _).alloc _) (fcs_words FX.out).symm)
  have l0_a := B0_a.lt
  have B0_t2 : Blk w10 (w.heap.size + 1) 26 _ := Gr.blk hb (((blk_new2 w _ _ _).alloc _).alloc _)
  have l0_t2 := B0_t2.lt
  have B0_t3 : Blk w10 (w.heap.size + 2) 26 _ := Gr.blk hb ((blk_new3 w _ _ _ _).alloc _)
  have l0_t3 := B0_t3.lt
  have B0_t4 : Blk w10 (w.heap.size + 3) 26 _ := Gr.blk hb (blk_new4 w _ _ _ _ _)
  have l0_t4 := B0_t4.lt
  have hB0 := Below.gr ((below_alloc3 w _ _ _).alloc (by simp <;> omega) _) hb
  have sz0 := hB0.size
  clear hb
  go_wp2_with (first | ((with_reducible refine here_store ?_); refine wpList_store_blk rfl _ _ _ rfl (w.heap.size + 1) (fcs (ztwo)) rfl rfl _ _ (B0_t2) (by kernel_rfl) (by rfl) (fcs_one _) ?_; intro v11 hL1 hq1 hK1; have C1_a := hK1 _ (by omega) _ _ (B0_a); have C1_t3 := hK1 _ (by omega) _ _ (B0_t3); have C1_t4 := hK1 _ (by omega) _ _ (B0_t4); have hC1 := (hB0).trans (hq1 _ (by omega))) | ((with_reducible refine here_load (d := some 13) ?_); refine wpList_load_fv rfl _ _ rfl (w.heap.size + 1) rfl (ztwo) _ _ _ (hL1) (fv_fcs (ztwo)) Tryd.underlying26 rfl (by kernel_rfl) ?_) | ((with_reducible refine here_load (d := some 14) ?_); refine wpList_load_fv rfl _ _ rfl (w.heap.size) rfl (x) _ _ _ (C1_a) (fv_fcs (x)) Tryd.underlying26 rfl (by kernel_rfl) ?_))
  refine (join_at _ ztwo 1 x zthree 1 rfl HZthree.out.1 HZtwo.out.2 HX.out (by omega)).mono ?_
  rintro e w11 ⟨rfl, hb⟩
  have B1_a : Blk w11 (w.heap.size) 26 _ := Gr.blk hb (C1_a)
  have l1_a := B1_a.lt
  have B1_t3 : Blk w11 (w.heap.size + 2) 26 _ := Gr.blk hb (C1_t3)
  have l1_t3 := B1_t3.lt
  have B1_t4 : Blk w11 (w.heap.size + 3) 26 _ := Gr.blk hb (C1_t4)
  have l1_t4 := B1_t4.lt
  have B1_t2 : Blk w11 (w.heap.size + 1) 26 _ := Gr.blk hb (hL1)
  have l1_t2 := B1_t2.lt
  have hB1 := Below.gr (hC1) hb
  have sz1 := hB1.size
  clear hb
  go_wp2_with (first | ((with_reducible refine here_store ?_); refine wpList_store_blk rfl _ _ _ rfl (w11.heap.size) (fcs (zthree)) rfl rfl _ _ (Blk.new w11 _ _) (by kernel_rfl) (by rfl) (fcs_one _) ?_; intro v12 hL2 hq2 hK2; have C2_a := hK2 _ (by omega) _ _ ((B1_a).alloc _); have C2_t3 := hK2 _ (by omega) _ _ ((B1_t3).alloc _); have C2_t4 := hK2 _ (by omega) _ _ ((B1_t4).alloc _); have C2_t2 := hK2 _ (by omega) _ _ ((B1_t2).alloc _); have hC2 := (((hB1).alloc (by omega) _)).trans (hq2 _ (by omega))) | ((with_reducible refine here_load (d := some 16) ?_); refine wpList_load_fv rfl _ _ rfl (w11.heap.size) rfl (zthree) _ _ _ (hL2) (fv_fcs (zthree)) Tryd.underlying26 rfl (by kernel_rfl) ?_) | ((with_reducible refine here_load (d := some 17) ?_); refine wpList_load_fv rfl _ _ rfl (w11.heap.size) rfl (zthree) _ _ _ (hL2) (fv_fcs (zthree)) Tryd.underlying26 rfl (by kernel_rfl) ?_))
  refine (join_at _ zthree 3 zthree zsix 3 rfl HZsix.out.1 HZthree.out.2 HZthree.out.2 (by omega)).mono ?_
  rintro e w12 ⟨rfl, hb⟩
  have B2_a : Blk w12 (w.heap.size) 26 _ := Gr.blk hb (C2_a)
  have l2_a := B2_a.lt
  have B2_t3 : Blk w12 (w.heap.size + 2) 26 _ := Gr.blk hb (C2_t3)
  have l2_t3 := B2_t3.lt
  have B2_t4 : Blk w12 (w.heap.size + 3) 26 _ := Gr.blk hb (C2_t4)
  have l2_t4 := B2_t4.lt
  have B2_t2 : Blk w12 (w.heap.size + 1) 26 _ := Gr.blk hb (C2_t2)
  have l2_t2 := B2_t2.lt
  have B2_three : Blk w12 (w11.heap.size) 26 _ := Gr.blk hb (hL2)
  have l2_three := B2_three.lt
  have hB2 := Below.gr (hC2) hb
  have sz2 := hB2.size
  clear hb
  go_wp2_with (first | ((with_reducible refine here_store ?_); refine wpList_store_blk rfl _ _ _ rfl (w12.heap.size) (fcs (zsix)) rfl rfl _ _ (Blk.new w12 _ _) (by kernel_rfl) (by rfl) (fcs_one _) ?_; intro v13 hL3 hq3 hK3; have C3_a := hK3 _ (by omega) _ _ ((B2_a).alloc _); have C3_t3 := hK3 _ (by omega) _ _ ((B2_t3).alloc _); have C3_t4 := hK3 _ (by omega) _ _ ((B2_t4).alloc _); have C3_t2 := hK3 _ (by omega) _ _ ((B2_t2).alloc _); have C3_three := hK3 _ (by omega) _ _ ((B2_three).alloc _); have hC3 := (((hB2).alloc (by omega) _)).trans (hq3 _ (by omega))) | ((with_reducible refine here_load (d := some 19) ?_); refine wpList_load_fv rfl _ _ rfl (w12.heap.size) rfl (zsix) _ _ _ (hL3) (fv_fcs (zsix)) Tryd.underlying26 rfl (by kernel_rfl) ?_) | ((with_reducible refine here_load (d := some 20) ?_); refine wpList_load_fv rfl _ _ rfl (w11.heap.size) rfl (zthree) _ _ _ (C3_three) (fv_fcs (zthree)) Tryd.underlying26 rfl (by kernel_rfl) ?_))
  refine (join_at _ zsix 3 zthree znine 3 rfl HZnine.out.1 HZsix.out.2 HZthree.out.2 (by omega)).mono ?_
  rintro e w13 ⟨rfl, hb⟩
  have B3_a : Blk w13 (w.heap.size) 26 _ := Gr.blk hb (C3_a)
  have l3_a := B3_a.lt
  have B3_t3 : Blk w13 (w.heap.size + 2) 26 _ := Gr.blk hb (C3_t3)
  have l3_t3 := B3_t3.lt
  have B3_t4 : Blk w13 (w.heap.size + 3) 26 _ := Gr.blk hb (C3_t4)
  have l3_t4 := B3_t4.lt
  have B3_t2 : Blk w13 (w.heap.size + 1) 26 _ := Gr.blk hb (C3_t2)
  have l3_t2 := B3_t2.lt
  have B3_three : Blk w13 (w11.heap.size) 26 _ := Gr.blk hb (C3_three)
  have l3_three := B3_three.lt
  have B3_six : Blk w13 (w12.heap.size) 26 _ := Gr.blk hb (hL3)
  have l3_six := B3_six.lt
  have hB3 := Below.gr (hC3) hb
  have sz3 := hB3.size
  clear hb
  go_wp2_with (first | ((with_reducible refine here_store ?_); refine wpList_store_blk rfl _ _ _ rfl (w13.heap.size) (fcs (znine)) rfl rfl _ _ (Blk.new w13 _ _) (by kernel_rfl) (by rfl) (fcs_one _) ?_; intro v14 hL4 hq4 hK4; have C4_a := hK4 _ (by omega) _ _ ((B3_a).alloc _); have C4_t3 := hK4 _ (by omega) _ _ ((B3_t3).alloc _); have C4_t4 := hK4 _ (by omega) _ _ ((B3_t4).alloc _); have C4_t2 := hK4 _ (by omega) _ _ ((B3_t2).alloc _); have C4_three := hK4 _ (by omega) _ _ ((B3_three).alloc _); have C4_six := hK4 _ (by omega) _ _ ((B3_six).alloc _); have hC4 := (((hB3).alloc (by omega) _)).trans (hq4 _ (by omega))) | ((with_reducible refine here_load (d := some 22) ?_); refine wpList_load_fv rfl _ _ rfl (w13.heap.size) rfl (znine) _ _ _ (hL4) (fv_fcs (znine)) Tryd.underlying26 rfl (by kernel_rfl) ?_) | ((with_reducible refine here_load (d := some 23) ?_); refine wpList_load_fv rfl _ _ rfl (w.heap.size + 1) rfl (ztwo) _ _ _ (C4_t2) (fv_fcs (ztwo)) Tryd.underlying26 rfl (by kernel_rfl) ?_))
  refine (join_at _ znine 2 ztwo zeleven 2 rfl HZeleven.out.1 HZnine.out.2 HZtwo.out.2 (by omega)).mono ?_
  rintro e w14 ⟨rfl, hb⟩
  have B4_a : Blk w14 (w.heap.size) 26 _ := Gr.blk hb (C4_a)
  have l4_a := B4_a.lt
  have B4_t3 : Blk w14 (w.heap.size + 2) 26 _ := Gr.blk hb (C4_t3)
  have l4_t3 := B4_t3.lt
  have B4_t4 : Blk w14 (w.heap.size + 3) 26 _ := Gr.blk hb (C4_t4)
  have l4_t4 := B4_t4.lt
  have B4_t2 : Blk w14 (w.heap.size + 1) 26 _ := Gr.blk hb (C4_t2)
  have l4_t2 := B4_t2.lt
  have B4_three : Blk w14 (w11.heap.size) 26 _ := Gr.blk hb (C4_three)
  have l4_three := B4_three.lt
  have B4_six : Blk w14 (w12.heap.size) 26 _ := Gr.blk hb (C4_six)
  have l4_six := B4_six.lt
  have B4_nine : Blk w14 (w13.heap.size) 26 _ := Gr.blk hb (hL4)
  have l4_nine := B4_nine.lt
  have hB4 := Below.gr (hC4) hb
  have sz4 := hB4.size
  clear hb
  go_wp2_with (first | ((with_reducible refine here_store ?_); refine wpList_store_blk rfl _ _ _ rfl (w14.heap.size) (fcs (zeleven)) rfl rfl _ _ (Blk.new w14 _ _) (by kernel_rfl) (by rfl) (fcs_one _) ?_; intro v15 hL5 hq5 hK5; have C5_a := hK5 _ (by omega) _ _ ((B4_a).alloc _); have C5_t3 := hK5 _ (by omega) _ _ ((B4_t3).alloc _); have C5_t4 := hK5 _ (by omega) _ _ ((B4_t4).alloc _); have C5_t2 := hK5 _ (by omega) _ _ ((B4_t2).alloc _); have C5_three := hK5 _ (by omega) _ _ ((B4_three).alloc _); have C5_six := hK5 _ (by omega) _ _ ((B4_six).alloc _); have C5_nine := hK5 _ (by omega) _ _ ((B4_nine).alloc _); have hC5 := (((hB4).alloc (by omega) _)).trans (hq5 _ (by omega))) | ((with_reducible refine here_load (d := some 25) ?_); refine wpList_load_fv rfl _ _ rfl (w14.heap.size) rfl (zeleven) _ _ _ (hL5) (fv_fcs (zeleven)) Tryd.underlying26 rfl (by kernel_rfl) ?_) | ((with_reducible refine here_load (d := some 26) ?_); refine wpList_load_fv rfl _ _ rfl (w14.heap.size) rfl (zeleven) _ _ _ (hL5) (fv_fcs (zeleven)) Tryd.underlying26 rfl (by kernel_rfl) ?_))
  refine (join_at _ zeleven 11 zeleven zsome 11 rfl HZsome.out.1 HZeleven.out.2 HZeleven.out.2 (by omega)).mono ?_
  rintro e w15 ⟨rfl, hb⟩
  have B5_a : Blk w15 (w.heap.size) 26 _ := Gr.blk hb (C5_a)
  have l5_a := B5_a.lt
  have B5_t3 : Blk w15 (w.heap.size + 2) 26 _ := Gr.blk hb (C5_t3)
  have l5_t3 := B5_t3.lt
  have B5_t4 : Blk w15 (w.heap.size + 3) 26 _ := Gr.blk hb (C5_t4)
  have l5_t4 := B5_t4.lt
  have B5_t2 : Blk w15 (w.heap.size + 1) 26 _ := Gr.blk hb (C5_t2)
  have l5_t2 := B5_t2.lt
  have B5_three : Blk w15 (w11.heap.size) 26 _ := Gr.blk hb (C5_three)
  have l5_three := B5_three.lt
  have B5_six : Blk w15 (w12.heap.size) 26 _ := Gr.blk hb (C5_six)
  have l5_six := B5_six.lt
  have B5_nine : Blk w15 (w13.heap.size) 26 _ := Gr.blk hb (C5_nine)
  have l5_nine := B5_nine.lt
  have B5_eleven : Blk w15 (w14.heap.size) 26 _ := Gr.blk hb (hL5)
  have l5_eleven := B5_eleven.lt
  have hB5 := Below.gr (hC5) hb
  have sz5 := hB5.size
  clear hb
  go_wp2_with (first | ((with_reducible refine here_store ?_); refine wpList_store_blk rfl _ _ _ rfl (w.heap.size + 2) (fcs (zsome)) rfl rfl _ _ (B5_t3) (by kernel_rfl) (by rfl) (fcs_one _) ?_; intro v16 hL6 hq6 hK6; have C6_a := hK6 _ (by omega) _ _ (B5_a); have C6_t4 := hK6 _ (by omega) _ _ (B5_t4); have C6_t2 := hK6 _ (by omega) _ _ (B5_t2); have C6_three := hK6 _ (by omega) _ _ (B5_three); have C6_six := hK6 _ (by omega) _ _ (B5_six); have C6_nine := hK6 _ (by omega) _ _ (B5_nine); have C6_eleven := hK6 _ (by omega) _ _ (B5_eleven); have hC6 := (hB5).trans (hq6 _ (by omega))) | ((with_reducible refine here_load (d := some 28) ?_); refine wpList_load_fv rfl _ _ rfl (w.heap.size + 2) rfl (zsome) _ _ _ (hL6) (fv_fcs (zsome)) Tryd.underlying26 rfl (by kernel_rfl) ?_) | ((with_reducible refine here_load (d := some 29) ?_); refine wpList_load_fv rfl _ _ rfl (w.heap.size + 2) rfl (zsome) _ _ _ (hL6) (fv_fcs (zsome)) Tryd.underlying26 rfl (by kernel_rfl) ?_))
  refine (join_at _ zsome 22 zsome zdbl 22 rfl HZdbl.out.1 HZsome.out.2 HZsome.out.2 (by omega)).mono ?_
  rintro e w16 ⟨rfl, hb⟩
  have B6_a : Blk w16 (w.heap.size) 26 _ := Gr.blk hb (C6_a)
  have l6_a := B6_a.lt
  have B6_t4 : Blk w16 (w.heap.size + 3) 26 _ := Gr.blk hb (C6_t4)
  have l6_t4 := B6_t4.lt
  have B6_t2 : Blk w16 (w.heap.size + 1) 26 _ := Gr.blk hb (C6_t2)
  have l6_t2 := B6_t2.lt
  have B6_three : Blk w16 (w11.heap.size) 26 _ := Gr.blk hb (C6_three)
  have l6_three := B6_three.lt
  have B6_six : Blk w16 (w12.heap.size) 26 _ := Gr.blk hb (C6_six)
  have l6_six := B6_six.lt
  have B6_nine : Blk w16 (w13.heap.size) 26 _ := Gr.blk hb (C6_nine)
  have l6_nine := B6_nine.lt
  have B6_eleven : Blk w16 (w14.heap.size) 26 _ := Gr.blk hb (C6_eleven)
  have l6_eleven := B6_eleven.lt
  have B6_t3 : Blk w16 (w.heap.size + 2) 26 _ := Gr.blk hb (hL6)
  have l6_t3 := B6_t3.lt
  have hB6 := Below.gr (hC6) hb
  have sz6 := hB6.size
  clear hb
  go_wp2_with (first | ((with_reducible refine here_store ?_); refine wpList_store_blk rfl _ _ _ rfl (w16.heap.size) (fcs (zdbl)) rfl rfl _ _ (Blk.new w16 _ _) (by kernel_rfl) (by rfl) (fcs_one _) ?_; intro v17 hL7 hq7 hK7; have C7_a := hK7 _ (by omega) _ _ ((B6_a).alloc _); have C7_t4 := hK7 _ (by omega) _ _ ((B6_t4).alloc _); have C7_t2 := hK7 _ (by omega) _ _ ((B6_t2).alloc _); have C7_three := hK7 _ (by omega) _ _ ((B6_three).alloc _); have C7_six := hK7 _ (by omega) _ _ ((B6_six).alloc _); have C7_nine := hK7 _ (by omega) _ _ ((B6_nine).alloc _); have C7_eleven := hK7 _ (by omega) _ _ ((B6_eleven).alloc _); have C7_t3 := hK7 _ (by omega) _ _ ((B6_t3).alloc _); have hC7 := (((hB6).alloc (by omega) _)).trans (hq7 _ (by omega))) | ((with_reducible refine here_load (d := some 31) ?_); refine wpList_load_fv rfl _ _ rfl (w16.heap.size) rfl (zdbl) _ _ _ (hL7) (fv_fcs (zdbl)) Tryd.underlying26 rfl (by kernel_rfl) ?_) | ((with_reducible refine here_load (d := some 32) ?_); refine wpList_load_fv rfl _ _ rfl (w16.heap.size) rfl (zdbl) _ _ _ (hL7) (fv_fcs (zdbl)) Tryd.underlying26 rfl (by kernel_rfl) ?_))
  refine (join_at _ zdbl 44 zdbl zm1 44 rfl HZm1.out.1 HZdbl.out.2 HZdbl.out.2 (by omega)).mono ?_
  rintro e w17 ⟨rfl, hb⟩
  have B7_a : Blk w17 (w.heap.size) 26 _ := Gr.blk hb (C7_a)
  have l7_a := B7_a.lt
  have B7_t4 : Blk w17 (w.heap.size + 3) 26 _ := Gr.blk hb (C7_t4)
  have l7_t4 := B7_t4.lt
  have B7_t2 : Blk w17 (w.heap.size + 1) 26 _ := Gr.blk hb (C7_t2)
  have l7_t2 := B7_t2.lt
  have B7_three : Blk w17 (w11.heap.size) 26 _ := Gr.blk hb (C7_three)
  have l7_three := B7_three.lt
  have B7_six : Blk w17 (w12.heap.size) 26 _ := Gr.blk hb (C7_six)
  have l7_six := B7_six.lt
  have B7_nine : Blk w17 (w13.heap.size) 26 _ := Gr.blk hb (C7_nine)
  have l7_nine := B7_nine.lt
  have B7_eleven : Blk w17 (w14.heap.size) 26 _ := Gr.blk hb (C7_eleven)
  have l7_eleven := B7_eleven.lt
  have B7_t3 : Blk w17 (w.heap.size + 2) 26 _ := Gr.blk hb (C7_t3)
  have l7_t3 := B7_t3.lt
  have B7_dbl : Blk w17 (w16.heap.size) 26 _ := Gr.blk hb (hL7)
  have l7_dbl := B7_dbl.lt
  have hB7 := Below.gr (hC7) hb
  have sz7 := hB7.size
  clear hb
  go_wp2_with (first | ((with_reducible refine here_store ?_); refine wpList_store_blk rfl _ _ _ rfl (w.heap.size + 3) (fcs (zm1)) rfl rfl _ _ (B7_t4) (by kernel_rfl) (by rfl) (fcs_one _) ?_; intro v18 hL8 hq8 hK8; have C8_a := hK8 _ (by omega) _ _ (B7_a); have C8_t2 := hK8 _ (by omega) _ _ (B7_t2); have C8_three := hK8 _ (by omega) _ _ (B7_three); have C8_six := hK8 _ (by omega) _ _ (B7_six); have C8_nine := hK8 _ (by omega) _ _ (B7_nine); have C8_eleven := hK8 _ (by omega) _ _ (B7_eleven); have C8_t3 := hK8 _ (by omega) _ _ (B7_t3); have C8_dbl := hK8 _ (by omega) _ _ (B7_dbl); have hC8 := (hB7).trans (hq8 _ (by omega))) | ((with_reducible refine here_load (d := some 34) ?_); refine wpList_load_fv rfl _ _ rfl (w.heap.size + 3) rfl (zm1) _ _ _ (hL8) (fv_fcs (zm1)) Tryd.underlying26 rfl (by kernel_rfl) ?_) | ((with_reducible refine here_load (d := some 35) ?_); refine wpList_load_fv rfl _ _ rfl (w.heap.size + 3) rfl (zm1) _ _ _ (hL8) (fv_fcs (zm1)) Tryd.underlying26 rfl (by kernel_rfl) ?_))
  refine (join_at _ zm1 88 zm1 zm2 88 rfl HZm2.out.1 HZm1.out.2 HZm1.out.2 (by omega)).mono ?_
  rintro e w18 ⟨rfl, hb⟩
  have B8_a : Blk w18 (w.heap.size) 26 _ := Gr.blk hb (C8_a)
  have l8_a := B8_a.lt
  have B8_t2 : Blk w18 (w.heap.size + 1) 26 _ := Gr.blk hb (C8_t2)
  have l8_t2 := B8_t2.lt
  have B8_three : Blk w18 (w11.heap.size) 26 _ := Gr.blk hb (C8_three)
  have l8_three := B8_three.lt
  have B8_six : Blk w18 (w12.heap.size) 26 _ := Gr.blk hb (C8_six)
  have l8_six := B8_six.lt
  have B8_nine : Blk w18 (w13.heap.size) 26 _ := Gr.blk hb (C8_nine)
  have l8_nine := B8_nine.lt
  have B8_eleven : Blk w18 (w14.heap.size) 26 _ := Gr.blk hb (C8_eleven)
  have l8_eleven := B8_eleven.lt
  have B8_t3 : Blk w18 (w.heap.size + 2) 26 _ := Gr.blk hb (C8_t3)
  have l8_t3 := B8_t3.lt
  have B8_dbl : Blk w18 (w16.heap.size) 26 _ := Gr.blk hb (C8_dbl)
  have l8_dbl := B8_dbl.lt
  have B8_t4 : Blk w18 (w.heap.size + 3) 26 _ := Gr.blk hb (hL8)
  have l8_t4 := B8_t4.lt
  have hB8 := Below.gr (hC8) hb
  have sz8 := hB8.size
  clear hb
  go_wp2_with (first | ((with_reducible refine here_store ?_); refine wpList_store_blk rfl _ _ _ rfl (w.heap.size + 3) (fcs (zm2)) rfl rfl _ _ (B8_t4) (by kernel_rfl) (by rfl) (fcs_one _) ?_; intro v19 hL9 hq9 hK9; have C9_a := hK9 _ (by omega) _ _ (B8_a); have C9_t2 := hK9 _ (by omega) _ _ (B8_t2); have C9_three := hK9 _ (by omega) _ _ (B8_three); have C9_six := hK9 _ (by omega) _ _ (B8_six); have C9_nine := hK9 _ (by omega) _ _ (B8_nine); have C9_eleven := hK9 _ (by omega) _ _ (B8_eleven); have C9_t3 := hK9 _ (by omega) _ _ (B8_t3); have C9_dbl := hK9 _ (by omega) _ _ (B8_dbl); have hC9 := (hB8).trans (hq9 _ (by omega))) | ((with_reducible refine here_load (d := some 37) ?_); refine wpList_load_fv rfl _ _ rfl (w.heap.size + 3) rfl (zm2) _ _ _ (hL9) (fv_fcs (zm2)) Tryd.underlying26 rfl (by kernel_rfl) ?_) | ((with_reducible refine here_load (d := some 38) ?_); refine wpList_load_fv rfl _ _ rfl (w16.heap.size) rfl (zdbl) _ _ _ (C9_dbl) (fv_fcs (zdbl)) Tryd.underlying26 rfl (by kernel_rfl) ?_))
  refine (join_at _ zm2 44 zdbl zm3 44 rfl HZm3.out.1 HZm2.out.2 HZdbl.out.2 (by omega)).mono ?_
  rintro e w19 ⟨rfl, hb⟩
  have B9_a : Blk w19 (w.heap.size) 26 _ := Gr.blk hb (C9_a)
  have l9_a := B9_a.lt
  have B9_t2 : Blk w19 (w.heap.size + 1) 26 _ := Gr.blk hb (C9_t2)
  have l9_t2 := B9_t2.lt
  have B9_three : Blk w19 (w11.heap.size) 26 _ := Gr.blk hb (C9_three)
  have l9_three := B9_three.lt
  have B9_six : Blk w19 (w12.heap.size) 26 _ := Gr.blk hb (C9_six)
  have l9_six := B9_six.lt
  have B9_nine : Blk w19 (w13.heap.size) 26 _ := Gr.blk hb (C9_nine)
  have l9_nine := B9_nine.lt
  have B9_eleven : Blk w19 (w14.heap.size) 26 _ := Gr.blk hb (C9_eleven)
  have l9_eleven := B9_eleven.lt
  have B9_t3 : Blk w19 (w.heap.size + 2) 26 _ := Gr.blk hb (C9_t3)
  have l9_t3 := B9_t3.lt
  have B9_dbl : Blk w19 (w16.heap.size) 26 _ := Gr.blk hb (C9_dbl)
  have l9_dbl := B9_dbl.lt
  have B9_t4 : Blk w19 (w.heap.size + 3) 26 _ := Gr.blk hb (hL9)
  have l9_t4 := B9_t4.lt
  have hB9 := Below.gr (hC9) hb
  have sz9 := hB9.size
  clear hb
  go_wp2_with (first | ((with_reducible refine here_store ?_); refine wpList_store_blk rfl _ _ _ rfl (w.heap.size + 3) (fcs (zm3)) rfl rfl _ _ (B9_t4) (by kernel_rfl) (by rfl) (fcs_one _) ?_; intro v20 hL10 hq10 hK10; have C10_a := hK10 _ (by omega) _ _ (B9_a); have C10_t2 := hK10 _ (by omega) _ _ (B9_t2); have C10_three := hK10 _ (by omega) _ _ (B9_three); have C10_six := hK10 _ (by omega) _ _ (B9_six); have C10_nine := hK10 _ (by omega) _ _ (B9_nine); have C10_eleven := hK10 _ (by omega) _ _ (B9_eleven); have C10_t3 := hK10 _ (by omega) _ _ (B9_t3); have C10_dbl := hK10 _ (by omega) _ _ (B9_dbl); have hC10 := (hB9).trans (hq10 _ (by omega))) | ((with_reducible refine here_load (d := some 40) ?_); refine wpList_load_fv rfl _ _ rfl (w.heap.size + 3) rfl (zm3) _ _ _ (hL10) (fv_fcs (zm3)) Tryd.underlying26 rfl (by kernel_rfl) ?_) | ((with_reducible refine here_load (d := some 41) ?_); refine wpList_load_fv rfl _ _ rfl (w11.heap.size) rfl (zthree) _ _ _ (C10_three) (fv_fcs (zthree)) Tryd.underlying26 rfl (by kernel_rfl) ?_))
  refine (join_at _ zm3 3 zthree zmost 3 rfl HZmost.out.1 HZm3.out.2 HZthree.out.2 (by omega)).mono ?_
  rintro e w20 ⟨rfl, hb⟩
  have B10_a : Blk w20 (w.heap.size) 26 _ := Gr.blk hb (C10_a)
  have l10_a := B10_a.lt
  have B10_t2 : Blk w20 (w.heap.size + 1) 26 _ := Gr.blk hb (C10_t2)
  have l10_t2 := B10_t2.lt
  have B10_three : Blk w20 (w11.heap.size) 26 _ := Gr.blk hb (C10_three)
  have l10_three := B10_three.lt
  have B10_six : Blk w20 (w12.heap.size) 26 _ := Gr.blk hb (C10_six)
  have l10_six := B10_six.lt
  have B10_nine : Blk w20 (w13.heap.size) 26 _ := Gr.blk hb (C10_nine)
  have l10_nine := B10_nine.lt
  have B10_eleven : Blk w20 (w14.heap.size) 26 _ := Gr.blk hb (C10_eleven)
  have l10_eleven := B10_eleven.lt
  have B10_t3 : Blk w20 (w.heap.size + 2) 26 _ := Gr.blk hb (C10_t3)
  have l10_t3 := B10_t3.lt
  have B10_dbl : Blk w20 (w16.heap.size) 26 _ := Gr.blk hb (C10_dbl)
  have l10_dbl := B10_dbl.lt
  have B10_t4 : Blk w20 (w.heap.size + 3) 26 _ := Gr.blk hb (hL10)
  have l10_t4 := B10_t4.lt
  have hB10 := Below.gr (hC10) hb
  have sz10 := hB10.size
  clear hb
  go_wp2_with (first | ((with_reducible refine here_store ?_); refine wpList_store_blk rfl _ _ _ rfl (w.heap.size + 3) (fcs (zmost)) rfl rfl _ _ (B10_t4) (by kernel_rfl) (by rfl) (fcs_one _) ?_; intro v21 hL11 hq11 hK11; have C11_a := hK11 _ (by omega) _ _ (B10_a); have C11_t2 := hK11 _ (by omega) _ _ (B10_t2); have C11_three := hK11 _ (by omega) _ _ (B10_three); have C11_six := hK11 _ (by omega) _ _ (B10_six); have C11_nine := hK11 _ (by omega) _ _ (B10_nine); have C11_eleven := hK11 _ (by omega) _ _ (B10_eleven); have C11_t3 := hK11 _ (by omega) _ _ (B10_t3); have C11_dbl := hK11 _ (by omega) _ _ (B10_dbl); have hC11 := (hB10).trans (hq11 _ (by omega))))
  refine wp_region_G (fun _ => false) (by kernel_rfl) ?_
  try simp only [Act.put]
  refine wpAnyG_take 0 rfl (by kernel_rfl) (fun _ _ _ h => h) (YieldsG.loadF (by rfl) _ _ rfl (w.heap.size + 1) rfl (ztwo) _ _ (C11_t2) (fv_fcs _) Tryd.underlying26 rfl (by kernel_rfl)) ?_
  try simp only [Act.put, List.setIfInBounds_toArray, List.set_cons_zero, List.set_cons_succ]
  refine wpAnyG_take 1 rfl (by kernel_rfl) (fun _ _ _ h => h) (YieldsG.loadF (by rfl) _ _ rfl (w.heap.size + 2) rfl (zsome) _ _ (C11_t3) (fv_fcs _) Tryd.underlying26 rfl (by kernel_rfl)) ?_
  try simp only [Act.put, List.setIfInBounds_toArray, List.set_cons_zero, List.set_cons_succ]
  refine wpAnyG_take 2 rfl (by kernel_rfl) (fun _ _ _ h => h) (YieldsG.loadF (by rfl) _ _ rfl (w.heap.size + 3) rfl (zmost) _ _ (hL11) (fv_fcs _) Tryd.underlying26 rfl (by kernel_rfl)) ?_
  try simp only [Act.put, List.setIfInBounds_toArray, List.set_cons_zero, List.set_cons_succ]
  refine wpAnyG_take 3 rfl (by kernel_rfl) (fun _ _ _ h => h) (YieldsG.again (by rfl) _ _ _ rfl (w.heap.size + 1) (fcs (ztwo)) rfl rfl _ (C11_t2) (by kernel_rfl) (fcs_one _)) ?_
  try simp only [Act.put]
  refine wpAnyG_take 4 rfl (by kernel_rfl) (fun _ _ _ h => h) (YieldsG.again (by rfl) _ _ _ rfl (w.heap.size + 2) (fcs (zsome)) rfl rfl _ (C11_t3) (by kernel_rfl) (fcs_one _)) ?_
  try simp only [Act.put]
  refine wpAnyG_take 5 rfl (by kernel_rfl) (fun _ _ _ h => h) (YieldsG.again (by rfl) _ _ _ rfl (w.heap.size + 3) (fcs (zmost)) rfl rfl _ (hL11) (by kernel_rfl) (fcs_one _)) ?_
  try simp only [Act.put]
  refine wpAnyG_done (by kernel_rfl) (fun u hu => ?_)
  have hbz := Below.gr (hC11) hu
  have Et2 := Gr.blk hu C11_t2
  have Et3 := Gr.blk hu C11_t3
  have Et4 := Gr.blk hu hL11
  go_wp2
  exact bodyPost_ret (res_three_cells rfl _ _ (w.heap.size + 1) (w.heap.size + 2) (w.heap.size + 3) _ _ _ _ _ _ _ rfl Et2 rfl Et3 rfl Et4 Tryd.underlying26 rfl (by kernel_rfl) (by kernel_rfl) (by kernel_rfl)) rfl ⟨rfl, hbz⟩
end Go.Proofs.YtneeefinaejgcaaDoor

end
section
namespace Go.Proofs.YtneeefinaejgcaaDoor
open Go.RowKit Go.Lib

theorem all_range_eqN : ∀ (xs ys : List Nat), xs.length = ys.length → ((List.range xs.length).all fun i => xs.getD i 0 == ys.getD i 0) = (xs == ys)
  | [], [], _ => rfl
  | x :: xs, y :: ys, h => by
    have ih := all_range_eqN xs ys (by simpa using h)
    rw [List.length_cons, List.range_succ_eq_map, List.all_cons, List.all_map]
    simp only [List.getD_cons_zero, Function.comp_def, List.getD_cons_succ, ih]
    simp [List.cons_beq_cons]
  | [], _ :: _, h => by simp at h
  | _ :: _, [], h => by simp at h
theorem run_equalIn_words {P : Program} (w : World) (d : Nat) (t e : TypeId) (n : Nat) (ht : P.underlying t = some (.array n e)) (he : P.underlying e = some (.int .u64)) (hsz : ∀ w, (sizeOf e).run P w = .ok 1 w)
    (xs ys : List Nat) (hx : xs.length = n) (hy : ys.length = n) :
    (Op.equalIn (d + 2) t (.agg (xs.map qv).toArray) (.agg (ys.map qv).toArray)).run P w = .ok (xs == ys) w := by
  rw [← all_range_eqN xs ys (hx.trans hy.symm), hx, List.range_eq_range', Op.equalIn]
  simp only [Sem.run_bind, run_underlying ht, Result.andThen_ok, hsz, Std.Legacy.Range.forIn_eq_forIn_range', Std.Legacy.Range.size, Nat.sub_zero, Nat.add_sub_cancel, Nat.div_one]
  have hl : ∀ i ∈ List.range' 0 n 1, i < n := fun i hi => by simpa using (List.mem_range'_1.1 hi).2
  generalize List.range' 0 n 1 = l at hl ⊢
  induction l with
  | nil => simp
  | cons i l ih =>
    have hi : i < n := hl i (by simp)
    have px : (part e (xs.map qv).toArray (i * 1)).run P w = .ok (qv (xs.getD i 0)) w := by
      simp [part, isAgg, run_underlying he, List.getD, List.getElem?_eq_getElem (show i < xs.length by omega)]
    have py : (part e (ys.map qv).toArray (i * 1)).run P w = .ok (qv (ys.getD i 0)) w := by
      simp [part, isAgg, run_underlying he, List.getD, List.getElem?_eq_getElem (show i < ys.length by omega)]
    have pe : (Op.equalIn (d + 1) e (qv (xs.getD i 0)) (qv (ys.getD i 0))).run P w = .ok (xs.getD i 0 == ys.getD i 0) w := by
      rw [qv, qv, run_equalIn_int w d e .u64 .u64 _ _ he]
      congr 1
      rw [Bool.eq_iff_iff]
      simp
      omega
    simp only [List.forIn_cons, Sem.run_bind, px, py, pe, Result.andThen_ok, List.all_cons]
    cases hb : (xs.getD i 0 == ys.getD i 0)
    · simp
    · simp only [Bool.not_true, Bool.false_eq_true, if_false, Sem.run_pure, Result.andThen_ok, Bool.true_and]
      exact ih fun j hj => hl j (by simp [hj])
def wl (n : Nat) : List Nat := [n % 18446744073709551616, n / 18446744073709551616 % 18446744073709551616, n / 340282366920938463463374607431768211456 % 18446744073709551616, n / 6277101735386680763835789423207666416102355444464034512896 % 18446744073709551616]
theorem fv_wl (n : Nat) : fv n = .agg ((wl n).map qv).toArray := rfl
theorem wl_inj {n m : Nat} (hn : n < 115792089237316195423570985008687907853269984665640564039457584007913129639936) (hm : m < 115792089237316195423570985008687907853269984665640564039457584007913129639936) (h : wl n = wl m) : n = m := by
  unfold wl at h
  simp only [List.cons.injEq, and_true] at h
  obtain ⟨h0, h1, h2, h3⟩ := h
  omega
theorem wl_beq {n m : Nat} (hn : n < 115792089237316195423570985008687907853269984665640564039457584007913129639936) (hm : m < 115792089237316195423570985008687907853269984665640564039457584007913129639936) : (wl n == wl m) = decide (n = m) := by
  by_cases h : n = m
  · subst h; simp
  · have : wl n ≠ wl m := fun e => h (wl_inj hn hm e)
    simp [h, this]
theorem run_equalIn_fv (W : World) (n m : Nat) (hn : n < 115792089237316195423570985008687907853269984665640564039457584007913129639936) (hm : m < 115792089237316195423570985008687907853269984665640564039457584007913129639936) : (Op.equalIn 10000 26 (fv n) (fv m)).run Tryd.prog W = .ok (decide (n = m)) W := by
  rw [fv_wl, fv_wl]
  have h := run_equalIn_words W 9998 26 24 4 Tryd.underlying26 Tryd.underlying24 (fun W => by kernel_rfl) (wl n) (wl m) rfl rfl
  rw [wl_beq hn hm] at h
  exact h
theorem run_eql_fv (W : World) (n m : Nat) (hn : n < 115792089237316195423570985008687907853269984665640564039457584007913129639936) (hm : m < 115792089237316195423570985008687907853269984665640564039457584007913129639936) : (binOp .eql 26 (fv n) (fv m)).run Tryd.prog W = .ok (.bool (decide (n = m))) W := by
  have h := run_equalIn_fv W n m hn hm
  rw [fv_wl, fv_wl] at h ⊢
  rw [run_eql_struct, h]
  rfl
theorem run_neq_fv (W : World) (n m : Nat) (hn : n < 115792089237316195423570985008687907853269984665640564039457584007913129639936) (hm : m < 115792089237316195423570985008687907853269984665640564039457584007913129639936) : (binOp .neq 26 (fv n) (fv m)).run Tryd.prog W = .ok (.bool (decide (n ≠ m))) W := by
  have h := run_equalIn_fv W n m hn hm
  rw [fv_wl, fv_wl] at h ⊢
  rw [run_neq_struct, h]
  by_cases e : n = m <;> simp [e]

theorem run_eqGuard_fv (op : BinOp) (x y : Operand) (n m : Nat) (W : World) : (eqGuard op 26 x y (fv n) (fv m)).run Tryd.prog W = .ok () W := by
  rw [fv_fcs, fv_fcs]
  go_simp

theorem and_one (n : Nat) (hn : n < 18446744073709551616) : bits .and .u64 (n : Int) 1 = ((n % 2 : Nat) : Int) := by
  have h := bits_and_u64_nat n 1 hn (by omega)
  have e : n &&& 1 = n % 2 := Nat.and_two_pow_sub_one_eq_mod n 1
  rw [e] at h
  exact h
set_option maxHeartbeats 1000000 in
theorem odd_any (w : World) (x : Nat) (hx : x < 115792089237316195423570985008687907853269984665640564039457584007913129639936) : Calls Tryd.prog 88 #[fv x] w fun e w' => e = .returned (.bool (decide (x % pM % 2 = 1))) ∧ Below w.heap.size w w' := by
  obtain ⟨z, hz⟩ : ∃ z, z = x % pM := ⟨_, rfl⟩
  have hzl : z < 115792089237316195423570985008687907853269984665640564039457584007913129639936 := by rw [hz]; exact mod_lt x
  obtain ⟨z0, z1, z2, z3, a0, a1, a2, a3, ez, fz⟩ := words_of z hzl
  obtain ⟨o, ho⟩ : ∃ o, o = z % 2 := ⟨_, rfl⟩
  have h1 : bits .and .u64 (z0 : Int) 1 = (o : Int) := by rw [and_one z0 a0, ho]; congr 1; omega
  have hN : ∀ w, Calls Tryd.prog 23 #[fv x] w fun e w' => e = .returned (.agg #[.int .u64 z0, .int .u64 z1, .int .u64 z2, .int .u64 z3]) ∧ Below w.heap.size w w' := by
    intro w; rw [← fz, hz]; exact norm_any w x hx
  obtain ⟨x0, x1, x2, x3, fx⟩ := words_fv x hx
  rw [fx] at hN ⊢
  rw [← hz, ← ho]
  have hol : o < 2 := by omega
  obtain ⟨b, hb⟩ : ∃ b, b = decide (o = 1) := ⟨_, rfl⟩
  have hob : ((o : Int) == 1) = b := by
    rw [hb]
    rcases (show o = 0 ∨ o = 1 by omega) with rfl | rfl <;> rfl
  rw [← hb]
  clear fx hx hz hzl ez fz ho a0 a1 a2 a3 hb hol
  have hI : ∀ W, (Instr.index 26 (.agg #[.int .u64 z0, .int .u64 z1, .int .u64 z2, .int .u64 z3]) (.int .i64 0)).run Tryd.prog W = .ok (.int .u64 (z0 : Int)) W := fun W => by kernel_rfl
  go_enter Tryd.func88, Tryd.ntmps88
  go_wp2_with fail
  refine (hN _).mono ?_
  rintro e w1 ⟨rfl, hb1⟩
  go_wp2
  go_ret
  exact ⟨rfl, Below.gr ((Below.refl _ _).alloc (Nat.le_refl _) _) hb1⟩
end Go.Proofs.YtneeefinaejgcaaDoor

end
section
namespace Go.Proofs.YtneeefinaejgcaaDoor
open Go.RowKit Go.Lib

def rZ1 (x : Nat) : Nat := jn (rMost x) 23 (rSome x)
def rZ2 (x : Nat) : Nat := jn (rZ1 x) 6 (rTwo x)
def rootR (x : Nat) : Nat := sqI (rZ2 x) 2
theorem rootR_lt (x : Nat) : rootR x < 115792089237316195423570985008687907853269984665640564039457584007913129639936 := mulP_lt _ _
theorem rootR_red (x : Nat) : rootR x % pM = rootR x := by
  have h : rootR x = sqI (rZ2 x) 1 * sqI (rZ2 x) 1 % pM := rfl
  rw [h, Nat.mod_mod]
def eRoot : Nat := ((eMost * 2 ^ 23 + eSome) * 2 ^ 6 + eTwo) * 2 ^ 2
theorem rootR_pow (x : Nat) : rootR x % pM = x ^ eRoot % pM := by
  unfold rootR eRoot
  exact sqI_pow (jn_pow (jn_pow (rMost_pow x) (rSome_pow x)) (rTwo_pow x)) 2
/-- the even root, if there is one -/
def sqrtS (x : Nat) : Nat × Bool := if mulP (rootR x) (rootR x) ≠ x % pM then (0, false) else if rootR x % pM % 2 = 1 then (negP (rootR x), true) else (rootR x, true)

set_option maxHeartbeats 4000000 in
set_option maxRecDepth 100000 in
theorem sqrt_any (w : World) (x : Nat) (hx : x < 115792089237316195423570985008687907853269984665640564039457584007913129639936) : Calls Tryd.prog 64 #[fv x] w fun e w' => e = .returned (.tuple #[fv (sqrtS x).1, .bool (sqrtS x).2]) ∧ Below w.heap.size w w' := by
  obtain ⟨z2, hz2⟩ : ∃ z, z = rTwo x := ⟨_, rfl⟩
  obtain ⟨zs, hzs⟩ : ∃ z, z = rSome x := ⟨_, rfl⟩
  obtain ⟨zm, hzm⟩ : ∃ z, z = rMost x := ⟨_, rfl⟩
  obtain ⟨y1, hy1⟩ : ∃ z, z = rZ1 x := ⟨_, rfl⟩
  obtain ⟨y2, hy2⟩ : ∃ z, z = rZ2 x := ⟨_, rfl⟩
  obtain ⟨r, hr⟩ : ∃ z, z = rootR x := ⟨_, rfl⟩
  obtain ⟨m, hm⟩ : ∃ z, z = mulP r r := ⟨_, rfl⟩
  obtain ⟨n, hn⟩ : ∃ z, z = x % pM := ⟨_, rfl⟩
  obtain ⟨g, hg⟩ : ∃ z, z = negP r := ⟨_, rfl⟩
  have hrl : r < 115792089237316195423570985008687907853269984665640564039457584007913129639936 := by rw [hr]; exact rootR_lt x
  have hml : m < 115792089237316195423570985008687907853269984665640564039457584007913129639936 := by rw [hm]; exact mulP_lt _ _
  have hnl : n < 115792089237316195423570985008687907853269984665640564039457584007913129639936 := by rw [hn]; exact mod_lt x
  have cR : ∀ w, Calls Tryd.prog 99 #[fv x] w fun e w' => e = .returned (.tuple #[fv z2, fv zs, fv zm]) ∧ Below w.heap.size w w' := by
    intro w; rw [hz2, hzs, hzm]; exact runs_any w x hx
  have c1 := fun w => join_at w zm 23 zs y1 23 rfl (by rw [hzm, hzs, hy1]; rfl) (by rw [hzm]; exact rMost_lt x) (by rw [hzs]; exact rSome_lt x) (by omega)
  have c2 := fun w => join_at w y1 6 z2 y2 6 rfl (by rw [hy1, hz2, hy2]; rfl) (by rw [hy1]; exact jn_lt _ _ _) (by rw [hz2]; exact rTwo_lt x) (by omega)
  have c3 : ∀ w, Calls Tryd.prog 101 #[fv y2, .int .i64 2] w fun e w' => e = .returned (fv r) ∧ Below w.heap.size w w' := by
    intro w; rw [hr, rootR, ← hy2]; exact square_any w y2 2 (by rw [hy2]; exact jn_lt _ _ _) (by omega)
  have cm : ∀ w, Calls Tryd.prog 24 #[fv r, fv r] w fun e w' => e = .returned (fv m) ∧ Below w.heap.size w w' := by
    intro w; rw [hm]; exact mulF_any w r r hrl hrl
  have cn : ∀ w, Calls Tryd.prog 23 #[fv x] w fun e w' => e = .returned (fv n) ∧ Below w.heap.size w w' := by
    intro w; rw [hn]; exact norm_any w x hx
  obtain ⟨o, ho⟩ : ∃ o, o = decide (r % pM % 2 = 1) := ⟨_, rfl⟩
  have co : ∀ w, Calls Tryd.prog 88 #[fv r] w fun e w' => e = .returned (.bool o) ∧ Below w.heap.size w w' := by
    intro w; rw [ho]; exact odd_any w r hrl
  have cg : ∀ w, Calls Tryd.prog 37 #[fv r] w fun e w' => e = .returned (fv g) ∧ Below w.heap.size w w' := by
    intro w; rw [hg]; exact negF_any w r hrl
  obtain ⟨b, hb⟩ : ∃ b, b = decide (m ≠ n) := ⟨_, rfl⟩
  have eb : ∀ W, (binOp .neq 26 (fv m) (fv n)).run Tryd.prog W = .ok (.bool b) W := fun W => by rw [hb]; exact run_neq_fv W m n hml hnl
  have hS : sqrtS x = if b = true then (0, false) else if o = true then (g, true) else (r, true) := by
    unfold sqrtS
    rw [← hr, ← hm, ← hn, ← hg, hb, ho]
    by_cases h1 : m = n <;> by_cases h2 : r % pM % 2 = 1 <;> simp [h1, h2]
  obtain ⟨x0, x1, x2, x3, fx⟩ := words_fv x hx
  have FX := Lib.hid fx
  rw [fx] at cR ⊢
  rw [hS]
  clear fx hx hz2 hzs hzm hy1 hy2 hr hm hn hg hrl hml hnl ho hb hS
  go_enter Tryd.func64, Tryd.ntmps64
  go_wp2_with fail
  refine (cR _).mono ?_
  rintro e w10 ⟨rfl, hb⟩
  have B0_a : Blk w10 (w.heap.size) 26 _ := Gr.blk hb (Blk.eq_ ((Blk.new w _ _).alloc _) (fcs_words FX.out).symm)
  have l0_a := B0_a.lt
  have B0_t2 : Blk w10 (w.heap.size + 1) 26 _ := Gr.blk hb (blk_new2 w _ _ _)
  have l0_t2 := B0_t2.lt
  have hB0 := Below.gr (below_alloc2 w _ _) hb
  have sz0 := hB0.size
  clear hb
  go_wp2_with (first | ((with_reducible refine here_store ?_); refine wpList_store_blk rfl _ _ _ rfl (w10.heap.size) (fcs (z2)) rfl rfl _ _ (((Blk.new w10 _ _).alloc _).alloc _) (by kernel_rfl) (by rfl) (fcs_one _) ?_; intro v11t4 hLt4 hqt4 hKt4; have Ct4_a := hKt4 _ (by omega) _ _ ((((B0_a).alloc _).alloc _).alloc _); have Ct4_t2 := hKt4 _ (by omega) _ _ ((((B0_t2).alloc _).alloc _).alloc _); have Ct4_t5 := hKt4 _ (by omega) _ _ ((blk_new2 w10 _ _ _).alloc _); have Ct4_t6 := hKt4 _ (by omega) _ _ (blk_new3 w10 _ _ _ _); have hCt4 := ((((hB0).alloc (by omega) _).alloc (by simp <;> omega) _).alloc (by simp <;> omega) _).trans (hqt4 _ (by omega))) | ((with_reducible refine here_store ?_); refine wpList_store_blk rfl _ _ _ rfl (w10.heap.size + 1) (fcs (zs)) rfl rfl _ _ (Ct4_t5) (by kernel_rfl) (by rfl) (fcs_one _) ?_; intro v11t5 hLt5 hqt5 hKt5; have Ct5_a := hKt5 _ (by omega) _ _ (Ct4_a); have Ct5_t2 := hKt5 _ (by omega) _ _ (Ct4_t2); have Ct5_t6 := hKt5 _ (by omega) _ _ (Ct4_t6); have Ct5_t4 := hKt5 _ (by omega) _ _ (hLt4); have hCt5 := (hCt4).trans (hqt5 _ (by omega))) | ((with_reducible refine here_store ?_); refine wpList_store_blk rfl _ _ _ rfl (w10.heap.size + 2) (fcs (zm)) rfl rfl _ _ (Ct5_t6) (by kernel_rfl) (by rfl) (fcs_one _) ?_; intro v11t6 hLt6 hqt6 hKt6; have Ct6_a := hKt6 _ (by omega) _ _ (Ct5_a); have Ct6_t2 := hKt6 _ (by omega) _ _ (Ct5_t2); have Ct6_t4 := hKt6 _ (by omega) _ _ (Ct5_t4); have Ct6_t5 := hKt6 _ (by omega) _ _ (hLt5); have hCt6 := (hCt5).trans (hqt6 _ (by omega))) | ((with_reducible refine here_load (d := some 14) ?_); refine wpList_load_fv rfl _ _ rfl (w10.heap.size + 2) rfl (zm) _ _ _ (hLt6) (fv_fcs (zm)) Tryd.underlying26 rfl (by kernel_rfl) ?_) | ((with_reducible refine here_load (d := some 15) ?_); refine wpList_load_fv rfl _ _ rfl (w10.heap.size + 1) rfl (zs) _ _ _ (Ct6_t5) (fv_fcs (zs)) Tryd.underlying26 rfl (by kernel_rfl) ?_))
  refine (c1 _).mono ?_
  rintro e w11 ⟨rfl, hb⟩
  have B1_a : Blk w11 (w.heap.size) 26 _ := Gr.blk hb (Ct6_a)
  have l1_a := B1_a.lt
  have B1_t2 : Blk w11 (w.heap.size + 1) 26 _ := Gr.blk hb (Ct6_t2)
  have l1_t2 := B1_t2.lt
  have B1_t4 : Blk w11 (w10.heap.size) 26 _ := Gr.blk hb (Ct6_t4)
  have l1_t4 := B1_t4.lt
  have B1_t5 : Blk w11 (w10.heap.size + 1) 26 _ := Gr.blk hb (Ct6_t5)
  have l1_t5 := B1_t5.lt
  have B1_t6 : Blk w11 (w10.heap.size + 2) 26 _ := Gr.blk hb (hLt6)
  have l1_t6 := B1_t6.lt
  have hB1 := Below.gr (hCt6) hb
  have sz1 := hB1.size
  clear hb
  go_wp2_with (first | ((with_reducible refine here_store ?_); refine wpList_store_blk rfl _ _ _ rfl (w11.heap.size) (fcs (y1)) rfl rfl _ _ (Blk.new w11 _ _) (by kernel_rfl) (by rfl) (fcs_one _) ?_; intro v12 hL2 hq2 hK2; have C2_a := hK2 _ (by omega) _ _ ((B1_a).alloc _); have C2_t2 := hK2 _ (by omega) _ _ ((B1_t2).alloc _); have C2_t4 := hK2 _ (by omega) _ _ ((B1_t4).alloc _); have C2_t5 := hK2 _ (by omega) _ _ ((B1_t5).alloc _); have C2_t6 := hK2 _ (by omega) _ _ ((B1_t6).alloc _); have hC2 := (((hB1).alloc (by omega) _)).trans (hq2 _ (by omega))) | ((with_reducible refine here_load (d := some 17) ?_); refine wpList_load_fv rfl _ _ rfl (w11.heap.size) rfl (y1) _ _ _ (hL2) (fv_fcs (y1)) Tryd.underlying26 rfl (by kernel_rfl) ?_) | ((with_reducible refine here_load (d := some 18) ?_); refine wpList_load_fv rfl _ _ rfl (w10.heap.size) rfl (z2) _ _ _ (C2_t4) (fv_fcs (z2)) Tryd.underlying26 rfl (by kernel_rfl) ?_))
  refine (c2 _).mono ?_
  rintro e w12 ⟨rfl, hb⟩
  have B2_a : Blk w12 (w.heap.size) 26 _ := Gr.blk hb (C2_a)
  have l2_a := B2_a.lt
  have B2_t2 : Blk w12 (w.heap.size + 1) 26 _ := Gr.blk hb (C2_t2)
  have l2_t2 := B2_t2.lt
  have B2_t4 : Blk w12 (w10.heap.size) 26 _ := Gr.blk hb (C2_t4)
  have l2_t4 := B2_t4.lt
  have B2_t5 : Blk w12 (w10.heap.size + 1) 26 _ := Gr.blk hb (C2_t5)
  have l2_t5 := B2_t5.lt
  have B2_t6 : Blk w12 (w10.heap.size + 2) 26 _ := Gr.blk hb (C2_t6)
  have l2_t6 := B2_t6.lt
  have B2_t7 : Blk w12 (w11.heap.size) 26 _ := Gr.blk hb (hL2)
  have l2_t7 := B2_t7.lt
  have hB2 := Below.gr (hC2) hb
  have sz2 := hB2.size
  clear hb
  go_wp2_with (first | ((with_reducible refine here_store ?_); refine wpList_store_blk rfl _ _ _ rfl (w11.heap.size) (fcs (y2)) rfl rfl _ _ (B2_t7) (by kernel_rfl) (by rfl) (fcs_one _) ?_; intro v13 hL3 hq3 hK3; have C3_a := hK3 _ (by omega) _ _ (B2_a); have C3_t2 := hK3 _ (by omega) _ _ (B2_t2); have C3_t4 := hK3 _ (by omega) _ _ (B2_t4); have C3_t5 := hK3 _ (by omega) _ _ (B2_t5); have C3_t6 := hK3 _ (by omega) _ _ (B2_t6); have hC3 := (hB2).trans (hq3 _ (by omega))) | ((with_reducible refine here_load (d := some 20) ?_); refine wpList_load_fv rfl _ _ rfl (w11.heap.size) rfl (y2) _ _ _ (hL3) (fv_fcs (y2)) Tryd.underlying26 rfl (by kernel_rfl) ?_))
  refine (c3 _).mono ?_
  rintro e w13 ⟨rfl, hb⟩
  have B3_a : Blk w13 (w.heap.size) 26 _ := Gr.blk hb (C3_a)
  have l3_a := B3_a.lt
  have B3_t2 : Blk w13 (w.heap.size + 1) 26 _ := Gr.blk hb (C3_t2)
  have l3_t2 := B3_t2.lt
  have B3_t4 : Blk w13 (w10.heap.size) 26 _ := Gr.blk hb (C3_t4)
  have l3_t4 := B3_t4.lt
  have B3_t5 : Blk w13 (w10.heap.size + 1) 26 _ := Gr.blk hb (C3_t5)
  have l3_t5 := B3_t5.lt
  have B3_t6 : Blk w13 (w10.heap.size + 2) 26 _ := Gr.blk hb (C3_t6)
  have l3_t6 := B3_t6.lt
  have B3_t7 : Blk w13 (w11.heap.size) 26 _ := Gr.blk hb (hL3)
  have l3_t7 := B3_t7.lt
  have hB3 := Below.gr (hC3) hb
  have sz3 := hB3.size
  clear hb
  go_wp2_with (first | ((with_reducible refine here_store ?_); refine wpList_store_blk rfl _ _ _ rfl (w11.heap.size) (fcs (r)) rfl rfl _ _ (B3_t7) (by kernel_rfl) (by rfl) (fcs_one _) ?_; intro v14 hL4 hq4 hK4; have C4_a := hK4 _ (by omega) _ _ (B3_a); have C4_t2 := hK4 _ (by omega) _ _ (B3_t2); have C4_t4 := hK4 _ (by omega) _ _ (B3_t4); have C4_t5 := hK4 _ (by omega) _ _ (B3_t5); have C4_t6 := hK4 _ (by omega) _ _ (B3_t6); have hC4 := (hB3).trans (hq4 _ (by omega))))
  refine wp_region_G (fun _ => false) (by kernel_rfl) ?_
  try simp only [Act.put]
  refine wpAnyG_take 0 rfl (by kernel_rfl) (fun _ _ _ h => h) (YieldsG.loadF (by rfl) _ _ rfl (w11.heap.size) rfl (r) _ _ (hL4) (fv_fcs _) Tryd.underlying26 rfl (by kernel_rfl)) ?_
  try simp only [Act.put, List.setIfInBounds_toArray, List.set_cons_zero, List.set_cons_succ]
  refine wpAnyG_take 1 rfl (by kernel_rfl) (fun _ _ _ h => h) (YieldsG.loadF (by rfl) _ _ rfl (w11.heap.size) rfl (r) _ _ (hL4) (fv_fcs _) Tryd.underlying26 rfl (by kernel_rfl)) ?_
  try simp only [Act.put, List.setIfInBounds_toArray, List.set_cons_zero, List.set_cons_succ]
  refine wpAnyG_take 2 rfl (by kernel_rfl) (fun _ _ _ h => h) (YieldsG.call (v := fv m) (by rfl) 24 _ (fun w9 => by go_simp; try (first | with_reducible rfl | rfl)) (fun w9 h9 => cm w9)) ?_
  try simp only [Act.put, List.setIfInBounds_toArray, List.set_cons_zero, List.set_cons_succ]
  refine wpAnyG_take 3 rfl (by kernel_rfl) (fun _ _ _ h => h) (YieldsG.loadF (by rfl) _ _ rfl (w.heap.size) rfl (x) _ _ (C4_a) (fv_fcs _) Tryd.underlying26 rfl (by kernel_rfl)) ?_
  try simp only [Act.put, List.setIfInBounds_toArray, List.set_cons_zero, List.set_cons_succ]
  refine wpAnyG_take 4 rfl (by kernel_rfl) (fun _ _ _ h => h) (YieldsG.call (v := fv n) (by rfl) 23 _ (fun w9 => by go_simp; try (first | with_reducible rfl | rfl)) (fun w9 h9 => cn w9)) ?_
  try simp only [Act.put, List.setIfInBounds_toArray, List.set_cons_zero, List.set_cons_succ]
  refine wpAnyG_take 5 rfl (by kernel_rfl) (fun _ _ _ h => h) (YieldsG.pure (v := .bool b) (by rfl) (fun w9 h9 => by go_simp; rw [run_eqGuard_fv]; simp only [Result.andThen_ok])) ?_
  try simp only [Act.put, List.setIfInBounds_toArray, List.set_cons_zero, List.set_cons_succ]
  refine wpAnyG_done (by kernel_rfl) (fun u hu => ?_)
  have hbu := Below.gr (hC4) hu
  have Et2 := Gr.blk hu C4_t2
  have lt2 := Et2.lt
  have Et7 := Gr.blk hu hL4
  have lt7 := Et7.lt
  clear eb cm cn c1 c2 c3 cR
  cases b
  · skip
    go_wp2_with (first | ((with_reducible refine here_load (d := some 29) ?_); refine wpList_load_fv rfl _ _ rfl (w11.heap.size) rfl (r) _ _ _ (Et7) (fv_fcs (r)) Tryd.underlying26 rfl (by kernel_rfl) ?_))
    refine (co _).mono ?_
    rintro e w30 ⟨rfl, hb⟩
    have B20_t2 : Blk w30 (w.heap.size + 1) 26 _ := Gr.blk hb (Et2)
    have l20_t2 := B20_t2.lt
    have B20_t7 : Blk w30 (w11.heap.size) 26 _ := Gr.blk hb (Et7)
    have l20_t7 := B20_t7.lt
    have hB20 := Below.gr (hbu) hb
    have sz20 := hB20.size
    clear hb
    cases o
    · skip
      go_wp2_with (first | ((with_reducible refine here_load (d := some 33) ?_); refine wpList_load_fv rfl _ _ rfl (w11.heap.size) rfl (r) _ _ _ (B20_t7) (fv_fcs (r)) Tryd.underlying26 rfl (by kernel_rfl) ?_) | ((with_reducible refine here_store ?_); refine wpList_store_blk rfl _ _ _ rfl (w.heap.size + 1) (fcs (r)) rfl rfl _ _ (B20_t2) (by kernel_rfl) (by rfl) (fcs_one _) ?_; intro v31 hL21 hq21 hK21; have C21_t7 := hK21 _ (by omega) _ _ (B20_t7); have hC21 := (hB20).trans (hq21 _ (by omega))))
      exact bodyPost_ret (res_cell_tmp rfl _ _ (w.heap.size + 1) _ _ _ _ rfl hL21 rfl Tryd.underlying26 rfl (by kernel_rfl)) rfl ⟨rfl, hC21⟩
    · skip
      go_wp2_with (first | ((with_reducible refine here_load (d := some 31) ?_); refine wpList_load_fv rfl _ _ rfl (w11.heap.size) rfl (r) _ _ _ (B20_t7) (fv_fcs (r)) Tryd.underlying26 rfl (by kernel_rfl) ?_))
      refine (cg _).mono ?_
      rintro e w31 ⟨rfl, hb⟩
      have B21_t2 : Blk w31 (w.heap.size + 1) 26 _ := Gr.blk hb (B20_t2)
      have l21_t2 := B21_t2.lt
      have B21_t7 : Blk w31 (w11.heap.size) 26 _ := Gr.blk hb (B20_t7)
      have l21_t7 := B21_t7.lt
      have hB21 := Below.gr (hB20) hb
      have sz21 := hB21.size
      clear hb
      go_wp2_with (first | ((with_reducible refine here_store ?_); refine wpList_store_blk rfl _ _ _ rfl (w11.heap.size) (fcs (g)) rfl rfl _ _ (B21_t7) (by kernel_rfl) (by rfl) (fcs_one _) ?_; intro v32 hL22 hq22 hK22; have C22_t2 := hK22 _ (by omega) _ _ (B21_t2); have hC22 := (hB21).trans (hq22 _ (by omega))) | ((with_reducible refine here_load (d := some 33) ?_); refine wpList_load_fv rfl _ _ rfl (w11.heap.size) rfl (g) _ _ _ (hL22) (fv_fcs (g)) Tryd.underlying26 rfl (by kernel_rfl) ?_) | ((with_reducible refine here_store ?_); refine wpList_store_blk rfl _ _ _ rfl (w.heap.size + 1) (fcs (g)) rfl rfl _ _ (C22_t2) (by kernel_rfl) (by rfl) (fcs_one _) ?_; intro vz hLz hqz hKz))
      exact bodyPost_ret (res_cell_tmp rfl _ _ (w.heap.size + 1) _ _ _ _ rfl hLz rfl Tryd.underlying26 rfl (by kernel_rfl)) rfl ⟨rfl, (hC22).trans (hqz _ (by omega))⟩
  · skip
    go_wp2_with (first | ((with_reducible refine here_store ?_); refine wpList_store_blk rfl _ _ _ rfl (w.heap.size + 1) _ rfl rfl _ _ (Et2) (by kernel_rfl) (by rfl) (by simp [Value.oneCell']) ?_; intro vz hLz hqz hKz))
    exact bodyPost_ret (res_cell_tmp rfl _ _ (w.heap.size + 1) _ _ _ _ rfl hLz rfl Tryd.underlying26 rfl (by kernel_rfl)) rfl ⟨rfl, hbu.trans (hqz _ (by omega))⟩
end Go.Proofs.YtneeefinaejgcaaDoor

end
section
namespace Go.Proofs.YtneeefinaejgcaaDoor
open Go.RowKit Go.Lib

def iZ2 (x : Nat) : Nat := jn (rZ1 x) 5 x
def iZ3 (x : Nat) : Nat := jn (iZ2 x) 3 (rTwo x)
def invR (x : Nat) : Nat := jn (iZ3 x) 2 x
theorem invR_red (x : Nat) : invR x % pM = invR x := by
  have h : invR x = sqI (iZ3 x) 2 * x % pM := rfl
  rw [h, Nat.mod_mod]
def eInv : Nat := (((eMost * 2 ^ 23 + eSome) * 2 ^ 5 + 1) * 2 ^ 3 + eTwo) * 2 ^ 2 + 1
theorem invR_pow (x : Nat) : invR x % pM = x ^ eInv % pM := by
  unfold invR eInv
  exact jn_pow (jn_pow (jn_pow (jn_pow (rMost_pow x) (rSome_pow x)) (pow_self x)) (rTwo_pow x)) (pow_self x)

set_option maxHeartbeats 4000000 in
set_option maxRecDepth 100000 in
theorem inv_any (w : World) (x : Nat) (hx : x < 115792089237316195423570985008687907853269984665640564039457584007913129639936) : Calls Tryd.prog 72 #[fv x] w fun e w' => e = .returned (fv (invR x)) ∧ Below w.heap.size w w' := by
  obtain ⟨z2, hz2⟩ : ∃ z, z = rTwo x := ⟨_, rfl⟩
  obtain ⟨zs, hzs⟩ : ∃ z, z = rSome x := ⟨_, rfl⟩
  obtain ⟨zm, hzm⟩ : ∃ z, z = rMost x := ⟨_, rfl⟩
  obtain ⟨y1, hy1⟩ : ∃ z, z = rZ1 x := ⟨_, rfl⟩
  obtain ⟨y2, hy2⟩ : ∃ z, z = iZ2 x := ⟨_, rfl⟩
  obtain ⟨y3, hy3⟩ : ∃ z, z = iZ3 x := ⟨_, rfl⟩
  obtain ⟨y4, hy4⟩ : ∃ z, z = invR x := ⟨_, rfl⟩
  have cR : ∀ w, Calls Tryd.prog 99 #[fv x] w fun e w' => e = .returned (.tuple #[fv z2, fv zs, fv zm]) ∧ Below w.heap.size w w' := by
    intro w; rw [hz2, hzs, hzm]; exact runs_any w x hx
  have c1 := fun w => join_at w zm 23 zs y1 23 rfl (by rw [hzm, hzs, hy1]; rfl) (by rw [hzm]; exact rMost_lt x) (by rw [hzs]; exact rSome_lt x) (by omega)
  have c2 := fun w => join_at w y1 5 x y2 5 rfl (by rw [hy1, hy2]; rfl) (by rw [hy1]; exact jn_lt _ _ _) hx (by omega)
  have c3 := fun w => join_at w y2 3 z2 y3 3 rfl (by rw [hy2, hz2, hy3]; rfl) (by rw [hy2]; exact jn_lt _ _ _) (by rw [hz2]; exact rTwo_lt x) (by omega)
  have c4 := fun w => join_at w y3 2 x y4 2 rfl (by rw [hy3, hy4]; rfl) (by rw [hy3]; exact jn_lt _ _ _) hx (by omega)
  rw [← hy4]
  obtain ⟨x0, x1, x2, x3, fx⟩ := words_fv x hx
  have FX := Lib.hid fx
  rw [fx] at cR ⊢
  clear fx hx hz2 hzs hzm hy1 hy2 hy3 hy4
  go_enter Tryd.func72, Tryd.ntmps72
  go_wp2_with fail
  refine (cR _).mono ?_
  rintro e w10 ⟨rfl, hb⟩
  have B0_a : Blk w10 (w.heap.size) 26 _ := Gr.blk hb (Blk.eq_ ((Blk.new w _ _).alloc _) (fcs_words FX.out).symm)
  have l0_a := B0_a.lt
  have B0_t2 : Blk w10 (w.heap.size + 1) 26 _ := Gr.blk hb (blk_new2 w _ _ _)
  have l0_t2 := B0_t2.lt
  have hB0 := Below.gr (below_alloc2 w _ _) hb
  have sz0 := hB0.size
  clear hb
  go_wp2_with (first | ((with_reducible refine here_store ?_); refine wpList_store_blk rfl _ _ _ rfl (w10.heap.size) (fcs (z2)) rfl rfl _ _ (((Blk.new w10 _ _).alloc _).alloc _) (by kernel_rfl) (by rfl) (fcs_one _) ?_; intro v11t3 hLt3 hqt3 hKt3; have Ct3_a := hKt3 _ (by omega) _ _ ((((B0_a).alloc _).alloc _).alloc _); have Ct3_t2 := hKt3 _ (by omega) _ _ ((((B0_t2).alloc _).alloc _).alloc _); have Ct3_t4 := hKt3 _ (by omega) _ _ ((blk_new2 w10 _ _ _).alloc _); have Ct3_t5 := hKt3 _ (by omega) _ _ (blk_new3 w10 _ _ _ _); have hCt3 := ((((hB0).alloc (by omega) _).alloc (by simp <;> omega) _).alloc (by simp <;> omega) _).trans (hqt3 _ (by omega))) | ((with_reducible refine here_store ?_); refine wpList_store_blk rfl _ _ _ rfl (w10.heap.size + 1) (fcs (zs)) rfl rfl _ _ (Ct3_t4) (by kernel_rfl) (by rfl) (fcs_one _) ?_; intro v11t4 hLt4 hqt4 hKt4; have Ct4_a := hKt4 _ (by omega) _ _ (Ct3_a); have Ct4_t2 := hKt4 _ (by omega) _ _ (Ct3_t2); have Ct4_t5 := hKt4 _ (by omega) _ _ (Ct3_t5); have Ct4_t3 := hKt4 _ (by omega) _ _ (hLt3); have hCt4 := (hCt3).trans (hqt4 _ (by omega))) | ((with_reducible refine here_store ?_); refine wpList_store_blk rfl _ _ _ rfl (w10.heap.size + 2) (fcs (zm)) rfl rfl _ _ (Ct4_t5) (by kernel_rfl) (by rfl) (fcs_one _) ?_; intro v11t5 hLt5 hqt5 hKt5; have Ct5_a := hKt5 _ (by omega) _ _ (Ct4_a); have Ct5_t2 := hKt5 _ (by omega) _ _ (Ct4_t2); have Ct5_t3 := hKt5 _ (by omega) _ _ (Ct4_t3); have Ct5_t4 := hKt5 _ (by omega) _ _ (hLt4); have hCt5 := (hCt4).trans (hqt5 _ (by omega))) | ((with_reducible refine here_load (d := some 13) ?_); refine wpList_load_fv rfl _ _ rfl (w10.heap.size + 2) rfl (zm) _ _ _ (hLt5) (fv_fcs (zm)) Tryd.underlying26 rfl (by kernel_rfl) ?_) | ((with_reducible refine here_load (d := some 14) ?_); refine wpList_load_fv rfl _ _ rfl (w10.heap.size + 1) rfl (zs) _ _ _ (Ct5_t4) (fv_fcs (zs)) Tryd.underlying26 rfl (by kernel_rfl) ?_))
  refine (c1 _).mono ?_
  rintro e w11 ⟨rfl, hb⟩
  have B1_a : Blk w11 (w.heap.size) 26 _ := Gr.blk hb (Ct5_a)
  have l1_a := B1_a.lt
  have B1_t2 : Blk w11 (w.heap.size + 1) 26 _ := Gr.blk hb (Ct5_t2)
  have l1_t2 := B1_t2.lt
  have B1_t3 : Blk w11 (w10.heap.size) 26 _ := Gr.blk hb (Ct5_t3)
  have l1_t3 := B1_t3.lt
  have B1_t4 : Blk w11 (w10.heap.size + 1) 26 _ := Gr.blk hb (Ct5_t4)
  have l1_t4 := B1_t4.lt
  have B1_t5 : Blk w11 (w10.heap.size + 2) 26 _ := Gr.blk hb (hLt5)
  have l1_t5 := B1_t5.lt
  have hB1 := Below.gr (hCt5) hb
  have sz1 := hB1.size
  clear hb
  go_wp2_with (first | ((with_reducible refine here_store ?_); refine wpList_store_blk rfl _ _ _ rfl (w11.heap.size) (fcs (y1)) rfl rfl _ _ (Blk.new w11 _ _) (by kernel_rfl) (by rfl) (fcs_one _) ?_; intro v12 hL2 hq2 hK2; have C2_a := hK2 _ (by omega) _ _ ((B1_a).alloc _); have C2_t2 := hK2 _ (by omega) _ _ ((B1_t2).alloc _); have C2_t3 := hK2 _ (by omega) _ _ ((B1_t3).alloc _); have C2_t4 := hK2 _ (by omega) _ _ ((B1_t4).alloc _); have C2_t5 := hK2 _ (by omega) _ _ ((B1_t5).alloc _); have hC2 := (((hB1).alloc (by omega) _)).trans (hq2 _ (by omega))) | ((with_reducible refine here_load (d := some 16) ?_); refine wpList_load_fv rfl _ _ rfl (w11.heap.size) rfl (y1) _ _ _ (hL2) (fv_fcs (y1)) Tryd.underlying26 rfl (by kernel_rfl) ?_) | ((with_reducible refine here_load (d := some 17) ?_); refine wpList_load_fv rfl _ _ rfl (w.heap.size) rfl (x) _ _ _ (C2_a) (fv_fcs (x)) Tryd.underlying26 rfl (by kernel_rfl) ?_))
  refine (c2 _).mono ?_
  rintro e w12 ⟨rfl, hb⟩
  have B2_a : Blk w12 (w.heap.size) 26 _ := Gr.blk hb (C2_a)
  have l2_a := B2_a.lt
  have B2_t2 : Blk w12 (w.heap.size + 1) 26 _ := Gr.blk hb (C2_t2)
  have l2_t2 := B2_t2.lt
  have B2_t3 : Blk w12 (w10.heap.size) 26 _ := Gr.blk hb (C2_t3)
  have l2_t3 := B2_t3.lt
  have B2_t4 : Blk w12 (w10.heap.size + 1) 26 _ := Gr.blk hb (C2_t4)
  have l2_t4 := B2_t4.lt
  have B2_t5 : Blk w12 (w10.heap.size + 2) 26 _ := Gr.blk hb (C2_t5)
  have l2_t5 := B2_t5.lt
  have B2_t6 : Blk w12 (w11.heap.size) 26 _ := Gr.blk hb (hL2)
  have l2_t6 := B2_t6.lt
  have hB2 := Below.gr (hC2) hb
  have sz2 := hB2.size
  clear hb
  go_wp2_with (first | ((with_reducible refine here_store ?_); refine wpList_store_blk rfl _ _ _ rfl (w11.heap.size) (fcs (y2)) rfl rfl _ _ (B2_t6) (by kernel_rfl) (by rfl) (fcs_one _) ?_; intro v13 hL3 hq3 hK3; have C3_a := hK3 _ (by omega) _ _ (B2_a); have C3_t2 := hK3 _ (by omega) _ _ (B2_t2); have C3_t3 := hK3 _ (by omega) _ _ (B2_t3); have C3_t4 := hK3 _ (by omega) _ _ (B2_t4); have C3_t5 := hK3 _ (by omega) _ _ (B2_t5); have hC3 := (hB2).trans (hq3 _ (by omega))) | ((with_reducible refine here_load (d := some 19) ?_); refine wpList_load_fv rfl _ _ rfl (w11.heap.size) rfl (y2) _ _ _ (hL3) (fv_fcs (y2)) Tryd.underlying26 rfl (by kernel_rfl) ?_) | ((with_reducible refine here_load (d := some 20) ?_); refine wpList_load_fv rfl _ _ rfl (w10.heap.size) rfl (z2) _ _ _ (C3_t3) (fv_fcs (z2)) Tryd.underlying26 rfl (by kernel_rfl) ?_))
  refine (c3 _).mono ?_
  rintro e w13 ⟨rfl, hb⟩
  have B3_a : Blk w13 (w.heap.size) 26 _ := Gr.blk hb (C3_a)
  have l3_a := B3_a.lt
  have B3_t2 : Blk w13 (w.heap.size + 1) 26 _ := Gr.blk hb (C3_t2)
  have l3_t2 := B3_t2.lt
  have B3_t3 : Blk w13 (w10.heap.size) 26 _ := Gr.blk hb (C3_t3)
  have l3_t3 := B3_t3.lt
  have B3_t4 : Blk w13 (w10.heap.size + 1) 26 _ := Gr.blk hb (C3_t4)
  have l3_t4 := B3_t4.lt
  have B3_t5 : Blk w13 (w10.heap.size + 2) 26 _ := Gr.blk hb (C3_t5)
  have l3_t5 := B3_t5.lt
  have B3_t6 : Blk w13 (w11.heap.size) 26 _ := Gr.blk hb (hL3)
  have l3_t6 := B3_t6.lt
  have hB3 := Below.gr (hC3) hb
  have sz3 := hB3.size
  clear hb
  go_wp2_with (first | ((with_reducible refine here_store ?_); refine wpList_store_blk rfl _ _ _ rfl (w11.heap.size) (fcs (y3)) rfl rfl _ _ (B3_t6) (by kernel_rfl) (by rfl) (fcs_one _) ?_; intro v14 hL4 hq4 hK4; have C4_a := hK4 _ (by omega) _ _ (B3_a); have C4_t2 := hK4 _ (by omega) _ _ (B3_t2); have C4_t3 := hK4 _ (by omega) _ _ (B3_t3); have C4_t4 := hK4 _ (by omega) _ _ (B3_t4); have C4_t5 := hK4 _ (by omega) _ _ (B3_t5); have hC4 := (hB3).trans (hq4 _ (by omega))) | ((with_reducible refine here_load (d := some 22) ?_); refine wpList_load_fv rfl _ _ rfl (w11.heap.size) rfl (y3) _ _ _ (hL4) (fv_fcs (y3)) Tryd.underlying26 rfl (by kernel_rfl) ?_) | ((with_reducible refine here_load (d := some 23) ?_); refine wpList_load_fv rfl _ _ rfl (w.heap.size) rfl (x) _ _ _ (C4_a) (fv_fcs (x)) Tryd.underlying26 rfl (by kernel_rfl) ?_))
  refine (c4 _).mono ?_
  rintro e w14 ⟨rfl, hb⟩
  have B4_a : Blk w14 (w.heap.size) 26 _ := Gr.blk hb (C4_a)
  have l4_a := B4_a.lt
  have B4_t2 : Blk w14 (w.heap.size + 1) 26 _ := Gr.blk hb (C4_t2)
  have l4_t2 := B4_t2.lt
  have B4_t3 : Blk w14 (w10.heap.size) 26 _ := Gr.blk hb (C4_t3)
  have l4_t3 := B4_t3.lt
  have B4_t4 : Blk w14 (w10.heap.size + 1) 26 _ := Gr.blk hb (C4_t4)
  have l4_t4 := B4_t4.lt
  have B4_t5 : Blk w14 (w10.heap.size + 2) 26 _ := Gr.blk hb (C4_t5)
  have l4_t5 := B4_t5.lt
  have B4_t6 : Blk w14 (w11.heap.size) 26 _ := Gr.blk hb (hL4)
  have l4_t6 := B4_t6.lt
  have hB4 := Below.gr (hC4) hb
  have sz4 := hB4.size
  clear hb
  go_wp2_with (first | ((with_reducible refine here_store ?_); refine wpList_store_blk rfl _ _ _ rfl (w.heap.size + 1) (fcs (y4)) rfl rfl _ _ (B4_t2) (by kernel_rfl) (by rfl) (fcs_one _) ?_; intro v15 hL5 hq5 hK5; have C5_a := hK5 _ (by omega) _ _ (B4_a); have C5_t3 := hK5 _ (by omega) _ _ (B4_t3); have C5_t4 := hK5 _ (by omega) _ _ (B4_t4); have C5_t5 := hK5 _ (by omega) _ _ (B4_t5); have C5_t6 := hK5 _ (by omega) _ _ (B4_t6); have hC5 := (hB4).trans (hq5 _ (by omega))))
  exact bodyPost_ret (results_cell_row rfl _ _ (w.heap.size + 1) _ _ (0, 0) _ rfl hL5 Tryd.underlying26 rfl (by kernel_rfl)) rfl ⟨rfl, hC5⟩
end Go.Proofs.YtneeefinaejgcaaDoor

end
section
namespace Go.Proofs.YtneeefinaejgcaaDoor.Cu
open Go.RowKit Go.Proofs.YtneeefinaejgcaaDoor Go.Proofs.YtneeefinaejgcaaDoor.Sy

instance npM : NeZero pM := ⟨by unfold pM; decide⟩
/-- a remainder modulo p -/
abbrev Fp := Fin pM
theorem pM_K4 : pM < 115792089237316195423570985008687907853269984665640564039457584007913129639936 := by rw [pM_eq]; decide
theorem lt4 (a : Fp) : a.val < 115792089237316195423570985008687907853269984665640564039457584007913129639936 := Nat.lt_trans a.isLt pM_K4
/-- its inverse, and 0 for 0 -/
def finv (a : Fp) : Fp := ⟨invR a.val, by rw [← invR_red]; exact mod_lt_p _⟩
/-- a word's number -/
def nat (k : Nat) (h : k < pM) : Fp := ⟨k, h⟩

theorem val_sub (a b : Fp) : subP a.val b.val = (a - b).val := by
  have hb := b.isLt
  show (a.val + (pM - b.val % pM)) % pM = ((pM - b.val) + a.val) % pM
  rw [Nat.mod_eq_of_lt hb, Nat.add_comm]
theorem val_neg (a : Fp) : negP a.val = (-a).val := by
  have hb := a.isLt
  show (pM - a.val % pM) % pM = (pM - a.val) % pM
  rw [Nat.mod_eq_of_lt hb]
theorem mul_c (a b : Fp) (w : World) : Calls Tryd.prog 24 #[fv a.val, fv b.val] w (Gets w (fv (a * b).val)) := mulF_any w a.val b.val (lt4 a) (lt4 b)
theorem add_c (a b : Fp) (w : World) : Calls Tryd.prog 53 #[fv a.val, fv b.val] w (Gets w (fv (a + b).val)) := addF_any w a.val b.val (lt4 a) (lt4 b)
theorem sub_c (a b : Fp) (w : World) : Calls Tryd.prog 36 #[fv a.val, fv b.val] w (Gets w (fv (a - b).val)) := by rw [← val_sub]; exact subF_any w a.val b.val (lt4 a) (lt4 b)
theorem neg_c (a : Fp) (w : World) : Calls Tryd.prog 37 #[fv a.val] w (Gets w (fv (-a).val)) := by rw [← val_neg]; exact negF_any w a.val (lt4 a)
theorem inv_c (a : Fp) (w : World) : Calls Tryd.prog 72 #[fv a.val] w (Gets w (fv (finv a).val)) := inv_any w a.val (lt4 a)
theorem of_c (k : Nat) (h : k < pM) (hk : k < 18446744073709551616) (w : World) : Calls Tryd.prog 54 #[.int .u64 (k : Int)] w (Gets w (fv (nat k h).val)) := of_any w k hk

/-! ## The field -/
theorem inv_gen (p q a : Nat) (hp : Nt.Pr p) (hq : q + 1 = p - 1) (h : a % p ≠ 0) : a * (a ^ q % p) % p = 1 := by
  rw [Nat.mul_mod_mod, ← Nat.pow_succ', show q.succ = p - 1 from hq]
  exact Nt.flt hp a h
theorem finv_one (a : Fp) (h : a ≠ 0) : a * finv a = 1 := by
  have hp : Nt.Pr pM := Nt.pr_p
  have ha : a.val % pM ≠ 0 := by
    rw [Nat.mod_eq_of_lt a.isLt]
    exact fun e => h (Fin.ext e)
  obtain ⟨q, hq⟩ : ∃ q, q = eInv := ⟨_, rfl⟩
  have hq1 : q + 1 = pM - 1 := by rw [hq]; decide +kernel
  have e1 := invR_pow a.val
  rw [← hq] at e1
  have e2 := inv_gen pM q a.val hp hq1 ha
  rw [← e1, Nat.mul_mod_mod] at e2
  exact Fin.ext e2
theorem cube_one (p q r x : Nat) (hp : Nt.Pr p) (hq : p - 1 = 3 * q) (h3 : x ^ 3 % p = r) (hx : x % p ≠ 0) : r ^ q % p = 1 := by
  have := Nt.flt hp x hx
  rw [hq, Nat.pow_mul, Nat.pow_mod, h3] at this
  exact this
/-- a third of p - 1 -/
def thirdP : Nat := 38597363079105398474523661669562635951089994888546854679819194669302944890554
theorem thirdP_is : pM - 1 = 3 * thirdP := by decide +kernel
/-- -7 is no cube -/
theorem no_cube : (pM - 7) ^ thirdP % pM ≠ 1 := by
  rw [← Nt.pow_is 256 pM (pM - 7) thirdP (by decide +kernel) (by decide +kernel)]
  decide +kernel
theorem no_two (x y : Fp) (h : y * y = x * x * x + 7) : y ≠ 0 := by
  rintro rfl
  have hx : x ≠ 0 := by
    rintro rfl
    have := congrArg Fin.val h
    exact absurd this (by decide +kernel)
  have ha : x.val % pM ≠ 0 := by
    rw [Nat.mod_eq_of_lt x.isLt]
    exact fun e => hx (Fin.ext e)
  have h3 : x.val ^ 3 % pM = pM - 7 := by
    have h4 : x * x * x = ⟨pM - 7, by decide +kernel⟩ := by
      have e7 : (⟨pM - 7, by decide +kernel⟩ : Fp) = -7 := by decide +kernel
      rw [e7]
      clear ha hx
      grobner
    have h5 := congrArg Fin.val h4
    have h6 : (x * x * x).val = x.val ^ 3 % pM := by
      show x.val * x.val % pM * x.val % pM = x.val ^ 3 % pM
      rw [Nat.mod_mul_mod, show x.val ^ 3 = x.val * x.val * x.val by rw [Nat.pow_succ, Nat.pow_succ, Nat.pow_one]]
    rw [← h6, h5]
  exact no_cube (cube_one pM thirdP _ x.val Nt.pr_p thirdP_is h3 ha)
theorem twice_zero (p k : Nat) (ho : p % 2 = 1) (h : k < p) (h2 : (k + k) % p = 0) : k = 0 := by
  rcases Nat.lt_or_ge (k + k) p with hl | hl
  · rw [Nat.mod_eq_of_lt hl] at h2
    omega
  · rw [Nat.mod_eq_sub_mod hl, Nat.mod_eq_of_lt (by omega)] at h2
    omega
theorem fld : Ec.Fld pM finv where
  one := finv_one
  two x h := Fin.ext (twice_zero pM x.val (by decide +kernel) x.isLt (congrArg Fin.val h))
  noTwo := no_two
end Go.Proofs.YtneeefinaejgcaaDoor.Cu

end
section
namespace Go.Proofs.YtneeefinaejgcaaDoor.Nm
open Go.RowKit Go.Lib

theorem run_equalIn_fv (W : World) (n m : Nat) (hn : n < 115792089237316195423570985008687907853269984665640564039457584007913129639936) (hm : m < 115792089237316195423570985008687907853269984665640564039457584007913129639936) : (Op.equalIn 10000 68 (fv n) (fv m)).run Tryd.prog W = .ok (decide (n = m)) W := by
  rw [fv_wl, fv_wl]
  have h := run_equalIn_words W 9998 68 24 4 Tryd.underlying68 Tryd.underlying24 (fun W => by kernel_rfl) (wl n) (wl m) rfl rfl
  rw [wl_beq hn hm] at h
  exact h
theorem run_neq_fv (W : World) (n m : Nat) (hn : n < 115792089237316195423570985008687907853269984665640564039457584007913129639936) (hm : m < 115792089237316195423570985008687907853269984665640564039457584007913129639936) : (binOp .neq 68 (fv n) (fv m)).run Tryd.prog W = .ok (.bool (decide (n ≠ m))) W := by
  have h := run_equalIn_fv W n m hn hm
  rw [fv_wl, fv_wl] at h ⊢
  rw [run_neq_struct, h]
  by_cases e : n = m <;> simp [e]

theorem run_eqGuard_fv (op : BinOp) (x y : Operand) (n m : Nat) (W : World) : (eqGuard op 68 x y (fv n) (fv m)).run Tryd.prog W = .ok () W := by
  rw [fv_fcs, fv_fcs]
  go_simp

end Go.Proofs.YtneeefinaejgcaaDoor.Nm

end
section
namespace Go.Proofs.YtneeefinaejgcaaDoor.Cu
open Go.RowKit Go.Proofs.YtneeefinaejgcaaDoor Go.Proofs.YtneeefinaejgcaaDoor.Sy

abbrev Pt := Ec.Pt pM
abbrev K4 : Nat := 115792089237316195423570985008687907853269984665640564039457584007913129639936
/-- a number's cells, as a list -/
def fws (n : Nat) : List Value := [qv (n % 18446744073709551616), qv (n / 18446744073709551616 % 18446744073709551616), qv (n / 340282366920938463463374607431768211456 % 18446744073709551616), qv (n / 6277101735386680763835789423207666416102355444464034512896 % 18446744073709551616)]
/-- a point's cells -/
def pcs (x y : Nat) (i : Bool) : Array Value := (fws x ++ (fws y ++ [Value.bool i])).toArray
def pv (x y : Nat) (i : Bool) : Value := .agg (pcs x y i)
/-- which triples of numbers are right -/
def rightB (x y : Nat) (i : Bool) : Bool := if i then (decide (x = 0) && decide (y = 0)) else decide (x < pM) && decide (y < pM) && decide (y * y % pM = (x * x % pM * x % pM + 7) % pM)
/-- the point that they are taken for -/
def dec (x y : Nat) (i : Bool) : Pt := if h : i = false ∧ x < pM ∧ y < pM ∧ y * y % pM = (x * x % pM * x % pM + 7) % pM then some (⟨x, h.2.1⟩, ⟨y, h.2.2.1⟩) else none
/-- a point's value -/
def ptv : Pt → Value
  | none => pv 0 0 true
  | some (x, y) => pv x.val y.val false
theorem dec_on (x y : Nat) (i : Bool) : Ec.On (dec x y i) := by
  unfold dec
  split
  · rename_i h
    show (_ : Fp) * _ = _ * _ * _ + 7
    refine Fin.ext ?_
    exact h.2.2.2
  · trivial
theorem dec_fin (x y : Fp) (h : y * y = x * x * x + 7) : dec x.val y.val false = some (x, y) := by
  unfold dec
  rw [dif_pos ⟨rfl, x.isLt, y.isLt, congrArg Fin.val h⟩]
theorem dec_inf (x y : Nat) : dec x y true = none := by
  unfold dec
  rw [dif_neg (by simp)]
theorem dec_zero : dec 0 0 true = none := dec_inf 0 0
theorem dec_right (x y : Nat) (h : rightB x y false = true) : ∃ (hx : x < pM) (hy : y < pM), dec x y false = some (⟨x, hx⟩, ⟨y, hy⟩) := by
  unfold rightB at h
  simp only [Bool.false_eq_true, if_false, Bool.and_eq_true, decide_eq_true_eq] at h
  refine ⟨h.1.1, h.1.2, ?_⟩
  unfold dec
  rw [dif_pos ⟨rfl, h.1.1, h.1.2, h.2⟩]
theorem dec_wrong (x y : Nat) (i : Bool) (h : rightB x y i = false) : dec x y i = none := by
  unfold rightB at h
  unfold dec
  rw [dif_neg]
  rintro ⟨rfl, h1, h2, h3⟩
  simp [h1, h2, h3] at h
/-- what is taken for itself -/
theorem ptv_right (x y : Nat) (i : Bool) (h : rightB x y i = true) : ptv (dec x y i) = pv x y i := by
  cases i
  · obtain ⟨hx, hy, e⟩ := dec_right x y h
    rw [e]; rfl
  · unfold rightB at h
    simp only [if_true, Bool.and_eq_true, decide_eq_true_eq] at h
    rw [dec_inf, h.1, h.2]; rfl
theorem ptv_wrong (x y : Nat) (i : Bool) (h : rightB x y i = false) : ptv (dec x y i) = pv 0 0 true := by rw [dec_wrong x y i h]; rfl
/-- each point of the curve is the value of some three -/
theorem ptv_raw (P : Pt) (h : Ec.On P) : ∃ x y i, x < K4 ∧ y < K4 ∧ ptv P = pv x y i ∧ dec x y i = P ∧ rightB x y i = true := by
  rcases P with _ | ⟨x, y⟩
  · exact ⟨0, 0, true, by decide, by decide, rfl, dec_zero, rfl⟩
  · refine ⟨x.val, y.val, false, lt4 x, lt4 y, rfl, dec_fin x y h, ?_⟩
    unfold rightB
    rw [if_neg (by simp)]
    simp only [Bool.and_eq_true, decide_eq_true_eq]
    exact ⟨⟨x.isLt, y.isLt⟩, congrArg Fin.val h⟩
/-! ## Points compared -/
theorem part_fe (cs : Array Value) (o : Nat) (W : World) : (part 26 cs o).run Tryd.prog W = .ok (.agg (cs.extract o (o + 4))) W := by
  have h1 := Tryd.isAgg26
  have h2 := Tryd.sizeOf26
  simp [part, h1, h2, go_sem]
theorem part_bool (cs : Array Value) (o : Nat) (b : Bool) (hb : cs[o]? = some (.bool b)) (W : World) : (part 4 cs o).run Tryd.prog W = .ok (.bool b) W := by
  have h1 := Tryd.isAgg4
  simp [part, h1, hb, go_sem]
theorem pcs_x (x y : Nat) (i : Bool) : (pcs x y i).extract 0 (0 + 4) = fcs x := rfl
theorem pcs_y (x y : Nat) (i : Bool) : (pcs x y i).extract 4 (4 + 4) = fcs y := rfl
theorem pcs_i (x y : Nat) (i : Bool) : (pcs x y i)[8]? = some (.bool i) := rfl
theorem eql_fe_at (W : World) (n m : Nat) (hn : n < K4) (hm : m < K4) : (Op.equalIn 9999 26 (.agg (fcs n)) (.agg (fcs m))).run Tryd.prog W = .ok (decide (n = m)) W := by
  have h := run_equalIn_words W 9997 26 24 4 Tryd.underlying26 Tryd.underlying24 (fun W => by kernel_rfl) (wl n) (wl m) rfl rfl
  rw [wl_beq hn hm] at h
  exact h
theorem eql_bool_at (W : World) (a b : Bool) : (Op.equalIn 9999 4 (.bool a) (.bool b)).run Tryd.prog W = .ok (a == b) W := by
  cases a <;> cases b <;> kernel_rfl
/-- two points are the same -/
def sameB (x y : Nat) (i : Bool) (u v : Nat) (j : Bool) : Bool := decide (x = u) && (decide (y = v) && (i == j))
theorem run_eql_pv (W : World) (x y : Nat) (i : Bool) (u v : Nat) (j : Bool) (hx : x < K4) (hy : y < K4) (hu : u < K4) (hv : v < K4) :
    (binOp .eql 28 (pv x y i) (pv u v j)).run Tryd.prog W = .ok (.bool (sameB x y i u v j)) W := by
  have hS : Tryd.prog.underlying 28 = some (.struct (Tryd.prog.fieldsOf 28)) := by kernel_rfl
  have hpp : Tryd.prog.stoodInHeld 28 = false := by kernel_rfl
  unfold pv
  rw [run_eql_struct, show (10000 : Nat) = 9999 + 1 from rfl, run_equalIn_struct W 9999 28 _ _ hS hpp]
  simp only [Program.fieldsOf, Tryd.underlying28]
  have a1 : ∀ W, (part 26 (pcs x y i) 0).run Tryd.prog W = .ok (.agg (fcs x)) W := fun W => by rw [part_fe, pcs_x]
  have a2 : ∀ W, (part 26 (pcs u v j) 0).run Tryd.prog W = .ok (.agg (fcs u)) W := fun W => by rw [part_fe, pcs_x]
  have a3 : ∀ W, (part 26 (pcs x y i) 4).run Tryd.prog W = .ok (.agg (fcs y)) W := fun W => by rw [part_fe, pcs_y]
  have a4 : ∀ W, (part 26 (pcs u v j) 4).run Tryd.prog W = .ok (.agg (fcs v)) W := fun W => by rw [part_fe, pcs_y]
  have a5 : ∀ W, (part 4 (pcs x y i) 8).run Tryd.prog W = .ok (.bool i) W := fun W => part_bool _ 8 i (pcs_i x y i) W
  have a6 : ∀ W, (part 4 (pcs u v j) 8).run Tryd.prog W = .ok (.bool j) W := fun W => part_bool _ 8 j (pcs_i u v j) W
  have e1 : ∀ W, _ := fun W => eql_fe_at W x u hx hu
  have e2 : ∀ W, _ := fun W => eql_fe_at W y v hy hv
  have e3 : ∀ W, _ := fun W => eql_bool_at W i j
  unfold sameB
  generalize decide (x = u) = b1 at *
  generalize decide (y = v) = b2 at *
  generalize (i == j) = b3 at *
  cases b1 <;> cases b2 <;> cases b3 <;> simp [Op.eqFields, a1, a2, a3, a4, a5, a6, e1, e2, e3, Sem.run_bind, Sem.run_ite]
theorem run_eqGuard_pv (op : BinOp) (x y : Operand) (a b : Nat) (i : Bool) (u v : Nat) (j : Bool) (W : World) : (eqGuard op 28 x y (pv a b i) (pv u v j)).run Tryd.prog W = .ok () W := by
  unfold pv
  go_simp
end Go.Proofs.YtneeefinaejgcaaDoor.Cu

end
section
namespace Go.Proofs.YtneeefinaejgcaaDoor.Cu
open Go.RowKit Go.Proofs.YtneeefinaejgcaaDoor Go.Proofs.YtneeefinaejgcaaDoor.Sy

/-- two numbers compared by an operation -/
theorem eql_fe (w : World) (F : Slots) (o : Oper) (x y : Operand) (n m : Nat) {yt : TypeId} (ho : o.op = .binOp .eql 26 x y yt) (hx : evF F x = fv n) (hy : evF F y = fv m) (hn : n < K4) (hm : m < K4) : (execOp (evF F) o).run Tryd.prog w = .ok (.value (.bool (decide (n = m)))) w := by
  have h1 := run_eqGuard_fv .eql x y n m w
  have h2 := run_eql_fv w n m hn hm
  unfold execOp
  simp only [ho, hx, hy, Sem.run_bind, h1, h2, Result.andThen_ok, Sem.run_pure]
theorem eql_pt (w : World) (F : Slots) (o : Oper) (x y : Operand) (a b : Nat) (i : Bool) (c d : Nat) (j : Bool) {yt : TypeId} (ho : o.op = .binOp .eql 28 x y yt) (hx : evF F x = pv a b i) (hy : evF F y = pv c d j) (ha : a < K4) (hb : b < K4) (hc : c < K4) (hd : d < K4) : (execOp (evF F) o).run Tryd.prog w = .ok (.value (.bool (sameB a b i c d j))) w := by
  have h1 := run_eqGuard_pv .eql x y a b i c d j w
  have h2 := run_eql_pv w a b i c d j ha hb hc hd
  unfold execOp
  simp only [ho, hx, hy, Sem.run_bind, h1, h2, Result.andThen_ok, Sem.run_pure]
set_option maxHeartbeats 4000000 in
set_option maxRecDepth 100000 in
theorem zero_c (w : World)  : Calls Tryd.prog 18 #[] w (Gets w (pv 0 0 true)) := by
  refine Sy.enter (args := []) Tryd.func18 rfl (Nat.le_of_ble_eq_true (by kernel_rfl)) ?_
  refine Sy.seq ?_
  refine Sy.region ?_
  refine Sy.make (by kernel_rfl) 28 (pcs 0 0 false) ptr (fun _ => by kernel_rfl) (fun g0 => ?_)
  refine Sy.nil ?_
  refine Sy.then_ ?_
  refine Sy.seq ?_
  refine Sy.region ?_
  refine Sy.step (by kernel_rfl) (pv 0 0 true) (Quiet.pure (fun _ => by kernel_rfl)) ?_
  refine Sy.write (by kernel_rfl) 0 g0 28 (pcs 0 0 false) (pcs 0 0 true) (by kernel_rfl) (Writes.store 0 28 (pcs 0 0 true) _ _ rfl (by kernel_rfl) (by kernel_rfl) (by kernel_rfl) (Nat.le_of_ble_eq_true (by kernel_rfl)) (by kernel_rfl) (by kernel_rfl)) ?_
  refine Sy.nil ?_
  refine Sy.then_ ?_
  refine Sy.ret ?_
  exact Sy.ret1 (v := pv 0 0 true) rfl (.inl (Res.cell (ty' := 28) g0 0 (pcs 0 0 true) _ (by kernel_rfl) (by kernel_rfl) Tryd.underlying28 rfl (by kernel_rfl) (by kernel_rfl)))
def gx : Fp := ⟨55066263022277343669578718895168534326250603453777594175500187360389116729240, by decide +kernel⟩
def gy : Fp := ⟨32670510020758816978083085130507043184471273380659243275938904335757337482424, by decide +kernel⟩
def bP : Pt := some (gx, gy)
theorem bP_on : Ec.On bP := by
  show gy * gy = gx * gx * gx + 7
  decide +kernel
set_option maxHeartbeats 4000000 in
set_option maxRecDepth 100000 in
theorem base_c (w : World)  : Calls Tryd.prog 15 #[] w (Gets w (ptv bP)) := by
  refine Sy.enter (args := []) Tryd.func15 rfl (Nat.le_of_ble_eq_true (by kernel_rfl)) ?_
  refine Sy.seq ?_
  refine Sy.region ?_
  refine Sy.make (by kernel_rfl) 28 (pcs 0 0 false) ptr (fun _ => by kernel_rfl) (fun g0 => ?_)
  refine Sy.nil ?_
  refine Sy.then_ ?_
  refine Sy.seq ?_
  refine Sy.region ?_
  refine Sy.step (by kernel_rfl) (fv 55066263022277343669578718895168534326250603453777594175500187360389116729240) (Quiet.pure (fun _ => by kernel_rfl)) ?_
  refine Sy.step (by kernel_rfl) (fv 32670510020758816978083085130507043184471273380659243275938904335757337482424) (Quiet.pure (fun _ => by kernel_rfl)) ?_
  refine Sy.step (by kernel_rfl) (pv 55066263022277343669578718895168534326250603453777594175500187360389116729240 32670510020758816978083085130507043184471273380659243275938904335757337482424 false) (Quiet.pure (fun _ => by kernel_rfl)) ?_
  refine Sy.write (by kernel_rfl) 0 g0 28 (pcs 0 0 false) (pcs 55066263022277343669578718895168534326250603453777594175500187360389116729240 32670510020758816978083085130507043184471273380659243275938904335757337482424 false) (by kernel_rfl) (Writes.store 0 28 (pcs 55066263022277343669578718895168534326250603453777594175500187360389116729240 32670510020758816978083085130507043184471273380659243275938904335757337482424 false) _ _ rfl (by kernel_rfl) (by kernel_rfl) (by kernel_rfl) (Nat.le_of_ble_eq_true (by kernel_rfl)) (by kernel_rfl) (by kernel_rfl)) ?_
  refine Sy.nil ?_
  refine Sy.then_ ?_
  refine Sy.ret ?_
  rw [show (ptv bP : Value) = pv 55066263022277343669578718895168534326250603453777594175500187360389116729240 32670510020758816978083085130507043184471273380659243275938904335757337482424 false from by kernel_rfl]
  exact Sy.ret1 (v := pv 55066263022277343669578718895168534326250603453777594175500187360389116729240 32670510020758816978083085130507043184471273380659243275938904335757337482424 false) rfl (.inl (Res.cell (ty' := 28) g0 0 (pcs 55066263022277343669578718895168534326250603453777594175500187360389116729240 32670510020758816978083085130507043184471273380659243275938904335757337482424 false) _ (by kernel_rfl) (by kernel_rfl) Tryd.underlying28 rfl (by kernel_rfl) (by kernel_rfl)))
set_option maxHeartbeats 4000000 in
set_option maxRecDepth 100000 in
theorem square_c (w : World) (x : Fp) : Calls Tryd.prog 25 #[fv x.val] w (Gets w (fv (x * x * x + 7).val)) := by
  refine Sy.enter (args := [fv x.val]) Tryd.func25 rfl (Nat.le_of_ble_eq_true (by kernel_rfl)) ?_
  refine Sy.seq ?_
  refine Sy.region ?_
  refine Sy.make (by kernel_rfl) 26 (fcs x.val) ptr (fun _ => by kernel_rfl) (fun g0 => ?_)
  refine Sy.make (by kernel_rfl) 26 (fcs 0) ptr (fun _ => by kernel_rfl) (fun g1 => ?_)
  refine Sy.nil ?_
  refine Sy.then_ ?_
  refine Sy.seq ?_
  refine Sy.regionD (fun j => j == 7) (by kernel_rfl) ?_
  refine Sy.stepD 0 rfl (by kernel_rfl) (fun _ _ _ _ h => h) (by kernel_rfl) (fv x.val) (Quiet.load 0 g0 0 4 26 26 (fcs x.val) _ _ rfl (by kernel_rfl) (by kernel_rfl) Tryd.underlying26 rfl (by kernel_rfl) _ (by kernel_rfl) (Nat.le_of_ble_eq_true (by kernel_rfl))) ?_
  refine Sy.stepD 1 rfl (by kernel_rfl) (fun _ _ _ _ h => h) (by kernel_rfl) (fv x.val) (Quiet.load 0 g0 0 4 26 26 (fcs x.val) _ _ rfl (by kernel_rfl) (by kernel_rfl) Tryd.underlying26 rfl (by kernel_rfl) _ (by kernel_rfl) (Nat.le_of_ble_eq_true (by kernel_rfl))) ?_
  obtain ⟨z1, hz1⟩ : ∃ z : Fp, z = x * x := ⟨_, rfl⟩
  refine Sy.stepD 2 rfl (by kernel_rfl) (fun _ _ _ _ h => h) (by kernel_rfl) (fv z1.val) (Quiet.call 24 #[fv x.val, fv x.val] (fun _ => by kernel_rfl) (by rw [hz1]; exact mul_c x x)) ?_
  refine Sy.stepD 3 rfl (by kernel_rfl) (fun _ _ _ _ h => h) (by kernel_rfl) (fv x.val) (Quiet.load 0 g0 0 4 26 26 (fcs x.val) _ _ rfl (by kernel_rfl) (by kernel_rfl) Tryd.underlying26 rfl (by kernel_rfl) _ (by kernel_rfl) (Nat.le_of_ble_eq_true (by kernel_rfl))) ?_
  obtain ⟨z2, hz2⟩ : ∃ z : Fp, z = z1 * x := ⟨_, rfl⟩
  refine Sy.stepD 4 rfl (by kernel_rfl) (fun _ _ _ _ h => h) (by kernel_rfl) (fv z2.val) (Quiet.call 24 #[fv z1.val, fv x.val] (fun _ => by kernel_rfl) (by rw [hz2]; exact mul_c z1 x)) ?_
  obtain ⟨z3, hz3⟩ : ∃ z : Fp, z = (nat 7 (by decide +kernel) : Fp) := ⟨_, rfl⟩
  refine Sy.stepD 5 rfl (by kernel_rfl) (fun _ _ _ _ h => h) (by kernel_rfl) (fv z3.val) (Quiet.call 54 #[.int .u64 7] (fun _ => by kernel_rfl) (by rw [hz3]; exact of_c 7 (by decide +kernel) (by decide))) ?_
  obtain ⟨z4, hz4⟩ : ∃ z : Fp, z = z2 + z3 := ⟨_, rfl⟩
  refine Sy.stepD 6 rfl (by kernel_rfl) (fun _ _ _ _ h => h) (by kernel_rfl) (fv z4.val) (Quiet.call 53 #[fv z2.val, fv z3.val] (fun _ => by kernel_rfl) (by rw [hz4]; exact add_c z2 z3)) ?_
  refine Sy.writeD 7 rfl (by kernel_rfl) (by rfl) (by kernel_rfl) 1 g1 26 (fcs 0) (fcs z4.val) (by kernel_rfl) (Writes.store 0 26 (fcs z4.val) _ _ rfl (by kernel_rfl) (by kernel_rfl) (by kernel_rfl) (Nat.le_of_ble_eq_true (by kernel_rfl)) (by kernel_rfl) (by kernel_rfl)) ?_
  refine Sy.doneD (by kernel_rfl) ?_
  refine Sy.then_ ?_
  refine Sy.ret ?_
  rw [show (fv (x * x * x + 7).val : Value) = fv z4.val from by rw [hz4, hz3, hz2, hz1]; rfl]
  exact Sy.ret1 (v := fv z4.val) rfl (.inl (Res.cell (ty' := 26) g1 1 (fcs z4.val) _ (by kernel_rfl) (by kernel_rfl) Tryd.underlying26 rfl (by kernel_rfl) (by kernel_rfl)))
theorem rightB_inf (x y : Nat) : sameB x y true 0 0 true = rightB x y true := by
  unfold sameB rightB
  simp
theorem fp_of {x z : Nat} (h1 : z = x % pM) (h2 : true = decide (z = x)) : ∃ u : Fp, x = u.val := by
  have h3 : z = x := of_decide_eq_true h2.symm
  exact ⟨⟨x, by rw [← h3, h1]; exact mod_lt_p x⟩, rfl⟩
theorem not_fp {x z : Nat} (h1 : z = x % pM) (h2 : false = decide (z = x)) : ¬ x < pM := fun h => by
  rw [h1, Nat.mod_eq_of_lt h] at h2
  simp at h2
theorem rb_x {x : Nat} (h : ¬ x < pM) (y : Nat) : rightB x y false = false := by unfold rightB; simp [h]
theorem rb_y {y : Nat} (h : ¬ y < pM) (x : Nat) : rightB x y false = false := by unfold rightB; simp [h]
theorem rb_xy (x y : Fp) : rightB x.val y.val false = decide ((y * y).val = (x * x * x + 7).val) := by
  unfold rightB
  simp only [Bool.false_eq_true, if_false, x.isLt, y.isLt, decide_true, Bool.true_and]
  rfl
set_option maxHeartbeats 4000000 in
set_option maxRecDepth 100000 in
theorem right_b (w : World) (x y : Nat) (i : Bool) (hx : x < K4) (hy : y < K4) : Calls Tryd.prog 8 #[pv x y i] w (Gets w (.bool (rightB x y i))) := by
  refine Sy.enter (args := [pv x y i]) Tryd.func8 rfl (Nat.le_of_ble_eq_true (by kernel_rfl)) ?_
  refine Sy.seq ?_
  refine Sy.region ?_
  refine Sy.make (by kernel_rfl) 28 (pcs x y i) ptr (fun _ => by kernel_rfl) (fun g0 => ?_)
  refine Sy.step (by kernel_rfl) (.bool false) (Quiet.pure (fun _ => by kernel_rfl)) ?_
  refine Sy.nil ?_
  refine Sy.then_ ?_
  refine Sy.seq ?_
  refine Sy.seq ?_
  refine Sy.region ?_
  refine Sy.step (by kernel_rfl) (.pointer (some ⟨g0, 8, none⟩)) (Quiet.pure (fun _ => by kernel_rfl)) ?_
  refine Sy.step (by kernel_rfl) (.bool i) (Quiet.cell 0 g0 8 28 4 (pcs x y i) _ _ rfl (by kernel_rfl) (by kernel_rfl) Tryd.underlying4 rfl _ (by kernel_rfl)) ?_
  refine Sy.nil ?_
  refine Sy.then_ ?_
  cases i
  · refine Sy.cond_f (by kernel_rfl) (by kernel_rfl) ?_
    refine Sy.skip ?_
    refine Sy.then_ ?_
    refine Sy.seq ?_
    refine Sy.regionD (fun j => false) (by kernel_rfl) ?_
    refine Sy.stepD 0 rfl (by kernel_rfl) (fun _ _ _ _ h => h) (by kernel_rfl) (.pointer (some ⟨g0, 0, none⟩)) (Quiet.pure (fun _ => by kernel_rfl)) ?_
    refine Sy.stepD 1 rfl (by kernel_rfl) (fun _ _ _ _ h => h) (by kernel_rfl) (fv x) (Quiet.load 0 g0 0 4 28 26 (pcs x y false) _ _ rfl (by kernel_rfl) (by kernel_rfl) Tryd.underlying26 rfl (by kernel_rfl) _ (by kernel_rfl) (Nat.le_of_ble_eq_true (by kernel_rfl))) ?_
    obtain ⟨z1, hz1⟩ : ∃ z : Nat, z = x % pM := ⟨_, rfl⟩
    have lz1 : z1 < K4 := by rw [hz1]; exact mod_lt x
    refine Sy.stepD 2 rfl (by kernel_rfl) (fun _ _ _ _ h => h) (by kernel_rfl) (fv z1) (Quiet.call 23 #[fv x] (fun _ => by kernel_rfl) (fun w => by rw [hz1]; exact norm_any w x (by first | assumption | exact lt4 _))) ?_
    refine Sy.stepD 3 rfl (by kernel_rfl) (fun _ _ _ _ h => h) (by kernel_rfl) (.pointer (some ⟨g0, 0, none⟩)) (Quiet.pure (fun _ => by kernel_rfl)) ?_
    refine Sy.stepD 4 rfl (by kernel_rfl) (fun _ _ _ _ h => h) (by kernel_rfl) (fv x) (Quiet.load 0 g0 0 4 28 26 (pcs x y false) _ _ rfl (by kernel_rfl) (by kernel_rfl) Tryd.underlying26 rfl (by kernel_rfl) _ (by kernel_rfl) (Nat.le_of_ble_eq_true (by kernel_rfl))) ?_
    obtain ⟨b1, hb1⟩ : ∃ z : Bool, z = decide (z1 = x) := ⟨_, rfl⟩
    refine Sy.stepD 5 rfl (by kernel_rfl) (fun _ _ _ _ h => h) (by kernel_rfl) (.bool b1) (Quiet.pure (fun w => by rw [hb1]; exact eql_fe w _ _ _ _ _ _ rfl rfl rfl (by first | assumption | exact lt4 _ | decide +kernel) (by first | assumption | exact lt4 _ | decide +kernel))) ?_
    refine Sy.stepD 6 rfl (by kernel_rfl) (fun _ _ _ _ h => h) (by kernel_rfl) (.bool b1) (Quiet.pure (fun _ => by kernel_rfl)) ?_
    cases b1
    · refine Sy.passD 7 rfl (by kernel_rfl) (fun _ _ _ _ h => h) (by kernel_rfl) (by kernel_rfl) ?_
      refine Sy.passD 8 rfl (by kernel_rfl) (fun _ _ _ _ h => h) (by kernel_rfl) (by kernel_rfl) ?_
      refine Sy.passD 9 rfl (by kernel_rfl) (fun _ _ _ _ h => h) (by kernel_rfl) (by kernel_rfl) ?_
      refine Sy.passD 10 rfl (by kernel_rfl) (fun _ _ _ _ h => h) (by kernel_rfl) (by kernel_rfl) ?_
      refine Sy.passD 11 rfl (by kernel_rfl) (fun _ _ _ _ h => h) (by kernel_rfl) (by kernel_rfl) ?_
      refine Sy.passD 12 rfl (by kernel_rfl) (fun _ _ _ _ h => h) (by kernel_rfl) (by kernel_rfl) ?_
      refine Sy.stepD 13 rfl (by kernel_rfl) (fun _ _ _ _ h => h) (by kernel_rfl) (.bool false) (Quiet.pure (fun _ => by kernel_rfl)) ?_
      refine Sy.stepD 14 rfl (by kernel_rfl) (fun _ _ _ _ h => h) (by kernel_rfl) (.bool false) (Quiet.pure (fun _ => by kernel_rfl)) ?_
      refine Sy.doneD (by kernel_rfl) ?_
      refine Sy.then_ ?_
      refine Sy.seq ?_
      refine Sy.regionD (fun j => false) (by kernel_rfl) ?_
      refine Sy.stepD 0 rfl (by kernel_rfl) (fun _ _ _ _ h => h) (by kernel_rfl) (.bool false) (Quiet.pure (fun _ => by kernel_rfl)) ?_
      refine Sy.stepD 1 rfl (by kernel_rfl) (fun _ _ _ _ h => h) (by kernel_rfl) (.bool false) (Quiet.pure (fun _ => by kernel_rfl)) ?_
      refine Sy.passD 2 rfl (by kernel_rfl) (fun _ _ _ _ h => h) (by kernel_rfl) (by kernel_rfl) ?_
      refine Sy.passD 3 rfl (by kernel_rfl) (fun _ _ _ _ h => h) (by kernel_rfl) (by kernel_rfl) ?_
      refine Sy.passD 4 rfl (by kernel_rfl) (fun _ _ _ _ h => h) (by kernel_rfl) (by kernel_rfl) ?_
      refine Sy.passD 5 rfl (by kernel_rfl) (fun _ _ _ _ h => h) (by kernel_rfl) (by kernel_rfl) ?_
      refine Sy.passD 6 rfl (by kernel_rfl) (fun _ _ _ _ h => h) (by kernel_rfl) (by kernel_rfl) ?_
      refine Sy.passD 7 rfl (by kernel_rfl) (fun _ _ _ _ h => h) (by kernel_rfl) (by kernel_rfl) ?_
      refine Sy.passD 8 rfl (by kernel_rfl) (fun _ _ _ _ h => h) (by kernel_rfl) (by kernel_rfl) ?_
      refine Sy.passD 9 rfl (by kernel_rfl) (fun _ _ _ _ h => h) (by kernel_rfl) (by kernel_rfl) ?_
      refine Sy.passD 10 rfl (by kernel_rfl) (fun _ _ _ _ h => h) (by kernel_rfl) (by kernel_rfl) ?_
      refine Sy.stepD 11 rfl (by kernel_rfl) (fun _ _ _ _ h => h) (by kernel_rfl) (.bool false) (Quiet.pure (fun _ => by kernel_rfl)) ?_
      refine Sy.stepD 12 rfl (by kernel_rfl) (fun _ _ _ _ h => h) (by kernel_rfl) (.bool false) (Quiet.pure (fun _ => by kernel_rfl)) ?_
      refine Sy.doneD (by kernel_rfl) ?_
      refine Sy.then_ ?_
      refine Sy.ret ?_
      rw [show (.bool (rightB x y false) : Value) = .bool false from by rw [rb_x (not_fp hz1 hb1)]]
      exact Sy.ret1 (v := .bool false) rfl (.inl (show _ = _ by kernel_rfl))
    · obtain ⟨ux, rfl⟩ := fp_of hz1 hb1
      refine Sy.stepD 7 rfl (by kernel_rfl) (fun _ _ _ _ h => h) (by kernel_rfl) (.pointer (some ⟨g0, 4, none⟩)) (Quiet.pure (fun _ => by kernel_rfl)) ?_
      refine Sy.stepD 8 rfl (by kernel_rfl) (fun _ _ _ _ h => h) (by kernel_rfl) (fv y) (Quiet.load 0 g0 4 4 28 26 (pcs ux.val y false) _ _ rfl (by kernel_rfl) (by kernel_rfl) Tryd.underlying26 rfl (by kernel_rfl) _ (by kernel_rfl) (Nat.le_of_ble_eq_true (by kernel_rfl))) ?_
      obtain ⟨z2, hz2⟩ : ∃ z : Nat, z = y % pM := ⟨_, rfl⟩
      have lz2 : z2 < K4 := by rw [hz2]; exact mod_lt y
      refine Sy.stepD 9 rfl (by kernel_rfl) (fun _ _ _ _ h => h) (by kernel_rfl) (fv z2) (Quiet.call 23 #[fv y] (fun _ => by kernel_rfl) (fun w => by rw [hz2]; exact norm_any w y (by first | assumption | exact lt4 _))) ?_
      refine Sy.stepD 10 rfl (by kernel_rfl) (fun _ _ _ _ h => h) (by kernel_rfl) (.pointer (some ⟨g0, 4, none⟩)) (Quiet.pure (fun _ => by kernel_rfl)) ?_
      refine Sy.stepD 11 rfl (by kernel_rfl) (fun _ _ _ _ h => h) (by kernel_rfl) (fv y) (Quiet.load 0 g0 4 4 28 26 (pcs ux.val y false) _ _ rfl (by kernel_rfl) (by kernel_rfl) Tryd.underlying26 rfl (by kernel_rfl) _ (by kernel_rfl) (Nat.le_of_ble_eq_true (by kernel_rfl))) ?_
      obtain ⟨b2, hb2⟩ : ∃ z : Bool, z = decide (z2 = y) := ⟨_, rfl⟩
      refine Sy.stepD 12 rfl (by kernel_rfl) (fun _ _ _ _ h => h) (by kernel_rfl) (.bool b2) (Quiet.pure (fun w => by rw [hb2]; exact eql_fe w _ _ _ _ _ _ rfl rfl rfl (by first | assumption | exact lt4 _ | decide +kernel) (by first | assumption | exact lt4 _ | decide +kernel))) ?_
      refine Sy.stepD 13 rfl (by kernel_rfl) (fun _ _ _ _ h => h) (by kernel_rfl) (.bool b2) (Quiet.pure (fun _ => by kernel_rfl)) ?_
      refine Sy.stepD 14 rfl (by kernel_rfl) (fun _ _ _ _ h => h) (by kernel_rfl) (.bool b2) (Quiet.pure (fun _ => by kernel_rfl)) ?_
      refine Sy.doneD (by kernel_rfl) ?_
      refine Sy.then_ ?_
      refine Sy.seq ?_
      refine Sy.regionD (fun j => false) (by kernel_rfl) ?_
      refine Sy.stepD 0 rfl (by kernel_rfl) (fun _ _ _ _ h => h) (by kernel_rfl) (.bool b2) (Quiet.pure (fun _ => by kernel_rfl)) ?_
      refine Sy.stepD 1 rfl (by kernel_rfl) (fun _ _ _ _ h => h) (by kernel_rfl) (.bool b2) (Quiet.pure (fun _ => by kernel_rfl)) ?_
      cases b2
      · refine Sy.passD 2 rfl (by kernel_rfl) (fun _ _ _ _ h => h) (by kernel_rfl) (by kernel_rfl) ?_
        refine Sy.passD 3 rfl (by kernel_rfl) (fun _ _ _ _ h => h) (by kernel_rfl) (by kernel_rfl) ?_
        refine Sy.passD 4 rfl (by kernel_rfl) (fun _ _ _ _ h => h) (by kernel_rfl) (by kernel_rfl) ?_
        refine Sy.passD 5 rfl (by kernel_rfl) (fun _ _ _ _ h => h) (by kernel_rfl) (by kernel_rfl) ?_
        refine Sy.passD 6 rfl (by kernel_rfl) (fun _ _ _ _ h => h) (by kernel_rfl) (by kernel_rfl) ?_
        refine Sy.passD 7 rfl (by kernel_rfl) (fun _ _ _ _ h => h) (by kernel_rfl) (by kernel_rfl) ?_
        refine Sy.passD 8 rfl (by kernel_rfl) (fun _ _ _ _ h => h) (by kernel_rfl) (by kernel_rfl) ?_
        refine Sy.passD 9 rfl (by kernel_rfl) (fun _ _ _ _ h => h) (by kernel_rfl) (by kernel_rfl) ?_
        refine Sy.passD 10 rfl (by kernel_rfl) (fun _ _ _ _ h => h) (by kernel_rfl) (by kernel_rfl) ?_
        refine Sy.stepD 11 rfl (by kernel_rfl) (fun _ _ _ _ h => h) (by kernel_rfl) (.bool false) (Quiet.pure (fun _ => by kernel_rfl)) ?_
        refine Sy.stepD 12 rfl (by kernel_rfl) (fun _ _ _ _ h => h) (by kernel_rfl) (.bool false) (Quiet.pure (fun _ => by kernel_rfl)) ?_
        refine Sy.doneD (by kernel_rfl) ?_
        refine Sy.then_ ?_
        refine Sy.ret ?_
        rw [show (.bool (rightB ux.val y false) : Value) = .bool false from by rw [rb_y (not_fp hz2 hb2)]]
        exact Sy.ret1 (v := .bool false) rfl (.inl (show _ = _ by kernel_rfl))
      · obtain ⟨uy, rfl⟩ := fp_of hz2 hb2
        refine Sy.stepD 2 rfl (by kernel_rfl) (fun _ _ _ _ h => h) (by kernel_rfl) (.pointer (some ⟨g0, 4, none⟩)) (Quiet.pure (fun _ => by kernel_rfl)) ?_
        refine Sy.stepD 3 rfl (by kernel_rfl) (fun _ _ _ _ h => h) (by kernel_rfl) (fv uy.val) (Quiet.load 0 g0 4 4 28 26 (pcs ux.val uy.val false) _ _ rfl (by kernel_rfl) (by kernel_rfl) Tryd.underlying26 rfl (by kernel_rfl) _ (by kernel_rfl) (Nat.le_of_ble_eq_true (by kernel_rfl))) ?_
        refine Sy.stepD 4 rfl (by kernel_rfl) (fun _ _ _ _ h => h) (by kernel_rfl) (.pointer (some ⟨g0, 4, none⟩)) (Quiet.pure (fun _ => by kernel_rfl)) ?_
        refine Sy.stepD 5 rfl (by kernel_rfl) (fun _ _ _ _ h => h) (by kernel_rfl) (fv uy.val) (Quiet.load 0 g0 4 4 28 26 (pcs ux.val uy.val false) _ _ rfl (by kernel_rfl) (by kernel_rfl) Tryd.underlying26 rfl (by kernel_rfl) _ (by kernel_rfl) (Nat.le_of_ble_eq_true (by kernel_rfl))) ?_
        obtain ⟨z3, hz3⟩ : ∃ z : Fp, z = uy * uy := ⟨_, rfl⟩
        refine Sy.stepD 6 rfl (by kernel_rfl) (fun _ _ _ _ h => h) (by kernel_rfl) (fv z3.val) (Quiet.call 24 #[fv uy.val, fv uy.val] (fun _ => by kernel_rfl) (by rw [hz3]; exact mul_c uy uy)) ?_
        refine Sy.stepD 7 rfl (by kernel_rfl) (fun _ _ _ _ h => h) (by kernel_rfl) (.pointer (some ⟨g0, 0, none⟩)) (Quiet.pure (fun _ => by kernel_rfl)) ?_
        refine Sy.stepD 8 rfl (by kernel_rfl) (fun _ _ _ _ h => h) (by kernel_rfl) (fv ux.val) (Quiet.load 0 g0 0 4 28 26 (pcs ux.val uy.val false) _ _ rfl (by kernel_rfl) (by kernel_rfl) Tryd.underlying26 rfl (by kernel_rfl) _ (by kernel_rfl) (Nat.le_of_ble_eq_true (by kernel_rfl))) ?_
        obtain ⟨z4, hz4⟩ : ∃ z : Fp, z = ux * ux * ux + 7 := ⟨_, rfl⟩
        refine Sy.stepD 9 rfl (by kernel_rfl) (fun _ _ _ _ h => h) (by kernel_rfl) (fv z4.val) (Quiet.call 25 #[fv ux.val] (fun _ => by kernel_rfl) (by rw [hz4]; exact fun w => square_c w ux)) ?_
        obtain ⟨b3, hb3⟩ : ∃ z : Bool, z = decide (z3.val = z4.val) := ⟨_, rfl⟩
        refine Sy.stepD 10 rfl (by kernel_rfl) (fun _ _ _ _ h => h) (by kernel_rfl) (.bool b3) (Quiet.pure (fun w => by rw [hb3]; exact eql_fe w _ _ _ _ _ _ rfl rfl rfl (by first | assumption | exact lt4 _ | decide +kernel) (by first | assumption | exact lt4 _ | decide +kernel))) ?_
        refine Sy.stepD 11 rfl (by kernel_rfl) (fun _ _ _ _ h => h) (by kernel_rfl) (.bool b3) (Quiet.pure (fun _ => by kernel_rfl)) ?_
        refine Sy.stepD 12 rfl (by kernel_rfl) (fun _ _ _ _ h => h) (by kernel_rfl) (.bool b3) (Quiet.pure (fun _ => by kernel_rfl)) ?_
        refine Sy.doneD (by kernel_rfl) ?_
        refine Sy.then_ ?_
        refine Sy.ret ?_
        rw [show (.bool (rightB ux.val uy.val false) : Value) = .bool b3 from by rw [hb3, rb_xy]; simp only [hz3, hz4]]
        exact Sy.ret1 (v := .bool b3) rfl (.inl (show _ = _ by kernel_rfl))
  · refine Sy.cond_t (by kernel_rfl) (by kernel_rfl) ?_
    refine Sy.seq ?_
    refine Sy.regionD (fun j => false) (by kernel_rfl) ?_
    refine Sy.stepD 0 rfl (by kernel_rfl) (fun _ _ _ _ h => h) (by kernel_rfl) (pv x y true) (Quiet.load 0 g0 0 9 28 28 (pcs x y true) _ _ rfl (by kernel_rfl) (by kernel_rfl) Tryd.underlying28 rfl (by kernel_rfl) _ (by kernel_rfl) (Nat.le_of_ble_eq_true (by kernel_rfl))) ?_
    refine Sy.stepD 1 rfl (by kernel_rfl) (fun _ _ _ _ h => h) (by kernel_rfl) (pv 0 0 true) (Quiet.call 18 #[] (fun _ => by kernel_rfl) (zero_c)) ?_
    obtain ⟨b4, hb4⟩ : ∃ z : Bool, z = sameB x y true 0 0 true := ⟨_, rfl⟩
    refine Sy.stepD 2 rfl (by kernel_rfl) (fun _ _ _ _ h => h) (by kernel_rfl) (.bool b4) (Quiet.pure (fun w => by rw [hb4]; exact eql_pt w _ _ _ _ _ _ _ _ _ _ rfl rfl rfl (by first | assumption | exact lt4 _ | decide +kernel) (by first | assumption | exact lt4 _ | decide +kernel) (by first | assumption | exact lt4 _ | decide +kernel) (by first | assumption | exact lt4 _ | decide +kernel))) ?_
    refine Sy.stepD 3 rfl (by kernel_rfl) (fun _ _ _ _ h => h) (by kernel_rfl) (.bool b4) (Quiet.pure (fun _ => by kernel_rfl)) ?_
    refine Sy.doneD (by kernel_rfl) ?_
    refine Sy.then_ ?_
    refine Sy.ret ?_
    refine Sy.then_ret ?_
    rw [show (.bool (rightB x y true) : Value) = .bool b4 from by rw [hb4, rightB_inf]]
    exact Sy.ret1 (v := .bool b4) rfl (.inl (show _ = _ by kernel_rfl))
set_option maxHeartbeats 4000000 in
set_option maxRecDepth 100000 in
theorem right_c (w : World) (x y : Nat) (i : Bool) (hx : x < K4) (hy : y < K4) : Calls Tryd.prog 34 #[pv x y i] w (Gets w (ptv (dec x y i))) := by
  refine Sy.enter (args := [pv x y i]) Tryd.func34 rfl (Nat.le_of_ble_eq_true (by kernel_rfl)) ?_
  refine Sy.seq ?_
  refine Sy.region ?_
  refine Sy.make (by kernel_rfl) 28 (pcs x y i) ptr (fun _ => by kernel_rfl) (fun g0 => ?_)
  refine Sy.make (by kernel_rfl) 28 (pcs 0 0 false) ptr (fun _ => by kernel_rfl) (fun g1 => ?_)
  refine Sy.nil ?_
  refine Sy.then_ ?_
  refine Sy.seq ?_
  refine Sy.seq ?_
  refine Sy.region ?_
  refine Sy.step (by kernel_rfl) (pv x y i) (Quiet.load 0 g0 0 9 28 28 (pcs x y i) _ _ rfl (by kernel_rfl) (by kernel_rfl) Tryd.underlying28 rfl (by kernel_rfl) _ (by kernel_rfl) (Nat.le_of_ble_eq_true (by kernel_rfl))) ?_
  obtain ⟨b1, hb1⟩ : ∃ z : Bool, z = rightB x y i := ⟨_, rfl⟩
  refine Sy.step (by kernel_rfl) (.bool b1) (Quiet.call 8 #[pv x y i] (fun _ => by kernel_rfl) (by rw [hb1]; exact fun w => right_b w x y i (by first | assumption | exact lt4 _ | decide +kernel) (by first | assumption | exact lt4 _ | decide +kernel))) ?_
  cases b1
  · refine Sy.step (by kernel_rfl) (.bool true) (Quiet.pure (fun _ => by kernel_rfl)) ?_
    refine Sy.nil ?_
    refine Sy.then_ ?_
    refine Sy.cond_t (by kernel_rfl) (by kernel_rfl) ?_
    refine Sy.seq ?_
    refine Sy.region ?_
    refine Sy.step (by kernel_rfl) (pv 0 0 true) (Quiet.call 18 #[] (fun _ => by kernel_rfl) (zero_c)) ?_
    refine Sy.write (by kernel_rfl) 1 g1 28 (pcs 0 0 false) (pcs 0 0 true) (by kernel_rfl) (Writes.store 0 28 (pcs 0 0 true) _ _ rfl (by kernel_rfl) (by kernel_rfl) (by kernel_rfl) (Nat.le_of_ble_eq_true (by kernel_rfl)) (by kernel_rfl) (by kernel_rfl)) ?_
    refine Sy.nil ?_
    refine Sy.then_ ?_
    refine Sy.ret ?_
    refine Sy.then_ret ?_
    rw [show (ptv (dec x y i) : Value) = pv 0 0 true from ptv_wrong x y i hb1.symm]
    exact Sy.ret1 (v := pv 0 0 true) rfl (.inl (Res.cell (ty' := 28) g1 1 (pcs 0 0 true) _ (by kernel_rfl) (by kernel_rfl) Tryd.underlying28 rfl (by kernel_rfl) (by kernel_rfl)))
  · refine Sy.step (by kernel_rfl) (.bool false) (Quiet.pure (fun _ => by kernel_rfl)) ?_
    refine Sy.nil ?_
    refine Sy.then_ ?_
    refine Sy.cond_f (by kernel_rfl) (by kernel_rfl) ?_
    refine Sy.skip ?_
    refine Sy.then_ ?_
    refine Sy.seq ?_
    refine Sy.region ?_
    refine Sy.step (by kernel_rfl) (pv x y i) (Quiet.load 0 g0 0 9 28 28 (pcs x y i) _ _ rfl (by kernel_rfl) (by kernel_rfl) Tryd.underlying28 rfl (by kernel_rfl) _ (by kernel_rfl) (Nat.le_of_ble_eq_true (by kernel_rfl))) ?_
    refine Sy.write (by kernel_rfl) 1 g1 28 (pcs 0 0 false) (pcs x y i) (by kernel_rfl) (Writes.store 0 28 (pcs x y i) _ _ rfl (by kernel_rfl) (by kernel_rfl) (by kernel_rfl) (Nat.le_of_ble_eq_true (by kernel_rfl)) (by kernel_rfl) (by kernel_rfl)) ?_
    refine Sy.nil ?_
    refine Sy.then_ ?_
    refine Sy.ret ?_
    rw [show (ptv (dec x y i) : Value) = pv x y i from ptv_right x y i hb1.symm]
    exact Sy.ret1 (v := pv x y i) rfl (.inl (Res.cell (ty' := 28) g1 1 (pcs x y i) _ (by kernel_rfl) (by kernel_rfl) Tryd.underlying28 rfl (by kernel_rfl) (by kernel_rfl)))
end Go.Proofs.YtneeefinaejgcaaDoor.Cu

end
section
namespace Go.Proofs.YtneeefinaejgcaaDoor.Cu
open Go.RowKit Go.Proofs.YtneeefinaejgcaaDoor Go.Proofs.YtneeefinaejgcaaDoor.Sy

theorem eql_pt_ne (w : World) (F : Slots) (o : Oper) (x y : Operand) (a b : Nat) (i : Bool) (c d : Nat) (j : Bool) {yt : TypeId} (ho : o.op = .binOp .eql 28 x y yt) (hx : evF F x = pv a b i) (hy : evF F y = pv c d j) (ha : a < K4) (hb : b < K4) (hc : c < K4) (hd : d < K4) (hij : i ≠ j) : (execOp (evF F) o).run Tryd.prog w = .ok (.value (.bool false)) w := by
  have h := eql_pt w F o x y a b i c d j ho hx hy ha hb hc hd
  have e : sameB a b i c d j = false := by
    unfold sameB
    simp [hij]
  rwa [e] at h
set_option maxHeartbeats 4000000 in
set_option maxRecDepth 100000 in
theorem neg_none (w : World) (x y : Nat) (i : Bool) (hx : x < K4) (hy : y < K4) (h : dec x y i = none) : Calls Tryd.prog 19 #[pv x y i] w (Gets w (ptv (Ec.neg none))) := by
  refine Sy.enter (args := [pv x y i]) Tryd.func19 rfl (Nat.le_of_ble_eq_true (by kernel_rfl)) ?_
  refine Sy.seq ?_
  refine Sy.region ?_
  refine Sy.make (by kernel_rfl) 28 (pcs x y i) ptr (fun _ => by kernel_rfl) (fun g0 => ?_)
  refine Sy.make (by kernel_rfl) 28 (pcs 0 0 false) ptr (fun _ => by kernel_rfl) (fun g1 => ?_)
  refine Sy.nil ?_
  refine Sy.then_ ?_
  refine Sy.seq ?_
  refine Sy.region ?_
  refine Sy.step (by kernel_rfl) (pv x y i) (Quiet.load 0 g0 0 9 28 28 (pcs x y i) _ _ rfl (by kernel_rfl) (by kernel_rfl) Tryd.underlying28 rfl (by kernel_rfl) _ (by kernel_rfl) (Nat.le_of_ble_eq_true (by kernel_rfl))) ?_
  refine Sy.step (by kernel_rfl) (pv 0 0 true) (Quiet.call 34 #[pv x y i] (fun _ => by kernel_rfl) (fun w => by have hrr := right_c w x y i (by first | assumption | exact lt4 _ | decide +kernel) (by first | assumption | exact lt4 _ | decide +kernel); rw [h] at hrr; exact hrr)) ?_
  refine Sy.write (by kernel_rfl) 0 g0 28 (pcs x y i) (pcs 0 0 true) (by kernel_rfl) (Writes.store 0 28 (pcs 0 0 true) _ _ rfl (by kernel_rfl) (by kernel_rfl) (by kernel_rfl) (Nat.le_of_ble_eq_true (by kernel_rfl)) (by kernel_rfl) (by kernel_rfl)) ?_
  refine Sy.nil ?_
  refine Sy.then_ ?_
  refine Sy.seq ?_
  refine Sy.region ?_
  refine Sy.step (by kernel_rfl) (.pointer (some ⟨g0, 4, none⟩)) (Quiet.pure (fun _ => by kernel_rfl)) ?_
  refine Sy.step (by kernel_rfl) (fv 0) (Quiet.load 0 g0 4 4 28 26 (pcs 0 0 true) _ _ rfl (by kernel_rfl) (by kernel_rfl) Tryd.underlying26 rfl (by kernel_rfl) _ (by kernel_rfl) (Nat.le_of_ble_eq_true (by kernel_rfl))) ?_
  obtain ⟨z1, hz1⟩ : ∃ z : Fp, z = -(0 : Fp) := ⟨_, rfl⟩
  refine Sy.step (by kernel_rfl) (fv z1.val) (Quiet.call 37 #[fv 0] (fun _ => by kernel_rfl) (by rw [hz1]; exact neg_c (0 : Fp))) ?_
  refine Sy.step (by kernel_rfl) (.pointer (some ⟨g0, 4, none⟩)) (Quiet.pure (fun _ => by kernel_rfl)) ?_
  refine Sy.write (by kernel_rfl) 0 g0 28 (pcs 0 0 true) (pcs 0 z1.val true) (by kernel_rfl) (Writes.store 4 26 (fcs z1.val) _ _ rfl (by kernel_rfl) (by kernel_rfl) (by kernel_rfl) (Nat.le_of_ble_eq_true (by kernel_rfl)) (by kernel_rfl) (by kernel_rfl)) ?_
  refine Sy.nil ?_
  refine Sy.then_ ?_
  refine Sy.seq ?_
  refine Sy.region ?_
  refine Sy.step (by kernel_rfl) (pv 0 z1.val true) (Quiet.load 0 g0 0 9 28 28 (pcs 0 z1.val true) _ _ rfl (by kernel_rfl) (by kernel_rfl) Tryd.underlying28 rfl (by kernel_rfl) _ (by kernel_rfl) (Nat.le_of_ble_eq_true (by kernel_rfl))) ?_
  refine Sy.write (by kernel_rfl) 1 g1 28 (pcs 0 0 false) (pcs 0 z1.val true) (by kernel_rfl) (Writes.store 0 28 (pcs 0 z1.val true) _ _ rfl (by kernel_rfl) (by kernel_rfl) (by kernel_rfl) (Nat.le_of_ble_eq_true (by kernel_rfl)) (by kernel_rfl) (by kernel_rfl)) ?_
  refine Sy.nil ?_
  refine Sy.then_ ?_
  refine Sy.ret ?_
  rw [show (ptv (Ec.neg none) : Value) = pv 0 z1.val true from by rw [hz1]; kernel_rfl]
  exact Sy.ret1 (v := pv 0 z1.val true) rfl (.inl (Res.cell (ty' := 28) g1 1 (pcs 0 z1.val true) _ (by kernel_rfl) (by kernel_rfl) Tryd.underlying28 rfl (by kernel_rfl) (by kernel_rfl)))
set_option maxHeartbeats 4000000 in
set_option maxRecDepth 100000 in
theorem neg_some (w : World) (x y : Nat) (i : Bool) (hx : x < K4) (hy : y < K4) (u v : Fp) (h : dec x y i = some (u, v)) : Calls Tryd.prog 19 #[pv x y i] w (Gets w (ptv (Ec.neg (some (u, v))))) := by
  refine Sy.enter (args := [pv x y i]) Tryd.func19 rfl (Nat.le_of_ble_eq_true (by kernel_rfl)) ?_
  refine Sy.seq ?_
  refine Sy.region ?_
  refine Sy.make (by kernel_rfl) 28 (pcs x y i) ptr (fun _ => by kernel_rfl) (fun g0 => ?_)
  refine Sy.make (by kernel_rfl) 28 (pcs 0 0 false) ptr (fun _ => by kernel_rfl) (fun g1 => ?_)
  refine Sy.nil ?_
  refine Sy.then_ ?_
  refine Sy.seq ?_
  refine Sy.region ?_
  refine Sy.step (by kernel_rfl) (pv x y i) (Quiet.load 0 g0 0 9 28 28 (pcs x y i) _ _ rfl (by kernel_rfl) (by kernel_rfl) Tryd.underlying28 rfl (by kernel_rfl) _ (by kernel_rfl) (Nat.le_of_ble_eq_true (by kernel_rfl))) ?_
  refine Sy.step (by kernel_rfl) (pv u.val v.val false) (Quiet.call 34 #[pv x y i] (fun _ => by kernel_rfl) (fun w => by have hrr := right_c w x y i (by first | assumption | exact lt4 _ | decide +kernel) (by first | assumption | exact lt4 _ | decide +kernel); rw [h] at hrr; exact hrr)) ?_
  refine Sy.write (by kernel_rfl) 0 g0 28 (pcs x y i) (pcs u.val v.val false) (by kernel_rfl) (Writes.store 0 28 (pcs u.val v.val false) _ _ rfl (by kernel_rfl) (by kernel_rfl) (by kernel_rfl) (Nat.le_of_ble_eq_true (by kernel_rfl)) (by kernel_rfl) (by kernel_rfl)) ?_
  refine Sy.nil ?_
  refine Sy.then_ ?_
  refine Sy.seq ?_
  refine Sy.region ?_
  refine Sy.step (by kernel_rfl) (.pointer (some ⟨g0, 4, none⟩)) (Quiet.pure (fun _ => by kernel_rfl)) ?_
  refine Sy.step (by kernel_rfl) (fv v.val) (Quiet.load 0 g0 4 4 28 26 (pcs u.val v.val false) _ _ rfl (by kernel_rfl) (by kernel_rfl) Tryd.underlying26 rfl (by kernel_rfl) _ (by kernel_rfl) (Nat.le_of_ble_eq_true (by kernel_rfl))) ?_
  obtain ⟨z1, hz1⟩ : ∃ z : Fp, z = -v := ⟨_, rfl⟩
  refine Sy.step (by kernel_rfl) (fv z1.val) (Quiet.call 37 #[fv v.val] (fun _ => by kernel_rfl) (by rw [hz1]; exact neg_c v)) ?_
  refine Sy.step (by kernel_rfl) (.pointer (some ⟨g0, 4, none⟩)) (Quiet.pure (fun _ => by kernel_rfl)) ?_
  refine Sy.write (by kernel_rfl) 0 g0 28 (pcs u.val v.val false) (pcs u.val z1.val false) (by kernel_rfl) (Writes.store 4 26 (fcs z1.val) _ _ rfl (by kernel_rfl) (by kernel_rfl) (by kernel_rfl) (Nat.le_of_ble_eq_true (by kernel_rfl)) (by kernel_rfl) (by kernel_rfl)) ?_
  refine Sy.nil ?_
  refine Sy.then_ ?_
  refine Sy.seq ?_
  refine Sy.region ?_
  refine Sy.step (by kernel_rfl) (pv u.val z1.val false) (Quiet.load 0 g0 0 9 28 28 (pcs u.val z1.val false) _ _ rfl (by kernel_rfl) (by kernel_rfl) Tryd.underlying28 rfl (by kernel_rfl) _ (by kernel_rfl) (Nat.le_of_ble_eq_true (by kernel_rfl))) ?_
  refine Sy.write (by kernel_rfl) 1 g1 28 (pcs 0 0 false) (pcs u.val z1.val false) (by kernel_rfl) (Writes.store 0 28 (pcs u.val z1.val false) _ _ rfl (by kernel_rfl) (by kernel_rfl) (by kernel_rfl) (Nat.le_of_ble_eq_true (by kernel_rfl)) (by kernel_rfl) (by kernel_rfl)) ?_
  refine Sy.nil ?_
  refine Sy.then_ ?_
  refine Sy.ret ?_
  rw [show (ptv (Ec.neg (some (u, v))) : Value) = pv u.val z1.val false from by rw [hz1]; rfl]
  exact Sy.ret1 (v := pv u.val z1.val false) rfl (.inl (Res.cell (ty' := 28) g1 1 (pcs u.val z1.val false) _ (by kernel_rfl) (by kernel_rfl) Tryd.underlying28 rfl (by kernel_rfl) (by kernel_rfl)))
theorem neg_any (w : World) (x y : Nat) (i : Bool) (hx : x < K4) (hy : y < K4) : Calls Tryd.prog 19 #[pv x y i] w (Gets w (ptv (Ec.neg (dec x y i)))) := by
  rcases h : dec x y i with _ | ⟨u, v⟩
  · exact neg_none w x y i hx hy h
  · exact neg_some w x y i hx hy u v h
theorem neg_pt (w : World) (c d : Fp) (h : d * d = c * c * c + 7) : Calls Tryd.prog 19 #[pv c.val d.val false] w (Gets w (pv c.val (-d).val false)) := by
  have k := neg_any w c.val d.val false (lt4 c) (lt4 d)
  rw [dec_fin c d h] at k
  exact k
theorem sameB_fin (a b c d : Fp) : sameB a.val b.val false c.val d.val false = decide (a = c ∧ b = d) := by
  unfold sameB
  rw [Bool.eq_iff_iff]
  simp [Fin.ext_iff]
set_option maxHeartbeats 4000000 in
set_option maxRecDepth 100000 in
theorem slope_c (w : World) (u v c d : Fp) (h : u = c → v = d) : Calls Tryd.prog 35 #[pv u.val v.val false, pv c.val d.val false] w (Gets w (fv (Ec.slp finv u v c d).val)) := by
  refine Sy.enter (args := [pv u.val v.val false, pv c.val d.val false]) Tryd.func35 rfl (Nat.le_of_ble_eq_true (by kernel_rfl)) ?_
  refine Sy.seq ?_
  refine Sy.region ?_
  refine Sy.make (by kernel_rfl) 28 (pcs u.val v.val false) ptr (fun _ => by kernel_rfl) (fun g0 => ?_)
  refine Sy.make (by kernel_rfl) 28 (pcs c.val d.val false) ptr (fun _ => by kernel_rfl) (fun g1 => ?_)
  refine Sy.make (by kernel_rfl) 26 (fcs 0) ptr (fun _ => by kernel_rfl) (fun g2 => ?_)
  refine Sy.nil ?_
  refine Sy.then_ ?_
  refine Sy.seq ?_
  refine Sy.seq ?_
  refine Sy.region ?_
  refine Sy.step (by kernel_rfl) (pv u.val v.val false) (Quiet.load 0 g0 0 9 28 28 (pcs u.val v.val false) _ _ rfl (by kernel_rfl) (by kernel_rfl) Tryd.underlying28 rfl (by kernel_rfl) _ (by kernel_rfl) (Nat.le_of_ble_eq_true (by kernel_rfl))) ?_
  refine Sy.step (by kernel_rfl) (pv c.val d.val false) (Quiet.load 1 g1 0 9 28 28 (pcs c.val d.val false) _ _ rfl (by kernel_rfl) (by kernel_rfl) Tryd.underlying28 rfl (by kernel_rfl) _ (by kernel_rfl) (Nat.le_of_ble_eq_true (by kernel_rfl))) ?_
  obtain ⟨b1, hb1⟩ : ∃ z : Bool, z = sameB u.val v.val false c.val d.val false := ⟨_, rfl⟩
  refine Sy.step (by kernel_rfl) (.bool b1) (Quiet.pure (fun w => by rw [hb1]; exact eql_pt w _ _ _ _ _ _ _ _ _ _ rfl rfl rfl (by first | assumption | exact lt4 _ | decide +kernel) (by first | assumption | exact lt4 _ | decide +kernel) (by first | assumption | exact lt4 _ | decide +kernel) (by first | assumption | exact lt4 _ | decide +kernel))) ?_
  refine Sy.nil ?_
  refine Sy.then_ ?_
  cases b1
  · refine Sy.cond_f (by kernel_rfl) (by kernel_rfl) ?_
    refine Sy.skip ?_
    refine Sy.then_ ?_
    refine Sy.seq ?_
    refine Sy.regionD (fun j => j == 12) (by kernel_rfl) ?_
    refine Sy.stepD 0 rfl (by kernel_rfl) (fun _ _ _ _ h => h) (by kernel_rfl) (.pointer (some ⟨g1, 4, none⟩)) (Quiet.pure (fun _ => by kernel_rfl)) ?_
    refine Sy.stepD 1 rfl (by kernel_rfl) (fun _ _ _ _ h => h) (by kernel_rfl) (fv d.val) (Quiet.load 1 g1 4 4 28 26 (pcs c.val d.val false) _ _ rfl (by kernel_rfl) (by kernel_rfl) Tryd.underlying26 rfl (by kernel_rfl) _ (by kernel_rfl) (Nat.le_of_ble_eq_true (by kernel_rfl))) ?_
    refine Sy.stepD 2 rfl (by kernel_rfl) (fun _ _ _ _ h => h) (by kernel_rfl) (.pointer (some ⟨g0, 4, none⟩)) (Quiet.pure (fun _ => by kernel_rfl)) ?_
    refine Sy.stepD 3 rfl (by kernel_rfl) (fun _ _ _ _ h => h) (by kernel_rfl) (fv v.val) (Quiet.load 0 g0 4 4 28 26 (pcs u.val v.val false) _ _ rfl (by kernel_rfl) (by kernel_rfl) Tryd.underlying26 rfl (by kernel_rfl) _ (by kernel_rfl) (Nat.le_of_ble_eq_true (by kernel_rfl))) ?_
    obtain ⟨z1, hz1⟩ : ∃ z : Fp, z = d - v := ⟨_, rfl⟩
    refine Sy.stepD 4 rfl (by kernel_rfl) (fun _ _ _ _ h => h) (by kernel_rfl) (fv z1.val) (Quiet.call 36 #[fv d.val, fv v.val] (fun _ => by kernel_rfl) (by rw [hz1]; exact sub_c d v)) ?_
    refine Sy.stepD 5 rfl (by kernel_rfl) (fun _ _ _ _ h => h) (by kernel_rfl) (.pointer (some ⟨g1, 0, none⟩)) (Quiet.pure (fun _ => by kernel_rfl)) ?_
    refine Sy.stepD 6 rfl (by kernel_rfl) (fun _ _ _ _ h => h) (by kernel_rfl) (fv c.val) (Quiet.load 1 g1 0 4 28 26 (pcs c.val d.val false) _ _ rfl (by kernel_rfl) (by kernel_rfl) Tryd.underlying26 rfl (by kernel_rfl) _ (by kernel_rfl) (Nat.le_of_ble_eq_true (by kernel_rfl))) ?_
    refine Sy.stepD 7 rfl (by kernel_rfl) (fun _ _ _ _ h => h) (by kernel_rfl) (.pointer (some ⟨g0, 0, none⟩)) (Quiet.pure (fun _ => by kernel_rfl)) ?_
    refine Sy.stepD 8 rfl (by kernel_rfl) (fun _ _ _ _ h => h) (by kernel_rfl) (fv u.val) (Quiet.load 0 g0 0 4 28 26 (pcs u.val v.val false) _ _ rfl (by kernel_rfl) (by kernel_rfl) Tryd.underlying26 rfl (by kernel_rfl) _ (by kernel_rfl) (Nat.le_of_ble_eq_true (by kernel_rfl))) ?_
    obtain ⟨z2, hz2⟩ : ∃ z : Fp, z = c - u := ⟨_, rfl⟩
    refine Sy.stepD 9 rfl (by kernel_rfl) (fun _ _ _ _ h => h) (by kernel_rfl) (fv z2.val) (Quiet.call 36 #[fv c.val, fv u.val] (fun _ => by kernel_rfl) (by rw [hz2]; exact sub_c c u)) ?_
    obtain ⟨z3, hz3⟩ : ∃ z : Fp, z = finv z2 := ⟨_, rfl⟩
    refine Sy.stepD 10 rfl (by kernel_rfl) (fun _ _ _ _ h => h) (by kernel_rfl) (fv z3.val) (Quiet.call 72 #[fv z2.val] (fun _ => by kernel_rfl) (by rw [hz3]; exact inv_c z2)) ?_
    obtain ⟨z4, hz4⟩ : ∃ z : Fp, z = z1 * z3 := ⟨_, rfl⟩
    refine Sy.stepD 11 rfl (by kernel_rfl) (fun _ _ _ _ h => h) (by kernel_rfl) (fv z4.val) (Quiet.call 24 #[fv z1.val, fv z3.val] (fun _ => by kernel_rfl) (by rw [hz4]; exact mul_c z1 z3)) ?_
    refine Sy.writeD 12 rfl (by kernel_rfl) (by rfl) (by kernel_rfl) 2 g2 26 (fcs 0) (fcs z4.val) (by kernel_rfl) (Writes.store 0 26 (fcs z4.val) _ _ rfl (by kernel_rfl) (by kernel_rfl) (by kernel_rfl) (Nat.le_of_ble_eq_true (by kernel_rfl)) (by kernel_rfl) (by kernel_rfl)) ?_
    refine Sy.doneD (by kernel_rfl) ?_
    refine Sy.then_ ?_
    refine Sy.ret ?_
    rw [show (fv (Ec.slp finv u v c d).val : Value) = fv z4.val from by
      have e := sameB_fin u v c d
      rw [← hb1] at e
      have e := of_decide_eq_false e.symm
      refine congrArg (fun t : Fp => fv t.val) ?_
      unfold Ec.slp
      rw [if_neg (fun k => e ⟨k, h k⟩)]
      clear h hb1 e
      grobner]
    exact Sy.ret1 (v := fv z4.val) rfl (.inl (Res.cell (ty' := 26) g2 2 (fcs z4.val) _ (by kernel_rfl) (by kernel_rfl) Tryd.underlying26 rfl (by kernel_rfl) (by kernel_rfl)))
  · refine Sy.cond_t (by kernel_rfl) (by kernel_rfl) ?_
    refine Sy.seq ?_
    refine Sy.regionD (fun j => j == 8) (by kernel_rfl) ?_
    obtain ⟨z5, hz5⟩ : ∃ z : Fp, z = (3 : Fp) := ⟨_, rfl⟩
    refine Sy.stepD 0 rfl (by kernel_rfl) (fun _ _ _ _ h => h) (by kernel_rfl) (fv z5.val) (Quiet.call 54 #[.int .u64 3] (fun _ => by kernel_rfl) (fun w => by rw [hz5]; exact of_c 3 (by decide +kernel) (by decide) w)) ?_
    refine Sy.stepD 1 rfl (by kernel_rfl) (fun _ _ _ _ h => h) (by kernel_rfl) (.pointer (some ⟨g0, 0, none⟩)) (Quiet.pure (fun _ => by kernel_rfl)) ?_
    refine Sy.stepD 2 rfl (by kernel_rfl) (fun _ _ _ _ h => h) (by kernel_rfl) (fv u.val) (Quiet.load 0 g0 0 4 28 26 (pcs u.val v.val false) _ _ rfl (by kernel_rfl) (by kernel_rfl) Tryd.underlying26 rfl (by kernel_rfl) _ (by kernel_rfl) (Nat.le_of_ble_eq_true (by kernel_rfl))) ?_
    refine Sy.stepD 3 rfl (by kernel_rfl) (fun _ _ _ _ h => h) (by kernel_rfl) (.pointer (some ⟨g0, 0, none⟩)) (Quiet.pure (fun _ => by kernel_rfl)) ?_
    refine Sy.stepD 4 rfl (by kernel_rfl) (fun _ _ _ _ h => h) (by kernel_rfl) (fv u.val) (Quiet.load 0 g0 0 4 28 26 (pcs u.val v.val false) _ _ rfl (by kernel_rfl) (by kernel_rfl) Tryd.underlying26 rfl (by kernel_rfl) _ (by kernel_rfl) (Nat.le_of_ble_eq_true (by kernel_rfl))) ?_
    obtain ⟨z6, hz6⟩ : ∃ z : Fp, z = u * u := ⟨_, rfl⟩
    refine Sy.stepD 5 rfl (by kernel_rfl) (fun _ _ _ _ h => h) (by kernel_rfl) (fv z6.val) (Quiet.call 24 #[fv u.val, fv u.val] (fun _ => by kernel_rfl) (by rw [hz6]; exact mul_c u u)) ?_
    obtain ⟨z7, hz7⟩ : ∃ z : Fp, z = z5 * z6 := ⟨_, rfl⟩
    refine Sy.stepD 6 rfl (by kernel_rfl) (fun _ _ _ _ h => h) (by kernel_rfl) (fv z7.val) (Quiet.call 24 #[fv z5.val, fv z6.val] (fun _ => by kernel_rfl) (by rw [hz7]; exact mul_c z5 z6)) ?_
    refine Sy.makeD 7 rfl (by kernel_rfl) (by kernel_rfl) 26 (fcs 0) ptr (fun _ => by kernel_rfl) (fun g3 => ?_)
    refine Sy.writeD 8 rfl (by kernel_rfl) (by rfl) (by kernel_rfl) 3 g3 26 (fcs 0) (fcs z7.val) (by kernel_rfl) (Writes.store 0 26 (fcs z7.val) _ _ rfl (by kernel_rfl) (by kernel_rfl) (by kernel_rfl) (Nat.le_of_ble_eq_true (by kernel_rfl)) (by kernel_rfl) (by kernel_rfl)) ?_
    refine Sy.doneD (by kernel_rfl) ?_
    refine Sy.then_ ?_
    refine Sy.seq ?_
    refine Sy.regionD (fun j => j == 8) (by kernel_rfl) ?_
    refine Sy.stepD 0 rfl (by kernel_rfl) (fun _ _ _ _ h => h) (by kernel_rfl) (fv z7.val) (Quiet.load 3 g3 0 4 26 26 (fcs z7.val) _ _ rfl (by kernel_rfl) (by kernel_rfl) Tryd.underlying26 rfl (by kernel_rfl) _ (by kernel_rfl) (Nat.le_of_ble_eq_true (by kernel_rfl))) ?_
    refine Sy.stepD 1 rfl (by kernel_rfl) (fun _ _ _ _ h => h) (by kernel_rfl) (.pointer (some ⟨g0, 4, none⟩)) (Quiet.pure (fun _ => by kernel_rfl)) ?_
    refine Sy.stepD 2 rfl (by kernel_rfl) (fun _ _ _ _ h => h) (by kernel_rfl) (fv v.val) (Quiet.load 0 g0 4 4 28 26 (pcs u.val v.val false) _ _ rfl (by kernel_rfl) (by kernel_rfl) Tryd.underlying26 rfl (by kernel_rfl) _ (by kernel_rfl) (Nat.le_of_ble_eq_true (by kernel_rfl))) ?_
    refine Sy.stepD 3 rfl (by kernel_rfl) (fun _ _ _ _ h => h) (by kernel_rfl) (.pointer (some ⟨g0, 4, none⟩)) (Quiet.pure (fun _ => by kernel_rfl)) ?_
    refine Sy.stepD 4 rfl (by kernel_rfl) (fun _ _ _ _ h => h) (by kernel_rfl) (fv v.val) (Quiet.load 0 g0 4 4 28 26 (pcs u.val v.val false) _ _ rfl (by kernel_rfl) (by kernel_rfl) Tryd.underlying26 rfl (by kernel_rfl) _ (by kernel_rfl) (Nat.le_of_ble_eq_true (by kernel_rfl))) ?_
    obtain ⟨z8, hz8⟩ : ∃ z : Fp, z = v + v := ⟨_, rfl⟩
    refine Sy.stepD 5 rfl (by kernel_rfl) (fun _ _ _ _ h => h) (by kernel_rfl) (fv z8.val) (Quiet.call 53 #[fv v.val, fv v.val] (fun _ => by kernel_rfl) (by rw [hz8]; exact add_c v v)) ?_
    obtain ⟨z9, hz9⟩ : ∃ z : Fp, z = finv z8 := ⟨_, rfl⟩
    refine Sy.stepD 6 rfl (by kernel_rfl) (fun _ _ _ _ h => h) (by kernel_rfl) (fv z9.val) (Quiet.call 72 #[fv z8.val] (fun _ => by kernel_rfl) (by rw [hz9]; exact inv_c z8)) ?_
    obtain ⟨z10, hz10⟩ : ∃ z : Fp, z = z7 * z9 := ⟨_, rfl⟩
    refine Sy.stepD 7 rfl (by kernel_rfl) (fun _ _ _ _ h => h) (by kernel_rfl) (fv z10.val) (Quiet.call 24 #[fv z7.val, fv z9.val] (fun _ => by kernel_rfl) (by rw [hz10]; exact mul_c z7 z9)) ?_
    refine Sy.writeD 8 rfl (by kernel_rfl) (by rfl) (by kernel_rfl) 2 g2 26 (fcs 0) (fcs z10.val) (by kernel_rfl) (Writes.store 0 26 (fcs z10.val) _ _ rfl (by kernel_rfl) (by kernel_rfl) (by kernel_rfl) (Nat.le_of_ble_eq_true (by kernel_rfl)) (by kernel_rfl) (by kernel_rfl)) ?_
    refine Sy.doneD (by kernel_rfl) ?_
    refine Sy.then_ ?_
    refine Sy.ret ?_
    refine Sy.then_ret ?_
    rw [show (fv (Ec.slp finv u v c d).val : Value) = fv z10.val from by
      have e := sameB_fin u v c d
      rw [← hb1] at e
      obtain ⟨rfl, rfl⟩ := of_decide_eq_true e.symm
      refine congrArg (fun t : Fp => fv t.val) ?_
      unfold Ec.slp
      rw [if_pos rfl]
      clear h hb1 e
      grobner]
    exact Sy.ret1 (v := fv z10.val) rfl (.inl (Res.cell (ty' := 26) g2 2 (fcs z10.val) _ (by kernel_rfl) (by kernel_rfl) Tryd.underlying26 rfl (by kernel_rfl) (by kernel_rfl)))
set_option maxHeartbeats 4000000 in
set_option maxRecDepth 100000 in
theorem add_nn (w : World) (x y : Nat) (i : Bool) (x2 y2 : Nat) (i2 : Bool) (hx : x < K4) (hy : y < K4) (hx2 : x2 < K4) (hy2 : y2 < K4) (h : dec x y i = none) (k : dec x2 y2 i2 = none) : Calls Tryd.prog 17 #[pv x y i, pv x2 y2 i2] w (Gets w (ptv none)) := by
  refine Sy.enter (args := [pv x y i, pv x2 y2 i2]) Tryd.func17 rfl (Nat.le_of_ble_eq_true (by kernel_rfl)) ?_
  refine Sy.seq ?_
  refine Sy.region ?_
  refine Sy.make (by kernel_rfl) 28 (pcs x y i) ptr (fun _ => by kernel_rfl) (fun g0 => ?_)
  refine Sy.make (by kernel_rfl) 28 (pcs x2 y2 i2) ptr (fun _ => by kernel_rfl) (fun g1 => ?_)
  refine Sy.make (by kernel_rfl) 28 (pcs 0 0 false) ptr (fun _ => by kernel_rfl) (fun g2 => ?_)
  refine Sy.nil ?_
  refine Sy.then_ ?_
  refine Sy.seq ?_
  refine Sy.regionD (fun j => j == 4 || j == 5) (by kernel_rfl) ?_
  refine Sy.stepD 0 rfl (by kernel_rfl) (fun _ _ _ _ h => h) (by kernel_rfl) (pv x y i) (Quiet.load 0 g0 0 9 28 28 (pcs x y i) _ _ rfl (by kernel_rfl) (by kernel_rfl) Tryd.underlying28 rfl (by kernel_rfl) _ (by kernel_rfl) (Nat.le_of_ble_eq_true (by kernel_rfl))) ?_
  refine Sy.stepD 1 rfl (by kernel_rfl) (fun _ _ _ _ h => h) (by kernel_rfl) (pv 0 0 true) (Quiet.call 34 #[pv x y i] (fun _ => by kernel_rfl) (fun w => by have hrr := right_c w x y i (by first | assumption | exact lt4 _ | decide +kernel) (by first | assumption | exact lt4 _ | decide +kernel); rw [h] at hrr; exact hrr)) ?_
  refine Sy.stepDB 2 [3, 4, 5] rfl (by kernel_rfl) (fun _ _ _ _ h => h) (by kernel_rfl) (pv x2 y2 i2) (Quiet.load 1 g1 0 9 28 28 (pcs x2 y2 i2) _ _ rfl (by kernel_rfl) (by kernel_rfl) Tryd.underlying28 rfl (by kernel_rfl) _ (by kernel_rfl) (Nat.le_of_ble_eq_true (by kernel_rfl))) ?_
  refine Sy.stepD 3 rfl (by kernel_rfl) (fun _ _ _ _ h => h) (by kernel_rfl) (pv 0 0 true) (Quiet.call 34 #[pv x2 y2 i2] (fun _ => by kernel_rfl) (fun w => by have hrr := right_c w x2 y2 i2 (by first | assumption | exact lt4 _ | decide +kernel) (by first | assumption | exact lt4 _ | decide +kernel); rw [k] at hrr; exact hrr)) ?_
  refine Sy.writeD 4 rfl (by kernel_rfl) (by rfl) (by kernel_rfl) 0 g0 28 (pcs x y i) (pcs 0 0 true) (by kernel_rfl) (Writes.store 0 28 (pcs 0 0 true) _ _ rfl (by kernel_rfl) (by kernel_rfl) (by kernel_rfl) (Nat.le_of_ble_eq_true (by kernel_rfl)) (by kernel_rfl) (by kernel_rfl)) ?_
  refine Sy.writeD 5 rfl (by kernel_rfl) (by rfl) (by kernel_rfl) 1 g1 28 (pcs x2 y2 i2) (pcs 0 0 true) (by kernel_rfl) (Writes.store 0 28 (pcs 0 0 true) _ _ rfl (by kernel_rfl) (by kernel_rfl) (by kernel_rfl) (Nat.le_of_ble_eq_true (by kernel_rfl)) (by kernel_rfl) (by kernel_rfl)) ?_
  refine Sy.doneD (by kernel_rfl) ?_
  refine Sy.then_ ?_
  refine Sy.seq ?_
  refine Sy.block ?_
  refine Sy.seq ?_
  refine Sy.regionD (fun j => false) (by kernel_rfl) ?_
  refine Sy.stepD 0 rfl (by kernel_rfl) (fun _ _ _ _ h => h) (by kernel_rfl) (pv 0 0 true) (Quiet.load 0 g0 0 9 28 28 (pcs 0 0 true) _ _ rfl (by kernel_rfl) (by kernel_rfl) Tryd.underlying28 rfl (by kernel_rfl) _ (by kernel_rfl) (Nat.le_of_ble_eq_true (by kernel_rfl))) ?_
  refine Sy.stepD 1 rfl (by kernel_rfl) (fun _ _ _ _ h => h) (by kernel_rfl) (pv 0 0 true) (Quiet.call 18 #[] (fun _ => by kernel_rfl) (zero_c)) ?_
  refine Sy.stepD 2 rfl (by kernel_rfl) (fun _ _ _ _ h => h) (by kernel_rfl) (.bool true) (Quiet.pure (fun w => eql_pt w _ _ _ _ 0 0 true 0 0 true rfl rfl rfl (by decide) (by decide) (by decide) (by decide))) ?_
  refine Sy.stepD 3 rfl (by kernel_rfl) (fun _ _ _ _ h => h) (by kernel_rfl) (.bool true) (Quiet.pure (fun _ => by kernel_rfl)) ?_
  refine Sy.doneD (by kernel_rfl) ?_
  refine Sy.then_ ?_
  refine Sy.cond_t (by kernel_rfl) (by kernel_rfl) ?_
  refine Sy.seq ?_
  refine Sy.region ?_
  refine Sy.step (by kernel_rfl) (pv 0 0 true) (Quiet.load 1 g1 0 9 28 28 (pcs 0 0 true) _ _ rfl (by kernel_rfl) (by kernel_rfl) Tryd.underlying28 rfl (by kernel_rfl) _ (by kernel_rfl) (Nat.le_of_ble_eq_true (by kernel_rfl))) ?_
  refine Sy.write (by kernel_rfl) 2 g2 28 (pcs 0 0 false) (pcs 0 0 true) (by kernel_rfl) (Writes.store 0 28 (pcs 0 0 true) _ _ rfl (by kernel_rfl) (by kernel_rfl) (by kernel_rfl) (Nat.le_of_ble_eq_true (by kernel_rfl)) (by kernel_rfl) (by kernel_rfl)) ?_
  refine Sy.nil ?_
  refine Sy.then_ ?_
  refine Sy.ret ?_
  refine Sy.in_ret ?_
  refine Sy.then_ret ?_
  rw [show (ptv none : Value) = pv 0 0 true from rfl]
  exact Sy.ret1 (v := pv 0 0 true) rfl (.inl (Res.cell (ty' := 28) g2 2 (pcs 0 0 true) _ (by kernel_rfl) (by kernel_rfl) Tryd.underlying28 rfl (by kernel_rfl) (by kernel_rfl)))
set_option maxHeartbeats 4000000 in
set_option maxRecDepth 100000 in
theorem add_ns (w : World) (x y : Nat) (i : Bool) (x2 y2 : Nat) (i2 : Bool) (hx : x < K4) (hy : y < K4) (hx2 : x2 < K4) (hy2 : y2 < K4) (c d : Fp) (h : dec x y i = none) (k : dec x2 y2 i2 = some (c, d)) : Calls Tryd.prog 17 #[pv x y i, pv x2 y2 i2] w (Gets w (ptv (some (c, d)))) := by
  refine Sy.enter (args := [pv x y i, pv x2 y2 i2]) Tryd.func17 rfl (Nat.le_of_ble_eq_true (by kernel_rfl)) ?_
  refine Sy.seq ?_
  refine Sy.region ?_
  refine Sy.make (by kernel_rfl) 28 (pcs x y i) ptr (fun _ => by kernel_rfl) (fun g0 => ?_)
  refine Sy.make (by kernel_rfl) 28 (pcs x2 y2 i2) ptr (fun _ => by kernel_rfl) (fun g1 => ?_)
  refine Sy.make (by kernel_rfl) 28 (pcs 0 0 false) ptr (fun _ => by kernel_rfl) (fun g2 => ?_)
  refine Sy.nil ?_
  refine Sy.then_ ?_
  refine Sy.seq ?_
  refine Sy.regionD (fun j => j == 4 || j == 5) (by kernel_rfl) ?_
  refine Sy.stepD 0 rfl (by kernel_rfl) (fun _ _ _ _ h => h) (by kernel_rfl) (pv x y i) (Quiet.load 0 g0 0 9 28 28 (pcs x y i) _ _ rfl (by kernel_rfl) (by kernel_rfl) Tryd.underlying28 rfl (by kernel_rfl) _ (by kernel_rfl) (Nat.le_of_ble_eq_true (by kernel_rfl))) ?_
  refine Sy.stepD 1 rfl (by kernel_rfl) (fun _ _ _ _ h => h) (by kernel_rfl) (pv 0 0 true) (Quiet.call 34 #[pv x y i] (fun _ => by kernel_rfl) (fun w => by have hrr := right_c w x y i (by first | assumption | exact lt4 _ | decide +kernel) (by first | assumption | exact lt4 _ | decide +kernel); rw [h] at hrr; exact hrr)) ?_
  refine Sy.stepDB 2 [3, 4, 5] rfl (by kernel_rfl) (fun _ _ _ _ h => h) (by kernel_rfl) (pv x2 y2 i2) (Quiet.load 1 g1 0 9 28 28 (pcs x2 y2 i2) _ _ rfl (by kernel_rfl) (by kernel_rfl) Tryd.underlying28 rfl (by kernel_rfl) _ (by kernel_rfl) (Nat.le_of_ble_eq_true (by kernel_rfl))) ?_
  refine Sy.stepD 3 rfl (by kernel_rfl) (fun _ _ _ _ h => h) (by kernel_rfl) (pv c.val d.val false) (Quiet.call 34 #[pv x2 y2 i2] (fun _ => by kernel_rfl) (fun w => by have hrr := right_c w x2 y2 i2 (by first | assumption | exact lt4 _ | decide +kernel) (by first | assumption | exact lt4 _ | decide +kernel); rw [k] at hrr; exact hrr)) ?_
  refine Sy.writeD 4 rfl (by kernel_rfl) (by rfl) (by kernel_rfl) 0 g0 28 (pcs x y i) (pcs 0 0 true) (by kernel_rfl) (Writes.store 0 28 (pcs 0 0 true) _ _ rfl (by kernel_rfl) (by kernel_rfl) (by kernel_rfl) (Nat.le_of_ble_eq_true (by kernel_rfl)) (by kernel_rfl) (by kernel_rfl)) ?_
  refine Sy.writeD 5 rfl (by kernel_rfl) (by rfl) (by kernel_rfl) 1 g1 28 (pcs x2 y2 i2) (pcs c.val d.val false) (by kernel_rfl) (Writes.store 0 28 (pcs c.val d.val false) _ _ rfl (by kernel_rfl) (by kernel_rfl) (by kernel_rfl) (Nat.le_of_ble_eq_true (by kernel_rfl)) (by kernel_rfl) (by kernel_rfl)) ?_
  refine Sy.doneD (by kernel_rfl) ?_
  refine Sy.then_ ?_
  refine Sy.seq ?_
  refine Sy.block ?_
  refine Sy.seq ?_
  refine Sy.regionD (fun j => false) (by kernel_rfl) ?_
  refine Sy.stepD 0 rfl (by kernel_rfl) (fun _ _ _ _ h => h) (by kernel_rfl) (pv 0 0 true) (Quiet.load 0 g0 0 9 28 28 (pcs 0 0 true) _ _ rfl (by kernel_rfl) (by kernel_rfl) Tryd.underlying28 rfl (by kernel_rfl) _ (by kernel_rfl) (Nat.le_of_ble_eq_true (by kernel_rfl))) ?_
  refine Sy.stepD 1 rfl (by kernel_rfl) (fun _ _ _ _ h => h) (by kernel_rfl) (pv 0 0 true) (Quiet.call 18 #[] (fun _ => by kernel_rfl) (zero_c)) ?_
  refine Sy.stepD 2 rfl (by kernel_rfl) (fun _ _ _ _ h => h) (by kernel_rfl) (.bool true) (Quiet.pure (fun w => eql_pt w _ _ _ _ 0 0 true 0 0 true rfl rfl rfl (by decide) (by decide) (by decide) (by decide))) ?_
  refine Sy.stepD 3 rfl (by kernel_rfl) (fun _ _ _ _ h => h) (by kernel_rfl) (.bool true) (Quiet.pure (fun _ => by kernel_rfl)) ?_
  refine Sy.doneD (by kernel_rfl) ?_
  refine Sy.then_ ?_
  refine Sy.cond_t (by kernel_rfl) (by kernel_rfl) ?_
  refine Sy.seq ?_
  refine Sy.region ?_
  refine Sy.step (by kernel_rfl) (pv c.val d.val false) (Quiet.load 1 g1 0 9 28 28 (pcs c.val d.val false) _ _ rfl (by kernel_rfl) (by kernel_rfl) Tryd.underlying28 rfl (by kernel_rfl) _ (by kernel_rfl) (Nat.le_of_ble_eq_true (by kernel_rfl))) ?_
  refine Sy.write (by kernel_rfl) 2 g2 28 (pcs 0 0 false) (pcs c.val d.val false) (by kernel_rfl) (Writes.store 0 28 (pcs c.val d.val false) _ _ rfl (by kernel_rfl) (by kernel_rfl) (by kernel_rfl) (Nat.le_of_ble_eq_true (by kernel_rfl)) (by kernel_rfl) (by kernel_rfl)) ?_
  refine Sy.nil ?_
  refine Sy.then_ ?_
  refine Sy.ret ?_
  refine Sy.in_ret ?_
  refine Sy.then_ret ?_
  rw [show (ptv (some (c, d)) : Value) = pv c.val d.val false from rfl]
  exact Sy.ret1 (v := pv c.val d.val false) rfl (.inl (Res.cell (ty' := 28) g2 2 (pcs c.val d.val false) _ (by kernel_rfl) (by kernel_rfl) Tryd.underlying28 rfl (by kernel_rfl) (by kernel_rfl)))
set_option maxHeartbeats 4000000 in
set_option maxRecDepth 100000 in
theorem add_sn (w : World) (x y : Nat) (i : Bool) (x2 y2 : Nat) (i2 : Bool) (hx : x < K4) (hy : y < K4) (hx2 : x2 < K4) (hy2 : y2 < K4) (u v : Fp) (h : dec x y i = some (u, v)) (k : dec x2 y2 i2 = none) : Calls Tryd.prog 17 #[pv x y i, pv x2 y2 i2] w (Gets w (ptv (some (u, v)))) := by
  refine Sy.enter (args := [pv x y i, pv x2 y2 i2]) Tryd.func17 rfl (Nat.le_of_ble_eq_true (by kernel_rfl)) ?_
  refine Sy.seq ?_
  refine Sy.region ?_
  refine Sy.make (by kernel_rfl) 28 (pcs x y i) ptr (fun _ => by kernel_rfl) (fun g0 => ?_)
  refine Sy.make (by kernel_rfl) 28 (pcs x2 y2 i2) ptr (fun _ => by kernel_rfl) (fun g1 => ?_)
  refine Sy.make (by kernel_rfl) 28 (pcs 0 0 false) ptr (fun _ => by kernel_rfl) (fun g2 => ?_)
  refine Sy.nil ?_
  refine Sy.then_ ?_
  refine Sy.seq ?_
  refine Sy.regionD (fun j => j == 4 || j == 5) (by kernel_rfl) ?_
  refine Sy.stepD 0 rfl (by kernel_rfl) (fun _ _ _ _ h => h) (by kernel_rfl) (pv x y i) (Quiet.load 0 g0 0 9 28 28 (pcs x y i) _ _ rfl (by kernel_rfl) (by kernel_rfl) Tryd.underlying28 rfl (by kernel_rfl) _ (by kernel_rfl) (Nat.le_of_ble_eq_true (by kernel_rfl))) ?_
  refine Sy.stepD 1 rfl (by kernel_rfl) (fun _ _ _ _ h => h) (by kernel_rfl) (pv u.val v.val false) (Quiet.call 34 #[pv x y i] (fun _ => by kernel_rfl) (fun w => by have hrr := right_c w x y i (by first | assumption | exact lt4 _ | decide +kernel) (by first | assumption | exact lt4 _ | decide +kernel); rw [h] at hrr; exact hrr)) ?_
  refine Sy.stepDB 2 [3, 4, 5] rfl (by kernel_rfl) (fun _ _ _ _ h => h) (by kernel_rfl) (pv x2 y2 i2) (Quiet.load 1 g1 0 9 28 28 (pcs x2 y2 i2) _ _ rfl (by kernel_rfl) (by kernel_rfl) Tryd.underlying28 rfl (by kernel_rfl) _ (by kernel_rfl) (Nat.le_of_ble_eq_true (by kernel_rfl))) ?_
  refine Sy.stepD 3 rfl (by kernel_rfl) (fun _ _ _ _ h => h) (by kernel_rfl) (pv 0 0 true) (Quiet.call 34 #[pv x2 y2 i2] (fun _ => by kernel_rfl) (fun w => by have hrr := right_c w x2 y2 i2 (by first | assumption | exact lt4 _ | decide +kernel) (by first | assumption | exact lt4 _ | decide +kernel); rw [k] at hrr; exact hrr)) ?_
  refine Sy.writeD 4 rfl (by kernel_rfl) (by rfl) (by kernel_rfl) 0 g0 28 (pcs x y i) (pcs u.val v.val false) (by kernel_rfl) (Writes.store 0 28 (pcs u.val v.val false) _ _ rfl (by kernel_rfl) (by kernel_rfl) (by kernel_rfl) (Nat.le_of_ble_eq_true (by kernel_rfl)) (by kernel_rfl) (by kernel_rfl)) ?_
  refine Sy.writeD 5 rfl (by kernel_rfl) (by rfl) (by kernel_rfl) 1 g1 28 (pcs x2 y2 i2) (pcs 0 0 true) (by kernel_rfl) (Writes.store 0 28 (pcs 0 0 true) _ _ rfl (by kernel_rfl) (by kernel_rfl) (by kernel_rfl) (Nat.le_of_ble_eq_true (by kernel_rfl)) (by kernel_rfl) (by kernel_rfl)) ?_
  refine Sy.doneD (by kernel_rfl) ?_
  refine Sy.then_ ?_
  refine Sy.seq ?_
  refine Sy.block ?_
  refine Sy.seq ?_
  refine Sy.regionD (fun j => false) (by kernel_rfl) ?_
  refine Sy.stepD 0 rfl (by kernel_rfl) (fun _ _ _ _ h => h) (by kernel_rfl) (pv u.val v.val false) (Quiet.load 0 g0 0 9 28 28 (pcs u.val v.val false) _ _ rfl (by kernel_rfl) (by kernel_rfl) Tryd.underlying28 rfl (by kernel_rfl) _ (by kernel_rfl) (Nat.le_of_ble_eq_true (by kernel_rfl))) ?_
  refine Sy.stepD 1 rfl (by kernel_rfl) (fun _ _ _ _ h => h) (by kernel_rfl) (pv 0 0 true) (Quiet.call 18 #[] (fun _ => by kernel_rfl) (zero_c)) ?_
  refine Sy.stepD 2 rfl (by kernel_rfl) (fun _ _ _ _ h => h) (by kernel_rfl) (.bool false) (Quiet.pure (fun w => eql_pt_ne w _ _ _ _ _ _ _ _ _ _ rfl rfl rfl (by first | assumption | exact lt4 _ | decide +kernel) (by first | assumption | exact lt4 _ | decide +kernel) (by first | assumption | exact lt4 _ | decide +kernel) (by first | assumption | exact lt4 _ | decide +kernel) (by decide))) ?_
  refine Sy.stepD 3 rfl (by kernel_rfl) (fun _ _ _ _ h => h) (by kernel_rfl) (.bool false) (Quiet.pure (fun _ => by kernel_rfl)) ?_
  refine Sy.doneD (by kernel_rfl) ?_
  refine Sy.then_ ?_
  refine Sy.cond_f (by kernel_rfl) (by kernel_rfl) ?_
  refine Sy.seq ?_
  refine Sy.regionD (fun j => false) (by kernel_rfl) ?_
  refine Sy.stepD 0 rfl (by kernel_rfl) (fun _ _ _ _ h => h) (by kernel_rfl) (pv 0 0 true) (Quiet.load 1 g1 0 9 28 28 (pcs 0 0 true) _ _ rfl (by kernel_rfl) (by kernel_rfl) Tryd.underlying28 rfl (by kernel_rfl) _ (by kernel_rfl) (Nat.le_of_ble_eq_true (by kernel_rfl))) ?_
  refine Sy.stepD 1 rfl (by kernel_rfl) (fun _ _ _ _ h => h) (by kernel_rfl) (pv 0 0 true) (Quiet.call 18 #[] (fun _ => by kernel_rfl) (zero_c)) ?_
  refine Sy.stepD 2 rfl (by kernel_rfl) (fun _ _ _ _ h => h) (by kernel_rfl) (.bool true) (Quiet.pure (fun w => eql_pt w _ _ _ _ 0 0 true 0 0 true rfl rfl rfl (by decide) (by decide) (by decide) (by decide))) ?_
  refine Sy.stepD 3 rfl (by kernel_rfl) (fun _ _ _ _ h => h) (by kernel_rfl) (.bool true) (Quiet.pure (fun _ => by kernel_rfl)) ?_
  refine Sy.doneD (by kernel_rfl) ?_
  refine Sy.then_ ?_
  refine Sy.cond_t (by kernel_rfl) (by kernel_rfl) ?_
  refine Sy.seq ?_
  refine Sy.region ?_
  refine Sy.step (by kernel_rfl) (pv u.val v.val false) (Quiet.load 0 g0 0 9 28 28 (pcs u.val v.val false) _ _ rfl (by kernel_rfl) (by kernel_rfl) Tryd.underlying28 rfl (by kernel_rfl) _ (by kernel_rfl) (Nat.le_of_ble_eq_true (by kernel_rfl))) ?_
  refine Sy.write (by kernel_rfl) 2 g2 28 (pcs 0 0 false) (pcs u.val v.val false) (by kernel_rfl) (Writes.store 0 28 (pcs u.val v.val false) _ _ rfl (by kernel_rfl) (by kernel_rfl) (by kernel_rfl) (Nat.le_of_ble_eq_true (by kernel_rfl)) (by kernel_rfl) (by kernel_rfl)) ?_
  refine Sy.nil ?_
  refine Sy.then_ ?_
  refine Sy.ret ?_
  refine Sy.in_ret ?_
  refine Sy.then_ret ?_
  rw [show (ptv (some (u, v)) : Value) = pv u.val v.val false from rfl]
  exact Sy.ret1 (v := pv u.val v.val false) rfl (.inl (Res.cell (ty' := 28) g2 2 (pcs u.val v.val false) _ (by kernel_rfl) (by kernel_rfl) Tryd.underlying28 rfl (by kernel_rfl) (by kernel_rfl)))
set_option maxHeartbeats 4000000 in
set_option maxRecDepth 100000 in
theorem add_ss (w : World) (x y : Nat) (i : Bool) (x2 y2 : Nat) (i2 : Bool) (hx : x < K4) (hy : y < K4) (hx2 : x2 < K4) (hy2 : y2 < K4) (u v c d : Fp) (h : dec x y i = some (u, v)) (k : dec x2 y2 i2 = some (c, d)) (ho : v * v = u * u * u + 7) (hk : d * d = c * c * c + 7) : Calls Tryd.prog 17 #[pv x y i, pv x2 y2 i2] w (Gets w (ptv (Ec.add finv (some (u, v)) (some (c, d))))) := by
  refine Sy.enter (args := [pv x y i, pv x2 y2 i2]) Tryd.func17 rfl (Nat.le_of_ble_eq_true (by kernel_rfl)) ?_
  refine Sy.seq ?_
  refine Sy.region ?_
  refine Sy.make (by kernel_rfl) 28 (pcs x y i) ptr (fun _ => by kernel_rfl) (fun g0 => ?_)
  refine Sy.make (by kernel_rfl) 28 (pcs x2 y2 i2) ptr (fun _ => by kernel_rfl) (fun g1 => ?_)
  refine Sy.make (by kernel_rfl) 28 (pcs 0 0 false) ptr (fun _ => by kernel_rfl) (fun g2 => ?_)
  refine Sy.nil ?_
  refine Sy.then_ ?_
  refine Sy.seq ?_
  refine Sy.regionD (fun j => j == 4 || j == 5) (by kernel_rfl) ?_
  refine Sy.stepD 0 rfl (by kernel_rfl) (fun _ _ _ _ h => h) (by kernel_rfl) (pv x y i) (Quiet.load 0 g0 0 9 28 28 (pcs x y i) _ _ rfl (by kernel_rfl) (by kernel_rfl) Tryd.underlying28 rfl (by kernel_rfl) _ (by kernel_rfl) (Nat.le_of_ble_eq_true (by kernel_rfl))) ?_
  refine Sy.stepD 1 rfl (by kernel_rfl) (fun _ _ _ _ h => h) (by kernel_rfl) (pv u.val v.val false) (Quiet.call 34 #[pv x y i] (fun _ => by kernel_rfl) (fun w => by have hrr := right_c w x y i (by first | assumption | exact lt4 _ | decide +kernel) (by first | assumption | exact lt4 _ | decide +kernel); rw [h] at hrr; exact hrr)) ?_
  refine Sy.stepDB 2 [3, 4, 5] rfl (by kernel_rfl) (fun _ _ _ _ h => h) (by kernel_rfl) (pv x2 y2 i2) (Quiet.load 1 g1 0 9 28 28 (pcs x2 y2 i2) _ _ rfl (by kernel_rfl) (by kernel_rfl) Tryd.underlying28 rfl (by kernel_rfl) _ (by kernel_rfl) (Nat.le_of_ble_eq_true (by kernel_rfl))) ?_
  refine Sy.stepD 3 rfl (by kernel_rfl) (fun _ _ _ _ h => h) (by kernel_rfl) (pv c.val d.val false) (Quiet.call 34 #[pv x2 y2 i2] (fun _ => by kernel_rfl) (fun w => by have hrr := right_c w x2 y2 i2 (by first | assumption | exact lt4 _ | decide +kernel) (by first | assumption | exact lt4 _ | decide +kernel); rw [k] at hrr; exact hrr)) ?_
  refine Sy.writeD 4 rfl (by kernel_rfl) (by rfl) (by kernel_rfl) 0 g0 28 (pcs x y i) (pcs u.val v.val false) (by kernel_rfl) (Writes.store 0 28 (pcs u.val v.val false) _ _ rfl (by kernel_rfl) (by kernel_rfl) (by kernel_rfl) (Nat.le_of_ble_eq_true (by kernel_rfl)) (by kernel_rfl) (by kernel_rfl)) ?_
  refine Sy.writeD 5 rfl (by kernel_rfl) (by rfl) (by kernel_rfl) 1 g1 28 (pcs x2 y2 i2) (pcs c.val d.val false) (by kernel_rfl) (Writes.store 0 28 (pcs c.val d.val false) _ _ rfl (by kernel_rfl) (by kernel_rfl) (by kernel_rfl) (Nat.le_of_ble_eq_true (by kernel_rfl)) (by kernel_rfl) (by kernel_rfl)) ?_
  refine Sy.doneD (by kernel_rfl) ?_
  refine Sy.then_ ?_
  refine Sy.seq ?_
  refine Sy.block ?_
  refine Sy.seq ?_
  refine Sy.regionD (fun j => false) (by kernel_rfl) ?_
  refine Sy.stepD 0 rfl (by kernel_rfl) (fun _ _ _ _ h => h) (by kernel_rfl) (pv u.val v.val false) (Quiet.load 0 g0 0 9 28 28 (pcs u.val v.val false) _ _ rfl (by kernel_rfl) (by kernel_rfl) Tryd.underlying28 rfl (by kernel_rfl) _ (by kernel_rfl) (Nat.le_of_ble_eq_true (by kernel_rfl))) ?_
  refine Sy.stepD 1 rfl (by kernel_rfl) (fun _ _ _ _ h => h) (by kernel_rfl) (pv 0 0 true) (Quiet.call 18 #[] (fun _ => by kernel_rfl) (zero_c)) ?_
  refine Sy.stepD 2 rfl (by kernel_rfl) (fun _ _ _ _ h => h) (by kernel_rfl) (.bool false) (Quiet.pure (fun w => eql_pt_ne w _ _ _ _ _ _ _ _ _ _ rfl rfl rfl (by first | assumption | exact lt4 _ | decide +kernel) (by first | assumption | exact lt4 _ | decide +kernel) (by first | assumption | exact lt4 _ | decide +kernel) (by first | assumption | exact lt4 _ | decide +kernel) (by decide))) ?_
  refine Sy.stepD 3 rfl (by kernel_rfl) (fun _ _ _ _ h => h) (by kernel_rfl) (.bool false) (Quiet.pure (fun _ => by kernel_rfl)) ?_
  refine Sy.doneD (by kernel_rfl) ?_
  refine Sy.then_ ?_
  refine Sy.cond_f (by kernel_rfl) (by kernel_rfl) ?_
  refine Sy.seq ?_
  refine Sy.regionD (fun j => false) (by kernel_rfl) ?_
  refine Sy.stepD 0 rfl (by kernel_rfl) (fun _ _ _ _ h => h) (by kernel_rfl) (pv c.val d.val false) (Quiet.load 1 g1 0 9 28 28 (pcs c.val d.val false) _ _ rfl (by kernel_rfl) (by kernel_rfl) Tryd.underlying28 rfl (by kernel_rfl) _ (by kernel_rfl) (Nat.le_of_ble_eq_true (by kernel_rfl))) ?_
  refine Sy.stepD 1 rfl (by kernel_rfl) (fun _ _ _ _ h => h) (by kernel_rfl) (pv 0 0 true) (Quiet.call 18 #[] (fun _ => by kernel_rfl) (zero_c)) ?_
  refine Sy.stepD 2 rfl (by kernel_rfl) (fun _ _ _ _ h => h) (by kernel_rfl) (.bool false) (Quiet.pure (fun w => eql_pt_ne w _ _ _ _ _ _ _ _ _ _ rfl rfl rfl (by first | assumption | exact lt4 _ | decide +kernel) (by first | assumption | exact lt4 _ | decide +kernel) (by first | assumption | exact lt4 _ | decide +kernel) (by first | assumption | exact lt4 _ | decide +kernel) (by decide))) ?_
  refine Sy.stepD 3 rfl (by kernel_rfl) (fun _ _ _ _ h => h) (by kernel_rfl) (.bool false) (Quiet.pure (fun _ => by kernel_rfl)) ?_
  refine Sy.doneD (by kernel_rfl) ?_
  refine Sy.then_ ?_
  refine Sy.cond_f (by kernel_rfl) (by kernel_rfl) ?_
  refine Sy.seq ?_
  refine Sy.regionD (fun j => false) (by kernel_rfl) ?_
  refine Sy.stepD 0 rfl (by kernel_rfl) (fun _ _ _ _ h => h) (by kernel_rfl) (pv u.val v.val false) (Quiet.load 0 g0 0 9 28 28 (pcs u.val v.val false) _ _ rfl (by kernel_rfl) (by kernel_rfl) Tryd.underlying28 rfl (by kernel_rfl) _ (by kernel_rfl) (Nat.le_of_ble_eq_true (by kernel_rfl))) ?_
  refine Sy.stepD 1 rfl (by kernel_rfl) (fun _ _ _ _ h => h) (by kernel_rfl) (pv c.val d.val false) (Quiet.load 1 g1 0 9 28 28 (pcs c.val d.val false) _ _ rfl (by kernel_rfl) (by kernel_rfl) Tryd.underlying28 rfl (by kernel_rfl) _ (by kernel_rfl) (Nat.le_of_ble_eq_true (by kernel_rfl))) ?_
  obtain ⟨z1, hz1⟩ : ∃ z : Fp, z = -d := ⟨_, rfl⟩
  refine Sy.stepD 2 rfl (by kernel_rfl) (fun _ _ _ _ h => h) (by kernel_rfl) (pv c.val z1.val false) (Quiet.call 19 #[pv c.val d.val false] (fun _ => by kernel_rfl) (fun w => by rw [hz1]; exact neg_pt w c d (by assumption))) ?_
  obtain ⟨b1, hb1⟩ : ∃ z : Bool, z = sameB u.val v.val false c.val z1.val false := ⟨_, rfl⟩
  refine Sy.stepD 3 rfl (by kernel_rfl) (fun _ _ _ _ h => h) (by kernel_rfl) (.bool b1) (Quiet.pure (fun w => by rw [hb1]; exact eql_pt w _ _ _ _ _ _ _ _ _ _ rfl rfl rfl (by first | assumption | exact lt4 _ | decide +kernel) (by first | assumption | exact lt4 _ | decide +kernel) (by first | assumption | exact lt4 _ | decide +kernel) (by first | assumption | exact lt4 _ | decide +kernel))) ?_
  refine Sy.stepD 4 rfl (by kernel_rfl) (fun _ _ _ _ h => h) (by kernel_rfl) (.bool b1) (Quiet.pure (fun _ => by kernel_rfl)) ?_
  refine Sy.doneD (by kernel_rfl) ?_
  refine Sy.then_ ?_
  cases b1
  · have ha : ¬ (u = c ∧ v + d = 0) := by
      rintro ⟨e1, e2⟩
      have e := sameB_fin u v c z1
      rw [← hb1] at e
      refine of_decide_eq_false e.symm ⟨e1, ?_⟩
      rw [hz1]
      clear e ho hk hz1 h k
      grobner
    have hs : u = c → v = d := fun e => Classical.byContradiction fun e2 => Ec.off fld ho hk (fun t => e2 t.2) ha e
    refine Sy.cond_f (by kernel_rfl) (by kernel_rfl) ?_
    refine Sy.skip ?_
    refine Sy.in_ ?_
    refine Sy.then_ ?_
    refine Sy.seq ?_
    refine Sy.region ?_
    refine Sy.step (by kernel_rfl) (pv u.val v.val false) (Quiet.load 0 g0 0 9 28 28 (pcs u.val v.val false) _ _ rfl (by kernel_rfl) (by kernel_rfl) Tryd.underlying28 rfl (by kernel_rfl) _ (by kernel_rfl) (Nat.le_of_ble_eq_true (by kernel_rfl))) ?_
    refine Sy.step (by kernel_rfl) (pv c.val d.val false) (Quiet.load 1 g1 0 9 28 28 (pcs c.val d.val false) _ _ rfl (by kernel_rfl) (by kernel_rfl) Tryd.underlying28 rfl (by kernel_rfl) _ (by kernel_rfl) (Nat.le_of_ble_eq_true (by kernel_rfl))) ?_
    obtain ⟨z2, hz2⟩ : ∃ z : Fp, z = Ec.slp finv u v c d := ⟨_, rfl⟩
    refine Sy.step (by kernel_rfl) (fv z2.val) (Quiet.call 35 #[pv u.val v.val false, pv c.val d.val false] (fun _ => by kernel_rfl) (by rw [hz2]; exact fun w => slope_c w u v c d (by assumption))) ?_
    refine Sy.make (by kernel_rfl) 26 (fcs 0) ptr (fun _ => by kernel_rfl) (fun g3 => ?_)
    refine Sy.write (by kernel_rfl) 3 g3 26 (fcs 0) (fcs z2.val) (by kernel_rfl) (Writes.store 0 26 (fcs z2.val) _ _ rfl (by kernel_rfl) (by kernel_rfl) (by kernel_rfl) (Nat.le_of_ble_eq_true (by kernel_rfl)) (by kernel_rfl) (by kernel_rfl)) ?_
    refine Sy.nil ?_
    refine Sy.then_ ?_
    refine Sy.seq ?_
    refine Sy.regionD (fun j => j == 10) (by kernel_rfl) ?_
    refine Sy.stepD 0 rfl (by kernel_rfl) (fun _ _ _ _ h => h) (by kernel_rfl) (fv z2.val) (Quiet.load 3 g3 0 4 26 26 (fcs z2.val) _ _ rfl (by kernel_rfl) (by kernel_rfl) Tryd.underlying26 rfl (by kernel_rfl) _ (by kernel_rfl) (Nat.le_of_ble_eq_true (by kernel_rfl))) ?_
    refine Sy.stepD 1 rfl (by kernel_rfl) (fun _ _ _ _ h => h) (by kernel_rfl) (fv z2.val) (Quiet.load 3 g3 0 4 26 26 (fcs z2.val) _ _ rfl (by kernel_rfl) (by kernel_rfl) Tryd.underlying26 rfl (by kernel_rfl) _ (by kernel_rfl) (Nat.le_of_ble_eq_true (by kernel_rfl))) ?_
    obtain ⟨z3, hz3⟩ : ∃ z : Fp, z = z2 * z2 := ⟨_, rfl⟩
    refine Sy.stepD 2 rfl (by kernel_rfl) (fun _ _ _ _ h => h) (by kernel_rfl) (fv z3.val) (Quiet.call 24 #[fv z2.val, fv z2.val] (fun _ => by kernel_rfl) (by rw [hz3]; exact mul_c z2 z2)) ?_
    refine Sy.stepD 3 rfl (by kernel_rfl) (fun _ _ _ _ h => h) (by kernel_rfl) (.pointer (some ⟨g0, 0, none⟩)) (Quiet.pure (fun _ => by kernel_rfl)) ?_
    refine Sy.stepD 4 rfl (by kernel_rfl) (fun _ _ _ _ h => h) (by kernel_rfl) (fv u.val) (Quiet.load 0 g0 0 4 28 26 (pcs u.val v.val false) _ _ rfl (by kernel_rfl) (by kernel_rfl) Tryd.underlying26 rfl (by kernel_rfl) _ (by kernel_rfl) (Nat.le_of_ble_eq_true (by kernel_rfl))) ?_
    obtain ⟨z4, hz4⟩ : ∃ z : Fp, z = z3 - u := ⟨_, rfl⟩
    refine Sy.stepD 5 rfl (by kernel_rfl) (fun _ _ _ _ h => h) (by kernel_rfl) (fv z4.val) (Quiet.call 36 #[fv z3.val, fv u.val] (fun _ => by kernel_rfl) (by rw [hz4]; exact sub_c z3 u)) ?_
    refine Sy.stepD 6 rfl (by kernel_rfl) (fun _ _ _ _ h => h) (by kernel_rfl) (.pointer (some ⟨g1, 0, none⟩)) (Quiet.pure (fun _ => by kernel_rfl)) ?_
    refine Sy.stepD 7 rfl (by kernel_rfl) (fun _ _ _ _ h => h) (by kernel_rfl) (fv c.val) (Quiet.load 1 g1 0 4 28 26 (pcs c.val d.val false) _ _ rfl (by kernel_rfl) (by kernel_rfl) Tryd.underlying26 rfl (by kernel_rfl) _ (by kernel_rfl) (Nat.le_of_ble_eq_true (by kernel_rfl))) ?_
    obtain ⟨z5, hz5⟩ : ∃ z : Fp, z = z4 - c := ⟨_, rfl⟩
    refine Sy.stepD 8 rfl (by kernel_rfl) (fun _ _ _ _ h => h) (by kernel_rfl) (fv z5.val) (Quiet.call 36 #[fv z4.val, fv c.val] (fun _ => by kernel_rfl) (by rw [hz5]; exact sub_c z4 c)) ?_
    refine Sy.makeD 9 rfl (by kernel_rfl) (by kernel_rfl) 26 (fcs 0) ptr (fun _ => by kernel_rfl) (fun g4 => ?_)
    refine Sy.writeD 10 rfl (by kernel_rfl) (by rfl) (by kernel_rfl) 4 g4 26 (fcs 0) (fcs z5.val) (by kernel_rfl) (Writes.store 0 26 (fcs z5.val) _ _ rfl (by kernel_rfl) (by kernel_rfl) (by kernel_rfl) (Nat.le_of_ble_eq_true (by kernel_rfl)) (by kernel_rfl) (by kernel_rfl)) ?_
    refine Sy.doneD (by kernel_rfl) ?_
    refine Sy.then_ ?_
    refine Sy.seq ?_
    refine Sy.regionD (fun j => j == 10) (by kernel_rfl) ?_
    refine Sy.stepD 0 rfl (by kernel_rfl) (fun _ _ _ _ h => h) (by kernel_rfl) (fv z2.val) (Quiet.load 3 g3 0 4 26 26 (fcs z2.val) _ _ rfl (by kernel_rfl) (by kernel_rfl) Tryd.underlying26 rfl (by kernel_rfl) _ (by kernel_rfl) (Nat.le_of_ble_eq_true (by kernel_rfl))) ?_
    refine Sy.stepD 1 rfl (by kernel_rfl) (fun _ _ _ _ h => h) (by kernel_rfl) (.pointer (some ⟨g0, 0, none⟩)) (Quiet.pure (fun _ => by kernel_rfl)) ?_
    refine Sy.stepD 2 rfl (by kernel_rfl) (fun _ _ _ _ h => h) (by kernel_rfl) (fv u.val) (Quiet.load 0 g0 0 4 28 26 (pcs u.val v.val false) _ _ rfl (by kernel_rfl) (by kernel_rfl) Tryd.underlying26 rfl (by kernel_rfl) _ (by kernel_rfl) (Nat.le_of_ble_eq_true (by kernel_rfl))) ?_
    refine Sy.stepD 3 rfl (by kernel_rfl) (fun _ _ _ _ h => h) (by kernel_rfl) (fv z5.val) (Quiet.load 4 g4 0 4 26 26 (fcs z5.val) _ _ rfl (by kernel_rfl) (by kernel_rfl) Tryd.underlying26 rfl (by kernel_rfl) _ (by kernel_rfl) (Nat.le_of_ble_eq_true (by kernel_rfl))) ?_
    obtain ⟨z6, hz6⟩ : ∃ z : Fp, z = u - z5 := ⟨_, rfl⟩
    refine Sy.stepD 4 rfl (by kernel_rfl) (fun _ _ _ _ h => h) (by kernel_rfl) (fv z6.val) (Quiet.call 36 #[fv u.val, fv z5.val] (fun _ => by kernel_rfl) (by rw [hz6]; exact sub_c u z5)) ?_
    obtain ⟨z7, hz7⟩ : ∃ z : Fp, z = z2 * z6 := ⟨_, rfl⟩
    refine Sy.stepD 5 rfl (by kernel_rfl) (fun _ _ _ _ h => h) (by kernel_rfl) (fv z7.val) (Quiet.call 24 #[fv z2.val, fv z6.val] (fun _ => by kernel_rfl) (by rw [hz7]; exact mul_c z2 z6)) ?_
    refine Sy.stepD 6 rfl (by kernel_rfl) (fun _ _ _ _ h => h) (by kernel_rfl) (.pointer (some ⟨g0, 4, none⟩)) (Quiet.pure (fun _ => by kernel_rfl)) ?_
    refine Sy.stepD 7 rfl (by kernel_rfl) (fun _ _ _ _ h => h) (by kernel_rfl) (fv v.val) (Quiet.load 0 g0 4 4 28 26 (pcs u.val v.val false) _ _ rfl (by kernel_rfl) (by kernel_rfl) Tryd.underlying26 rfl (by kernel_rfl) _ (by kernel_rfl) (Nat.le_of_ble_eq_true (by kernel_rfl))) ?_
    obtain ⟨z8, hz8⟩ : ∃ z : Fp, z = z7 - v := ⟨_, rfl⟩
    refine Sy.stepD 8 rfl (by kernel_rfl) (fun _ _ _ _ h => h) (by kernel_rfl) (fv z8.val) (Quiet.call 36 #[fv z7.val, fv v.val] (fun _ => by kernel_rfl) (by rw [hz8]; exact sub_c z7 v)) ?_
    refine Sy.makeD 9 rfl (by kernel_rfl) (by kernel_rfl) 26 (fcs 0) ptr (fun _ => by kernel_rfl) (fun g5 => ?_)
    refine Sy.writeD 10 rfl (by kernel_rfl) (by rfl) (by kernel_rfl) 5 g5 26 (fcs 0) (fcs z8.val) (by kernel_rfl) (Writes.store 0 26 (fcs z8.val) _ _ rfl (by kernel_rfl) (by kernel_rfl) (by kernel_rfl) (Nat.le_of_ble_eq_true (by kernel_rfl)) (by kernel_rfl) (by kernel_rfl)) ?_
    refine Sy.doneD (by kernel_rfl) ?_
    refine Sy.then_ ?_
    refine Sy.seq ?_
    refine Sy.region ?_
    refine Sy.step (by kernel_rfl) (fv z5.val) (Quiet.load 4 g4 0 4 26 26 (fcs z5.val) _ _ rfl (by kernel_rfl) (by kernel_rfl) Tryd.underlying26 rfl (by kernel_rfl) _ (by kernel_rfl) (Nat.le_of_ble_eq_true (by kernel_rfl))) ?_
    refine Sy.step (by kernel_rfl) (fv z8.val) (Quiet.load 5 g5 0 4 26 26 (fcs z8.val) _ _ rfl (by kernel_rfl) (by kernel_rfl) Tryd.underlying26 rfl (by kernel_rfl) _ (by kernel_rfl) (Nat.le_of_ble_eq_true (by kernel_rfl))) ?_
    refine Sy.step (by kernel_rfl) (pv z5.val z8.val false) (Quiet.pure (fun _ => by kernel_rfl)) ?_
    refine Sy.write (by kernel_rfl) 2 g2 28 (pcs 0 0 false) (pcs z5.val z8.val false) (by kernel_rfl) (Writes.store 0 28 (pcs z5.val z8.val false) _ _ rfl (by kernel_rfl) (by kernel_rfl) (by kernel_rfl) (Nat.le_of_ble_eq_true (by kernel_rfl)) (by kernel_rfl) (by kernel_rfl)) ?_
    refine Sy.nil ?_
    refine Sy.then_ ?_
    refine Sy.ret ?_
    rw [show (ptv (Ec.add finv (some (u, v)) (some (c, d))) : Value) = pv z5.val z8.val false from by simp only [Ec.add]; rw [if_neg ha, ← hz2]; unfold Ec.y3 Ec.x3 ptv; rw [hz8, hz7, hz6, hz5, hz4, hz3]]
    exact Sy.ret1 (v := pv z5.val z8.val false) rfl (.inl (Res.cell (ty' := 28) g2 2 (pcs z5.val z8.val false) _ (by kernel_rfl) (by kernel_rfl) Tryd.underlying28 rfl (by kernel_rfl) (by kernel_rfl)))
  · have ha : u = c ∧ v + d = 0 := by
      have e := sameB_fin u v c z1
      rw [← hb1] at e
      have e := of_decide_eq_true e.symm
      refine ⟨e.1, ?_⟩
      rw [e.2, hz1]
      clear e ho hk hz1 h k
      grobner
    refine Sy.cond_t (by kernel_rfl) (by kernel_rfl) ?_
    refine Sy.seq ?_
    refine Sy.region ?_
    refine Sy.step (by kernel_rfl) (pv 0 0 true) (Quiet.call 18 #[] (fun _ => by kernel_rfl) (zero_c)) ?_
    refine Sy.write (by kernel_rfl) 2 g2 28 (pcs 0 0 false) (pcs 0 0 true) (by kernel_rfl) (Writes.store 0 28 (pcs 0 0 true) _ _ rfl (by kernel_rfl) (by kernel_rfl) (by kernel_rfl) (Nat.le_of_ble_eq_true (by kernel_rfl)) (by kernel_rfl) (by kernel_rfl)) ?_
    refine Sy.nil ?_
    refine Sy.then_ ?_
    refine Sy.ret ?_
    refine Sy.in_ret ?_
    refine Sy.then_ret ?_
    rw [show (ptv (Ec.add finv (some (u, v)) (some (c, d))) : Value) = pv 0 0 true from by simp only [Ec.add]; rw [if_pos ha]; rfl]
    exact Sy.ret1 (v := pv 0 0 true) rfl (.inl (Res.cell (ty' := 28) g2 2 (pcs 0 0 true) _ (by kernel_rfl) (by kernel_rfl) Tryd.underlying28 rfl (by kernel_rfl) (by kernel_rfl)))
/-- every sum -/
theorem add_any (w : World) (x y : Nat) (i : Bool) (x2 y2 : Nat) (i2 : Bool) (hx : x < K4) (hy : y < K4) (hx2 : x2 < K4) (hy2 : y2 < K4) : Calls Tryd.prog 17 #[pv x y i, pv x2 y2 i2] w (Gets w (ptv (Ec.add finv (dec x y i) (dec x2 y2 i2)))) := by
  have o1 := dec_on x y i
  have o2 := dec_on x2 y2 i2
  rcases h : dec x y i with _ | ⟨u, v⟩ <;> rcases k : dec x2 y2 i2 with _ | ⟨c, d⟩
  · exact add_nn w x y i x2 y2 i2 hx hy hx2 hy2 h k
  · exact add_ns w x y i x2 y2 i2 hx hy hx2 hy2 c d h k
  · exact add_sn w x y i x2 y2 i2 hx hy hx2 hy2 u v h k
  · rw [h] at o1
    rw [k] at o2
    exact add_ss w x y i x2 y2 i2 hx hy hx2 hy2 u v c d h k o1 o2
end Go.Proofs.YtneeefinaejgcaaDoor.Cu

end
section
namespace Go.Proofs.YtneeefinaejgcaaDoor
open Go.RowKit Go.Lib

/-- the modulus p as the document has it, and what it lacks -/
def modV : Value := .agg #[.int .u64 18446744069414583343, .int .u64 18446744073709551615, .int .u64 18446744073709551615, .int .u64 18446744073709551615, .int .u64 4294968273, .int .u64 0, .int .u64 0]
theorem fv_P : fv 115792089237316195423570985008687907853269984665640564039457584007908834671663 = .agg #[.int .u64 18446744069414583343, .int .u64 18446744073709551615, .int .u64 18446744073709551615, .int .u64 18446744073709551615] := rfl

theorem refP_any (w : World) : Calls Tryd.prog 43 #[] w fun e w' => e = .returned modV ∧ Below w.heap.size w w' := by
  go_enter Tryd.func43, Tryd.ntmps43
  go_wp2
  exact bodyPost_ret (results_cell_row rfl _ _ w.heap.size _ _ (0, 0) _ rfl (heap_alloc_new w _) Tryd.underlying76 rfl (by kernel_rfl)) rfl ⟨rfl, (Below.refl _ _).alloc (Nat.le_refl _) _⟩
theorem refFe_any (w : World) (n : Nat) (hn : n < 115792089237316195423570985008687907853269984665640564039457584007913129639936) : Calls Tryd.prog 85 #[fv n] w fun e w' => e = .returned (fv n) ∧ Below w.heap.size w w' := by
  obtain ⟨a, b, c, d, fn⟩ := words_fv n hn
  rw [fn]
  clear fn
  go_enter Tryd.func85, Tryd.ntmps85
  go_wp2
  exact bodyPost_ret (results_cell_row rfl _ _ (w.heap.size + 1) _ _ (0, 0) _ rfl (heap_alloc2_new w _ _) Tryd.underlying26 rfl (by kernel_rfl)) rfl ⟨rfl, below_alloc2 w _ _⟩

set_option maxHeartbeats 8000000 in
set_option maxRecDepth 100000 in
theorem below_at {v1 v2 : Value} (w : World) (x y : Nat) (h1 : fv x = v1) (h2 : fv y = v2) (hx : x < 115792089237316195423570985008687907853269984665640564039457584007913129639936) (hy : y < 115792089237316195423570985008687907853269984665640564039457584007913129639936) : Calls Tryd.prog 84 #[v1, v2] w fun e w' => e = .returned (.bool (decide (x < y))) ∧ Below w.heap.size w w' := by
  subst h1 h2
  obtain ⟨x0, x1, x2, x3, a0, a1, a2, a3, ex, fx⟩ := words_of x hx
  obtain ⟨y0, y1, y2, y3, b0, b1, b2, b3, ey, fy⟩ := words_of y hy
  obtain ⟨r, hr⟩ : ∃ r, r = decide (x < y) := ⟨_, rfl⟩
  have t3 : x3 ≠ y3 → r = decide ((x3 : Int) < (y3 : Int)) := fun h => by rw [hr]; congr 1; simp only [eq_iff_iff]; omega
  have t2 : x3 = y3 → x2 ≠ y2 → r = decide ((x2 : Int) < (y2 : Int)) := fun _ h => by rw [hr]; congr 1; simp only [eq_iff_iff]; omega
  have t1 : x3 = y3 → x2 = y2 → x1 ≠ y1 → r = decide ((x1 : Int) < (y1 : Int)) := fun _ _ h => by rw [hr]; congr 1; simp only [eq_iff_iff]; omega
  have t0 : x3 = y3 → x2 = y2 → x1 = y1 → x0 ≠ y0 → r = decide ((x0 : Int) < (y0 : Int)) := fun _ _ _ h => by rw [hr]; congr 1; simp only [eq_iff_iff]; omega
  have te : x3 = y3 → x2 = y2 → x1 = y1 → x0 = y0 → r = false := fun _ _ _ _ => by rw [hr]; simp only [decide_eq_false_iff_not]; omega
  have HT := Lib.hid (And.intro t3 (And.intro t2 (And.intro t1 (And.intro t0 te))))
  rw [fx, fy, ← hr]
  clear fx fy ex ey hx hy a0 a1 a2 a3 b0 b1 b2 b3 hr t3 t2 t1 t0 te
  go_enter Tryd.func84, Tryd.ntmps84
  go_wp2_with fail
  go_loopw [5] (fun i wr => Below w.heap.size w wr ∧ Blk wr w.heap.size 68 #[.int .u64 (x0 : Int), .int .u64 (x1 : Int), .int .u64 (x2 : Int), .int .u64 (x3 : Int)] ∧ Blk wr (w.heap.size + 1) 68 #[.int .u64 (y0 : Int), .int .u64 (y1 : Int), .int .u64 (y2 : Int), .int .u64 (y3 : Int)] ∧ Hid ((i = .int .i64 3) ∨ (i = .int .i64 2 ∧ x3 = y3) ∨ (i = .int .i64 1 ∧ x3 = y3 ∧ x2 = y2) ∨ (i = .int .i64 0 ∧ x3 = y3 ∧ x2 = y2 ∧ x1 = y1) ∨ (i = .int .i64 (-1) ∧ x3 = y3 ∧ x2 = y2 ∧ x1 = y1 ∧ x0 = y0))) (fun i _ => (intOf i + 1).toNat)
  case atStart => exact ⟨below_alloc2 w _ _, (Blk.new w _ _).alloc _, blk_new2 w _ _ _, Lib.hid (.inl rfl)⟩
  case round =>
    obtain ⟨hb, BX, BY, HI⟩ := hrel
    have lX := BX.lt
    have lY := BY.lt
    have qx0 : wr.cell? ⟨w.heap.size, 0, none⟩ = some (.int .u64 (x0 : Int)) := BX.cell 0
    have qy0 : wr.cell? ⟨w.heap.size + 1, 0, none⟩ = some (.int .u64 (y0 : Int)) := BY.cell 0
    have qx1 : wr.cell? ⟨w.heap.size, 1, none⟩ = some (.int .u64 (x1 : Int)) := BX.cell 1
    have qy1 : wr.cell? ⟨w.heap.size + 1, 1, none⟩ = some (.int .u64 (y1 : Int)) := BY.cell 1
    have qx2 : wr.cell? ⟨w.heap.size, 2, none⟩ = some (.int .u64 (x2 : Int)) := BX.cell 2
    have qy2 : wr.cell? ⟨w.heap.size + 1, 2, none⟩ = some (.int .u64 (y2 : Int)) := BY.cell 2
    have qx3 : wr.cell? ⟨w.heap.size, 3, none⟩ = some (.int .u64 (x3 : Int)) := BX.cell 3
    have qy3 : wr.cell? ⟨w.heap.size + 1, 3, none⟩ = some (.int .u64 (y3 : Int)) := BY.cell 3
    rcases HI.out with rfl | ⟨rfl, E⟩ | ⟨rfl, E⟩ | ⟨rfl, E⟩ | ⟨rfl, E⟩
    · have hk : Hid (True) := Lib.hid trivial
      clear HI
      obtain ⟨b, hbd⟩ : ∃ b, b = decide (x3 ≠ y3) := ⟨_, rfl⟩
      have hbb : (!((x3 : Int) == (y3 : Int))) = b := by
        rw [hbd]
        by_cases h : x3 = y3 <;> simp [h] <;> omega
      have HB := Lib.hid hbd
      clear hbd
      go_wp2
      refine wp_region_G (fun _ => false) (by kernel_rfl) ?_
      try simp only [Act.put]
      refine wpAnyG_take 0 rfl (by kernel_rfl) (fun _ _ _ h => h) (YieldsG.pure (by rfl) (fun w9 _ => by go_simp; try with_reducible rfl)) ?_
      try simp only [Act.put, List.setIfInBounds_toArray, List.set_cons_zero, List.set_cons_succ]
      refine wpAnyG_take 1 rfl (by kernel_rfl) (fun _ _ _ h => h) (YieldsG.pure (by rfl) (fun w9 _ => by go_simp; try with_reducible rfl)) ?_
      try simp only [Act.put, List.setIfInBounds_toArray, List.set_cons_zero, List.set_cons_succ]
      refine wpAnyG_take 2 rfl (by kernel_rfl) (fun _ _ _ h => h) (YieldsG.pure (v := .int .u64 (x3 : Int)) (by rfl) (fun w9 h9 => by have hz := (Below.cell (p := ⟨w.heap.size, 3, none⟩) h9 lX).trans qx3; go_simp; first | done | simp [hz])) ?_
      try simp only [Act.put, List.setIfInBounds_toArray, List.set_cons_zero, List.set_cons_succ]
      refine wpAnyG_take 3 rfl (by kernel_rfl) (fun _ _ _ h => h) (YieldsG.pure (by rfl) (fun w9 _ => by go_simp; try with_reducible rfl)) ?_
      try simp only [Act.put, List.setIfInBounds_toArray, List.set_cons_zero, List.set_cons_succ]
      refine wpAnyG_take 4 rfl (by kernel_rfl) (fun _ _ _ h => h) (YieldsG.pure (by rfl) (fun w9 _ => by go_simp; try with_reducible rfl)) ?_
      try simp only [Act.put, List.setIfInBounds_toArray, List.set_cons_zero, List.set_cons_succ]
      refine wpAnyG_take 5 rfl (by kernel_rfl) (fun _ _ _ h => h) (YieldsG.pure (v := .int .u64 (y3 : Int)) (by rfl) (fun w9 h9 => by have hz := (Below.cell (p := ⟨w.heap.size + 1, 3, none⟩) h9 lY).trans qy3; go_simp; first | done | simp [hz])) ?_
      try simp only [Act.put, List.setIfInBounds_toArray, List.set_cons_zero, List.set_cons_succ]
      refine wpAnyG_take 6 rfl (by kernel_rfl) (fun _ _ _ h => h) (YieldsG.pure (v := .bool b) (by rfl) (fun w9 h9 => by go_simp; congr 3; all_goals (rw [HB.out]; all_goals (by_cases h : x3 = y3 <;> simp [h] <;> omega)))) ?_
      try simp only [Act.put, List.setIfInBounds_toArray, List.set_cons_zero, List.set_cons_succ]
      refine wpAnyG_done (by kernel_rfl) (fun u hu => ?_)
      have hbu := Below.gr hb hu
      have BXu := Gr.blk hu BX
      have BYu := Gr.blk hu BY
      cases b
      · have hxy : x3 = y3 := by
          have := HB.out
          simpa using this
        have HXY := Lib.hid hxy
        clear hxy
        go_wp2
        exact ⟨⟨hbu, BXu, BYu, Lib.hid (.inr (.inl ⟨rfl, HXY.out⟩))⟩, by decide⟩
      · have hxy : x3 ≠ y3 := by
          have := HB.out
          simpa using this
        have hr2 := Lib.hid (HT.out.1 hxy)
        have lXu := BXu.lt
        have lYu := BYu.lt
        have px : u.cell? ⟨w.heap.size, 3, none⟩ = some (.int .u64 (x3 : Int)) := BXu.cell 3
        have py : u.cell? ⟨w.heap.size + 1, 3, none⟩ = some (.int .u64 (y3 : Int)) := BYu.cell 3
        clear hxy hk HT
        go_wp2
        refine wp_region_G (fun _ => false) (by kernel_rfl) ?_
        try simp only [Act.put]
        refine wpAnyG_take 0 rfl (by kernel_rfl) (fun _ _ _ h => h) (YieldsG.pure (by rfl) (fun w9 _ => by go_simp; try with_reducible rfl)) ?_
        try simp only [Act.put, List.setIfInBounds_toArray, List.set_cons_zero, List.set_cons_succ]
        refine wpAnyG_take 1 rfl (by kernel_rfl) (fun _ _ _ h => h) (YieldsG.pure (by rfl) (fun w9 _ => by go_simp; try with_reducible rfl)) ?_
        try simp only [Act.put, List.setIfInBounds_toArray, List.set_cons_zero, List.set_cons_succ]
        refine wpAnyG_take 2 rfl (by kernel_rfl) (fun _ _ _ h => h) (YieldsG.pure (v := .int .u64 (x3 : Int)) (by rfl) (fun w9 h9 => by have hz := (Below.cell (p := ⟨w.heap.size, 3, none⟩) h9 lXu).trans px; go_simp; first | done | simp [hz])) ?_
        try simp only [Act.put, List.setIfInBounds_toArray, List.set_cons_zero, List.set_cons_succ]
        refine wpAnyG_take 3 rfl (by kernel_rfl) (fun _ _ _ h => h) (YieldsG.pure (by rfl) (fun w9 _ => by go_simp; try with_reducible rfl)) ?_
        try simp only [Act.put, List.setIfInBounds_toArray, List.set_cons_zero, List.set_cons_succ]
        refine wpAnyG_take 4 rfl (by kernel_rfl) (fun _ _ _ h => h) (YieldsG.pure (by rfl) (fun w9 _ => by go_simp; try with_reducible rfl)) ?_
        try simp only [Act.put, List.setIfInBounds_toArray, List.set_cons_zero, List.set_cons_succ]
        refine wpAnyG_take 5 rfl (by kernel_rfl) (fun _ _ _ h => h) (YieldsG.pure (v := .int .u64 (y3 : Int)) (by rfl) (fun w9 h9 => by have hz := (Below.cell (p := ⟨w.heap.size + 1, 3, none⟩) h9 lYu).trans py; go_simp; first | done | simp [hz])) ?_
        try simp only [Act.put, List.setIfInBounds_toArray, List.set_cons_zero, List.set_cons_succ]
        refine wpAnyG_take 6 rfl (by kernel_rfl) (fun _ _ _ h => h) (YieldsG.pure (v := .bool r) (by rfl) (fun w9 h9 => by go_simp; congr 3; rw [hr2.out]; all_goals (apply decide_eq_decide.2; omega))) ?_
        try simp only [Act.put, List.setIfInBounds_toArray, List.set_cons_zero, List.set_cons_succ]
        refine wpAnyG_take 7 rfl (by kernel_rfl) (fun _ _ _ h => h) (YieldsG.pure (by rfl) (fun w9 _ => by go_simp; try with_reducible rfl)) ?_
        try simp only [Act.put, List.setIfInBounds_toArray, List.set_cons_zero, List.set_cons_succ]
        refine wpAnyG_done (by kernel_rfl) (fun u2 hu2 => ?_)
        go_wp2
        go_ret
        exact ⟨rfl, Below.gr hbu hu2⟩
    · have hk : Hid (x3 = y3) := Lib.hid E
      clear HI E
      obtain ⟨b, hbd⟩ : ∃ b, b = decide (x2 ≠ y2) := ⟨_, rfl⟩
      have hbb : (!((x2 : Int) == (y2 : Int))) = b := by
        rw [hbd]
        by_cases h : x2 = y2 <;> simp [h] <;> omega
      have HB := Lib.hid hbd
      clear hbd
      go_wp2
      refine wp_region_G (fun _ => false) (by kernel_rfl) ?_
      try simp only [Act.put]
      refine wpAnyG_take 0 rfl (by kernel_rfl) (fun _ _ _ h => h) (YieldsG.pure (by rfl) (fun w9 _ => by go_simp; try with_reducible rfl)) ?_
      try simp only [Act.put, List.setIfInBounds_toArray, List.set_cons_zero, List.set_cons_succ]
      refine wpAnyG_take 1 rfl (by kernel_rfl) (fun _ _ _ h => h) (YieldsG.pure (by rfl) (fun w9 _ => by go_simp; try with_reducible rfl)) ?_
      try simp only [Act.put, List.setIfInBounds_toArray, List.set_cons_zero, List.set_cons_succ]
      refine wpAnyG_take 2 rfl (by kernel_rfl) (fun _ _ _ h => h) (YieldsG.pure (v := .int .u64 (x2 : Int)) (by rfl) (fun w9 h9 => by have hz := (Below.cell (p := ⟨w.heap.size, 2, none⟩) h9 lX).trans qx2; go_simp; first | done | simp [hz])) ?_
      try simp only [Act.put, List.setIfInBounds_toArray, List.set_cons_zero, List.set_cons_succ]
      refine wpAnyG_take 3 rfl (by kernel_rfl) (fun _ _ _ h => h) (YieldsG.pure (by rfl) (fun w9 _ => by go_simp; try with_reducible rfl)) ?_
      try simp only [Act.put, List.setIfInBounds_toArray, List.set_cons_zero, List.set_cons_succ]
      refine wpAnyG_take 4 rfl (by kernel_rfl) (fun _ _ _ h => h) (YieldsG.pure (by rfl) (fun w9 _ => by go_simp; try with_reducible rfl)) ?_
      try simp only [Act.put, List.setIfInBounds_toArray, List.set_cons_zero, List.set_cons_succ]
      refine wpAnyG_take 5 rfl (by kernel_rfl) (fun _ _ _ h => h) (YieldsG.pure (v := .int .u64 (y2 : Int)) (by rfl) (fun w9 h9 => by have hz := (Below.cell (p := ⟨w.heap.size + 1, 2, none⟩) h9 lY).trans qy2; go_simp; first | done | simp [hz])) ?_
      try simp only [Act.put, List.setIfInBounds_toArray, List.set_cons_zero, List.set_cons_succ]
      refine wpAnyG_take 6 rfl (by kernel_rfl) (fun _ _ _ h => h) (YieldsG.pure (v := .bool b) (by rfl) (fun w9 h9 => by go_simp; congr 3; all_goals (rw [HB.out]; all_goals (by_cases h : x2 = y2 <;> simp [h] <;> omega)))) ?_
      try simp only [Act.put, List.setIfInBounds_toArray, List.set_cons_zero, List.set_cons_succ]
      refine wpAnyG_done (by kernel_rfl) (fun u hu => ?_)
      have hbu := Below.gr hb hu
      have BXu := Gr.blk hu BX
      have BYu := Gr.blk hu BY
      cases b
      · have hxy : x2 = y2 := by
          have := HB.out
          simpa using this
        have HXY := Lib.hid hxy
        clear hxy
        go_wp2
        exact ⟨⟨hbu, BXu, BYu, Lib.hid (.inr (.inr (.inl ⟨rfl, hk.out, HXY.out⟩)))⟩, by decide⟩
      · have hxy : x2 ≠ y2 := by
          have := HB.out
          simpa using this
        have hr2 := Lib.hid (HT.out.2.1 hk.out hxy)
        have lXu := BXu.lt
        have lYu := BYu.lt
        have px : u.cell? ⟨w.heap.size, 2, none⟩ = some (.int .u64 (x2 : Int)) := BXu.cell 2
        have py : u.cell? ⟨w.heap.size + 1, 2, none⟩ = some (.int .u64 (y2 : Int)) := BYu.cell 2
        clear hxy hk HT
        go_wp2
        refine wp_region_G (fun _ => false) (by kernel_rfl) ?_
        try simp only [Act.put]
        refine wpAnyG_take 0 rfl (by kernel_rfl) (fun _ _ _ h => h) (YieldsG.pure (by rfl) (fun w9 _ => by go_simp; try with_reducible rfl)) ?_
        try simp only [Act.put, List.setIfInBounds_toArray, List.set_cons_zero, List.set_cons_succ]
        refine wpAnyG_take 1 rfl (by kernel_rfl) (fun _ _ _ h => h) (YieldsG.pure (by rfl) (fun w9 _ => by go_simp; try with_reducible rfl)) ?_
        try simp only [Act.put, List.setIfInBounds_toArray, List.set_cons_zero, List.set_cons_succ]
        refine wpAnyG_take 2 rfl (by kernel_rfl) (fun _ _ _ h => h) (YieldsG.pure (v := .int .u64 (x2 : Int)) (by rfl) (fun w9 h9 => by have hz := (Below.cell (p := ⟨w.heap.size, 2, none⟩) h9 lXu).trans px; go_simp; first | done | simp [hz])) ?_
        try simp only [Act.put, List.setIfInBounds_toArray, List.set_cons_zero, List.set_cons_succ]
        refine wpAnyG_take 3 rfl (by kernel_rfl) (fun _ _ _ h => h) (YieldsG.pure (by rfl) (fun w9 _ => by go_simp; try with_reducible rfl)) ?_
        try simp only [Act.put, List.setIfInBounds_toArray, List.set_cons_zero, List.set_cons_succ]
        refine wpAnyG_take 4 rfl (by kernel_rfl) (fun _ _ _ h => h) (YieldsG.pure (by rfl) (fun w9 _ => by go_simp; try with_reducible rfl)) ?_
        try simp only [Act.put, List.setIfInBounds_toArray, List.set_cons_zero, List.set_cons_succ]
        refine wpAnyG_take 5 rfl (by kernel_rfl) (fun _ _ _ h => h) (YieldsG.pure (v := .int .u64 (y2 : Int)) (by rfl) (fun w9 h9 => by have hz := (Below.cell (p := ⟨w.heap.size + 1, 2, none⟩) h9 lYu).trans py; go_simp; first | done | simp [hz])) ?_
        try simp only [Act.put, List.setIfInBounds_toArray, List.set_cons_zero, List.set_cons_succ]
        refine wpAnyG_take 6 rfl (by kernel_rfl) (fun _ _ _ h => h) (YieldsG.pure (v := .bool r) (by rfl) (fun w9 h9 => by go_simp; congr 3; rw [hr2.out]; all_goals (apply decide_eq_decide.2; omega))) ?_
        try simp only [Act.put, List.setIfInBounds_toArray, List.set_cons_zero, List.set_cons_succ]
        refine wpAnyG_take 7 rfl (by kernel_rfl) (fun _ _ _ h => h) (YieldsG.pure (by rfl) (fun w9 _ => by go_simp; try with_reducible rfl)) ?_
        try simp only [Act.put, List.setIfInBounds_toArray, List.set_cons_zero, List.set_cons_succ]
        refine wpAnyG_done (by kernel_rfl) (fun u2 hu2 => ?_)
        go_wp2
        go_ret
        exact ⟨rfl, Below.gr hbu hu2⟩
    · have hk : Hid (x3 = y3 ∧ x2 = y2) := Lib.hid E
      clear HI E
      obtain ⟨b, hbd⟩ : ∃ b, b = decide (x1 ≠ y1) := ⟨_, rfl⟩
      have hbb : (!((x1 : Int) == (y1 : Int))) = b := by
        rw [hbd]
        by_cases h : x1 = y1 <;> simp [h] <;> omega
      have HB := Lib.hid hbd
      clear hbd
      go_wp2
      refine wp_region_G (fun _ => false) (by kernel_rfl) ?_
      try simp only [Act.put]
      refine wpAnyG_take 0 rfl (by kernel_rfl) (fun _ _ _ h => h) (YieldsG.pure (by rfl) (fun w9 _ => by go_simp; try with_reducible rfl)) ?_
      try simp only [Act.put, List.setIfInBounds_toArray, List.set_cons_zero, List.set_cons_succ]
      refine wpAnyG_take 1 rfl (by kernel_rfl) (fun _ _ _ h => h) (YieldsG.pure (by rfl) (fun w9 _ => by go_simp; try with_reducible rfl)) ?_
      try simp only [Act.put, List.setIfInBounds_toArray, List.set_cons_zero, List.set_cons_succ]
      refine wpAnyG_take 2 rfl (by kernel_rfl) (fun _ _ _ h => h) (YieldsG.pure (v := .int .u64 (x1 : Int)) (by rfl) (fun w9 h9 => by have hz := (Below.cell (p := ⟨w.heap.size, 1, none⟩) h9 lX).trans qx1; go_simp; first | done | simp [hz])) ?_
      try simp only [Act.put, List.setIfInBounds_toArray, List.set_cons_zero, List.set_cons_succ]
      refine wpAnyG_take 3 rfl (by kernel_rfl) (fun _ _ _ h => h) (YieldsG.pure (by rfl) (fun w9 _ => by go_simp; try with_reducible rfl)) ?_
      try simp only [Act.put, List.setIfInBounds_toArray, List.set_cons_zero, List.set_cons_succ]
      refine wpAnyG_take 4 rfl (by kernel_rfl) (fun _ _ _ h => h) (YieldsG.pure (by rfl) (fun w9 _ => by go_simp; try with_reducible rfl)) ?_
      try simp only [Act.put, List.setIfInBounds_toArray, List.set_cons_zero, List.set_cons_succ]
      refine wpAnyG_take 5 rfl (by kernel_rfl) (fun _ _ _ h => h) (YieldsG.pure (v := .int .u64 (y1 : Int)) (by rfl) (fun w9 h9 => by have hz := (Below.cell (p := ⟨w.heap.size + 1, 1, none⟩) h9 lY).trans qy1; go_simp; first | done | simp [hz])) ?_
      try simp only [Act.put, List.setIfInBounds_toArray, List.set_cons_zero, List.set_cons_succ]
      refine wpAnyG_take 6 rfl (by kernel_rfl) (fun _ _ _ h => h) (YieldsG.pure (v := .bool b) (by rfl) (fun w9 h9 => by go_simp; congr 3; all_goals (rw [HB.out]; all_goals (by_cases h : x1 = y1 <;> simp [h] <;> omega)))) ?_
      try simp only [Act.put, List.setIfInBounds_toArray, List.set_cons_zero, List.set_cons_succ]
      refine wpAnyG_done (by kernel_rfl) (fun u hu => ?_)
      have hbu := Below.gr hb hu
      have BXu := Gr.blk hu BX
      have BYu := Gr.blk hu BY
      cases b
      · have hxy : x1 = y1 := by
          have := HB.out
          simpa using this
        have HXY := Lib.hid hxy
        clear hxy
        go_wp2
        exact ⟨⟨hbu, BXu, BYu, Lib.hid (.inr (.inr (.inr (.inl ⟨rfl, hk.out.1, hk.out.2, HXY.out⟩))))⟩, by decide⟩
      · have hxy : x1 ≠ y1 := by
          have := HB.out
          simpa using this
        have hr2 := Lib.hid (HT.out.2.2.1 hk.out.1 hk.out.2 hxy)
        have lXu := BXu.lt
        have lYu := BYu.lt
        have px : u.cell? ⟨w.heap.size, 1, none⟩ = some (.int .u64 (x1 : Int)) := BXu.cell 1
        have py : u.cell? ⟨w.heap.size + 1, 1, none⟩ = some (.int .u64 (y1 : Int)) := BYu.cell 1
        clear hxy hk HT
        go_wp2
        refine wp_region_G (fun _ => false) (by kernel_rfl) ?_
        try simp only [Act.put]
        refine wpAnyG_take 0 rfl (by kernel_rfl) (fun _ _ _ h => h) (YieldsG.pure (by rfl) (fun w9 _ => by go_simp; try with_reducible rfl)) ?_
        try simp only [Act.put, List.setIfInBounds_toArray, List.set_cons_zero, List.set_cons_succ]
        refine wpAnyG_take 1 rfl (by kernel_rfl) (fun _ _ _ h => h) (YieldsG.pure (by rfl) (fun w9 _ => by go_simp; try with_reducible rfl)) ?_
        try simp only [Act.put, List.setIfInBounds_toArray, List.set_cons_zero, List.set_cons_succ]
        refine wpAnyG_take 2 rfl (by kernel_rfl) (fun _ _ _ h => h) (YieldsG.pure (v := .int .u64 (x1 : Int)) (by rfl) (fun w9 h9 => by have hz := (Below.cell (p := ⟨w.heap.size, 1, none⟩) h9 lXu).trans px; go_simp; first | done | simp [hz])) ?_
        try simp only [Act.put, List.setIfInBounds_toArray, List.set_cons_zero, List.set_cons_succ]
        refine wpAnyG_take 3 rfl (by kernel_rfl) (fun _ _ _ h => h) (YieldsG.pure (by rfl) (fun w9 _ => by go_simp; try with_reducible rfl)) ?_
        try simp only [Act.put, List.setIfInBounds_toArray, List.set_cons_zero, List.set_cons_succ]
        refine wpAnyG_take 4 rfl (by kernel_rfl) (fun _ _ _ h => h) (YieldsG.pure (by rfl) (fun w9 _ => by go_simp; try with_reducible rfl)) ?_
        try simp only [Act.put, List.setIfInBounds_toArray, List.set_cons_zero, List.set_cons_succ]
        refine wpAnyG_take 5 rfl (by kernel_rfl) (fun _ _ _ h => h) (YieldsG.pure (v := .int .u64 (y1 : Int)) (by rfl) (fun w9 h9 => by have hz := (Below.cell (p := ⟨w.heap.size + 1, 1, none⟩) h9 lYu).trans py; go_simp; first | done | simp [hz])) ?_
        try simp only [Act.put, List.setIfInBounds_toArray, List.set_cons_zero, List.set_cons_succ]
        refine wpAnyG_take 6 rfl (by kernel_rfl) (fun _ _ _ h => h) (YieldsG.pure (v := .bool r) (by rfl) (fun w9 h9 => by go_simp; congr 3; rw [hr2.out]; all_goals (apply decide_eq_decide.2; omega))) ?_
        try simp only [Act.put, List.setIfInBounds_toArray, List.set_cons_zero, List.set_cons_succ]
        refine wpAnyG_take 7 rfl (by kernel_rfl) (fun _ _ _ h => h) (YieldsG.pure (by rfl) (fun w9 _ => by go_simp; try with_reducible rfl)) ?_
        try simp only [Act.put, List.setIfInBounds_toArray, List.set_cons_zero, List.set_cons_succ]
        refine wpAnyG_done (by kernel_rfl) (fun u2 hu2 => ?_)
        go_wp2
        go_ret
        exact ⟨rfl, Below.gr hbu hu2⟩
    · have hk : Hid (x3 = y3 ∧ x2 = y2 ∧ x1 = y1) := Lib.hid E
      clear HI E
      obtain ⟨b, hbd⟩ : ∃ b, b = decide (x0 ≠ y0) := ⟨_, rfl⟩
      have hbb : (!((x0 : Int) == (y0 : Int))) = b := by
        rw [hbd]
        by_cases h : x0 = y0 <;> simp [h] <;> omega
      have HB := Lib.hid hbd
      clear hbd
      go_wp2
      refine wp_region_G (fun _ => false) (by kernel_rfl) ?_
      try simp only [Act.put]
      refine wpAnyG_take 0 rfl (by kernel_rfl) (fun _ _ _ h => h) (YieldsG.pure (by rfl) (fun w9 _ => by go_simp; try with_reducible rfl)) ?_
      try simp only [Act.put, List.setIfInBounds_toArray, List.set_cons_zero, List.set_cons_succ]
      refine wpAnyG_take 1 rfl (by kernel_rfl) (fun _ _ _ h => h) (YieldsG.pure (by rfl) (fun w9 _ => by go_simp; try with_reducible rfl)) ?_
      try simp only [Act.put, List.setIfInBounds_toArray, List.set_cons_zero, List.set_cons_succ]
      refine wpAnyG_take 2 rfl (by kernel_rfl) (fun _ _ _ h => h) (YieldsG.pure (v := .int .u64 (x0 : Int)) (by rfl) (fun w9 h9 => by have hz := (Below.cell (p := ⟨w.heap.size, 0, none⟩) h9 lX).trans qx0; go_simp; first | done | simp [hz])) ?_
      try simp only [Act.put, List.setIfInBounds_toArray, List.set_cons_zero, List.set_cons_succ]
      refine wpAnyG_take 3 rfl (by kernel_rfl) (fun _ _ _ h => h) (YieldsG.pure (by rfl) (fun w9 _ => by go_simp; try with_reducible rfl)) ?_
      try simp only [Act.put, List.setIfInBounds_toArray, List.set_cons_zero, List.set_cons_succ]
      refine wpAnyG_take 4 rfl (by kernel_rfl) (fun _ _ _ h => h) (YieldsG.pure (by rfl) (fun w9 _ => by go_simp; try with_reducible rfl)) ?_
      try simp only [Act.put, List.setIfInBounds_toArray, List.set_cons_zero, List.set_cons_succ]
      refine wpAnyG_take 5 rfl (by kernel_rfl) (fun _ _ _ h => h) (YieldsG.pure (v := .int .u64 (y0 : Int)) (by rfl) (fun w9 h9 => by have hz := (Below.cell (p := ⟨w.heap.size + 1, 0, none⟩) h9 lY).trans qy0; go_simp; first | done | simp [hz])) ?_
      try simp only [Act.put, List.setIfInBounds_toArray, List.set_cons_zero, List.set_cons_succ]
      refine wpAnyG_take 6 rfl (by kernel_rfl) (fun _ _ _ h => h) (YieldsG.pure (v := .bool b) (by rfl) (fun w9 h9 => by go_simp; congr 3; all_goals (rw [HB.out]; all_goals (by_cases h : x0 = y0 <;> simp [h] <;> omega)))) ?_
      try simp only [Act.put, List.setIfInBounds_toArray, List.set_cons_zero, List.set_cons_succ]
      refine wpAnyG_done (by kernel_rfl) (fun u hu => ?_)
      have hbu := Below.gr hb hu
      have BXu := Gr.blk hu BX
      have BYu := Gr.blk hu BY
      cases b
      · have hxy : x0 = y0 := by
          have := HB.out
          simpa using this
        have HXY := Lib.hid hxy
        clear hxy
        go_wp2
        exact ⟨⟨hbu, BXu, BYu, Lib.hid (.inr (.inr (.inr (.inr ⟨rfl, hk.out.1, hk.out.2.1, hk.out.2.2, HXY.out⟩))))⟩, by decide⟩
      · have hxy : x0 ≠ y0 := by
          have := HB.out
          simpa using this
        have hr2 := Lib.hid (HT.out.2.2.2.1 hk.out.1 hk.out.2.1 hk.out.2.2 hxy)
        have lXu := BXu.lt
        have lYu := BYu.lt
        have px : u.cell? ⟨w.heap.size, 0, none⟩ = some (.int .u64 (x0 : Int)) := BXu.cell 0
        have py : u.cell? ⟨w.heap.size + 1, 0, none⟩ = some (.int .u64 (y0 : Int)) := BYu.cell 0
        clear hxy hk HT
        go_wp2
        refine wp_region_G (fun _ => false) (by kernel_rfl) ?_
        try simp only [Act.put]
        refine wpAnyG_take 0 rfl (by kernel_rfl) (fun _ _ _ h => h) (YieldsG.pure (by rfl) (fun w9 _ => by go_simp; try with_reducible rfl)) ?_
        try simp only [Act.put, List.setIfInBounds_toArray, List.set_cons_zero, List.set_cons_succ]
        refine wpAnyG_take 1 rfl (by kernel_rfl) (fun _ _ _ h => h) (YieldsG.pure (by rfl) (fun w9 _ => by go_simp; try with_reducible rfl)) ?_
        try simp only [Act.put, List.setIfInBounds_toArray, List.set_cons_zero, List.set_cons_succ]
        refine wpAnyG_take 2 rfl (by kernel_rfl) (fun _ _ _ h => h) (YieldsG.pure (v := .int .u64 (x0 : Int)) (by rfl) (fun w9 h9 => by have hz := (Below.cell (p := ⟨w.heap.size, 0, none⟩) h9 lXu).trans px; go_simp; first | done | simp [hz])) ?_
        try simp only [Act.put, List.setIfInBounds_toArray, List.set_cons_zero, List.set_cons_succ]
        refine wpAnyG_take 3 rfl (by kernel_rfl) (fun _ _ _ h => h) (YieldsG.pure (by rfl) (fun w9 _ => by go_simp; try with_reducible rfl)) ?_
        try simp only [Act.put, List.setIfInBounds_toArray, List.set_cons_zero, List.set_cons_succ]
        refine wpAnyG_take 4 rfl (by kernel_rfl) (fun _ _ _ h => h) (YieldsG.pure (by rfl) (fun w9 _ => by go_simp; try with_reducible rfl)) ?_
        try simp only [Act.put, List.setIfInBounds_toArray, List.set_cons_zero, List.set_cons_succ]
        refine wpAnyG_take 5 rfl (by kernel_rfl) (fun _ _ _ h => h) (YieldsG.pure (v := .int .u64 (y0 : Int)) (by rfl) (fun w9 h9 => by have hz := (Below.cell (p := ⟨w.heap.size + 1, 0, none⟩) h9 lYu).trans py; go_simp; first | done | simp [hz])) ?_
        try simp only [Act.put, List.setIfInBounds_toArray, List.set_cons_zero, List.set_cons_succ]
        refine wpAnyG_take 6 rfl (by kernel_rfl) (fun _ _ _ h => h) (YieldsG.pure (v := .bool r) (by rfl) (fun w9 h9 => by go_simp; congr 3; rw [hr2.out]; all_goals (apply decide_eq_decide.2; omega))) ?_
        try simp only [Act.put, List.setIfInBounds_toArray, List.set_cons_zero, List.set_cons_succ]
        refine wpAnyG_take 7 rfl (by kernel_rfl) (fun _ _ _ h => h) (YieldsG.pure (by rfl) (fun w9 _ => by go_simp; try with_reducible rfl)) ?_
        try simp only [Act.put, List.setIfInBounds_toArray, List.set_cons_zero, List.set_cons_succ]
        refine wpAnyG_done (by kernel_rfl) (fun u2 hu2 => ?_)
        go_wp2
        go_ret
        exact ⟨rfl, Below.gr hbu hu2⟩
    · have HR : Hid (r = false) := Lib.hid (HT.out.2.2.2.2 E.1 E.2.1 E.2.2.1 E.2.2.2)
      clear HI E
      go_wp2
      go_ret
      exact ⟨by rw [HR.out]; rfl, hb⟩

end Go.Proofs.YtneeefinaejgcaaDoor

end
