/-
  fe.join, fe.runs.
-/
import Derived.Test.YtlojidnlkflpnaaFePow
namespace Go.Proofs.Ytlojidnlkflpnaa
open Go.RowKit Go.Lib

theorem res_three_cells {P : Program} {fn : Func} {p q r : Tmp} {ty : TypeId} (h : fn.results = #[.cell p ty, .cell q ty, .cell r ty]) (tmps : Array Value) (w : World) (g g2 g3 : Nat) (t t2 t3 : TypeId) (cs cs2 cs3 : Array Value) (d : TypeDesc)
    (hp : tmps.getD p undef = .pointer (some ⟨g, 0, none⟩)) (hg : Blk w g t cs) (hq : tmps.getD q undef = .pointer (some ⟨g2, 0, none⟩)) (hg2 : Blk w g2 t2 cs2) (hr : tmps.getD r undef = .pointer (some ⟨g3, 0, none⟩)) (hg3 : Blk w g3 t3 cs3)
    (hu : P.underlying ty = some d) (hd : (match d with | .struct _ | .array _ _ => true | _ => false) = true) (hi : (P.info? ty).map (·.size) = some cs.size) (hi2 : (P.info? ty).map (·.size) = some cs2.size) (hi3 : (P.info? ty).map (·.size) = some cs3.size) :
    (results fn tmps).run P w = .ok (.tuple #[.agg cs, .agg cs2, .agg cs3]) w := by
  have hp' : tmps[p]?.getD undef = .pointer (some ⟨g, 0, none⟩) := by simpa using hp
  have hq' : tmps[q]?.getD undef = .pointer (some ⟨g2, 0, none⟩) := by simpa using hq
  have hr' : tmps[r]?.getD undef = .pointer (some ⟨g3, 0, none⟩) := by simpa using hr
  simp [results, h, hp', hq', hr', asAddr, run_loadVar_row w g t ty cs (0, 0) d hg hu hd hi, run_loadVar_row w g2 t2 ty cs2 (0, 0) d hg2 hu hd hi2, run_loadVar_row w g3 t3 ty cs3 (0, 0) d hg3 hu hd hi3, Result.andThen]

set_option maxHeartbeats 1000000 in
set_option maxRecDepth 100000 in
theorem join_any (w : World) (x d y : Nat) (hx : x < 115792089237316195423570985008687907853269984665640564039457584007913129639936) (hy : y < 115792089237316195423570985008687907853269984665640564039457584007913129639936) (hd : d ≤ 1000) : Calls Try.prog 100 #[fv x, .int .i64 (d : Int), fv y] w fun e w' => e = .returned (fv (jn x d y)) ∧ Below w.heap.size w w' := by
  obtain ⟨s, hs⟩ : ∃ s, s = sqI x d := ⟨_, rfl⟩
  obtain ⟨z, hz⟩ : ∃ z, z = mulP s y := ⟨_, rfl⟩
  have hsl : s < 115792089237316195423570985008687907853269984665640564039457584007913129639936 := by rw [hs]; exact sqI_lt x d hx
  have HZ := Lib.hid (And.intro hs (And.intro hz (And.intro hsl (And.intro hx (And.intro hy hd)))))
  rw [show jn x d y = z by rw [hz, hs]; rfl]
  obtain ⟨x0, x1, x2, x3, fx⟩ := words_fv x hx
  obtain ⟨y0, y1, y2, y3, fy⟩ := words_fv y hy
  have FX := Lib.hid fx
  have FY := Lib.hid fy
  rw [fx, fy]
  clear fx fy hx hy hs hz hsl hd
  go_enter Try.func100, Try.ntmps100
  go_wp2
  refine wp_region_G (fun j => j == 5) (by kernel_rfl) ?_
  try simp only [Act.put]
  refine wpAnyG_take 0 rfl (by kernel_rfl) (fun _ _ _ h => h) (YieldsG.loadF (by rfl) _ _ rfl (w.heap.size) rfl (x) _ _ (((Blk.new w _ _).alloc _).alloc _) (FX.out) Try.underlying24 rfl (by kernel_rfl)) ?_
  try simp only [Act.put, List.setIfInBounds_toArray, List.set_cons_zero, List.set_cons_succ]
  refine wpAnyG_take 1 rfl (by kernel_rfl) (fun _ _ _ h => h) (YieldsG.pure (by rfl) (fun w9 _ => by go_simp; try with_reducible rfl)) ?_
  try simp only [Act.put, List.setIfInBounds_toArray, List.set_cons_zero, List.set_cons_succ]
  refine wpAnyG_take 2 rfl (by kernel_rfl) (fun _ _ _ h => h) (YieldsG.call (v := fv s) (by rfl) 101 _ (fun w9 => by go_simp; try (first | with_reducible rfl | rfl)) (fun w9 h9 => HZ.out.1 ▸ square_any w9 x d HZ.out.2.2.2.1 HZ.out.2.2.2.2.2)) ?_
  try simp only [Act.put, List.setIfInBounds_toArray, List.set_cons_zero, List.set_cons_succ]
  refine wpAnyG_take 3 rfl (by kernel_rfl) (fun _ _ _ h => h) (YieldsG.loadF (by rfl) _ _ rfl (w.heap.size + 1) rfl (y) _ _ ((blk_new2 w _ _ _).alloc _) (FY.out) Try.underlying24 rfl (by kernel_rfl)) ?_
  try simp only [Act.put, List.setIfInBounds_toArray, List.set_cons_zero, List.set_cons_succ]
  refine wpAnyG_take 4 rfl (by kernel_rfl) (fun _ _ _ h => h) (YieldsG.call (v := fv z) (by rfl) 39 _ (fun w9 => by go_simp; try (first | with_reducible rfl | rfl)) (fun w9 h9 => HZ.out.2.1 ▸ mulF_any w9 s y HZ.out.2.2.1 HZ.out.2.2.2.2.1)) ?_
  try simp only [Act.put, List.setIfInBounds_toArray, List.set_cons_zero, List.set_cons_succ]
  refine wpAnyG_store 5 rfl (by kernel_rfl) (by rfl) _ _ _ rfl (w.heap.size + 2) (fcs (z)) rfl rfl _ _ (blk_new3 w _ _ _ _) (by kernel_rfl) (by rfl) (fcs_one _) rfl (fun w6 h6 w7 hB7 hL7 => ?_)
  try simp only [Act.put]
  refine wpAnyG_done (by kernel_rfl) (fun w8 h8 => ?_)
  have hfin := Gr.blk h8 hL7
  have hb9 := (Below.gr (below_alloc3 w _ _ _) h6).trans ((hB7 _ (by omega)).trans (Below.mono h8 (by have := hL7.lt; omega)))
  go_wp2
  exact bodyPost_ret (results_cell_row rfl _ _ (w.heap.size + 2) _ _ (0, 0) _ rfl hfin Try.underlying24 rfl (by kernel_rfl)) rfl ⟨rfl, hb9⟩
theorem join_at (w : World) (x d y z : Nat) (di : Int) (hdi : di = (d : Int)) (hz : z = jn x d y) (hx : x < 115792089237316195423570985008687907853269984665640564039457584007913129639936) (hy : y < 115792089237316195423570985008687907853269984665640564039457584007913129639936) (hd : d ≤ 1000) : Calls Try.prog 100 #[fv x, .int .i64 di, fv y] w fun e w' => e = .returned (fv z) ∧ Below w.heap.size w w' := by
  subst hdi hz
  exact join_any w x d y hx hy hd

theorem pow_self (x : Nat) : x % pM = x ^ 1 % pM := by rw [Nat.pow_one]
def rTwo (x : Nat) : Nat := jn x 1 x
theorem rTwo_lt (x : Nat) : rTwo x < 115792089237316195423570985008687907853269984665640564039457584007913129639936 := jn_lt _ _ _
def eTwo : Nat := 1 * 2 ^ 1 + 1
theorem rTwo_pow (x : Nat) : rTwo x % pM = x ^ eTwo % pM := by
  unfold rTwo eTwo
  exact jn_pow (pow_self x) (pow_self x)
def rThree (x : Nat) : Nat := jn (rTwo x) 1 x
theorem rThree_lt (x : Nat) : rThree x < 115792089237316195423570985008687907853269984665640564039457584007913129639936 := jn_lt _ _ _
def eThree : Nat := eTwo * 2 ^ 1 + 1
theorem rThree_pow (x : Nat) : rThree x % pM = x ^ eThree % pM := by
  unfold rThree eThree
  exact jn_pow (rTwo_pow x) (pow_self x)
def rSix (x : Nat) : Nat := jn (rThree x) 3 (rThree x)
theorem rSix_lt (x : Nat) : rSix x < 115792089237316195423570985008687907853269984665640564039457584007913129639936 := jn_lt _ _ _
def eSix : Nat := eThree * 2 ^ 3 + eThree
theorem rSix_pow (x : Nat) : rSix x % pM = x ^ eSix % pM := by
  unfold rSix eSix
  exact jn_pow (rThree_pow x) (rThree_pow x)
def rNine (x : Nat) : Nat := jn (rSix x) 3 (rThree x)
theorem rNine_lt (x : Nat) : rNine x < 115792089237316195423570985008687907853269984665640564039457584007913129639936 := jn_lt _ _ _
def eNine : Nat := eSix * 2 ^ 3 + eThree
theorem rNine_pow (x : Nat) : rNine x % pM = x ^ eNine % pM := by
  unfold rNine eNine
  exact jn_pow (rSix_pow x) (rThree_pow x)
def rEleven (x : Nat) : Nat := jn (rNine x) 2 (rTwo x)
theorem rEleven_lt (x : Nat) : rEleven x < 115792089237316195423570985008687907853269984665640564039457584007913129639936 := jn_lt _ _ _
def eEleven : Nat := eNine * 2 ^ 2 + eTwo
theorem rEleven_pow (x : Nat) : rEleven x % pM = x ^ eEleven % pM := by
  unfold rEleven eEleven
  exact jn_pow (rNine_pow x) (rTwo_pow x)
def rSome (x : Nat) : Nat := jn (rEleven x) 11 (rEleven x)
theorem rSome_lt (x : Nat) : rSome x < 115792089237316195423570985008687907853269984665640564039457584007913129639936 := jn_lt _ _ _
def eSome : Nat := eEleven * 2 ^ 11 + eEleven
theorem rSome_pow (x : Nat) : rSome x % pM = x ^ eSome % pM := by
  unfold rSome eSome
  exact jn_pow (rEleven_pow x) (rEleven_pow x)
def rDbl (x : Nat) : Nat := jn (rSome x) 22 (rSome x)
theorem rDbl_lt (x : Nat) : rDbl x < 115792089237316195423570985008687907853269984665640564039457584007913129639936 := jn_lt _ _ _
def eDbl : Nat := eSome * 2 ^ 22 + eSome
theorem rDbl_pow (x : Nat) : rDbl x % pM = x ^ eDbl % pM := by
  unfold rDbl eDbl
  exact jn_pow (rSome_pow x) (rSome_pow x)
def rM1 (x : Nat) : Nat := jn (rDbl x) 44 (rDbl x)
theorem rM1_lt (x : Nat) : rM1 x < 115792089237316195423570985008687907853269984665640564039457584007913129639936 := jn_lt _ _ _
def eM1 : Nat := eDbl * 2 ^ 44 + eDbl
theorem rM1_pow (x : Nat) : rM1 x % pM = x ^ eM1 % pM := by
  unfold rM1 eM1
  exact jn_pow (rDbl_pow x) (rDbl_pow x)
def rM2 (x : Nat) : Nat := jn (rM1 x) 88 (rM1 x)
theorem rM2_lt (x : Nat) : rM2 x < 115792089237316195423570985008687907853269984665640564039457584007913129639936 := jn_lt _ _ _
def eM2 : Nat := eM1 * 2 ^ 88 + eM1
theorem rM2_pow (x : Nat) : rM2 x % pM = x ^ eM2 % pM := by
  unfold rM2 eM2
  exact jn_pow (rM1_pow x) (rM1_pow x)
def rM3 (x : Nat) : Nat := jn (rM2 x) 44 (rDbl x)
theorem rM3_lt (x : Nat) : rM3 x < 115792089237316195423570985008687907853269984665640564039457584007913129639936 := jn_lt _ _ _
def eM3 : Nat := eM2 * 2 ^ 44 + eDbl
theorem rM3_pow (x : Nat) : rM3 x % pM = x ^ eM3 % pM := by
  unfold rM3 eM3
  exact jn_pow (rM2_pow x) (rDbl_pow x)
def rMost (x : Nat) : Nat := jn (rM3 x) 3 (rThree x)
theorem rMost_lt (x : Nat) : rMost x < 115792089237316195423570985008687907853269984665640564039457584007913129639936 := jn_lt _ _ _
def eMost : Nat := eM3 * 2 ^ 3 + eThree
theorem rMost_pow (x : Nat) : rMost x % pM = x ^ eMost % pM := by
  unfold rMost eMost
  exact jn_pow (rM3_pow x) (rThree_pow x)

set_option maxHeartbeats 4000000 in
set_option maxRecDepth 100000 in
theorem runs_any (w : World) (x : Nat) (hx : x < 115792089237316195423570985008687907853269984665640564039457584007913129639936) : Calls Try.prog 99 #[fv x] w fun e w' => e = .returned (.tuple #[fv (rTwo x), fv (rSome x), fv (rMost x)]) ∧ Below w.heap.size w w' := by
  obtain ⟨ztwo, hztwo⟩ : ∃ z, z = rTwo x := ⟨_, rfl⟩
  obtain ⟨zthree, hzthree⟩ : ∃ z, z = rThree x := ⟨_, rfl⟩
  obtain ⟨zsix, hzsix⟩ : ∃ z, z = rSix x := ⟨_, rfl⟩
  obtain ⟨znine, hznine⟩ : ∃ z, z = rNine x := ⟨_, rfl⟩
  obtain ⟨zeleven, hzeleven⟩ : ∃ z, z = rEleven x := ⟨_, rfl⟩
  obtain ⟨zsome, hzsome⟩ : ∃ z, z = rSome x := ⟨_, rfl⟩
  obtain ⟨zdbl, hzdbl⟩ : ∃ z, z = rDbl x := ⟨_, rfl⟩
  obtain ⟨zm1, hzm1⟩ : ∃ z, z = rM1 x := ⟨_, rfl⟩
  obtain ⟨zm2, hzm2⟩ : ∃ z, z = rM2 x := ⟨_, rfl⟩
  obtain ⟨zm3, hzm3⟩ : ∃ z, z = rM3 x := ⟨_, rfl⟩
  obtain ⟨zmost, hzmost⟩ : ∃ z, z = rMost x := ⟨_, rfl⟩
  rw [← hztwo, ← hzsome, ← hzmost]
  have HX := Lib.hid hx
  have HZtwo : Hid (ztwo = jn x 1 x ∧ ztwo < 115792089237316195423570985008687907853269984665640564039457584007913129639936) := Lib.hid ⟨by rw [hztwo]; rfl, by rw [hztwo]; exact rTwo_lt x⟩
  have HZthree : Hid (zthree = jn ztwo 1 x ∧ zthree < 115792089237316195423570985008687907853269984665640564039457584007913129639936) := Lib.hid ⟨by rw [hzthree, hztwo]; rfl, by rw [hzthree]; exact rThree_lt x⟩
  have HZsix : Hid (zsix = jn zthree 3 zthree ∧ zsix < 115792089237316195423570985008687907853269984665640564039457584007913129639936) := Lib.hid ⟨by rw [hzsix, hzthree]; rfl, by rw [hzsix]; exact rSix_lt x⟩
  have HZnine : Hid (znine = jn zsix 3 zthree ∧ znine < 115792089237316195423570985008687907853269984665640564039457584007913129639936) := Lib.hid ⟨by rw [hznine, hzsix, hzthree]; rfl, by rw [hznine]; exact rNine_lt x⟩
  have HZeleven : Hid (zeleven = jn znine 2 ztwo ∧ zeleven < 115792089237316195423570985008687907853269984665640564039457584007913129639936) := Lib.hid ⟨by rw [hzeleven, hznine, hztwo]; rfl, by rw [hzeleven]; exact rEleven_lt x⟩
  have HZsome : Hid (zsome = jn zeleven 11 zeleven ∧ zsome < 115792089237316195423570985008687907853269984665640564039457584007913129639936) := Lib.hid ⟨by rw [hzsome, hzeleven]; rfl, by rw [hzsome]; exact rSome_lt x⟩
  have HZdbl : Hid (zdbl = jn zsome 22 zsome ∧ zdbl < 115792089237316195423570985008687907853269984665640564039457584007913129639936) := Lib.hid ⟨by rw [hzdbl, hzsome]; rfl, by rw [hzdbl]; exact rDbl_lt x⟩
  have HZm1 : Hid (zm1 = jn zdbl 44 zdbl ∧ zm1 < 115792089237316195423570985008687907853269984665640564039457584007913129639936) := Lib.hid ⟨by rw [hzm1, hzdbl]; rfl, by rw [hzm1]; exact rM1_lt x⟩
  have HZm2 : Hid (zm2 = jn zm1 88 zm1 ∧ zm2 < 115792089237316195423570985008687907853269984665640564039457584007913129639936) := Lib.hid ⟨by rw [hzm2, hzm1]; rfl, by rw [hzm2]; exact rM2_lt x⟩
  have HZm3 : Hid (zm3 = jn zm2 44 zdbl ∧ zm3 < 115792089237316195423570985008687907853269984665640564039457584007913129639936) := Lib.hid ⟨by rw [hzm3, hzm2, hzdbl]; rfl, by rw [hzm3]; exact rM3_lt x⟩
  have HZmost : Hid (zmost = jn zm3 3 zthree ∧ zmost < 115792089237316195423570985008687907853269984665640564039457584007913129639936) := Lib.hid ⟨by rw [hzmost, hzm3, hzthree]; rfl, by rw [hzmost]; exact rMost_lt x⟩
  clear hztwo hzthree hzsix hznine hzeleven hzsome hzdbl hzm1 hzm2 hzm3 hzmost
  obtain ⟨x0, x1, x2, x3, fx⟩ := words_fv x hx
  have FX := Lib.hid fx
  rw [fx]
  clear fx hx
  go_enter Try.func99, Try.ntmps99
  go_wp2_with (first | ((with_reducible refine here_load (d := some 10) ?_); refine wpList_load_fv rfl _ _ rfl (w.heap.size) rfl (x) _ _ _ (Blk.eq_ ((((Blk.new w _ _).alloc _).alloc _).alloc _) (fcs_words FX.out).symm) (fv_fcs (x)) Try.underlying24 rfl (by kernel_rfl) ?_) | ((with_reducible refine here_load (d := some 11) ?_); refine wpList_load_fv rfl _ _ rfl (w.heap.size) rfl (x) _ _ _ (Blk.eq_ ((((Blk.new w _ _).alloc _).alloc _).alloc _) (fcs_words FX.out).symm) (fv_fcs (x)) Try.underlying24 rfl (by kernel_rfl) ?_))
  refine (join_at _ x 1 x ztwo 1 rfl HZtwo.out.1 HX.out HX.out (by omega)).mono ?_
  rintro e w10 ⟨rfl, hb⟩
  have B0_a : Blk w10 (w.heap.size) 24 _ := Gr.blk hb (Blk.eq_ ((((Blk.new w _ _).alloc _).alloc _).alloc _) (fcs_words FX.out).symm)
  have l0_a := B0_a.lt
  have B0_t2 : Blk w10 (w.heap.size + 1) 24 _ := Gr.blk hb (((blk_new2 w _ _ _).alloc _).alloc _)
  have l0_t2 := B0_t2.lt
  have B0_t3 : Blk w10 (w.heap.size + 2) 24 _ := Gr.blk hb ((blk_new3 w _ _ _ _).alloc _)
  have l0_t3 := B0_t3.lt
  have B0_t4 : Blk w10 (w.heap.size + 3) 24 _ := Gr.blk hb (blk_new4 w _ _ _ _ _)
  have l0_t4 := B0_t4.lt
  have hB0 := Below.gr ((below_alloc3 w _ _ _).alloc (by simp <;> omega) _) hb
  have sz0 := hB0.size
  clear hb
  go_wp2_with (first | ((with_reducible refine here_store ?_); refine wpList_store_blk rfl _ _ _ rfl (w.heap.size + 1) (fcs (ztwo)) rfl rfl _ _ (B0_t2) (by kernel_rfl) (by rfl) (fcs_one _) ?_; intro v11 hL1 hq1 hK1; have C1_a := hK1 _ (by omega) _ _ (B0_a); have C1_t3 := hK1 _ (by omega) _ _ (B0_t3); have C1_t4 := hK1 _ (by omega) _ _ (B0_t4); have hC1 := (hB0).trans (hq1 _ (by omega))) | ((with_reducible refine here_load (d := some 13) ?_); refine wpList_load_fv rfl _ _ rfl (w.heap.size + 1) rfl (ztwo) _ _ _ (hL1) (fv_fcs (ztwo)) Try.underlying24 rfl (by kernel_rfl) ?_) | ((with_reducible refine here_load (d := some 14) ?_); refine wpList_load_fv rfl _ _ rfl (w.heap.size) rfl (x) _ _ _ (C1_a) (fv_fcs (x)) Try.underlying24 rfl (by kernel_rfl) ?_))
  refine (join_at _ ztwo 1 x zthree 1 rfl HZthree.out.1 HZtwo.out.2 HX.out (by omega)).mono ?_
  rintro e w11 ⟨rfl, hb⟩
  have B1_a : Blk w11 (w.heap.size) 24 _ := Gr.blk hb (C1_a)
  have l1_a := B1_a.lt
  have B1_t3 : Blk w11 (w.heap.size + 2) 24 _ := Gr.blk hb (C1_t3)
  have l1_t3 := B1_t3.lt
  have B1_t4 : Blk w11 (w.heap.size + 3) 24 _ := Gr.blk hb (C1_t4)
  have l1_t4 := B1_t4.lt
  have B1_t2 : Blk w11 (w.heap.size + 1) 24 _ := Gr.blk hb (hL1)
  have l1_t2 := B1_t2.lt
  have hB1 := Below.gr (hC1) hb
  have sz1 := hB1.size
  clear hb
  go_wp2_with (first | ((with_reducible refine here_store ?_); refine wpList_store_blk rfl _ _ _ rfl (w11.heap.size) (fcs (zthree)) rfl rfl _ _ (Blk.new w11 _ _) (by kernel_rfl) (by rfl) (fcs_one _) ?_; intro v12 hL2 hq2 hK2; have C2_a := hK2 _ (by omega) _ _ ((B1_a).alloc _); have C2_t3 := hK2 _ (by omega) _ _ ((B1_t3).alloc _); have C2_t4 := hK2 _ (by omega) _ _ ((B1_t4).alloc _); have C2_t2 := hK2 _ (by omega) _ _ ((B1_t2).alloc _); have hC2 := (((hB1).alloc (by omega) _)).trans (hq2 _ (by omega))) | ((with_reducible refine here_load (d := some 16) ?_); refine wpList_load_fv rfl _ _ rfl (w11.heap.size) rfl (zthree) _ _ _ (hL2) (fv_fcs (zthree)) Try.underlying24 rfl (by kernel_rfl) ?_) | ((with_reducible refine here_load (d := some 17) ?_); refine wpList_load_fv rfl _ _ rfl (w11.heap.size) rfl (zthree) _ _ _ (hL2) (fv_fcs (zthree)) Try.underlying24 rfl (by kernel_rfl) ?_))
  refine (join_at _ zthree 3 zthree zsix 3 rfl HZsix.out.1 HZthree.out.2 HZthree.out.2 (by omega)).mono ?_
  rintro e w12 ⟨rfl, hb⟩
  have B2_a : Blk w12 (w.heap.size) 24 _ := Gr.blk hb (C2_a)
  have l2_a := B2_a.lt
  have B2_t3 : Blk w12 (w.heap.size + 2) 24 _ := Gr.blk hb (C2_t3)
  have l2_t3 := B2_t3.lt
  have B2_t4 : Blk w12 (w.heap.size + 3) 24 _ := Gr.blk hb (C2_t4)
  have l2_t4 := B2_t4.lt
  have B2_t2 : Blk w12 (w.heap.size + 1) 24 _ := Gr.blk hb (C2_t2)
  have l2_t2 := B2_t2.lt
  have B2_three : Blk w12 (w11.heap.size) 24 _ := Gr.blk hb (hL2)
  have l2_three := B2_three.lt
  have hB2 := Below.gr (hC2) hb
  have sz2 := hB2.size
  clear hb
  go_wp2_with (first | ((with_reducible refine here_store ?_); refine wpList_store_blk rfl _ _ _ rfl (w12.heap.size) (fcs (zsix)) rfl rfl _ _ (Blk.new w12 _ _) (by kernel_rfl) (by rfl) (fcs_one _) ?_; intro v13 hL3 hq3 hK3; have C3_a := hK3 _ (by omega) _ _ ((B2_a).alloc _); have C3_t3 := hK3 _ (by omega) _ _ ((B2_t3).alloc _); have C3_t4 := hK3 _ (by omega) _ _ ((B2_t4).alloc _); have C3_t2 := hK3 _ (by omega) _ _ ((B2_t2).alloc _); have C3_three := hK3 _ (by omega) _ _ ((B2_three).alloc _); have hC3 := (((hB2).alloc (by omega) _)).trans (hq3 _ (by omega))) | ((with_reducible refine here_load (d := some 19) ?_); refine wpList_load_fv rfl _ _ rfl (w12.heap.size) rfl (zsix) _ _ _ (hL3) (fv_fcs (zsix)) Try.underlying24 rfl (by kernel_rfl) ?_) | ((with_reducible refine here_load (d := some 20) ?_); refine wpList_load_fv rfl _ _ rfl (w11.heap.size) rfl (zthree) _ _ _ (C3_three) (fv_fcs (zthree)) Try.underlying24 rfl (by kernel_rfl) ?_))
  refine (join_at _ zsix 3 zthree znine 3 rfl HZnine.out.1 HZsix.out.2 HZthree.out.2 (by omega)).mono ?_
  rintro e w13 ⟨rfl, hb⟩
  have B3_a : Blk w13 (w.heap.size) 24 _ := Gr.blk hb (C3_a)
  have l3_a := B3_a.lt
  have B3_t3 : Blk w13 (w.heap.size + 2) 24 _ := Gr.blk hb (C3_t3)
  have l3_t3 := B3_t3.lt
  have B3_t4 : Blk w13 (w.heap.size + 3) 24 _ := Gr.blk hb (C3_t4)
  have l3_t4 := B3_t4.lt
  have B3_t2 : Blk w13 (w.heap.size + 1) 24 _ := Gr.blk hb (C3_t2)
  have l3_t2 := B3_t2.lt
  have B3_three : Blk w13 (w11.heap.size) 24 _ := Gr.blk hb (C3_three)
  have l3_three := B3_three.lt
  have B3_six : Blk w13 (w12.heap.size) 24 _ := Gr.blk hb (hL3)
  have l3_six := B3_six.lt
  have hB3 := Below.gr (hC3) hb
  have sz3 := hB3.size
  clear hb
  go_wp2_with (first | ((with_reducible refine here_store ?_); refine wpList_store_blk rfl _ _ _ rfl (w13.heap.size) (fcs (znine)) rfl rfl _ _ (Blk.new w13 _ _) (by kernel_rfl) (by rfl) (fcs_one _) ?_; intro v14 hL4 hq4 hK4; have C4_a := hK4 _ (by omega) _ _ ((B3_a).alloc _); have C4_t3 := hK4 _ (by omega) _ _ ((B3_t3).alloc _); have C4_t4 := hK4 _ (by omega) _ _ ((B3_t4).alloc _); have C4_t2 := hK4 _ (by omega) _ _ ((B3_t2).alloc _); have C4_three := hK4 _ (by omega) _ _ ((B3_three).alloc _); have C4_six := hK4 _ (by omega) _ _ ((B3_six).alloc _); have hC4 := (((hB3).alloc (by omega) _)).trans (hq4 _ (by omega))) | ((with_reducible refine here_load (d := some 22) ?_); refine wpList_load_fv rfl _ _ rfl (w13.heap.size) rfl (znine) _ _ _ (hL4) (fv_fcs (znine)) Try.underlying24 rfl (by kernel_rfl) ?_) | ((with_reducible refine here_load (d := some 23) ?_); refine wpList_load_fv rfl _ _ rfl (w.heap.size + 1) rfl (ztwo) _ _ _ (C4_t2) (fv_fcs (ztwo)) Try.underlying24 rfl (by kernel_rfl) ?_))
  refine (join_at _ znine 2 ztwo zeleven 2 rfl HZeleven.out.1 HZnine.out.2 HZtwo.out.2 (by omega)).mono ?_
  rintro e w14 ⟨rfl, hb⟩
  have B4_a : Blk w14 (w.heap.size) 24 _ := Gr.blk hb (C4_a)
  have l4_a := B4_a.lt
  have B4_t3 : Blk w14 (w.heap.size + 2) 24 _ := Gr.blk hb (C4_t3)
  have l4_t3 := B4_t3.lt
  have B4_t4 : Blk w14 (w.heap.size + 3) 24 _ := Gr.blk hb (C4_t4)
  have l4_t4 := B4_t4.lt
  have B4_t2 : Blk w14 (w.heap.size + 1) 24 _ := Gr.blk hb (C4_t2)
  have l4_t2 := B4_t2.lt
  have B4_three : Blk w14 (w11.heap.size) 24 _ := Gr.blk hb (C4_three)
  have l4_three := B4_three.lt
  have B4_six : Blk w14 (w12.heap.size) 24 _ := Gr.blk hb (C4_six)
  have l4_six := B4_six.lt
  have B4_nine : Blk w14 (w13.heap.size) 24 _ := Gr.blk hb (hL4)
  have l4_nine := B4_nine.lt
  have hB4 := Below.gr (hC4) hb
  have sz4 := hB4.size
  clear hb
  go_wp2_with (first | ((with_reducible refine here_store ?_); refine wpList_store_blk rfl _ _ _ rfl (w14.heap.size) (fcs (zeleven)) rfl rfl _ _ (Blk.new w14 _ _) (by kernel_rfl) (by rfl) (fcs_one _) ?_; intro v15 hL5 hq5 hK5; have C5_a := hK5 _ (by omega) _ _ ((B4_a).alloc _); have C5_t3 := hK5 _ (by omega) _ _ ((B4_t3).alloc _); have C5_t4 := hK5 _ (by omega) _ _ ((B4_t4).alloc _); have C5_t2 := hK5 _ (by omega) _ _ ((B4_t2).alloc _); have C5_three := hK5 _ (by omega) _ _ ((B4_three).alloc _); have C5_six := hK5 _ (by omega) _ _ ((B4_six).alloc _); have C5_nine := hK5 _ (by omega) _ _ ((B4_nine).alloc _); have hC5 := (((hB4).alloc (by omega) _)).trans (hq5 _ (by omega))) | ((with_reducible refine here_load (d := some 25) ?_); refine wpList_load_fv rfl _ _ rfl (w14.heap.size) rfl (zeleven) _ _ _ (hL5) (fv_fcs (zeleven)) Try.underlying24 rfl (by kernel_rfl) ?_) | ((with_reducible refine here_load (d := some 26) ?_); refine wpList_load_fv rfl _ _ rfl (w14.heap.size) rfl (zeleven) _ _ _ (hL5) (fv_fcs (zeleven)) Try.underlying24 rfl (by kernel_rfl) ?_))
  refine (join_at _ zeleven 11 zeleven zsome 11 rfl HZsome.out.1 HZeleven.out.2 HZeleven.out.2 (by omega)).mono ?_
  rintro e w15 ⟨rfl, hb⟩
  have B5_a : Blk w15 (w.heap.size) 24 _ := Gr.blk hb (C5_a)
  have l5_a := B5_a.lt
  have B5_t3 : Blk w15 (w.heap.size + 2) 24 _ := Gr.blk hb (C5_t3)
  have l5_t3 := B5_t3.lt
  have B5_t4 : Blk w15 (w.heap.size + 3) 24 _ := Gr.blk hb (C5_t4)
  have l5_t4 := B5_t4.lt
  have B5_t2 : Blk w15 (w.heap.size + 1) 24 _ := Gr.blk hb (C5_t2)
  have l5_t2 := B5_t2.lt
  have B5_three : Blk w15 (w11.heap.size) 24 _ := Gr.blk hb (C5_three)
  have l5_three := B5_three.lt
  have B5_six : Blk w15 (w12.heap.size) 24 _ := Gr.blk hb (C5_six)
  have l5_six := B5_six.lt
  have B5_nine : Blk w15 (w13.heap.size) 24 _ := Gr.blk hb (C5_nine)
  have l5_nine := B5_nine.lt
  have B5_eleven : Blk w15 (w14.heap.size) 24 _ := Gr.blk hb (hL5)
  have l5_eleven := B5_eleven.lt
  have hB5 := Below.gr (hC5) hb
  have sz5 := hB5.size
  clear hb
  go_wp2_with (first | ((with_reducible refine here_store ?_); refine wpList_store_blk rfl _ _ _ rfl (w.heap.size + 2) (fcs (zsome)) rfl rfl _ _ (B5_t3) (by kernel_rfl) (by rfl) (fcs_one _) ?_; intro v16 hL6 hq6 hK6; have C6_a := hK6 _ (by omega) _ _ (B5_a); have C6_t4 := hK6 _ (by omega) _ _ (B5_t4); have C6_t2 := hK6 _ (by omega) _ _ (B5_t2); have C6_three := hK6 _ (by omega) _ _ (B5_three); have C6_six := hK6 _ (by omega) _ _ (B5_six); have C6_nine := hK6 _ (by omega) _ _ (B5_nine); have C6_eleven := hK6 _ (by omega) _ _ (B5_eleven); have hC6 := (hB5).trans (hq6 _ (by omega))) | ((with_reducible refine here_load (d := some 28) ?_); refine wpList_load_fv rfl _ _ rfl (w.heap.size + 2) rfl (zsome) _ _ _ (hL6) (fv_fcs (zsome)) Try.underlying24 rfl (by kernel_rfl) ?_) | ((with_reducible refine here_load (d := some 29) ?_); refine wpList_load_fv rfl _ _ rfl (w.heap.size + 2) rfl (zsome) _ _ _ (hL6) (fv_fcs (zsome)) Try.underlying24 rfl (by kernel_rfl) ?_))
  refine (join_at _ zsome 22 zsome zdbl 22 rfl HZdbl.out.1 HZsome.out.2 HZsome.out.2 (by omega)).mono ?_
  rintro e w16 ⟨rfl, hb⟩
  have B6_a : Blk w16 (w.heap.size) 24 _ := Gr.blk hb (C6_a)
  have l6_a := B6_a.lt
  have B6_t4 : Blk w16 (w.heap.size + 3) 24 _ := Gr.blk hb (C6_t4)
  have l6_t4 := B6_t4.lt
  have B6_t2 : Blk w16 (w.heap.size + 1) 24 _ := Gr.blk hb (C6_t2)
  have l6_t2 := B6_t2.lt
  have B6_three : Blk w16 (w11.heap.size) 24 _ := Gr.blk hb (C6_three)
  have l6_three := B6_three.lt
  have B6_six : Blk w16 (w12.heap.size) 24 _ := Gr.blk hb (C6_six)
  have l6_six := B6_six.lt
  have B6_nine : Blk w16 (w13.heap.size) 24 _ := Gr.blk hb (C6_nine)
  have l6_nine := B6_nine.lt
  have B6_eleven : Blk w16 (w14.heap.size) 24 _ := Gr.blk hb (C6_eleven)
  have l6_eleven := B6_eleven.lt
  have B6_t3 : Blk w16 (w.heap.size + 2) 24 _ := Gr.blk hb (hL6)
  have l6_t3 := B6_t3.lt
  have hB6 := Below.gr (hC6) hb
  have sz6 := hB6.size
  clear hb
  go_wp2_with (first | ((with_reducible refine here_store ?_); refine wpList_store_blk rfl _ _ _ rfl (w16.heap.size) (fcs (zdbl)) rfl rfl _ _ (Blk.new w16 _ _) (by kernel_rfl) (by rfl) (fcs_one _) ?_; intro v17 hL7 hq7 hK7; have C7_a := hK7 _ (by omega) _ _ ((B6_a).alloc _); have C7_t4 := hK7 _ (by omega) _ _ ((B6_t4).alloc _); have C7_t2 := hK7 _ (by omega) _ _ ((B6_t2).alloc _); have C7_three := hK7 _ (by omega) _ _ ((B6_three).alloc _); have C7_six := hK7 _ (by omega) _ _ ((B6_six).alloc _); have C7_nine := hK7 _ (by omega) _ _ ((B6_nine).alloc _); have C7_eleven := hK7 _ (by omega) _ _ ((B6_eleven).alloc _); have C7_t3 := hK7 _ (by omega) _ _ ((B6_t3).alloc _); have hC7 := (((hB6).alloc (by omega) _)).trans (hq7 _ (by omega))) | ((with_reducible refine here_load (d := some 31) ?_); refine wpList_load_fv rfl _ _ rfl (w16.heap.size) rfl (zdbl) _ _ _ (hL7) (fv_fcs (zdbl)) Try.underlying24 rfl (by kernel_rfl) ?_) | ((with_reducible refine here_load (d := some 32) ?_); refine wpList_load_fv rfl _ _ rfl (w16.heap.size) rfl (zdbl) _ _ _ (hL7) (fv_fcs (zdbl)) Try.underlying24 rfl (by kernel_rfl) ?_))
  refine (join_at _ zdbl 44 zdbl zm1 44 rfl HZm1.out.1 HZdbl.out.2 HZdbl.out.2 (by omega)).mono ?_
  rintro e w17 ⟨rfl, hb⟩
  have B7_a : Blk w17 (w.heap.size) 24 _ := Gr.blk hb (C7_a)
  have l7_a := B7_a.lt
  have B7_t4 : Blk w17 (w.heap.size + 3) 24 _ := Gr.blk hb (C7_t4)
  have l7_t4 := B7_t4.lt
  have B7_t2 : Blk w17 (w.heap.size + 1) 24 _ := Gr.blk hb (C7_t2)
  have l7_t2 := B7_t2.lt
  have B7_three : Blk w17 (w11.heap.size) 24 _ := Gr.blk hb (C7_three)
  have l7_three := B7_three.lt
  have B7_six : Blk w17 (w12.heap.size) 24 _ := Gr.blk hb (C7_six)
  have l7_six := B7_six.lt
  have B7_nine : Blk w17 (w13.heap.size) 24 _ := Gr.blk hb (C7_nine)
  have l7_nine := B7_nine.lt
  have B7_eleven : Blk w17 (w14.heap.size) 24 _ := Gr.blk hb (C7_eleven)
  have l7_eleven := B7_eleven.lt
  have B7_t3 : Blk w17 (w.heap.size + 2) 24 _ := Gr.blk hb (C7_t3)
  have l7_t3 := B7_t3.lt
  have B7_dbl : Blk w17 (w16.heap.size) 24 _ := Gr.blk hb (hL7)
  have l7_dbl := B7_dbl.lt
  have hB7 := Below.gr (hC7) hb
  have sz7 := hB7.size
  clear hb
  go_wp2_with (first | ((with_reducible refine here_store ?_); refine wpList_store_blk rfl _ _ _ rfl (w.heap.size + 3) (fcs (zm1)) rfl rfl _ _ (B7_t4) (by kernel_rfl) (by rfl) (fcs_one _) ?_; intro v18 hL8 hq8 hK8; have C8_a := hK8 _ (by omega) _ _ (B7_a); have C8_t2 := hK8 _ (by omega) _ _ (B7_t2); have C8_three := hK8 _ (by omega) _ _ (B7_three); have C8_six := hK8 _ (by omega) _ _ (B7_six); have C8_nine := hK8 _ (by omega) _ _ (B7_nine); have C8_eleven := hK8 _ (by omega) _ _ (B7_eleven); have C8_t3 := hK8 _ (by omega) _ _ (B7_t3); have C8_dbl := hK8 _ (by omega) _ _ (B7_dbl); have hC8 := (hB7).trans (hq8 _ (by omega))) | ((with_reducible refine here_load (d := some 34) ?_); refine wpList_load_fv rfl _ _ rfl (w.heap.size + 3) rfl (zm1) _ _ _ (hL8) (fv_fcs (zm1)) Try.underlying24 rfl (by kernel_rfl) ?_) | ((with_reducible refine here_load (d := some 35) ?_); refine wpList_load_fv rfl _ _ rfl (w.heap.size + 3) rfl (zm1) _ _ _ (hL8) (fv_fcs (zm1)) Try.underlying24 rfl (by kernel_rfl) ?_))
  refine (join_at _ zm1 88 zm1 zm2 88 rfl HZm2.out.1 HZm1.out.2 HZm1.out.2 (by omega)).mono ?_
  rintro e w18 ⟨rfl, hb⟩
  have B8_a : Blk w18 (w.heap.size) 24 _ := Gr.blk hb (C8_a)
  have l8_a := B8_a.lt
  have B8_t2 : Blk w18 (w.heap.size + 1) 24 _ := Gr.blk hb (C8_t2)
  have l8_t2 := B8_t2.lt
  have B8_three : Blk w18 (w11.heap.size) 24 _ := Gr.blk hb (C8_three)
  have l8_three := B8_three.lt
  have B8_six : Blk w18 (w12.heap.size) 24 _ := Gr.blk hb (C8_six)
  have l8_six := B8_six.lt
  have B8_nine : Blk w18 (w13.heap.size) 24 _ := Gr.blk hb (C8_nine)
  have l8_nine := B8_nine.lt
  have B8_eleven : Blk w18 (w14.heap.size) 24 _ := Gr.blk hb (C8_eleven)
  have l8_eleven := B8_eleven.lt
  have B8_t3 : Blk w18 (w.heap.size + 2) 24 _ := Gr.blk hb (C8_t3)
  have l8_t3 := B8_t3.lt
  have B8_dbl : Blk w18 (w16.heap.size) 24 _ := Gr.blk hb (C8_dbl)
  have l8_dbl := B8_dbl.lt
  have B8_t4 : Blk w18 (w.heap.size + 3) 24 _ := Gr.blk hb (hL8)
  have l8_t4 := B8_t4.lt
  have hB8 := Below.gr (hC8) hb
  have sz8 := hB8.size
  clear hb
  go_wp2_with (first | ((with_reducible refine here_store ?_); refine wpList_store_blk rfl _ _ _ rfl (w.heap.size + 3) (fcs (zm2)) rfl rfl _ _ (B8_t4) (by kernel_rfl) (by rfl) (fcs_one _) ?_; intro v19 hL9 hq9 hK9; have C9_a := hK9 _ (by omega) _ _ (B8_a); have C9_t2 := hK9 _ (by omega) _ _ (B8_t2); have C9_three := hK9 _ (by omega) _ _ (B8_three); have C9_six := hK9 _ (by omega) _ _ (B8_six); have C9_nine := hK9 _ (by omega) _ _ (B8_nine); have C9_eleven := hK9 _ (by omega) _ _ (B8_eleven); have C9_t3 := hK9 _ (by omega) _ _ (B8_t3); have C9_dbl := hK9 _ (by omega) _ _ (B8_dbl); have hC9 := (hB8).trans (hq9 _ (by omega))) | ((with_reducible refine here_load (d := some 37) ?_); refine wpList_load_fv rfl _ _ rfl (w.heap.size + 3) rfl (zm2) _ _ _ (hL9) (fv_fcs (zm2)) Try.underlying24 rfl (by kernel_rfl) ?_) | ((with_reducible refine here_load (d := some 38) ?_); refine wpList_load_fv rfl _ _ rfl (w16.heap.size) rfl (zdbl) _ _ _ (C9_dbl) (fv_fcs (zdbl)) Try.underlying24 rfl (by kernel_rfl) ?_))
  refine (join_at _ zm2 44 zdbl zm3 44 rfl HZm3.out.1 HZm2.out.2 HZdbl.out.2 (by omega)).mono ?_
  rintro e w19 ⟨rfl, hb⟩
  have B9_a : Blk w19 (w.heap.size) 24 _ := Gr.blk hb (C9_a)
  have l9_a := B9_a.lt
  have B9_t2 : Blk w19 (w.heap.size + 1) 24 _ := Gr.blk hb (C9_t2)
  have l9_t2 := B9_t2.lt
  have B9_three : Blk w19 (w11.heap.size) 24 _ := Gr.blk hb (C9_three)
  have l9_three := B9_three.lt
  have B9_six : Blk w19 (w12.heap.size) 24 _ := Gr.blk hb (C9_six)
  have l9_six := B9_six.lt
  have B9_nine : Blk w19 (w13.heap.size) 24 _ := Gr.blk hb (C9_nine)
  have l9_nine := B9_nine.lt
  have B9_eleven : Blk w19 (w14.heap.size) 24 _ := Gr.blk hb (C9_eleven)
  have l9_eleven := B9_eleven.lt
  have B9_t3 : Blk w19 (w.heap.size + 2) 24 _ := Gr.blk hb (C9_t3)
  have l9_t3 := B9_t3.lt
  have B9_dbl : Blk w19 (w16.heap.size) 24 _ := Gr.blk hb (C9_dbl)
  have l9_dbl := B9_dbl.lt
  have B9_t4 : Blk w19 (w.heap.size + 3) 24 _ := Gr.blk hb (hL9)
  have l9_t4 := B9_t4.lt
  have hB9 := Below.gr (hC9) hb
  have sz9 := hB9.size
  clear hb
  go_wp2_with (first | ((with_reducible refine here_store ?_); refine wpList_store_blk rfl _ _ _ rfl (w.heap.size + 3) (fcs (zm3)) rfl rfl _ _ (B9_t4) (by kernel_rfl) (by rfl) (fcs_one _) ?_; intro v20 hL10 hq10 hK10; have C10_a := hK10 _ (by omega) _ _ (B9_a); have C10_t2 := hK10 _ (by omega) _ _ (B9_t2); have C10_three := hK10 _ (by omega) _ _ (B9_three); have C10_six := hK10 _ (by omega) _ _ (B9_six); have C10_nine := hK10 _ (by omega) _ _ (B9_nine); have C10_eleven := hK10 _ (by omega) _ _ (B9_eleven); have C10_t3 := hK10 _ (by omega) _ _ (B9_t3); have C10_dbl := hK10 _ (by omega) _ _ (B9_dbl); have hC10 := (hB9).trans (hq10 _ (by omega))) | ((with_reducible refine here_load (d := some 40) ?_); refine wpList_load_fv rfl _ _ rfl (w.heap.size + 3) rfl (zm3) _ _ _ (hL10) (fv_fcs (zm3)) Try.underlying24 rfl (by kernel_rfl) ?_) | ((with_reducible refine here_load (d := some 41) ?_); refine wpList_load_fv rfl _ _ rfl (w11.heap.size) rfl (zthree) _ _ _ (C10_three) (fv_fcs (zthree)) Try.underlying24 rfl (by kernel_rfl) ?_))
  refine (join_at _ zm3 3 zthree zmost 3 rfl HZmost.out.1 HZm3.out.2 HZthree.out.2 (by omega)).mono ?_
  rintro e w20 ⟨rfl, hb⟩
  have B10_a : Blk w20 (w.heap.size) 24 _ := Gr.blk hb (C10_a)
  have l10_a := B10_a.lt
  have B10_t2 : Blk w20 (w.heap.size + 1) 24 _ := Gr.blk hb (C10_t2)
  have l10_t2 := B10_t2.lt
  have B10_three : Blk w20 (w11.heap.size) 24 _ := Gr.blk hb (C10_three)
  have l10_three := B10_three.lt
  have B10_six : Blk w20 (w12.heap.size) 24 _ := Gr.blk hb (C10_six)
  have l10_six := B10_six.lt
  have B10_nine : Blk w20 (w13.heap.size) 24 _ := Gr.blk hb (C10_nine)
  have l10_nine := B10_nine.lt
  have B10_eleven : Blk w20 (w14.heap.size) 24 _ := Gr.blk hb (C10_eleven)
  have l10_eleven := B10_eleven.lt
  have B10_t3 : Blk w20 (w.heap.size + 2) 24 _ := Gr.blk hb (C10_t3)
  have l10_t3 := B10_t3.lt
  have B10_dbl : Blk w20 (w16.heap.size) 24 _ := Gr.blk hb (C10_dbl)
  have l10_dbl := B10_dbl.lt
  have B10_t4 : Blk w20 (w.heap.size + 3) 24 _ := Gr.blk hb (hL10)
  have l10_t4 := B10_t4.lt
  have hB10 := Below.gr (hC10) hb
  have sz10 := hB10.size
  clear hb
  go_wp2_with (first | ((with_reducible refine here_store ?_); refine wpList_store_blk rfl _ _ _ rfl (w.heap.size + 3) (fcs (zmost)) rfl rfl _ _ (B10_t4) (by kernel_rfl) (by rfl) (fcs_one _) ?_; intro v21 hL11 hq11 hK11; have C11_a := hK11 _ (by omega) _ _ (B10_a); have C11_t2 := hK11 _ (by omega) _ _ (B10_t2); have C11_three := hK11 _ (by omega) _ _ (B10_three); have C11_six := hK11 _ (by omega) _ _ (B10_six); have C11_nine := hK11 _ (by omega) _ _ (B10_nine); have C11_eleven := hK11 _ (by omega) _ _ (B10_eleven); have C11_t3 := hK11 _ (by omega) _ _ (B10_t3); have C11_dbl := hK11 _ (by omega) _ _ (B10_dbl); have hC11 := (hB10).trans (hq11 _ (by omega))))
  refine wp_region_G (fun _ => false) (by kernel_rfl) ?_
  try simp only [Act.put]
  refine wpAnyG_take 0 rfl (by kernel_rfl) (fun _ _ _ h => h) (YieldsG.loadF (by rfl) _ _ rfl (w.heap.size + 1) rfl (ztwo) _ _ (C11_t2) (fv_fcs _) Try.underlying24 rfl (by kernel_rfl)) ?_
  try simp only [Act.put, List.setIfInBounds_toArray, List.set_cons_zero, List.set_cons_succ]
  refine wpAnyG_take 1 rfl (by kernel_rfl) (fun _ _ _ h => h) (YieldsG.loadF (by rfl) _ _ rfl (w.heap.size + 2) rfl (zsome) _ _ (C11_t3) (fv_fcs _) Try.underlying24 rfl (by kernel_rfl)) ?_
  try simp only [Act.put, List.setIfInBounds_toArray, List.set_cons_zero, List.set_cons_succ]
  refine wpAnyG_take 2 rfl (by kernel_rfl) (fun _ _ _ h => h) (YieldsG.loadF (by rfl) _ _ rfl (w.heap.size + 3) rfl (zmost) _ _ (hL11) (fv_fcs _) Try.underlying24 rfl (by kernel_rfl)) ?_
  try simp only [Act.put, List.setIfInBounds_toArray, List.set_cons_zero, List.set_cons_succ]
  refine wpAnyG_take 3 rfl (by kernel_rfl) (fun _ _ _ h => h) (YieldsG.again (by rfl) _ _ _ rfl (w.heap.size + 1) (fcs (ztwo)) rfl rfl _ (C11_t2) (by kernel_rfl) (fcs_one _)) ?_
  try simp only [Act.put]
  refine wpAnyG_take 4 rfl (by kernel_rfl) (fun _ _ _ h => h) (YieldsG.again (by rfl) _ _ _ rfl (w.heap.size + 2) (fcs (zsome)) rfl rfl _ (C11_t3) (by kernel_rfl) (fcs_one _)) ?_
  try simp only [Act.put]
  refine wpAnyG_take 5 rfl (by kernel_rfl) (fun _ _ _ h => h) (YieldsG.again (by rfl) _ _ _ rfl (w.heap.size + 3) (fcs (zmost)) rfl rfl _ (hL11) (by kernel_rfl) (fcs_one _)) ?_
  try simp only [Act.put]
  refine wpAnyG_done (by kernel_rfl) (fun u hu => ?_)
  have hbz := Below.gr (hC11) hu
  have Et2 := Gr.blk hu C11_t2
  have Et3 := Gr.blk hu C11_t3
  have Et4 := Gr.blk hu hL11
  go_wp2
  exact bodyPost_ret (res_three_cells rfl _ _ (w.heap.size + 1) (w.heap.size + 2) (w.heap.size + 3) _ _ _ _ _ _ _ rfl Et2 rfl Et3 rfl Et4 Try.underlying24 rfl (by kernel_rfl) (by kernel_rfl) (by kernel_rfl)) rfl ⟨rfl, hbz⟩
end Go.Proofs.Ytlojidnlkflpnaa
