/-
  fe.Inv.
-/
import Derived.Test.YtlojidnlkflpnaaFeSqrt
namespace Go.Proofs.Ytlojidnlkflpnaa
open Go.RowKit Go.Lib

def iZ2 (x : Nat) : Nat := jn (rZ1 x) 5 x
def iZ3 (x : Nat) : Nat := jn (iZ2 x) 3 (rTwo x)
def invR (x : Nat) : Nat := jn (iZ3 x) 2 x
theorem invR_lt (x : Nat) : invR x < 115792089237316195423570985008687907853269984665640564039457584007913129639936 := jn_lt _ _ _
theorem invR_red (x : Nat) : invR x % pM = invR x := by
  have h : invR x = sqI (iZ3 x) 2 * x % pM := rfl
  rw [h, Nat.mod_mod]
def eInv : Nat := (((eMost * 2 ^ 23 + eSome) * 2 ^ 5 + 1) * 2 ^ 3 + eTwo) * 2 ^ 2 + 1
theorem eInv_is : eInv = 115792089237316195423570985008687907853269984665640564039457584007908834671663 - 2 := by decide +kernel
theorem invR_pow (x : Nat) : invR x % pM = x ^ eInv % pM := by
  unfold invR eInv
  exact jn_pow (jn_pow (jn_pow (jn_pow (rMost_pow x) (rSome_pow x)) (pow_self x)) (rTwo_pow x)) (pow_self x)

set_option maxHeartbeats 4000000 in
set_option maxRecDepth 100000 in
theorem inv_any (w : World) (x : Nat) (hx : x < 115792089237316195423570985008687907853269984665640564039457584007913129639936) : Calls Try.prog 89 #[fv x] w fun e w' => e = .returned (fv (invR x)) ∧ Below w.heap.size w w' := by
  obtain ⟨z2, hz2⟩ : ∃ z, z = rTwo x := ⟨_, rfl⟩
  obtain ⟨zs, hzs⟩ : ∃ z, z = rSome x := ⟨_, rfl⟩
  obtain ⟨zm, hzm⟩ : ∃ z, z = rMost x := ⟨_, rfl⟩
  obtain ⟨y1, hy1⟩ : ∃ z, z = rZ1 x := ⟨_, rfl⟩
  obtain ⟨y2, hy2⟩ : ∃ z, z = iZ2 x := ⟨_, rfl⟩
  obtain ⟨y3, hy3⟩ : ∃ z, z = iZ3 x := ⟨_, rfl⟩
  obtain ⟨y4, hy4⟩ : ∃ z, z = invR x := ⟨_, rfl⟩
  have cR : ∀ w, Calls Try.prog 99 #[fv x] w fun e w' => e = .returned (.tuple #[fv z2, fv zs, fv zm]) ∧ Below w.heap.size w w' := by
    intro w; rw [hz2, hzs, hzm]; exact runs_any w x hx
  have c1 := fun w => join_at w zm 23 zs y1 23 rfl (by rw [hzm, hzs, hy1]; rfl) (by rw [hzm]; exact rMost_lt x) (by rw [hzs]; exact rSome_lt x) (by omega)
  have c2 := fun w => join_at w y1 5 x y2 5 rfl (by rw [hy1, hy2]; rfl) (by rw [hy1]; exact jn_lt _ _ _) hx (by omega)
  have c3 := fun w => join_at w y2 3 z2 y3 3 rfl (by rw [hy2, hz2, hy3]; rfl) (by rw [hy2]; exact jn_lt _ _ _) (by rw [hz2]; exact rTwo_lt x) (by omega)
  have c4 := fun w => join_at w y3 2 x y4 2 rfl (by rw [hy3, hy4]; rfl) (by rw [hy3]; exact jn_lt _ _ _) hx (by omega)
  rw [← hy4]
  obtain ⟨x0, x1, x2, x3, fx⟩ := words_fv x hx
  have FX := Lib.hid fx
  rw [fx] at cR ⊢
  clear fx hx hz2 hzs hzm hy1 hy2 hy3 hy4
  go_enter Try.func89, Try.ntmps89
  go_wp2_with fail
  refine (cR _).mono ?_
  rintro e w10 ⟨rfl, hb⟩
  have B0_a : Blk w10 (w.heap.size) 24 _ := Gr.blk hb (Blk.eq_ ((Blk.new w _ _).alloc _) (fcs_words FX.out).symm)
  have l0_a := B0_a.lt
  have B0_t2 : Blk w10 (w.heap.size + 1) 24 _ := Gr.blk hb (blk_new2 w _ _ _)
  have l0_t2 := B0_t2.lt
  have hB0 := Below.gr (below_alloc2 w _ _) hb
  have sz0 := hB0.size
  clear hb
  go_wp2_with (first | ((with_reducible refine here_store ?_); refine wpList_store_blk rfl _ _ _ rfl (w10.heap.size) (fcs (z2)) rfl rfl _ _ (((Blk.new w10 _ _).alloc _).alloc _) (by kernel_rfl) (by rfl) (fcs_one _) ?_; intro v11t3 hLt3 hqt3 hKt3; have Ct3_a := hKt3 _ (by omega) _ _ ((((B0_a).alloc _).alloc _).alloc _); have Ct3_t2 := hKt3 _ (by omega) _ _ ((((B0_t2).alloc _).alloc _).alloc _); have Ct3_t4 := hKt3 _ (by omega) _ _ ((blk_new2 w10 _ _ _).alloc _); have Ct3_t5 := hKt3 _ (by omega) _ _ (blk_new3 w10 _ _ _ _); have hCt3 := ((((hB0).alloc (by omega) _).alloc (by simp <;> omega) _).alloc (by simp <;> omega) _).trans (hqt3 _ (by omega))) | ((with_reducible refine here_store ?_); refine wpList_store_blk rfl _ _ _ rfl (w10.heap.size + 1) (fcs (zs)) rfl rfl _ _ (Ct3_t4) (by kernel_rfl) (by rfl) (fcs_one _) ?_; intro v11t4 hLt4 hqt4 hKt4; have Ct4_a := hKt4 _ (by omega) _ _ (Ct3_a); have Ct4_t2 := hKt4 _ (by omega) _ _ (Ct3_t2); have Ct4_t5 := hKt4 _ (by omega) _ _ (Ct3_t5); have Ct4_t3 := hKt4 _ (by omega) _ _ (hLt3); have hCt4 := (hCt3).trans (hqt4 _ (by omega))) | ((with_reducible refine here_store ?_); refine wpList_store_blk rfl _ _ _ rfl (w10.heap.size + 2) (fcs (zm)) rfl rfl _ _ (Ct4_t5) (by kernel_rfl) (by rfl) (fcs_one _) ?_; intro v11t5 hLt5 hqt5 hKt5; have Ct5_a := hKt5 _ (by omega) _ _ (Ct4_a); have Ct5_t2 := hKt5 _ (by omega) _ _ (Ct4_t2); have Ct5_t3 := hKt5 _ (by omega) _ _ (Ct4_t3); have Ct5_t4 := hKt5 _ (by omega) _ _ (hLt4); have hCt5 := (hCt4).trans (hqt5 _ (by omega))) | ((with_reducible refine here_load (d := some 13) ?_); refine wpList_load_fv rfl _ _ rfl (w10.heap.size + 2) rfl (zm) _ _ _ (hLt5) (fv_fcs (zm)) Try.underlying24 rfl (by kernel_rfl) ?_) | ((with_reducible refine here_load (d := some 14) ?_); refine wpList_load_fv rfl _ _ rfl (w10.heap.size + 1) rfl (zs) _ _ _ (Ct5_t4) (fv_fcs (zs)) Try.underlying24 rfl (by kernel_rfl) ?_))
  refine (c1 _).mono ?_
  rintro e w11 ⟨rfl, hb⟩
  have B1_a : Blk w11 (w.heap.size) 24 _ := Gr.blk hb (Ct5_a)
  have l1_a := B1_a.lt
  have B1_t2 : Blk w11 (w.heap.size + 1) 24 _ := Gr.blk hb (Ct5_t2)
  have l1_t2 := B1_t2.lt
  have B1_t3 : Blk w11 (w10.heap.size) 24 _ := Gr.blk hb (Ct5_t3)
  have l1_t3 := B1_t3.lt
  have B1_t4 : Blk w11 (w10.heap.size + 1) 24 _ := Gr.blk hb (Ct5_t4)
  have l1_t4 := B1_t4.lt
  have B1_t5 : Blk w11 (w10.heap.size + 2) 24 _ := Gr.blk hb (hLt5)
  have l1_t5 := B1_t5.lt
  have hB1 := Below.gr (hCt5) hb
  have sz1 := hB1.size
  clear hb
  go_wp2_with (first | ((with_reducible refine here_store ?_); refine wpList_store_blk rfl _ _ _ rfl (w11.heap.size) (fcs (y1)) rfl rfl _ _ (Blk.new w11 _ _) (by kernel_rfl) (by rfl) (fcs_one _) ?_; intro v12 hL2 hq2 hK2; have C2_a := hK2 _ (by omega) _ _ ((B1_a).alloc _); have C2_t2 := hK2 _ (by omega) _ _ ((B1_t2).alloc _); have C2_t3 := hK2 _ (by omega) _ _ ((B1_t3).alloc _); have C2_t4 := hK2 _ (by omega) _ _ ((B1_t4).alloc _); have C2_t5 := hK2 _ (by omega) _ _ ((B1_t5).alloc _); have hC2 := (((hB1).alloc (by omega) _)).trans (hq2 _ (by omega))) | ((with_reducible refine here_load (d := some 16) ?_); refine wpList_load_fv rfl _ _ rfl (w11.heap.size) rfl (y1) _ _ _ (hL2) (fv_fcs (y1)) Try.underlying24 rfl (by kernel_rfl) ?_) | ((with_reducible refine here_load (d := some 17) ?_); refine wpList_load_fv rfl _ _ rfl (w.heap.size) rfl (x) _ _ _ (C2_a) (fv_fcs (x)) Try.underlying24 rfl (by kernel_rfl) ?_))
  refine (c2 _).mono ?_
  rintro e w12 ⟨rfl, hb⟩
  have B2_a : Blk w12 (w.heap.size) 24 _ := Gr.blk hb (C2_a)
  have l2_a := B2_a.lt
  have B2_t2 : Blk w12 (w.heap.size + 1) 24 _ := Gr.blk hb (C2_t2)
  have l2_t2 := B2_t2.lt
  have B2_t3 : Blk w12 (w10.heap.size) 24 _ := Gr.blk hb (C2_t3)
  have l2_t3 := B2_t3.lt
  have B2_t4 : Blk w12 (w10.heap.size + 1) 24 _ := Gr.blk hb (C2_t4)
  have l2_t4 := B2_t4.lt
  have B2_t5 : Blk w12 (w10.heap.size + 2) 24 _ := Gr.blk hb (C2_t5)
  have l2_t5 := B2_t5.lt
  have B2_t6 : Blk w12 (w11.heap.size) 24 _ := Gr.blk hb (hL2)
  have l2_t6 := B2_t6.lt
  have hB2 := Below.gr (hC2) hb
  have sz2 := hB2.size
  clear hb
  go_wp2_with (first | ((with_reducible refine here_store ?_); refine wpList_store_blk rfl _ _ _ rfl (w11.heap.size) (fcs (y2)) rfl rfl _ _ (B2_t6) (by kernel_rfl) (by rfl) (fcs_one _) ?_; intro v13 hL3 hq3 hK3; have C3_a := hK3 _ (by omega) _ _ (B2_a); have C3_t2 := hK3 _ (by omega) _ _ (B2_t2); have C3_t3 := hK3 _ (by omega) _ _ (B2_t3); have C3_t4 := hK3 _ (by omega) _ _ (B2_t4); have C3_t5 := hK3 _ (by omega) _ _ (B2_t5); have hC3 := (hB2).trans (hq3 _ (by omega))) | ((with_reducible refine here_load (d := some 19) ?_); refine wpList_load_fv rfl _ _ rfl (w11.heap.size) rfl (y2) _ _ _ (hL3) (fv_fcs (y2)) Try.underlying24 rfl (by kernel_rfl) ?_) | ((with_reducible refine here_load (d := some 20) ?_); refine wpList_load_fv rfl _ _ rfl (w10.heap.size) rfl (z2) _ _ _ (C3_t3) (fv_fcs (z2)) Try.underlying24 rfl (by kernel_rfl) ?_))
  refine (c3 _).mono ?_
  rintro e w13 ⟨rfl, hb⟩
  have B3_a : Blk w13 (w.heap.size) 24 _ := Gr.blk hb (C3_a)
  have l3_a := B3_a.lt
  have B3_t2 : Blk w13 (w.heap.size + 1) 24 _ := Gr.blk hb (C3_t2)
  have l3_t2 := B3_t2.lt
  have B3_t3 : Blk w13 (w10.heap.size) 24 _ := Gr.blk hb (C3_t3)
  have l3_t3 := B3_t3.lt
  have B3_t4 : Blk w13 (w10.heap.size + 1) 24 _ := Gr.blk hb (C3_t4)
  have l3_t4 := B3_t4.lt
  have B3_t5 : Blk w13 (w10.heap.size + 2) 24 _ := Gr.blk hb (C3_t5)
  have l3_t5 := B3_t5.lt
  have B3_t6 : Blk w13 (w11.heap.size) 24 _ := Gr.blk hb (hL3)
  have l3_t6 := B3_t6.lt
  have hB3 := Below.gr (hC3) hb
  have sz3 := hB3.size
  clear hb
  go_wp2_with (first | ((with_reducible refine here_store ?_); refine wpList_store_blk rfl _ _ _ rfl (w11.heap.size) (fcs (y3)) rfl rfl _ _ (B3_t6) (by kernel_rfl) (by rfl) (fcs_one _) ?_; intro v14 hL4 hq4 hK4; have C4_a := hK4 _ (by omega) _ _ (B3_a); have C4_t2 := hK4 _ (by omega) _ _ (B3_t2); have C4_t3 := hK4 _ (by omega) _ _ (B3_t3); have C4_t4 := hK4 _ (by omega) _ _ (B3_t4); have C4_t5 := hK4 _ (by omega) _ _ (B3_t5); have hC4 := (hB3).trans (hq4 _ (by omega))) | ((with_reducible refine here_load (d := some 22) ?_); refine wpList_load_fv rfl _ _ rfl (w11.heap.size) rfl (y3) _ _ _ (hL4) (fv_fcs (y3)) Try.underlying24 rfl (by kernel_rfl) ?_) | ((with_reducible refine here_load (d := some 23) ?_); refine wpList_load_fv rfl _ _ rfl (w.heap.size) rfl (x) _ _ _ (C4_a) (fv_fcs (x)) Try.underlying24 rfl (by kernel_rfl) ?_))
  refine (c4 _).mono ?_
  rintro e w14 ⟨rfl, hb⟩
  have B4_a : Blk w14 (w.heap.size) 24 _ := Gr.blk hb (C4_a)
  have l4_a := B4_a.lt
  have B4_t2 : Blk w14 (w.heap.size + 1) 24 _ := Gr.blk hb (C4_t2)
  have l4_t2 := B4_t2.lt
  have B4_t3 : Blk w14 (w10.heap.size) 24 _ := Gr.blk hb (C4_t3)
  have l4_t3 := B4_t3.lt
  have B4_t4 : Blk w14 (w10.heap.size + 1) 24 _ := Gr.blk hb (C4_t4)
  have l4_t4 := B4_t4.lt
  have B4_t5 : Blk w14 (w10.heap.size + 2) 24 _ := Gr.blk hb (C4_t5)
  have l4_t5 := B4_t5.lt
  have B4_t6 : Blk w14 (w11.heap.size) 24 _ := Gr.blk hb (hL4)
  have l4_t6 := B4_t6.lt
  have hB4 := Below.gr (hC4) hb
  have sz4 := hB4.size
  clear hb
  go_wp2_with (first | ((with_reducible refine here_store ?_); refine wpList_store_blk rfl _ _ _ rfl (w.heap.size + 1) (fcs (y4)) rfl rfl _ _ (B4_t2) (by kernel_rfl) (by rfl) (fcs_one _) ?_; intro v15 hL5 hq5 hK5; have C5_a := hK5 _ (by omega) _ _ (B4_a); have C5_t3 := hK5 _ (by omega) _ _ (B4_t3); have C5_t4 := hK5 _ (by omega) _ _ (B4_t4); have C5_t5 := hK5 _ (by omega) _ _ (B4_t5); have C5_t6 := hK5 _ (by omega) _ _ (B4_t6); have hC5 := (hB4).trans (hq5 _ (by omega))))
  exact bodyPost_ret (results_cell_row rfl _ _ (w.heap.size + 1) _ _ (0, 0) _ rfl hL5 Try.underlying24 rfl (by kernel_rfl)) rfl ⟨rfl, hC5⟩
end Go.Proofs.Ytlojidnlkflpnaa
