/-
  The document's N, OfScalar, Scalar; Norm and Right modulo n.
-/
import Derived.Test.YtajjjdmjlloifaaRefMinus
import Derived.Test.YtajjjdmjlloifaaScSpec
namespace Go.Proofs.Ytajjjdmjlloifaa.Sc
open Go.RowKit Go.Lib

/-- the modulus n as the document has it, and what it lacks -/
def modV : Value := .agg #[.int .u64 13822214165235122497, .int .u64 13451932020343611451, .int .u64 18446744073709551614, .int .u64 18446744073709551615, .int .u64 4624529908474429119, .int .u64 4994812053365940164, .int .u64 1]
theorem fv_P : fv 115792089237316195423570985008687907852837564279074904382605163141518161494337 = .agg #[.int .u64 13822214165235122497, .int .u64 13451932020343611451, .int .u64 18446744073709551614, .int .u64 18446744073709551615] := rfl

theorem refN_any (w : World) : Calls Try.prog 20 #[] w fun e w' => e = .returned modV ∧ Below w.heap.size w w' := by
  go_enter Try.func20, Try.ntmps20
  go_wp2
  exact bodyPost_ret (results_cell_row rfl _ _ w.heap.size _ _ (0, 0) _ rfl (heap_alloc_new w _) Try.underlying39 rfl (by kernel_rfl)) rfl ⟨rfl, (Below.refl _ _).alloc (Nat.le_refl _) _⟩
theorem refOf_any (w : World) (n : Nat) (hn : n < 115792089237316195423570985008687907853269984665640564039457584007913129639936) : Calls Try.prog 21 #[fv n] w fun e w' => e = .returned (fv n) ∧ Below w.heap.size w w' := by
  obtain ⟨a, b, c, d, fn⟩ := words_fv n hn
  rw [fn]
  clear fn
  go_enter Try.func21, Try.ntmps21
  go_wp2
  exact bodyPost_ret (results_cell_row rfl _ _ (w.heap.size + 1) _ _ (0, 0) _ rfl (heap_alloc2_new w _ _) Try.underlying27 rfl (by kernel_rfl)) rfl ⟨rfl, below_alloc2 w _ _⟩
theorem refSc_any (w : World) (n : Nat) (hn : n < 115792089237316195423570985008687907853269984665640564039457584007913129639936) : Calls Try.prog 23 #[fv n] w fun e w' => e = .returned (fv n) ∧ Below w.heap.size w w' := by
  obtain ⟨a, b, c, d, fn⟩ := words_fv n hn
  rw [fn]
  clear fn
  go_enter Try.func23, Try.ntmps23
  go_wp2
  exact bodyPost_ret (results_cell_row rfl _ _ (w.heap.size + 1) _ _ (0, 0) _ rfl (heap_alloc2_new w _ _) Try.underlying36 rfl (by kernel_rfl)) rfl ⟨rfl, below_alloc2 w _ _⟩

set_option maxHeartbeats 2000000 in
set_option maxRecDepth 100000 in
theorem normR_any (w : World) (x : Nat) (hx : x < 115792089237316195423570985008687907853269984665640564039457584007913129639936) : Calls Try.prog 24 #[modV, fv x] w fun e w' => e = .returned (fv (x % pM)) ∧ Below w.heap.size w w' := by
  obtain ⟨z, hz⟩ : ∃ z, z = x % pM := ⟨_, rfl⟩
  obtain ⟨p, hp⟩ : ∃ p, p = 115792089237316195423570985008687907852837564279074904382605163141518161494337 := ⟨_, rfl⟩
  have hpl : p < 115792089237316195423570985008687907853269984665640564039457584007913129639936 := by omega
  obtain ⟨b, hb⟩ : ∃ b, b = decide (x < p) := ⟨_, rfl⟩
  have cb : ∀ w, Calls Try.prog 62 #[fv x, fv p] w fun e w' => e = .returned (.bool b) ∧ Below w.heap.size w w' := by
    intro w; rw [hb]; exact below_at w x p rfl rfl hx hpl
  have t1 : b = true → z = x := fun h => by
    rw [hb] at h
    rw [hz]
    exact Nat.mod_eq_of_lt (by rw [pM_eq, ← hp]; simpa using h)
  have cm : b = false → ∀ w, Calls Try.prog 63 #[fv x, fv p] w fun e w' => e = .returned (fv z) ∧ Below w.heap.size w w' := fun h w => by
    rw [hb] at h
    have hle : ¬ x < p := by simpa using h
    have hzx : z + p = x := by rw [hz, red_once x hx, if_neg (by omega)]; omega
    exact minusR_at w x p z 0 rfl rfl hx hpl (by omega) (by omega)
  have hpc : fv p = .agg #[.int .u64 13822214165235122497, .int .u64 13451932020343611451, .int .u64 18446744073709551614, .int .u64 18446744073709551615] := by rw [hp]; exact fv_P
  obtain ⟨x0, x1, x2, x3, fx⟩ := words_fv x hx
  have FX := Lib.hid fx
  have FP := Lib.hid hpc
  rw [fx, ← hz]
  unfold modV
  clear fx hpc hx hz hp hpl hb
  go_enter Try.func24, Try.ntmps24
  go_wp2_with (first | ((with_reducible refine here_load (d := some 6) ?_); refine wpList_load_fv rfl _ _ rfl (w.heap.size + 1) rfl (x) _ _ _ ((blk_new2 w _ _ _).alloc _) (FX.out) Try.underlying27 rfl (by kernel_rfl) ?_) | ((with_reducible refine here_load (d := some 8) ?_); refine wpList_load_part rfl _ _ rfl w.heap.size rfl p [.int .u64 13822214165235122497, .int .u64 13451932020343611451, .int .u64 18446744073709551614, .int .u64 18446744073709551615] _ (mod_range (((Blk.new w _ _).alloc _).alloc _)) FP.out Try.underlying27 rfl (by kernel_rfl) ?_))
  refine (cb _).mono ?_
  rintro e w1 ⟨rfl, k1⟩
  have BM : Blk w1 w.heap.size 39 _ := Gr.blk k1 (((Blk.new w _ _).alloc _).alloc _)
  have BX : Blk w1 (w.heap.size + 1) 27 _ := Gr.blk k1 ((blk_new2 w _ _ _).alloc _)
  have BR : Blk w1 (w.heap.size + 2) 27 _ := Gr.blk k1 (blk_new3 w _ _ _ _)
  have hB := Below.gr (below_alloc3 w _ _ _) k1
  clear k1 cb
  cases b
  · have cmm := cm rfl
    clear cm t1
    go_wp2_with (first | ((with_reducible refine here_load (d := some 12) ?_); refine wpList_load_fv rfl _ _ rfl (w.heap.size + 1) rfl (x) _ _ _ (BX) (FX.out) Try.underlying27 rfl (by kernel_rfl) ?_) | ((with_reducible refine here_load (d := some 14) ?_); refine wpList_load_part rfl _ _ rfl w.heap.size rfl p [.int .u64 13822214165235122497, .int .u64 13451932020343611451, .int .u64 18446744073709551614, .int .u64 18446744073709551615] _ (mod_range (BM)) FP.out Try.underlying27 rfl (by kernel_rfl) ?_))
    refine (cmm _).mono ?_
    rintro e w2 ⟨rfl, k2⟩
    have BR2 := Gr.blk k2 BR
    have hB2 := Below.gr hB k2
    clear k2 cmm
    go_wp2_with (first | ((with_reducible refine here_store ?_); refine wpList_store_blk rfl _ _ _ rfl (w.heap.size + 2) (fcs (z)) rfl rfl _ _ (BR2) (by kernel_rfl) (by rfl) (fcs_one _) ?_; intro w9 hL9 hB9 hK9))
    exact bodyPost_ret (results_cell_row rfl _ _ (w.heap.size + 2) _ _ (0, 0) _ rfl hL9 Try.underlying27 rfl (by kernel_rfl)) rfl ⟨rfl, hB2.trans (hB9 _ (by omega))⟩
  · have HZX := Lib.hid (t1 rfl)
    clear t1 cm
    go_wp2_with (first | ((with_reducible refine here_load (d := some 11) ?_); refine wpList_load_fv rfl _ _ rfl (w.heap.size + 1) rfl (x) _ _ _ (BX) (FX.out) Try.underlying27 rfl (by kernel_rfl) ?_) | ((with_reducible refine here_store ?_); refine wpList_store_blk rfl _ _ _ rfl (w.heap.size + 2) (fcs (x)) rfl rfl _ _ (BR) (by kernel_rfl) (by rfl) (fcs_one _) ?_; intro w9 hL9 hB9 hK9))
    exact bodyPost_ret (results_cell_row rfl _ _ (w.heap.size + 2) _ _ (0, 0) _ rfl hL9 Try.underlying27 rfl (by kernel_rfl)) rfl ⟨by rw [HZX.out]; rfl, hB.trans (hB9 _ (by omega))⟩

set_option maxHeartbeats 2000000 in
set_option maxRecDepth 100000 in
theorem rightR_any (w : World) (x : Nat) (hx : x < 115792089237316195423570985008687907853269984665640564039457584007913129639936) : Calls Try.prog 41 #[modV, fv x] w fun e w' => e = .returned (.bool (decide (x < pM))) ∧ Below w.heap.size w w' := by
  obtain ⟨p, hp⟩ : ∃ p, p = 115792089237316195423570985008687907852837564279074904382605163141518161494337 := ⟨_, rfl⟩
  obtain ⟨b, hb⟩ : ∃ b, b = decide (x < pM) := ⟨_, rfl⟩
  have cb : ∀ w, Calls Try.prog 62 #[fv x, fv p] w fun e w' => e = .returned (.bool b) ∧ Below w.heap.size w w' := by
    intro w; rw [hb, pM_eq, ← hp]; exact below_at w x p rfl rfl hx (by omega)
  have hpc : fv p = .agg #[.int .u64 13822214165235122497, .int .u64 13451932020343611451, .int .u64 18446744073709551614, .int .u64 18446744073709551615] := by rw [hp]; exact fv_P
  obtain ⟨x0, x1, x2, x3, fx⟩ := words_fv x hx
  have FX := Lib.hid fx
  have FP := Lib.hid hpc
  rw [fx, ← hb]
  unfold modV
  clear fx hpc hx hp hb
  go_enter Try.func41, Try.ntmps41
  go_wp2_with (first | ((with_reducible refine here_load (d := some 5) ?_); refine wpList_load_fv rfl _ _ rfl (w.heap.size + 1) rfl (x) _ _ _ (blk_new2 w _ _ _) (FX.out) Try.underlying27 rfl (by kernel_rfl) ?_) | ((with_reducible refine here_load (d := some 7) ?_); refine wpList_load_part rfl _ _ rfl w.heap.size rfl p [.int .u64 13822214165235122497, .int .u64 13451932020343611451, .int .u64 18446744073709551614, .int .u64 18446744073709551615] _ (mod_range ((Blk.new w _ _).alloc _)) FP.out Try.underlying27 rfl (by kernel_rfl) ?_))
  refine (cb _).mono ?_
  rintro e w1 ⟨rfl, k1⟩
  go_wp2
  go_ret
  exact ⟨rfl, Below.gr (below_alloc2 w _ _) k1⟩
end Go.Proofs.Ytajjjdmjlloifaa.Sc
