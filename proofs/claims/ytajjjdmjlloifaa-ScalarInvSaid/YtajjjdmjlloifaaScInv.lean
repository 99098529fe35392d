/-
  scalar.Inv.
-/
import Derived.Test.YtajjjdmjlloifaaScMul
namespace Go.Proofs.Ytajjjdmjlloifaa.Sc
open Go.RowKit Go.Lib

def pwI (x e : Nat) : Nat := x ^ e % pM
theorem pwI_lt (x e : Nat) : pwI x e < 115792089237316195423570985008687907853269984665640564039457584007913129639936 := mod_lt _
/-- squared so many times -/
def sqI (x : Nat) : Nat → Nat
  | 0 => x
  | n + 1 => mulP (sqI x n) (sqI x n)
theorem sqI_lt (x n : Nat) (hx : x < 115792089237316195423570985008687907853269984665640564039457584007913129639936) : sqI x n < 115792089237316195423570985008687907853269984665640564039457584007913129639936 := by
  cases n with
  | zero => exact hx
  | succ n => exact mulP_lt _ _
theorem sqI_mod (x : Nat) : ∀ n, sqI x n % pM = x ^ (2 ^ n) % pM
  | 0 => by rw [Nat.pow_zero, Nat.pow_one]; rfl
  | n + 1 => by
    rw [sqI, mulP, Nat.mod_mod, Nat.mul_mod, sqI_mod x n, ← Nat.mul_mod, ← Nat.pow_add, Nat.pow_succ, Nat.mul_two]
theorem pwI_step (x e n : Nat) : mulP (pwI x e) (sqI x n) = pwI x (e + 2 ^ n) := by
  unfold mulP pwI
  rw [Nat.mod_mul_mod, Nat.mul_mod, sqI_mod, ← Nat.mul_mod, ← Nat.pow_add]
theorem pwI_zero (x : Nat) : pwI x 0 = 1 := by unfold pwI; rw [Nat.pow_zero]; decide
theorem div_bit (a r s : Nat) (hs : s ≤ 63) : (a + 18446744073709551616 * r) / 2 ^ s % 2 = a / 2 ^ s % 2 := by
  obtain ⟨u, hu⟩ : ∃ u, 2 ^ s * (2 * u) = 18446744073709551616 := by
    refine ⟨2 ^ (63 - s), ?_⟩
    have : 2 ^ s * 2 ^ (63 - s) = 2 ^ 63 := by rw [← Nat.pow_add]; congr 1; omega
    rw [show (2 : Nat) * 2 ^ (63 - s) = 2 ^ (63 - s) * 2 from Nat.mul_comm _ _, ← Nat.mul_assoc, this]
  rw [← hu, Nat.mul_assoc, Nat.add_mul_div_left _ _ (Nat.two_pow_pos s), Nat.mul_assoc, Nat.add_mul_mod_self_left]
/-- one binary digit more -/
theorem low_bit (e i s w r : Nat) (hz : e / 2 ^ (64 * i) = w + 18446744073709551616 * r) (hs : s ≤ 63) : e % 2 ^ (64 * i + (s + 1)) = e % 2 ^ (64 * i + s) + 2 ^ (64 * i + s) * (w / 2 ^ s % 2) := by
  have h1 : e / 2 ^ (64 * i + s) % 2 = w / 2 ^ s % 2 := by
    rw [Nat.pow_add, ← Nat.div_div_eq_div_mul, hz, div_bit w r s hs]
  rw [← h1, ← Nat.add_assoc, Nat.pow_succ, Nat.mod_mul]
theorem add_mul_z (a b : Nat) : a + b * 0 = a := rfl
theorem add_mul_o (a b : Nat) : a + b * 1 = a + b := by rw [Nat.mul_one]
theorem and_shr (e s : Nat) (he : e < 18446744073709551616) : bits .and .u64 ((e : Int) / 2 ^ s) 1 = ((e / 2 ^ s % 2 : Nat) : Int) := by
  have h : ((e : Int) / 2 ^ s) = ((e / 2 ^ s : Nat) : Int) := by simp
  rw [h]
  exact and_one _ (Nat.lt_of_le_of_lt (Nat.div_le_self _ _) he)

set_option maxHeartbeats 8000000 in
set_option maxRecDepth 100000 in
theorem inv_any (w : World) (x : Nat) (hx : x < 115792089237316195423570985008687907853269984665640564039457584007913129639936) : Calls Try.prog 34 #[fv x] w fun e w' => e = .returned (fv (pwI x (115792089237316195423570985008687907852837564279074904382605163141518161494337 - 2))) ∧ Below w.heap.size w w' := by
  obtain ⟨o, ho⟩ : ∃ o, o = 115792089237316195423570985008687907852837564279074904382605163141518161494337 := ⟨_, rfl⟩
  obtain ⟨two, h2⟩ : ∃ n, n = 2 := ⟨_, rfl⟩
  obtain ⟨one, h1⟩ : ∃ n, n = 1 := ⟨_, rfl⟩
  obtain ⟨e, he⟩ : ∃ e, e = 115792089237316195423570985008687907852837564279074904382605163141518161494337 - 2 := ⟨_, rfl⟩
  rw [← he]
  have lo : o < 115792089237316195423570985008687907853269984665640564039457584007913129639936 := by omega
  have le : e < 115792089237316195423570985008687907853269984665640564039457584007913129639936 := by omega
  have co := fun w => order_at w o ho
  have c2 : ∀ w, Calls Try.prog 36 #[.int .u64 2] w fun e w' => e = .returned (fv two) ∧ Below w.heap.size w w' := fun w => of_at w two 2 (by rw [h2]; rfl) (by omega)
  have c1 : ∀ w, Calls Try.prog 36 #[.int .u64 1] w fun e w' => e = .returned (fv one) ∧ Below w.heap.size w w' := fun w => of_at w one 1 (by rw [h1]; rfl) (by omega)
  have cm : ∀ w, Calls Try.prog 67 #[fv o, fv two] w fun r w' => r = .returned (.tuple #[fv e, .int .u64 ((0 : Nat) : Int)]) ∧ Below w.heap.size w w' := fun w => minus_fv w o two e 0 lo (by omega) le (by omega)
  obtain ⟨e0, e1, e2, e3, b0, b1, b2, b3, ee, fe⟩ := words_of e le
  have n0 := fun s hs => low_bit e 0 s e0 (e1 + 18446744073709551616 * e2 + 340282366920938463463374607431768211456 * e3) (by omega) hs
  have n1 := fun s hs => low_bit e 1 s e1 (e2 + 18446744073709551616 * e3) (by omega) hs
  have n2 := fun s hs => low_bit e 2 s e2 e3 (by omega) hs
  have n3 := fun s hs => low_bit e 3 s e3 0 (by omega) hs
  have HN := Lib.hid (And.intro n0 (And.intro n1 (And.intro n2 n3)))
  have HB := Lib.hid (And.intro b0 (And.intro b1 (And.intro b2 b3)))
  have HE : Hid (e % 2 ^ (64 * 0) = 0 ∧ e % 2 ^ (64 * 3 + 64) = e) := Lib.hid ⟨by omega, by omega⟩
  have FE := Lib.hid fe
  have H1 := Lib.hid h1
  obtain ⟨x0, x1, x2, x3, fx⟩ := words_fv x hx
  have FX := Lib.hid fx
  have HX := Lib.hid hx
  rw [fx]
  clear fx hx ho h2 h1 he lo le b0 b1 b2 b3 ee fe n0 n1 n2 n3
  go_enter Try.func34, Try.ntmps34
  go_wp2_with fail
  refine (co _).mono ?_
  rintro r w1 ⟨rfl, k1⟩
  go_wp2_with fail
  refine (c2 _).mono ?_
  rintro r w2 ⟨rfl, k2⟩
  go_wp2_with fail
  refine (cm _).mono ?_
  rintro r w3 ⟨rfl, k3⟩
  have BX := Gr.blk k3 (Gr.blk k2 (Gr.blk k1 ((Blk.new w _ _).alloc _)))
  have BR := Gr.blk k3 (Gr.blk k2 (Gr.blk k1 (blk_new2 w _ _ _)))
  have hB := Below.gr (Below.gr (Below.gr (below_alloc2 w _ _) k1) k2) k3
  have sz3 : w.heap.size + 1 < w3.heap.size := BR.lt
  clear k1 k2 k3 co c2 cm
  go_wp2_with (first | ((with_reducible refine here_store ?_); refine wpList_store_blk rfl _ _ _ rfl (w3.heap.size) (fcs (e)) rfl rfl _ _ (Blk.new w3 _ _) (by kernel_rfl) (by rfl) (fcs_one _) ?_; intro w4 hL4 hq4 hK4; have BX4 := hK4 _ (by omega) _ _ (BX.alloc _); have BR4 := hK4 _ (by omega) _ _ (BR.alloc _); have hB4 := (hB.alloc (by omega) _).trans (hq4 _ (by omega))))
  refine (c1 _).mono ?_
  rintro r w5 ⟨rfl, k1⟩
  have BX := Gr.blk k1 BX4
  have BR := Gr.blk k1 BR4
  have BE := Gr.blk k1 hL4
  have hB := Below.gr hB4 k1
  have sz5 : w3.heap.size < w5.heap.size := BE.lt
  clear k1 c1
  go_wp2_with (first | ((with_reducible refine here_store ?_); refine wpList_store_blk rfl _ _ _ rfl (w5.heap.size) (fcs (one)) rfl rfl _ _ (Blk.new w5 _ _) (by kernel_rfl) (by rfl) (fcs_one _) ?_; intro w6 hL6 hq6 hK6; have BX6 := hK6 _ (by omega) _ _ (BX.alloc _); have BR6 := hK6 _ (by omega) _ _ (BR.alloc _); have BE6 := hK6 _ (by omega) _ _ (BE.alloc _); have hB6 := (hB.alloc (by omega) _).trans (hq6 _ (by omega))) | ((with_reducible refine here_load (d := some 16) ?_); refine wpList_load_fv rfl _ _ rfl (w3.heap.size) rfl (e) _ _ _ (BE6) (fv_fcs e) Try.underlying36 rfl (by kernel_rfl) ?_))
  have BXa : Blk w6 w.heap.size 36 (fcs x) := BX6.eq_ (fcs_words FX.out).symm
  have BPa : Blk w6 w5.heap.size 36 (fcs (pwI x (e % 2 ^ (64 * 0)))) := hL6.eq_ (by rw [HE.out.1, pwI_zero, H1.out])
  clear BX6 hL6
  rw [FE.out]
  have ie0 : ∀ W, (Instr.index 36 (.agg #[.int .u64 (e0 : Int), .int .u64 (e1 : Int), .int .u64 (e2 : Int), .int .u64 (e3 : Int)]) (.int .i64 0)).run Try.prog W = .ok (.int .u64 (e0 : Int)) W := fun W => by kernel_rfl
  have ie1 : ∀ W, (Instr.index 36 (.agg #[.int .u64 (e0 : Int), .int .u64 (e1 : Int), .int .u64 (e2 : Int), .int .u64 (e3 : Int)]) (.int .i64 1)).run Try.prog W = .ok (.int .u64 (e1 : Int)) W := fun W => by kernel_rfl
  have ie2 : ∀ W, (Instr.index 36 (.agg #[.int .u64 (e0 : Int), .int .u64 (e1 : Int), .int .u64 (e2 : Int), .int .u64 (e3 : Int)]) (.int .i64 2)).run Try.prog W = .ok (.int .u64 (e2 : Int)) W := fun W => by kernel_rfl
  have ie3 : ∀ W, (Instr.index 36 (.agg #[.int .u64 (e0 : Int), .int .u64 (e1 : Int), .int .u64 (e2 : Int), .int .u64 (e3 : Int)]) (.int .i64 3)).run Try.prog W = .ok (.int .u64 (e3 : Int)) W := fun W => by kernel_rfl
  go_loopw [17] (fun i wr => Below w.heap.size w wr ∧ Blk wr (w.heap.size + 1) 36 #[.int .u64 0, .int .u64 0, .int .u64 0, .int .u64 0] ∧ Hid ((i = .int .i64 0 ∧ Blk wr w.heap.size 36 (fcs x) ∧ Blk wr w5.heap.size 36 (fcs (pwI x (e % 2 ^ (64 * 0))))) ∨ (i = .int .i64 1 ∧ Blk wr w.heap.size 36 (fcs (sqI x (64 * 1))) ∧ Blk wr w5.heap.size 36 (fcs (pwI x (e % 2 ^ (64 * 1))))) ∨ (i = .int .i64 2 ∧ Blk wr w.heap.size 36 (fcs (sqI x (64 * 2))) ∧ Blk wr w5.heap.size 36 (fcs (pwI x (e % 2 ^ (64 * 2))))) ∨ (i = .int .i64 3 ∧ Blk wr w.heap.size 36 (fcs (sqI x (64 * 3))) ∧ Blk wr w5.heap.size 36 (fcs (pwI x (e % 2 ^ (64 * 3))))) ∨ (i = .int .i64 4 ∧ Blk wr w.heap.size 36 (fcs (sqI x (64 * 3 + 64))) ∧ Blk wr w5.heap.size 36 (fcs (pwI x (e % 2 ^ (64 * 3 + 64))))))) (fun i _ => 4 - (intOf i).toNat)
  case atStart => exact ⟨hB6, BR6, Lib.hid (.inl ⟨rfl, BXa, BPa⟩)⟩
  case round =>
    obtain ⟨hb, BR, HI⟩ := hrel
    rcases HI.out with ⟨rfl, BX, BP⟩ | ⟨rfl, BX, BP⟩ | ⟨rfl, BX, BP⟩ | ⟨rfl, BX, BP⟩ | ⟨rfl, BX, BP⟩
    · clear HI
      go_wp2_with fail
      go_loopw [20] (fun jv wr => ∃ t av pv : Nat, t ≤ 64 ∧ jv = .int .i64 (t : Int) ∧ Hid (av = sqI x (64 * 0 + t) ∧ pv = pwI x (e % 2 ^ (64 * 0 + t))) ∧ Below w.heap.size w wr ∧ Blk wr (w.heap.size + 1) 36 #[.int .u64 0, .int .u64 0, .int .u64 0, .int .u64 0] ∧ Blk wr w.heap.size 36 (fcs av) ∧ Blk wr w5.heap.size 36 (fcs pv)) (fun jv _ => 64 - (intOf jv).toNat)
      case atStart => exact ⟨0, _, _, by omega, rfl, Lib.hid ⟨rfl, rfl⟩, hb, BR, BX, BP⟩
      case round =>
        clear hb BR BX BP
        obtain ⟨t, av, pv, ht, rfl, HV, hb, BR, BX, BP⟩ := hrel
        by_cases hlt : t < 64
        · have p1 : (t : Int) < 64 := by omega
          have lav : av < 115792089237316195423570985008687907853269984665640564039457584007913129639936 := by rw [HV.out.1]; exact sqI_lt x _ HX.out
          have lpv : pv < 115792089237316195423570985008687907853269984665640564039457584007913129639936 := by rw [HV.out.2]; exact pwI_lt _ _
          obtain ⟨m, hm⟩ : ∃ m, m = e0 / 2 ^ t % 2 := ⟨_, rfl⟩
          have ha : bits .and .u64 ((e0 : Int) / 2 ^ t) 1 = (m : Int) := by rw [hm]; exact and_shr e0 t HB.out.1
          have hml : m < 2 := by omega
          obtain ⟨sv, hsv⟩ : ∃ s, s = mulP av av := ⟨_, rfl⟩
          obtain ⟨qv', hqv⟩ : ∃ s, s = mulP pv av := ⟨_, rfl⟩
          have cS : ∀ w, Calls Try.prog 32 #[fv av, fv av] w fun r w' => r = .returned (fv sv) ∧ Below w.heap.size w w' := by
            intro w; rw [hsv]; exact mulF_any w av av lav lav
          have cP : ∀ w, Calls Try.prog 32 #[fv pv, fv av] w fun r w' => r = .returned (fv qv') ∧ Below w.heap.size w w' := by
            intro w; rw [hqv]; exact mulF_any w pv av lpv lav
          have hd := HN.out.1 t (by omega)
          have hs1 : sv = sqI x (64 * 0 + (t + 1)) := by rw [hsv, HV.out.1]; rfl
          have hp0 : m = 0 → pv = pwI x (e % 2 ^ (64 * 0 + (t + 1))) := fun h => by rw [hd, ← hm, h, add_mul_z]; exact HV.out.2
          have hp1 : m = 1 → qv' = pwI x (e % 2 ^ (64 * 0 + (t + 1))) := fun h => by rw [hd, ← hm, h, add_mul_o, ← pwI_step, hqv, HV.out.1, HV.out.2]
          have HP := Lib.hid (And.intro hs1 (And.intro hp0 (And.intro hp1 hlt)))
          have lX := BX.lt
          have lP := BP.lt
          have szp : w3.heap.size < w5.heap.size := sz5
          clear hm hsv hqv lav lpv hd hs1 hp0 hp1 hlt ht
          rcases (show m = 0 ∨ m = 1 by omega) with rfl | rfl
          · clear cP hml
            go_wp2_with (first | ((with_reducible refine here_load (d := some 31) ?_); refine wpList_load_fv rfl _ _ rfl (w.heap.size) rfl (av) _ _ _ (BX) (fv_fcs _) Try.underlying36 rfl (by kernel_rfl) ?_) | ((with_reducible refine here_load (d := some 32) ?_); refine wpList_load_fv rfl _ _ rfl (w.heap.size) rfl (av) _ _ _ (BX) (fv_fcs _) Try.underlying36 rfl (by kernel_rfl) ?_))
            refine (cS _).mono ?_
            rintro r u ⟨rfl, gu⟩
            have CX := Gr.blk gu BX
            have CP := Gr.blk gu BP
            have CR := Gr.blk gu BR
            have hbu := Below.gr hb gu
            clear gu cS BX BP BR hb ha
            go_wp2_with (first | ((with_reducible refine here_store ?_); refine wpList_store_blk rfl _ _ _ rfl (w.heap.size) (fcs (sv)) rfl rfl _ _ (CX) (by kernel_rfl) (by rfl) (fcs_one _) ?_; intro u9 hL9 hq9 hK9))
            go_roundw
            case rel => exact ⟨t + 1, sv, pv, by have := HP.out.2.2.2; omega, by simp, Lib.hid ⟨HP.out.1, HP.out.2.1 (by simp)⟩, hbu.trans (hq9 _ (by omega)), hK9 _ (by omega) _ _ CR, hL9, hK9 _ (by omega) _ _ CP⟩
            case measure => have := HP.out.2.2.2; simp [intOf]; omega
          · clear hml
            go_wp2_with (first | ((with_reducible refine here_load (d := some 28) ?_); refine wpList_load_fv rfl _ _ rfl (w5.heap.size) rfl (pv) _ _ _ (BP) (fv_fcs _) Try.underlying36 rfl (by kernel_rfl) ?_) | ((with_reducible refine here_load (d := some 29) ?_); refine wpList_load_fv rfl _ _ rfl (w.heap.size) rfl (av) _ _ _ (BX) (fv_fcs _) Try.underlying36 rfl (by kernel_rfl) ?_))
            refine (cP _).mono ?_
            rintro r u ⟨rfl, gu⟩
            have CX := Gr.blk gu BX
            have CP := Gr.blk gu BP
            have CR := Gr.blk gu BR
            have hbu := Below.gr hb gu
            clear gu cP BX BP BR hb ha
            go_wp2_with (first | ((with_reducible refine here_store ?_); refine wpList_store_blk rfl _ _ _ rfl (w5.heap.size) (fcs (qv')) rfl rfl _ _ (CP) (by kernel_rfl) (by rfl) (fcs_one _) ?_; intro u8 hL8 hq8 hK8; have DX := hK8 _ (by omega) _ _ CX; have DR := hK8 _ (by omega) _ _ CR; have hb8 := hbu.trans (hq8 _ (by omega))) | ((with_reducible refine here_load (d := some 31) ?_); refine wpList_load_fv rfl _ _ rfl (w.heap.size) rfl (av) _ _ _ (DX) (fv_fcs _) Try.underlying36 rfl (by kernel_rfl) ?_) | ((with_reducible refine here_load (d := some 32) ?_); refine wpList_load_fv rfl _ _ rfl (w.heap.size) rfl (av) _ _ _ (DX) (fv_fcs _) Try.underlying36 rfl (by kernel_rfl) ?_))
            refine (cS _).mono ?_
            rintro r u2 ⟨rfl, gu⟩
            have EX := Gr.blk gu DX
            have EP := Gr.blk gu hL8
            have ER := Gr.blk gu DR
            have hbe := Below.gr hb8 gu
            clear gu cS DX hL8 DR hb8
            go_wp2_with (first | ((with_reducible refine here_store ?_); refine wpList_store_blk rfl _ _ _ rfl (w.heap.size) (fcs (sv)) rfl rfl _ _ (EX) (by kernel_rfl) (by rfl) (fcs_one _) ?_; intro u9 hL9 hq9 hK9))
            go_roundw
            case rel => exact ⟨t + 1, sv, qv', by have := HP.out.2.2.2; omega, by simp, Lib.hid ⟨HP.out.1, HP.out.2.2.1 (by simp)⟩, hbe.trans (hq9 _ (by omega)), hK9 _ (by omega) _ _ ER, hL9, hK9 _ (by omega) _ _ EP⟩
            case measure => have := HP.out.2.2.2; simp [intOf]; omega
        · have p1 : ¬ (t : Int) < 64 := by omega
          obtain rfl : t = 64 := by omega
          have BXn : Blk wr w.heap.size 36 (fcs (sqI x (64 * 1))) := BX.eq_ (by rw [HV.out.1])
          have BPn : Blk wr w5.heap.size 36 (fcs (pwI x (e % 2 ^ (64 * 1)))) := BP.eq_ (by rw [HV.out.2])
          clear BX BP HV hlt ht
          go_wp2
          refine ⟨⟨hb, BR, Lib.hid (.inr (.inl (⟨rfl, BXn, BPn⟩)))⟩, by decide⟩
    · clear HI
      go_wp2_with fail
      go_loopw [20] (fun jv wr => ∃ t av pv : Nat, t ≤ 64 ∧ jv = .int .i64 (t : Int) ∧ Hid (av = sqI x (64 * 1 + t) ∧ pv = pwI x (e % 2 ^ (64 * 1 + t))) ∧ Below w.heap.size w wr ∧ Blk wr (w.heap.size + 1) 36 #[.int .u64 0, .int .u64 0, .int .u64 0, .int .u64 0] ∧ Blk wr w.heap.size 36 (fcs av) ∧ Blk wr w5.heap.size 36 (fcs pv)) (fun jv _ => 64 - (intOf jv).toNat)
      case atStart => exact ⟨0, _, _, by omega, rfl, Lib.hid ⟨rfl, rfl⟩, hb, BR, BX, BP⟩
      case round =>
        clear hb BR BX BP
        obtain ⟨t, av, pv, ht, rfl, HV, hb, BR, BX, BP⟩ := hrel
        by_cases hlt : t < 64
        · have p1 : (t : Int) < 64 := by omega
          have lav : av < 115792089237316195423570985008687907853269984665640564039457584007913129639936 := by rw [HV.out.1]; exact sqI_lt x _ HX.out
          have lpv : pv < 115792089237316195423570985008687907853269984665640564039457584007913129639936 := by rw [HV.out.2]; exact pwI_lt _ _
          obtain ⟨m, hm⟩ : ∃ m, m = e1 / 2 ^ t % 2 := ⟨_, rfl⟩
          have ha : bits .and .u64 ((e1 : Int) / 2 ^ t) 1 = (m : Int) := by rw [hm]; exact and_shr e1 t HB.out.2.1
          have hml : m < 2 := by omega
          obtain ⟨sv, hsv⟩ : ∃ s, s = mulP av av := ⟨_, rfl⟩
          obtain ⟨qv', hqv⟩ : ∃ s, s = mulP pv av := ⟨_, rfl⟩
          have cS : ∀ w, Calls Try.prog 32 #[fv av, fv av] w fun r w' => r = .returned (fv sv) ∧ Below w.heap.size w w' := by
            intro w; rw [hsv]; exact mulF_any w av av lav lav
          have cP : ∀ w, Calls Try.prog 32 #[fv pv, fv av] w fun r w' => r = .returned (fv qv') ∧ Below w.heap.size w w' := by
            intro w; rw [hqv]; exact mulF_any w pv av lpv lav
          have hd := HN.out.2.1 t (by omega)
          have hs1 : sv = sqI x (64 * 1 + (t + 1)) := by rw [hsv, HV.out.1]; rfl
          have hp0 : m = 0 → pv = pwI x (e % 2 ^ (64 * 1 + (t + 1))) := fun h => by rw [hd, ← hm, h, add_mul_z]; exact HV.out.2
          have hp1 : m = 1 → qv' = pwI x (e % 2 ^ (64 * 1 + (t + 1))) := fun h => by rw [hd, ← hm, h, add_mul_o, ← pwI_step, hqv, HV.out.1, HV.out.2]
          have HP := Lib.hid (And.intro hs1 (And.intro hp0 (And.intro hp1 hlt)))
          have lX := BX.lt
          have lP := BP.lt
          have szp : w3.heap.size < w5.heap.size := sz5
          clear hm hsv hqv lav lpv hd hs1 hp0 hp1 hlt ht
          rcases (show m = 0 ∨ m = 1 by omega) with rfl | rfl
          · clear cP hml
            go_wp2_with (first | ((with_reducible refine here_load (d := some 31) ?_); refine wpList_load_fv rfl _ _ rfl (w.heap.size) rfl (av) _ _ _ (BX) (fv_fcs _) Try.underlying36 rfl (by kernel_rfl) ?_) | ((with_reducible refine here_load (d := some 32) ?_); refine wpList_load_fv rfl _ _ rfl (w.heap.size) rfl (av) _ _ _ (BX) (fv_fcs _) Try.underlying36 rfl (by kernel_rfl) ?_))
            refine (cS _).mono ?_
            rintro r u ⟨rfl, gu⟩
            have CX := Gr.blk gu BX
            have CP := Gr.blk gu BP
            have CR := Gr.blk gu BR
            have hbu := Below.gr hb gu
            clear gu cS BX BP BR hb ha
            go_wp2_with (first | ((with_reducible refine here_store ?_); refine wpList_store_blk rfl _ _ _ rfl (w.heap.size) (fcs (sv)) rfl rfl _ _ (CX) (by kernel_rfl) (by rfl) (fcs_one _) ?_; intro u9 hL9 hq9 hK9))
            go_roundw
            case rel => exact ⟨t + 1, sv, pv, by have := HP.out.2.2.2; omega, by simp, Lib.hid ⟨HP.out.1, HP.out.2.1 (by simp)⟩, hbu.trans (hq9 _ (by omega)), hK9 _ (by omega) _ _ CR, hL9, hK9 _ (by omega) _ _ CP⟩
            case measure => have := HP.out.2.2.2; simp [intOf]; omega
          · clear hml
            go_wp2_with (first | ((with_reducible refine here_load (d := some 28) ?_); refine wpList_load_fv rfl _ _ rfl (w5.heap.size) rfl (pv) _ _ _ (BP) (fv_fcs _) Try.underlying36 rfl (by kernel_rfl) ?_) | ((with_reducible refine here_load (d := some 29) ?_); refine wpList_load_fv rfl _ _ rfl (w.heap.size) rfl (av) _ _ _ (BX) (fv_fcs _) Try.underlying36 rfl (by kernel_rfl) ?_))
            refine (cP _).mono ?_
            rintro r u ⟨rfl, gu⟩
            have CX := Gr.blk gu BX
            have CP := Gr.blk gu BP
            have CR := Gr.blk gu BR
            have hbu := Below.gr hb gu
            clear gu cP BX BP BR hb ha
            go_wp2_with (first | ((with_reducible refine here_store ?_); refine wpList_store_blk rfl _ _ _ rfl (w5.heap.size) (fcs (qv')) rfl rfl _ _ (CP) (by kernel_rfl) (by rfl) (fcs_one _) ?_; intro u8 hL8 hq8 hK8; have DX := hK8 _ (by omega) _ _ CX; have DR := hK8 _ (by omega) _ _ CR; have hb8 := hbu.trans (hq8 _ (by omega))) | ((with_reducible refine here_load (d := some 31) ?_); refine wpList_load_fv rfl _ _ rfl (w.heap.size) rfl (av) _ _ _ (DX) (fv_fcs _) Try.underlying36 rfl (by kernel_rfl) ?_) | ((with_reducible refine here_load (d := some 32) ?_); refine wpList_load_fv rfl _ _ rfl (w.heap.size) rfl (av) _ _ _ (DX) (fv_fcs _) Try.underlying36 rfl (by kernel_rfl) ?_))
            refine (cS _).mono ?_
            rintro r u2 ⟨rfl, gu⟩
            have EX := Gr.blk gu DX
            have EP := Gr.blk gu hL8
            have ER := Gr.blk gu DR
            have hbe := Below.gr hb8 gu
            clear gu cS DX hL8 DR hb8
            go_wp2_with (first | ((with_reducible refine here_store ?_); refine wpList_store_blk rfl _ _ _ rfl (w.heap.size) (fcs (sv)) rfl rfl _ _ (EX) (by kernel_rfl) (by rfl) (fcs_one _) ?_; intro u9 hL9 hq9 hK9))
            go_roundw
            case rel => exact ⟨t + 1, sv, qv', by have := HP.out.2.2.2; omega, by simp, Lib.hid ⟨HP.out.1, HP.out.2.2.1 (by simp)⟩, hbe.trans (hq9 _ (by omega)), hK9 _ (by omega) _ _ ER, hL9, hK9 _ (by omega) _ _ EP⟩
            case measure => have := HP.out.2.2.2; simp [intOf]; omega
        · have p1 : ¬ (t : Int) < 64 := by omega
          obtain rfl : t = 64 := by omega
          have BXn : Blk wr w.heap.size 36 (fcs (sqI x (64 * 2))) := BX.eq_ (by rw [HV.out.1])
          have BPn : Blk wr w5.heap.size 36 (fcs (pwI x (e % 2 ^ (64 * 2)))) := BP.eq_ (by rw [HV.out.2])
          clear BX BP HV hlt ht
          go_wp2
          refine ⟨⟨hb, BR, Lib.hid (.inr (.inr (.inl (⟨rfl, BXn, BPn⟩))))⟩, by decide⟩
    · clear HI
      go_wp2_with fail
      go_loopw [20] (fun jv wr => ∃ t av pv : Nat, t ≤ 64 ∧ jv = .int .i64 (t : Int) ∧ Hid (av = sqI x (64 * 2 + t) ∧ pv = pwI x (e % 2 ^ (64 * 2 + t))) ∧ Below w.heap.size w wr ∧ Blk wr (w.heap.size + 1) 36 #[.int .u64 0, .int .u64 0, .int .u64 0, .int .u64 0] ∧ Blk wr w.heap.size 36 (fcs av) ∧ Blk wr w5.heap.size 36 (fcs pv)) (fun jv _ => 64 - (intOf jv).toNat)
      case atStart => exact ⟨0, _, _, by omega, rfl, Lib.hid ⟨rfl, rfl⟩, hb, BR, BX, BP⟩
      case round =>
        clear hb BR BX BP
        obtain ⟨t, av, pv, ht, rfl, HV, hb, BR, BX, BP⟩ := hrel
        by_cases hlt : t < 64
        · have p1 : (t : Int) < 64 := by omega
          have lav : av < 115792089237316195423570985008687907853269984665640564039457584007913129639936 := by rw [HV.out.1]; exact sqI_lt x _ HX.out
          have lpv : pv < 115792089237316195423570985008687907853269984665640564039457584007913129639936 := by rw [HV.out.2]; exact pwI_lt _ _
          obtain ⟨m, hm⟩ : ∃ m, m = e2 / 2 ^ t % 2 := ⟨_, rfl⟩
          have ha : bits .and .u64 ((e2 : Int) / 2 ^ t) 1 = (m : Int) := by rw [hm]; exact and_shr e2 t HB.out.2.2.1
          have hml : m < 2 := by omega
          obtain ⟨sv, hsv⟩ : ∃ s, s = mulP av av := ⟨_, rfl⟩
          obtain ⟨qv', hqv⟩ : ∃ s, s = mulP pv av := ⟨_, rfl⟩
          have cS : ∀ w, Calls Try.prog 32 #[fv av, fv av] w fun r w' => r = .returned (fv sv) ∧ Below w.heap.size w w' := by
            intro w; rw [hsv]; exact mulF_any w av av lav lav
          have cP : ∀ w, Calls Try.prog 32 #[fv pv, fv av] w fun r w' => r = .returned (fv qv') ∧ Below w.heap.size w w' := by
            intro w; rw [hqv]; exact mulF_any w pv av lpv lav
          have hd := HN.out.2.2.1 t (by omega)
          have hs1 : sv = sqI x (64 * 2 + (t + 1)) := by rw [hsv, HV.out.1]; rfl
          have hp0 : m = 0 → pv = pwI x (e % 2 ^ (64 * 2 + (t + 1))) := fun h => by rw [hd, ← hm, h, add_mul_z]; exact HV.out.2
          have hp1 : m = 1 → qv' = pwI x (e % 2 ^ (64 * 2 + (t + 1))) := fun h => by rw [hd, ← hm, h, add_mul_o, ← pwI_step, hqv, HV.out.1, HV.out.2]
          have HP := Lib.hid (And.intro hs1 (And.intro hp0 (And.intro hp1 hlt)))
          have lX := BX.lt
          have lP := BP.lt
          have szp : w3.heap.size < w5.heap.size := sz5
          clear hm hsv hqv lav lpv hd hs1 hp0 hp1 hlt ht
          rcases (show m = 0 ∨ m = 1 by omega) with rfl | rfl
          · clear cP hml
            go_wp2_with (first | ((with_reducible refine here_load (d := some 31) ?_); refine wpList_load_fv rfl _ _ rfl (w.heap.size) rfl (av) _ _ _ (BX) (fv_fcs _) Try.underlying36 rfl (by kernel_rfl) ?_) | ((with_reducible refine here_load (d := some 32) ?_); refine wpList_load_fv rfl _ _ rfl (w.heap.size) rfl (av) _ _ _ (BX) (fv_fcs _) Try.underlying36 rfl (by kernel_rfl) ?_))
            refine (cS _).mono ?_
            rintro r u ⟨rfl, gu⟩
            have CX := Gr.blk gu BX
            have CP := Gr.blk gu BP
            have CR := Gr.blk gu BR
            have hbu := Below.gr hb gu
            clear gu cS BX BP BR hb ha
            go_wp2_with (first | ((with_reducible refine here_store ?_); refine wpList_store_blk rfl _ _ _ rfl (w.heap.size) (fcs (sv)) rfl rfl _ _ (CX) (by kernel_rfl) (by rfl) (fcs_one _) ?_; intro u9 hL9 hq9 hK9))
            go_roundw
            case rel => exact ⟨t + 1, sv, pv, by have := HP.out.2.2.2; omega, by simp, Lib.hid ⟨HP.out.1, HP.out.2.1 (by simp)⟩, hbu.trans (hq9 _ (by omega)), hK9 _ (by omega) _ _ CR, hL9, hK9 _ (by omega) _ _ CP⟩
            case measure => have := HP.out.2.2.2; simp [intOf]; omega
          · clear hml
            go_wp2_with (first | ((with_reducible refine here_load (d := some 28) ?_); refine wpList_load_fv rfl _ _ rfl (w5.heap.size) rfl (pv) _ _ _ (BP) (fv_fcs _) Try.underlying36 rfl (by kernel_rfl) ?_) | ((with_reducible refine here_load (d := some 29) ?_); refine wpList_load_fv rfl _ _ rfl (w.heap.size) rfl (av) _ _ _ (BX) (fv_fcs _) Try.underlying36 rfl (by kernel_rfl) ?_))
            refine (cP _).mono ?_
            rintro r u ⟨rfl, gu⟩
            have CX := Gr.blk gu BX
            have CP := Gr.blk gu BP
            have CR := Gr.blk gu BR
            have hbu := Below.gr hb gu
            clear gu cP BX BP BR hb ha
            go_wp2_with (first | ((with_reducible refine here_store ?_); refine wpList_store_blk rfl _ _ _ rfl (w5.heap.size) (fcs (qv')) rfl rfl _ _ (CP) (by kernel_rfl) (by rfl) (fcs_one _) ?_; intro u8 hL8 hq8 hK8; have DX := hK8 _ (by omega) _ _ CX; have DR := hK8 _ (by omega) _ _ CR; have hb8 := hbu.trans (hq8 _ (by omega))) | ((with_reducible refine here_load (d := some 31) ?_); refine wpList_load_fv rfl _ _ rfl (w.heap.size) rfl (av) _ _ _ (DX) (fv_fcs _) Try.underlying36 rfl (by kernel_rfl) ?_) | ((with_reducible refine here_load (d := some 32) ?_); refine wpList_load_fv rfl _ _ rfl (w.heap.size) rfl (av) _ _ _ (DX) (fv_fcs _) Try.underlying36 rfl (by kernel_rfl) ?_))
            refine (cS _).mono ?_
            rintro r u2 ⟨rfl, gu⟩
            have EX := Gr.blk gu DX
            have EP := Gr.blk gu hL8
            have ER := Gr.blk gu DR
            have hbe := Below.gr hb8 gu
            clear gu cS DX hL8 DR hb8
            go_wp2_with (first | ((with_reducible refine here_store ?_); refine wpList_store_blk rfl _ _ _ rfl (w.heap.size) (fcs (sv)) rfl rfl _ _ (EX) (by kernel_rfl) (by rfl) (fcs_one _) ?_; intro u9 hL9 hq9 hK9))
            go_roundw
            case rel => exact ⟨t + 1, sv, qv', by have := HP.out.2.2.2; omega, by simp, Lib.hid ⟨HP.out.1, HP.out.2.2.1 (by simp)⟩, hbe.trans (hq9 _ (by omega)), hK9 _ (by omega) _ _ ER, hL9, hK9 _ (by omega) _ _ EP⟩
            case measure => have := HP.out.2.2.2; simp [intOf]; omega
        · have p1 : ¬ (t : Int) < 64 := by omega
          obtain rfl : t = 64 := by omega
          have BXn : Blk wr w.heap.size 36 (fcs (sqI x (64 * 3))) := BX.eq_ (by rw [HV.out.1])
          have BPn : Blk wr w5.heap.size 36 (fcs (pwI x (e % 2 ^ (64 * 3)))) := BP.eq_ (by rw [HV.out.2])
          clear BX BP HV hlt ht
          go_wp2
          refine ⟨⟨hb, BR, Lib.hid (.inr (.inr (.inr (.inl (⟨rfl, BXn, BPn⟩)))))⟩, by decide⟩
    · clear HI
      go_wp2_with fail
      go_loopw [20] (fun jv wr => ∃ t av pv : Nat, t ≤ 64 ∧ jv = .int .i64 (t : Int) ∧ Hid (av = sqI x (64 * 3 + t) ∧ pv = pwI x (e % 2 ^ (64 * 3 + t))) ∧ Below w.heap.size w wr ∧ Blk wr (w.heap.size + 1) 36 #[.int .u64 0, .int .u64 0, .int .u64 0, .int .u64 0] ∧ Blk wr w.heap.size 36 (fcs av) ∧ Blk wr w5.heap.size 36 (fcs pv)) (fun jv _ => 64 - (intOf jv).toNat)
      case atStart => exact ⟨0, _, _, by omega, rfl, Lib.hid ⟨rfl, rfl⟩, hb, BR, BX, BP⟩
      case round =>
        clear hb BR BX BP
        obtain ⟨t, av, pv, ht, rfl, HV, hb, BR, BX, BP⟩ := hrel
        by_cases hlt : t < 64
        · have p1 : (t : Int) < 64 := by omega
          have lav : av < 115792089237316195423570985008687907853269984665640564039457584007913129639936 := by rw [HV.out.1]; exact sqI_lt x _ HX.out
          have lpv : pv < 115792089237316195423570985008687907853269984665640564039457584007913129639936 := by rw [HV.out.2]; exact pwI_lt _ _
          obtain ⟨m, hm⟩ : ∃ m, m = e3 / 2 ^ t % 2 := ⟨_, rfl⟩
          have ha : bits .and .u64 ((e3 : Int) / 2 ^ t) 1 = (m : Int) := by rw [hm]; exact and_shr e3 t HB.out.2.2.2
          have hml : m < 2 := by omega
          obtain ⟨sv, hsv⟩ : ∃ s, s = mulP av av := ⟨_, rfl⟩
          obtain ⟨qv', hqv⟩ : ∃ s, s = mulP pv av := ⟨_, rfl⟩
          have cS : ∀ w, Calls Try.prog 32 #[fv av, fv av] w fun r w' => r = .returned (fv sv) ∧ Below w.heap.size w w' := by
            intro w; rw [hsv]; exact mulF_any w av av lav lav
          have cP : ∀ w, Calls Try.prog 32 #[fv pv, fv av] w fun r w' => r = .returned (fv qv') ∧ Below w.heap.size w w' := by
            intro w; rw [hqv]; exact mulF_any w pv av lpv lav
          have hd := HN.out.2.2.2 t (by omega)
          have hs1 : sv = sqI x (64 * 3 + (t + 1)) := by rw [hsv, HV.out.1]; rfl
          have hp0 : m = 0 → pv = pwI x (e % 2 ^ (64 * 3 + (t + 1))) := fun h => by rw [hd, ← hm, h, add_mul_z]; exact HV.out.2
          have hp1 : m = 1 → qv' = pwI x (e % 2 ^ (64 * 3 + (t + 1))) := fun h => by rw [hd, ← hm, h, add_mul_o, ← pwI_step, hqv, HV.out.1, HV.out.2]
          have HP := Lib.hid (And.intro hs1 (And.intro hp0 (And.intro hp1 hlt)))
          have lX := BX.lt
          have lP := BP.lt
          have szp : w3.heap.size < w5.heap.size := sz5
          clear hm hsv hqv lav lpv hd hs1 hp0 hp1 hlt ht
          rcases (show m = 0 ∨ m = 1 by omega) with rfl | rfl
          · clear cP hml
            go_wp2_with (first | ((with_reducible refine here_load (d := some 31) ?_); refine wpList_load_fv rfl _ _ rfl (w.heap.size) rfl (av) _ _ _ (BX) (fv_fcs _) Try.underlying36 rfl (by kernel_rfl) ?_) | ((with_reducible refine here_load (d := some 32) ?_); refine wpList_load_fv rfl _ _ rfl (w.heap.size) rfl (av) _ _ _ (BX) (fv_fcs _) Try.underlying36 rfl (by kernel_rfl) ?_))
            refine (cS _).mono ?_
            rintro r u ⟨rfl, gu⟩
            have CX := Gr.blk gu BX
            have CP := Gr.blk gu BP
            have CR := Gr.blk gu BR
            have hbu := Below.gr hb gu
            clear gu cS BX BP BR hb ha
            go_wp2_with (first | ((with_reducible refine here_store ?_); refine wpList_store_blk rfl _ _ _ rfl (w.heap.size) (fcs (sv)) rfl rfl _ _ (CX) (by kernel_rfl) (by rfl) (fcs_one _) ?_; intro u9 hL9 hq9 hK9))
            go_roundw
            case rel => exact ⟨t + 1, sv, pv, by have := HP.out.2.2.2; omega, by simp, Lib.hid ⟨HP.out.1, HP.out.2.1 (by simp)⟩, hbu.trans (hq9 _ (by omega)), hK9 _ (by omega) _ _ CR, hL9, hK9 _ (by omega) _ _ CP⟩
            case measure => have := HP.out.2.2.2; simp [intOf]; omega
          · clear hml
            go_wp2_with (first | ((with_reducible refine here_load (d := some 28) ?_); refine wpList_load_fv rfl _ _ rfl (w5.heap.size) rfl (pv) _ _ _ (BP) (fv_fcs _) Try.underlying36 rfl (by kernel_rfl) ?_) | ((with_reducible refine here_load (d := some 29) ?_); refine wpList_load_fv rfl _ _ rfl (w.heap.size) rfl (av) _ _ _ (BX) (fv_fcs _) Try.underlying36 rfl (by kernel_rfl) ?_))
            refine (cP _).mono ?_
            rintro r u ⟨rfl, gu⟩
            have CX := Gr.blk gu BX
            have CP := Gr.blk gu BP
            have CR := Gr.blk gu BR
            have hbu := Below.gr hb gu
            clear gu cP BX BP BR hb ha
            go_wp2_with (first | ((with_reducible refine here_store ?_); refine wpList_store_blk rfl _ _ _ rfl (w5.heap.size) (fcs (qv')) rfl rfl _ _ (CP) (by kernel_rfl) (by rfl) (fcs_one _) ?_; intro u8 hL8 hq8 hK8; have DX := hK8 _ (by omega) _ _ CX; have DR := hK8 _ (by omega) _ _ CR; have hb8 := hbu.trans (hq8 _ (by omega))) | ((with_reducible refine here_load (d := some 31) ?_); refine wpList_load_fv rfl _ _ rfl (w.heap.size) rfl (av) _ _ _ (DX) (fv_fcs _) Try.underlying36 rfl (by kernel_rfl) ?_) | ((with_reducible refine here_load (d := some 32) ?_); refine wpList_load_fv rfl _ _ rfl (w.heap.size) rfl (av) _ _ _ (DX) (fv_fcs _) Try.underlying36 rfl (by kernel_rfl) ?_))
            refine (cS _).mono ?_
            rintro r u2 ⟨rfl, gu⟩
            have EX := Gr.blk gu DX
            have EP := Gr.blk gu hL8
            have ER := Gr.blk gu DR
            have hbe := Below.gr hb8 gu
            clear gu cS DX hL8 DR hb8
            go_wp2_with (first | ((with_reducible refine here_store ?_); refine wpList_store_blk rfl _ _ _ rfl (w.heap.size) (fcs (sv)) rfl rfl _ _ (EX) (by kernel_rfl) (by rfl) (fcs_one _) ?_; intro u9 hL9 hq9 hK9))
            go_roundw
            case rel => exact ⟨t + 1, sv, qv', by have := HP.out.2.2.2; omega, by simp, Lib.hid ⟨HP.out.1, HP.out.2.2.1 (by simp)⟩, hbe.trans (hq9 _ (by omega)), hK9 _ (by omega) _ _ ER, hL9, hK9 _ (by omega) _ _ EP⟩
            case measure => have := HP.out.2.2.2; simp [intOf]; omega
        · have p1 : ¬ (t : Int) < 64 := by omega
          obtain rfl : t = 64 := by omega
          have BXn : Blk wr w.heap.size 36 (fcs (sqI x (64 * 3 + 64))) := BX.eq_ (by rw [HV.out.1])
          have BPn : Blk wr w5.heap.size 36 (fcs (pwI x (e % 2 ^ (64 * 3 + 64)))) := BP.eq_ (by rw [HV.out.2])
          clear BX BP HV hlt ht
          go_wp2
          refine ⟨⟨hb, BR, Lib.hid (.inr (.inr (.inr (.inr (⟨rfl, BXn, BPn⟩)))))⟩, by decide⟩
    · clear HI
      obtain ⟨z, hz⟩ : ∃ z, z = pwI x e := ⟨_, rfl⟩
      have BZ : Blk wr w5.heap.size 36 (fcs z) := BP.eq_ (by rw [HE.out.2, hz])
      have HZ := Lib.hid hz
      clear hz BP
      go_wp2_with (first | ((with_reducible refine here_load (d := some 36) ?_); refine wpList_load_fv rfl _ _ rfl (w5.heap.size) rfl (z) _ _ _ (BZ) (fv_fcs _) Try.underlying36 rfl (by kernel_rfl) ?_) | ((with_reducible refine here_store ?_); refine wpList_store_blk rfl _ _ _ rfl (w.heap.size + 1) (fcs (z)) rfl rfl _ _ (BR) (by kernel_rfl) (by rfl) (fcs_one _) ?_; intro u9 hL9 hq9 hK9))
      exact bodyPost_ret (results_cell_row rfl _ _ (w.heap.size + 1) _ _ (0, 0) _ rfl hL9 Try.underlying36 rfl (by kernel_rfl)) rfl ⟨by rw [← HZ.out]; rfl, hb.trans (hq9 _ (by omega))⟩
end Go.Proofs.Ytajjjdmjlloifaa.Sc
