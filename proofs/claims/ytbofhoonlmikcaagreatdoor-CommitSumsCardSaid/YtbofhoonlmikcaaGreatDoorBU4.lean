/-
  Texts of ours, put together: RefPow, NumB, FeOwn, RefBytes, CrvC, CrvO, ScSpec, ScLow, FeB32, FeRead, RefSqrt, RootNum, CrvD, CrvP, CrvQ.
-/
import Derived.Test.YtbofhoonlmikcaaGreatDoorBU3
set_option linter.unusedVariables false
set_option linter.unusedSimpArgs false
section
namespace Go.Proofs.YtbofhoonlmikcaaGreatDoor
open Go.RowKit Go.Lib

def pw (x e : Nat) : Nat := x ^ e % pM
theorem pw_lt (x e : Nat) : pw x e < 115792089237316195423570985008687907853269984665640564039457584007913129639936 := mod_lt _
theorem pw_zero (x : Nat) : pw x 0 = 1 := by unfold pw; rw [Nat.pow_zero]; decide
theorem pw_sq (x e : Nat) : mulP (pw x e) (pw x e) = pw x (2 * e) := by
  unfold mulP pw
  rw [← Nat.mul_mod, ← Nat.pow_add, Nat.two_mul]
theorem pw_mul (x e : Nat) : mulP (pw x e) x = pw x (e + 1) := by
  unfold mulP pw
  rw [Nat.mod_mul_mod, Nat.pow_succ]
theorem div_word2 (a r s : Nat) (hs : s ≤ 63) : (a + 18446744073709551616 * r) / 2 ^ s % 2 = a / 2 ^ s % 2 := by
  obtain ⟨u, hu⟩ : ∃ u, 2 ^ s * (2 * u) = 18446744073709551616 := by
    refine ⟨2 ^ (63 - s), ?_⟩
    have : 2 ^ s * 2 ^ (63 - s) = 2 ^ 63 := by rw [← Nat.pow_add]; congr 1; omega
    rw [show (2 : Nat) * 2 ^ (63 - s) = 2 ^ (63 - s) * 2 from Nat.mul_comm _ _, ← Nat.mul_assoc, this]
  rw [← hu, Nat.mul_assoc, Nat.add_mul_div_left _ _ (Nat.two_pow_pos s), Nat.mul_assoc, Nat.add_mul_mod_self_left]
theorem next_digit (e i s w r : Nat) (hz : e / 2 ^ (64 * i) = w + 18446744073709551616 * r) (hs : s ≤ 63) : e / 2 ^ (64 * i + s) = 2 * (e / 2 ^ (64 * i + (s + 1))) + w / 2 ^ s % 2 := by
  have h1 : e / 2 ^ (64 * i + s) % 2 = w / 2 ^ s % 2 := by
    rw [Nat.pow_add, ← Nat.div_div_eq_div_mul, hz, div_word2 w r s hs]
  have h2 : e / 2 ^ (64 * i + (s + 1)) = e / 2 ^ (64 * i + s) / 2 := by
    rw [← Nat.add_assoc, Nat.pow_succ, Nat.div_div_eq_div_mul]
  rw [h2, ← h1]
  omega
theorem and_bit (a s : Nat) (ha : a < 18446744073709551616) (hs : s ≤ 63) : ∃ m : Nat, bits .and .u64 (a : Int) ((2 ^ s : Nat) : Int) = (m : Int) ∧ (m = 0 ↔ a / 2 ^ s % 2 = 0) := by
  have h2 : 2 ^ s < 18446744073709551616 := by
    have : 2 ^ s ≤ 2 ^ 63 := Nat.pow_le_pow_right (by omega) hs
    omega
  refine ⟨a &&& 2 ^ s, bits_and_u64_nat a (2 ^ s) ha h2, ?_⟩
  have hb : a.testBit s = decide (a / 2 ^ s % 2 = 1) := Nat.testBit_eq_decide_div_mod_eq
  constructor
  · intro h
    have h2 : (a &&& 2 ^ s).testBit s = false := by rw [h]; simp
    rw [Nat.testBit_and, Nat.testBit_two_pow_self, Bool.and_true, hb] at h2
    have h3 : ¬ a / 2 ^ s % 2 = 1 := by simpa using h2
    omega
  · intro h
    have h2 : a.testBit s = false := by rw [hb]; simp; omega
    refine Nat.eq_of_testBit_eq fun j => ?_
    rw [Nat.testBit_and, Nat.zero_testBit, Nat.testBit_two_pow]
    by_cases hj : s = j
    · subst hj; simp [h2]
    · simp [hj]

theorem small_at (w : World) (n : Nat) (di : Int) (hdi : di = (n : Int)) (hn : n < 18446744073709551616) : Calls Tryz.prog 144 #[.int .u64 di] w fun e w' => e = .returned (fv n) ∧ Below w.heap.size w w' := by
  subst hdi
  rw [fv_small n hn]
  go_enter Tryz.func144, Tryz.ntmps144
  go_wp2
  exact bodyPost_ret (results_cell_row rfl _ _ w.heap.size _ _ (0, 0) _ rfl (heap_alloc_new w _) Tryz.underlying89 rfl (by kernel_rfl)) rfl ⟨rfl, (Below.refl _ _).alloc (Nat.le_refl _) _⟩

set_option maxHeartbeats 16000000 in
set_option maxRecDepth 100000 in
theorem power_any (w : World) (x e : Nat) (hx : x < 115792089237316195423570985008687907853269984665640564039457584007913129639936) (he : e < 115792089237316195423570985008687907853269984665640564039457584007913129639936) : Calls Tryz.prog 145 #[.agg #[.int .u64 18446744069414583343, .int .u64 18446744073709551615, .int .u64 18446744073709551615, .int .u64 18446744073709551615, .int .u64 4294968273, .int .u64 0, .int .u64 0], fv x, fv e] w fun ee w' => ee = .returned (fv (pw x e)) ∧ Below w.heap.size w w' := by
  obtain ⟨x0, x1, x2, x3, fx⟩ := words_fv x hx
  obtain ⟨e0, e1, e2, e3, b0, b1, b2, b3, ee, fe⟩ := words_of e he
  have n0 := fun s hs => next_digit e 0 s e0 (e1 + 18446744073709551616 * e2 + 340282366920938463463374607431768211456 * e3) (by omega) hs
  have n1 := fun s hs => next_digit e 1 s e1 (e2 + 18446744073709551616 * e3) (by omega) hs
  have n2 := fun s hs => next_digit e 2 s e2 e3 (by omega) hs
  have n3 := fun s hs => next_digit e 3 s e3 0 (by omega) hs
  have h256 : e / 2 ^ 256 = 0 := by omega
  have HN := Lib.hid (And.intro n0 (And.intro n1 (And.intro n2 n3)))
  have HB := Lib.hid (And.intro b0 (And.intro b1 (And.intro b2 b3)))
  have H0 := Lib.hid h256
  have FX := Lib.hid fx
  have HX := Lib.hid hx
  rw [fx, fe]
  clear fx fe ee hx he b0 b1 b2 b3 n0 n1 n2 n3 h256
  go_enter Tryz.func145, Tryz.ntmps145
  go_wp2_with fail
  obtain ⟨one, h1⟩ : ∃ one, one = 1 := ⟨_, rfl⟩
  refine (small_at _ one 1 (by rw [h1]; rfl) (by omega)).mono ?_
  rintro ez w1 ⟨rfl, g1⟩
  have BM : Blk w1 w.heap.size 94 #[.int .u64 18446744069414583343, .int .u64 18446744073709551615, .int .u64 18446744073709551615, .int .u64 18446744073709551615, .int .u64 4294968273, .int .u64 0, .int .u64 0] := Gr.blk g1 (((((Blk.new w _ _).alloc _).alloc _).alloc _))
  have BX : Blk w1 (w.heap.size + 1) 89 #[.int .u64 (x0 : Int), .int .u64 (x1 : Int), .int .u64 (x2 : Int), .int .u64 (x3 : Int)] := Gr.blk g1 ((((blk_new2 w _ _ _).alloc _).alloc _))
  have BE : Blk w1 (w.heap.size + 2) 89 #[.int .u64 (e0 : Int), .int .u64 (e1 : Int), .int .u64 (e2 : Int), .int .u64 (e3 : Int)] := Gr.blk g1 ((blk_new3 w _ _ _ _).alloc _)
  have BR : Blk w1 (w.heap.size + 3) 89 #[.int .u64 0, .int .u64 0, .int .u64 0, .int .u64 0] := Gr.blk g1 (blk_new4 w _ _ _ _ _)
  have hB := Below.gr (below_alloc4 w _ _ _ _) g1
  have sz : w.heap.size + 3 < w1.heap.size := BR.lt
  have H1 := Lib.hid h1
  clear g1 h1
  go_wp2_with (first | ((with_reducible refine here_store ?_); refine wpList_store_blk rfl _ _ _ rfl (w1.heap.size) (fcs (one)) rfl rfl _ _ (Blk.new w1 _ _) (by kernel_rfl) (by rfl) (fcs_one _) ?_; intro w2 hL2 hq2 hK2; have KM := hK2 _ (by omega) _ _ (BM.alloc _); have KX := hK2 _ (by omega) _ _ (BX.alloc _); have KE := hK2 _ (by omega) _ _ (BE.alloc _); have KR := hK2 _ (by omega) _ _ (BR.alloc _); have hB2 := (hB.alloc (by omega) _).trans (hq2 _ (by omega))))
  go_loopw [8] (fun i wr => Below w.heap.size w wr ∧ Blk wr w.heap.size 94 #[.int .u64 18446744069414583343, .int .u64 18446744073709551615, .int .u64 18446744073709551615, .int .u64 18446744073709551615, .int .u64 4294968273, .int .u64 0, .int .u64 0] ∧ Blk wr (w.heap.size + 1) 89 #[.int .u64 (x0 : Int), .int .u64 (x1 : Int), .int .u64 (x2 : Int), .int .u64 (x3 : Int)] ∧ Blk wr (w.heap.size + 2) 89 #[.int .u64 (e0 : Int), .int .u64 (e1 : Int), .int .u64 (e2 : Int), .int .u64 (e3 : Int)] ∧ Blk wr (w.heap.size + 3) 89 #[.int .u64 0, .int .u64 0, .int .u64 0, .int .u64 0] ∧ Hid ((i = .int .i64 3 ∧ Blk wr w1.heap.size 89 (fcs (pw x (e / 2 ^ 256)))) ∨ (i = .int .i64 2 ∧ Blk wr w1.heap.size 89 (fcs (pw x (e / 2 ^ 192)))) ∨ (i = .int .i64 1 ∧ Blk wr w1.heap.size 89 (fcs (pw x (e / 2 ^ 128)))) ∨ (i = .int .i64 0 ∧ Blk wr w1.heap.size 89 (fcs (pw x (e / 2 ^ 64)))) ∨ (i = .int .i64 (-1) ∧ Blk wr w1.heap.size 89 (fcs (pw x (e / 2 ^ 0)))))) (fun i _ => (intOf i + 1).toNat)
  case atStart => exact ⟨hB2, KM, KX, KE, KR, Lib.hid (.inl ⟨rfl, Blk.eq_ hL2 (by rw [H0.out, pw_zero, H1.out])⟩)⟩
  case round =>
    obtain ⟨hb, BM, BX, BE, BR, HI⟩ := hrel
    rcases HI.out with ⟨rfl, BP⟩ | ⟨rfl, BP⟩ | ⟨rfl, BP⟩ | ⟨rfl, BP⟩ | ⟨rfl, BP⟩
    · clear HI
      go_wp2_with fail
      go_loopw [9] (fun bt wr => ∃ t : Nat, t ≤ 64 ∧ bt = .int .u64 ((2 ^ t / 2 : Nat) : Int) ∧ Below w.heap.size w wr ∧ Blk wr w.heap.size 94 #[.int .u64 18446744069414583343, .int .u64 18446744073709551615, .int .u64 18446744073709551615, .int .u64 18446744073709551615, .int .u64 4294968273, .int .u64 0, .int .u64 0] ∧ Blk wr (w.heap.size + 1) 89 #[.int .u64 (x0 : Int), .int .u64 (x1 : Int), .int .u64 (x2 : Int), .int .u64 (x3 : Int)] ∧ Blk wr (w.heap.size + 2) 89 #[.int .u64 (e0 : Int), .int .u64 (e1 : Int), .int .u64 (e2 : Int), .int .u64 (e3 : Int)] ∧ Blk wr (w.heap.size + 3) 89 #[.int .u64 0, .int .u64 0, .int .u64 0, .int .u64 0] ∧ Blk wr w1.heap.size 89 (fcs (pw x (e / 2 ^ (64 * 3 + t))))) (fun bt _ => (intOf bt).toNat)
      case atStart => exact ⟨64, by omega, rfl, hb, BM, BX, BE, BR, BP⟩
      case round =>
        clear hb BM BX BE BR BP
        obtain ⟨t, ht, rfl, hb, BM, BX, BE, BR, BP⟩ := hrel
        by_cases h0 : t = 0
        · subst h0
          go_wp2
          refine ⟨⟨hb, BM, BX, BE, BR, Lib.hid (.inr (.inl (⟨rfl, BP⟩)))⟩, by decide⟩
        · obtain ⟨s, hs⟩ : ∃ s, t = s + 1 := ⟨t - 1, by omega⟩
          subst hs
          have hbt : 2 ^ (s + 1) / 2 = 2 ^ s := by rw [Nat.pow_succ]; omega
          rw [hbt]
          obtain ⟨bt, hbe⟩ : ∃ bt, bt = 2 ^ s := ⟨_, rfl⟩
          have hpos : 0 < bt := by rw [hbe]; exact Nat.two_pow_pos s
          have hblt : bt < 18446744073709551616 := by
            have h63 : 2 ^ s ≤ 2 ^ 63 := Nat.pow_le_pow_right (by omega) (by omega)
            rw [hbe]
            omega
          have hhalf : bt / 2 = 2 ^ s / 2 := by rw [hbe]
          obtain ⟨m, hm, hmz⟩ := and_bit e3 s HB.out.2.2.2 (by omega)
          rw [← hbe] at hm
          have hd := HN.out.2.2.2 s (by omega)
          obtain ⟨r, hr⟩ : ∃ r, r = pw x (e / 2 ^ (64 * 3 + (s + 1))) := ⟨_, rfl⟩
          obtain ⟨q, hq⟩ : ∃ q, q = mulP r r := ⟨_, rfl⟩
          obtain ⟨v, hv⟩ : ∃ v, v = mulP q x := ⟨_, rfl⟩
          have hq2 : q = pw x (2 * (e / 2 ^ (64 * 3 + (s + 1)))) := by rw [hq, hr, pw_sq]
          have lr : r < 115792089237316195423570985008687907853269984665640564039457584007913129639936 := by rw [hr]; exact pw_lt _ _
          have lq : q < 115792089237316195423570985008687907853269984665640564039457584007913129639936 := by rw [hq]; exact mulP_lt _ _
          have cS : ∀ w, Calls Tryz.prog 101 #[.agg #[.int .u64 18446744069414583343, .int .u64 18446744073709551615, .int .u64 18446744073709551615, .int .u64 18446744073709551615, .int .u64 4294968273, .int .u64 0, .int .u64 0], fv r, fv r] w fun e w' => e = .returned (fv q) ∧ Below w.heap.size w w' := by
            intro w; rw [hq]; exact mulR_any w r r lr lr
          have cX : ∀ w, Calls Tryz.prog 101 #[.agg #[.int .u64 18446744069414583343, .int .u64 18446744073709551615, .int .u64 18446744073709551615, .int .u64 18446744073709551615, .int .u64 4294968273, .int .u64 0, .int .u64 0], fv q, fv x] w fun e w' => e = .returned (fv v) ∧ Below w.heap.size w w' := by
            intro w; rw [hv]; exact mulR_any w q x lq HX.out
          have hend0 : m = 0 → q = pw x (e / 2 ^ (64 * 3 + s)) := fun h => by
            rw [hq2, hd, hmz.1 h]; rfl
          have hend1 : m ≠ 0 → v = pw x (e / 2 ^ (64 * 3 + s)) := fun h => by
            have hb1 : e3 / 2 ^ s % 2 = 1 := by have := mt hmz.2 h; omega
            rw [hv, hq2, pw_mul, hd, hb1]
          have HE := Lib.hid (And.intro hend0 (And.intro hend1 (And.intro hhalf hbe)))
          rw [← hr] at BP
          have hgt : (bt : Int) > 0 := by omega
          rw [← hbe]
          clear hr hq hv hq2 lr lq hend0 hend1 hhalf hbe hd hmz hbt
          go_wp2_with (first | ((with_reducible refine here_load (d := some 19) ?_); refine wpList_load_blk rfl _ _ rfl w.heap.size rfl _ _ _ (BM) Tryz.underlying94 rfl (by kernel_rfl) ?_) | ((with_reducible refine here_load (d := some 20) ?_); refine wpList_load_fv rfl _ _ rfl (w1.heap.size) rfl (r) _ _ _ (BP) (fv_fcs r) Tryz.underlying89 rfl (by kernel_rfl) ?_) | ((with_reducible refine here_load (d := some 21) ?_); refine wpList_load_fv rfl _ _ rfl (w1.heap.size) rfl (r) _ _ _ (BP) (fv_fcs r) Tryz.underlying89 rfl (by kernel_rfl) ?_))
          refine (cS _).mono ?_
          rintro ez u ⟨rfl, gu⟩
          have EM := Gr.blk gu BM
          have EX := Gr.blk gu BX
          have EE := Gr.blk gu BE
          have ER := Gr.blk gu BR
          have EP := Gr.blk gu BP
          have hbu := Below.gr hb gu
          clear gu cS BM BX BE BR BP hb
          have lu := EP.lt
          by_cases hm0 : m = 0
          · have hq0 := Lib.hid (HE.out.1 hm0)
            subst hm0
            clear cX
            go_wp2_with (first | ((with_reducible refine here_store ?_); refine wpList_store_blk rfl _ _ _ rfl (w1.heap.size) (fcs (q)) rfl rfl _ _ (EP) (by kernel_rfl) (by rfl) (fcs_one _) ?_; intro uz hLz hqz hKz; have FM := hKz _ (by omega) _ _ EM; have FXx := hKz _ (by omega) _ _ EX; have FE_ := hKz _ (by omega) _ _ EE; have FR := hKz _ (by omega) _ _ ER; have hbz := hbu.trans (hqz _ (by omega)); have pc : uz.cell? ⟨w.heap.size + 2, 3, none⟩ = some (.int .u64 (e3 : Int)) := FE_.cell 3))
            go_roundw
            case rel => exact ⟨s, by omega, by rw [← HE.out.2.2.1]; congr 1 <;> omega, hbz, FM, FXx, FE_, FR, Blk.eq_ hLz (by rw [hq0.out])⟩
            case measure => simp [intOf]; omega
          · have hq1 := Lib.hid (HE.out.2.1 hm0)
            have hmi : ¬ (m : Int) = 0 := by omega
            go_wp2_with (first | ((with_reducible refine here_store ?_); refine wpList_store_blk rfl _ _ _ rfl (w1.heap.size) (fcs (q)) rfl rfl _ _ (EP) (by kernel_rfl) (by rfl) (fcs_one _) ?_; intro uz hLz hqz hKz; have FM := hKz _ (by omega) _ _ EM; have FXx := hKz _ (by omega) _ _ EX; have FE_ := hKz _ (by omega) _ _ EE; have FR := hKz _ (by omega) _ _ ER; have hbz := hbu.trans (hqz _ (by omega)); have pc : uz.cell? ⟨w.heap.size + 2, 3, none⟩ = some (.int .u64 (e3 : Int)) := FE_.cell 3) | ((with_reducible refine here_load (d := some 29) ?_); refine wpList_load_blk rfl _ _ rfl w.heap.size rfl _ _ _ (FM) Tryz.underlying94 rfl (by kernel_rfl) ?_) | ((with_reducible refine here_load (d := some 30) ?_); refine wpList_load_fv rfl _ _ rfl (w1.heap.size) rfl (q) _ _ _ (hLz) (fv_fcs q) Tryz.underlying89 rfl (by kernel_rfl) ?_) | ((with_reducible refine here_load (d := some 31) ?_); refine wpList_load_fv rfl _ _ rfl (w.heap.size + 1) rfl (x) _ _ _ (FXx) (FX.out) Tryz.underlying89 rfl (by kernel_rfl) ?_))
            refine (cX _).mono ?_
            rintro ez u2 ⟨rfl, gu⟩
            have GM := Gr.blk gu FM
            have GX := Gr.blk gu FXx
            have GE := Gr.blk gu FE_
            have GR := Gr.blk gu FR
            have GP := Gr.blk gu hLz
            have hbg := Below.gr hbz gu
            clear gu cX FM FXx FE_ FR hbz
            go_wp2_with (first | ((with_reducible refine here_store ?_); refine wpList_store_blk rfl _ _ _ rfl (w1.heap.size) (fcs (v)) rfl rfl _ _ (GP) (by kernel_rfl) (by rfl) (fcs_one _) ?_; intro uy hLy hqy hKy; have JM := hKy _ (by omega) _ _ GM; have JX := hKy _ (by omega) _ _ GX; have JE := hKy _ (by omega) _ _ GE; have JR := hKy _ (by omega) _ _ GR; have hby := hbg.trans (hqy _ (by omega))))
            go_roundw
            case rel => exact ⟨s, by omega, by rw [← HE.out.2.2.1]; congr 1 <;> omega, hby, JM, JX, JE, JR, Blk.eq_ hLy (by rw [hq1.out])⟩
            case measure => simp [intOf]; omega
    · clear HI
      go_wp2_with fail
      go_loopw [9] (fun bt wr => ∃ t : Nat, t ≤ 64 ∧ bt = .int .u64 ((2 ^ t / 2 : Nat) : Int) ∧ Below w.heap.size w wr ∧ Blk wr w.heap.size 94 #[.int .u64 18446744069414583343, .int .u64 18446744073709551615, .int .u64 18446744073709551615, .int .u64 18446744073709551615, .int .u64 4294968273, .int .u64 0, .int .u64 0] ∧ Blk wr (w.heap.size + 1) 89 #[.int .u64 (x0 : Int), .int .u64 (x1 : Int), .int .u64 (x2 : Int), .int .u64 (x3 : Int)] ∧ Blk wr (w.heap.size + 2) 89 #[.int .u64 (e0 : Int), .int .u64 (e1 : Int), .int .u64 (e2 : Int), .int .u64 (e3 : Int)] ∧ Blk wr (w.heap.size + 3) 89 #[.int .u64 0, .int .u64 0, .int .u64 0, .int .u64 0] ∧ Blk wr w1.heap.size 89 (fcs (pw x (e / 2 ^ (64 * 2 + t))))) (fun bt _ => (intOf bt).toNat)
      case atStart => exact ⟨64, by omega, rfl, hb, BM, BX, BE, BR, BP⟩
      case round =>
        clear hb BM BX BE BR BP
        obtain ⟨t, ht, rfl, hb, BM, BX, BE, BR, BP⟩ := hrel
        by_cases h0 : t = 0
        · subst h0
          go_wp2
          refine ⟨⟨hb, BM, BX, BE, BR, Lib.hid (.inr (.inr (.inl (⟨rfl, BP⟩))))⟩, by decide⟩
        · obtain ⟨s, hs⟩ : ∃ s, t = s + 1 := ⟨t - 1, by omega⟩
          subst hs
          have hbt : 2 ^ (s + 1) / 2 = 2 ^ s := by rw [Nat.pow_succ]; omega
          rw [hbt]
          obtain ⟨bt, hbe⟩ : ∃ bt, bt = 2 ^ s := ⟨_, rfl⟩
          have hpos : 0 < bt := by rw [hbe]; exact Nat.two_pow_pos s
          have hblt : bt < 18446744073709551616 := by
            have h63 : 2 ^ s ≤ 2 ^ 63 := Nat.pow_le_pow_right (by omega) (by omega)
            rw [hbe]
            omega
          have hhalf : bt / 2 = 2 ^ s / 2 := by rw [hbe]
          obtain ⟨m, hm, hmz⟩ := and_bit e2 s HB.out.2.2.1 (by omega)
          rw [← hbe] at hm
          have hd := HN.out.2.2.1 s (by omega)
          obtain ⟨r, hr⟩ : ∃ r, r = pw x (e / 2 ^ (64 * 2 + (s + 1))) := ⟨_, rfl⟩
          obtain ⟨q, hq⟩ : ∃ q, q = mulP r r := ⟨_, rfl⟩
          obtain ⟨v, hv⟩ : ∃ v, v = mulP q x := ⟨_, rfl⟩
          have hq2 : q = pw x (2 * (e / 2 ^ (64 * 2 + (s + 1)))) := by rw [hq, hr, pw_sq]
          have lr : r < 115792089237316195423570985008687907853269984665640564039457584007913129639936 := by rw [hr]; exact pw_lt _ _
          have lq : q < 115792089237316195423570985008687907853269984665640564039457584007913129639936 := by rw [hq]; exact mulP_lt _ _
          have cS : ∀ w, Calls Tryz.prog 101 #[.agg #[.int .u64 18446744069414583343, .int .u64 18446744073709551615, .int .u64 18446744073709551615, .int .u64 18446744073709551615, .int .u64 4294968273, .int .u64 0, .int .u64 0], fv r, fv r] w fun e w' => e = .returned (fv q) ∧ Below w.heap.size w w' := by
            intro w; rw [hq]; exact mulR_any w r r lr lr
          have cX : ∀ w, Calls Tryz.prog 101 #[.agg #[.int .u64 18446744069414583343, .int .u64 18446744073709551615, .int .u64 18446744073709551615, .int .u64 18446744073709551615, .int .u64 4294968273, .int .u64 0, .int .u64 0], fv q, fv x] w fun e w' => e = .returned (fv v) ∧ Below w.heap.size w w' := by
            intro w; rw [hv]; exact mulR_any w q x lq HX.out
          have hend0 : m = 0 → q = pw x (e / 2 ^ (64 * 2 + s)) := fun h => by
            rw [hq2, hd, hmz.1 h]; rfl
          have hend1 : m ≠ 0 → v = pw x (e / 2 ^ (64 * 2 + s)) := fun h => by
            have hb1 : e2 / 2 ^ s % 2 = 1 := by have := mt hmz.2 h; omega
            rw [hv, hq2, pw_mul, hd, hb1]
          have HE := Lib.hid (And.intro hend0 (And.intro hend1 (And.intro hhalf hbe)))
          rw [← hr] at BP
          have hgt : (bt : Int) > 0 := by omega
          rw [← hbe]
          clear hr hq hv hq2 lr lq hend0 hend1 hhalf hbe hd hmz hbt
          go_wp2_with (first | ((with_reducible refine here_load (d := some 19) ?_); refine wpList_load_blk rfl _ _ rfl w.heap.size rfl _ _ _ (BM) Tryz.underlying94 rfl (by kernel_rfl) ?_) | ((with_reducible refine here_load (d := some 20) ?_); refine wpList_load_fv rfl _ _ rfl (w1.heap.size) rfl (r) _ _ _ (BP) (fv_fcs r) Tryz.underlying89 rfl (by kernel_rfl) ?_) | ((with_reducible refine here_load (d := some 21) ?_); refine wpList_load_fv rfl _ _ rfl (w1.heap.size) rfl (r) _ _ _ (BP) (fv_fcs r) Tryz.underlying89 rfl (by kernel_rfl) ?_))
          refine (cS _).mono ?_
          rintro ez u ⟨rfl, gu⟩
          have EM := Gr.blk gu BM
          have EX := Gr.blk gu BX
          have EE := Gr.blk gu BE
          have ER := Gr.blk gu BR
          have EP := Gr.blk gu BP
          have hbu := Below.gr hb gu
          clear gu cS BM BX BE BR BP hb
          have lu := EP.lt
          by_cases hm0 : m = 0
          · have hq0 := Lib.hid (HE.out.1 hm0)
            subst hm0
            clear cX
            go_wp2_with (first | ((with_reducible refine here_store ?_); refine wpList_store_blk rfl _ _ _ rfl (w1.heap.size) (fcs (q)) rfl rfl _ _ (EP) (by kernel_rfl) (by rfl) (fcs_one _) ?_; intro uz hLz hqz hKz; have FM := hKz _ (by omega) _ _ EM; have FXx := hKz _ (by omega) _ _ EX; have FE_ := hKz _ (by omega) _ _ EE; have FR := hKz _ (by omega) _ _ ER; have hbz := hbu.trans (hqz _ (by omega)); have pc : uz.cell? ⟨w.heap.size + 2, 2, none⟩ = some (.int .u64 (e2 : Int)) := FE_.cell 2))
            go_roundw
            case rel => exact ⟨s, by omega, by rw [← HE.out.2.2.1]; congr 1 <;> omega, hbz, FM, FXx, FE_, FR, Blk.eq_ hLz (by rw [hq0.out])⟩
            case measure => simp [intOf]; omega
          · have hq1 := Lib.hid (HE.out.2.1 hm0)
            have hmi : ¬ (m : Int) = 0 := by omega
            go_wp2_with (first | ((with_reducible refine here_store ?_); refine wpList_store_blk rfl _ _ _ rfl (w1.heap.size) (fcs (q)) rfl rfl _ _ (EP) (by kernel_rfl) (by rfl) (fcs_one _) ?_; intro uz hLz hqz hKz; have FM := hKz _ (by omega) _ _ EM; have FXx := hKz _ (by omega) _ _ EX; have FE_ := hKz _ (by omega) _ _ EE; have FR := hKz _ (by omega) _ _ ER; have hbz := hbu.trans (hqz _ (by omega)); have pc : uz.cell? ⟨w.heap.size + 2, 2, none⟩ = some (.int .u64 (e2 : Int)) := FE_.cell 2) | ((with_reducible refine here_load (d := some 29) ?_); refine wpList_load_blk rfl _ _ rfl w.heap.size rfl _ _ _ (FM) Tryz.underlying94 rfl (by kernel_rfl) ?_) | ((with_reducible refine here_load (d := some 30) ?_); refine wpList_load_fv rfl _ _ rfl (w1.heap.size) rfl (q) _ _ _ (hLz) (fv_fcs q) Tryz.underlying89 rfl (by kernel_rfl) ?_) | ((with_reducible refine here_load (d := some 31) ?_); refine wpList_load_fv rfl _ _ rfl (w.heap.size + 1) rfl (x) _ _ _ (FXx) (FX.out) Tryz.underlying89 rfl (by kernel_rfl) ?_))
            refine (cX _).mono ?_
            rintro ez u2 ⟨rfl, gu⟩
            have GM := Gr.blk gu FM
            have GX := Gr.blk gu FXx
            have GE := Gr.blk gu FE_
            have GR := Gr.blk gu FR
            have GP := Gr.blk gu hLz
            have hbg := Below.gr hbz gu
            clear gu cX FM FXx FE_ FR hbz
            go_wp2_with (first | ((with_reducible refine here_store ?_); refine wpList_store_blk rfl _ _ _ rfl (w1.heap.size) (fcs (v)) rfl rfl _ _ (GP) (by kernel_rfl) (by rfl) (fcs_one _) ?_; intro uy hLy hqy hKy; have JM := hKy _ (by omega) _ _ GM; have JX := hKy _ (by omega) _ _ GX; have JE := hKy _ (by omega) _ _ GE; have JR := hKy _ (by omega) _ _ GR; have hby := hbg.trans (hqy _ (by omega))))
            go_roundw
            case rel => exact ⟨s, by omega, by rw [← HE.out.2.2.1]; congr 1 <;> omega, hby, JM, JX, JE, JR, Blk.eq_ hLy (by rw [hq1.out])⟩
            case measure => simp [intOf]; omega
    · clear HI
      go_wp2_with fail
      go_loopw [9] (fun bt wr => ∃ t : Nat, t ≤ 64 ∧ bt = .int .u64 ((2 ^ t / 2 : Nat) : Int) ∧ Below w.heap.size w wr ∧ Blk wr w.heap.size 94 #[.int .u64 18446744069414583343, .int .u64 18446744073709551615, .int .u64 18446744073709551615, .int .u64 18446744073709551615, .int .u64 4294968273, .int .u64 0, .int .u64 0] ∧ Blk wr (w.heap.size + 1) 89 #[.int .u64 (x0 : Int), .int .u64 (x1 : Int), .int .u64 (x2 : Int), .int .u64 (x3 : Int)] ∧ Blk wr (w.heap.size + 2) 89 #[.int .u64 (e0 : Int), .int .u64 (e1 : Int), .int .u64 (e2 : Int), .int .u64 (e3 : Int)] ∧ Blk wr (w.heap.size + 3) 89 #[.int .u64 0, .int .u64 0, .int .u64 0, .int .u64 0] ∧ Blk wr w1.heap.size 89 (fcs (pw x (e / 2 ^ (64 * 1 + t))))) (fun bt _ => (intOf bt).toNat)
      case atStart => exact ⟨64, by omega, rfl, hb, BM, BX, BE, BR, BP⟩
      case round =>
        clear hb BM BX BE BR BP
        obtain ⟨t, ht, rfl, hb, BM, BX, BE, BR, BP⟩ := hrel
        by_cases h0 : t = 0
        · subst h0
          go_wp2
          refine ⟨⟨hb, BM, BX, BE, BR, Lib.hid (.inr (.inr (.inr (.inl (⟨rfl, BP⟩)))))⟩, by decide⟩
        · obtain ⟨s, hs⟩ : ∃ s, t = s + 1 := ⟨t - 1, by omega⟩
          subst hs
          have hbt : 2 ^ (s + 1) / 2 = 2 ^ s := by rw [Nat.pow_succ]; omega
          rw [hbt]
          obtain ⟨bt, hbe⟩ : ∃ bt, bt = 2 ^ s := ⟨_, rfl⟩
          have hpos : 0 < bt := by rw [hbe]; exact Nat.two_pow_pos s
          have hblt : bt < 18446744073709551616 := by
            have h63 : 2 ^ s ≤ 2 ^ 63 := Nat.pow_le_pow_right (by omega) (by omega)
            rw [hbe]
            omega
          have hhalf : bt / 2 = 2 ^ s / 2 := by rw [hbe]
          obtain ⟨m, hm, hmz⟩ := and_bit e1 s HB.out.2.1 (by omega)
          rw [← hbe] at hm
          have hd := HN.out.2.1 s (by omega)
          obtain ⟨r, hr⟩ : ∃ r, r = pw x (e / 2 ^ (64 * 1 + (s + 1))) := ⟨_, rfl⟩
          obtain ⟨q, hq⟩ : ∃ q, q = mulP r r := ⟨_, rfl⟩
          obtain ⟨v, hv⟩ : ∃ v, v = mulP q x := ⟨_, rfl⟩
          have hq2 : q = pw x (2 * (e / 2 ^ (64 * 1 + (s + 1)))) := by rw [hq, hr, pw_sq]
          have lr : r < 115792089237316195423570985008687907853269984665640564039457584007913129639936 := by rw [hr]; exact pw_lt _ _
          have lq : q < 115792089237316195423570985008687907853269984665640564039457584007913129639936 := by rw [hq]; exact mulP_lt _ _
          have cS : ∀ w, Calls Tryz.prog 101 #[.agg #[.int .u64 18446744069414583343, .int .u64 18446744073709551615, .int .u64 18446744073709551615, .int .u64 18446744073709551615, .int .u64 4294968273, .int .u64 0, .int .u64 0], fv r, fv r] w fun e w' => e = .returned (fv q) ∧ Below w.heap.size w w' := by
            intro w; rw [hq]; exact mulR_any w r r lr lr
          have cX : ∀ w, Calls Tryz.prog 101 #[.agg #[.int .u64 18446744069414583343, .int .u64 18446744073709551615, .int .u64 18446744073709551615, .int .u64 18446744073709551615, .int .u64 4294968273, .int .u64 0, .int .u64 0], fv q, fv x] w fun e w' => e = .returned (fv v) ∧ Below w.heap.size w w' := by
            intro w; rw [hv]; exact mulR_any w q x lq HX.out
          have hend0 : m = 0 → q = pw x (e / 2 ^ (64 * 1 + s)) := fun h => by
            rw [hq2, hd, hmz.1 h]; rfl
          have hend1 : m ≠ 0 → v = pw x (e / 2 ^ (64 * 1 + s)) := fun h => by
            have hb1 : e1 / 2 ^ s % 2 = 1 := by have := mt hmz.2 h; omega
            rw [hv, hq2, pw_mul, hd, hb1]
          have HE := Lib.hid (And.intro hend0 (And.intro hend1 (And.intro hhalf hbe)))
          rw [← hr] at BP
          have hgt : (bt : Int) > 0 := by omega
          rw [← hbe]
          clear hr hq hv hq2 lr lq hend0 hend1 hhalf hbe hd hmz hbt
          go_wp2_with (first | ((with_reducible refine here_load (d := some 19) ?_); refine wpList_load_blk rfl _ _ rfl w.heap.size rfl _ _ _ (BM) Tryz.underlying94 rfl (by kernel_rfl) ?_) | ((with_reducible refine here_load (d := some 20) ?_); refine wpList_load_fv rfl _ _ rfl (w1.heap.size) rfl (r) _ _ _ (BP) (fv_fcs r) Tryz.underlying89 rfl (by kernel_rfl) ?_) | ((with_reducible refine here_load (d := some 21) ?_); refine wpList_load_fv rfl _ _ rfl (w1.heap.size) rfl (r) _ _ _ (BP) (fv_fcs r) Tryz.underlying89 rfl (by kernel_rfl) ?_))
          refine (cS _).mono ?_
          rintro ez u ⟨rfl, gu⟩
          have EM := Gr.blk gu BM
          have EX := Gr.blk gu BX
          have EE := Gr.blk gu BE
          have ER := Gr.blk gu BR
          have EP := Gr.blk gu BP
          have hbu := Below.gr hb gu
          clear gu cS BM BX BE BR BP hb
          have lu := EP.lt
          by_cases hm0 : m = 0
          · have hq0 := Lib.hid (HE.out.1 hm0)
            subst hm0
            clear cX
            go_wp2_with (first | ((with_reducible refine here_store ?_); refine wpList_store_blk rfl _ _ _ rfl (w1.heap.size) (fcs (q)) rfl rfl _ _ (EP) (by kernel_rfl) (by rfl) (fcs_one _) ?_; intro uz hLz hqz hKz; have FM := hKz _ (by omega) _ _ EM; have FXx := hKz _ (by omega) _ _ EX; have FE_ := hKz _ (by omega) _ _ EE; have FR := hKz _ (by omega) _ _ ER; have hbz := hbu.trans (hqz _ (by omega)); have pc : uz.cell? ⟨w.heap.size + 2, 1, none⟩ = some (.int .u64 (e1 : Int)) := FE_.cell 1))
            go_roundw
            case rel => exact ⟨s, by omega, by rw [← HE.out.2.2.1]; congr 1 <;> omega, hbz, FM, FXx, FE_, FR, Blk.eq_ hLz (by rw [hq0.out])⟩
            case measure => simp [intOf]; omega
          · have hq1 := Lib.hid (HE.out.2.1 hm0)
            have hmi : ¬ (m : Int) = 0 := by omega
            go_wp2_with (first | ((with_reducible refine here_store ?_); refine wpList_store_blk rfl _ _ _ rfl (w1.heap.size) (fcs (q)) rfl rfl _ _ (EP) (by kernel_rfl) (by rfl) (fcs_one _) ?_; intro uz hLz hqz hKz; have FM := hKz _ (by omega) _ _ EM; have FXx := hKz _ (by omega) _ _ EX; have FE_ := hKz _ (by omega) _ _ EE; have FR := hKz _ (by omega) _ _ ER; have hbz := hbu.trans (hqz _ (by omega)); have pc : uz.cell? ⟨w.heap.size + 2, 1, none⟩ = some (.int .u64 (e1 : Int)) := FE_.cell 1) | ((with_reducible refine here_load (d := some 29) ?_); refine wpList_load_blk rfl _ _ rfl w.heap.size rfl _ _ _ (FM) Tryz.underlying94 rfl (by kernel_rfl) ?_) | ((with_reducible refine here_load (d := some 30) ?_); refine wpList_load_fv rfl _ _ rfl (w1.heap.size) rfl (q) _ _ _ (hLz) (fv_fcs q) Tryz.underlying89 rfl (by kernel_rfl) ?_) | ((with_reducible refine here_load (d := some 31) ?_); refine wpList_load_fv rfl _ _ rfl (w.heap.size + 1) rfl (x) _ _ _ (FXx) (FX.out) Tryz.underlying89 rfl (by kernel_rfl) ?_))
            refine (cX _).mono ?_
            rintro ez u2 ⟨rfl, gu⟩
            have GM := Gr.blk gu FM
            have GX := Gr.blk gu FXx
            have GE := Gr.blk gu FE_
            have GR := Gr.blk gu FR
            have GP := Gr.blk gu hLz
            have hbg := Below.gr hbz gu
            clear gu cX FM FXx FE_ FR hbz
            go_wp2_with (first | ((with_reducible refine here_store ?_); refine wpList_store_blk rfl _ _ _ rfl (w1.heap.size) (fcs (v)) rfl rfl _ _ (GP) (by kernel_rfl) (by rfl) (fcs_one _) ?_; intro uy hLy hqy hKy; have JM := hKy _ (by omega) _ _ GM; have JX := hKy _ (by omega) _ _ GX; have JE := hKy _ (by omega) _ _ GE; have JR := hKy _ (by omega) _ _ GR; have hby := hbg.trans (hqy _ (by omega))))
            go_roundw
            case rel => exact ⟨s, by omega, by rw [← HE.out.2.2.1]; congr 1 <;> omega, hby, JM, JX, JE, JR, Blk.eq_ hLy (by rw [hq1.out])⟩
            case measure => simp [intOf]; omega
    · clear HI
      go_wp2_with fail
      go_loopw [9] (fun bt wr => ∃ t : Nat, t ≤ 64 ∧ bt = .int .u64 ((2 ^ t / 2 : Nat) : Int) ∧ Below w.heap.size w wr ∧ Blk wr w.heap.size 94 #[.int .u64 18446744069414583343, .int .u64 18446744073709551615, .int .u64 18446744073709551615, .int .u64 18446744073709551615, .int .u64 4294968273, .int .u64 0, .int .u64 0] ∧ Blk wr (w.heap.size + 1) 89 #[.int .u64 (x0 : Int), .int .u64 (x1 : Int), .int .u64 (x2 : Int), .int .u64 (x3 : Int)] ∧ Blk wr (w.heap.size + 2) 89 #[.int .u64 (e0 : Int), .int .u64 (e1 : Int), .int .u64 (e2 : Int), .int .u64 (e3 : Int)] ∧ Blk wr (w.heap.size + 3) 89 #[.int .u64 0, .int .u64 0, .int .u64 0, .int .u64 0] ∧ Blk wr w1.heap.size 89 (fcs (pw x (e / 2 ^ (64 * 0 + t))))) (fun bt _ => (intOf bt).toNat)
      case atStart => exact ⟨64, by omega, rfl, hb, BM, BX, BE, BR, BP⟩
      case round =>
        clear hb BM BX BE BR BP
        obtain ⟨t, ht, rfl, hb, BM, BX, BE, BR, BP⟩ := hrel
        by_cases h0 : t = 0
        · subst h0
          go_wp2
          refine ⟨⟨hb, BM, BX, BE, BR, Lib.hid (.inr (.inr (.inr (.inr (⟨rfl, BP⟩)))))⟩, by decide⟩
        · obtain ⟨s, hs⟩ : ∃ s, t = s + 1 := ⟨t - 1, by omega⟩
          subst hs
          have hbt : 2 ^ (s + 1) / 2 = 2 ^ s := by rw [Nat.pow_succ]; omega
          rw [hbt]
          obtain ⟨bt, hbe⟩ : ∃ bt, bt = 2 ^ s := ⟨_, rfl⟩
          have hpos : 0 < bt := by rw [hbe]; exact Nat.two_pow_pos s
          have hblt : bt < 18446744073709551616 := by
            have h63 : 2 ^ s ≤ 2 ^ 63 := Nat.pow_le_pow_right (by omega) (by omega)
            rw [hbe]
            omega
          have hhalf : bt / 2 = 2 ^ s / 2 := by rw [hbe]
          obtain ⟨m, hm, hmz⟩ := and_bit e0 s HB.out.1 (by omega)
          rw [← hbe] at hm
          have hd := HN.out.1 s (by omega)
          obtain ⟨r, hr⟩ : ∃ r, r = pw x (e / 2 ^ (64 * 0 + (s + 1))) := ⟨_, rfl⟩
          obtain ⟨q, hq⟩ : ∃ q, q = mulP r r := ⟨_, rfl⟩
          obtain ⟨v, hv⟩ : ∃ v, v = mulP q x := ⟨_, rfl⟩
          have hq2 : q = pw x (2 * (e / 2 ^ (64 * 0 + (s + 1)))) := by rw [hq, hr, pw_sq]
          have lr : r < 115792089237316195423570985008687907853269984665640564039457584007913129639936 := by rw [hr]; exact pw_lt _ _
          have lq : q < 115792089237316195423570985008687907853269984665640564039457584007913129639936 := by rw [hq]; exact mulP_lt _ _
          have cS : ∀ w, Calls Tryz.prog 101 #[.agg #[.int .u64 18446744069414583343, .int .u64 18446744073709551615, .int .u64 18446744073709551615, .int .u64 18446744073709551615, .int .u64 4294968273, .int .u64 0, .int .u64 0], fv r, fv r] w fun e w' => e = .returned (fv q) ∧ Below w.heap.size w w' := by
            intro w; rw [hq]; exact mulR_any w r r lr lr
          have cX : ∀ w, Calls Tryz.prog 101 #[.agg #[.int .u64 18446744069414583343, .int .u64 18446744073709551615, .int .u64 18446744073709551615, .int .u64 18446744073709551615, .int .u64 4294968273, .int .u64 0, .int .u64 0], fv q, fv x] w fun e w' => e = .returned (fv v) ∧ Below w.heap.size w w' := by
            intro w; rw [hv]; exact mulR_any w q x lq HX.out
          have hend0 : m = 0 → q = pw x (e / 2 ^ (64 * 0 + s)) := fun h => by
            rw [hq2, hd, hmz.1 h]; rfl
          have hend1 : m ≠ 0 → v = pw x (e / 2 ^ (64 * 0 + s)) := fun h => by
            have hb1 : e0 / 2 ^ s % 2 = 1 := by have := mt hmz.2 h; omega
            rw [hv, hq2, pw_mul, hd, hb1]
          have HE := Lib.hid (And.intro hend0 (And.intro hend1 (And.intro hhalf hbe)))
          rw [← hr] at BP
          have hgt : (bt : Int) > 0 := by omega
          rw [← hbe]
          clear hr hq hv hq2 lr lq hend0 hend1 hhalf hbe hd hmz hbt
          go_wp2_with (first | ((with_reducible refine here_load (d := some 19) ?_); refine wpList_load_blk rfl _ _ rfl w.heap.size rfl _ _ _ (BM) Tryz.underlying94 rfl (by kernel_rfl) ?_) | ((with_reducible refine here_load (d := some 20) ?_); refine wpList_load_fv rfl _ _ rfl (w1.heap.size) rfl (r) _ _ _ (BP) (fv_fcs r) Tryz.underlying89 rfl (by kernel_rfl) ?_) | ((with_reducible refine here_load (d := some 21) ?_); refine wpList_load_fv rfl _ _ rfl (w1.heap.size) rfl (r) _ _ _ (BP) (fv_fcs r) Tryz.underlying89 rfl (by kernel_rfl) ?_))
          refine (cS _).mono ?_
          rintro ez u ⟨rfl, gu⟩
          have EM := Gr.blk gu BM
          have EX := Gr.blk gu BX
          have EE := Gr.blk gu BE
          have ER := Gr.blk gu BR
          have EP := Gr.blk gu BP
          have hbu := Below.gr hb gu
          clear gu cS BM BX BE BR BP hb
          have lu := EP.lt
          by_cases hm0 : m = 0
          · have hq0 := Lib.hid (HE.out.1 hm0)
            subst hm0
            clear cX
            go_wp2_with (first | ((with_reducible refine here_store ?_); refine wpList_store_blk rfl _ _ _ rfl (w1.heap.size) (fcs (q)) rfl rfl _ _ (EP) (by kernel_rfl) (by rfl) (fcs_one _) ?_; intro uz hLz hqz hKz; have FM := hKz _ (by omega) _ _ EM; have FXx := hKz _ (by omega) _ _ EX; have FE_ := hKz _ (by omega) _ _ EE; have FR := hKz _ (by omega) _ _ ER; have hbz := hbu.trans (hqz _ (by omega)); have pc : uz.cell? ⟨w.heap.size + 2, 0, none⟩ = some (.int .u64 (e0 : Int)) := FE_.cell 0))
            go_roundw
            case rel => exact ⟨s, by omega, by rw [← HE.out.2.2.1]; congr 1 <;> omega, hbz, FM, FXx, FE_, FR, Blk.eq_ hLz (by rw [hq0.out])⟩
            case measure => simp [intOf]; omega
          · have hq1 := Lib.hid (HE.out.2.1 hm0)
            have hmi : ¬ (m : Int) = 0 := by omega
            go_wp2_with (first | ((with_reducible refine here_store ?_); refine wpList_store_blk rfl _ _ _ rfl (w1.heap.size) (fcs (q)) rfl rfl _ _ (EP) (by kernel_rfl) (by rfl) (fcs_one _) ?_; intro uz hLz hqz hKz; have FM := hKz _ (by omega) _ _ EM; have FXx := hKz _ (by omega) _ _ EX; have FE_ := hKz _ (by omega) _ _ EE; have FR := hKz _ (by omega) _ _ ER; have hbz := hbu.trans (hqz _ (by omega)); have pc : uz.cell? ⟨w.heap.size + 2, 0, none⟩ = some (.int .u64 (e0 : Int)) := FE_.cell 0) | ((with_reducible refine here_load (d := some 29) ?_); refine wpList_load_blk rfl _ _ rfl w.heap.size rfl _ _ _ (FM) Tryz.underlying94 rfl (by kernel_rfl) ?_) | ((with_reducible refine here_load (d := some 30) ?_); refine wpList_load_fv rfl _ _ rfl (w1.heap.size) rfl (q) _ _ _ (hLz) (fv_fcs q) Tryz.underlying89 rfl (by kernel_rfl) ?_) | ((with_reducible refine here_load (d := some 31) ?_); refine wpList_load_fv rfl _ _ rfl (w.heap.size + 1) rfl (x) _ _ _ (FXx) (FX.out) Tryz.underlying89 rfl (by kernel_rfl) ?_))
            refine (cX _).mono ?_
            rintro ez u2 ⟨rfl, gu⟩
            have GM := Gr.blk gu FM
            have GX := Gr.blk gu FXx
            have GE := Gr.blk gu FE_
            have GR := Gr.blk gu FR
            have GP := Gr.blk gu hLz
            have hbg := Below.gr hbz gu
            clear gu cX FM FXx FE_ FR hbz
            go_wp2_with (first | ((with_reducible refine here_store ?_); refine wpList_store_blk rfl _ _ _ rfl (w1.heap.size) (fcs (v)) rfl rfl _ _ (GP) (by kernel_rfl) (by rfl) (fcs_one _) ?_; intro uy hLy hqy hKy; have JM := hKy _ (by omega) _ _ GM; have JX := hKy _ (by omega) _ _ GX; have JE := hKy _ (by omega) _ _ GE; have JR := hKy _ (by omega) _ _ GR; have hby := hbg.trans (hqy _ (by omega))))
            go_roundw
            case rel => exact ⟨s, by omega, by rw [← HE.out.2.2.1]; congr 1 <;> omega, hby, JM, JX, JE, JR, Blk.eq_ hLy (by rw [hq1.out])⟩
            case measure => simp [intOf]; omega
    · clear HI
      have BP0 : Blk wr w1.heap.size 89 (fcs (pw x e)) := by
        have h := BP
        rw [Nat.pow_zero, Nat.div_one] at h
        exact h
      obtain ⟨z, hz⟩ : ∃ z, z = pw x e := ⟨_, rfl⟩
      rw [← hz] at BP0
      have HZ := Lib.hid hz
      clear hz BP
      go_wp2_with (first | ((with_reducible refine here_load (d := some 33) ?_); refine wpList_load_fv rfl _ _ rfl (w1.heap.size) rfl (z) _ _ _ (BP0) (fv_fcs z) Tryz.underlying89 rfl (by kernel_rfl) ?_) | ((with_reducible refine here_store ?_); refine wpList_store_blk rfl _ _ _ rfl (w.heap.size + 3) (fcs (z)) rfl rfl _ _ (BR) (by kernel_rfl) (by rfl) (fcs_one _) ?_; intro vz hLz hqz hKz))
      exact bodyPost_ret (results_cell_row rfl _ _ (w.heap.size + 3) _ _ (0, 0) _ rfl hLz Tryz.underlying89 rfl (by kernel_rfl)) rfl ⟨by rw [← HZ.out]; rfl, hb.trans (hqz _ (by omega))⟩

set_option maxHeartbeats 2000000 in
set_option maxRecDepth 100000 in
theorem invRef_any (w : World) (x : Nat) (hx : x < 115792089237316195423570985008687907853269984665640564039457584007913129639936) : Calls Tryz.prog 93 #[.agg #[.int .u64 18446744069414583343, .int .u64 18446744073709551615, .int .u64 18446744073709551615, .int .u64 18446744073709551615, .int .u64 4294968273, .int .u64 0, .int .u64 0], fv x] w fun e w' => e = .returned (fv (pw x (115792089237316195423570985008687907853269984665640564039457584007908834671663 - 2))) ∧ Below w.heap.size w w' := by
  obtain ⟨p, hp⟩ : ∃ p, p = 115792089237316195423570985008687907853269984665640564039457584007908834671663 := ⟨_, rfl⟩
  obtain ⟨n2, h2⟩ : ∃ n, n = 2 := ⟨_, rfl⟩
  obtain ⟨q, hq⟩ : ∃ q, q = 115792089237316195423570985008687907853269984665640564039457584007908834671663 - 2 := ⟨_, rfl⟩
  obtain ⟨z, hz⟩ : ∃ z, z = pw x q := ⟨_, rfl⟩
  rw [← hq, ← hz]
  have cS : ∀ w, Calls Tryz.prog 144 #[.int .u64 2] w fun e w' => e = .returned (fv n2) ∧ Below w.heap.size w w' := fun w => small_at w n2 2 (by rw [h2]; rfl) (by omega)
  have cM : ∀ w, Calls Tryz.prog 143 #[fv p, fv n2] w fun e w' => e = .returned (fv q) ∧ Below w.heap.size w w' := fun w => minusR_at w p n2 q 0 rfl rfl (by omega) (by omega) (by omega) (by omega)
  have cP : ∀ w, Calls Tryz.prog 145 #[.agg #[.int .u64 18446744069414583343, .int .u64 18446744073709551615, .int .u64 18446744073709551615, .int .u64 18446744073709551615, .int .u64 4294968273, .int .u64 0, .int .u64 0], fv x, fv q] w fun e w' => e = .returned (fv z) ∧ Below w.heap.size w w' := by
    intro w; rw [hz]; exact power_any w x q hx (by omega)
  have FP : Hid (fv p = .agg #[.int .u64 18446744069414583343, .int .u64 18446744073709551615, .int .u64 18446744073709551615, .int .u64 18446744073709551615]) := Lib.hid (by rw [hp]; exact fv_P)
  obtain ⟨x0, x1, x2, x3, fx⟩ := words_fv x hx
  have FX := Lib.hid fx
  rw [fx]
  clear fx hx hp h2 hq hz
  go_enter Tryz.func93, Tryz.ntmps93
  go_wp2
  refine wp_region_G (fun j => j == 7) (by kernel_rfl) ?_
  try simp only [Act.put]
  refine wpAnyG_take 0 rfl (by kernel_rfl) (fun _ _ _ h => h) (YieldsG.load (by rfl) _ _ rfl w.heap.size 0 rfl ([.int .u64 18446744069414583343, .int .u64 18446744073709551615, .int .u64 18446744073709551615, .int .u64 18446744073709551615, .int .u64 4294968273, .int .u64 0, .int .u64 0]) _ (Blk.lt (((Blk.new w _ _).alloc _).alloc _)) (Blk.range (((Blk.new w _ _).alloc _).alloc _)) Tryz.underlying94 rfl (by kernel_rfl)) ?_
  try simp only [Act.put, List.setIfInBounds_toArray, List.set_cons_zero, List.set_cons_succ]
  refine wpAnyG_take 1 rfl (by kernel_rfl) (fun _ _ _ h => h) (YieldsG.loadF (by rfl) _ _ rfl (w.heap.size + 1) rfl (x) _ _ ((blk_new2 w _ _ _).alloc _) (FX.out) Tryz.underlying89 rfl (by kernel_rfl)) ?_
  try simp only [Act.put, List.setIfInBounds_toArray, List.set_cons_zero, List.set_cons_succ]
  refine wpAnyG_take 2 rfl (by kernel_rfl) (fun _ _ _ h => h) (YieldsG.pure (by rfl) (fun w9 _ => by go_simp; try with_reducible rfl)) ?_
  try simp only [Act.put, List.setIfInBounds_toArray, List.set_cons_zero, List.set_cons_succ]
  refine wpAnyG_take 3 rfl (by kernel_rfl) (fun _ _ _ h => h) (YieldsG.loadP (by rfl) _ _ rfl w.heap.size rfl p _ (Blk.lt (((Blk.new w _ _).alloc _).alloc _)) (mod_range (((Blk.new w _ _).alloc _).alloc _)) FP.out Tryz.underlying89 rfl (by kernel_rfl)) ?_
  try simp only [Act.put, List.setIfInBounds_toArray, List.set_cons_zero, List.set_cons_succ]
  refine wpAnyG_take 4 rfl (by kernel_rfl) (fun _ _ _ h => h) (YieldsG.call (v := fv n2) (by rfl) 144 _ (fun w9 => by go_simp; try (first | with_reducible rfl | rfl)) (fun w9 h9 => cS w9)) ?_
  try simp only [Act.put, List.setIfInBounds_toArray, List.set_cons_zero, List.set_cons_succ]
  refine wpAnyG_take 5 rfl (by kernel_rfl) (fun _ _ _ h => h) (YieldsG.call (v := fv q) (by rfl) 143 _ (fun w9 => by go_simp; try (first | with_reducible rfl | rfl)) (fun w9 h9 => cM w9)) ?_
  try simp only [Act.put, List.setIfInBounds_toArray, List.set_cons_zero, List.set_cons_succ]
  refine wpAnyG_take 6 rfl (by kernel_rfl) (fun _ _ _ h => h) (YieldsG.call (v := fv z) (by rfl) 145 _ (fun w9 => by go_simp; try (first | with_reducible rfl | rfl)) (fun w9 h9 => cP w9)) ?_
  try simp only [Act.put, List.setIfInBounds_toArray, List.set_cons_zero, List.set_cons_succ]
  refine wpAnyG_store 7 rfl (by kernel_rfl) (by rfl) _ _ _ rfl (w.heap.size + 2) (fcs (z)) rfl rfl _ _ (blk_new3 w _ _ _ _) (by kernel_rfl) (by rfl) (fcs_one _) rfl (fun w6 h6 w7 hB7 hL7 => ?_)
  try simp only [Act.put]
  refine wpAnyG_done (by kernel_rfl) (fun w8 h8 => ?_)
  have hfin := Gr.blk h8 hL7
  have hb9 := (Below.gr (below_alloc3 w _ _ _) h6).trans ((hB7 _ (by omega)).trans (Below.mono h8 (by have := hL7.lt; omega)))
  go_wp2
  exact bodyPost_ret (results_cell_row rfl _ _ (w.heap.size + 2) _ _ (0, 0) _ rfl hfin Tryz.underlying89 rfl (by kernel_rfl)) rfl ⟨rfl, hb9⟩
end Go.Proofs.YtbofhoonlmikcaaGreatDoor

end
section
namespace Go.Proofs.YtbofhoonlmikcaaGreatDoor
open Go.RowKit Go.Lib

def byteN (z j : Nat) : UInt8 := UInt8.ofNat (z / 2 ^ (8 * j) % 256)
def lowB (z : Nat) : Nat → List UInt8
  | 0 => []
  | k + 1 => byteN z k :: lowB z k
theorem lowB_length (z : Nat) : ∀ k, (lowB z k).length = k
  | 0 => rfl
  | k + 1 => by rw [lowB, List.length_cons, lowB_length z k]
def bytesS (z : Nat) : List UInt8 := lowB z 32
def partB (z k : Nat) : List UInt8 := List.replicate (32 - k) 0 ++ lowB z k
theorem partB_length (z k : Nat) (h : k ≤ 32) : (partB z k).length = 32 := by simp [partB, lowB_length]; omega
theorem partB_full (z : Nat) : partB z 32 = bytesS z := by simp [partB, bytesS]
theorem partB_set (z k : Nat) (h : k < 32) : ((partB z k).map bv).toArray.setIfInBounds (31 - k) (bv (byteN z k)) = ((partB z (k + 1)).map bv).toArray := by
  rw [List.setIfInBounds_toArray]
  congr 1
  rw [← List.map_set]
  congr 1
  unfold partB
  rw [List.set_append_left _ _ (by simp; omega)]
  obtain ⟨m, hm⟩ : ∃ m, 32 - k = m + 1 := ⟨31 - k, by omega⟩
  have h2 : 32 - (k + 1) = m := by omega
  have h3 : 31 - k = m := by omega
  rw [hm, h2, h3, List.replicate_succ', List.set_append_right _ _ (by simp)]
  simp [lowB]
theorem bytesS_length (z : Nat) : (bytesS z).length = 32 := lowB_length z 32
theorem bv_byteN (z j : Nat) : bv (byteN z j) = .int .u8 ((z / 2 ^ (8 * j) % 256 : Nat) : Int) := by
  unfold bv byteN
  congr 2
  rw [UInt8.toNat_ofNat']
  omega
theorem Blk.val {w : World} {a : Addr} {v v' : Value} {g : Nat} {t : TypeId} {cs : Array Value} (h : Blk (w.setCell a v) g t cs) (e : v = v') : Blk (w.setCell a v') g t cs := e ▸ h
theorem b32_info {l : List UInt8} (h : l.length = 32) : (Tryz.prog.info? 30).map (·.size) = some (l.map bv).toArray.size := by
  simp only [List.size_toArray, List.length_map, h]
  kernel_rfl
theorem b32_one (l : List UInt8) : (l.map bv).toArray.all (·.oneCell') = true := by simp [bv, Value.oneCell']

def valB (l : List UInt8) : Nat := l.foldl (fun a b => a * 256 + b.toNat) 0
theorem valB_snoc (l : List UInt8) (c : UInt8) : valB (l ++ [c]) = valB l * 256 + c.toNat := by simp [valB, List.foldl_append]
theorem valB_lt : ∀ (n : Nat) (l : List UInt8), l.length = n → valB l < 256 ^ n
  | 0, l, h => by
    obtain rfl : l = [] := List.length_eq_zero_iff.1 h
    simp [valB]
  | n + 1, l, h => by
    have hne : l ≠ [] := by intro e; rw [e] at h; cases h
    have e := List.dropLast_concat_getLast hne
    have ih := valB_lt n l.dropLast (by rw [List.length_dropLast]; omega)
    rw [← e, valB_snoc, Nat.pow_succ]
    have := (l.getLast hne).toNat_lt
    omega
theorem valB_append (l : List UInt8) : ∀ (n : Nat) (m : List UInt8), m.length = n → valB (l ++ m) = valB l * 256 ^ n + valB m
  | 0, m, h => by
    obtain rfl : m = [] := List.length_eq_zero_iff.1 h
    simp [valB]
  | n + 1, m, h => by
    have hne : m ≠ [] := by intro e; rw [e] at h; cases h
    have e := List.dropLast_concat_getLast hne
    have ih := valB_append l n m.dropLast (by rw [List.length_dropLast]; omega)
    rw [← e, ← List.append_assoc, valB_snoc, valB_snoc, ih, Nat.pow_succ, Nat.add_mul, Nat.mul_assoc]
    omega
def wdB (l : List UInt8) (k p : Nat) : Nat := valB ((l.drop (8 * p)).take (min 8 (k - 8 * p)))
theorem wdB_zero (l : List UInt8) (p : Nat) : wdB l 0 p = 0 := by simp [wdB, valB]
theorem wdB_step (l : List UInt8) (k p : Nat) (c : UInt8) (h : l[k]? = some c) (hp : k / 8 = p) : wdB l (k + 1) p = wdB l k p * 256 + c.toNat := by
  unfold wdB
  rw [show min 8 (k + 1 - 8 * p) = (k - 8 * p) + 1 by omega, show min 8 (k - 8 * p) = k - 8 * p by omega, List.take_add_one, List.getElem?_drop, show 8 * p + (k - 8 * p) = k by omega, h]
  exact valB_snoc _ _
theorem wdB_same (l : List UInt8) (k p : Nat) (hp : k / 8 ≠ p) : wdB l (k + 1) p = wdB l k p := by
  unfold wdB
  rw [show min 8 (k + 1 - 8 * p) = min 8 (k - 8 * p) by omega]
theorem wdB_lt (l : List UInt8) (k p : Nat) (hp : k / 8 = p) : wdB l k p < 72057594037927936 := by
  unfold wdB
  have h := valB_lt _ ((l.drop (8 * p)).take (min 8 (k - 8 * p))) rfl
  refine Nat.lt_of_lt_of_le h ?_
  have : ((l.drop (8 * p)).take (min 8 (k - 8 * p))).length ≤ 7 := by rw [List.length_take]; omega
  exact Nat.pow_le_pow_right (by omega) this
theorem wdB_all (l : List UInt8) (h : l.length = 32) : valB l = wdB l 32 3 + 18446744073709551616 * wdB l 32 2 + 340282366920938463463374607431768211456 * wdB l 32 1 + 6277101735386680763835789423207666416102355444464034512896 * wdB l 32 0 := by
  have e : l = (l.take 8 ++ (l.drop 8).take 8) ++ ((l.drop 16).take 8 ++ (l.drop 24).take 8) := by
    conv => lhs; rw [← List.take_append_drop 16 l, ← List.take_append_drop 8 (l.take 16), ← List.take_append_drop 8 (l.drop 16)]
    congr 2
    · rw [List.take_take]; rfl
    · rw [List.drop_take]
    · rw [List.drop_drop, List.take_of_length_le (by simp; omega)]
  have w0 : wdB l 32 0 = valB (l.take 8) := rfl
  have w1 : wdB l 32 1 = valB ((l.drop 8).take 8) := rfl
  have w2 : wdB l 32 2 = valB ((l.drop 16).take 8) := rfl
  have w3 : wdB l 32 3 = valB ((l.drop 24).take 8) := rfl
  conv => lhs; rw [e]
  rw [valB_append _ 16 _ (by simp; omega), valB_append _ 8 _ (by simp; omega), valB_append _ 8 _ (by simp; omega), w0, w1, w2, w3]
  have p8 : (256 : Nat) ^ 8 = 18446744073709551616 := by decide
  have p16 : (256 : Nat) ^ 16 = 340282366920938463463374607431768211456 := by decide
  rw [p8, p16, Nat.add_mul, Nat.mul_assoc]
  omega
theorem wdB_lt8 (l : List UInt8) (k p : Nat) : wdB l k p < 18446744073709551616 := by
  unfold wdB
  have h := valB_lt _ ((l.drop (8 * p)).take (min 8 (k - 8 * p))) rfl
  refine Nat.lt_of_lt_of_le h ?_
  have : ((l.drop (8 * p)).take (min 8 (k - 8 * p))).length ≤ 8 := by rw [List.length_take]; omega
  exact Nat.pow_le_pow_right (by omega) this
theorem or_add (w c : Nat) (hw : w < 72057594037927936) (hc : c < 256) : bits .or .u64 ((w : Int) * 256) (c : Int) = ((w * 256 + c : Nat) : Int) := by
  have e : ((w : Int) * 256) = ((w * 256 : Nat) : Int) := by omega
  rw [e]
  have h : w * 256 ||| c = w * 256 + c := by
    have := Nat.two_pow_add_eq_or_of_lt (i := 8) (b := c) (by omega) w
    rw [Nat.mul_comm w 256]
    exact this.symm
  have hw2 : (BitVec.ofInt 64 ((w * 256 : Nat) : Int) ||| BitVec.ofInt 64 (c : Int)).toNat = w * 256 + c := by
    rw [BitVec.toNat_or]
    simp only [BitVec.ofInt_natCast, BitVec.toNat_ofNat]
    rw [Nat.mod_eq_of_lt (by omega), Nat.mod_eq_of_lt (by omega), h]
  show IntKind.u64.wrap ((BitVec.ofInt 64 ((w * 256 : Nat) : Int) ||| BitVec.ofInt 64 (c : Int)).toNat : Int) = _
  rw [hw2, IntKind.wrap_u64]
  omega
theorem run_index_b32 (W : World) (l : List UInt8) (k : Nat) (c : UInt8) (h : l[k]? = some c) (hk : k < 32) :
    (Instr.index 30 (.agg (l.map bv).toArray) (.int .i64 (k : Int))).run Tryz.prog W = .ok (bv c) W := by
  unfold Instr.index
  have hs : ∀ W, (sizeOf 5).run Tryz.prog W = .ok 1 W := fun W => by kernel_rfl
  have pc : (part 5 (l.map bv).toArray ((k : Int).toNat * 1)).run Tryz.prog W = .ok (bv c) W := by
    simp [part, isAgg, run_underlying Tryz.underlying5, h]
  simp only [asIntOf, Sem.run_bind, Sem.run_pure, Result.andThen_ok, run_underlying Tryz.underlying30]
  rw [if_pos ⟨by omega, by omega⟩]
  simp only [Sem.run_bind, hs, Result.andThen_ok, pc]

end Go.Proofs.YtbofhoonlmikcaaGreatDoor

end
section
namespace Go.Proofs.YtbofhoonlmikcaaGreatDoor
open Go.RowKit Sp

end Go.Proofs.YtbofhoonlmikcaaGreatDoor

end
section
namespace Go.Proofs.YtbofhoonlmikcaaGreatDoor
open Go.RowKit Go.Lib

set_option maxHeartbeats 2000000 in
set_option maxRecDepth 100000 in
theorem rightR_any (w : World) (x : Nat) (hx : x < 115792089237316195423570985008687907853269984665640564039457584007913129639936) : Calls Tryz.prog 55 #[modV, fv x] w fun e w' => e = .returned (.bool (decide (x < pM))) ∧ Below w.heap.size w w' := by
  obtain ⟨p, hp⟩ : ∃ p, p = 115792089237316195423570985008687907853269984665640564039457584007908834671663 := ⟨_, rfl⟩
  obtain ⟨b, hb⟩ : ∃ b, b = decide (x < pM) := ⟨_, rfl⟩
  have cb : ∀ w, Calls Tryz.prog 110 #[fv x, fv p] w fun e w' => e = .returned (.bool b) ∧ Below w.heap.size w w' := by
    intro w; rw [hb, pM_eq, ← hp]; exact below_at w x p rfl rfl hx (by omega)
  have hpc : fv p = .agg #[.int .u64 18446744069414583343, .int .u64 18446744073709551615, .int .u64 18446744073709551615, .int .u64 18446744073709551615] := by rw [hp]; exact fv_P
  obtain ⟨x0, x1, x2, x3, fx⟩ := words_fv x hx
  have FX := Lib.hid fx
  have FP := Lib.hid hpc
  rw [fx, ← hb]
  unfold modV
  clear fx hpc hx hp hb
  go_enter Tryz.func55, Tryz.ntmps55
  go_wp2_with (first | ((with_reducible refine here_load (d := some 5) ?_); refine wpList_load_fv rfl _ _ rfl (w.heap.size + 1) rfl (x) _ _ _ (blk_new2 w _ _ _) (FX.out) Tryz.underlying89 rfl (by kernel_rfl) ?_) | ((with_reducible refine here_load (d := some 7) ?_); refine wpList_load_part rfl _ _ rfl w.heap.size rfl p [.int .u64 18446744069414583343, .int .u64 18446744073709551615, .int .u64 18446744073709551615, .int .u64 18446744073709551615] _ (mod_range ((Blk.new w _ _).alloc _)) FP.out Tryz.underlying89 rfl (by kernel_rfl) ?_))
  refine (cb _).mono ?_
  rintro e w1 ⟨rfl, k1⟩
  go_wp2
  go_ret
  exact ⟨rfl, Below.gr (below_alloc2 w _ _) k1⟩

end Go.Proofs.YtbofhoonlmikcaaGreatDoor

end
section
namespace Go.Proofs.YtbofhoonlmikcaaGreatDoor.Cu
open Go.RowKit Go.Proofs.YtbofhoonlmikcaaGreatDoor Go.Proofs.YtbofhoonlmikcaaGreatDoor.Sy
set_option maxRecDepth 100000
set_option maxHeartbeats 4000000

def modcs : Array Value := #[.int .u64 18446744069414583343, .int .u64 18446744073709551615, .int .u64 18446744073709551615, .int .u64 18446744073709551615, .int .u64 4294968273, .int .u64 0, .int .u64 0]
def mod0 : Array Value := #[.int .u64 0, .int .u64 0, .int .u64 0, .int .u64 0, .int .u64 0, .int .u64 0, .int .u64 0]
theorem refmul_c (w : World) (a b : Fp) : Calls Tryz.prog 101 #[.agg modcs, fv a.val, fv b.val] w (Gets w (fv (a * b).val)) := mulR_any w a.val b.val (lt4 a) (lt4 b)
theorem refadd_c (w : World) (a b : Fp) : Calls Tryz.prog 75 #[.agg modcs, fv a.val, fv b.val] w (Gets w (fv (a + b).val)) := addR_any w a.val b.val (lt4 a) (lt4 b)
theorem refsub_c (w : World) (a b : Fp) : Calls Tryz.prog 146 #[.agg modcs, fv a.val, fv b.val] w (Gets w (fv (a - b).val)) := by rw [← val_sub]; exact subR_any w a.val b.val (lt4 a) (lt4 b)
theorem inv_pw (a : Nat) : invR a = pw a (115792089237316195423570985008687907853269984665640564039457584007908834671663 - 2) := by
  have h := invR_pow a
  rw [invR_red] at h
  rw [h, ← eInv_is]
  rfl
theorem refinv_c (w : World) (a : Fp) : Calls Tryz.prog 93 #[.agg modcs, fv a.val] w (Gets w (fv (finv a).val)) := by
  have e : (finv a).val = invR a.val := rfl
  have h := invRef_any w a.val (lt4 a)
  rw [← inv_pw, ← e] at h
  exact h
theorem eql_num (w : World) (F : Slots) (o : Oper) (x y : Operand) (n m : Nat) {yt : TypeId} (ho : o.op = .binOp .eql 89 x y yt) (hx : evF F x = fv n) (hy : evF F y = fv m) (hn : n < K4) (hm : m < K4) : (execOp (evF F) o).run Tryz.prog w = .ok (.value (.bool (decide (n = m)))) w := by
  have h1 := Nm.run_eqGuard_fv .eql x y n m w
  have h2 := Nm.run_eql_fv w n m hn hm
  unfold execOp
  simp only [ho, hx, hy, Sem.run_bind, h1, h2, Result.andThen_ok, Sem.run_pure]
theorem small_c (w : World) (k : Nat) (hk : k < 18446744073709551616) : Calls Tryz.prog 144 #[.int .u64 (k : Int)] w (Gets w (fv k)) := by
  rw [fv_small k hk]
  refine Sy.enter (args := [.int .u64 (k : Int)]) Tryz.func144 rfl kL ?_
  refine sC ?_
  refine sM 89 (fcs 0) (fun g0 => ?_)
  refine sA ?_
  refine sP (.int .u64 (k : Int)) <| sP (.agg #[.int .u64 (k : Int), .int .u64 0, .int .u64 0, .int .u64 0]) <| sW 0 g0 89 (fcs 0) #[.int .u64 (k : Int), .int .u64 0, .int .u64 0, .int .u64 0] (wS 0 89 #[.int .u64 (k : Int), .int .u64 0, .int .u64 0, .int .u64 0] rfl) ?_
  refine sG ?_
  refine Sy.ret ?_
  exact Sy.ret1 rfl (.inl (Res.cell (ty' := 89) g0 0 #[.int .u64 (k : Int), .int .u64 0, .int .u64 0, .int .u64 0] _ kR kR Tryz.underlying89 rfl kR kR))
theorem mulR_c (w : World) (a b : Fp) : Calls Tryz.prog 94 #[fv a.val, fv b.val] w (Gets w (fv (a * b).val)) := by
  refine Sy.enter (args := [fv a.val, fv b.val]) Tryz.func94 rfl kL ?_
  refine sC ?_
  refine sM 89 (fcs a.val) (fun g0 => ?_)
  refine sM 89 (fcs b.val) (fun g1 => ?_)
  refine sM 89 (fcs 0) (fun g2 => ?_)
  refine sH (fun j => j == 4) ?_
  refine sD 0 rfl (.agg modcs) (qF 56 #[] (refP_any)) <| sD 1 rfl (fv a.val) (qL 0 g0 0 4 89 89 (fcs a.val) rfl Tryz.underlying89) <| sD 2 rfl (fv b.val) (qL 1 g1 0 4 89 89 (fcs b.val) rfl Tryz.underlying89) ?_
  obtain ⟨z1, hz1⟩ : ∃ z : Fp, z = a * b := ⟨_, rfl⟩
  refine sD 3 rfl (fv z1.val) (qF 101 #[.agg modcs, fv a.val, fv b.val] (fun w => by rw [hz1]; exact refmul_c w a b)) <| sX 4 rfl 2 g2 89 (fcs 0) (fcs z1.val) (wS 0 89 (fcs z1.val) rfl) ?_
  refine sI ?_
  refine Sy.ret ?_
  rw [show (fv (a * b).val : Value) = fv z1.val from by rw [hz1]]
  exact rC (v := fv z1.val) 89 g2 2 (fcs z1.val) rfl Tryz.underlying89
theorem addR_c (w : World) (a b : Fp) : Calls Tryz.prog 112 #[fv a.val, fv b.val] w (Gets w (fv (a + b).val)) := by
  refine Sy.enter (args := [fv a.val, fv b.val]) Tryz.func112 rfl kL ?_
  refine sC ?_
  refine sM 89 (fcs a.val) (fun g0 => ?_)
  refine sM 89 (fcs b.val) (fun g1 => ?_)
  refine sM 89 (fcs 0) (fun g2 => ?_)
  refine sH (fun j => j == 4) ?_
  refine sD 0 rfl (.agg modcs) (qF 56 #[] (refP_any)) <| sD 1 rfl (fv a.val) (qL 0 g0 0 4 89 89 (fcs a.val) rfl Tryz.underlying89) <| sD 2 rfl (fv b.val) (qL 1 g1 0 4 89 89 (fcs b.val) rfl Tryz.underlying89) ?_
  obtain ⟨z1, hz1⟩ : ∃ z : Fp, z = a + b := ⟨_, rfl⟩
  refine sD 3 rfl (fv z1.val) (qF 75 #[.agg modcs, fv a.val, fv b.val] (fun w => by rw [hz1]; exact refadd_c w a b)) <| sX 4 rfl 2 g2 89 (fcs 0) (fcs z1.val) (wS 0 89 (fcs z1.val) rfl) ?_
  refine sI ?_
  refine Sy.ret ?_
  rw [show (fv (a + b).val : Value) = fv z1.val from by rw [hz1]]
  exact rC (v := fv z1.val) 89 g2 2 (fcs z1.val) rfl Tryz.underlying89
theorem subR_c (w : World) (a b : Fp) : Calls Tryz.prog 111 #[fv a.val, fv b.val] w (Gets w (fv (a - b).val)) := by
  refine Sy.enter (args := [fv a.val, fv b.val]) Tryz.func111 rfl kL ?_
  refine sC ?_
  refine sM 89 (fcs a.val) (fun g0 => ?_)
  refine sM 89 (fcs b.val) (fun g1 => ?_)
  refine sM 89 (fcs 0) (fun g2 => ?_)
  refine sH (fun j => j == 4) ?_
  refine sD 0 rfl (.agg modcs) (qF 56 #[] (refP_any)) <| sD 1 rfl (fv a.val) (qL 0 g0 0 4 89 89 (fcs a.val) rfl Tryz.underlying89) <| sD 2 rfl (fv b.val) (qL 1 g1 0 4 89 89 (fcs b.val) rfl Tryz.underlying89) ?_
  obtain ⟨z1, hz1⟩ : ∃ z : Fp, z = a - b := ⟨_, rfl⟩
  refine sD 3 rfl (fv z1.val) (qF 146 #[.agg modcs, fv a.val, fv b.val] (fun w => by rw [hz1]; exact refsub_c w a b)) <| sX 4 rfl 2 g2 89 (fcs 0) (fcs z1.val) (wS 0 89 (fcs z1.val) rfl) ?_
  refine sI ?_
  refine Sy.ret ?_
  rw [show (fv (a - b).val : Value) = fv z1.val from by rw [hz1]]
  exact rC (v := fv z1.val) 89 g2 2 (fcs z1.val) rfl Tryz.underlying89
theorem zeroR_c (w : World)  : Calls Tryz.prog 62 #[] w (Gets w (pv 0 0 true)) := by
  refine Sy.enter (args := []) Tryz.func62 rfl kL ?_
  refine sC ?_
  refine sM 52 (pcs 0 0 false) (fun g0 => ?_)
  refine sA ?_
  refine sP (pv 0 0 true) <| sW 0 g0 52 (pcs 0 0 false) (pcs 0 0 true) (wS 0 52 (pcs 0 0 true) rfl) ?_
  refine sG ?_
  refine Sy.ret ?_
  exact rC (v := pv 0 0 true) 52 g0 0 (pcs 0 0 true) rfl Tryz.underlying52
theorem baseR_c (w : World)  : Calls Tryz.prog 43 #[] w (Gets w (ptv bP)) := by
  refine Sy.enter (args := []) Tryz.func43 rfl kL ?_
  refine sC ?_
  refine sM 52 (pcs 0 0 false) (fun g0 => ?_)
  refine sA ?_
  refine sP (fv 55066263022277343669578718895168534326250603453777594175500187360389116729240) <| sP (fv 32670510020758816978083085130507043184471273380659243275938904335757337482424) <| sP (pv 55066263022277343669578718895168534326250603453777594175500187360389116729240 32670510020758816978083085130507043184471273380659243275938904335757337482424 false) <| sW 0 g0 52 (pcs 0 0 false) (pcs 55066263022277343669578718895168534326250603453777594175500187360389116729240 32670510020758816978083085130507043184471273380659243275938904335757337482424 false) (wS 0 52 (pcs 55066263022277343669578718895168534326250603453777594175500187360389116729240 32670510020758816978083085130507043184471273380659243275938904335757337482424 false) rfl) ?_
  refine sG ?_
  refine Sy.ret ?_
  rw [show (ptv bP : Value) = pv 55066263022277343669578718895168534326250603453777594175500187360389116729240 32670510020758816978083085130507043184471273380659243275938904335757337482424 false from by kernel_rfl]
  exact rC (v := pv 55066263022277343669578718895168534326250603453777594175500187360389116729240 32670510020758816978083085130507043184471273380659243275938904335757337482424 false) 52 g0 0 (pcs 55066263022277343669578718895168534326250603453777594175500187360389116729240 32670510020758816978083085130507043184471273380659243275938904335757337482424 false) rfl Tryz.underlying52
theorem cubeR_c (w : World) (x : Fp) : Calls Tryz.prog 109 #[fv x.val] w (Gets w (fv (x * x * x + 7).val)) := by
  refine Sy.enter (args := [fv x.val]) Tryz.func109 rfl kL ?_
  refine sC ?_
  refine sM 89 (fcs x.val) (fun g0 => ?_)
  refine sM 89 (fcs 0) (fun g1 => ?_)
  refine sH (fun j => j == 7) ?_
  refine sD 0 rfl (fv x.val) (qL 0 g0 0 4 89 89 (fcs x.val) rfl Tryz.underlying89) <| sD 1 rfl (fv x.val) (qL 0 g0 0 4 89 89 (fcs x.val) rfl Tryz.underlying89) <| sD 2 rfl (fv x.val) (qL 0 g0 0 4 89 89 (fcs x.val) rfl Tryz.underlying89) ?_
  obtain ⟨z1, hz1⟩ : ∃ z : Fp, z = x * x := ⟨_, rfl⟩
  refine sD 3 rfl (fv z1.val) (qF 94 #[fv x.val, fv x.val] (fun w => by rw [hz1]; exact mulR_c w x x)) ?_
  obtain ⟨z2, hz2⟩ : ∃ z : Fp, z = x * z1 := ⟨_, rfl⟩
  refine sD 4 rfl (fv z2.val) (qF 94 #[fv x.val, fv z1.val] (fun w => by rw [hz2]; exact mulR_c w x z1)) ?_
  obtain ⟨z3, hz3⟩ : ∃ z : Fp, z = (7 : Fp) := ⟨_, rfl⟩
  refine sD 5 rfl (fv z3.val) (qF 144 #[.int .u64 7] (fun w => by rw [hz3]; exact small_c w 7 (by decide))) ?_
  obtain ⟨z4, hz4⟩ : ∃ z : Fp, z = z2 + z3 := ⟨_, rfl⟩
  refine sD 6 rfl (fv z4.val) (qF 112 #[fv z2.val, fv z3.val] (fun w => by rw [hz4]; exact addR_c w z2 z3)) <| sX 7 rfl 1 g1 89 (fcs 0) (fcs z4.val) (wS 0 89 (fcs z4.val) rfl) ?_
  refine sI ?_
  refine Sy.ret ?_
  rw [show (fv (x * x * x + 7).val : Value) = fv z4.val from by
    refine congrArg (fun t : Fp => fv t.val) ?_
    grobner]
  exact rC (v := fv z4.val) 89 g1 1 (fcs z4.val) rfl Tryz.underlying89
theorem pointR_c (w : World) (x y : Nat) (hx : x < K4) (hy : y < K4) : Calls Tryz.prog 95 #[fv x, fv y] w (Gets w (pv x y false)) := by
  refine Sy.enter (args := [fv x, fv y]) Tryz.func95 rfl kL ?_
  refine sC ?_
  refine sM 89 (fcs x) (fun g0 => ?_)
  refine sM 89 (fcs y) (fun g1 => ?_)
  refine sM 52 (pcs 0 0 false) (fun g2 => ?_)
  refine sH (fun j => j == 5) ?_
  refine sD 0 rfl (fv x) (qL 0 g0 0 4 89 89 (fcs x) rfl Tryz.underlying89) <| sD 1 rfl (fv x) (qF 60 #[fv x] (fun w => refFe_any w x lK)) <| sD 2 rfl (fv y) (qL 1 g1 0 4 89 89 (fcs y) rfl Tryz.underlying89) <| sD 3 rfl (fv y) (qF 60 #[fv y] (fun w => refFe_any w y lK)) <| sZ 4 rfl (pv x y false) <| sX 5 rfl 2 g2 52 (pcs 0 0 false) (pcs x y false) (wS 0 52 (pcs x y false) rfl) ?_
  refine sI ?_
  refine Sy.ret ?_
  exact rC (v := pv x y false) 52 g2 2 (pcs x y false) rfl Tryz.underlying52
theorem rightR_b (w : World) (x y : Nat) (i : Bool) (hx : x < K4) (hy : y < K4) : Calls Tryz.prog 69 #[pv x y i] w (Gets w (.bool (rightB x y i))) := by
  refine Sy.enter (args := [pv x y i]) Tryz.func69 rfl kL ?_
  refine sC ?_
  refine sM 52 (pcs x y i) (fun g0 => ?_)
  refine sP (.bool false) ?_
  refine sG ?_
  refine Sy.seq ?_
  refine sC ?_
  refine sP (.pointer (some ⟨g0, 8, none⟩)) <| sS (.bool i) (qC 0 g0 8 52 4 (pcs x y i) rfl Tryz.underlying4) ?_
  refine sG ?_
  cases i
  · refine sU ?_
    refine Sy.skip ?_
    refine sB ?_
    refine sP (.pointer (some ⟨g0, 0, none⟩)) <| sS (fv x) (qL 0 g0 0 4 52 50 (pcs x y false) rfl Tryz.underlying50) <| sS (fv x) (qF 90 #[fv x] (fun w => refOf_any w x lK)) ?_
    refine sM 89 (fcs 0) (fun g1 => ?_)
    refine sW 1 g1 89 (fcs 0) (fcs x) (wS 0 89 (fcs x) rfl) ?_
    refine sA ?_
    refine sP (.pointer (some ⟨g0, 4, none⟩)) <| sS (fv y) (qL 0 g0 4 4 52 50 (pcs x y false) rfl Tryz.underlying50) <| sS (fv y) (qF 90 #[fv y] (fun w => refOf_any w y lK)) ?_
    refine sM 89 (fcs 0) (fun g2 => ?_)
    refine sW 2 g2 89 (fcs 0) (fcs y) (wS 0 89 (fcs y) rfl) ?_
    refine sA ?_
    refine sS (.agg modcs) (qF 56 #[] (refP_any)) ?_
    refine sM 94 mod0 (fun g3 => ?_)
    refine sW 3 g3 94 mod0 modcs (wS 0 94 modcs rfl) ?_
    refine sA ?_
    refine sS (.agg modcs) (qL 3 g3 0 7 94 94 modcs rfl Tryz.underlying94) <| sS (fv x) (qL 1 g1 0 4 89 89 (fcs x) rfl Tryz.underlying89) ?_
    obtain ⟨b1, hb1⟩ : ∃ z : Bool, z = decide (x < pM) := ⟨_, rfl⟩
    refine sS (.bool b1) (qF 55 #[.agg modcs, fv x] (fun w => by rw [hb1]; exact rightR_any w x lK)) <| sP (.bool b1) ?_
    refine sA ?_
    refine sS (.agg modcs) (qL 3 g3 0 7 94 94 modcs rfl Tryz.underlying94) <| sS (fv y) (qL 2 g2 0 4 89 89 (fcs y) rfl Tryz.underlying89) ?_
    obtain ⟨b2, hb2⟩ : ∃ z : Bool, z = decide (y < pM) := ⟨_, rfl⟩
    refine sS (.bool b2) (qF 55 #[.agg modcs, fv y] (fun w => by rw [hb2]; exact rightR_any w y lK)) <| sP (.bool b2) ?_
    refine sH (fun j => false) ?_
    refine sZ 0 rfl (.bool b1) <| sZ 1 rfl (.bool b1) ?_
    cases b1
    · refine sQ 2 rfl <| sZ 3 rfl (.bool false) <| sZ 4 rfl (.bool false) <| sQ 5 rfl <| sQ 6 rfl <| sQ 7 rfl <| sQ 8 rfl <| sQ 9 rfl ?_
      refine sQ 10 rfl <| sZ 11 rfl (.bool false) <| sZ 12 rfl (.bool false) ?_
      refine sI ?_
      refine Sy.ret ?_
      rw [show (.bool (rightB x y false) : Value) = .bool false from by rw [rb_x (of_decide_eq_false hb1.symm)]]
      exact rV (.bool false) rfl
    · obtain ⟨ux, rfl⟩ : ∃ u : Fp, x = u.val := ⟨⟨x, of_decide_eq_true hb1.symm⟩, rfl⟩
      refine sZ 2 rfl (.bool b2) <| sZ 3 rfl (.bool b2) <| sZ 4 rfl (.bool b2) ?_
      cases b2
      · refine sQ 5 rfl <| sQ 6 rfl <| sQ 7 rfl <| sQ 8 rfl <| sQ 9 rfl <| sQ 10 rfl <| sZ 11 rfl (.bool false) <| sZ 12 rfl (.bool false) ?_
        refine sI ?_
        refine Sy.ret ?_
        rw [show (.bool (rightB ux.val y false) : Value) = .bool false from by rw [rb_y (of_decide_eq_false hb2.symm)]]
        exact rV (.bool false) rfl
      · obtain ⟨uy, rfl⟩ : ∃ u : Fp, y = u.val := ⟨⟨y, of_decide_eq_true hb2.symm⟩, rfl⟩
        refine sD 5 rfl (fv uy.val) (qL 2 g2 0 4 89 89 (fcs uy.val) rfl Tryz.underlying89) <| sD 6 rfl (fv uy.val) (qL 2 g2 0 4 89 89 (fcs uy.val) rfl Tryz.underlying89) ?_
        obtain ⟨z1, hz1⟩ : ∃ z : Fp, z = uy * uy := ⟨_, rfl⟩
        refine sD 7 rfl (fv z1.val) (qF 94 #[fv uy.val, fv uy.val] (fun w => by rw [hz1]; exact mulR_c w uy uy)) <| sD 8 rfl (fv ux.val) (qL 1 g1 0 4 89 89 (fcs ux.val) rfl Tryz.underlying89) ?_
        obtain ⟨z2, hz2⟩ : ∃ z : Fp, z = ux * ux * ux + 7 := ⟨_, rfl⟩
        refine sD 9 rfl (fv z2.val) (qF 109 #[fv ux.val] (fun w => by rw [hz2]; exact cubeR_c w ux)) ?_
        obtain ⟨b3, hb3⟩ : ∃ z : Bool, z = decide (z1.val = z2.val) := ⟨_, rfl⟩
        refine sD 10 rfl (.bool b3) (Quiet.pure (fun w => by rw [hb3]; exact eql_num w _ _ _ _ _ _ rfl rfl rfl lK lK)) <| sZ 11 rfl (.bool b3) <| sZ 12 rfl (.bool b3) ?_
        refine sI ?_
        refine Sy.ret ?_
        rw [show (.bool (rightB ux.val uy.val false) : Value) = .bool b3 from by rw [hb3, rb_xy]; simp only [hz2, hz1]]
        exact rV (.bool b3) rfl
  · refine sT ?_
    refine Sy.seq ?_
    refine Sy.regionD (fun j => false) kR ?_
    refine sD 0 rfl (pv x y true) (qL 0 g0 0 9 52 52 (pcs x y true) rfl Tryz.underlying52) <| sD 1 rfl (pv 0 0 true) (qF 62 #[] (zeroR_c)) ?_
    obtain ⟨b4, hb4⟩ : ∃ z : Bool, z = sameB x y true 0 0 true := ⟨_, rfl⟩
    refine sD 2 rfl (.bool b4) (Quiet.pure (fun w => by rw [hb4]; exact eql_pt w _ _ _ _ _ _ _ _ _ _ rfl rfl rfl lK lK lK lK)) <| sZ 3 rfl (.bool b4) ?_
    refine sI ?_
    refine Sy.ret ?_
    refine Sy.then_ret ?_
    rw [show (.bool (rightB x y true) : Value) = .bool b4 from by rw [hb4, rightB_inf]]
    exact rV (.bool b4) rfl
theorem taken_c (w : World) (x y : Nat) (i : Bool) (hx : x < K4) (hy : y < K4) : Calls Tryz.prog 88 #[pv x y i] w (Gets w (ptv (dec x y i))) := by
  refine Sy.enter (args := [pv x y i]) Tryz.func88 rfl kL ?_
  refine sC ?_
  refine sM 52 (pcs x y i) (fun g0 => ?_)
  refine sM 52 (pcs 0 0 false) (fun g1 => ?_)
  refine sA ?_
  refine sS (pv x y i) (qL 0 g0 0 9 52 52 (pcs x y i) rfl Tryz.underlying52) ?_
  obtain ⟨b1, hb1⟩ : ∃ z : Bool, z = rightB x y i := ⟨_, rfl⟩
  refine sS (.bool b1) (qF 69 #[pv x y i] (by rw [hb1]; exact fun w => rightR_b w x y i lK lK)) <| sP (.bool b1) ?_
  refine sG ?_
  refine Sy.seq ?_
  refine sC ?_
  refine sP (.bool b1) ?_
  cases b1
  · refine sP (.bool true) ?_
    refine sG ?_
    refine sT ?_
    refine sC ?_
    refine sS (pv 0 0 true) (qF 62 #[] (zeroR_c)) <| sW 1 g1 52 (pcs 0 0 false) (pcs 0 0 true) (wS 0 52 (pcs 0 0 true) rfl) ?_
    refine sG ?_
    refine Sy.ret ?_
    refine Sy.then_ret ?_
    rw [show (ptv (dec x y i) : Value) = pv 0 0 true from ptv_wrong x y i hb1.symm]
    exact rC (v := pv 0 0 true) 52 g1 1 (pcs 0 0 true) rfl Tryz.underlying52
  · refine sP (.bool false) ?_
    refine sG ?_
    refine sU ?_
    refine Sy.skip ?_
    refine sB ?_
    refine sS (pv x y i) (qL 0 g0 0 9 52 52 (pcs x y i) rfl Tryz.underlying52) <| sW 1 g1 52 (pcs 0 0 false) (pcs x y i) (wS 0 52 (pcs x y i) rfl) ?_
    refine sG ?_
    refine Sy.ret ?_
    rw [show (ptv (dec x y i) : Value) = pv x y i from ptv_right x y i hb1.symm]
    exact rC (v := pv x y i) 52 g1 1 (pcs x y i) rfl Tryz.underlying52
end Go.Proofs.YtbofhoonlmikcaaGreatDoor.Cu

end
section
namespace Go.Proofs.YtbofhoonlmikcaaGreatDoor.Cu
open Go.RowKit Go.Proofs.YtbofhoonlmikcaaGreatDoor Go.Proofs.YtbofhoonlmikcaaGreatDoor.Sy
set_option maxRecDepth 100000
set_option maxHeartbeats 4000000

def dblR (a : J) : J := if a.z = 0 then a else dblJ a
theorem dblR_rep {a : J} {P : Pt} (hP : Ec.On P) (h : Ec.Rep a P) : Ec.Rep (dblR a) (Ec.add finv P P) := by
  unfold dblR
  by_cases k : a.z = 0
  · rw [if_pos k]
    rcases P with _ | ⟨X, Y⟩
    · exact k
    · exact absurd k h.1
  · rw [if_neg k]; exact dblJ_rep hP h
def hR (a : J) (x : Fp) : Fp := x * (a.z * a.z) - a.x
def rR (a : J) (y : Fp) : Fp := y * (a.z * a.z * a.z) - a.y
def pxR (a : J) (x y : Fp) : Fp := rR a y * rR a y - hR a x * hR a x * hR a x - (a.x * (hR a x * hR a x) + a.x * (hR a x * hR a x))
def pyR (a : J) (x y : Fp) : Fp := rR a y * (a.x * (hR a x * hR a x) - pxR a x y) - a.y * (hR a x * hR a x * hR a x)
def plusR (a : J) (x y : Fp) : J := if a.z = 0 then ⟨x, y, 1⟩ else if x * (a.z * a.z) = a.x then (if y * (a.z * a.z * a.z) = a.y then dblR a else ⟨0, 0, 0⟩) else ⟨pxR a x y, pyR a x y, a.z * hR a x⟩
theorem plusR_rep {a : J} {P : Pt} {x y : Fp} (hP : Ec.On P) (hQ : y * y = x * x * x + 7) (h : Ec.Rep a P) : Ec.Rep (plusR a x y) (Ec.add finv P (some (x, y))) := by
  rcases P with _ | ⟨X, Y⟩
  · unfold plusR
    rw [if_pos (show a.z = 0 from h), Ec.zero_add]
    exact threeJ_rep (some (x, y))
  obtain ⟨h0, h1, h2⟩ := h
  unfold plusR
  rw [if_neg h0]
  have hZZ := fld.ne_mul h0 h0
  have hZZZ := fld.ne_mul hZZ h0
  by_cases e1 : x * (a.z * a.z) = a.x
  · rw [if_pos e1]
    have ex : x = X := fld.cancel hZZ (by rw [h1] at e1; clear h1 h2 hP hQ; grobner)
    subst ex
    by_cases e2 : y * (a.z * a.z * a.z) = a.y
    · rw [if_pos e2]
      have ey : y = Y := fld.cancel hZZZ (by rw [h2] at e2; clear h1 h2 hP hQ e1; grobner)
      subst ey
      exact dblR_rep hP ⟨h0, h1, h2⟩
    · rw [if_neg e2]
      have hne : Y ≠ y := fun q => e2 (by rw [← q, h2])
      have hs : Y + y = 0 := Classical.byContradiction fun t => Ec.off fld hP hQ (fun q => hne q.2) (fun q => t q.2) rfl
      have ea : Ec.add finv (some (x, Y)) (some (x, y)) = none := if_pos ⟨rfl, hs⟩
      rw [ea]
      rfl
  · rw [if_neg e1]
    exact Ec.ad fld (Z := a.z) (u := a.x) (v := a.y) (c := hR a x) (r := rR a y) hP hQ h0 h1 h2 rfl rfl (fun q => e1 (by have := q.1; unfold hR at this; clear q h1 h2 hP hQ; grobner)) rfl rfl rfl
theorem plusR_1 {a : J} {x y : Fp} (h : a.z = 0) : plusR a x y = ⟨x, y, 1⟩ := if_pos h
theorem plusR_2 {a : J} {x y : Fp} (h : a.z ≠ 0) (k : x * (a.z * a.z) = a.x) (m : y * (a.z * a.z * a.z) = a.y) : plusR a x y = dblR a := by unfold plusR; rw [if_neg h, if_pos k, if_pos m]
theorem plusR_3 {a : J} {x y : Fp} (h : a.z ≠ 0) (k : x * (a.z * a.z) = a.x) (m : y * (a.z * a.z * a.z) ≠ a.y) : plusR a x y = ⟨0, 0, 0⟩ := by unfold plusR; rw [if_neg h, if_pos k, if_neg m]
theorem plusR_4 {a : J} {x y : Fp} (h : a.z ≠ 0) (k : x * (a.z * a.z) ≠ a.x) : plusR a x y = ⟨pxR a x y, pyR a x y, a.z * hR a x⟩ := by unfold plusR; rw [if_neg h, if_neg k]
theorem twiceR_c (w : World) (a : J) : Calls Tryz.prog 91 #[tv a.x.val a.y.val a.z.val] w (Gets w (tv (dblR a).x.val (dblR a).y.val (dblR a).z.val)) := by
  refine Sy.enter (args := [tv a.x.val a.y.val a.z.val]) Tryz.func91 rfl kL ?_
  refine sC ?_
  refine sM 127 (tcs a.x.val a.y.val a.z.val) (fun g0 => ?_)
  refine sM 127 (tcs 0 0 0) (fun g1 => ?_)
  refine sG ?_
  refine Sy.seq ?_
  refine sC ?_
  refine sP (.pointer (some ⟨g0, 8, none⟩)) <| sS (fv a.z.val) (qL 0 g0 8 4 127 89 (tcs a.x.val a.y.val a.z.val) rfl Tryz.underlying89) <| sP (fv 0) ?_
  obtain ⟨b1, hb1⟩ : ∃ z : Bool, z = decide (a.z.val = 0) := ⟨_, rfl⟩
  refine sS (.bool b1) (Quiet.pure (fun w => by rw [hb1]; exact eql_num w _ _ _ _ _ _ rfl rfl rfl lK lK)) ?_
  refine sG ?_
  cases b1
  · have eb1 : a.z ≠ (0 : Fp) := fun e => of_decide_eq_false hb1.symm (congrArg Fin.val e)
    refine sU ?_
    refine Sy.skip ?_
    refine sB ?_
    refine sP (.pointer (some ⟨g0, 0, none⟩)) <| sS (fv a.x.val) (qL 0 g0 0 4 127 89 (tcs a.x.val a.y.val a.z.val) rfl Tryz.underlying89) <| sP (.pointer (some ⟨g0, 0, none⟩)) <| sS (fv a.x.val) (qL 0 g0 0 4 127 89 (tcs a.x.val a.y.val a.z.val) rfl Tryz.underlying89) ?_
    obtain ⟨z1, hz1⟩ : ∃ z : Fp, z = a.x * a.x := ⟨_, rfl⟩
    refine sS (fv z1.val) (qF 94 #[fv a.x.val, fv a.x.val] (fun w => by rw [hz1]; exact mulR_c w a.x a.x)) ?_
    refine sM 89 (fcs 0) (fun g2 => ?_)
    refine sW 2 g2 89 (fcs 0) (fcs z1.val) (wS 0 89 (fcs z1.val) rfl) ?_
    refine sA ?_
    refine sP (.pointer (some ⟨g0, 4, none⟩)) <| sS (fv a.y.val) (qL 0 g0 4 4 127 89 (tcs a.x.val a.y.val a.z.val) rfl Tryz.underlying89) <| sP (.pointer (some ⟨g0, 4, none⟩)) <| sS (fv a.y.val) (qL 0 g0 4 4 127 89 (tcs a.x.val a.y.val a.z.val) rfl Tryz.underlying89) ?_
    obtain ⟨z2, hz2⟩ : ∃ z : Fp, z = a.y * a.y := ⟨_, rfl⟩
    refine sS (fv z2.val) (qF 94 #[fv a.y.val, fv a.y.val] (fun w => by rw [hz2]; exact mulR_c w a.y a.y)) ?_
    refine sM 89 (fcs 0) (fun g3 => ?_)
    refine sW 3 g3 89 (fcs 0) (fcs z2.val) (wS 0 89 (fcs z2.val) rfl) ?_
    refine sA ?_
    refine sS (fv z2.val) (qL 3 g3 0 4 89 89 (fcs z2.val) rfl Tryz.underlying89) <| sS (fv z2.val) (qL 3 g3 0 4 89 89 (fcs z2.val) rfl Tryz.underlying89) ?_
    obtain ⟨z3, hz3⟩ : ∃ z : Fp, z = z2 * z2 := ⟨_, rfl⟩
    refine sS (fv z3.val) (qF 94 #[fv z2.val, fv z2.val] (fun w => by rw [hz3]; exact mulR_c w z2 z2)) ?_
    refine sM 89 (fcs 0) (fun g4 => ?_)
    refine sW 4 g4 89 (fcs 0) (fcs z3.val) (wS 0 89 (fcs z3.val) rfl) ?_
    refine sA ?_
    refine sP (.pointer (some ⟨g0, 0, none⟩)) <| sS (fv a.x.val) (qL 0 g0 0 4 127 89 (tcs a.x.val a.y.val a.z.val) rfl Tryz.underlying89) <| sS (fv z2.val) (qL 3 g3 0 4 89 89 (fcs z2.val) rfl Tryz.underlying89) ?_
    obtain ⟨z4, hz4⟩ : ∃ z : Fp, z = a.x * z2 := ⟨_, rfl⟩
    refine sS (fv z4.val) (qF 94 #[fv a.x.val, fv z2.val] (fun w => by rw [hz4]; exact mulR_c w a.x z2)) ?_
    refine sM 89 (fcs 0) (fun g5 => ?_)
    refine sW 5 g5 89 (fcs 0) (fcs z4.val) (wS 0 89 (fcs z4.val) rfl) ?_
    refine sH (fun j => j == 7) ?_
    refine sD 0 rfl (fv z4.val) (qL 5 g5 0 4 89 89 (fcs z4.val) rfl Tryz.underlying89) <| sD 1 rfl (fv z4.val) (qL 5 g5 0 4 89 89 (fcs z4.val) rfl Tryz.underlying89) ?_
    obtain ⟨z5, hz5⟩ : ∃ z : Fp, z = z4 + z4 := ⟨_, rfl⟩
    refine sD 2 rfl (fv z5.val) (qF 112 #[fv z4.val, fv z4.val] (fun w => by rw [hz5]; exact addR_c w z4 z4)) <| sD 3 rfl (fv z4.val) (qL 5 g5 0 4 89 89 (fcs z4.val) rfl Tryz.underlying89) <| sD 4 rfl (fv z4.val) (qL 5 g5 0 4 89 89 (fcs z4.val) rfl Tryz.underlying89) ?_
    obtain ⟨z6, hz6⟩ : ∃ z : Fp, z = z4 + z4 := ⟨_, rfl⟩
    refine sD 5 rfl (fv z6.val) (qF 112 #[fv z4.val, fv z4.val] (fun w => by rw [hz6]; exact addR_c w z4 z4)) ?_
    obtain ⟨z7, hz7⟩ : ∃ z : Fp, z = z5 + z6 := ⟨_, rfl⟩
    refine sD 6 rfl (fv z7.val) (qF 112 #[fv z5.val, fv z6.val] (fun w => by rw [hz7]; exact addR_c w z5 z6)) <| sX 7 rfl 5 g5 89 (fcs z4.val) (fcs z7.val) (wS 0 89 (fcs z7.val) rfl) ?_
    refine sE ?_
    refine sR (fun j => j == 6) ?_
    refine sD 0 rfl (fv z1.val) (qL 2 g2 0 4 89 89 (fcs z1.val) rfl Tryz.underlying89) <| sD 1 rfl (fv z1.val) (qL 2 g2 0 4 89 89 (fcs z1.val) rfl Tryz.underlying89) <| sD 2 rfl (fv z1.val) (qL 2 g2 0 4 89 89 (fcs z1.val) rfl Tryz.underlying89) ?_
    obtain ⟨z8, hz8⟩ : ∃ z : Fp, z = z1 + z1 := ⟨_, rfl⟩
    refine sD 3 rfl (fv z8.val) (qF 112 #[fv z1.val, fv z1.val] (fun w => by rw [hz8]; exact addR_c w z1 z1)) ?_
    obtain ⟨z9, hz9⟩ : ∃ z : Fp, z = z1 + z8 := ⟨_, rfl⟩
    refine sD 4 rfl (fv z9.val) (qF 112 #[fv z1.val, fv z8.val] (fun w => by rw [hz9]; exact addR_c w z1 z8)) ?_
    refine sO 5 rfl 89 (fcs 0) (fun g6 => ?_)
    refine sX 6 rfl 6 g6 89 (fcs 0) (fcs z9.val) (wS 0 89 (fcs z9.val) rfl) ?_
    refine sE ?_
    refine sR (fun j => j == 8) ?_
    refine sD 0 rfl (fv z9.val) (qL 6 g6 0 4 89 89 (fcs z9.val) rfl Tryz.underlying89) <| sD 1 rfl (fv z9.val) (qL 6 g6 0 4 89 89 (fcs z9.val) rfl Tryz.underlying89) ?_
    obtain ⟨z10, hz10⟩ : ∃ z : Fp, z = z9 * z9 := ⟨_, rfl⟩
    refine sD 2 rfl (fv z10.val) (qF 94 #[fv z9.val, fv z9.val] (fun w => by rw [hz10]; exact mulR_c w z9 z9)) <| sD 3 rfl (fv z7.val) (qL 5 g5 0 4 89 89 (fcs z7.val) rfl Tryz.underlying89) <| sD 4 rfl (fv z7.val) (qL 5 g5 0 4 89 89 (fcs z7.val) rfl Tryz.underlying89) ?_
    obtain ⟨z11, hz11⟩ : ∃ z : Fp, z = z7 + z7 := ⟨_, rfl⟩
    refine sD 5 rfl (fv z11.val) (qF 112 #[fv z7.val, fv z7.val] (fun w => by rw [hz11]; exact addR_c w z7 z7)) ?_
    obtain ⟨z12, hz12⟩ : ∃ z : Fp, z = z10 - z11 := ⟨_, rfl⟩
    refine sD 6 rfl (fv z12.val) (qF 111 #[fv z10.val, fv z11.val] (fun w => by rw [hz12]; exact subR_c w z10 z11)) ?_
    refine sO 7 rfl 89 (fcs 0) (fun g7 => ?_)
    refine sX 8 rfl 7 g7 89 (fcs 0) (fcs z12.val) (wS 0 89 (fcs z12.val) rfl) ?_
    refine sE ?_
    refine sB ?_
    refine sS (fv z3.val) (qL 4 g4 0 4 89 89 (fcs z3.val) rfl Tryz.underlying89) <| sS (fv z3.val) (qL 4 g4 0 4 89 89 (fcs z3.val) rfl Tryz.underlying89) ?_
    obtain ⟨z13, hz13⟩ : ∃ z : Fp, z = z3 + z3 := ⟨_, rfl⟩
    refine sS (fv z13.val) (qF 112 #[fv z3.val, fv z3.val] (fun w => by rw [hz13]; exact addR_c w z3 z3)) <| sW 4 g4 89 (fcs z3.val) (fcs z13.val) (wS 0 89 (fcs z13.val) rfl) ?_
    refine sA ?_
    refine sS (fv z13.val) (qL 4 g4 0 4 89 89 (fcs z13.val) rfl Tryz.underlying89) <| sS (fv z13.val) (qL 4 g4 0 4 89 89 (fcs z13.val) rfl Tryz.underlying89) ?_
    obtain ⟨z14, hz14⟩ : ∃ z : Fp, z = z13 + z13 := ⟨_, rfl⟩
    refine sS (fv z14.val) (qF 112 #[fv z13.val, fv z13.val] (fun w => by rw [hz14]; exact addR_c w z13 z13)) <| sW 4 g4 89 (fcs z13.val) (fcs z14.val) (wS 0 89 (fcs z14.val) rfl) ?_
    refine sA ?_
    refine sS (fv z14.val) (qL 4 g4 0 4 89 89 (fcs z14.val) rfl Tryz.underlying89) <| sS (fv z14.val) (qL 4 g4 0 4 89 89 (fcs z14.val) rfl Tryz.underlying89) ?_
    obtain ⟨z15, hz15⟩ : ∃ z : Fp, z = z14 + z14 := ⟨_, rfl⟩
    refine sS (fv z15.val) (qF 112 #[fv z14.val, fv z14.val] (fun w => by rw [hz15]; exact addR_c w z14 z14)) <| sW 4 g4 89 (fcs z14.val) (fcs z15.val) (wS 0 89 (fcs z15.val) rfl) ?_
    refine sH (fun j => j == 8) ?_
    refine sD 0 rfl (fv z9.val) (qL 6 g6 0 4 89 89 (fcs z9.val) rfl Tryz.underlying89) <| sD 1 rfl (fv z7.val) (qL 5 g5 0 4 89 89 (fcs z7.val) rfl Tryz.underlying89) <| sD 2 rfl (fv z12.val) (qL 7 g7 0 4 89 89 (fcs z12.val) rfl Tryz.underlying89) ?_
    obtain ⟨z16, hz16⟩ : ∃ z : Fp, z = z7 - z12 := ⟨_, rfl⟩
    refine sD 3 rfl (fv z16.val) (qF 111 #[fv z7.val, fv z12.val] (fun w => by rw [hz16]; exact subR_c w z7 z12)) ?_
    obtain ⟨z17, hz17⟩ : ∃ z : Fp, z = z9 * z16 := ⟨_, rfl⟩
    refine sD 4 rfl (fv z17.val) (qF 94 #[fv z9.val, fv z16.val] (fun w => by rw [hz17]; exact mulR_c w z9 z16)) <| sD 5 rfl (fv z15.val) (qL 4 g4 0 4 89 89 (fcs z15.val) rfl Tryz.underlying89) ?_
    obtain ⟨z18, hz18⟩ : ∃ z : Fp, z = z17 - z15 := ⟨_, rfl⟩
    refine sD 6 rfl (fv z18.val) (qF 111 #[fv z17.val, fv z15.val] (fun w => by rw [hz18]; exact subR_c w z17 z15)) ?_
    refine sO 7 rfl 89 (fcs 0) (fun g8 => ?_)
    refine sX 8 rfl 8 g8 89 (fcs 0) (fcs z18.val) (wS 0 89 (fcs z18.val) rfl) ?_
    refine sE ?_
    refine sB ?_
    refine sP (.pointer (some ⟨g0, 4, none⟩)) <| sS (fv a.y.val) (qL 0 g0 4 4 127 89 (tcs a.x.val a.y.val a.z.val) rfl Tryz.underlying89) <| sP (.pointer (some ⟨g0, 8, none⟩)) <| sS (fv a.z.val) (qL 0 g0 8 4 127 89 (tcs a.x.val a.y.val a.z.val) rfl Tryz.underlying89) ?_
    obtain ⟨z19, hz19⟩ : ∃ z : Fp, z = a.y * a.z := ⟨_, rfl⟩
    refine sS (fv z19.val) (qF 94 #[fv a.y.val, fv a.z.val] (fun w => by rw [hz19]; exact mulR_c w a.y a.z)) ?_
    refine sM 89 (fcs 0) (fun g9 => ?_)
    refine sW 9 g9 89 (fcs 0) (fcs z19.val) (wS 0 89 (fcs z19.val) rfl) ?_
    refine sH (fun j => j == 6) ?_
    refine sD 0 rfl (fv z12.val) (qL 7 g7 0 4 89 89 (fcs z12.val) rfl Tryz.underlying89) <| sD 1 rfl (fv z18.val) (qL 8 g8 0 4 89 89 (fcs z18.val) rfl Tryz.underlying89) <| sD 2 rfl (fv z19.val) (qL 9 g9 0 4 89 89 (fcs z19.val) rfl Tryz.underlying89) <| sD 3 rfl (fv z19.val) (qL 9 g9 0 4 89 89 (fcs z19.val) rfl Tryz.underlying89) ?_
    obtain ⟨z20, hz20⟩ : ∃ z : Fp, z = z19 + z19 := ⟨_, rfl⟩
    refine sD 4 rfl (fv z20.val) (qF 112 #[fv z19.val, fv z19.val] (fun w => by rw [hz20]; exact addR_c w z19 z19)) <| sZ 5 rfl (tv z12.val z18.val z20.val) <| sX 6 rfl 1 g1 127 (tcs 0 0 0) (tcs z12.val z18.val z20.val) (wS 0 127 (tcs z12.val z18.val z20.val) rfl) ?_
    refine sI ?_
    refine Sy.ret ?_
    rw [show (tv (dblR a).x.val (dblR a).y.val (dblR a).z.val : Value) = tv z12.val z18.val z20.val from by
      unfold dblR; rw [if_neg eb1]
      have k0 : (dblJ a).x = z12 := by
        simp only [dblJ, pxR, pyR, hR, rR]
        simp only [hz12, hz11, hz10, hz9, hz8, hz7, hz6, hz5, hz4, hz2, hz1]
        grobner
      have k1 : (dblJ a).y = z18 := by
        simp only [dblJ, pxR, pyR, hR, rR]
        simp only [hz18, hz17, hz16, hz15, hz14, hz13, hz12, hz11, hz10, hz9, hz8, hz7, hz6, hz5, hz4, hz3, hz2, hz1]
        grobner
      have k2 : (dblJ a).z = z20 := by
        simp only [dblJ, pxR, pyR, hR, rR]
        simp only [hz20, hz19]
        grobner
      simp only [k0, k1, k2]]
    exact rC (v := tv z12.val z18.val z20.val) 127 g1 1 (tcs z12.val z18.val z20.val) rfl Tryz.underlying127
  · have eb1 : a.z = (0 : Fp) := Fin.ext (of_decide_eq_true hb1.symm)
    refine sT ?_
    refine sC ?_
    refine sS (tv a.x.val a.y.val a.z.val) (qL 0 g0 0 12 127 127 (tcs a.x.val a.y.val a.z.val) rfl Tryz.underlying127) <| sW 1 g1 127 (tcs 0 0 0) (tcs a.x.val a.y.val a.z.val) (wS 0 127 (tcs a.x.val a.y.val a.z.val) rfl) ?_
    refine sG ?_
    refine Sy.ret ?_
    refine Sy.then_ret ?_
    rw [show (tv (dblR a).x.val (dblR a).y.val (dblR a).z.val : Value) = tv a.x.val a.y.val a.z.val from by unfold dblR; rw [if_pos eb1]]
    exact rC (v := tv a.x.val a.y.val a.z.val) 127 g1 1 (tcs a.x.val a.y.val a.z.val) rfl Tryz.underlying127
theorem plusR_c (w : World) (a : J) (x y : Fp) : Calls Tryz.prog 92 #[tv a.x.val a.y.val a.z.val, fv x.val, fv y.val] w (Gets w (tv (plusR a x y).x.val (plusR a x y).y.val (plusR a x y).z.val)) := by
  refine Sy.enter (args := [tv a.x.val a.y.val a.z.val, fv x.val, fv y.val]) Tryz.func92 rfl kL ?_
  refine sC ?_
  refine sM 127 (tcs a.x.val a.y.val a.z.val) (fun g0 => ?_)
  refine sM 89 (fcs x.val) (fun g1 => ?_)
  refine sM 89 (fcs y.val) (fun g2 => ?_)
  refine sM 127 (tcs 0 0 0) (fun g3 => ?_)
  refine sG ?_
  refine Sy.seq ?_
  refine sC ?_
  refine sP (.pointer (some ⟨g0, 8, none⟩)) <| sS (fv a.z.val) (qL 0 g0 8 4 127 89 (tcs a.x.val a.y.val a.z.val) rfl Tryz.underlying89) <| sP (fv 0) ?_
  obtain ⟨b1, hb1⟩ : ∃ z : Bool, z = decide (a.z.val = 0) := ⟨_, rfl⟩
  refine sS (.bool b1) (Quiet.pure (fun w => by rw [hb1]; exact eql_num w _ _ _ _ _ _ rfl rfl rfl lK lK)) ?_
  refine sG ?_
  cases b1
  · have eb1 : a.z ≠ (0 : Fp) := fun e => of_decide_eq_false hb1.symm (congrArg Fin.val e)
    refine sU ?_
    refine Sy.skip ?_
    refine sB ?_
    refine sP (.pointer (some ⟨g0, 8, none⟩)) <| sS (fv a.z.val) (qL 0 g0 8 4 127 89 (tcs a.x.val a.y.val a.z.val) rfl Tryz.underlying89) <| sP (.pointer (some ⟨g0, 8, none⟩)) <| sS (fv a.z.val) (qL 0 g0 8 4 127 89 (tcs a.x.val a.y.val a.z.val) rfl Tryz.underlying89) ?_
    obtain ⟨z1, hz1⟩ : ∃ z : Fp, z = a.z * a.z := ⟨_, rfl⟩
    refine sS (fv z1.val) (qF 94 #[fv a.z.val, fv a.z.val] (fun w => by rw [hz1]; exact mulR_c w a.z a.z)) ?_
    refine sM 89 (fcs 0) (fun g4 => ?_)
    refine sW 4 g4 89 (fcs 0) (fcs z1.val) (wS 0 89 (fcs z1.val) rfl) ?_
    refine sA ?_
    refine sS (fv x.val) (qL 1 g1 0 4 89 89 (fcs x.val) rfl Tryz.underlying89) <| sS (fv z1.val) (qL 4 g4 0 4 89 89 (fcs z1.val) rfl Tryz.underlying89) ?_
    obtain ⟨z2, hz2⟩ : ∃ z : Fp, z = x * z1 := ⟨_, rfl⟩
    refine sS (fv z2.val) (qF 94 #[fv x.val, fv z1.val] (fun w => by rw [hz2]; exact mulR_c w x z1)) ?_
    refine sM 89 (fcs 0) (fun g5 => ?_)
    refine sW 5 g5 89 (fcs 0) (fcs z2.val) (wS 0 89 (fcs z2.val) rfl) ?_
    refine sH (fun j => j == 7) ?_
    refine sD 0 rfl (fv y.val) (qL 2 g2 0 4 89 89 (fcs y.val) rfl Tryz.underlying89) <| sD 1 rfl (fv z1.val) (qL 4 g4 0 4 89 89 (fcs z1.val) rfl Tryz.underlying89) <| sZ 2 rfl (.pointer (some ⟨g0, 8, none⟩)) <| sD 3 rfl (fv a.z.val) (qL 0 g0 8 4 127 89 (tcs a.x.val a.y.val a.z.val) rfl Tryz.underlying89) ?_
    obtain ⟨z3, hz3⟩ : ∃ z : Fp, z = z1 * a.z := ⟨_, rfl⟩
    refine sD 4 rfl (fv z3.val) (qF 94 #[fv z1.val, fv a.z.val] (fun w => by rw [hz3]; exact mulR_c w z1 a.z)) ?_
    obtain ⟨z4, hz4⟩ : ∃ z : Fp, z = y * z3 := ⟨_, rfl⟩
    refine sD 5 rfl (fv z4.val) (qF 94 #[fv y.val, fv z3.val] (fun w => by rw [hz4]; exact mulR_c w y z3)) ?_
    refine sO 6 rfl 89 (fcs 0) (fun g6 => ?_)
    refine sX 7 rfl 6 g6 89 (fcs 0) (fcs z4.val) (wS 0 89 (fcs z4.val) rfl) ?_
    refine sI ?_
    refine Sy.seq ?_
    refine sC ?_
    refine sS (fv z2.val) (qL 5 g5 0 4 89 89 (fcs z2.val) rfl Tryz.underlying89) <| sP (.pointer (some ⟨g0, 0, none⟩)) <| sS (fv a.x.val) (qL 0 g0 0 4 127 89 (tcs a.x.val a.y.val a.z.val) rfl Tryz.underlying89) ?_
    obtain ⟨b2, hb2⟩ : ∃ z : Bool, z = decide (z2.val = a.x.val) := ⟨_, rfl⟩
    refine sS (.bool b2) (Quiet.pure (fun w => by rw [hb2]; exact eql_num w _ _ _ _ _ _ rfl rfl rfl lK lK)) ?_
    refine sG ?_
    cases b2
    · have eb2 : z2 ≠ a.x := fun e => of_decide_eq_false hb2.symm (congrArg Fin.val e)
      refine sU ?_
      refine Sy.skip ?_
      refine sB ?_
      refine sS (fv z2.val) (qL 5 g5 0 4 89 89 (fcs z2.val) rfl Tryz.underlying89) <| sP (.pointer (some ⟨g0, 0, none⟩)) <| sS (fv a.x.val) (qL 0 g0 0 4 127 89 (tcs a.x.val a.y.val a.z.val) rfl Tryz.underlying89) ?_
      obtain ⟨z5, hz5⟩ : ∃ z : Fp, z = z2 - a.x := ⟨_, rfl⟩
      refine sS (fv z5.val) (qF 111 #[fv z2.val, fv a.x.val] (fun w => by rw [hz5]; exact subR_c w z2 a.x)) ?_
      refine sM 89 (fcs 0) (fun g7 => ?_)
      refine sW 7 g7 89 (fcs 0) (fcs z5.val) (wS 0 89 (fcs z5.val) rfl) ?_
      refine sA ?_
      refine sS (fv z4.val) (qL 6 g6 0 4 89 89 (fcs z4.val) rfl Tryz.underlying89) <| sP (.pointer (some ⟨g0, 4, none⟩)) <| sS (fv a.y.val) (qL 0 g0 4 4 127 89 (tcs a.x.val a.y.val a.z.val) rfl Tryz.underlying89) ?_
      obtain ⟨z6, hz6⟩ : ∃ z : Fp, z = z4 - a.y := ⟨_, rfl⟩
      refine sS (fv z6.val) (qF 111 #[fv z4.val, fv a.y.val] (fun w => by rw [hz6]; exact subR_c w z4 a.y)) ?_
      refine sM 89 (fcs 0) (fun g8 => ?_)
      refine sW 8 g8 89 (fcs 0) (fcs z6.val) (wS 0 89 (fcs z6.val) rfl) ?_
      refine sA ?_
      refine sS (fv z5.val) (qL 7 g7 0 4 89 89 (fcs z5.val) rfl Tryz.underlying89) <| sS (fv z5.val) (qL 7 g7 0 4 89 89 (fcs z5.val) rfl Tryz.underlying89) ?_
      obtain ⟨z7, hz7⟩ : ∃ z : Fp, z = z5 * z5 := ⟨_, rfl⟩
      refine sS (fv z7.val) (qF 94 #[fv z5.val, fv z5.val] (fun w => by rw [hz7]; exact mulR_c w z5 z5)) ?_
      refine sM 89 (fcs 0) (fun g9 => ?_)
      refine sW 9 g9 89 (fcs 0) (fcs z7.val) (wS 0 89 (fcs z7.val) rfl) ?_
      refine sA ?_
      refine sS (fv z5.val) (qL 7 g7 0 4 89 89 (fcs z5.val) rfl Tryz.underlying89) <| sS (fv z7.val) (qL 9 g9 0 4 89 89 (fcs z7.val) rfl Tryz.underlying89) ?_
      obtain ⟨z8, hz8⟩ : ∃ z : Fp, z = z5 * z7 := ⟨_, rfl⟩
      refine sS (fv z8.val) (qF 94 #[fv z5.val, fv z7.val] (fun w => by rw [hz8]; exact mulR_c w z5 z7)) ?_
      refine sM 89 (fcs 0) (fun g10 => ?_)
      refine sW 10 g10 89 (fcs 0) (fcs z8.val) (wS 0 89 (fcs z8.val) rfl) ?_
      refine sA ?_
      refine sP (.pointer (some ⟨g0, 0, none⟩)) <| sS (fv a.x.val) (qL 0 g0 0 4 127 89 (tcs a.x.val a.y.val a.z.val) rfl Tryz.underlying89) <| sS (fv z7.val) (qL 9 g9 0 4 89 89 (fcs z7.val) rfl Tryz.underlying89) ?_
      obtain ⟨z9, hz9⟩ : ∃ z : Fp, z = a.x * z7 := ⟨_, rfl⟩
      refine sS (fv z9.val) (qF 94 #[fv a.x.val, fv z7.val] (fun w => by rw [hz9]; exact mulR_c w a.x z7)) ?_
      refine sM 89 (fcs 0) (fun g11 => ?_)
      refine sW 11 g11 89 (fcs 0) (fcs z9.val) (wS 0 89 (fcs z9.val) rfl) ?_
      refine sH (fun j => j == 10) ?_
      refine sD 0 rfl (fv z6.val) (qL 8 g8 0 4 89 89 (fcs z6.val) rfl Tryz.underlying89) <| sD 1 rfl (fv z6.val) (qL 8 g8 0 4 89 89 (fcs z6.val) rfl Tryz.underlying89) ?_
      obtain ⟨z10, hz10⟩ : ∃ z : Fp, z = z6 * z6 := ⟨_, rfl⟩
      refine sD 2 rfl (fv z10.val) (qF 94 #[fv z6.val, fv z6.val] (fun w => by rw [hz10]; exact mulR_c w z6 z6)) <| sD 3 rfl (fv z8.val) (qL 10 g10 0 4 89 89 (fcs z8.val) rfl Tryz.underlying89) ?_
      obtain ⟨z11, hz11⟩ : ∃ z : Fp, z = z10 - z8 := ⟨_, rfl⟩
      refine sD 4 rfl (fv z11.val) (qF 111 #[fv z10.val, fv z8.val] (fun w => by rw [hz11]; exact subR_c w z10 z8)) <| sD 5 rfl (fv z9.val) (qL 11 g11 0 4 89 89 (fcs z9.val) rfl Tryz.underlying89) <| sD 6 rfl (fv z9.val) (qL 11 g11 0 4 89 89 (fcs z9.val) rfl Tryz.underlying89) ?_
      obtain ⟨z12, hz12⟩ : ∃ z : Fp, z = z9 + z9 := ⟨_, rfl⟩
      refine sD 7 rfl (fv z12.val) (qF 112 #[fv z9.val, fv z9.val] (fun w => by rw [hz12]; exact addR_c w z9 z9)) ?_
      obtain ⟨z13, hz13⟩ : ∃ z : Fp, z = z11 - z12 := ⟨_, rfl⟩
      refine sD 8 rfl (fv z13.val) (qF 111 #[fv z11.val, fv z12.val] (fun w => by rw [hz13]; exact subR_c w z11 z12)) ?_
      refine sO 9 rfl 89 (fcs 0) (fun g12 => ?_)
      refine sX 10 rfl 12 g12 89 (fcs 0) (fcs z13.val) (wS 0 89 (fcs z13.val) rfl) ?_
      refine sE ?_
      refine sR (fun j => j == 16) ?_
      refine sD 0 rfl (fv z13.val) (qL 12 g12 0 4 89 89 (fcs z13.val) rfl Tryz.underlying89) <| sD 1 rfl (fv z6.val) (qL 8 g8 0 4 89 89 (fcs z6.val) rfl Tryz.underlying89) <| sD 2 rfl (fv z9.val) (qL 11 g11 0 4 89 89 (fcs z9.val) rfl Tryz.underlying89) <| sD 3 rfl (fv z13.val) (qL 12 g12 0 4 89 89 (fcs z13.val) rfl Tryz.underlying89) ?_
      obtain ⟨z14, hz14⟩ : ∃ z : Fp, z = z9 - z13 := ⟨_, rfl⟩
      refine sD 4 rfl (fv z14.val) (qF 111 #[fv z9.val, fv z13.val] (fun w => by rw [hz14]; exact subR_c w z9 z13)) ?_
      obtain ⟨z15, hz15⟩ : ∃ z : Fp, z = z6 * z14 := ⟨_, rfl⟩
      refine sD 5 rfl (fv z15.val) (qF 94 #[fv z6.val, fv z14.val] (fun w => by rw [hz15]; exact mulR_c w z6 z14)) <| sZ 6 rfl (.pointer (some ⟨g0, 4, none⟩)) <| sD 7 rfl (fv a.y.val) (qL 0 g0 4 4 127 89 (tcs a.x.val a.y.val a.z.val) rfl Tryz.underlying89) <| sD 8 rfl (fv z8.val) (qL 10 g10 0 4 89 89 (fcs z8.val) rfl Tryz.underlying89) ?_
      obtain ⟨z16, hz16⟩ : ∃ z : Fp, z = a.y * z8 := ⟨_, rfl⟩
      refine sD 9 rfl (fv z16.val) (qF 94 #[fv a.y.val, fv z8.val] (fun w => by rw [hz16]; exact mulR_c w a.y z8)) ?_
      obtain ⟨z17, hz17⟩ : ∃ z : Fp, z = z15 - z16 := ⟨_, rfl⟩
      refine sD 10 rfl (fv z17.val) (qF 111 #[fv z15.val, fv z16.val] (fun w => by rw [hz17]; exact subR_c w z15 z16)) <| sD 11 rfl (fv z5.val) (qL 7 g7 0 4 89 89 (fcs z5.val) rfl Tryz.underlying89) <| sZ 12 rfl (.pointer (some ⟨g0, 8, none⟩)) <| sD 13 rfl (fv a.z.val) (qL 0 g0 8 4 127 89 (tcs a.x.val a.y.val a.z.val) rfl Tryz.underlying89) ?_
      obtain ⟨z18, hz18⟩ : ∃ z : Fp, z = z5 * a.z := ⟨_, rfl⟩
      refine sD 14 rfl (fv z18.val) (qF 94 #[fv z5.val, fv a.z.val] (fun w => by rw [hz18]; exact mulR_c w z5 a.z)) <| sZ 15 rfl (tv z13.val z17.val z18.val) <| sX 16 rfl 3 g3 127 (tcs 0 0 0) (tcs z13.val z17.val z18.val) (wS 0 127 (tcs z13.val z17.val z18.val) rfl) ?_
      refine sI ?_
      refine Sy.ret ?_
      rw [show (tv (plusR a x y).x.val (plusR a x y).y.val (plusR a x y).z.val : Value) = tv z13.val z17.val z18.val from by
        rw [plusR_4 eb1 (by have q := eb2; simp only [hz2, hz1] at q; exact q)]; simp only
        have k0 : pxR a x y = z13 := by
          simp only [dblJ, pxR, pyR, hR, rR]
          simp only [hz13, hz12, hz11, hz10, hz9, hz8, hz7, hz6, hz5, hz4, hz3, hz2, hz1]
          grobner
        have k1 : pyR a x y = z17 := by
          simp only [dblJ, pxR, pyR, hR, rR]
          simp only [hz17, hz16, hz15, hz14, hz13, hz12, hz11, hz10, hz9, hz8, hz7, hz6, hz5, hz4, hz3, hz2, hz1]
          grobner
        have k2 : a.z * hR a x = z18 := by
          simp only [dblJ, pxR, pyR, hR, rR]
          simp only [hz18, hz5, hz2, hz1]
          grobner
        simp only [k0, k1, k2]]
      exact rC (v := tv z13.val z17.val z18.val) 127 g3 3 (tcs z13.val z17.val z18.val) rfl Tryz.underlying127
    · have eb2 : z2 = a.x := Fin.ext (of_decide_eq_true hb2.symm)
      refine sT ?_
      refine Sy.seq ?_
      refine sC ?_
      refine sS (fv z4.val) (qL 6 g6 0 4 89 89 (fcs z4.val) rfl Tryz.underlying89) <| sP (.pointer (some ⟨g0, 4, none⟩)) <| sS (fv a.y.val) (qL 0 g0 4 4 127 89 (tcs a.x.val a.y.val a.z.val) rfl Tryz.underlying89) ?_
      obtain ⟨b3, hb3⟩ : ∃ z : Bool, z = decide (z4.val = a.y.val) := ⟨_, rfl⟩
      refine sS (.bool b3) (Quiet.pure (fun w => by rw [hb3]; exact eql_num w _ _ _ _ _ _ rfl rfl rfl lK lK)) ?_
      refine sG ?_
      cases b3
      · have eb3 : z4 ≠ a.y := fun e => of_decide_eq_false hb3.symm (congrArg Fin.val e)
        refine sU ?_
        refine Sy.skip ?_
        refine sB ?_
        refine sP (tv 0 0 0) <| sW 3 g3 127 (tcs 0 0 0) (tcs 0 0 0) (wS 0 127 (tcs 0 0 0) rfl) ?_
        refine sG ?_
        refine Sy.ret ?_
        refine Sy.then_ret ?_
        rw [show (tv (plusR a x y).x.val (plusR a x y).y.val (plusR a x y).z.val : Value) = tv 0 0 0 from by rw [plusR_3 eb1 (by have q := eb2; simp only [hz2, hz1] at q; exact q) (by have q := eb3; simp only [hz4, hz3, hz1] at q; exact q)]; rfl]
        exact rC (v := tv 0 0 0) 127 g3 3 (tcs 0 0 0) rfl Tryz.underlying127
      · have eb3 : z4 = a.y := Fin.ext (of_decide_eq_true hb3.symm)
        refine sT ?_
        refine sC ?_
        refine sS (tv a.x.val a.y.val a.z.val) (qL 0 g0 0 12 127 127 (tcs a.x.val a.y.val a.z.val) rfl Tryz.underlying127) <| sS (tv ((dblR a).x.val) ((dblR a).y.val) ((dblR a).z.val)) (qF 91 #[tv a.x.val a.y.val a.z.val] (fun w => twiceR_c w a)) <| sW 3 g3 127 (tcs 0 0 0) (tcs ((dblR a).x.val) ((dblR a).y.val) ((dblR a).z.val)) (wS 0 127 (tcs ((dblR a).x.val) ((dblR a).y.val) ((dblR a).z.val)) rfl) ?_
        refine sG ?_
        refine Sy.ret ?_
        refine Sy.then_ret ?_
        refine Sy.then_ret ?_
        rw [show (tv (plusR a x y).x.val (plusR a x y).y.val (plusR a x y).z.val : Value) = tv ((dblR a).x.val) ((dblR a).y.val) ((dblR a).z.val) from by rw [plusR_2 eb1 (by have q := eb2; simp only [hz2, hz1] at q; exact q) (by have q := eb3; simp only [hz4, hz3, hz1] at q; exact q)]]
        exact rC (v := tv ((dblR a).x.val) ((dblR a).y.val) ((dblR a).z.val)) 127 g3 3 (tcs ((dblR a).x.val) ((dblR a).y.val) ((dblR a).z.val)) rfl Tryz.underlying127
  · have eb1 : a.z = (0 : Fp) := Fin.ext (of_decide_eq_true hb1.symm)
    refine sT ?_
    refine Sy.seq ?_
    refine Sy.regionD (fun j => j == 4) kR ?_
    refine sD 0 rfl (fv x.val) (qL 1 g1 0 4 89 89 (fcs x.val) rfl Tryz.underlying89) <| sD 1 rfl (fv y.val) (qL 2 g2 0 4 89 89 (fcs y.val) rfl Tryz.underlying89) ?_
    obtain ⟨z19, hz19⟩ : ∃ z : Fp, z = (1 : Fp) := ⟨_, rfl⟩
    refine sD 2 rfl (fv z19.val) (qF 144 #[.int .u64 1] (fun w => by rw [hz19]; exact small_c w 1 (by decide))) <| sZ 3 rfl (tv x.val y.val z19.val) <| sX 4 rfl 3 g3 127 (tcs 0 0 0) (tcs x.val y.val z19.val) (wS 0 127 (tcs x.val y.val z19.val) rfl) ?_
    refine sI ?_
    refine Sy.ret ?_
    refine Sy.then_ret ?_
    rw [show (tv (plusR a x y).x.val (plusR a x y).y.val (plusR a x y).z.val : Value) = tv x.val y.val z19.val from by rw [plusR_1 eb1]; simp only [hz19]]
    exact rC (v := tv x.val y.val z19.val) 127 g3 3 (tcs x.val y.val z19.val) rfl Tryz.underlying127
end Go.Proofs.YtbofhoonlmikcaaGreatDoor.Cu

end
section
namespace Go.Proofs.YtbofhoonlmikcaaGreatDoor.Sc
open Go.RowKit

def pM : Nat := 115792089237316195423570985008687907852837564279074904382605163141518161494337
theorem pM_eq : pM = 115792089237316195423570985008687907852837564279074904382605163141518161494337 := rfl
theorem mod_lt (n : Nat) : n % pM < 115792089237316195423570985008687907853269984665640564039457584007913129639936 := by have := Nat.mod_lt n (show 0 < pM by decide); rw [pM_eq] at this ⊢; omega
def addP (x y : Nat) : Nat := (x + y) % pM
theorem red_once (x : Nat) (hx : x < 115792089237316195423570985008687907853269984665640564039457584007913129639936) : x % pM = if x + 432420386565659656852420866394968145599 < 115792089237316195423570985008687907853269984665640564039457584007913129639936 then x else x + 432420386565659656852420866394968145599 - 115792089237316195423570985008687907853269984665640564039457584007913129639936 := by
  rw [pM_eq]
  by_cases h : x + 432420386565659656852420866394968145599 < 115792089237316195423570985008687907853269984665640564039457584007913129639936
  · rw [if_pos h]; exact Nat.mod_eq_of_lt (by omega)
  · rw [if_neg h, Nat.mod_eq_sub_mod (by omega), Nat.mod_eq_of_lt (by omega)]
    omega
end Go.Proofs.YtbofhoonlmikcaaGreatDoor.Sc

end
section
namespace Go.Proofs.YtbofhoonlmikcaaGreatDoor.Sc
open Go.RowKit Go.Lib

theorem order_any (w : World) : Calls Tryz.prog 131 #[] w fun e w' => e = .returned (fv 115792089237316195423570985008687907852837564279074904382605163141518161494337) ∧ Below w.heap.size w w' := by
  go_enter Tryz.func131, Tryz.ntmps131
  go_wp2
  exact bodyPost_ret (results_cell_row rfl _ _ w.heap.size _ _ (0, 0) _ rfl (heap_alloc_new w _) Tryz.underlying24 rfl (by kernel_rfl)) rfl ⟨rfl, (Below.refl _ _).alloc (Nat.le_refl _) _⟩
set_option maxHeartbeats 8000000 in
set_option maxRecDepth 100000 in
theorem minus_any (w : World) (x y : Nat) (hx : x < 115792089237316195423570985008687907853269984665640564039457584007913129639936) (hy : y < 115792089237316195423570985008687907853269984665640564039457584007913129639936) : Calls Tryz.prog 130 #[fv x, fv y] w fun e w' => (∃ s k : Nat, s < 115792089237316195423570985008687907853269984665640564039457584007913129639936 ∧ k ≤ 1 ∧ s + y = x + 115792089237316195423570985008687907853269984665640564039457584007913129639936 * k ∧ e = .returned (.tuple #[fv s, .int .u64 (k : Int)])) ∧ Below w.heap.size w w' := by
  obtain ⟨x0, x1, x2, x3, a0, a1, a2, a3, ex, fx⟩ := words_of x hx
  obtain ⟨y0, y1, y2, y3, b0, b1, b2, b3, ey, fy⟩ := words_of y hy
  rw [fx, fy]
  obtain ⟨s0, c0, d0, k0, e0, r0⟩ := sub0_ex x0 y0 a0 b0
  obtain ⟨s1, c1, d1, k1, e1, r1⟩ := subc_ex x1 y1 c0 a1 b1 k0
  obtain ⟨s2, c2, d2, k2, e2, r2⟩ := subc_ex x2 y2 c1 a2 b2 k1
  obtain ⟨s3, c3, d3, k3, e3, r3⟩ := subc_ex x3 y3 c2 a3 b3 k2
  have fin : s0 + 18446744073709551616 * s1 + 340282366920938463463374607431768211456 * s2 + 6277101735386680763835789423207666416102355444464034512896 * s3 + y = x + 115792089237316195423570985008687907853269984665640564039457584007913129639936 * c3 := by omega
  have hs := Lib.hid (fv_mk s0 s1 s2 s3 d0 d1 d2 d3)
  have hlt := Lib.hid (fv_lt s0 s1 s2 s3 d0 d1 d2 d3)
  have HF := Lib.hid fin
  have HK := Lib.hid k3
  clear ex ey fx fy e0 e1 e2 e3 a0 a1 a2 a3 b0 b1 b2 b3 d0 d1 d2 d3 k0 k1 k2 k3 fin hx hy
  go_enter Tryz.func130, Tryz.ntmps130
  go_wp2_with fail
  go_loopw [5, 7] (fun bo i wr => Below w.heap.size w wr ∧ Blk wr w.heap.size 24 #[.int .u64 (x0 : Int), .int .u64 (x1 : Int), .int .u64 (x2 : Int), .int .u64 (x3 : Int)] ∧ Blk wr (w.heap.size + 1) 24 #[.int .u64 (y0 : Int), .int .u64 (y1 : Int), .int .u64 (y2 : Int), .int .u64 (y3 : Int)] ∧ Hid ((i = .int .i64 0 ∧ bo = .int .u64 0 ∧ Blk wr (w.heap.size + 2) 24 #[.int .u64 0, .int .u64 0, .int .u64 0, .int .u64 0]) ∨ (i = .int .i64 1 ∧ bo = .int .u64 (c0 : Int) ∧ Blk wr (w.heap.size + 2) 24 #[.int .u64 (s0 : Int), .int .u64 0, .int .u64 0, .int .u64 0]) ∨ (i = .int .i64 2 ∧ bo = .int .u64 (c1 : Int) ∧ Blk wr (w.heap.size + 2) 24 #[.int .u64 (s0 : Int), .int .u64 (s1 : Int), .int .u64 0, .int .u64 0]) ∨ (i = .int .i64 3 ∧ bo = .int .u64 (c2 : Int) ∧ Blk wr (w.heap.size + 2) 24 #[.int .u64 (s0 : Int), .int .u64 (s1 : Int), .int .u64 (s2 : Int), .int .u64 0]) ∨ (i = .int .i64 4 ∧ bo = .int .u64 (c3 : Int) ∧ Blk wr (w.heap.size + 2) 24 #[.int .u64 (s0 : Int), .int .u64 (s1 : Int), .int .u64 (s2 : Int), .int .u64 (s3 : Int)]))) (fun _ i _ => 4 - (intOf i).toNat)
  case atStart => exact ⟨below_alloc3 w _ _ _, ((Blk.new w _ _).alloc _).alloc _, (blk_new2 w _ _ _).alloc _, Lib.hid (.inl ⟨rfl, rfl, blk_new3 w _ _ _ _⟩)⟩
  case round =>
    obtain ⟨hb, BX, BY, HI⟩ := hrel
    have lX := BX.lt
    have lY := BY.lt
    rcases HI.out with ⟨rfl, rfl, BW⟩ | ⟨rfl, rfl, BW⟩ | ⟨rfl, rfl, BW⟩ | ⟨rfl, rfl, BW⟩ | ⟨rfl, rfl, BW⟩
    · clear HI
      have px : wr.cell? ⟨w.heap.size, 0, none⟩ = some (.int .u64 (x0 : Int)) := BX.cell 0
      have py : wr.cell? ⟨w.heap.size + 1, 0, none⟩ = some (.int .u64 (y0 : Int)) := BY.cell 0
      go_wp2
      refine wp_region_G (fun j => j == 13) (by kernel_rfl) ?_
      try simp only [Act.put]
      refine wpAnyG_take 0 rfl (by kernel_rfl) (fun _ _ _ h => h) (YieldsG.pure (by rfl) (fun w9 _ => by go_simp; try with_reducible rfl)) ?_
      try simp only [Act.put, List.setIfInBounds_toArray, List.set_cons_zero, List.set_cons_succ]
      refine wpAnyG_take 1 rfl (by kernel_rfl) (fun _ _ _ h => h) (YieldsG.pure (by rfl) (fun w9 _ => by go_simp; try with_reducible rfl)) ?_
      try simp only [Act.put, List.setIfInBounds_toArray, List.set_cons_zero, List.set_cons_succ]
      refine wpAnyG_take 2 rfl (by kernel_rfl) (fun _ _ _ h => h) (YieldsG.pure (by rfl) (fun w9 _ => by go_simp; try with_reducible rfl)) ?_
      try simp only [Act.put, List.setIfInBounds_toArray, List.set_cons_zero, List.set_cons_succ]
      refine wpAnyG_take 3 rfl (by kernel_rfl) (fun _ _ _ h => h) (YieldsG.pure (v := .int .u64 (x0 : Int)) (by rfl) (fun w9 h9 => by have hz := (Below.cell (p := ⟨w.heap.size, 0, none⟩) h9 lX).trans px; go_simp; first | done | simp [hz])) ?_
      try simp only [Act.put, List.setIfInBounds_toArray, List.set_cons_zero, List.set_cons_succ]
      refine wpAnyG_take 4 rfl (by kernel_rfl) (fun _ _ _ h => h) (YieldsG.pure (by rfl) (fun w9 _ => by go_simp; try with_reducible rfl)) ?_
      try simp only [Act.put, List.setIfInBounds_toArray, List.set_cons_zero, List.set_cons_succ]
      refine wpAnyG_take 5 rfl (by kernel_rfl) (fun _ _ _ h => h) (YieldsG.pure (by rfl) (fun w9 _ => by go_simp; try with_reducible rfl)) ?_
      try simp only [Act.put, List.setIfInBounds_toArray, List.set_cons_zero, List.set_cons_succ]
      refine wpAnyG_take 6 rfl (by kernel_rfl) (fun _ _ _ h => h) (YieldsG.pure (v := .int .u64 (y0 : Int)) (by rfl) (fun w9 h9 => by have hz := (Below.cell (p := ⟨w.heap.size + 1, 0, none⟩) h9 lY).trans py; go_simp; first | done | simp [hz])) ?_
      try simp only [Act.put, List.setIfInBounds_toArray, List.set_cons_zero, List.set_cons_succ]
      refine wpAnyG_take 7 rfl (by kernel_rfl) (fun _ _ _ h => h) (YieldsG.pure (by rfl) (fun w9 _ => by go_simp; try with_reducible rfl)) ?_
      try simp only [Act.put, List.setIfInBounds_toArray, List.set_cons_zero, List.set_cons_succ]
      refine wpAnyG_take 8 rfl (by kernel_rfl) (fun _ _ _ h => h) (YieldsG.pure (v := .tuple #[.int .u64 (s0 : Int), .int .u64 (c0 : Int)]) (by rfl) (fun w9 h9 => by go_simp)) ?_
      try simp only [Act.put, List.setIfInBounds_toArray, List.set_cons_zero, List.set_cons_succ]
      refine wpAnyG_take 9 rfl (by kernel_rfl) (fun _ _ _ h => h) (YieldsG.pure (by rfl) (fun w9 _ => by go_simp; try with_reducible rfl)) ?_
      try simp only [Act.put, List.setIfInBounds_toArray, List.set_cons_zero, List.set_cons_succ]
      refine wpAnyG_take 10 rfl (by kernel_rfl) (fun _ _ _ h => h) (YieldsG.pure (by rfl) (fun w9 _ => by go_simp; try with_reducible rfl)) ?_
      try simp only [Act.put, List.setIfInBounds_toArray, List.set_cons_zero, List.set_cons_succ]
      refine wpAnyG_takeA 11 rfl (by kernel_rfl) (fun _ _ _ h => h) (fun _ => YieldsG.pure (by rfl) (fun w9 _ => by go_simp; try with_reducible rfl)) ?_
      try simp only [Act.put, List.setIfInBounds_toArray, List.set_cons_zero, List.set_cons_succ]
      refine wpAnyG_take 12 rfl (by kernel_rfl) (fun _ _ _ h => h) (YieldsG.pure (by rfl) (fun w9 _ => by go_simp; try with_reducible rfl)) ?_
      try simp only [Act.put, List.setIfInBounds_toArray, List.set_cons_zero, List.set_cons_succ]
      refine wpAnyG_sole 13 rfl (by kernel_rfl) (by rfl) (fun u hu K hK => ?_)
      have BX := Gr.blk hu BX
      have BY := Gr.blk hu BY
      have BW := Gr.blk hu BW
      have hb := Below.gr hb hu
      have pc : u.cell? ⟨w.heap.size + 2, 0, none⟩ = some (.int .u64 0) := BW.cell 0
      have pf := BW.frozen 0
      clear hu px py
      go_simp
      refine hK _ _ (fun e => by cases e) ?_
      clear hK K
      have hb := hb.setCell (p := ⟨w.heap.size + 2, 0, none⟩) (by show w.heap.size ≤ w.heap.size + 2; omega) (.int .u64 (s0 : Int))
      have BX := BX.far (p := ⟨w.heap.size + 2, 0, none⟩) (by show w.heap.size ≠ w.heap.size + 2; omega) (.int .u64 (s0 : Int))
      have BY := BY.far (p := ⟨w.heap.size + 2, 0, none⟩) (by show w.heap.size + 1 ≠ w.heap.size + 2; omega) (.int .u64 (s0 : Int))
      have BW := BW.set_ 0 (.int .u64 (s0 : Int))
      refine wpAnyG_takeA 14 rfl (by kernel_rfl) (fun _ _ _ h => h) (fun _ => YieldsG.pure (by rfl) (fun w9 _ => by go_simp; try with_reducible rfl)) ?_
      try simp only [Act.put, List.setIfInBounds_toArray, List.set_cons_zero, List.set_cons_succ]
      refine wpAnyG_done (by kernel_rfl) (fun v hv => ?_)
      have hb := Below.gr hb hv
      have BX := Gr.blk hv BX
      have BY := Gr.blk hv BY
      have BW := Gr.blk hv BW
      clear hv pc pf
      go_wp2
      refine ⟨⟨hb, BX, BY, Lib.hid (.inr (.inl (⟨rfl, rfl, BW⟩)))⟩, by decide⟩
    · clear HI
      have px : wr.cell? ⟨w.heap.size, 1, none⟩ = some (.int .u64 (x1 : Int)) := BX.cell 1
      have py : wr.cell? ⟨w.heap.size + 1, 1, none⟩ = some (.int .u64 (y1 : Int)) := BY.cell 1
      go_wp2
      refine wp_region_G (fun j => j == 13) (by kernel_rfl) ?_
      try simp only [Act.put]
      refine wpAnyG_take 0 rfl (by kernel_rfl) (fun _ _ _ h => h) (YieldsG.pure (by rfl) (fun w9 _ => by go_simp; try with_reducible rfl)) ?_
      try simp only [Act.put, List.setIfInBounds_toArray, List.set_cons_zero, List.set_cons_succ]
      refine wpAnyG_take 1 rfl (by kernel_rfl) (fun _ _ _ h => h) (YieldsG.pure (by rfl) (fun w9 _ => by go_simp; try with_reducible rfl)) ?_
      try simp only [Act.put, List.setIfInBounds_toArray, List.set_cons_zero, List.set_cons_succ]
      refine wpAnyG_take 2 rfl (by kernel_rfl) (fun _ _ _ h => h) (YieldsG.pure (by rfl) (fun w9 _ => by go_simp; try with_reducible rfl)) ?_
      try simp only [Act.put, List.setIfInBounds_toArray, List.set_cons_zero, List.set_cons_succ]
      refine wpAnyG_take 3 rfl (by kernel_rfl) (fun _ _ _ h => h) (YieldsG.pure (v := .int .u64 (x1 : Int)) (by rfl) (fun w9 h9 => by have hz := (Below.cell (p := ⟨w.heap.size, 1, none⟩) h9 lX).trans px; go_simp; first | done | simp [hz])) ?_
      try simp only [Act.put, List.setIfInBounds_toArray, List.set_cons_zero, List.set_cons_succ]
      refine wpAnyG_take 4 rfl (by kernel_rfl) (fun _ _ _ h => h) (YieldsG.pure (by rfl) (fun w9 _ => by go_simp; try with_reducible rfl)) ?_
      try simp only [Act.put, List.setIfInBounds_toArray, List.set_cons_zero, List.set_cons_succ]
      refine wpAnyG_take 5 rfl (by kernel_rfl) (fun _ _ _ h => h) (YieldsG.pure (by rfl) (fun w9 _ => by go_simp; try with_reducible rfl)) ?_
      try simp only [Act.put, List.setIfInBounds_toArray, List.set_cons_zero, List.set_cons_succ]
      refine wpAnyG_take 6 rfl (by kernel_rfl) (fun _ _ _ h => h) (YieldsG.pure (v := .int .u64 (y1 : Int)) (by rfl) (fun w9 h9 => by have hz := (Below.cell (p := ⟨w.heap.size + 1, 1, none⟩) h9 lY).trans py; go_simp; first | done | simp [hz])) ?_
      try simp only [Act.put, List.setIfInBounds_toArray, List.set_cons_zero, List.set_cons_succ]
      refine wpAnyG_take 7 rfl (by kernel_rfl) (fun _ _ _ h => h) (YieldsG.pure (by rfl) (fun w9 _ => by go_simp; try with_reducible rfl)) ?_
      try simp only [Act.put, List.setIfInBounds_toArray, List.set_cons_zero, List.set_cons_succ]
      refine wpAnyG_take 8 rfl (by kernel_rfl) (fun _ _ _ h => h) (YieldsG.pure (v := .tuple #[.int .u64 (s1 : Int), .int .u64 (c1 : Int)]) (by rfl) (fun w9 h9 => by go_simp)) ?_
      try simp only [Act.put, List.setIfInBounds_toArray, List.set_cons_zero, List.set_cons_succ]
      refine wpAnyG_take 9 rfl (by kernel_rfl) (fun _ _ _ h => h) (YieldsG.pure (by rfl) (fun w9 _ => by go_simp; try with_reducible rfl)) ?_
      try simp only [Act.put, List.setIfInBounds_toArray, List.set_cons_zero, List.set_cons_succ]
      refine wpAnyG_take 10 rfl (by kernel_rfl) (fun _ _ _ h => h) (YieldsG.pure (by rfl) (fun w9 _ => by go_simp; try with_reducible rfl)) ?_
      try simp only [Act.put, List.setIfInBounds_toArray, List.set_cons_zero, List.set_cons_succ]
      refine wpAnyG_takeA 11 rfl (by kernel_rfl) (fun _ _ _ h => h) (fun _ => YieldsG.pure (by rfl) (fun w9 _ => by go_simp; try with_reducible rfl)) ?_
      try simp only [Act.put, List.setIfInBounds_toArray, List.set_cons_zero, List.set_cons_succ]
      refine wpAnyG_take 12 rfl (by kernel_rfl) (fun _ _ _ h => h) (YieldsG.pure (by rfl) (fun w9 _ => by go_simp; try with_reducible rfl)) ?_
      try simp only [Act.put, List.setIfInBounds_toArray, List.set_cons_zero, List.set_cons_succ]
      refine wpAnyG_sole 13 rfl (by kernel_rfl) (by rfl) (fun u hu K hK => ?_)
      have BX := Gr.blk hu BX
      have BY := Gr.blk hu BY
      have BW := Gr.blk hu BW
      have hb := Below.gr hb hu
      have pc : u.cell? ⟨w.heap.size + 2, 1, none⟩ = some (.int .u64 0) := BW.cell 1
      have pf := BW.frozen 1
      clear hu px py
      go_simp
      refine hK _ _ (fun e => by cases e) ?_
      clear hK K
      have hb := hb.setCell (p := ⟨w.heap.size + 2, 1, none⟩) (by show w.heap.size ≤ w.heap.size + 2; omega) (.int .u64 (s1 : Int))
      have BX := BX.far (p := ⟨w.heap.size + 2, 1, none⟩) (by show w.heap.size ≠ w.heap.size + 2; omega) (.int .u64 (s1 : Int))
      have BY := BY.far (p := ⟨w.heap.size + 2, 1, none⟩) (by show w.heap.size + 1 ≠ w.heap.size + 2; omega) (.int .u64 (s1 : Int))
      have BW := BW.set_ 1 (.int .u64 (s1 : Int))
      refine wpAnyG_takeA 14 rfl (by kernel_rfl) (fun _ _ _ h => h) (fun _ => YieldsG.pure (by rfl) (fun w9 _ => by go_simp; try with_reducible rfl)) ?_
      try simp only [Act.put, List.setIfInBounds_toArray, List.set_cons_zero, List.set_cons_succ]
      refine wpAnyG_done (by kernel_rfl) (fun v hv => ?_)
      have hb := Below.gr hb hv
      have BX := Gr.blk hv BX
      have BY := Gr.blk hv BY
      have BW := Gr.blk hv BW
      clear hv pc pf
      go_wp2
      refine ⟨⟨hb, BX, BY, Lib.hid (.inr (.inr (.inl (⟨rfl, rfl, BW⟩))))⟩, by decide⟩
    · clear HI
      have px : wr.cell? ⟨w.heap.size, 2, none⟩ = some (.int .u64 (x2 : Int)) := BX.cell 2
      have py : wr.cell? ⟨w.heap.size + 1, 2, none⟩ = some (.int .u64 (y2 : Int)) := BY.cell 2
      go_wp2
      refine wp_region_G (fun j => j == 13) (by kernel_rfl) ?_
      try simp only [Act.put]
      refine wpAnyG_take 0 rfl (by kernel_rfl) (fun _ _ _ h => h) (YieldsG.pure (by rfl) (fun w9 _ => by go_simp; try with_reducible rfl)) ?_
      try simp only [Act.put, List.setIfInBounds_toArray, List.set_cons_zero, List.set_cons_succ]
      refine wpAnyG_take 1 rfl (by kernel_rfl) (fun _ _ _ h => h) (YieldsG.pure (by rfl) (fun w9 _ => by go_simp; try with_reducible rfl)) ?_
      try simp only [Act.put, List.setIfInBounds_toArray, List.set_cons_zero, List.set_cons_succ]
      refine wpAnyG_take 2 rfl (by kernel_rfl) (fun _ _ _ h => h) (YieldsG.pure (by rfl) (fun w9 _ => by go_simp; try with_reducible rfl)) ?_
      try simp only [Act.put, List.setIfInBounds_toArray, List.set_cons_zero, List.set_cons_succ]
      refine wpAnyG_take 3 rfl (by kernel_rfl) (fun _ _ _ h => h) (YieldsG.pure (v := .int .u64 (x2 : Int)) (by rfl) (fun w9 h9 => by have hz := (Below.cell (p := ⟨w.heap.size, 2, none⟩) h9 lX).trans px; go_simp; first | done | simp [hz])) ?_
      try simp only [Act.put, List.setIfInBounds_toArray, List.set_cons_zero, List.set_cons_succ]
      refine wpAnyG_take 4 rfl (by kernel_rfl) (fun _ _ _ h => h) (YieldsG.pure (by rfl) (fun w9 _ => by go_simp; try with_reducible rfl)) ?_
      try simp only [Act.put, List.setIfInBounds_toArray, List.set_cons_zero, List.set_cons_succ]
      refine wpAnyG_take 5 rfl (by kernel_rfl) (fun _ _ _ h => h) (YieldsG.pure (by rfl) (fun w9 _ => by go_simp; try with_reducible rfl)) ?_
      try simp only [Act.put, List.setIfInBounds_toArray, List.set_cons_zero, List.set_cons_succ]
      refine wpAnyG_take 6 rfl (by kernel_rfl) (fun _ _ _ h => h) (YieldsG.pure (v := .int .u64 (y2 : Int)) (by rfl) (fun w9 h9 => by have hz := (Below.cell (p := ⟨w.heap.size + 1, 2, none⟩) h9 lY).trans py; go_simp; first | done | simp [hz])) ?_
      try simp only [Act.put, List.setIfInBounds_toArray, List.set_cons_zero, List.set_cons_succ]
      refine wpAnyG_take 7 rfl (by kernel_rfl) (fun _ _ _ h => h) (YieldsG.pure (by rfl) (fun w9 _ => by go_simp; try with_reducible rfl)) ?_
      try simp only [Act.put, List.setIfInBounds_toArray, List.set_cons_zero, List.set_cons_succ]
      refine wpAnyG_take 8 rfl (by kernel_rfl) (fun _ _ _ h => h) (YieldsG.pure (v := .tuple #[.int .u64 (s2 : Int), .int .u64 (c2 : Int)]) (by rfl) (fun w9 h9 => by go_simp)) ?_
      try simp only [Act.put, List.setIfInBounds_toArray, List.set_cons_zero, List.set_cons_succ]
      refine wpAnyG_take 9 rfl (by kernel_rfl) (fun _ _ _ h => h) (YieldsG.pure (by rfl) (fun w9 _ => by go_simp; try with_reducible rfl)) ?_
      try simp only [Act.put, List.setIfInBounds_toArray, List.set_cons_zero, List.set_cons_succ]
      refine wpAnyG_take 10 rfl (by kernel_rfl) (fun _ _ _ h => h) (YieldsG.pure (by rfl) (fun w9 _ => by go_simp; try with_reducible rfl)) ?_
      try simp only [Act.put, List.setIfInBounds_toArray, List.set_cons_zero, List.set_cons_succ]
      refine wpAnyG_takeA 11 rfl (by kernel_rfl) (fun _ _ _ h => h) (fun _ => YieldsG.pure (by rfl) (fun w9 _ => by go_simp; try with_reducible rfl)) ?_
      try simp only [Act.put, List.setIfInBounds_toArray, List.set_cons_zero, List.set_cons_succ]
      refine wpAnyG_take 12 rfl (by kernel_rfl) (fun _ _ _ h => h) (YieldsG.pure (by rfl) (fun w9 _ => by go_simp; try with_reducible rfl)) ?_
      try simp only [Act.put, List.setIfInBounds_toArray, List.set_cons_zero, List.set_cons_succ]
      refine wpAnyG_sole 13 rfl (by kernel_rfl) (by rfl) (fun u hu K hK => ?_)
      have BX := Gr.blk hu BX
      have BY := Gr.blk hu BY
      have BW := Gr.blk hu BW
      have hb := Below.gr hb hu
      have pc : u.cell? ⟨w.heap.size + 2, 2, none⟩ = some (.int .u64 0) := BW.cell 2
      have pf := BW.frozen 2
      clear hu px py
      go_simp
      refine hK _ _ (fun e => by cases e) ?_
      clear hK K
      have hb := hb.setCell (p := ⟨w.heap.size + 2, 2, none⟩) (by show w.heap.size ≤ w.heap.size + 2; omega) (.int .u64 (s2 : Int))
      have BX := BX.far (p := ⟨w.heap.size + 2, 2, none⟩) (by show w.heap.size ≠ w.heap.size + 2; omega) (.int .u64 (s2 : Int))
      have BY := BY.far (p := ⟨w.heap.size + 2, 2, none⟩) (by show w.heap.size + 1 ≠ w.heap.size + 2; omega) (.int .u64 (s2 : Int))
      have BW := BW.set_ 2 (.int .u64 (s2 : Int))
      refine wpAnyG_takeA 14 rfl (by kernel_rfl) (fun _ _ _ h => h) (fun _ => YieldsG.pure (by rfl) (fun w9 _ => by go_simp; try with_reducible rfl)) ?_
      try simp only [Act.put, List.setIfInBounds_toArray, List.set_cons_zero, List.set_cons_succ]
      refine wpAnyG_done (by kernel_rfl) (fun v hv => ?_)
      have hb := Below.gr hb hv
      have BX := Gr.blk hv BX
      have BY := Gr.blk hv BY
      have BW := Gr.blk hv BW
      clear hv pc pf
      go_wp2
      refine ⟨⟨hb, BX, BY, Lib.hid (.inr (.inr (.inr (.inl (⟨rfl, rfl, BW⟩)))))⟩, by decide⟩
    · clear HI
      have px : wr.cell? ⟨w.heap.size, 3, none⟩ = some (.int .u64 (x3 : Int)) := BX.cell 3
      have py : wr.cell? ⟨w.heap.size + 1, 3, none⟩ = some (.int .u64 (y3 : Int)) := BY.cell 3
      go_wp2
      refine wp_region_G (fun j => j == 13) (by kernel_rfl) ?_
      try simp only [Act.put]
      refine wpAnyG_take 0 rfl (by kernel_rfl) (fun _ _ _ h => h) (YieldsG.pure (by rfl) (fun w9 _ => by go_simp; try with_reducible rfl)) ?_
      try simp only [Act.put, List.setIfInBounds_toArray, List.set_cons_zero, List.set_cons_succ]
      refine wpAnyG_take 1 rfl (by kernel_rfl) (fun _ _ _ h => h) (YieldsG.pure (by rfl) (fun w9 _ => by go_simp; try with_reducible rfl)) ?_
      try simp only [Act.put, List.setIfInBounds_toArray, List.set_cons_zero, List.set_cons_succ]
      refine wpAnyG_take 2 rfl (by kernel_rfl) (fun _ _ _ h => h) (YieldsG.pure (by rfl) (fun w9 _ => by go_simp; try with_reducible rfl)) ?_
      try simp only [Act.put, List.setIfInBounds_toArray, List.set_cons_zero, List.set_cons_succ]
      refine wpAnyG_take 3 rfl (by kernel_rfl) (fun _ _ _ h => h) (YieldsG.pure (v := .int .u64 (x3 : Int)) (by rfl) (fun w9 h9 => by have hz := (Below.cell (p := ⟨w.heap.size, 3, none⟩) h9 lX).trans px; go_simp; first | done | simp [hz])) ?_
      try simp only [Act.put, List.setIfInBounds_toArray, List.set_cons_zero, List.set_cons_succ]
      refine wpAnyG_take 4 rfl (by kernel_rfl) (fun _ _ _ h => h) (YieldsG.pure (by rfl) (fun w9 _ => by go_simp; try with_reducible rfl)) ?_
      try simp only [Act.put, List.setIfInBounds_toArray, List.set_cons_zero, List.set_cons_succ]
      refine wpAnyG_take 5 rfl (by kernel_rfl) (fun _ _ _ h => h) (YieldsG.pure (by rfl) (fun w9 _ => by go_simp; try with_reducible rfl)) ?_
      try simp only [Act.put, List.setIfInBounds_toArray, List.set_cons_zero, List.set_cons_succ]
      refine wpAnyG_take 6 rfl (by kernel_rfl) (fun _ _ _ h => h) (YieldsG.pure (v := .int .u64 (y3 : Int)) (by rfl) (fun w9 h9 => by have hz := (Below.cell (p := ⟨w.heap.size + 1, 3, none⟩) h9 lY).trans py; go_simp; first | done | simp [hz])) ?_
      try simp only [Act.put, List.setIfInBounds_toArray, List.set_cons_zero, List.set_cons_succ]
      refine wpAnyG_take 7 rfl (by kernel_rfl) (fun _ _ _ h => h) (YieldsG.pure (by rfl) (fun w9 _ => by go_simp; try with_reducible rfl)) ?_
      try simp only [Act.put, List.setIfInBounds_toArray, List.set_cons_zero, List.set_cons_succ]
      refine wpAnyG_take 8 rfl (by kernel_rfl) (fun _ _ _ h => h) (YieldsG.pure (v := .tuple #[.int .u64 (s3 : Int), .int .u64 (c3 : Int)]) (by rfl) (fun w9 h9 => by go_simp)) ?_
      try simp only [Act.put, List.setIfInBounds_toArray, List.set_cons_zero, List.set_cons_succ]
      refine wpAnyG_take 9 rfl (by kernel_rfl) (fun _ _ _ h => h) (YieldsG.pure (by rfl) (fun w9 _ => by go_simp; try with_reducible rfl)) ?_
      try simp only [Act.put, List.setIfInBounds_toArray, List.set_cons_zero, List.set_cons_succ]
      refine wpAnyG_take 10 rfl (by kernel_rfl) (fun _ _ _ h => h) (YieldsG.pure (by rfl) (fun w9 _ => by go_simp; try with_reducible rfl)) ?_
      try simp only [Act.put, List.setIfInBounds_toArray, List.set_cons_zero, List.set_cons_succ]
      refine wpAnyG_takeA 11 rfl (by kernel_rfl) (fun _ _ _ h => h) (fun _ => YieldsG.pure (by rfl) (fun w9 _ => by go_simp; try with_reducible rfl)) ?_
      try simp only [Act.put, List.setIfInBounds_toArray, List.set_cons_zero, List.set_cons_succ]
      refine wpAnyG_take 12 rfl (by kernel_rfl) (fun _ _ _ h => h) (YieldsG.pure (by rfl) (fun w9 _ => by go_simp; try with_reducible rfl)) ?_
      try simp only [Act.put, List.setIfInBounds_toArray, List.set_cons_zero, List.set_cons_succ]
      refine wpAnyG_sole 13 rfl (by kernel_rfl) (by rfl) (fun u hu K hK => ?_)
      have BX := Gr.blk hu BX
      have BY := Gr.blk hu BY
      have BW := Gr.blk hu BW
      have hb := Below.gr hb hu
      have pc : u.cell? ⟨w.heap.size + 2, 3, none⟩ = some (.int .u64 0) := BW.cell 3
      have pf := BW.frozen 3
      clear hu px py
      go_simp
      refine hK _ _ (fun e => by cases e) ?_
      clear hK K
      have hb := hb.setCell (p := ⟨w.heap.size + 2, 3, none⟩) (by show w.heap.size ≤ w.heap.size + 2; omega) (.int .u64 (s3 : Int))
      have BX := BX.far (p := ⟨w.heap.size + 2, 3, none⟩) (by show w.heap.size ≠ w.heap.size + 2; omega) (.int .u64 (s3 : Int))
      have BY := BY.far (p := ⟨w.heap.size + 2, 3, none⟩) (by show w.heap.size + 1 ≠ w.heap.size + 2; omega) (.int .u64 (s3 : Int))
      have BW := BW.set_ 3 (.int .u64 (s3 : Int))
      refine wpAnyG_takeA 14 rfl (by kernel_rfl) (fun _ _ _ h => h) (fun _ => YieldsG.pure (by rfl) (fun w9 _ => by go_simp; try with_reducible rfl)) ?_
      try simp only [Act.put, List.setIfInBounds_toArray, List.set_cons_zero, List.set_cons_succ]
      refine wpAnyG_done (by kernel_rfl) (fun v hv => ?_)
      have hb := Below.gr hb hv
      have BX := Gr.blk hv BX
      have BY := Gr.blk hv BY
      have BW := Gr.blk hv BW
      clear hv pc pf
      go_wp2
      refine ⟨⟨hb, BX, BY, Lib.hid (.inr (.inr (.inr (.inr (⟨rfl, rfl, BW⟩)))))⟩, by decide⟩
    · clear HI
      obtain ⟨s, hsd⟩ : ∃ s, s = s0 + 18446744073709551616 * s1 + 340282366920938463463374607431768211456 * s2 + 6277101735386680763835789423207666416102355444464034512896 * s3 := ⟨_, rfl⟩
      have hf := hs.out
      have hl := hlt.out
      have hn := HF.out
      rw [← hsd] at hf hl hn
      have BS := BW.eq_ (fcs_words hf.symm).symm
      have HS := Lib.hid (And.intro hl hn)
      clear hf hl hn hsd
      go_wp2_with (first | ((with_reducible refine here_load (d := some 24) ?_); refine wpList_load_fv rfl _ _ rfl (w.heap.size + 2) rfl (s) _ _ _ (BS) (fv_fcs s) Tryz.underlying24 rfl (by kernel_rfl) ?_) | ((with_reducible refine here_store ?_); refine wpList_store_blk rfl _ _ _ rfl (w.heap.size + 2) (fcs (s)) rfl rfl _ _ (BS) (by kernel_rfl) (by rfl) (fcs_one _) ?_; intro w9 hL9 hB9 hK9))
      exact bodyPost_ret (res_cell_tmp rfl _ _ (w.heap.size + 2) _ _ _ _ rfl hL9 rfl Tryz.underlying24 rfl (by kernel_rfl)) rfl ⟨⟨s, c3, HS.out.1, HK.out, HS.out.2, rfl⟩, hb.trans (hB9 _ (by omega))⟩
theorem minus_fv (w : World) (x y s k : Nat) (hx : x < 115792089237316195423570985008687907853269984665640564039457584007913129639936) (hy : y < 115792089237316195423570985008687907853269984665640564039457584007913129639936) (hs : s < 115792089237316195423570985008687907853269984665640564039457584007913129639936) (he : s + y = x + 115792089237316195423570985008687907853269984665640564039457584007913129639936 * k) :
    Calls Tryz.prog 130 #[fv x, fv y] w fun e w' => e = .returned (.tuple #[fv s, .int .u64 (k : Int)]) ∧ Below w.heap.size w w' := by
  refine (minus_any w x y hx hy).mono ?_
  rintro e w' ⟨⟨s', k', hs', hk', he', rfl⟩, hb⟩
  obtain rfl : k' = k := by omega
  obtain rfl : s' = s := by omega
  exact ⟨rfl, hb⟩
theorem order_at (w : World) (p : Nat) (hp : p = 115792089237316195423570985008687907852837564279074904382605163141518161494337) : Calls Tryz.prog 131 #[] w fun e w' => e = .returned (fv p) ∧ Below w.heap.size w w' := by
  subst hp; exact order_any w
set_option maxHeartbeats 2000000 in
set_option maxRecDepth 100000 in
theorem reduce_at (w : World) (x k z : Nat) (dk : Int) (hdk : dk = (k : Int)) (hx : x < 115792089237316195423570985008687907853269984665640564039457584007913129639936) (hk : k ≤ 1) (h2 : x + 115792089237316195423570985008687907853269984665640564039457584007913129639936 * k < 115792089237316195423570985008687907852837564279074904382605163141518161494337 + 115792089237316195423570985008687907852837564279074904382605163141518161494337) (hz : z = (x + 115792089237316195423570985008687907853269984665640564039457584007913129639936 * k) % pM) : Calls Tryz.prog 133 #[fv x, .int .u64 dk] w fun e w' => e = .returned (fv z) ∧ Below w.heap.size w w' := by
  subst hdk
  obtain ⟨p, hp⟩ : ∃ p, p = 115792089237316195423570985008687907852837564279074904382605163141518161494337 := ⟨_, rfl⟩
  rw [pM_eq, ← hp] at hz
  rw [← hp] at h2
  have hpl : p < 115792089237316195423570985008687907853269984665640564039457584007913129639936 := by omega
  obtain ⟨s, b, hs, hb, he⟩ : ∃ s b : Nat, s < 115792089237316195423570985008687907853269984665640564039457584007913129639936 ∧ b ≤ 1 ∧ s + p = x + 115792089237316195423570985008687907853269984665640564039457584007913129639936 * b := by
    by_cases h : p ≤ x
    · exact ⟨x - p, 0, by omega, by omega, by omega⟩
    · exact ⟨x + 115792089237316195423570985008687907853269984665640564039457584007913129639936 - p, 1, by omega, by omega, by omega⟩
  have cm := fun w => minus_fv w x p s b hx hpl hs he
  have co := fun w => order_at w p hp
  have t1 : b > k → z = x := fun h => by
    obtain rfl : k = 0 := by omega
    rw [hz, Nat.mod_eq_of_lt (by omega)]; omega
  have t2 : ¬ b > k → z = s := fun h => by
    rw [hz, Nat.mod_eq_sub_mod (by omega), Nat.mod_eq_of_lt (by omega)]
    rcases (show k = 0 ∨ k = 1 by omega) with rfl | rfl <;> omega
  obtain ⟨x0, x1, x2, x3, fx⟩ := words_fv x hx
  have FX := Lib.hid fx
  rw [fx]
  clear fx hx hz hp h2 hpl hs hb he hk
  go_enter Tryz.func133, Tryz.ntmps133
  go_wp2
  refine wp_region_G (fun j => j == 7) (by kernel_rfl) ?_
  try simp only [Act.put]
  refine wpAnyG_take 0 rfl (by kernel_rfl) (fun _ _ _ h => h) (YieldsG.loadF (by rfl) _ _ rfl (w.heap.size) rfl (x) _ _ ((Blk.new w _ _).alloc _) (FX.out) Tryz.underlying24 rfl (by kernel_rfl)) ?_
  try simp only [Act.put, List.setIfInBounds_toArray, List.set_cons_zero, List.set_cons_succ]
  refine wpAnyG_take 1 rfl (by kernel_rfl) (fun _ _ _ h => h) (YieldsG.call (v := fv p) (by rfl) 131 _ (fun w9 => by go_simp; try (first | with_reducible rfl | rfl)) (fun w9 h9 => co w9)) ?_
  try simp only [Act.put, List.setIfInBounds_toArray, List.set_cons_zero, List.set_cons_succ]
  refine wpAnyG_take 2 rfl (by kernel_rfl) (fun _ _ _ h => h) (YieldsG.call (v := .tuple #[fv s, .int .u64 (b : Int)]) (by rfl) 130 _ (fun w9 => by go_simp; try (first | with_reducible rfl | rfl)) (fun w9 h9 => cm w9)) ?_
  try simp only [Act.put, List.setIfInBounds_toArray, List.set_cons_zero, List.set_cons_succ]
  refine wpAnyG_take 3 rfl (by kernel_rfl) (fun _ _ _ h => h) (YieldsG.pure (by rfl) (fun w9 _ => by go_simp; try with_reducible rfl)) ?_
  try simp only [Act.put, List.setIfInBounds_toArray, List.set_cons_zero, List.set_cons_succ]
  refine wpAnyG_take 4 rfl (by kernel_rfl) (fun _ _ _ h => h) (YieldsG.pure (by rfl) (fun w9 _ => by go_simp; try with_reducible rfl)) ?_
  try simp only [Act.put, List.setIfInBounds_toArray, List.set_cons_zero, List.set_cons_succ]
  refine wpAnyG_takeA 5 rfl (by kernel_rfl) (fun _ _ _ h => h) (fun _ => YieldsG.pure (by rfl) (fun w9 _ => by go_simp; try with_reducible rfl)) ?_
  try simp only [Act.put, List.setIfInBounds_toArray, List.set_cons_zero, List.set_cons_succ]
  refine wpAnyG_sole 6 rfl (by kernel_rfl) (by rfl) (fun w3 h3 K hK => ?_)
  go_simp
  refine hK _ _ (fun _ => gr_alloc _ _) ?_
  clear hK K
  try simp only [Act.put, List.setIfInBounds_toArray, List.set_cons_zero, List.set_cons_succ]
  refine wpAnyG_store 7 rfl (by kernel_rfl) (by rfl) _ _ _ rfl (w3.heap.size) (fcs (s)) rfl rfl _ _ (Blk.new w3 _ _) (by kernel_rfl) (by rfl) (fcs_one _) rfl (fun w6 h6 w7 hB7 hL7 => ?_)
  try simp only [Act.put]
  refine wpAnyG_takeA 8 rfl (by kernel_rfl) (fun _ _ _ h => h) (fun _ => YieldsG.pure (by rfl) (fun w9 _ => by go_simp; try with_reducible rfl)) ?_
  try simp only [Act.put, List.setIfInBounds_toArray, List.set_cons_zero, List.set_cons_succ]
  refine wpAnyG_done (by kernel_rfl) (fun w8 h8 => ?_)
  have BS := Gr.blk h8 hL7
  have hsz : w.heap.size + 2 ≤ w3.heap.size := by have := h3.size; simp at this; omega
  have BX : Blk w8 w.heap.size 24 _ := Gr.blk h8 (Blk.below (B := w3.heap.size) (Gr.blk h6 (Blk.alloc (Gr.blk h3 ((Blk.new w _ _).alloc _)) _)) (hB7 _ (Nat.le_refl _)) (by omega))
  have BR : Blk w8 (w.heap.size + 1) 24 _ := Gr.blk h8 (Blk.below (B := w3.heap.size) (Gr.blk h6 (Blk.alloc (Gr.blk h3 (blk_new2 w _ _ _)) _)) (hB7 _ (Nat.le_refl _)) (by omega))
  have hB : Below w.heap.size w w8 := Below.gr ((Below.gr ((Below.gr (below_alloc2 w _ _) h3).alloc (by omega) _) h6).trans (hB7 _ (by omega))) h8
  clear h3 h6 hB7 hL7 h8 cm co
  by_cases hbk : b > k
  · have HZ := Lib.hid (t1 hbk)
    have p0 : (b : Int) > (k : Int) := by omega
    clear t1 t2 hbk
    go_wp2_with (first | ((with_reducible refine here_load (d := some 16) ?_); refine wpList_load_fv rfl _ _ rfl (w.heap.size) rfl (x) _ _ _ (BX) (FX.out) Tryz.underlying24 rfl (by kernel_rfl) ?_) | ((with_reducible refine here_store ?_); refine wpList_store_blk rfl _ _ _ rfl (w.heap.size + 1) (fcs (x)) rfl rfl _ _ (BR) (by kernel_rfl) (by rfl) (fcs_one _) ?_; intro w9 hL9 hB9 hK9))
    exact bodyPost_ret (results_cell_row rfl _ _ (w.heap.size + 1) _ _ (0, 0) _ rfl hL9 Tryz.underlying24 rfl (by kernel_rfl)) rfl ⟨by rw [HZ.out]; rfl, hB.trans (hB9 _ (by omega))⟩
  · have HZ := Lib.hid (t2 hbk)
    have p0 : ¬ (b : Int) > (k : Int) := by omega
    clear t1 t2 hbk
    go_wp2_with (first | ((with_reducible refine here_load (d := some 17) ?_); refine wpList_load_fv rfl _ _ rfl (w3.heap.size) rfl (s) _ _ _ (BS) (fv_fcs s) Tryz.underlying24 rfl (by kernel_rfl) ?_) | ((with_reducible refine here_store ?_); refine wpList_store_blk rfl _ _ _ rfl (w.heap.size + 1) (fcs (s)) rfl rfl _ _ (BR) (by kernel_rfl) (by rfl) (fcs_one _) ?_; intro w9 hL9 hB9 hK9))
    exact bodyPost_ret (results_cell_row rfl _ _ (w.heap.size + 1) _ _ (0, 0) _ rfl hL9 Tryz.underlying24 rfl (by kernel_rfl)) rfl ⟨by rw [HZ.out]; rfl, hB.trans (hB9 _ (by omega))⟩
set_option maxHeartbeats 1000000 in
theorem norm_any (w : World) (x : Nat) (hx : x < 115792089237316195423570985008687907853269984665640564039457584007913129639936) : Calls Tryz.prog 132 #[fv x] w fun e w' => e = .returned (fv (x % pM)) ∧ Below w.heap.size w w' := by
  obtain ⟨z, hz⟩ : ∃ z, z = x % pM := ⟨_, rfl⟩
  have cr := fun w => reduce_at w x 0 z 0 rfl hx (by omega) (by omega) (by rw [hz]; rfl)
  obtain ⟨x0, x1, x2, x3, fx⟩ := words_fv x hx
  have FX := Lib.hid fx
  rw [fx] at cr ⊢
  rw [← hz]
  clear fx hx hz
  go_enter Tryz.func132, Tryz.ntmps132
  go_wp2_with fail
  refine (cr _).mono ?_
  rintro e w1 ⟨rfl, hb1⟩
  have hg := Below.gr (below_alloc2 w _ _) hb1
  have hR : Blk w1 (w.heap.size + 1) 24 _ := Gr.blk hb1 (blk_new2 w _ _ _)
  go_wp2_with (first | ((with_reducible refine here_store ?_); refine wpList_store_blk rfl _ _ _ rfl (w.heap.size + 1) (fcs (z)) rfl rfl _ _ (hR) (by kernel_rfl) (by rfl) (fcs_one _) ?_; intro w4 hL hB4 hK4))
  exact bodyPost_ret (results_cell_row rfl _ _ (w.heap.size + 1) _ _ (0, 0) _ rfl hL Tryz.underlying24 rfl (by kernel_rfl)) rfl ⟨rfl, hg.trans (hB4 _ (by omega))⟩
set_option maxHeartbeats 8000000 in
set_option maxRecDepth 100000 in
theorem bytes_any (w : World) (x : Nat) (hx : x < 115792089237316195423570985008687907853269984665640564039457584007913129639936) : Calls Tryz.prog 82 #[fv x] w fun e w' => e = .returned (.agg ((bytesS (x % pM)).map bv).toArray) ∧ Below w.heap.size w w' := by
  obtain ⟨z, hz⟩ : ∃ z, z = x % pM := ⟨_, rfl⟩
  have hzl : z < 115792089237316195423570985008687907853269984665640564039457584007913129639936 := by rw [hz]; exact mod_lt x
  have cn : ∀ w, Calls Tryz.prog 132 #[fv x] w fun e w' => e = .returned (fv z) ∧ Below w.heap.size w w' := by
    intro w; rw [hz]; exact norm_any w x hx
  rw [← hz]
  obtain ⟨z0, z1, z2, z3, a0, a1, a2, a3, ez, fz⟩ := words_of z hzl
  have HZ := Lib.hid (And.intro a0 (And.intro a1 (And.intro a2 (And.intro a3 ez))))
  have FZ := Lib.hid fz
  obtain ⟨x0, x1, x2, x3, fx⟩ := words_fv x hx
  rw [fx] at cn ⊢
  clear fx fz hz hzl a0 a1 a2 a3 ez hx
  have hZB : Hid ((List.replicate 32 (Value.int .u8 0)).toArray = ((partB z 0).map bv).toArray) := Lib.hid (by simp [partB, lowB, bv])
  go_enter Tryz.func82, Tryz.ntmps82
  go_wp2_with fail
  refine (cn _).mono ?_
  rintro e w1 ⟨rfl, hb⟩
  have BR : Blk w1 (w.heap.size + 1) 30 _ := Gr.blk hb (Blk.alloc (blk_new2 w _ _ _) _)
  have BB : Blk w1 (w.heap.size + 2) 30 ((partB z 0).map bv).toArray := Blk.eq_ (Gr.blk hb (blk_new3 w _ _ _ _)) hZB.out
  have hB := Below.gr (below_alloc3 w _ _ _) hb
  have sz := BB.lt
  clear hb cn
  go_wp2_with (first | ((with_reducible refine here_store ?_); refine wpList_store_blk rfl _ _ _ rfl (w1.heap.size) (fcs (z)) rfl rfl _ _ (Blk.new w1 _ _) (by kernel_rfl) (by rfl) (fcs_one _) ?_; intro w2 hL2 hB2 hK2; have CR := hK2 _ (by omega) _ _ (BR.alloc _); have CB := hK2 _ (by omega) _ _ (BB.alloc _); have hC := (hB.alloc (by omega) _).trans (hB2 _ (by omega))))
  go_loopw [8] (fun i wr => ∃ k : Nat, k ≤ 32 ∧ i = .int .i64 (k : Int) ∧ Below w.heap.size w wr ∧ Blk wr (w.heap.size + 2) 30 ((partB z k).map bv).toArray ∧ Blk wr w1.heap.size 24 #[.int .u64 (z0 : Int), .int .u64 (z1 : Int), .int .u64 (z2 : Int), .int .u64 (z3 : Int)] ∧ Blk wr (w.heap.size + 1) 30 (List.replicate 32 (Value.int .u8 0)).toArray) (fun i _ => 32 - (intOf i).toNat)
  case atStart => exact ⟨0, by omega, rfl, hC, CB, hL2.eq_ (fcs_words FZ.out), CR⟩
  case round =>
    obtain ⟨k, hk, rfl, hb, hP, hN, hR⟩ := hrel
    by_cases hlt : k < 32
    · have ce : ∀ j, j < 32 → ∃ v, wr.cell? ⟨w.heap.size + 1 + 1, j, none⟩ = some v := fun j hj => ⟨_, (hP.cell j).trans (Array.getElem?_eq_getElem (by simp [partB_length z k hk]; exact hj))⟩
      obtain ⟨v, hv⟩ := ce (31 - k) (by omega)
      have ff := hP.frozen (31 - k)
      have q0 : wr.cell? ⟨w1.heap.size, 0, none⟩ = some (.int .u64 (z0 : Int)) := hN.cell 0
      have q1 : wr.cell? ⟨w1.heap.size, 1, none⟩ = some (.int .u64 (z1 : Int)) := hN.cell 1
      have q2 : wr.cell? ⟨w1.heap.size, 2, none⟩ = some (.int .u64 (z2 : Int)) := hN.cell 2
      have q3 : wr.cell? ⟨w1.heap.size, 3, none⟩ = some (.int .u64 (z3 : Int)) := hN.cell 3
      have hPn := hP.set_ (31 - k) (bv (byteN z k))
      rw [partB_set z k hlt] at hPn
      have HP := Lib.hid hPn
      clear hPn ce
      have HR := Lib.hid (And.intro hb (And.intro hN hR))
      clear hb hP hN hR hk
      have hsz : w.heap.size + 2 < w1.heap.size := sz
      rcases (show k = 0 ∨ k = 1 ∨ k = 2 ∨ k = 3 ∨ k = 4 ∨ k = 5 ∨ k = 6 ∨ k = 7 ∨ k = 8 ∨ k = 9 ∨ k = 10 ∨ k = 11 ∨ k = 12 ∨ k = 13 ∨ k = 14 ∨ k = 15 ∨ k = 16 ∨ k = 17 ∨ k = 18 ∨ k = 19 ∨ k = 20 ∨ k = 21 ∨ k = 22 ∨ k = 23 ∨ k = 24 ∨ k = 25 ∨ k = 26 ∨ k = 27 ∨ k = 28 ∨ k = 29 ∨ k = 30 ∨ k = 31 by omega) with rfl | rfl | rfl | rfl | rfl | rfl | rfl | rfl | rfl | rfl | rfl | rfl | rfl | rfl | rfl | rfl | rfl | rfl | rfl | rfl | rfl | rfl | rfl | rfl | rfl | rfl | rfl | rfl | rfl | rfl | rfl | rfl
      all_goals
        go_wp2
        obtain ⟨a0, a1, a2, a3, ez⟩ := HZ.out
        refine ⟨⟨_, by decide, rfl, HR.out.1.setCell (by show w.heap.size ≤ w.heap.size + 1 + 1; omega) _, HP.out.val (by rw [bv_byteN]; congr 1; omega), HR.out.2.1.far (by show w1.heap.size ≠ w.heap.size + 1 + 1; omega) _, HR.out.2.2.far (by show w.heap.size + 1 ≠ w.heap.size + 1 + 1; omega) _⟩, by simp [intOf]⟩
    · have p1 : ¬ (k : Int) < 32 := by omega
      obtain rfl : k = 32 := by omega
      rw [partB_full] at hP
      have HI := Lib.hid (bytesS_length z)
      have HL := Lib.hid hP
      have HR := Lib.hid hR
      clear hN hP hR
      go_wp2_with (first | ((with_reducible refine here_load (d := some 24) ?_); refine wpList_load_blk rfl _ _ rfl (w.heap.size + 2) rfl _ _ _ HL.out Tryz.underlying30 rfl (b32_info HI.out) ?_) | ((with_reducible refine here_store ?_); refine wpList_store_blk rfl _ _ _ rfl (w.heap.size + 1) ((bytesS z).map bv).toArray rfl rfl _ _ HR.out (b32_info HI.out) (by simp [HI.out]) (b32_one _) ?_; intro w9 hL9 hB9 hK9))
      exact bodyPost_ret (results_cell_row rfl _ _ (w.heap.size + 1) _ _ (0, 0) _ rfl hL9 Tryz.underlying30 rfl (b32_info HI.out)) rfl ⟨rfl, hb.trans (hB9 _ (by omega))⟩

end Go.Proofs.YtbofhoonlmikcaaGreatDoor.Sc

end
section
namespace Go.Proofs.YtbofhoonlmikcaaGreatDoor
open Go.RowKit Go.Lib

end Go.Proofs.YtbofhoonlmikcaaGreatDoor

end
section
namespace Go.Proofs.YtbofhoonlmikcaaGreatDoor
open Go.RowKit Go.Lib

def readS (l : List UInt8) : Nat × Bool := if valB l < pM then (valB l, true) else (0, false)

set_option maxHeartbeats 8000000 in
set_option maxRecDepth 100000 in
theorem read_any (w : World) (l : List UInt8) (hl : l.length = 32) : Calls Tryz.prog 102 #[.agg (l.map bv).toArray] w fun e w' => e = .returned (.tuple #[fv (readS l).1, .bool (readS l).2]) ∧ Below w.heap.size w w' := by
  have HL := Lib.hid hl
  clear hl
  go_enter Tryz.func102, Tryz.ntmps102
  go_wp2_with (first | ((with_reducible refine here_load (d := some 7) ?_); refine wpList_load_blk rfl _ _ rfl w.heap.size rfl _ _ _ (((Blk.new w _ _).alloc _).alloc _) Tryz.underlying30 rfl (b32_info HL.out) ?_))
  go_loopw [8] (fun i wr => ∃ k y0 y1 y2 y3 : Nat, k ≤ 32 ∧ i = .int .i64 (k : Int) ∧ Hid (y0 = wdB l k 0 ∧ y1 = wdB l k 1 ∧ y2 = wdB l k 2 ∧ y3 = wdB l k 3) ∧ Below w.heap.size w wr ∧ Blk wr (w.heap.size + 2) 50 #[.int .u64 (y3 : Int), .int .u64 (y2 : Int), .int .u64 (y1 : Int), .int .u64 (y0 : Int)] ∧ Blk wr (w.heap.size + 1) 50 #[.int .u64 0, .int .u64 0, .int .u64 0, .int .u64 0]) (fun i _ => 32 - (intOf i).toNat)
  case atStart => exact ⟨0, 0, 0, 0, 0, by omega, rfl, Lib.hid ⟨(wdB_zero l 0).symm, (wdB_zero l 1).symm, (wdB_zero l 2).symm, (wdB_zero l 3).symm⟩, below_alloc3 w _ _ _, blk_new3 w _ _ _ _, (blk_new2 w _ _ _).alloc _⟩
  case round =>
    obtain ⟨k, y0, y1, y2, y3, hk, rfl, HY, hb, hP, hR⟩ := hrel
    have q3 : wr.cell? ⟨w.heap.size + 1 + 1, 0, none⟩ = some (.int .u64 (y3 : Int)) := hP.cell 0
    have q2 : wr.cell? ⟨w.heap.size + 1 + 1, 1, none⟩ = some (.int .u64 (y2 : Int)) := hP.cell 1
    have q1 : wr.cell? ⟨w.heap.size + 1 + 1, 2, none⟩ = some (.int .u64 (y1 : Int)) := hP.cell 2
    have q0 : wr.cell? ⟨w.heap.size + 1 + 1, 3, none⟩ = some (.int .u64 (y0 : Int)) := hP.cell 3
    have ff : ∀ j, wr.frozen? ⟨w.heap.size + 1 + 1, j, none⟩ = false := fun j => hP.frozen j
    by_cases hlt : k < 32
    · obtain ⟨c, hc⟩ : ∃ c, l[k]? = some c := ⟨l[k]'(by rw [HL.out]; exact hlt), List.getElem?_eq_getElem _⟩
      have HC := Lib.hid hc
      obtain ⟨m, hm⟩ : ∃ m, m = c.toNat := ⟨_, rfl⟩
      have hm8 : m < 256 := by rw [hm]; exact c.toNat_lt
      have hI : ∀ W, (Instr.index 30 (.agg (l.map bv).toArray) (.int .i64 (k : Int))).run Tryz.prog W = .ok (.int .u8 (m : Int)) W := fun W => by
        rw [run_index_b32 W l k c hc hlt, hm]; rfl
      have HM := Lib.hid hm
      have HR := Lib.hid (And.intro hb (And.intro hP hR))
      clear hb hP hR hc hk hm
      rcases (show k = 0 ∨ k = 1 ∨ k = 2 ∨ k = 3 ∨ k = 4 ∨ k = 5 ∨ k = 6 ∨ k = 7 ∨ k = 8 ∨ k = 9 ∨ k = 10 ∨ k = 11 ∨ k = 12 ∨ k = 13 ∨ k = 14 ∨ k = 15 ∨ k = 16 ∨ k = 17 ∨ k = 18 ∨ k = 19 ∨ k = 20 ∨ k = 21 ∨ k = 22 ∨ k = 23 ∨ k = 24 ∨ k = 25 ∨ k = 26 ∨ k = 27 ∨ k = 28 ∨ k = 29 ∨ k = 30 ∨ k = 31 by omega) with rfl | rfl | rfl | rfl | rfl | rfl | rfl | rfl | rfl | rfl | rfl | rfl | rfl | rfl | rfl | rfl | rfl | rfl | rfl | rfl | rfl | rfl | rfl | rfl | rfl | rfl | rfl | rfl | rfl | rfl | rfl | rfl
      all_goals
        simp only [Int.cast_ofNat_Int] at hI
      all_goals
        first
        | ((have hy : y0 < 72057594037927936 := by rw [HY.out.1]; exact wdB_lt l _ 0 (by decide)); (have ho := or_add y0 m hy hm8); go_wp2; (refine ⟨⟨_, y0 * 256 + m, y1, y2, y3, by decide, rfl, Lib.hid ⟨by rw [HY.out.1, HM.out]; exact (wdB_step l _ 0 c HC.out (by decide)).symm, by rw [HY.out.2.1]; exact (wdB_same l _ 1 (by decide)).symm, by rw [HY.out.2.2.1]; exact (wdB_same l _ 2 (by decide)).symm, by rw [HY.out.2.2.2]; exact (wdB_same l _ 3 (by decide)).symm⟩, HR.out.1.setCell (by show w.heap.size ≤ w.heap.size + 1 + 1; omega) _, Blk.eq_ (HR.out.2.1.set_ 3 _) (by rw [show ((y0 * 256 + m : Nat) : Int) = (y0 : Int) * 256 + (m : Int) by omega]; rfl), HR.out.2.2.far (by show w.heap.size + 1 ≠ w.heap.size + 1 + 1; omega) _⟩, by simp [intOf]⟩))
        | ((have hy : y1 < 72057594037927936 := by rw [HY.out.2.1]; exact wdB_lt l _ 1 (by decide)); (have ho := or_add y1 m hy hm8); go_wp2; (refine ⟨⟨_, y0, y1 * 256 + m, y2, y3, by decide, rfl, Lib.hid ⟨by rw [HY.out.1]; exact (wdB_same l _ 0 (by decide)).symm, by rw [HY.out.2.1, HM.out]; exact (wdB_step l _ 1 c HC.out (by decide)).symm, by rw [HY.out.2.2.1]; exact (wdB_same l _ 2 (by decide)).symm, by rw [HY.out.2.2.2]; exact (wdB_same l _ 3 (by decide)).symm⟩, HR.out.1.setCell (by show w.heap.size ≤ w.heap.size + 1 + 1; omega) _, Blk.eq_ (HR.out.2.1.set_ 2 _) (by rw [show ((y1 * 256 + m : Nat) : Int) = (y1 : Int) * 256 + (m : Int) by omega]; rfl), HR.out.2.2.far (by show w.heap.size + 1 ≠ w.heap.size + 1 + 1; omega) _⟩, by simp [intOf]⟩))
        | ((have hy : y2 < 72057594037927936 := by rw [HY.out.2.2.1]; exact wdB_lt l _ 2 (by decide)); (have ho := or_add y2 m hy hm8); go_wp2; (refine ⟨⟨_, y0, y1, y2 * 256 + m, y3, by decide, rfl, Lib.hid ⟨by rw [HY.out.1]; exact (wdB_same l _ 0 (by decide)).symm, by rw [HY.out.2.1]; exact (wdB_same l _ 1 (by decide)).symm, by rw [HY.out.2.2.1, HM.out]; exact (wdB_step l _ 2 c HC.out (by decide)).symm, by rw [HY.out.2.2.2]; exact (wdB_same l _ 3 (by decide)).symm⟩, HR.out.1.setCell (by show w.heap.size ≤ w.heap.size + 1 + 1; omega) _, Blk.eq_ (HR.out.2.1.set_ 1 _) (by rw [show ((y2 * 256 + m : Nat) : Int) = (y2 : Int) * 256 + (m : Int) by omega]; rfl), HR.out.2.2.far (by show w.heap.size + 1 ≠ w.heap.size + 1 + 1; omega) _⟩, by simp [intOf]⟩))
        | ((have hy : y3 < 72057594037927936 := by rw [HY.out.2.2.2]; exact wdB_lt l _ 3 (by decide)); (have ho := or_add y3 m hy hm8); go_wp2; (refine ⟨⟨_, y0, y1, y2, y3 * 256 + m, by decide, rfl, Lib.hid ⟨by rw [HY.out.1]; exact (wdB_same l _ 0 (by decide)).symm, by rw [HY.out.2.1]; exact (wdB_same l _ 1 (by decide)).symm, by rw [HY.out.2.2.1]; exact (wdB_same l _ 2 (by decide)).symm, by rw [HY.out.2.2.2, HM.out]; exact (wdB_step l _ 3 c HC.out (by decide)).symm⟩, HR.out.1.setCell (by show w.heap.size ≤ w.heap.size + 1 + 1; omega) _, Blk.eq_ (HR.out.2.1.set_ 0 _) (by rw [show ((y3 * 256 + m : Nat) : Int) = (y3 : Int) * 256 + (m : Int) by omega]; rfl), HR.out.2.2.far (by show w.heap.size + 1 ≠ w.heap.size + 1 + 1; omega) _⟩, by simp [intOf]⟩))
    · have p1 : ¬ (k : Int) < 32 := by omega
      obtain rfl : k = 32 := by omega
      have b0 : y0 < 18446744073709551616 := by rw [HY.out.1]; exact wdB_lt8 l _ _
      have b1 : y1 < 18446744073709551616 := by rw [HY.out.2.1]; exact wdB_lt8 l _ _
      have b2 : y2 < 18446744073709551616 := by rw [HY.out.2.2.1]; exact wdB_lt8 l _ _
      have b3 : y3 < 18446744073709551616 := by rw [HY.out.2.2.2]; exact wdB_lt8 l _ _
      obtain ⟨z, hz⟩ : ∃ z, z = y3 + 18446744073709551616 * y2 + 340282366920938463463374607431768211456 * y1 + 6277101735386680763835789423207666416102355444464034512896 * y0 := ⟨_, rfl⟩
      have fz := fv_mk y3 y2 y1 y0 b3 b2 b1 b0
      rw [← hz] at fz
      have hzl : z < 115792089237316195423570985008687907853269984665640564039457584007913129639936 := by rw [hz]; exact fv_lt y3 y2 y1 y0 b3 b2 b1 b0
      have hzv : z = valB l := by rw [wdB_all l HL.out, hz, HY.out.1, HY.out.2.1, HY.out.2.2.1, HY.out.2.2.2]
      obtain ⟨n, hn⟩ : ∃ n, n = z % pM := ⟨_, rfl⟩
      have hnl : n < 115792089237316195423570985008687907853269984665640564039457584007913129639936 := by rw [hn]; exact mod_lt z
      obtain ⟨b, hbd⟩ : ∃ b, b = decide (n ≠ z) := ⟨_, rfl⟩
      have eb : ∀ W, (binOp .neq 50 (fv n) (fv z)).run Tryz.prog W = .ok (.bool b) W := fun W => by rw [hbd]; exact run_neq_fv W n z hnl hzl
      have cn : ∀ w, Calls Tryz.prog 150 #[fv z] w fun e w' => e = .returned (fv n) ∧ Below w.heap.size w w' := by
        intro w; rw [hn]; exact norm_any w z hzl
      have hS : readS l = if b = true then (0, false) else (z, true) := by
        unfold readS
        rw [← hzv, hbd, hn]
        by_cases h : z < pM
        · rw [if_pos h, Nat.mod_eq_of_lt h]; simp
        · have h2 : z % pM ≠ z := fun e => h (by rw [← e]; exact mod_lt_p z)
          rw [if_neg h]; simp [h2]
      have HS := Lib.hid hS
      have FZ := Lib.hid fz.symm
      have HP := Lib.hid hP
      clear HY b0 b1 b2 b3 hz fz hzl hzv hn hnl hbd hS q0 q1 q2 q3 ff hP
      go_wp2
      refine wp_region_G (fun _ => false) (by kernel_rfl) ?_
      try simp only [Act.put]
      refine wpAnyG_take 0 rfl (by kernel_rfl) (fun _ _ _ h => h) (YieldsG.loadF (by rfl) _ _ rfl (w.heap.size + 2) rfl (z) _ _ (HP.out) (FZ.out) Tryz.underlying50 rfl (by kernel_rfl)) ?_
      try simp only [Act.put, List.setIfInBounds_toArray, List.set_cons_zero, List.set_cons_succ]
      refine wpAnyG_take 1 rfl (by kernel_rfl) (fun _ _ _ h => h) (YieldsG.call (v := fv n) (by rfl) 150 _ (fun w9 => by go_simp; try (first | with_reducible rfl | rfl)) (fun w9 h9 => cn w9)) ?_
      try simp only [Act.put, List.setIfInBounds_toArray, List.set_cons_zero, List.set_cons_succ]
      refine wpAnyG_take 2 rfl (by kernel_rfl) (fun _ _ _ h => h) (YieldsG.loadF (by rfl) _ _ rfl (w.heap.size + 2) rfl (z) _ _ (HP.out) (FZ.out) Tryz.underlying50 rfl (by kernel_rfl)) ?_
      try simp only [Act.put, List.setIfInBounds_toArray, List.set_cons_zero, List.set_cons_succ]
      refine wpAnyG_take 3 rfl (by kernel_rfl) (fun _ _ _ h => h) (YieldsG.pure (v := .bool b) (by rfl) (fun w9 h9 => by go_simp; rw [run_eqGuard_fv]; simp only [Result.andThen_ok, eb])) ?_
      try simp only [Act.put, List.setIfInBounds_toArray, List.set_cons_zero, List.set_cons_succ]
      refine wpAnyG_done (by kernel_rfl) (fun u hu => ?_)
      have hbu := Below.gr hb hu
      have BR := Gr.blk hu hR
      have BP := Gr.blk hu HP.out
      clear hu hb hR HP eb cn
      cases b
      · have HT : Hid (readS l = (z, true)) := Lib.hid (by rw [HS.out]; rfl)
        clear HS
        go_wp2_with (first | ((with_reducible refine here_load (d := some 31) ?_); refine wpList_load_fv rfl _ _ rfl (w.heap.size + 2) rfl (z) _ _ _ (BP) (FZ.out) Tryz.underlying50 rfl (by kernel_rfl) ?_) | ((with_reducible refine here_store ?_); refine wpList_store_blk rfl _ _ _ rfl (w.heap.size + 1) (fcs (z)) rfl rfl _ _ (BR) (by kernel_rfl) (by rfl) (fcs_one _) ?_; intro vz hLz hqz hKz))
        exact bodyPost_ret (res_cell_tmp rfl _ _ (w.heap.size + 1) _ _ _ _ rfl hLz rfl Tryz.underlying50 rfl (by kernel_rfl)) rfl ⟨by rw [HT.out]; rfl, hbu.trans (hqz _ (by omega))⟩
      · have HT : Hid (readS l = (0, false)) := Lib.hid (by rw [HS.out]; rfl)
        clear HS
        go_wp2_with (first | ((with_reducible refine here_store ?_); refine wpList_store_blk rfl _ _ _ rfl (w.heap.size + 1) _ rfl rfl _ _ (BR) (by kernel_rfl) (by rfl) (by simp [Value.oneCell']) ?_; intro vz hLz hqz hKz))
        exact bodyPost_ret (res_cell_tmp rfl _ _ (w.heap.size + 1) _ _ _ _ rfl hLz rfl Tryz.underlying50 rfl (by kernel_rfl)) rfl ⟨by rw [HT.out]; rfl, hbu.trans (hqz _ (by omega))⟩
end Go.Proofs.YtbofhoonlmikcaaGreatDoor

end
section
namespace Go.Proofs.YtbofhoonlmikcaaGreatDoor
open Go.RowKit Go.Lib

end Go.Proofs.YtbofhoonlmikcaaGreatDoor

end
section
namespace Go.Proofs.YtbofhoonlmikcaaGreatDoor
open Go.RowKit Go.Lib

theorem root_lt_p (x : Nat) : rootR x < pM := by rw [← rootR_red]; exact mod_lt_p _
theorem neg_of (r : Nat) (h : r < pM) (h0 : r ≠ 0) : negP r = pM - r := by
  unfold negP
  rw [Nat.mod_eq_of_lt h]
  exact Nat.mod_eq_of_lt (by omega)
theorem neg_sq (r : Nat) (h : r < pM) (h0 : r ≠ 0) : mulP (negP r) (negP r) = mulP r r := by
  rw [neg_of r h h0]
  obtain ⟨q, hq⟩ : ∃ q, pM = q + r := ⟨pM - r, by omega⟩
  rw [show pM - r = q by omega]
  unfold mulP
  have e : q * q + pM * r = r * r + pM * q := by
    rw [hq, Nat.add_mul, Nat.add_mul, Nat.mul_comm r q]
    omega
  have h1 : (q * q + pM * r) % pM = q * q % pM := Nat.add_mul_mod_self_left _ _ _
  have h2 : (r * r + pM * q) % pM = r * r % pM := Nat.add_mul_mod_self_left _ _ _
  rw [← h1, ← h2, e]
theorem pM_odd : pM % 2 = 1 := by decide +kernel
theorem sqrt_even (x : Nat) : (sqrtS x).1 % pM % 2 = 0 := by
  unfold sqrtS
  have hr := root_lt_p x
  by_cases h1 : mulP (rootR x) (rootR x) ≠ x % pM
  · rw [if_pos h1]; rw [Nat.zero_mod]
  · rw [if_neg h1]
    by_cases h2 : rootR x % pM % 2 = 1
    · rw [if_pos h2]
      rw [rootR_red] at h2
      have h0 : rootR x ≠ 0 := by omega
      have e := neg_of _ hr h0
      have hp := pM_odd
      show negP (rootR x) % pM % 2 = 0
      rw [e, Nat.mod_eq_of_lt (show pM - rootR x < pM by omega)]
      omega
    · rw [if_neg h2]
      show rootR x % pM % 2 = 0
      omega
theorem sqrt_lt (x : Nat) : (sqrtS x).1 < 115792089237316195423570985008687907853269984665640564039457584007913129639936 := by
  unfold sqrtS
  by_cases h1 : mulP (rootR x) (rootR x) ≠ x % pM
  · rw [if_pos h1]; show 0 < _; omega
  · rw [if_neg h1]
    by_cases h2 : rootR x % pM % 2 = 1
    · rw [if_pos h2]; exact negP_lt _
    · rw [if_neg h2]; exact rootR_lt _
theorem sqrt_mul (x : Nat) (h : (sqrtS x).2 = true) : mulP (sqrtS x).1 (sqrtS x).1 = x % pM := by
  unfold sqrtS at h ⊢
  by_cases h1 : mulP (rootR x) (rootR x) ≠ x % pM
  · rw [if_pos h1] at h; cases h
  · rw [if_neg h1]
    have h1' : mulP (rootR x) (rootR x) = x % pM := Classical.not_not.1 h1
    by_cases h2 : rootR x % pM % 2 = 1
    · rw [if_pos h2]
      rw [rootR_red] at h2
      show mulP (negP (rootR x)) (negP (rootR x)) = _
      rw [neg_sq _ (root_lt_p x) (by omega)]
      exact h1'
    · rw [if_neg h2]; exact h1'
end Go.Proofs.YtbofhoonlmikcaaGreatDoor

end
section
namespace Go.Proofs.YtbofhoonlmikcaaGreatDoor.Cu
open Go.RowKit Go.Proofs.YtbofhoonlmikcaaGreatDoor Go.Proofs.YtbofhoonlmikcaaGreatDoor.Sy
set_option maxRecDepth 100000
set_option maxHeartbeats 4000000

theorem key_whole (l : List UInt8) {n : Nat} (hl : l.length = n) : Value.agg (((l.map bv).toArray.toList.drop 0).take n).toArray = .agg (l.map bv).toArray := by
  rw [List.drop_zero, List.take_of_length_le (by simp; omega)]
theorem key_size (l : List UInt8) {n : Nat} (hl : l.length = n) : 0 + n ≤ (l.map bv).toArray.size := by simp; omega
theorem key_at (l : List UInt8) {n : Nat} (hl : l.length = n) (k : Nat) (hk : k < n) : (l.map bv).toArray[k]? = some (bv (l.getD k 0)) := by
  have : k < l.length := by omega
  simp [List.getD, this]
def cubeN (x : Nat) : Nat := addP (mulP x (mulP x x)) 7
theorem cubeN_val (u : Fp) : cubeN u.val = (u * u * u + 7).val := by
  have e : u * (u * u) + 7 = u * u * u + 7 := by grobner
  rw [← e]
  rfl
def liftB (l : List UInt8) : Bool := decide (valB l < pM) && (sqrtS (cubeN (valB l))).2
theorem sqrt_fin (x : Nat) : (sqrtS x).1 < pM := by
  unfold sqrtS
  split
  · exact Nat.pos_of_ne_zero (by decide +kernel)
  · split
    · exact mod_lt_p _
    · show rootR x < pM
      rw [← rootR_red]; exact mod_lt_p _
def liftP (l : List UInt8) : Pt := if h : liftB l = true then some (⟨valB l, by unfold liftB at h; simp at h; exact h.1⟩, ⟨(sqrtS (cubeN (valB l))).1, sqrt_fin _⟩) else none
theorem lift_no {l : List UInt8} (h : liftB l = false) : liftP l = none := by unfold liftP; rw [dif_neg (by simp [h])]
theorem lift_yes {l : List UInt8} (h : liftB l = true) : ∃ u y : Fp, u.val = valB l ∧ y.val = (sqrtS (cubeN (valB l))).1 ∧ liftP l = some (u, y) ∧ y * y = u * u * u + 7 ∧ y.val % 2 = 0 := by
  refine ⟨_, _, rfl, rfl, by unfold liftP; rw [dif_pos h], ?_, ?_⟩
  · have h2 : (sqrtS (cubeN (valB l))).2 = true := by unfold liftB at h; simp at h; exact h.2
    have hm := sqrt_mul _ h2
    refine Fin.ext ?_
    have hv : valB l < pM := by unfold liftB at h; simp at h; exact h.1
    have e := cubeN_val ⟨valB l, hv⟩
    show mulP (sqrtS (cubeN (valB l))).1 (sqrtS (cubeN (valB l))).1 = _
    rw [hm, ← e]
    exact Nat.mod_eq_of_lt (mod_lt_p _)
  · have := sqrt_even (cubeN (valB l))
    rw [Nat.mod_eq_of_lt (sqrt_fin _)] at this
    exact this
theorem read_yes {l : List UInt8} {u : Fp} (h : u.val = valB l) : readS l = (u.val, true) := by
  unfold readS
  rw [if_pos (by rw [← h]; exact u.isLt), h]
theorem read_no {l : List UInt8} (h : ¬ valB l < pM) : readS l = (0, false) := by unfold readS; rw [if_neg h]
theorem lift_in (w : World) (l : List UInt8) (hl : l.length = 32) (u : Fp) (hu : u.val = valB l) : Calls Tryz.prog 50 #[.agg (l.map bv).toArray] w (Gets w (.tuple #[ptv (liftP l), .bool (liftB l)])) := by
  have cR : ∀ w, Calls Tryz.prog 102 #[.agg (l.map bv).toArray] w (Gets w (.tuple #[fv u.val, .bool true])) := fun w => by
    have h := read_any w l hl
    rw [read_yes hu] at h
    exact h
  refine Sy.enter (args := [.agg (l.map bv).toArray]) Tryz.func50 rfl kL ?_
  refine sC ?_
  refine sM 31 (l.map bv).toArray (fun g0 => ?_)
  refine sM 52 (pcs 0 0 false) (fun g1 => ?_)
  refine sP (.bool false) ?_
  refine sA ?_
  refine sS (.agg (l.map bv).toArray) (Quiet.load 0 g0 0 32 31 31 (l.map bv).toArray _ _ rfl kR kR Tryz.underlying31 rfl kR _ (key_whole l hl) (key_size l hl)) <| sS (.tuple #[fv u.val, .bool true]) (qF 102 #[.agg (l.map bv).toArray] (cR)) <| sP (.tuple #[fv u.val, .bool true]) <| sP (fv u.val) <| sP (.bool true) ?_
  refine sM 50 (fcs 0) (fun g2 => ?_)
  refine sW 2 g2 50 (fcs 0) (fcs u.val) (wS 0 50 (fcs u.val) rfl) <| sP (.bool true) ?_
  refine sA ?_
  refine sS (fv u.val) (qL 2 g2 0 4 50 50 (fcs u.val) rfl Tryz.underlying50) ?_
  obtain ⟨z1, hz1⟩ : ∃ z : Fp, z = u * u * u + 7 := ⟨_, rfl⟩
  refine sS (fv z1.val) (qF 104 #[fv u.val] (by rw [hz1]; exact fun w => square_c w u)) ?_
  obtain ⟨r1, hr1⟩ : ∃ z : Nat, z = (sqrtS z1.val).1 := ⟨_, rfl⟩
  obtain ⟨k1, hk1⟩ : ∃ z : Bool, z = (sqrtS z1.val).2 := ⟨_, rfl⟩
  have lr1 : r1 < K4 := by rw [hr1]; exact sqrt_lt _
  refine sS (.tuple #[fv r1, .bool k1]) (qF 103 #[fv z1.val] (fun w => by rw [hr1, hk1]; exact sqrt_any w z1.val lK)) <| sP (.tuple #[fv r1, .bool k1]) <| sP (fv r1) <| sP (.bool k1) ?_
  refine sM 50 (fcs 0) (fun g3 => ?_)
  refine sW 3 g3 50 (fcs 0) (fcs r1) (wS 0 50 (fcs r1) rfl) <| sP (.bool k1) ?_
  refine sG ?_
  refine Sy.seq ?_
  refine sC ?_
  refine sP (.bool true) <| sP (.bool false) <| sP (.bool false) <| sP (.bool k1) ?_
  cases k1
  · refine sP (.bool true) <| sP (.bool true) ?_
    refine sG ?_
    refine sT ?_
    refine sC ?_
    refine sS (pv 0 0 true) (qF 105 #[] (zero_c)) <| sW 1 g1 52 (pcs 0 0 false) (pcs 0 0 true) (wS 0 52 (pcs 0 0 true) rfl) <| sP (.bool false) ?_
    refine sG ?_
    refine Sy.ret ?_
    refine Sy.then_ret ?_
    rw [show (.tuple #[ptv (liftP l), .bool (liftB l)] : Value) = .tuple #[pv 0 0 true, .bool false] from by
      have hb : liftB l = false := by unfold liftB; rw [← hu, cubeN_val, ← hz1, ← hk1]; simp
      rw [hb, lift_no hb]; rfl]
    exact Sy.ret2 (v := pv 0 0 true) (u := .bool false) rfl (.inl (Res.cell (ty' := 52) g1 1 (pcs 0 0 true) _ kR kR Tryz.underlying52 rfl kR kR)) (.inl (show _ = _ by kernel_rfl))
  · refine sP (.bool false) <| sP (.bool false) ?_
    refine sG ?_
    refine sU ?_
    refine Sy.skip ?_
    refine sB ?_
    refine sS (fv u.val) (qL 2 g2 0 4 50 50 (fcs u.val) rfl Tryz.underlying50) <| sS (fv r1) (qL 3 g3 0 4 50 50 (fcs r1) rfl Tryz.underlying50) <| sP (pv u.val r1 false) <| sW 1 g1 52 (pcs 0 0 false) (pcs u.val r1 false) (wS 0 52 (pcs u.val r1 false) rfl) <| sP (.bool true) ?_
    refine sG ?_
    refine Sy.ret ?_
    rw [show (.tuple #[ptv (liftP l), .bool (liftB l)] : Value) = .tuple #[pv u.val r1 false, .bool true] from by
      have hb : liftB l = true := by unfold liftB; rw [← hu, cubeN_val, ← hz1, ← hk1]; simp [u.isLt]
      obtain ⟨u2, y2, e1, e2, e3, _, _⟩ := lift_yes hb
      rw [hb, e3]
      unfold ptv
      simp only
      rw [e1, e2, ← hu, cubeN_val, ← hz1, ← hr1]]
    exact Sy.ret2 (v := pv u.val r1 false) (u := .bool true) rfl (.inl (Res.cell (ty' := 52) g1 1 (pcs u.val r1 false) _ kR kR Tryz.underlying52 rfl kR kR)) (.inl (show _ = _ by kernel_rfl))
theorem lift_out (w : World) (l : List UInt8) (hl : l.length = 32) (hu : ¬ valB l < pM) : Calls Tryz.prog 50 #[.agg (l.map bv).toArray] w (Gets w (.tuple #[ptv (liftP l), .bool (liftB l)])) := by
  have cR : ∀ w, Calls Tryz.prog 102 #[.agg (l.map bv).toArray] w (Gets w (.tuple #[fv (0 : Fp).val, .bool false])) := fun w => by
    have h := read_any w l hl
    rw [read_no hu] at h
    exact h
  refine Sy.enter (args := [.agg (l.map bv).toArray]) Tryz.func50 rfl kL ?_
  refine sC ?_
  refine sM 31 (l.map bv).toArray (fun g0 => ?_)
  refine sM 52 (pcs 0 0 false) (fun g1 => ?_)
  refine sP (.bool false) ?_
  refine sA ?_
  refine sS (.agg (l.map bv).toArray) (Quiet.load 0 g0 0 32 31 31 (l.map bv).toArray _ _ rfl kR kR Tryz.underlying31 rfl kR _ (key_whole l hl) (key_size l hl)) <| sS (.tuple #[fv ((0 : Fp).val), .bool false]) (qF 102 #[.agg (l.map bv).toArray] (cR)) <| sP (.tuple #[fv ((0 : Fp).val), .bool false]) <| sP (fv ((0 : Fp).val)) <| sP (.bool false) ?_
  refine sM 50 (fcs 0) (fun g2 => ?_)
  refine sW 2 g2 50 (fcs 0) (fcs ((0 : Fp).val)) (wS 0 50 (fcs ((0 : Fp).val)) rfl) <| sP (.bool false) ?_
  refine sA ?_
  refine sS (fv ((0 : Fp).val)) (qL 2 g2 0 4 50 50 (fcs ((0 : Fp).val)) rfl Tryz.underlying50) ?_
  obtain ⟨z1, hz1⟩ : ∃ z : Fp, z = (0 : Fp) * (0 : Fp) * (0 : Fp) + 7 := ⟨_, rfl⟩
  refine sS (fv z1.val) (qF 104 #[fv ((0 : Fp).val)] (by rw [hz1]; exact fun w => square_c w (0 : Fp))) ?_
  obtain ⟨r1, hr1⟩ : ∃ z : Nat, z = (sqrtS z1.val).1 := ⟨_, rfl⟩
  obtain ⟨k1, hk1⟩ : ∃ z : Bool, z = (sqrtS z1.val).2 := ⟨_, rfl⟩
  have lr1 : r1 < K4 := by rw [hr1]; exact sqrt_lt _
  refine sS (.tuple #[fv r1, .bool k1]) (qF 103 #[fv z1.val] (fun w => by rw [hr1, hk1]; exact sqrt_any w z1.val lK)) <| sP (.tuple #[fv r1, .bool k1]) <| sP (fv r1) <| sP (.bool k1) ?_
  refine sM 50 (fcs 0) (fun g3 => ?_)
  refine sW 3 g3 50 (fcs 0) (fcs r1) (wS 0 50 (fcs r1) rfl) <| sP (.bool k1) ?_
  refine sG ?_
  refine Sy.seq ?_
  refine sC ?_
  refine sP (.bool false) <| sP (.bool true) <| sP (.bool true) ?_
  refine sN ?_
  refine sN ?_
  refine sP (.bool true) ?_
  refine sG ?_
  refine sT ?_
  refine sC ?_
  refine sS (pv 0 0 true) (qF 105 #[] (zero_c)) <| sW 1 g1 52 (pcs 0 0 false) (pcs 0 0 true) (wS 0 52 (pcs 0 0 true) rfl) <| sP (.bool false) ?_
  refine sG ?_
  refine Sy.ret ?_
  refine Sy.then_ret ?_
  rw [show (.tuple #[ptv (liftP l), .bool (liftB l)] : Value) = .tuple #[pv 0 0 true, .bool false] from by
      have hb : liftB l = false := by unfold liftB; simp [hu]
      rw [hb, lift_no hb]; rfl]
  exact Sy.ret2 (v := pv 0 0 true) (u := .bool false) rfl (.inl (Res.cell (ty' := 52) g1 1 (pcs 0 0 true) _ kR kR Tryz.underlying52 rfl kR kR)) (.inl (show _ = _ by kernel_rfl))
theorem lift_any (w : World) (l : List UInt8) (hl : l.length = 32) : Calls Tryz.prog 50 #[.agg (l.map bv).toArray] w (Gets w (.tuple #[ptv (liftP l), .bool (liftB l)])) := by
  by_cases h : valB l < pM
  · exact lift_in w l hl ⟨valB l, h⟩ rfl
  · exact lift_out w l hl h
end Go.Proofs.YtbofhoonlmikcaaGreatDoor.Cu

end
section
namespace Go.Proofs.YtbofhoonlmikcaaGreatDoor.Cu
open Go.RowKit Go.Proofs.YtbofhoonlmikcaaGreatDoor Go.Proofs.YtbofhoonlmikcaaGreatDoor.Sy
set_option maxRecDepth 100000
set_option maxHeartbeats 4000000

def dg (m j : Nat) : Nat := m / 16 ^ (63 - j) % 16
def dgA (m j : Nat) : List Value := [.int .u8 ((dg m j : Nat) : Int)]
theorem dgA_len (m : Nat) : ∀ j, (dgA m j).length = 1 := fun _ => rfl
theorem byte_get (m k : Nat) (hk : k < 32) : ((bytesS m).getD k 0).toNat = m / 2 ^ (8 * (31 - k)) % 256 := by
  have h : ∀ n j, j < n → (lowB m n).getD j 0 = byteN m (n - 1 - j) := by
    intro n
    induction n with
    | zero => intro j hj; omega
    | succ n ih =>
      intro j hj
      cases j with
      | zero => rfl
      | succ j =>
        show (lowB m n).getD j 0 = _
        rw [ih j (by omega)]
        congr 1
        omega
  unfold bytesS
  rw [h 32 k hk, show 32 - 1 - k = 31 - k by omega]
  unfold byteN
  rw [UInt8.toNat_ofNat']
  omega
theorem p16 (k : Nat) : (2 : Nat) ^ (8 * k) = 16 ^ (2 * k) := by
  rw [show 8 * k = 4 * (2 * k) by omega, Nat.pow_mul]
theorem dg_hi (m k : Nat) (hk : k < 32) : ((bytesS m).getD k 0).toNat / 16 = dg m (2 * k) := by
  rw [byte_get m k hk, p16]
  unfold dg
  rw [show 63 - 2 * k = 2 * (31 - k) + 1 by omega, Nat.pow_succ, ← Nat.div_div_eq_div_mul]
  omega
theorem dg_lo (m k : Nat) (hk : k < 32) : ((bytesS m).getD k 0).toNat % 16 = dg m (2 * k + 1) := by
  rw [byte_get m k hk, p16]
  unfold dg
  rw [show 63 - (2 * k + 1) = 2 * (31 - k) by omega]
  omega
theorem exec_hi (F : Slots) (o : Oper) (t : TypeId) (x y : Operand) {yt : TypeId} (b : UInt8) (d : Nat) (ho : o.op = .binOp .shr t x y yt) (hx : evF F x = bv b) (hy : evF F y = .int .u64 4) (h : b.toNat / 16 = d) (w : World) : (execOp (evF F) o).run Tryz.prog w = .ok (.value (.int .u8 ((d : Nat) : Int))) w :=
  exec_int .shr t x y .u8 (b.toNat : Int) 4 _ ho hx hy (int_shr t .u8 .u64 _ _ _ (by decide) (by
    show Int.fdiv (b.toNat : Int) ((16 : Nat) : Int) = _
    rw [← h, Int.fdiv_eq_ediv_of_nonneg _ (by omega)]
    omega)) w
theorem and15 : ∀ n : Fin 256, IntKind.u8.wrap ((BitVec.ofInt 8 ((n.val : Nat) : Int) &&& BitVec.ofInt 8 15).toNat : Int) = ((n.val % 16 : Nat) : Int) := by decide +kernel
theorem exec_lo (F : Slots) (o : Oper) (t : TypeId) (x y : Operand) {yt : TypeId} (b : UInt8) (d : Nat) (ho : o.op = .binOp .and t x y yt) (hx : evF F x = bv b) (hy : evF F y = .int .u8 15) (h : b.toNat % 16 = d) (w : World) : (execOp (evF F) o).run Tryz.prog w = .ok (.value (.int .u8 ((d : Nat) : Int))) w :=
  exec_int .and t x y .u8 (b.toNat : Int) 15 _ ho hx hy (int_and t .u8 _ _ _ (by
    rw [← h]
    exact and15 ⟨b.toNat, b.toNat_lt⟩)) w
theorem digits_c (w : World) (x : Nat) (hx : x < K4) : Calls Tryz.prog 164 #[fv x] w (Gets w (.agg (flat (dgA (x % Sc.pM)) 64).toArray)) := by
  obtain ⟨m, hm⟩ : ∃ m, m = x % Sc.pM := ⟨_, rfl⟩
  obtain ⟨l, hl0⟩ : ∃ l, l = bytesS m := ⟨_, rfl⟩
  have hl : l.length = 32 := by rw [hl0]; exact bytesS_length m
  have cB : ∀ w, Calls Tryz.prog 82 #[fv x] w (Gets w (.agg (l.map bv).toArray)) := fun w => by rw [hl0, hm]; exact Sc.bytes_any w x hx
  rw [← hm]
  refine Sy.enter (args := [fv x]) Tryz.func164 rfl kL ?_
  refine sC ?_
  refine sM 24 (fcs x) (fun g0 => ?_)
  refine Sy.make kR 26 (flat (fun _ => [.int .u8 0]) 64).toArray ptr kF (fun g1 => ?_)
  refine sA ?_
  refine Sy.make kR 26 (flat (fun _ => [.int .u8 0]) 64).toArray ptr kF (fun g2 => ?_)
  refine sG ?_
  refine Sy.seq ?_
  refine sC ?_
  refine sS (fv x) (qL 0 g0 0 4 24 24 (fcs x) rfl Tryz.underlying24) <| sS (.agg (l.map bv).toArray) (qF 82 #[fv x] (cB)) <| sP (.int .i64 0) ?_
  refine sG ?_
  refine Sy.block ?_
  refine Sy.loopK 32 (fun k1 => [(2, .pointer (some ⟨g1, 0, none⟩)), (3, .pointer (some ⟨g2, 0, none⟩)), (7, .agg (l.map bv).toArray), (8, .int .i64 ((k1 : Nat) : Int))]) (fun k1 => [(g1, 26, (flat (fun _ => [.int .u8 0]) 64).toArray), (g2, 26, (flat (upto (2 * k1) (dgA m) [.int .u8 0]) 64).toArray)]) [false, true, true] (M := [(g1, 26, (flat (fun _ => [.int .u8 0]) 64).toArray), (g2, 26, (flat (fun _ => [.int .u8 0]) 64).toArray)]) (all_cons kR (all_cons kR (all_cons kR (all_cons kR all_nil)))) kR (bcons rfl (bcons (beq (upto_zero)) rfl)) (fun k1 hk1 => ?_)
  refine sC ?_
  obtain ⟨b1, hb1⟩ : ∃ z : Bool, z = decide (k1 < 32) := ⟨_, rfl⟩
  refine sS (.bool b1) (Quiet.pure (exec_int .lss _ _ _ .i64 _ _ _ rfl rfl rfl (int_lss _ _ _ _ _ (by rw [hb1]; exact decide_eq_decide.2 (by omega))))) ?_
  refine sG ?_
  refine Sy.seq ?_
  cases b1
  · have lb1 : ¬ (k1 < 32) := of_decide_eq_false hb1.symm
    refine sU ?_
    refine Sy.exit ?_
    refine Sy.then_exit ?_
    refine Sy.then_exit ?_
    obtain rfl : k1 = 32 := by omega
    refine Sy.in_exit ?_
    refine sB ?_
    refine sS (.agg (flat (upto (2 * 32) (dgA m) [.int .u8 0]) 64).toArray) (Quiet.load 1 g2 0 64 26 26 (flat (upto (2 * 32) (dgA m) [.int .u8 0]) 64).toArray _ _ rfl kR kR Tryz.underlying26 rfl kR _ (flat_whole (upto_len (dgA_len m) rfl _) rfl) (flat_wsize (upto_len (dgA_len m) rfl _) rfl)) ?_
    refine Sy.write kR 0 g1 26 (flat (fun _ => [.int .u8 0]) 64).toArray (flat (upto (2 * 32) (dgA m) [.int .u8 0]) 64).toArray kR (Writes.store 0 26 (flat (upto (2 * 32) (dgA m) [.int .u8 0]) 64).toArray _ _ rfl kR kR (flat_info (upto_len (dgA_len m) rfl _) kR) (flat_over (upto_len (dgA_len m) rfl _) rfl kR) (flat_one (upto_len (dgA_len m) rfl _) _ (upto_one (fun _ u hu => by rw [List.mem_singleton.1 hu]; rfl) (fun u hu => by rw [List.mem_singleton.1 hu]; rfl) _)) (flat_put (upto_len (dgA_len m) rfl _) kR)) ?_
    refine sG ?_
    refine Sy.ret ?_
    rw [show (.agg (flat (dgA m) 64).toArray : Value) = .agg (flat (upto (2 * 32) (dgA m) [.int .u8 0]) 64).toArray from congrArg Value.agg upto_all.symm]
    exact Sy.ret1 rfl (v := .agg (flat (upto (2 * 32) (dgA m) [.int .u8 0]) 64).toArray) (.inl (Res.cell (ty' := 26) g1 0 (flat (upto (2 * 32) (dgA m) [.int .u8 0]) 64).toArray _ kR kR Tryz.underlying26 rfl (flat_info (upto_len (dgA_len m) rfl _) kR) rfl))
  · have lb1 : k1 < 32 := of_decide_eq_true hb1.symm
    refine sT ?_
    refine Sy.skip ?_
    refine Sy.then_ ?_
    refine Sy.seq ?_
    refine Sy.block ?_
    refine sC ?_
    refine sP (.int .i64 ((k1 : Nat) : Int)) <| sS (bv (l.getD k1 0)) (Quiet.pure (exec_idx _ _ _ _ _ 32 k1 .i64 _ _ rfl rfl rfl Tryz.underlying30 Tryz.underlying5 rfl kF (by omega) (key_at l hl k1 (by omega)))) <| sP (.int .i64 ((k1 : Nat) : Int)) <| sP (bv (l.getD k1 0)) ?_
    refine sG ?_
    refine Sy.region ?_
    refine sP (.int .i64 ((k1 : Nat) : Int)) <| sS (.int .i64 ((2 * k1 : Nat) : Int)) (Quiet.pure (exec_int .mul _ _ _ .i64 _ _ _ rfl rfl rfl (int_mul _ _ _ _ _ ((wrap_i64 (by omega) (by omega)).trans (by omega))))) <| sP (.int .i64 ((k1 : Nat) : Int)) <| sS (.int .i64 ((2 * k1 : Nat) : Int)) (Quiet.pure (exec_int .mul _ _ _ .i64 _ _ _ rfl rfl rfl (int_mul _ _ _ _ _ ((wrap_i64 (by omega) (by omega)).trans (by omega))))) <| sS (.int .i64 (((2 * k1) + 1 : Nat) : Int)) (Quiet.pure (exec_int .add _ _ _ .i64 _ _ _ rfl rfl rfl (int_add _ _ _ _ _ ((wrap_i64 (by omega) (by omega)).trans (by omega))))) <| sP (bv (l.getD k1 0)) <| sS (.int .u8 ((dg m (2 * k1) : Nat) : Int)) (Quiet.pure (exec_hi _ _ _ _ _ (l.getD k1 0) _ rfl rfl rfl (by rw [hl0]; exact dg_hi m k1 (by omega)))) <| sP (bv (l.getD k1 0)) ?_
    refine sS (.int .u8 ((dg m (2 * k1 + 1) : Nat) : Int)) (Quiet.pure (exec_lo _ _ _ _ _ (l.getD k1 0) _ rfl rfl rfl (by rw [hl0]; exact dg_lo m k1 (by omega)))) <| sS (.pointer (some ⟨g2, 0 + (2 * k1) * 1, none⟩)) (Quiet.pure (exec_atA 26 _ _ _ g2 0 _ (2 * k1) 1 .i64 rfl rfl rfl Tryz.underlying26 kF (by omega))) ?_
    refine Sy.write kR 1 g2 26 (flat (upto (2 * k1) (dgA m) [.int .u8 0]) 64).toArray (flat (upto (2 * k1 + 1) (dgA m) [.int .u8 0]) 64).toArray kR (Writes.one (0 + (2 * k1) * 1) 5 (.int .u8 ((dg m (2 * k1) : Nat) : Int)) _ _ rfl kR kR kR rfl rfl (flat_lt1 (upto_len (dgA_len m) rfl _) (k := 2 * k1) (by omega) (by omega)) ((congrArg (Array.setIfInBounds _ · _) (show 0 + (2 * k1) * 1 = 2 * k1 by omega)).trans (upto_set1 (dgA_len m) (rfl) (by omega)))) ?_
    refine sS (.pointer (some ⟨g2, 0 + ((2 * k1) + 1) * 1, none⟩)) (Quiet.pure (exec_atA 26 _ _ _ g2 0 _ ((2 * k1) + 1) 1 .i64 rfl rfl rfl Tryz.underlying26 kF (by omega))) ?_
    refine Sy.write kR 1 g2 26 (flat (upto (2 * k1 + 1) (dgA m) [.int .u8 0]) 64).toArray (flat (upto (2 * k1 + 1 + 1) (dgA m) [.int .u8 0]) 64).toArray kR (Writes.one (0 + ((2 * k1) + 1) * 1) 5 (.int .u8 ((dg m (2 * k1 + 1) : Nat) : Int)) _ _ rfl kR kR kR rfl rfl (flat_lt1 (upto_len (dgA_len m) rfl _) (k := 2 * k1 + 1) (by omega) (by omega)) ((congrArg (Array.setIfInBounds _ · _) (show 0 + ((2 * k1) + 1) * 1 = 2 * k1 + 1 by omega)).trans (upto_set1 (dgA_len m) (rfl) (by omega)))) ?_
    refine Sy.nil ?_
    refine Sy.in_ ?_
    refine Sy.then_ ?_
    refine Sy.region ?_
    refine sS (.int .i64 ((k1 + 1 : Nat) : Int)) (Quiet.pure (exec_int .add _ _ _ .i64 _ _ _ rfl rfl rfl (int_add _ _ _ _ _ ((wrap_i64 (by omega) (by omega)).trans (by omega))))) <| sP (.int .i64 ((k1 + 1 : Nat) : Int)) ?_
    refine Sy.nil ?_
    exact Sy.againK [true, true] (M := [(g1, 26, (flat (fun _ => [.int .u8 0]) 64).toArray), (g2, 26, (flat (upto (2 * k1 + 1 + 1) (dgA m) [.int .u8 0]) 64).toArray)]) (by omega) (all_cons kR (all_cons kR (all_cons kR (all_cons kR all_nil)))) kR (bcons rfl (bcons (beq (congrArg (fun t => (flat (upto t (dgA m) [.int .u8 0]) 64).toArray) (show 2 * k1 + 1 + 1 = 2 * (k1 + 1) by omega))) rfl))
def tws (x y z : Nat) : List Value := fws x ++ (fws y ++ fws z)
def jws (a : J) : List Value := tws a.x.val a.y.val a.z.val
def fewL (a : J) : Nat → J
  | 0 => ⟨0, 0, 0⟩
  | k + 1 => addJ (fewL a k) a
theorem fewL_rep {a : J} {P : Pt} (hP : Ec.On P) (h : Ec.Rep a P) : ∀ k, Ec.Rep (fewL a k) (Ec.nm finv k P)
  | 0 => rfl
  | k + 1 => addJ_rep (hP.nm fld k) hP (fewL_rep hP h k) h
def fewA (a : J) (j : Nat) : List Value := jws (fewL a j)
theorem fewA_len (a : J) : ∀ j, (fewA a j).length = 12 := fun _ => rfl
theorem few_first (a : J) : (flat (fun _ => tws 0 0 0) 16).toArray = (flat (upto 1 (fewA a) (tws 0 0 0)) 16).toArray := congrArg List.toArray (flat_congr fun j _ => by
  unfold upto
  split
  · obtain rfl : j = 0 := by omega
    rfl
  · rfl)
theorem jws_one (a : J) : ∀ u ∈ jws a, u.oneCell' = true := fun u hu => by
  unfold jws tws fws at hu
  simp [qv] at hu
  rcases hu with rfl | rfl | rfl | rfl | rfl | rfl | rfl | rfl | rfl | rfl | rfl | rfl <;> rfl
theorem few_c (w : World) (P : Pt) (x y : Nat) (i : Bool) (hP : ptv P = pv x y i) : Calls Tryz.prog 165 #[pv x y i] w (Gets w (.agg (flat (fewA (threeJ P)) 16).toArray)) := by
  obtain ⟨a, ha⟩ : ∃ a, a = threeJ P := ⟨_, rfl⟩
  have c3 : ∀ w, Calls Tryz.prog 183 #[pv x y i] w (Gets w (tv a.x.val a.y.val a.z.val)) := fun w => by
    have h := three_c w P
    rw [hP, ← ha] at h
    exact h
  rw [← ha]
  refine Sy.enter (args := [pv x y i]) Tryz.func165 rfl kL ?_
  refine sC ?_
  refine sM 52 (pcs x y i) (fun g0 => ?_)
  refine Sy.make kR 199 (flat (fun _ => tws 0 0 0) 16).toArray ptr kF (fun g1 => ?_)
  refine sA ?_
  refine Sy.make kR 199 (flat (fun _ => tws 0 0 0) 16).toArray ptr kF (fun g2 => ?_)
  refine sA ?_
  refine sS (pv x y i) (qL 0 g0 0 9 52 52 (pcs x y i) rfl Tryz.underlying52) <| sS (tv a.x.val a.y.val a.z.val) (qF 183 #[pv x y i] (c3)) ?_
  refine sM 152 (tcs 0 0 0) (fun g3 => ?_)
  refine sW 3 g3 152 (tcs 0 0 0) (tcs a.x.val a.y.val a.z.val) (wS 0 152 (tcs a.x.val a.y.val a.z.val) rfl) ?_
  refine sG ?_
  refine Sy.seq ?_
  refine sC ?_
  refine sP (.int .i64 1) ?_
  refine sG ?_
  refine Sy.block ?_
  refine Sy.loopK 15 (fun k1 => [(2, .pointer (some ⟨g1, 0, none⟩)), (3, .pointer (some ⟨g2, 0, none⟩)), (4, .pointer (some ⟨g3, 0, none⟩)), (5, .int .i64 ((k1 + 1 : Nat) : Int))]) (fun k1 => [(g1, 199, (flat (fun _ => tws 0 0 0) 16).toArray), (g2, 199, (flat (upto (k1 + 1) (fewA a) (tws 0 0 0)) 16).toArray), (g3, 152, (tcs a.x.val a.y.val a.z.val))]) [false, true, true, true] (M := [(g1, 199, (flat (fun _ => tws 0 0 0) 16).toArray), (g2, 199, (flat (fun _ => tws 0 0 0) 16).toArray), (g3, 152, (tcs a.x.val a.y.val a.z.val))]) (all_cons kR (all_cons kR (all_cons kR (all_cons kR all_nil)))) kR (bcons rfl (bcons (beq (few_first a)) (bcons rfl rfl))) (fun k1 hk1 => ?_)
  refine Sy.seq ?_
  refine sC ?_
  refine sP (.int .i64 ((k1 + 1 : Nat) : Int)) ?_
  obtain ⟨b1, hb1⟩ : ∃ z : Bool, z = decide (k1 + 1 < 16) := ⟨_, rfl⟩
  refine sS (.bool b1) (Quiet.pure (exec_int .lss _ _ _ .i64 _ _ _ rfl rfl rfl (int_lss _ _ _ _ _ (by rw [hb1]; exact decide_eq_decide.2 (by omega))))) ?_
  refine sG ?_
  cases b1
  · have lb1 : ¬ (k1 + 1 < 16) := of_decide_eq_false hb1.symm
    refine sU ?_
    refine Sy.exit ?_
    refine Sy.then_exit ?_
    refine Sy.then_exit ?_
    obtain rfl : k1 = 15 := by omega
    refine Sy.in_exit ?_
    refine sB ?_
    refine sS (.agg (flat (upto (15 + 1) (fewA a) (tws 0 0 0)) 16).toArray) (Quiet.load 1 g2 0 192 199 199 (flat (upto (15 + 1) (fewA a) (tws 0 0 0)) 16).toArray _ _ rfl kR kR Tryz.underlying199 rfl kR _ (flat_whole (upto_len (fewA_len a) rfl _) rfl) (flat_wsize (upto_len (fewA_len a) rfl _) rfl)) ?_
    refine Sy.write kR 0 g1 199 (flat (fun _ => tws 0 0 0) 16).toArray (flat (upto (15 + 1) (fewA a) (tws 0 0 0)) 16).toArray kR (Writes.store 0 199 (flat (upto (15 + 1) (fewA a) (tws 0 0 0)) 16).toArray _ _ rfl kR kR (flat_info (upto_len (fewA_len a) rfl _) kR) (flat_over (upto_len (fewA_len a) rfl _) rfl kR) (flat_one (upto_len (fewA_len a) rfl _) _ (upto_one (fun _ => jws_one _) (jws_one ⟨0, 0, 0⟩) _)) (flat_put (upto_len (fewA_len a) rfl _) kR)) ?_
    refine sG ?_
    refine Sy.ret ?_
    rw [show (.agg (flat (fewA a) 16).toArray : Value) = .agg (flat (upto (15 + 1) (fewA a) (tws 0 0 0)) 16).toArray from congrArg Value.agg upto_all.symm]
    exact Sy.ret1 rfl (v := .agg (flat (upto (15 + 1) (fewA a) (tws 0 0 0)) 16).toArray) (.inl (Res.cell (ty' := 199) g1 0 (flat (upto (15 + 1) (fewA a) (tws 0 0 0)) 16).toArray _ kR kR Tryz.underlying199 rfl (flat_info (upto_len (fewA_len a) rfl _) kR) rfl))
  · have lb1 : k1 + 1 < 16 := of_decide_eq_true hb1.symm
    refine sT ?_
    refine Sy.skip ?_
    refine Sy.then_ ?_
    refine Sy.seq ?_
    refine Sy.block ?_
    refine Sy.regionD (fun j => j == 8) kR ?_
    refine sZ 0 rfl (.int .i64 ((k1 + 1 : Nat) : Int)) <| sZ 1 rfl (.int .i64 ((k1 + 1 : Nat) : Int)) <| sD 2 rfl (.int .i64 (((k1 + 1) - 1 : Nat) : Int)) (Quiet.pure (exec_int .sub _ _ _ .i64 _ _ _ rfl rfl rfl (int_sub _ _ _ _ _ ((wrap_i64 (by omega) (by omega)).trans (by omega))))) <| sD 3 rfl (.pointer (some ⟨g2, 0 + ((k1 + 1) - 1) * 12, none⟩)) (Quiet.pure (exec_atA 199 _ _ _ g2 0 _ ((k1 + 1) - 1) 12 .i64 rfl rfl rfl Tryz.underlying199 kF (by omega))) <| sD 4 rfl (tv ((fewL a ((k1 + 1) - 1)).x.val) ((fewL a ((k1 + 1) - 1)).y.val) ((fewL a ((k1 + 1) - 1)).z.val)) (Quiet.load 1 g2 (0 + ((k1 + 1) - 1) * 12) 12 199 152 (flat (upto (k1 + 1) (fewA a) (tws 0 0 0)) 16).toArray _ _ rfl kR kR Tryz.underlying152 rfl kR _ ((flat_load (upto_len (fewA_len a) rfl _) (k := (k1 + 1) - 1) (by omega) (by omega)).trans ((congrArg (fun l : List Value => Value.agg l.toArray) (upto_lt (by omega))).trans kR)) (flat_fit (upto_len (fewA_len a) rfl _) (k := (k1 + 1) - 1) (by omega) (by omega))) <| sD 5 rfl (tv a.x.val a.y.val a.z.val) (qL 2 g3 0 12 152 152 (tcs a.x.val a.y.val a.z.val) rfl Tryz.underlying152) ?_
    obtain ⟨j1, hj1⟩ : ∃ z : J, z = addJ (fewL a ((k1 + 1) - 1)) a := ⟨_, rfl⟩
    refine sD 6 rfl (tv j1.x.val j1.y.val j1.z.val) (qF 118 #[tv ((fewL a ((k1 + 1) - 1)).x.val) ((fewL a ((k1 + 1) - 1)).y.val) ((fewL a ((k1 + 1) - 1)).z.val), tv a.x.val a.y.val a.z.val] (fun w => by rw [hj1]; exact addJ_c w (fewL a ((k1 + 1) - 1)) a)) <| sD 7 rfl (.pointer (some ⟨g2, 0 + (k1 + 1) * 12, none⟩)) (Quiet.pure (exec_atA 199 _ _ _ g2 0 _ (k1 + 1) 12 .i64 rfl rfl rfl Tryz.underlying199 kF (by omega))) ?_
    refine Sy.writeD 8 rfl kR (by rfl) kR 1 g2 199 (flat (upto (k1 + 1) (fewA a) (tws 0 0 0)) 16).toArray (flat (upto (k1 + 1 + 1) (fewA a) (tws 0 0 0)) 16).toArray kR (Writes.store (0 + (k1 + 1) * 12) 152 (tcs j1.x.val j1.y.val j1.z.val) _ _ rfl kR kR kR (flat_fit (upto_len (fewA_len a) rfl _) (k := k1 + 1) (by omega) (by omega)) kR (upto_set (v := (tcs j1.x.val j1.y.val j1.z.val).toList) (fewA_len a) rfl (by rw [hj1]; rfl) (by omega) (by omega))) ?_
    refine sE ?_
    refine Sy.in_ ?_
    refine Sy.then_ ?_
    refine Sy.region ?_
    refine sP (.int .i64 ((k1 + 1 : Nat) : Int)) <| sS (.int .i64 (((k1 + 1) + 1 : Nat) : Int)) (Quiet.pure (exec_int .add _ _ _ .i64 _ _ _ rfl rfl rfl (int_add _ _ _ _ _ ((wrap_i64 (by omega) (by omega)).trans (by omega))))) <| sP (.int .i64 (((k1 + 1) + 1 : Nat) : Int)) ?_
    refine Sy.nil ?_
    exact Sy.againK [true, true, true] (M := [(g1, 199, (flat (fun _ => tws 0 0 0) 16).toArray), (g2, 199, (flat (upto (k1 + 1 + 1) (fewA a) (tws 0 0 0)) 16).toArray), (g3, 152, (tcs a.x.val a.y.val a.z.val))]) (by omega) (all_cons kR (all_cons kR (all_cons kR (all_cons kR all_nil)))) kR (bcons rfl (bcons rfl (bcons rfl rfl)))
end Go.Proofs.YtbofhoonlmikcaaGreatDoor.Cu

end
section
namespace Go.Proofs.YtbofhoonlmikcaaGreatDoor.Cu
open Go.RowKit Go.Proofs.YtbofhoonlmikcaaGreatDoor Go.Proofs.YtbofhoonlmikcaaGreatDoor.Sy
set_option maxRecDepth 100000
set_option maxHeartbeats 4000000

structure Trm where
  k : Nat
  x : Nat
  y : Nat
  i : Bool
def trcs (k x y : Nat) (i : Bool) : Array Value := (fws k ++ (fws x ++ (fws y ++ [Value.bool i]))).toArray
def trv (k x y : Nat) (i : Bool) : Value := .agg (trcs k x y i)
def Trm.cells (t : Trm) : List Value := fws t.k ++ (fws t.x ++ (fws t.y ++ [Value.bool t.i]))
def Trm.ok (t : Trm) : Prop := t.k < K4 ∧ t.x < K4 ∧ t.y < K4
def Trm.pt (t : Trm) : Pt := dec t.x t.y t.i
def Trm.kn (t : Trm) : Nat := t.k % Sc.pM
def tmA (t : Trm) : List Value := flat (dgA t.kn) 64 ++ flat (fewA (threeJ t.pt)) 16
def tmcs (t : Trm) : Array Value := (tmA t).toArray
theorem tmA_len (T : Nat → Trm) : ∀ j, (tmA (T j)).length = 256 := fun _ => by
  unfold tmA
  rw [List.length_append, flat_len (dgA_len _), flat_len (fewA_len _)]
def zt : List Value := List.replicate 64 (.int .u8 0) ++ List.replicate 192 (.int .u64 0)
noncomputable def infTm : TypeInfo := (Tryz.prog.info? 202).getD default
theorem info_tm : Tryz.prog.info? 202 = some infTm := by kernel_rfl
theorem dg_lt (m j : Nat) : dg m j < 16 := Nat.mod_lt _ (by decide)
theorem few_p (w : World) (P : Pt) : Calls Tryz.prog 165 #[ptv P] w (Gets w (.agg (flat (fewA (threeJ P)) 16).toArray)) := by
  rcases P with _ | ⟨u, v⟩
  · exact few_c w none 0 0 true rfl
  · exact few_c w (some (u, v)) u.val v.val false rfl
def dbN (a : J) : Nat → J
  | 0 => a
  | j + 1 => dblJ (dbN a j)
def inJ (T : Nat → Trm) (i : Nat) (a : J) : Nat → J
  | 0 => a
  | j + 1 => addJ (inJ T i a j) (fewL (threeJ (T j).pt) (dg (T j).kn i))
def muJ (T : Nat → Trm) (n : Nat) : Nat → J
  | 0 => ⟨0, 0, 0⟩
  | i + 1 => inJ T i (dbN (muJ T n i) 4) n
theorem at_c (w : World) (g off i : Nat) (t : Trm) (hg : g < w.heap.size) (hi : i < 64) (hr : w.rangeAt g off (tmA t)) : Calls Tryz.prog 166 #[.pointer (some ⟨g, off, none⟩), .int .i64 ((i : Nat) : Int)] w (Gets w (tv (fewL (threeJ t.pt) (dg t.kn i)).x.val (fewL (threeJ t.pt) (dg t.kn i)).y.val (fewL (threeJ t.pt) (dg t.kn i)).z.val)) := by
  have hd := dg_lt t.kn i
  refine Sy.enter (args := [.pointer (some ⟨g, off, none⟩), .int .i64 ((i : Nat) : Int)]) Tryz.func166 rfl kL ?_
  refine sC ?_
  refine sM 152 (tcs 0 0 0) (fun g0 => ?_)
  refine sH (fun j => j == 11) ?_
  refine sZ 0 rfl (.pointer (some ⟨g, off, none⟩)) <| sZ 1 rfl (.pointer (some ⟨g, off, none⟩)) <| sZ 2 rfl (.int .i64 ((i : Nat) : Int)) <| sZ 3 rfl (.pointer (some ⟨g, off, none⟩)) <| sZ 4 rfl (.pointer (some ⟨g, off, none⟩)) <| sD 5 rfl (.pointer (some ⟨g, off + i * 1, none⟩)) (Quiet.pure (exec_atA 26 _ _ _ g off _ i 1 .i64 rfl rfl rfl Tryz.underlying26 kF (by omega))) <| sD 6 rfl (.int .u8 ((dg t.kn i : Nat) : Int)) (Quiet.thereOne g (off + i * 1) 5 _ _ rfl kR hg _ (range_flat (range_left hr) (dgA_len t.kn) hi 0 _ rfl) Tryz.underlying5 rfl) <| sZ 7 rfl (.pointer (some ⟨g, off, none⟩)) ?_
  refine sZ 8 rfl (.pointer (some ⟨g, off + 64, none⟩)) <| sD 9 rfl (.pointer (some ⟨g, off + 64 + (dg t.kn i) * 12, none⟩)) (Quiet.pure (exec_atA 199 _ _ _ g (off + 64) _ (dg t.kn i) 12 .u8 rfl rfl rfl Tryz.underlying199 kF (by omega))) <| sD 10 rfl (tv ((fewL (threeJ t.pt) (dg t.kn i)).x.val) ((fewL (threeJ t.pt) (dg t.kn i)).y.val) ((fewL (threeJ t.pt) (dg t.kn i)).z.val)) (Quiet.there g (off + 64 + (dg t.kn i) * 12) 12 152 (fewA (threeJ t.pt) (dg t.kn i)) _ _ rfl kR hg (range_flat (range_right hr (flat_len (dgA_len t.kn) 64)) (fewA_len _) hd) Tryz.underlying152 rfl kR rfl _ kR) <| sX 11 rfl 0 g0 152 (tcs 0 0 0) (tcs ((fewL (threeJ t.pt) (dg t.kn i)).x.val) ((fewL (threeJ t.pt) (dg t.kn i)).y.val) ((fewL (threeJ t.pt) (dg t.kn i)).z.val)) (wS 0 152 (tcs ((fewL (threeJ t.pt) (dg t.kn i)).x.val) ((fewL (threeJ t.pt) (dg t.kn i)).y.val) ((fewL (threeJ t.pt) (dg t.kn i)).z.val)) rfl) ?_
  refine sI ?_
  refine Sy.ret ?_
  exact rC (v := tv ((fewL (threeJ t.pt) (dg t.kn i)).x.val) ((fewL (threeJ t.pt) (dg t.kn i)).y.val) ((fewL (threeJ t.pt) (dg t.kn i)).z.val)) 152 g0 0 (tcs ((fewL (threeJ t.pt) (dg t.kn i)).x.val) ((fewL (threeJ t.pt) (dg t.kn i)).y.val) ((fewL (threeJ t.pt) (dg t.kn i)).z.val)) rfl Tryz.underlying152
theorem multi_c (w : World) (b o n c : Nat) (T : Nat → Trm) (hb : b < w.heap.size) (hn : n ≤ 32) (hok : ∀ j, (T j).ok) (hT : ∀ j, j < n → w.rangeAt b (o + j * 13) (T j).cells) : Calls Tryz.prog 119 #[.slice (some ⟨b, o, none⟩) n c] w (Gets w (tv (muJ T n 64).x.val (muJ T n 64).y.val (muJ T n 64).z.val)) := by
  refine Sy.enter (args := [.slice (some ⟨b, o, none⟩) n c]) Tryz.func119 rfl kL ?_
  refine sC ?_
  refine sM 152 (tcs 0 0 0) (fun g0 => ?_)
  refine sA ?_
  refine sP (.slice (some ⟨b, o, none⟩) n c) <| sP (.int .i64 ((n : Nat) : Int)) ?_
  refine Sy.make kR 202 (flat (fun _ => zt) n).toArray (fun g => .slice (some ⟨g, 0, none⟩) n n) (Makes.slice 197 202 _ (.agg zt.toArray) 256 1600 _ _ .i64 .i64 n zt rfl rfl rfl Tryz.underlying197 info_tm kR kR (by decide) kR kR kR (by omega) (by omega)) (fun g1 => ?_)
  refine sP (.slice (some ⟨g1, 0, none⟩) n n) ?_
  refine sG ?_
  refine Sy.seq ?_
  refine sC ?_
  refine sP (.slice (some ⟨b, o, none⟩) n c) <| sP (.int .i64 ((n : Nat) : Int)) <| sP (.int .i64 0) ?_
  refine sG ?_
  refine Sy.block ?_
  refine Sy.loopK n (fun k1 => [(2, .pointer (some ⟨g0, 0, none⟩)), (3, .slice (some ⟨g1, 0, none⟩) n n), (12, .slice (some ⟨b, o, none⟩) n c), (13, .int .i64 ((n : Nat) : Int)), (14, .int .i64 ((k1 : Nat) : Int))]) (fun k1 => [(g0, 152, (tcs 0 0 0)), (g1, 202, (flat (upto k1 (fun j => tmA (T j)) zt) n).toArray)]) [true, true] (M := [(g0, 152, (tcs 0 0 0)), (g1, 202, (flat (fun _ => zt) n).toArray)]) (all_cons kR (all_cons kR (all_cons kR (all_cons kR (all_cons kR all_nil))))) kR (bcons rfl (bcons (beq (upto_zero)) rfl)) (fun k1 hk1 => ?_)
  refine sC ?_
  obtain ⟨b1, hb1⟩ : ∃ z : Bool, z = decide (k1 < n) := ⟨_, rfl⟩
  refine sS (.bool b1) (Quiet.pure (exec_int .lss _ _ _ .i64 _ _ _ rfl rfl rfl (int_lss _ _ _ _ _ (by rw [hb1]; exact decide_eq_decide.2 (by omega))))) ?_
  refine sG ?_
  refine Sy.seq ?_
  cases b1
  · have lb1 : ¬ (k1 < n) := of_decide_eq_false hb1.symm
    refine sU ?_
    refine Sy.exit ?_
    refine Sy.then_exit ?_
    refine Sy.then_exit ?_
    obtain rfl : n = k1 := by omega
    refine Sy.in_exit ?_
    refine sB ?_
    refine sM 152 (tcs 0 0 0) (fun g2 => ?_)
    refine sG ?_
    refine Sy.seq ?_
    refine sC ?_
    refine sP (.int .i64 0) ?_
    refine sG ?_
    refine Sy.block ?_
    refine Sy.loopK 64 (fun k2 => [(2, .pointer (some ⟨g0, 0, none⟩)), (3, .slice (some ⟨g1, 0, none⟩) n n), (6, .pointer (some ⟨g2, 0, none⟩)), (31, .int .i64 ((k2 : Nat) : Int))]) (fun k2 => [(g0, 152, (tcs 0 0 0)), (g1, 202, (flat ((fun j => tmA (T j))) n).toArray), (g2, 152, (tcs ((muJ T n k2).x.val) ((muJ T n k2).y.val) ((muJ T n k2).z.val)))]) [true, true, true] (M := [(g0, 152, (tcs 0 0 0)), (g1, 202, (flat (upto n (fun j => tmA (T j)) zt) n).toArray), (g2, 152, (tcs 0 0 0))]) (all_cons kR (all_cons kR (all_cons kR (all_cons kR all_nil)))) kR (bcons rfl (bcons (beq (upto_all)) (bcons rfl rfl))) (fun k2 hk2 => ?_)
    refine sC ?_
    obtain ⟨b2, hb2⟩ : ∃ z : Bool, z = decide (k2 < 64) := ⟨_, rfl⟩
    refine sS (.bool b2) (Quiet.pure (exec_int .lss _ _ _ .i64 _ _ _ rfl rfl rfl (int_lss _ _ _ _ _ (by rw [hb2]; exact decide_eq_decide.2 (by omega))))) ?_
    refine sG ?_
    refine Sy.seq ?_
    cases b2
    · have lb2 : ¬ (k2 < 64) := of_decide_eq_false hb2.symm
      refine sU ?_
      refine Sy.exit ?_
      refine Sy.then_exit ?_
      refine Sy.then_exit ?_
      obtain rfl : k2 = 64 := by omega
      refine Sy.in_exit ?_
      refine sB ?_
      refine sS (tv ((muJ T n 64).x.val) ((muJ T n 64).y.val) ((muJ T n 64).z.val)) (qL 2 g2 0 12 152 152 (tcs ((muJ T n 64).x.val) ((muJ T n 64).y.val) ((muJ T n 64).z.val)) rfl Tryz.underlying152) <| sW 0 g0 152 (tcs 0 0 0) (tcs ((muJ T n 64).x.val) ((muJ T n 64).y.val) ((muJ T n 64).z.val)) (wS 0 152 (tcs ((muJ T n 64).x.val) ((muJ T n 64).y.val) ((muJ T n 64).z.val)) rfl) ?_
      refine sG ?_
      refine Sy.ret ?_
      exact rC (v := tv ((muJ T n 64).x.val) ((muJ T n 64).y.val) ((muJ T n 64).z.val)) 152 g0 0 (tcs ((muJ T n 64).x.val) ((muJ T n 64).y.val) ((muJ T n 64).z.val)) rfl Tryz.underlying152
    · have lb2 : k2 < 64 := of_decide_eq_true hb2.symm
      refine sT ?_
      refine Sy.skip ?_
      refine Sy.then_ ?_
      refine Sy.seq ?_
      refine Sy.block ?_
      refine sC ?_
      refine sP (.int .i64 ((k2 : Nat) : Int)) <| sP (.int .i64 ((k2 : Nat) : Int)) ?_
      refine sG ?_
      refine Sy.seq ?_
      refine sC ?_
      refine sP (.int .i64 0) ?_
      refine sG ?_
      refine Sy.block ?_
      refine Sy.loopK 4 (fun k3 => [(2, .pointer (some ⟨g0, 0, none⟩)), (3, .slice (some ⟨g1, 0, none⟩) n n), (6, .pointer (some ⟨g2, 0, none⟩)), (7, .int .i64 ((k2 : Nat) : Int)), (31, .int .i64 ((k2 : Nat) : Int)), (34, .int .i64 ((k3 : Nat) : Int))]) (fun k3 => [(g0, 152, (tcs 0 0 0)), (g1, 202, (flat ((fun j => tmA (T j))) n).toArray), (g2, 152, (tcs ((dbN (muJ T n k2) k3).x.val) ((dbN (muJ T n k2) k3).y.val) ((dbN (muJ T n k2) k3).z.val)))]) [true, true, true] (M := [(g0, 152, (tcs 0 0 0)), (g1, 202, (flat ((fun j => tmA (T j))) n).toArray), (g2, 152, (tcs ((muJ T n k2).x.val) ((muJ T n k2).y.val) ((muJ T n k2).z.val)))]) (all_cons kR (all_cons kR (all_cons kR (all_cons kR (all_cons kR (all_cons kR all_nil)))))) kR (bcons rfl (bcons rfl (bcons rfl rfl))) (fun k3 hk3 => ?_)
      refine sC ?_
      obtain ⟨b3, hb3⟩ : ∃ z : Bool, z = decide (k3 < 4) := ⟨_, rfl⟩
      refine sS (.bool b3) (Quiet.pure (exec_int .lss _ _ _ .i64 _ _ _ rfl rfl rfl (int_lss _ _ _ _ _ (by rw [hb3]; exact decide_eq_decide.2 (by omega))))) ?_
      refine sG ?_
      refine Sy.seq ?_
      cases b3
      · have lb3 : ¬ (k3 < 4) := of_decide_eq_false hb3.symm
        refine sU ?_
        refine Sy.exit ?_
        refine Sy.then_exit ?_
        refine Sy.then_exit ?_
        obtain rfl : k3 = 4 := by omega
        refine Sy.in_exit ?_
        refine sB ?_
        refine sP (.slice (some ⟨g1, 0, none⟩) n n) <| sP (.int .i64 ((n : Nat) : Int)) <| sP (.int .i64 0) ?_
        refine sG ?_
        refine Sy.block ?_
        refine Sy.loopK n (fun k4 => [(2, .pointer (some ⟨g0, 0, none⟩)), (3, .slice (some ⟨g1, 0, none⟩) n n), (6, .pointer (some ⟨g2, 0, none⟩)), (7, .int .i64 ((k2 : Nat) : Int)), (31, .int .i64 ((k2 : Nat) : Int)), (40, .int .i64 ((n : Nat) : Int)), (41, .int .i64 ((k4 : Nat) : Int))]) (fun k4 => [(g0, 152, (tcs 0 0 0)), (g1, 202, (flat ((fun j => tmA (T j))) n).toArray), (g2, 152, (tcs ((inJ T k2 (dbN (muJ T n k2) 4) k4).x.val) ((inJ T k2 (dbN (muJ T n k2) 4) k4).y.val) ((inJ T k2 (dbN (muJ T n k2) 4) k4).z.val)))]) [true, true, true] (M := [(g0, 152, (tcs 0 0 0)), (g1, 202, (flat ((fun j => tmA (T j))) n).toArray), (g2, 152, (tcs ((dbN (muJ T n k2) 4).x.val) ((dbN (muJ T n k2) 4).y.val) ((dbN (muJ T n k2) 4).z.val)))]) (all_cons kR (all_cons kR (all_cons kR (all_cons kR (all_cons kR (all_cons kR (all_cons kR all_nil))))))) kR (bcons rfl (bcons rfl (bcons rfl rfl))) (fun k4 hk4 => ?_)
        refine sC ?_
        obtain ⟨b4, hb4⟩ : ∃ z : Bool, z = decide (k4 < n) := ⟨_, rfl⟩
        refine sS (.bool b4) (Quiet.pure (exec_int .lss _ _ _ .i64 _ _ _ rfl rfl rfl (int_lss _ _ _ _ _ (by rw [hb4]; exact decide_eq_decide.2 (by omega))))) ?_
        refine sG ?_
        refine Sy.seq ?_
        cases b4
        · have lb4 : ¬ (k4 < n) := of_decide_eq_false hb4.symm
          refine sU ?_
          refine Sy.exit ?_
          refine Sy.then_exit ?_
          refine Sy.then_exit ?_
          obtain rfl : n = k4 := by omega
          refine Sy.in_exit ?_
          refine Sy.in_ ?_
          refine Sy.then_ ?_
          refine Sy.region ?_
          refine sS (.int .i64 ((k2 + 1 : Nat) : Int)) (Quiet.pure (exec_int .add _ _ _ .i64 _ _ _ rfl rfl rfl (int_add _ _ _ _ _ ((wrap_i64 (by omega) (by omega)).trans (by omega))))) <| sP (.int .i64 ((k2 + 1 : Nat) : Int)) ?_
          refine Sy.nil ?_
          exact Sy.againK [true, true, true] (M := [(g0, 152, (tcs 0 0 0)), (g1, 202, (flat ((fun j => tmA (T j))) n).toArray), (g2, 152, (tcs ((inJ T k2 (dbN (muJ T n k2) 4) n).x.val) ((inJ T k2 (dbN (muJ T n k2) 4) n).y.val) ((inJ T k2 (dbN (muJ T n k2) 4) n).z.val)))]) (by omega) (all_cons kR (all_cons kR (all_cons kR (all_cons kR all_nil)))) kR (bcons rfl (bcons rfl (bcons rfl rfl)))
        · have lb4 : k4 < n := of_decide_eq_true hb4.symm
          refine sT ?_
          refine Sy.skip ?_
          refine Sy.then_ ?_
          refine Sy.seq ?_
          refine Sy.block ?_
          refine sC ?_
          refine sP (.int .i64 ((k4 : Nat) : Int)) <| sP (.int .i64 ((k4 : Nat) : Int)) ?_
          refine sG ?_
          refine Sy.regionD (fun j => j == 7) kR ?_
          refine sD 0 rfl (tv ((inJ T k2 (dbN (muJ T n k2) 4) k4).x.val) ((inJ T k2 (dbN (muJ T n k2) 4) k4).y.val) ((inJ T k2 (dbN (muJ T n k2) 4) k4).z.val)) (qL 2 g2 0 12 152 152 (tcs ((inJ T k2 (dbN (muJ T n k2) 4) k4).x.val) ((inJ T k2 (dbN (muJ T n k2) 4) k4).y.val) ((inJ T k2 (dbN (muJ T n k2) 4) k4).z.val)) rfl Tryz.underlying152) <| sZ 1 rfl (.slice (some ⟨g1, 0, none⟩) n n) <| sZ 2 rfl (.int .i64 ((k4 : Nat) : Int)) <| sD 3 rfl (.pointer (some ⟨g1, 0 + k4 * 256, none⟩)) (Quiet.pure (exec_at 197 _ _ _ g1 0 n n k4 256 .i64 rfl rfl rfl Tryz.underlying197 kF (by omega))) <| sZ 4 rfl (.int .i64 ((k2 : Nat) : Int)) <| sD 5 rfl (tv ((fewL (threeJ (T k4).pt) (dg (T k4).kn k2)).x.val) ((fewL (threeJ (T k4).pt) (dg (T k4).kn k2)).y.val) ((fewL (threeJ (T k4).pt) (dg (T k4).kn k2)).z.val)) (Quiet.callS 166 #[.pointer (some ⟨g1, 0 + k4 * 256, none⟩), .int .i64 ((k2 : Nat) : Int)] kF (fun w hw => at_c w g1 (0 + k4 * 256) k2 (T k4) (hw.get (i := 1) rfl).lt (by omega) (blk_range (hw.get (i := 1) rfl) (flat_at (tmA_len T) (k := k4) (by omega) (by omega))))) ?_
          obtain ⟨j1, hj1⟩ : ∃ z : J, z = addJ (inJ T k2 (dbN (muJ T n k2) 4) k4) (fewL (threeJ (T k4).pt) (dg (T k4).kn k2)) := ⟨_, rfl⟩
          refine sD 6 rfl (tv j1.x.val j1.y.val j1.z.val) (qF 118 #[tv ((inJ T k2 (dbN (muJ T n k2) 4) k4).x.val) ((inJ T k2 (dbN (muJ T n k2) 4) k4).y.val) ((inJ T k2 (dbN (muJ T n k2) 4) k4).z.val), tv ((fewL (threeJ (T k4).pt) (dg (T k4).kn k2)).x.val) ((fewL (threeJ (T k4).pt) (dg (T k4).kn k2)).y.val) ((fewL (threeJ (T k4).pt) (dg (T k4).kn k2)).z.val)] (fun w => by rw [hj1]; exact addJ_c w (inJ T k2 (dbN (muJ T n k2) 4) k4) (fewL (threeJ (T k4).pt) (dg (T k4).kn k2)))) <| sX 7 rfl 2 g2 152 (tcs ((inJ T k2 (dbN (muJ T n k2) 4) k4).x.val) ((inJ T k2 (dbN (muJ T n k2) 4) k4).y.val) ((inJ T k2 (dbN (muJ T n k2) 4) k4).z.val)) (tcs j1.x.val j1.y.val j1.z.val) (wS 0 152 (tcs j1.x.val j1.y.val j1.z.val) rfl) ?_
          refine sE ?_
          refine Sy.in_ ?_
          refine Sy.then_ ?_
          refine Sy.region ?_
          refine sS (.int .i64 ((k4 + 1 : Nat) : Int)) (Quiet.pure (exec_int .add _ _ _ .i64 _ _ _ rfl rfl rfl (int_add _ _ _ _ _ ((wrap_i64 (by omega) (by omega)).trans (by omega))))) <| sP (.int .i64 ((k4 + 1 : Nat) : Int)) ?_
          refine Sy.nil ?_
          exact Sy.againK [true, true, true] (M := [(g0, 152, (tcs 0 0 0)), (g1, 202, (flat ((fun j => tmA (T j))) n).toArray), (g2, 152, (tcs j1.x.val j1.y.val j1.z.val))]) (by omega) (all_cons kR (all_cons kR (all_cons kR (all_cons kR (all_cons kR (all_cons kR (all_cons kR all_nil))))))) kR (bcons rfl (bcons rfl (bcons (beq (by rw [hj1]; rfl)) rfl)))
      · have lb3 : k3 < 4 := of_decide_eq_true hb3.symm
        refine sT ?_
        refine Sy.skip ?_
        refine Sy.then_ ?_
        refine Sy.seq ?_
        refine Sy.block ?_
        refine Sy.region ?_
        refine sS (tv ((dbN (muJ T n k2) k3).x.val) ((dbN (muJ T n k2) k3).y.val) ((dbN (muJ T n k2) k3).z.val)) (qL 2 g2 0 12 152 152 (tcs ((dbN (muJ T n k2) k3).x.val) ((dbN (muJ T n k2) k3).y.val) ((dbN (muJ T n k2) k3).z.val)) rfl Tryz.underlying152) ?_
        obtain ⟨j2, hj2⟩ : ∃ z : J, z = dblJ (dbN (muJ T n k2) k3) := ⟨_, rfl⟩
        refine sS (tv j2.x.val j2.y.val j2.z.val) (qF 163 #[tv ((dbN (muJ T n k2) k3).x.val) ((dbN (muJ T n k2) k3).y.val) ((dbN (muJ T n k2) k3).z.val)] (fun w => by rw [hj2]; exact double_c w (dbN (muJ T n k2) k3))) <| sW 2 g2 152 (tcs ((dbN (muJ T n k2) k3).x.val) ((dbN (muJ T n k2) k3).y.val) ((dbN (muJ T n k2) k3).z.val)) (tcs j2.x.val j2.y.val j2.z.val) (wS 0 152 (tcs j2.x.val j2.y.val j2.z.val) rfl) ?_
        refine Sy.nil ?_
        refine Sy.in_ ?_
        refine Sy.then_ ?_
        refine Sy.region ?_
        refine sS (.int .i64 ((k3 + 1 : Nat) : Int)) (Quiet.pure (exec_int .add _ _ _ .i64 _ _ _ rfl rfl rfl (int_add _ _ _ _ _ ((wrap_i64 (by omega) (by omega)).trans (by omega))))) <| sP (.int .i64 ((k3 + 1 : Nat) : Int)) ?_
        refine Sy.nil ?_
        exact Sy.againK [true, true, true] (M := [(g0, 152, (tcs 0 0 0)), (g1, 202, (flat ((fun j => tmA (T j))) n).toArray), (g2, 152, (tcs j2.x.val j2.y.val j2.z.val))]) (by omega) (all_cons kR (all_cons kR (all_cons kR (all_cons kR (all_cons kR (all_cons kR all_nil)))))) kR (bcons rfl (bcons rfl (bcons (beq (by rw [hj2]; rfl)) rfl)))
  · have lb1 : k1 < n := of_decide_eq_true hb1.symm
    refine sT ?_
    refine Sy.skip ?_
    refine Sy.then_ ?_
    refine Sy.seq ?_
    refine Sy.block ?_
    refine sC ?_
    refine sP (.int .i64 ((k1 : Nat) : Int)) <| sS (.pointer (some ⟨b, o + k1 * 13, none⟩)) (Quiet.pure (exec_at 106 _ _ _ b o n c k1 13 .i64 rfl rfl rfl Tryz.underlying106 kF (by omega))) <| sS (trv ((T k1).k) ((T k1).x) ((T k1).y) ((T k1).i)) (Quiet.there b (o + k1 * 13) 13 105 (T k1).cells _ _ rfl kR hb (hT k1 (by omega)) Tryz.underlying105 rfl kR rfl _ kR) ?_
    refine sM 105 (trcs 0 0 0 false) (fun g3 => ?_)
    refine sP (.int .i64 ((k1 : Nat) : Int)) <| sW 2 g3 105 (trcs 0 0 0 false) (trcs ((T k1).k) ((T k1).x) ((T k1).y) ((T k1).i)) (wS 0 105 (trcs ((T k1).k) ((T k1).x) ((T k1).y) ((T k1).i)) rfl) ?_
    refine sG ?_
    refine Sy.regionD (fun j => j == 11) kR ?_
    refine sZ 0 rfl (.slice (some ⟨g1, 0, none⟩) n n) <| sZ 1 rfl (.int .i64 ((k1 : Nat) : Int)) <| sZ 2 rfl (.pointer (some ⟨g3, 0, none⟩)) <| sD 3 rfl (fv ((T k1).k)) (qL 2 g3 0 4 105 24 (trcs ((T k1).k) ((T k1).x) ((T k1).y) ((T k1).i)) rfl Tryz.underlying24) <| sD 4 rfl (.agg (flat ((dgA (T k1).kn)) 64).toArray) (qF 164 #[fv ((T k1).k)] (fun w => digits_c w (T k1).k (hok k1).1)) <| sZ 5 rfl (.pointer (some ⟨g3, 4, none⟩)) <| sD 6 rfl (pv ((T k1).x) ((T k1).y) ((T k1).i)) (qL 2 g3 4 9 105 52 (trcs ((T k1).k) ((T k1).x) ((T k1).y) ((T k1).i)) rfl Tryz.underlying52) <| sD 7 rfl (ptv (T k1).pt) (qF 127 #[pv ((T k1).x) ((T k1).y) ((T k1).i)] (fun w => right_c w (T k1).x (T k1).y (T k1).i (hok k1).2.1 (hok k1).2.2)) ?_
    refine sD 8 rfl (.agg (flat ((fewA (threeJ (T k1).pt))) 16).toArray) (qF 165 #[ptv (T k1).pt] (fun w => few_p w (T k1).pt)) <| sZ 9 rfl (.agg (tmcs (T k1))) <| sD 10 rfl (.pointer (some ⟨g1, 0 + k1 * 256, none⟩)) (Quiet.pure (exec_at 197 _ _ _ g1 0 n n k1 256 .i64 rfl rfl rfl Tryz.underlying197 kF (by omega))) <| sX 11 rfl 1 g1 202 (flat (upto k1 (fun j => tmA (T j)) zt) n).toArray (flat (upto (k1 + 1) (fun j => tmA (T j)) zt) n).toArray (Writes.store (0 + k1 * 256) 202 (tmcs (T k1)) _ _ rfl kR kR kR (flat_fit (upto_len (tmA_len T) rfl _) (k := k1) (by omega) (by omega)) kR (upto_set (v := (tmcs (T k1)).toList) (tmA_len T) rfl (rfl) (by omega) (by omega))) ?_
    refine sE ?_
    refine Sy.in_ ?_
    refine Sy.then_ ?_
    refine Sy.region ?_
    refine sS (.int .i64 ((k1 + 1 : Nat) : Int)) (Quiet.pure (exec_int .add _ _ _ .i64 _ _ _ rfl rfl rfl (int_add _ _ _ _ _ ((wrap_i64 (by omega) (by omega)).trans (by omega))))) <| sP (.int .i64 ((k1 + 1 : Nat) : Int)) ?_
    refine Sy.nil ?_
    exact Sy.againK [true, true, false] (M := [(g0, 152, (tcs 0 0 0)), (g1, 202, (flat (upto (k1 + 1) (fun j => tmA (T j)) zt) n).toArray)]) (by omega) (all_cons kR (all_cons kR (all_cons kR (all_cons kR (all_cons kR all_nil))))) kR (bcons rfl (bcons rfl rfl))
end Go.Proofs.YtbofhoonlmikcaaGreatDoor.Cu

end
