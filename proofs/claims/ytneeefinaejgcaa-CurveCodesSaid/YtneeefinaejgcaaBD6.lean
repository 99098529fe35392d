/-
  Texts of ours, put together: RefPow, RefBytes, CrvC, CurveAlive, SymB, FeB32, FeRead, RefSqrt, RootNum.
-/
import Derived.Test.YtneeefinaejgcaaBD5
set_option linter.unusedVariables false
set_option linter.unusedSimpArgs false
section
namespace Go.Proofs.Ytneeefinaejgcaa
open Go.RowKit Go.Lib

/-- a power modulo p -/
def pw (x e : Nat) : Nat := x ^ e % pM
theorem pw_lt (x e : Nat) : pw x e < 115792089237316195423570985008687907853269984665640564039457584007913129639936 := mod_lt _
theorem pw_zero (x : Nat) : pw x 0 = 1 := by unfold pw; rw [Nat.pow_zero]; decide
theorem pw_sq (x e : Nat) : mulP (pw x e) (pw x e) = pw x (2 * e) := by
  unfold mulP pw
  rw [← Nat.mul_mod, ← Nat.pow_add, Nat.two_mul]
theorem pw_mul (x e : Nat) : mulP (pw x e) x = pw x (e + 1) := by
  unfold mulP pw
  rw [Nat.mod_mul_mod, Nat.pow_succ]
theorem div_word2 (a r s : Nat) (hs : s ≤ 63) : (a + 18446744073709551616 * r) / 2 ^ s % 2 = a / 2 ^ s % 2 := by
  obtain ⟨u, hu⟩ : ∃ u, 2 ^ s * (2 * u) = 18446744073709551616 := by
    refine ⟨2 ^ (63 - s), ?_⟩
    have : 2 ^ s * 2 ^ (63 - s) = 2 ^ 63 := by rw [← Nat.pow_add]; congr 1; omega
    rw [show (2 : Nat) * 2 ^ (63 - s) = 2 ^ (63 - s) * 2 from Nat.mul_comm _ _, ← Nat.mul_assoc, this]
  rw [← hu, Nat.mul_assoc, Nat.add_mul_div_left _ _ (Nat.two_pow_pos s), Nat.mul_assoc, Nat.add_mul_mod_self_left]
/-- the next binary digit -/
theorem next_digit (e i s w r : Nat) (hz : e / 2 ^ (64 * i) = w + 18446744073709551616 * r) (hs : s ≤ 63) : e / 2 ^ (64 * i + s) = 2 * (e / 2 ^ (64 * i + (s + 1))) + w / 2 ^ s % 2 := by
  have h1 : e / 2 ^ (64 * i + s) % 2 = w / 2 ^ s % 2 := by
    rw [Nat.pow_add, ← Nat.div_div_eq_div_mul, hz, div_word2 w r s hs]
  have h2 : e / 2 ^ (64 * i + (s + 1)) = e / 2 ^ (64 * i + s) / 2 := by
    rw [← Nat.add_assoc, Nat.pow_succ, Nat.div_div_eq_div_mul]
  rw [h2, ← h1]
  omega
theorem and_bit (a s : Nat) (ha : a < 18446744073709551616) (hs : s ≤ 63) : ∃ m : Nat, bits .and .u64 (a : Int) ((2 ^ s : Nat) : Int) = (m : Int) ∧ (m = 0 ↔ a / 2 ^ s % 2 = 0) := by
  have h2 : 2 ^ s < 18446744073709551616 := by
    have : 2 ^ s ≤ 2 ^ 63 := Nat.pow_le_pow_right (by omega) hs
    omega
  refine ⟨a &&& 2 ^ s, bits_and_u64_nat a (2 ^ s) ha h2, ?_⟩
  have hb : a.testBit s = decide (a / 2 ^ s % 2 = 1) := Nat.testBit_eq_decide_div_mod_eq
  constructor
  · intro h
    have h2 : (a &&& 2 ^ s).testBit s = false := by rw [h]; simp
    rw [Nat.testBit_and, Nat.testBit_two_pow_self, Bool.and_true, hb] at h2
    have h3 : ¬ a / 2 ^ s % 2 = 1 := by simpa using h2
    omega
  · intro h
    have h2 : a.testBit s = false := by rw [hb]; simp; omega
    refine Nat.eq_of_testBit_eq fun j => ?_
    rw [Nat.testBit_and, Nat.zero_testBit, Nat.testBit_two_pow]
    by_cases hj : s = j
    · subst hj; simp [h2]
    · simp [hj]

theorem small_at (w : World) (n : Nat) (di : Int) (hdi : di = (n : Int)) (hn : n < 18446744073709551616) : Calls Try.prog 66 #[.int .u64 di] w fun e w' => e = .returned (fv n) ∧ Below w.heap.size w w' := by
  subst hdi
  rw [fv_small n hn]
  go_enter Try.func66, Try.ntmps66
  go_wp2
  exact bodyPost_ret (results_cell_row rfl _ _ w.heap.size _ _ (0, 0) _ rfl (heap_alloc_new w _) Try.underlying56 rfl (by kernel_rfl)) rfl ⟨rfl, (Below.refl _ _).alloc (Nat.le_refl _) _⟩

set_option maxHeartbeats 16000000 in
set_option maxRecDepth 100000 in
theorem power_any (w : World) (x e : Nat) (hx : x < 115792089237316195423570985008687907853269984665640564039457584007913129639936) (he : e < 115792089237316195423570985008687907853269984665640564039457584007913129639936) : Calls Try.prog 67 #[.agg #[.int .u64 18446744069414583343, .int .u64 18446744073709551615, .int .u64 18446744073709551615, .int .u64 18446744073709551615, .int .u64 4294968273, .int .u64 0, .int .u64 0], fv x, fv e] w fun ee w' => ee = .returned (fv (pw x e)) ∧ Below w.heap.size w w' := by
  obtain ⟨x0, x1, x2, x3, fx⟩ := words_fv x hx
  obtain ⟨e0, e1, e2, e3, b0, b1, b2, b3, ee, fe⟩ := words_of e he
  have n0 := fun s hs => next_digit e 0 s e0 (e1 + 18446744073709551616 * e2 + 340282366920938463463374607431768211456 * e3) (by omega) hs
  have n1 := fun s hs => next_digit e 1 s e1 (e2 + 18446744073709551616 * e3) (by omega) hs
  have n2 := fun s hs => next_digit e 2 s e2 e3 (by omega) hs
  have n3 := fun s hs => next_digit e 3 s e3 0 (by omega) hs
  have h256 : e / 2 ^ 256 = 0 := by omega
  have HN := Lib.hid (And.intro n0 (And.intro n1 (And.intro n2 n3)))
  have HB := Lib.hid (And.intro b0 (And.intro b1 (And.intro b2 b3)))
  have H0 := Lib.hid h256
  have FX := Lib.hid fx
  have HX := Lib.hid hx
  rw [fx, fe]
  clear fx fe ee hx he b0 b1 b2 b3 n0 n1 n2 n3 h256
  go_enter Try.func67, Try.ntmps67
  go_wp2_with fail
  obtain ⟨one, h1⟩ : ∃ one, one = 1 := ⟨_, rfl⟩
  refine (small_at _ one 1 (by rw [h1]; rfl) (by omega)).mono ?_
  rintro ez w1 ⟨rfl, g1⟩
  have BM : Blk w1 w.heap.size 60 #[.int .u64 18446744069414583343, .int .u64 18446744073709551615, .int .u64 18446744073709551615, .int .u64 18446744073709551615, .int .u64 4294968273, .int .u64 0, .int .u64 0] := Gr.blk g1 (((((Blk.new w _ _).alloc _).alloc _).alloc _))
  have BX : Blk w1 (w.heap.size + 1) 56 #[.int .u64 (x0 : Int), .int .u64 (x1 : Int), .int .u64 (x2 : Int), .int .u64 (x3 : Int)] := Gr.blk g1 ((((blk_new2 w _ _ _).alloc _).alloc _))
  have BE : Blk w1 (w.heap.size + 2) 56 #[.int .u64 (e0 : Int), .int .u64 (e1 : Int), .int .u64 (e2 : Int), .int .u64 (e3 : Int)] := Gr.blk g1 ((blk_new3 w _ _ _ _).alloc _)
  have BR : Blk w1 (w.heap.size + 3) 56 #[.int .u64 0, .int .u64 0, .int .u64 0, .int .u64 0] := Gr.blk g1 (blk_new4 w _ _ _ _ _)
  have hB := Below.gr (below_alloc4 w _ _ _ _) g1
  have sz : w.heap.size + 3 < w1.heap.size := BR.lt
  have H1 := Lib.hid h1
  clear g1 h1
  go_wp2_with (first | ((with_reducible refine here_store ?_); refine wpList_store_blk rfl _ _ _ rfl (w1.heap.size) (fcs (one)) rfl rfl _ _ (Blk.new w1 _ _) (by kernel_rfl) (by rfl) (fcs_one _) ?_; intro w2 hL2 hq2 hK2; have KM := hK2 _ (by omega) _ _ (BM.alloc _); have KX := hK2 _ (by omega) _ _ (BX.alloc _); have KE := hK2 _ (by omega) _ _ (BE.alloc _); have KR := hK2 _ (by omega) _ _ (BR.alloc _); have hB2 := (hB.alloc (by omega) _).trans (hq2 _ (by omega))))
  go_loopw [8] (fun i wr => Below w.heap.size w wr ∧ Blk wr w.heap.size 60 #[.int .u64 18446744069414583343, .int .u64 18446744073709551615, .int .u64 18446744073709551615, .int .u64 18446744073709551615, .int .u64 4294968273, .int .u64 0, .int .u64 0] ∧ Blk wr (w.heap.size + 1) 56 #[.int .u64 (x0 : Int), .int .u64 (x1 : Int), .int .u64 (x2 : Int), .int .u64 (x3 : Int)] ∧ Blk wr (w.heap.size + 2) 56 #[.int .u64 (e0 : Int), .int .u64 (e1 : Int), .int .u64 (e2 : Int), .int .u64 (e3 : Int)] ∧ Blk wr (w.heap.size + 3) 56 #[.int .u64 0, .int .u64 0, .int .u64 0, .int .u64 0] ∧ Hid ((i = .int .i64 3 ∧ Blk wr w1.heap.size 56 (fcs (pw x (e / 2 ^ 256)))) ∨ (i = .int .i64 2 ∧ Blk wr w1.heap.size 56 (fcs (pw x (e / 2 ^ 192)))) ∨ (i = .int .i64 1 ∧ Blk wr w1.heap.size 56 (fcs (pw x (e / 2 ^ 128)))) ∨ (i = .int .i64 0 ∧ Blk wr w1.heap.size 56 (fcs (pw x (e / 2 ^ 64)))) ∨ (i = .int .i64 (-1) ∧ Blk wr w1.heap.size 56 (fcs (pw x (e / 2 ^ 0)))))) (fun i _ => (intOf i + 1).toNat)
  case atStart => exact ⟨hB2, KM, KX, KE, KR, Lib.hid (.inl ⟨rfl, Blk.eq_ hL2 (by rw [H0.out, pw_zero, H1.out])⟩)⟩
  case round =>
    obtain ⟨hb, BM, BX, BE, BR, HI⟩ := hrel
    rcases HI.out with ⟨rfl, BP⟩ | ⟨rfl, BP⟩ | ⟨rfl, BP⟩ | ⟨rfl, BP⟩ | ⟨rfl, BP⟩
    · clear HI
      go_wp2_with fail
      go_loopw [9] (fun bt wr => ∃ t : Nat, t ≤ 64 ∧ bt = .int .u64 ((2 ^ t / 2 : Nat) : Int) ∧ Below w.heap.size w wr ∧ Blk wr w.heap.size 60 #[.int .u64 18446744069414583343, .int .u64 18446744073709551615, .int .u64 18446744073709551615, .int .u64 18446744073709551615, .int .u64 4294968273, .int .u64 0, .int .u64 0] ∧ Blk wr (w.heap.size + 1) 56 #[.int .u64 (x0 : Int), .int .u64 (x1 : Int), .int .u64 (x2 : Int), .int .u64 (x3 : Int)] ∧ Blk wr (w.heap.size + 2) 56 #[.int .u64 (e0 : Int), .int .u64 (e1 : Int), .int .u64 (e2 : Int), .int .u64 (e3 : Int)] ∧ Blk wr (w.heap.size + 3) 56 #[.int .u64 0, .int .u64 0, .int .u64 0, .int .u64 0] ∧ Blk wr w1.heap.size 56 (fcs (pw x (e / 2 ^ (64 * 3 + t))))) (fun bt _ => (intOf bt).toNat)
      case atStart => exact ⟨64, by omega, rfl, hb, BM, BX, BE, BR, BP⟩
      case round =>
        clear hb BM BX BE BR BP
        obtain ⟨t, ht, rfl, hb, BM, BX, BE, BR, BP⟩ := hrel
        by_cases h0 : t = 0
        · subst h0
          go_wp2
          refine ⟨⟨hb, BM, BX, BE, BR, Lib.hid (.inr (.inl (⟨rfl, BP⟩)))⟩, by decide⟩
        · obtain ⟨s, hs⟩ : ∃ s, t = s + 1 := ⟨t - 1, by omega⟩
          subst hs
          have hbt : 2 ^ (s + 1) / 2 = 2 ^ s := by rw [Nat.pow_succ]; omega
          rw [hbt]
          obtain ⟨bt, hbe⟩ : ∃ bt, bt = 2 ^ s := ⟨_, rfl⟩
          have hpos : 0 < bt := by rw [hbe]; exact Nat.two_pow_pos s
          have hblt : bt < 18446744073709551616 := by
            have h63 : 2 ^ s ≤ 2 ^ 63 := Nat.pow_le_pow_right (by omega) (by omega)
            rw [hbe]
            omega
          have hhalf : bt / 2 = 2 ^ s / 2 := by rw [hbe]
          obtain ⟨m, hm, hmz⟩ := and_bit e3 s HB.out.2.2.2 (by omega)
          rw [← hbe] at hm
          have hd := HN.out.2.2.2 s (by omega)
          obtain ⟨r, hr⟩ : ∃ r, r = pw x (e / 2 ^ (64 * 3 + (s + 1))) := ⟨_, rfl⟩
          obtain ⟨q, hq⟩ : ∃ q, q = mulP r r := ⟨_, rfl⟩
          obtain ⟨v, hv⟩ : ∃ v, v = mulP q x := ⟨_, rfl⟩
          have hq2 : q = pw x (2 * (e / 2 ^ (64 * 3 + (s + 1)))) := by rw [hq, hr, pw_sq]
          have lr : r < 115792089237316195423570985008687907853269984665640564039457584007913129639936 := by rw [hr]; exact pw_lt _ _
          have lq : q < 115792089237316195423570985008687907853269984665640564039457584007913129639936 := by rw [hq]; exact mulP_lt _ _
          have cS : ∀ w, Calls Try.prog 57 #[.agg #[.int .u64 18446744069414583343, .int .u64 18446744073709551615, .int .u64 18446744073709551615, .int .u64 18446744073709551615, .int .u64 4294968273, .int .u64 0, .int .u64 0], fv r, fv r] w fun e w' => e = .returned (fv q) ∧ Below w.heap.size w w' := by
            intro w; rw [hq]; exact mulR_any w r r lr lr
          have cX : ∀ w, Calls Try.prog 57 #[.agg #[.int .u64 18446744069414583343, .int .u64 18446744073709551615, .int .u64 18446744073709551615, .int .u64 18446744073709551615, .int .u64 4294968273, .int .u64 0, .int .u64 0], fv q, fv x] w fun e w' => e = .returned (fv v) ∧ Below w.heap.size w w' := by
            intro w; rw [hv]; exact mulR_any w q x lq HX.out
          have hend0 : m = 0 → q = pw x (e / 2 ^ (64 * 3 + s)) := fun h => by
            rw [hq2, hd, hmz.1 h]; rfl
          have hend1 : m ≠ 0 → v = pw x (e / 2 ^ (64 * 3 + s)) := fun h => by
            have hb1 : e3 / 2 ^ s % 2 = 1 := by have := mt hmz.2 h; omega
            rw [hv, hq2, pw_mul, hd, hb1]
          have HE := Lib.hid (And.intro hend0 (And.intro hend1 (And.intro hhalf hbe)))
          rw [← hr] at BP
          have hgt : (bt : Int) > 0 := by omega
          rw [← hbe]
          clear hr hq hv hq2 lr lq hend0 hend1 hhalf hbe hd hmz hbt
          go_wp2_with (first | ((with_reducible refine here_load (d := some 19) ?_); refine wpList_load_blk rfl _ _ rfl w.heap.size rfl _ _ _ (BM) Try.underlying60 rfl (by kernel_rfl) ?_) | ((with_reducible refine here_load (d := some 20) ?_); refine wpList_load_fv rfl _ _ rfl (w1.heap.size) rfl (r) _ _ _ (BP) (fv_fcs r) Try.underlying56 rfl (by kernel_rfl) ?_) | ((with_reducible refine here_load (d := some 21) ?_); refine wpList_load_fv rfl _ _ rfl (w1.heap.size) rfl (r) _ _ _ (BP) (fv_fcs r) Try.underlying56 rfl (by kernel_rfl) ?_))
          refine (cS _).mono ?_
          rintro ez u ⟨rfl, gu⟩
          have EM := Gr.blk gu BM
          have EX := Gr.blk gu BX
          have EE := Gr.blk gu BE
          have ER := Gr.blk gu BR
          have EP := Gr.blk gu BP
          have hbu := Below.gr hb gu
          clear gu cS BM BX BE BR BP hb
          have lu := EP.lt
          by_cases hm0 : m = 0
          · have hq0 := Lib.hid (HE.out.1 hm0)
            subst hm0
            clear cX
            go_wp2_with (first | ((with_reducible refine here_store ?_); refine wpList_store_blk rfl _ _ _ rfl (w1.heap.size) (fcs (q)) rfl rfl _ _ (EP) (by kernel_rfl) (by rfl) (fcs_one _) ?_; intro uz hLz hqz hKz; have FM := hKz _ (by omega) _ _ EM; have FXx := hKz _ (by omega) _ _ EX; have FE_ := hKz _ (by omega) _ _ EE; have FR := hKz _ (by omega) _ _ ER; have hbz := hbu.trans (hqz _ (by omega)); have pc : uz.cell? ⟨w.heap.size + 2, 3, none⟩ = some (.int .u64 (e3 : Int)) := FE_.cell 3))
            go_roundw
            case rel => exact ⟨s, by omega, by rw [← HE.out.2.2.1]; congr 1 <;> omega, hbz, FM, FXx, FE_, FR, Blk.eq_ hLz (by rw [hq0.out])⟩
            case measure => simp [intOf]; omega
          · have hq1 := Lib.hid (HE.out.2.1 hm0)
            have hmi : ¬ (m : Int) = 0 := by omega
            go_wp2_with (first | ((with_reducible refine here_store ?_); refine wpList_store_blk rfl _ _ _ rfl (w1.heap.size) (fcs (q)) rfl rfl _ _ (EP) (by kernel_rfl) (by rfl) (fcs_one _) ?_; intro uz hLz hqz hKz; have FM := hKz _ (by omega) _ _ EM; have FXx := hKz _ (by omega) _ _ EX; have FE_ := hKz _ (by omega) _ _ EE; have FR := hKz _ (by omega) _ _ ER; have hbz := hbu.trans (hqz _ (by omega)); have pc : uz.cell? ⟨w.heap.size + 2, 3, none⟩ = some (.int .u64 (e3 : Int)) := FE_.cell 3) | ((with_reducible refine here_load (d := some 29) ?_); refine wpList_load_blk rfl _ _ rfl w.heap.size rfl _ _ _ (FM) Try.underlying60 rfl (by kernel_rfl) ?_) | ((with_reducible refine here_load (d := some 30) ?_); refine wpList_load_fv rfl _ _ rfl (w1.heap.size) rfl (q) _ _ _ (hLz) (fv_fcs q) Try.underlying56 rfl (by kernel_rfl) ?_) | ((with_reducible refine here_load (d := some 31) ?_); refine wpList_load_fv rfl _ _ rfl (w.heap.size + 1) rfl (x) _ _ _ (FXx) (FX.out) Try.underlying56 rfl (by kernel_rfl) ?_))
            refine (cX _).mono ?_
            rintro ez u2 ⟨rfl, gu⟩
            have GM := Gr.blk gu FM
            have GX := Gr.blk gu FXx
            have GE := Gr.blk gu FE_
            have GR := Gr.blk gu FR
            have GP := Gr.blk gu hLz
            have hbg := Below.gr hbz gu
            clear gu cX FM FXx FE_ FR hbz
            go_wp2_with (first | ((with_reducible refine here_store ?_); refine wpList_store_blk rfl _ _ _ rfl (w1.heap.size) (fcs (v)) rfl rfl _ _ (GP) (by kernel_rfl) (by rfl) (fcs_one _) ?_; intro uy hLy hqy hKy; have JM := hKy _ (by omega) _ _ GM; have JX := hKy _ (by omega) _ _ GX; have JE := hKy _ (by omega) _ _ GE; have JR := hKy _ (by omega) _ _ GR; have hby := hbg.trans (hqy _ (by omega))))
            go_roundw
            case rel => exact ⟨s, by omega, by rw [← HE.out.2.2.1]; congr 1 <;> omega, hby, JM, JX, JE, JR, Blk.eq_ hLy (by rw [hq1.out])⟩
            case measure => simp [intOf]; omega
    · clear HI
      go_wp2_with fail
      go_loopw [9] (fun bt wr => ∃ t : Nat, t ≤ 64 ∧ bt = .int .u64 ((2 ^ t / 2 : Nat) : Int) ∧ Below w.heap.size w wr ∧ Blk wr w.heap.size 60 #[.int .u64 18446744069414583343, .int .u64 18446744073709551615, .int .u64 18446744073709551615, .int .u64 18446744073709551615, .int .u64 4294968273, .int .u64 0, .int .u64 0] ∧ Blk wr (w.heap.size + 1) 56 #[.int .u64 (x0 : Int), .int .u64 (x1 : Int), .int .u64 (x2 : Int), .int .u64 (x3 : Int)] ∧ Blk wr (w.heap.size + 2) 56 #[.int .u64 (e0 : Int), .int .u64 (e1 : Int), .int .u64 (e2 : Int), .int .u64 (e3 : Int)] ∧ Blk wr (w.heap.size + 3) 56 #[.int .u64 0, .int .u64 0, .int .u64 0, .int .u64 0] ∧ Blk wr w1.heap.size 56 (fcs (pw x (e / 2 ^ (64 * 2 + t))))) (fun bt _ => (intOf bt).toNat)
      case atStart => exact ⟨64, by omega, rfl, hb, BM, BX, BE, BR, BP⟩
      case round =>
        clear hb BM BX BE BR BP
        obtain ⟨t, ht, rfl, hb, BM, BX, BE, BR, BP⟩ := hrel
        by_cases h0 : t = 0
        · subst h0
          go_wp2
          refine ⟨⟨hb, BM, BX, BE, BR, Lib.hid (.inr (.inr (.inl (⟨rfl, BP⟩))))⟩, by decide⟩
        · obtain ⟨s, hs⟩ : ∃ s, t = s + 1 := ⟨t - 1, by omega⟩
          subst hs
          have hbt : 2 ^ (s + 1) / 2 = 2 ^ s := by rw [Nat.pow_succ]; omega
          rw [hbt]
          obtain ⟨bt, hbe⟩ : ∃ bt, bt = 2 ^ s := ⟨_, rfl⟩
          have hpos : 0 < bt := by rw [hbe]; exact Nat.two_pow_pos s
          have hblt : bt < 18446744073709551616 := by
            have h63 : 2 ^ s ≤ 2 ^ 63 := Nat.pow_le_pow_right (by omega) (by omega)
            rw [hbe]
            omega
          have hhalf : bt / 2 = 2 ^ s / 2 := by rw [hbe]
          obtain ⟨m, hm, hmz⟩ := and_bit e2 s HB.out.2.2.1 (by omega)
          rw [← hbe] at hm
          have hd := HN.out.2.2.1 s (by omega)
          obtain ⟨r, hr⟩ : ∃ r, r = pw x (e / 2 ^ (64 * 2 + (s + 1))) := ⟨_, rfl⟩
          obtain ⟨q, hq⟩ : ∃ q, q = mulP r r := ⟨_, rfl⟩
          obtain ⟨v, hv⟩ : ∃ v, v = mulP q x := ⟨_, rfl⟩
          have hq2 : q = pw x (2 * (e / 2 ^ (64 * 2 + (s + 1)))) := by rw [hq, hr, pw_sq]
          have lr : r < 115792089237316195423570985008687907853269984665640564039457584007913129639936 := by rw [hr]; exact pw_lt _ _
          have lq : q < 115792089237316195423570985008687907853269984665640564039457584007913129639936 := by rw [hq]; exact mulP_lt _ _
          have cS : ∀ w, Calls Try.prog 57 #[.agg #[.int .u64 18446744069414583343, .int .u64 18446744073709551615, .int .u64 18446744073709551615, .int .u64 18446744073709551615, .int .u64 4294968273, .int .u64 0, .int .u64 0], fv r, fv r] w fun e w' => e = .returned (fv q) ∧ Below w.heap.size w w' := by
            intro w; rw [hq]; exact mulR_any w r r lr lr
          have cX : ∀ w, Calls Try.prog 57 #[.agg #[.int .u64 18446744069414583343, .int .u64 18446744073709551615, .int .u64 18446744073709551615, .int .u64 18446744073709551615, .int .u64 4294968273, .int .u64 0, .int .u64 0], fv q, fv x] w fun e w' => e = .returned (fv v) ∧ Below w.heap.size w w' := by
            intro w; rw [hv]; exact mulR_any w q x lq HX.out
          have hend0 : m = 0 → q = pw x (e / 2 ^ (64 * 2 + s)) := fun h => by
            rw [hq2, hd, hmz.1 h]; rfl
          have hend1 : m ≠ 0 → v = pw x (e / 2 ^ (64 * 2 + s)) := fun h => by
            have hb1 : e2 / 2 ^ s % 2 = 1 := by have := mt hmz.2 h; omega
            rw [hv, hq2, pw_mul, hd, hb1]
          have HE := Lib.hid (And.intro hend0 (And.intro hend1 (And.intro hhalf hbe)))
          rw [← hr] at BP
          have hgt : (bt : Int) > 0 := by omega
          rw [← hbe]
          clear hr hq hv hq2 lr lq hend0 hend1 hhalf hbe hd hmz hbt
          go_wp2_with (first | ((with_reducible refine here_load (d := some 19) ?_); refine wpList_load_blk rfl _ _ rfl w.heap.size rfl _ _ _ (BM) Try.underlying60 rfl (by kernel_rfl) ?_) | ((with_reducible refine here_load (d := some 20) ?_); refine wpList_load_fv rfl _ _ rfl (w1.heap.size) rfl (r) _ _ _ (BP) (fv_fcs r) Try.underlying56 rfl (by kernel_rfl) ?_) | ((with_reducible refine here_load (d := some 21) ?_); refine wpList_load_fv rfl _ _ rfl (w1.heap.size) rfl (r) _ _ _ (BP) (fv_fcs r) Try.underlying56 rfl (by kernel_rfl) ?_))
          refine (cS _).mono ?_
          rintro ez u ⟨rfl, gu⟩
          have EM := Gr.blk gu BM
          have EX := Gr.blk gu BX
          have EE := Gr.blk gu BE
          have ER := Gr.blk gu BR
          have EP := Gr.blk gu BP
          have hbu := Below.gr hb gu
          clear gu cS BM BX BE BR BP hb
          have lu := EP.lt
          by_cases hm0 : m = 0
          · have hq0 := Lib.hid (HE.out.1 hm0)
            subst hm0
            clear cX
            go_wp2_with (first | ((with_reducible refine here_store ?_); refine wpList_store_blk rfl _ _ _ rfl (w1.heap.size) (fcs (q)) rfl rfl _ _ (EP) (by kernel_rfl) (by rfl) (fcs_one _) ?_; intro uz hLz hqz hKz; have FM := hKz _ (by omega) _ _ EM; have FXx := hKz _ (by omega) _ _ EX; have FE_ := hKz _ (by omega) _ _ EE; have FR := hKz _ (by omega) _ _ ER; have hbz := hbu.trans (hqz _ (by omega)); have pc : uz.cell? ⟨w.heap.size + 2, 2, none⟩ = some (.int .u64 (e2 : Int)) := FE_.cell 2))
            go_roundw
            case rel => exact ⟨s, by omega, by rw [← HE.out.2.2.1]; congr 1 <;> omega, hbz, FM, FXx, FE_, FR, Blk.eq_ hLz (by rw [hq0.out])⟩
            case measure => simp [intOf]; omega
          · have hq1 := Lib.hid (HE.out.2.1 hm0)
            have hmi : ¬ (m : Int) = 0 := by omega
            go_wp2_with (first | ((with_reducible refine here_store ?_); refine wpList_store_blk rfl _ _ _ rfl (w1.heap.size) (fcs (q)) rfl rfl _ _ (EP) (by kernel_rfl) (by rfl) (fcs_one _) ?_; intro uz hLz hqz hKz; have FM := hKz _ (by omega) _ _ EM; have FXx := hKz _ (by omega) _ _ EX; have FE_ := hKz _ (by omega) _ _ EE; have FR := hKz _ (by omega) _ _ ER; have hbz := hbu.trans (hqz _ (by omega)); have pc : uz.cell? ⟨w.heap.size + 2, 2, none⟩ = some (.int .u64 (e2 : Int)) := FE_.cell 2) | ((with_reducible refine here_load (d := some 29) ?_); refine wpList_load_blk rfl _ _ rfl w.heap.size rfl _ _ _ (FM) Try.underlying60 rfl (by kernel_rfl) ?_) | ((with_reducible refine here_load (d := some 30) ?_); refine wpList_load_fv rfl _ _ rfl (w1.heap.size) rfl (q) _ _ _ (hLz) (fv_fcs q) Try.underlying56 rfl (by kernel_rfl) ?_) | ((with_reducible refine here_load (d := some 31) ?_); refine wpList_load_fv rfl _ _ rfl (w.heap.size + 1) rfl (x) _ _ _ (FXx) (FX.out) Try.underlying56 rfl (by kernel_rfl) ?_))
            refine (cX _).mono ?_
            rintro ez u2 ⟨rfl, gu⟩
            have GM := Gr.blk gu FM
            have GX := Gr.blk gu FXx
            have GE := Gr.blk gu FE_
            have GR := Gr.blk gu FR
            have GP := Gr.blk gu hLz
            have hbg := Below.gr hbz gu
            clear gu cX FM FXx FE_ FR hbz
            go_wp2_with (first | ((with_reducible refine here_store ?_); refine wpList_store_blk rfl _ _ _ rfl (w1.heap.size) (fcs (v)) rfl rfl _ _ (GP) (by kernel_rfl) (by rfl) (fcs_one _) ?_; intro uy hLy hqy hKy; have JM := hKy _ (by omega) _ _ GM; have JX := hKy _ (by omega) _ _ GX; have JE := hKy _ (by omega) _ _ GE; have JR := hKy _ (by omega) _ _ GR; have hby := hbg.trans (hqy _ (by omega))))
            go_roundw
            case rel => exact ⟨s, by omega, by rw [← HE.out.2.2.1]; congr 1 <;> omega, hby, JM, JX, JE, JR, Blk.eq_ hLy (by rw [hq1.out])⟩
            case measure => simp [intOf]; omega
    · clear HI
      go_wp2_with fail
      go_loopw [9] (fun bt wr => ∃ t : Nat, t ≤ 64 ∧ bt = .int .u64 ((2 ^ t / 2 : Nat) : Int) ∧ Below w.heap.size w wr ∧ Blk wr w.heap.size 60 #[.int .u64 18446744069414583343, .int .u64 18446744073709551615, .int .u64 18446744073709551615, .int .u64 18446744073709551615, .int .u64 4294968273, .int .u64 0, .int .u64 0] ∧ Blk wr (w.heap.size + 1) 56 #[.int .u64 (x0 : Int), .int .u64 (x1 : Int), .int .u64 (x2 : Int), .int .u64 (x3 : Int)] ∧ Blk wr (w.heap.size + 2) 56 #[.int .u64 (e0 : Int), .int .u64 (e1 : Int), .int .u64 (e2 : Int), .int .u64 (e3 : Int)] ∧ Blk wr (w.heap.size + 3) 56 #[.int .u64 0, .int .u64 0, .int .u64 0, .int .u64 0] ∧ Blk wr w1.heap.size 56 (fcs (pw x (e / 2 ^ (64 * 1 + t))))) (fun bt _ => (intOf bt).toNat)
      case atStart => exact ⟨64, by omega, rfl, hb, BM, BX, BE, BR, BP⟩
      case round =>
        clear hb BM BX BE BR BP
        obtain ⟨t, ht, rfl, hb, BM, BX, BE, BR, BP⟩ := hrel
        by_cases h0 : t = 0
        · subst h0
          go_wp2
          refine ⟨⟨hb, BM, BX, BE, BR, Lib.hid (.inr (.inr (.inr (.inl (⟨rfl, BP⟩)))))⟩, by decide⟩
        · obtain ⟨s, hs⟩ : ∃ s, t = s + 1 := ⟨t - 1, by omega⟩
          subst hs
          have hbt : 2 ^ (s + 1) / 2 = 2 ^ s := by rw [Nat.pow_succ]; omega
          rw [hbt]
          obtain ⟨bt, hbe⟩ : ∃ bt, bt = 2 ^ s := ⟨_, rfl⟩
          have hpos : 0 < bt := by rw [hbe]; exact Nat.two_pow_pos s
          have hblt : bt < 18446744073709551616 := by
            have h63 : 2 ^ s ≤ 2 ^ 63 := Nat.pow_le_pow_right (by omega) (by omega)
            rw [hbe]
            omega
          have hhalf : bt / 2 = 2 ^ s / 2 := by rw [hbe]
          obtain ⟨m, hm, hmz⟩ := and_bit e1 s HB.out.2.1 (by omega)
          rw [← hbe] at hm
          have hd := HN.out.2.1 s (by omega)
          obtain ⟨r, hr⟩ : ∃ r, r = pw x (e / 2 ^ (64 * 1 + (s + 1))) := ⟨_, rfl⟩
          obtain ⟨q, hq⟩ : ∃ q, q = mulP r r := ⟨_, rfl⟩
          obtain ⟨v, hv⟩ : ∃ v, v = mulP q x := ⟨_, rfl⟩
          have hq2 : q = pw x (2 * (e / 2 ^ (64 * 1 + (s + 1)))) := by rw [hq, hr, pw_sq]
          have lr : r < 115792089237316195423570985008687907853269984665640564039457584007913129639936 := by rw [hr]; exact pw_lt _ _
          have lq : q < 115792089237316195423570985008687907853269984665640564039457584007913129639936 := by rw [hq]; exact mulP_lt _ _
          have cS : ∀ w, Calls Try.prog 57 #[.agg #[.int .u64 18446744069414583343, .int .u64 18446744073709551615, .int .u64 18446744073709551615, .int .u64 18446744073709551615, .int .u64 4294968273, .int .u64 0, .int .u64 0], fv r, fv r] w fun e w' => e = .returned (fv q) ∧ Below w.heap.size w w' := by
            intro w; rw [hq]; exact mulR_any w r r lr lr
          have cX : ∀ w, Calls Try.prog 57 #[.agg #[.int .u64 18446744069414583343, .int .u64 18446744073709551615, .int .u64 18446744073709551615, .int .u64 18446744073709551615, .int .u64 4294968273, .int .u64 0, .int .u64 0], fv q, fv x] w fun e w' => e = .returned (fv v) ∧ Below w.heap.size w w' := by
            intro w; rw [hv]; exact mulR_any w q x lq HX.out
          have hend0 : m = 0 → q = pw x (e / 2 ^ (64 * 1 + s)) := fun h => by
            rw [hq2, hd, hmz.1 h]; rfl
          have hend1 : m ≠ 0 → v = pw x (e / 2 ^ (64 * 1 + s)) := fun h => by
            have hb1 : e1 / 2 ^ s % 2 = 1 := by have := mt hmz.2 h; omega
            rw [hv, hq2, pw_mul, hd, hb1]
          have HE := Lib.hid (And.intro hend0 (And.intro hend1 (And.intro hhalf hbe)))
          rw [← hr] at BP
          have hgt : (bt : Int) > 0 := by omega
          rw [← hbe]
          clear hr hq hv hq2 lr lq hend0 hend1 hhalf hbe hd hmz hbt
          go_wp2_with (first | ((with_reducible refine here_load (d := some 19) ?_); refine wpList_load_blk rfl _ _ rfl w.heap.size rfl _ _ _ (BM) Try.underlying60 rfl (by kernel_rfl) ?_) | ((with_reducible refine here_load (d := some 20) ?_); refine wpList_load_fv rfl _ _ rfl (w1.heap.size) rfl (r) _ _ _ (BP) (fv_fcs r) Try.underlying56 rfl (by kernel_rfl) ?_) | ((with_reducible refine here_load (d := some 21) ?_); refine wpList_load_fv rfl _ _ rfl (w1.heap.size) rfl (r) _ _ _ (BP) (fv_fcs r) Try.underlying56 rfl (by kernel_rfl) ?_))
          refine (cS _).mono ?_
          rintro ez u ⟨rfl, gu⟩
          have EM := Gr.blk gu BM
          have EX := Gr.blk gu BX
          have EE := Gr.blk gu BE
          have ER := Gr.blk gu BR
          have EP := Gr.blk gu BP
          have hbu := Below.gr hb gu
          clear gu cS BM BX BE BR BP hb
          have lu := EP.lt
          by_cases hm0 : m = 0
          · have hq0 := Lib.hid (HE.out.1 hm0)
            subst hm0
            clear cX
            go_wp2_with (first | ((with_reducible refine here_store ?_); refine wpList_store_blk rfl _ _ _ rfl (w1.heap.size) (fcs (q)) rfl rfl _ _ (EP) (by kernel_rfl) (by rfl) (fcs_one _) ?_; intro uz hLz hqz hKz; have FM := hKz _ (by omega) _ _ EM; have FXx := hKz _ (by omega) _ _ EX; have FE_ := hKz _ (by omega) _ _ EE; have FR := hKz _ (by omega) _ _ ER; have hbz := hbu.trans (hqz _ (by omega)); have pc : uz.cell? ⟨w.heap.size + 2, 1, none⟩ = some (.int .u64 (e1 : Int)) := FE_.cell 1))
            go_roundw
            case rel => exact ⟨s, by omega, by rw [← HE.out.2.2.1]; congr 1 <;> omega, hbz, FM, FXx, FE_, FR, Blk.eq_ hLz (by rw [hq0.out])⟩
            case measure => simp [intOf]; omega
          · have hq1 := Lib.hid (HE.out.2.1 hm0)
            have hmi : ¬ (m : Int) = 0 := by omega
            go_wp2_with (first | ((with_reducible refine here_store ?_); refine wpList_store_blk rfl _ _ _ rfl (w1.heap.size) (fcs (q)) rfl rfl _ _ (EP) (by kernel_rfl) (by rfl) (fcs_one _) ?_; intro uz hLz hqz hKz; have FM := hKz _ (by omega) _ _ EM; have FXx := hKz _ (by omega) _ _ EX; have FE_ := hKz _ (by omega) _ _ EE; have FR := hKz _ (by omega) _ _ ER; have hbz := hbu.trans (hqz _ (by omega)); have pc : uz.cell? ⟨w.heap.size + 2, 1, none⟩ = some (.int .u64 (e1 : Int)) := FE_.cell 1) | ((with_reducible refine here_load (d := some 29) ?_); refine wpList_load_blk rfl _ _ rfl w.heap.size rfl _ _ _ (FM) Try.underlying60 rfl (by kernel_rfl) ?_) | ((with_reducible refine here_load (d := some 30) ?_); refine wpList_load_fv rfl _ _ rfl (w1.heap.size) rfl (q) _ _ _ (hLz) (fv_fcs q) Try.underlying56 rfl (by kernel_rfl) ?_) | ((with_reducible refine here_load (d := some 31) ?_); refine wpList_load_fv rfl _ _ rfl (w.heap.size + 1) rfl (x) _ _ _ (FXx) (FX.out) Try.underlying56 rfl (by kernel_rfl) ?_))
            refine (cX _).mono ?_
            rintro ez u2 ⟨rfl, gu⟩
            have GM := Gr.blk gu FM
            have GX := Gr.blk gu FXx
            have GE := Gr.blk gu FE_
            have GR := Gr.blk gu FR
            have GP := Gr.blk gu hLz
            have hbg := Below.gr hbz gu
            clear gu cX FM FXx FE_ FR hbz
            go_wp2_with (first | ((with_reducible refine here_store ?_); refine wpList_store_blk rfl _ _ _ rfl (w1.heap.size) (fcs (v)) rfl rfl _ _ (GP) (by kernel_rfl) (by rfl) (fcs_one _) ?_; intro uy hLy hqy hKy; have JM := hKy _ (by omega) _ _ GM; have JX := hKy _ (by omega) _ _ GX; have JE := hKy _ (by omega) _ _ GE; have JR := hKy _ (by omega) _ _ GR; have hby := hbg.trans (hqy _ (by omega))))
            go_roundw
            case rel => exact ⟨s, by omega, by rw [← HE.out.2.2.1]; congr 1 <;> omega, hby, JM, JX, JE, JR, Blk.eq_ hLy (by rw [hq1.out])⟩
            case measure => simp [intOf]; omega
    · clear HI
      go_wp2_with fail
      go_loopw [9] (fun bt wr => ∃ t : Nat, t ≤ 64 ∧ bt = .int .u64 ((2 ^ t / 2 : Nat) : Int) ∧ Below w.heap.size w wr ∧ Blk wr w.heap.size 60 #[.int .u64 18446744069414583343, .int .u64 18446744073709551615, .int .u64 18446744073709551615, .int .u64 18446744073709551615, .int .u64 4294968273, .int .u64 0, .int .u64 0] ∧ Blk wr (w.heap.size + 1) 56 #[.int .u64 (x0 : Int), .int .u64 (x1 : Int), .int .u64 (x2 : Int), .int .u64 (x3 : Int)] ∧ Blk wr (w.heap.size + 2) 56 #[.int .u64 (e0 : Int), .int .u64 (e1 : Int), .int .u64 (e2 : Int), .int .u64 (e3 : Int)] ∧ Blk wr (w.heap.size + 3) 56 #[.int .u64 0, .int .u64 0, .int .u64 0, .int .u64 0] ∧ Blk wr w1.heap.size 56 (fcs (pw x (e / 2 ^ (64 * 0 + t))))) (fun bt _ => (intOf bt).toNat)
      case atStart => exact ⟨64, by omega, rfl, hb, BM, BX, BE, BR, BP⟩
      case round =>
        clear hb BM BX BE BR BP
        obtain ⟨t, ht, rfl, hb, BM, BX, BE, BR, BP⟩ := hrel
        by_cases h0 : t = 0
        · subst h0
          go_wp2
          refine ⟨⟨hb, BM, BX, BE, BR, Lib.hid (.inr (.inr (.inr (.inr (⟨rfl, BP⟩)))))⟩, by decide⟩
        · obtain ⟨s, hs⟩ : ∃ s, t = s + 1 := ⟨t - 1, by omega⟩
          subst hs
          have hbt : 2 ^ (s + 1) / 2 = 2 ^ s := by rw [Nat.pow_succ]; omega
          rw [hbt]
          obtain ⟨bt, hbe⟩ : ∃ bt, bt = 2 ^ s := ⟨_, rfl⟩
          have hpos : 0 < bt := by rw [hbe]; exact Nat.two_pow_pos s
          have hblt : bt < 18446744073709551616 := by
            have h63 : 2 ^ s ≤ 2 ^ 63 := Nat.pow_le_pow_right (by omega) (by omega)
            rw [hbe]
            omega
          have hhalf : bt / 2 = 2 ^ s / 2 := by rw [hbe]
          obtain ⟨m, hm, hmz⟩ := and_bit e0 s HB.out.1 (by omega)
          rw [← hbe] at hm
          have hd := HN.out.1 s (by omega)
          obtain ⟨r, hr⟩ : ∃ r, r = pw x (e / 2 ^ (64 * 0 + (s + 1))) := ⟨_, rfl⟩
          obtain ⟨q, hq⟩ : ∃ q, q = mulP r r := ⟨_, rfl⟩
          obtain ⟨v, hv⟩ : ∃ v, v = mulP q x := ⟨_, rfl⟩
          have hq2 : q = pw x (2 * (e / 2 ^ (64 * 0 + (s + 1)))) := by rw [hq, hr, pw_sq]
          have lr : r < 115792089237316195423570985008687907853269984665640564039457584007913129639936 := by rw [hr]; exact pw_lt _ _
          have lq : q < 115792089237316195423570985008687907853269984665640564039457584007913129639936 := by rw [hq]; exact mulP_lt _ _
          have cS : ∀ w, Calls Try.prog 57 #[.agg #[.int .u64 18446744069414583343, .int .u64 18446744073709551615, .int .u64 18446744073709551615, .int .u64 18446744073709551615, .int .u64 4294968273, .int .u64 0, .int .u64 0], fv r, fv r] w fun e w' => e = .returned (fv q) ∧ Below w.heap.size w w' := by
            intro w; rw [hq]; exact mulR_any w r r lr lr
          have cX : ∀ w, Calls Try.prog 57 #[.agg #[.int .u64 18446744069414583343, .int .u64 18446744073709551615, .int .u64 18446744073709551615, .int .u64 18446744073709551615, .int .u64 4294968273, .int .u64 0, .int .u64 0], fv q, fv x] w fun e w' => e = .returned (fv v) ∧ Below w.heap.size w w' := by
            intro w; rw [hv]; exact mulR_any w q x lq HX.out
          have hend0 : m = 0 → q = pw x (e / 2 ^ (64 * 0 + s)) := fun h => by
            rw [hq2, hd, hmz.1 h]; rfl
          have hend1 : m ≠ 0 → v = pw x (e / 2 ^ (64 * 0 + s)) := fun h => by
            have hb1 : e0 / 2 ^ s % 2 = 1 := by have := mt hmz.2 h; omega
            rw [hv, hq2, pw_mul, hd, hb1]
          have HE := Lib.hid (And.intro hend0 (And.intro hend1 (And.intro hhalf hbe)))
          rw [← hr] at BP
          have hgt : (bt : Int) > 0 := by omega
          rw [← hbe]
          clear hr hq hv hq2 lr lq hend0 hend1 hhalf hbe hd hmz hbt
          go_wp2_with (first | ((with_reducible refine here_load (d := some 19) ?_); refine wpList_load_blk rfl _ _ rfl w.heap.size rfl _ _ _ (BM) Try.underlying60 rfl (by kernel_rfl) ?_) | ((with_reducible refine here_load (d := some 20) ?_); refine wpList_load_fv rfl _ _ rfl (w1.heap.size) rfl (r) _ _ _ (BP) (fv_fcs r) Try.underlying56 rfl (by kernel_rfl) ?_) | ((with_reducible refine here_load (d := some 21) ?_); refine wpList_load_fv rfl _ _ rfl (w1.heap.size) rfl (r) _ _ _ (BP) (fv_fcs r) Try.underlying56 rfl (by kernel_rfl) ?_))
          refine (cS _).mono ?_
          rintro ez u ⟨rfl, gu⟩
          have EM := Gr.blk gu BM
          have EX := Gr.blk gu BX
          have EE := Gr.blk gu BE
          have ER := Gr.blk gu BR
          have EP := Gr.blk gu BP
          have hbu := Below.gr hb gu
          clear gu cS BM BX BE BR BP hb
          have lu := EP.lt
          by_cases hm0 : m = 0
          · have hq0 := Lib.hid (HE.out.1 hm0)
            subst hm0
            clear cX
            go_wp2_with (first | ((with_reducible refine here_store ?_); refine wpList_store_blk rfl _ _ _ rfl (w1.heap.size) (fcs (q)) rfl rfl _ _ (EP) (by kernel_rfl) (by rfl) (fcs_one _) ?_; intro uz hLz hqz hKz; have FM := hKz _ (by omega) _ _ EM; have FXx := hKz _ (by omega) _ _ EX; have FE_ := hKz _ (by omega) _ _ EE; have FR := hKz _ (by omega) _ _ ER; have hbz := hbu.trans (hqz _ (by omega)); have pc : uz.cell? ⟨w.heap.size + 2, 0, none⟩ = some (.int .u64 (e0 : Int)) := FE_.cell 0))
            go_roundw
            case rel => exact ⟨s, by omega, by rw [← HE.out.2.2.1]; congr 1 <;> omega, hbz, FM, FXx, FE_, FR, Blk.eq_ hLz (by rw [hq0.out])⟩
            case measure => simp [intOf]; omega
          · have hq1 := Lib.hid (HE.out.2.1 hm0)
            have hmi : ¬ (m : Int) = 0 := by omega
            go_wp2_with (first | ((with_reducible refine here_store ?_); refine wpList_store_blk rfl _ _ _ rfl (w1.heap.size) (fcs (q)) rfl rfl _ _ (EP) (by kernel_rfl) (by rfl) (fcs_one _) ?_; intro uz hLz hqz hKz; have FM := hKz _ (by omega) _ _ EM; have FXx := hKz _ (by omega) _ _ EX; have FE_ := hKz _ (by omega) _ _ EE; have FR := hKz _ (by omega) _ _ ER; have hbz := hbu.trans (hqz _ (by omega)); have pc : uz.cell? ⟨w.heap.size + 2, 0, none⟩ = some (.int .u64 (e0 : Int)) := FE_.cell 0) | ((with_reducible refine here_load (d := some 29) ?_); refine wpList_load_blk rfl _ _ rfl w.heap.size rfl _ _ _ (FM) Try.underlying60 rfl (by kernel_rfl) ?_) | ((with_reducible refine here_load (d := some 30) ?_); refine wpList_load_fv rfl _ _ rfl (w1.heap.size) rfl (q) _ _ _ (hLz) (fv_fcs q) Try.underlying56 rfl (by kernel_rfl) ?_) | ((with_reducible refine here_load (d := some 31) ?_); refine wpList_load_fv rfl _ _ rfl (w.heap.size + 1) rfl (x) _ _ _ (FXx) (FX.out) Try.underlying56 rfl (by kernel_rfl) ?_))
            refine (cX _).mono ?_
            rintro ez u2 ⟨rfl, gu⟩
            have GM := Gr.blk gu FM
            have GX := Gr.blk gu FXx
            have GE := Gr.blk gu FE_
            have GR := Gr.blk gu FR
            have GP := Gr.blk gu hLz
            have hbg := Below.gr hbz gu
            clear gu cX FM FXx FE_ FR hbz
            go_wp2_with (first | ((with_reducible refine here_store ?_); refine wpList_store_blk rfl _ _ _ rfl (w1.heap.size) (fcs (v)) rfl rfl _ _ (GP) (by kernel_rfl) (by rfl) (fcs_one _) ?_; intro uy hLy hqy hKy; have JM := hKy _ (by omega) _ _ GM; have JX := hKy _ (by omega) _ _ GX; have JE := hKy _ (by omega) _ _ GE; have JR := hKy _ (by omega) _ _ GR; have hby := hbg.trans (hqy _ (by omega))))
            go_roundw
            case rel => exact ⟨s, by omega, by rw [← HE.out.2.2.1]; congr 1 <;> omega, hby, JM, JX, JE, JR, Blk.eq_ hLy (by rw [hq1.out])⟩
            case measure => simp [intOf]; omega
    · clear HI
      have BP0 : Blk wr w1.heap.size 56 (fcs (pw x e)) := by
        have h := BP
        rw [Nat.pow_zero, Nat.div_one] at h
        exact h
      obtain ⟨z, hz⟩ : ∃ z, z = pw x e := ⟨_, rfl⟩
      rw [← hz] at BP0
      have HZ := Lib.hid hz
      clear hz BP
      go_wp2_with (first | ((with_reducible refine here_load (d := some 33) ?_); refine wpList_load_fv rfl _ _ rfl (w1.heap.size) rfl (z) _ _ _ (BP0) (fv_fcs z) Try.underlying56 rfl (by kernel_rfl) ?_) | ((with_reducible refine here_store ?_); refine wpList_store_blk rfl _ _ _ rfl (w.heap.size + 3) (fcs (z)) rfl rfl _ _ (BR) (by kernel_rfl) (by rfl) (fcs_one _) ?_; intro vz hLz hqz hKz))
      exact bodyPost_ret (results_cell_row rfl _ _ (w.heap.size + 3) _ _ (0, 0) _ rfl hLz Try.underlying56 rfl (by kernel_rfl)) rfl ⟨by rw [← HZ.out]; rfl, hb.trans (hqz _ (by omega))⟩

end Go.Proofs.Ytneeefinaejgcaa

end
section
namespace Go.Proofs.Ytneeefinaejgcaa
open Go.RowKit Go.Lib

set_option maxHeartbeats 2000000 in
set_option maxRecDepth 100000 in
theorem rightR_any (w : World) (x : Nat) (hx : x < 115792089237316195423570985008687907853269984665640564039457584007913129639936) : Calls Try.prog 90 #[modV, fv x] w fun e w' => e = .returned (.bool (decide (x < pM))) ∧ Below w.heap.size w w' := by
  obtain ⟨p, hp⟩ : ∃ p, p = 115792089237316195423570985008687907853269984665640564039457584007908834671663 := ⟨_, rfl⟩
  obtain ⟨b, hb⟩ : ∃ b, b = decide (x < pM) := ⟨_, rfl⟩
  have cb : ∀ w, Calls Try.prog 62 #[fv x, fv p] w fun e w' => e = .returned (.bool b) ∧ Below w.heap.size w w' := by
    intro w; rw [hb, pM_eq, ← hp]; exact below_at w x p rfl rfl hx (by omega)
  have hpc : fv p = .agg #[.int .u64 18446744069414583343, .int .u64 18446744073709551615, .int .u64 18446744073709551615, .int .u64 18446744073709551615] := by rw [hp]; exact fv_P
  obtain ⟨x0, x1, x2, x3, fx⟩ := words_fv x hx
  have FX := Lib.hid fx
  have FP := Lib.hid hpc
  rw [fx, ← hb]
  unfold modV
  clear fx hpc hx hp hb
  go_enter Try.func90, Try.ntmps90
  go_wp2_with (first | ((with_reducible refine here_load (d := some 5) ?_); refine wpList_load_fv rfl _ _ rfl (w.heap.size + 1) rfl (x) _ _ _ (blk_new2 w _ _ _) (FX.out) Try.underlying56 rfl (by kernel_rfl) ?_) | ((with_reducible refine here_load (d := some 7) ?_); refine wpList_load_part rfl _ _ rfl w.heap.size rfl p [.int .u64 18446744069414583343, .int .u64 18446744073709551615, .int .u64 18446744073709551615, .int .u64 18446744073709551615] _ (mod_range ((Blk.new w _ _).alloc _)) FP.out Try.underlying56 rfl (by kernel_rfl) ?_))
  refine (cb _).mono ?_
  rintro e w1 ⟨rfl, k1⟩
  go_wp2
  go_ret
  exact ⟨rfl, Below.gr (below_alloc2 w _ _) k1⟩

theorem div_word (a r s : Nat) (hs : s ≤ 56) : (a + 18446744073709551616 * r) / 2 ^ s % 256 = a / 2 ^ s % 256 := by
  obtain ⟨u, hu⟩ : ∃ u, 2 ^ s * (256 * u) = 18446744073709551616 := by
    refine ⟨2 ^ (56 - s), ?_⟩
    have : 2 ^ s * 2 ^ (56 - s) = 2 ^ 56 := by rw [← Nat.pow_add]; congr 1; omega
    rw [show (256 : Nat) * 2 ^ (56 - s) = 2 ^ (56 - s) * 256 from Nat.mul_comm _ _, ← Nat.mul_assoc, this]
  rw [← hu, Nat.mul_assoc, Nat.add_mul_div_left _ _ (Nat.two_pow_pos s), Nat.mul_assoc, Nat.add_mul_mod_self_left]
theorem shift_word (z i s w r : Nat) (hz : z / 2 ^ (64 * i) = w + 18446744073709551616 * r) (hs : s ≤ 56) : z / 2 ^ (64 * i + s) % 256 = w / 2 ^ s % 256 := by
  rw [Nat.pow_add, ← Nat.div_div_eq_div_mul, hz, div_word w r s hs]
theorem lowB_get (z : Nat) : ∀ (k j : Nat), j < k → (lowB z k)[j]? = some (byteN z (k - 1 - j))
  | 0, j, h => by omega
  | k + 1, 0, _ => by simp [lowB]
  | k + 1, j + 1, h => by
    rw [lowB, List.getElem?_cons_succ, lowB_get z k j (by omega)]
    congr 2
    omega
theorem take_bytes (z n : Nat) (h : n < 32) : (bytesS z).take n ++ [byteN z (31 - n)] = (bytesS z).take (n + 1) := by
  rw [List.take_add_one, bytesS, lowB_get z 32 n h]
  rfl
set_option maxHeartbeats 4000000 in
set_option maxRecDepth 100000 in
theorem bytesR_any (w : World) (z : Nat) (hz : z < 115792089237316195423570985008687907853269984665640564039457584007913129639936) : Calls Try.prog 51 #[fv z] w fun e w' => ∃ g cap, e = .returned (.slice (some ⟨g, 0, none⟩) 32 cap) ∧ OwnB w' (w.heap.size + 1) (.slice (some ⟨g, 0, none⟩) 32 cap) (bytesS z) ∧ g < w'.heap.size ∧ Below w.heap.size w w' := by
  obtain ⟨z0, z1, z2, z3, a0, a1, a2, a3, ez, fz⟩ := words_of z hz
  have s0 := fun s hs => shift_word z 0 s z0 (z1 + 18446744073709551616 * z2 + 340282366920938463463374607431768211456 * z3) (by omega) hs
  have s1 := fun s hs => shift_word z 1 s z1 (z2 + 18446744073709551616 * z3) (by omega) hs
  have s2 := fun s hs => shift_word z 2 s z2 z3 (by omega) hs
  have s3 := fun s hs => shift_word z 3 s z3 0 (by omega) hs
  have HS := Lib.hid (And.intro s0 (And.intro s1 (And.intro s2 s3)))
  rw [fz]
  clear ez fz hz a0 a1 a2 a3 s0 s1 s2 s3
  go_enter Try.func51, Try.ntmps51
  go_wp2_with fail
  go_loopw [3, 4] (fun v i wr => Below w.heap.size w wr ∧ Blk wr w.heap.size 56 #[.int .u64 (z0 : Int), .int .u64 (z1 : Int), .int .u64 (z2 : Int), .int .u64 (z3 : Int)] ∧ Hid ((i = .int .i64 3 ∧ OwnB wr (w.heap.size + 1) v ((bytesS z).take 0)) ∨ (i = .int .i64 2 ∧ OwnB wr (w.heap.size + 1) v ((bytesS z).take 8)) ∨ (i = .int .i64 1 ∧ OwnB wr (w.heap.size + 1) v ((bytesS z).take 16)) ∨ (i = .int .i64 0 ∧ OwnB wr (w.heap.size + 1) v ((bytesS z).take 24)) ∨ (i = .int .i64 (-1) ∧ OwnB wr (w.heap.size + 1) v ((bytesS z).take 32)))) (fun _ i _ => (intOf i + 1).toNat)
  case atStart => exact ⟨(Below.refl _ _).alloc (Nat.le_refl _) _, Blk.new w _ _, Lib.hid (.inl ⟨rfl, OwnB.nil _ _⟩)⟩
  case round =>
    obtain ⟨hb, BZ, HI⟩ := hrel
    rcases HI.out with ⟨rfl, hown⟩ | ⟨rfl, hown⟩ | ⟨rfl, hown⟩ | ⟨rfl, hown⟩ | ⟨rfl, hown⟩
    · clear HI
      go_wp2_with fail
      go_loopw [3, 5] (fun v s wr => ∃ t : Nat, t ≤ 8 ∧ s = .int .i64 (56 - 8 * (t : Int)) ∧ Below w.heap.size w wr ∧ Blk wr w.heap.size 56 #[.int .u64 (z0 : Int), .int .u64 (z1 : Int), .int .u64 (z2 : Int), .int .u64 (z3 : Int)] ∧ OwnB wr (w.heap.size + 1) v ((bytesS z).take (0 + t))) (fun _ s _ => (intOf s + 8).toNat)
      case atStart => exact ⟨0, by omega, rfl, hb, BZ, hown⟩
      case round =>
        clear hb BZ hown
        obtain ⟨t, ht, rfl, hb, BZ, hown⟩ := hrel
        by_cases hlt : t < 8
        · obtain ⟨s, hs⟩ : ∃ s, s = 56 - 8 * t := ⟨_, rfl⟩
          have hs1 : (56 - 8 * (t : Int)) = (s : Int) := by omega
          obtain ⟨x, hx⟩ : ∃ x, x = byteN z (31 - (0 + t)) := ⟨_, rfl⟩
          have hxe : (z3 : Int) / 2 ^ s % 256 = (x.toNat : Int) := by
            have h := HS.out.2.2.2 s (by omega)
            have e : 8 * (31 - (0 + t)) = 64 * 3 + s := by omega
            rw [hx, byteN, UInt8.toNat_ofNat', e, h]
            have : ((z3 : Int) / 2 ^ s % 256) = ((z3 / 2 ^ s % 256 : Nat) : Int) := by push_cast; rfl
            rw [this]
            omega
          have hlen : ((bytesS z).take (0 + t)).length ≤ 32 := by rw [List.length_take, bytesS_length]; omega
          have HX := Lib.hid (And.intro hx (And.intro hxe hlen))
          have pc : wr.cell? ⟨w.heap.size, 3, none⟩ = some (.int .u64 (z3 : Int)) := BZ.cell 3
          have hsl : s ≤ 56 := by omega
          have HT := Lib.hid hs
          have lz := BZ.lt
          rw [hs1]
          clear hx hxe hlen hs
          go_wp2_with (at_builtin
                       refine wpList_append_bytes rfl (.tmp 14) (.tmp 21) rfl (w.heap.size + 1) _ ((bytesS z).take (0 + t)) rfl (hown.alloc _) (some ⟨wr.heap.size, 0, none⟩) [x] 1 rfl (Src.of_blk (Blk.eq_ (Blk.new wr 5 _) (by rw [HX.out.2.1]; rfl))) (by have := HX.out.2.2; simp only [List.length_singleton]; omega) (by simp <;> omega) ?_
                       intro v3 w3 hv3 hg3
                       have hb3 := below_own (hb.alloc (by omega) _) (hown.alloc _) hg3 (Nat.le_succ _) (by simp <;> omega)
                       have BZ3 := Blk.grown (BZ.alloc _) hg3 (fun e => by have := (World.ownsRow.lt hown _ e.symm).1; omega)
                       rw [HX.out.1, take_bytes z (0 + t) (by omega)] at hv3)
          go_roundw
          case rel => exact ⟨t + 1, by omega, by congr 1; omega, hb3, BZ3, hv3⟩
          case measure => simp [intOf]; omega
        · obtain rfl : t = 8 := by omega
          go_wp2
          refine ⟨⟨hb, BZ, Lib.hid (.inr (.inl (⟨rfl, hown⟩)))⟩, by decide⟩
    · clear HI
      go_wp2_with fail
      go_loopw [3, 5] (fun v s wr => ∃ t : Nat, t ≤ 8 ∧ s = .int .i64 (56 - 8 * (t : Int)) ∧ Below w.heap.size w wr ∧ Blk wr w.heap.size 56 #[.int .u64 (z0 : Int), .int .u64 (z1 : Int), .int .u64 (z2 : Int), .int .u64 (z3 : Int)] ∧ OwnB wr (w.heap.size + 1) v ((bytesS z).take (8 + t))) (fun _ s _ => (intOf s + 8).toNat)
      case atStart => exact ⟨0, by omega, rfl, hb, BZ, hown⟩
      case round =>
        clear hb BZ hown
        obtain ⟨t, ht, rfl, hb, BZ, hown⟩ := hrel
        by_cases hlt : t < 8
        · obtain ⟨s, hs⟩ : ∃ s, s = 56 - 8 * t := ⟨_, rfl⟩
          have hs1 : (56 - 8 * (t : Int)) = (s : Int) := by omega
          obtain ⟨x, hx⟩ : ∃ x, x = byteN z (31 - (8 + t)) := ⟨_, rfl⟩
          have hxe : (z2 : Int) / 2 ^ s % 256 = (x.toNat : Int) := by
            have h := HS.out.2.2.1 s (by omega)
            have e : 8 * (31 - (8 + t)) = 64 * 2 + s := by omega
            rw [hx, byteN, UInt8.toNat_ofNat', e, h]
            have : ((z2 : Int) / 2 ^ s % 256) = ((z2 / 2 ^ s % 256 : Nat) : Int) := by push_cast; rfl
            rw [this]
            omega
          have hlen : ((bytesS z).take (8 + t)).length ≤ 32 := by rw [List.length_take, bytesS_length]; omega
          have HX := Lib.hid (And.intro hx (And.intro hxe hlen))
          have pc : wr.cell? ⟨w.heap.size, 2, none⟩ = some (.int .u64 (z2 : Int)) := BZ.cell 2
          have hsl : s ≤ 56 := by omega
          have HT := Lib.hid hs
          have lz := BZ.lt
          rw [hs1]
          clear hx hxe hlen hs
          go_wp2_with (at_builtin
                       refine wpList_append_bytes rfl (.tmp 14) (.tmp 21) rfl (w.heap.size + 1) _ ((bytesS z).take (8 + t)) rfl (hown.alloc _) (some ⟨wr.heap.size, 0, none⟩) [x] 1 rfl (Src.of_blk (Blk.eq_ (Blk.new wr 5 _) (by rw [HX.out.2.1]; rfl))) (by have := HX.out.2.2; simp only [List.length_singleton]; omega) (by simp <;> omega) ?_
                       intro v3 w3 hv3 hg3
                       have hb3 := below_own (hb.alloc (by omega) _) (hown.alloc _) hg3 (Nat.le_succ _) (by simp <;> omega)
                       have BZ3 := Blk.grown (BZ.alloc _) hg3 (fun e => by have := (World.ownsRow.lt hown _ e.symm).1; omega)
                       rw [HX.out.1, take_bytes z (8 + t) (by omega)] at hv3)
          go_roundw
          case rel => exact ⟨t + 1, by omega, by congr 1; omega, hb3, BZ3, hv3⟩
          case measure => simp [intOf]; omega
        · obtain rfl : t = 8 := by omega
          go_wp2
          refine ⟨⟨hb, BZ, Lib.hid (.inr (.inr (.inl (⟨rfl, hown⟩))))⟩, by decide⟩
    · clear HI
      go_wp2_with fail
      go_loopw [3, 5] (fun v s wr => ∃ t : Nat, t ≤ 8 ∧ s = .int .i64 (56 - 8 * (t : Int)) ∧ Below w.heap.size w wr ∧ Blk wr w.heap.size 56 #[.int .u64 (z0 : Int), .int .u64 (z1 : Int), .int .u64 (z2 : Int), .int .u64 (z3 : Int)] ∧ OwnB wr (w.heap.size + 1) v ((bytesS z).take (16 + t))) (fun _ s _ => (intOf s + 8).toNat)
      case atStart => exact ⟨0, by omega, rfl, hb, BZ, hown⟩
      case round =>
        clear hb BZ hown
        obtain ⟨t, ht, rfl, hb, BZ, hown⟩ := hrel
        by_cases hlt : t < 8
        · obtain ⟨s, hs⟩ : ∃ s, s = 56 - 8 * t := ⟨_, rfl⟩
          have hs1 : (56 - 8 * (t : Int)) = (s : Int) := by omega
          obtain ⟨x, hx⟩ : ∃ x, x = byteN z (31 - (16 + t)) := ⟨_, rfl⟩
          have hxe : (z1 : Int) / 2 ^ s % 256 = (x.toNat : Int) := by
            have h := HS.out.2.1 s (by omega)
            have e : 8 * (31 - (16 + t)) = 64 * 1 + s := by omega
            rw [hx, byteN, UInt8.toNat_ofNat', e, h]
            have : ((z1 : Int) / 2 ^ s % 256) = ((z1 / 2 ^ s % 256 : Nat) : Int) := by push_cast; rfl
            rw [this]
            omega
          have hlen : ((bytesS z).take (16 + t)).length ≤ 32 := by rw [List.length_take, bytesS_length]; omega
          have HX := Lib.hid (And.intro hx (And.intro hxe hlen))
          have pc : wr.cell? ⟨w.heap.size, 1, none⟩ = some (.int .u64 (z1 : Int)) := BZ.cell 1
          have hsl : s ≤ 56 := by omega
          have HT := Lib.hid hs
          have lz := BZ.lt
          rw [hs1]
          clear hx hxe hlen hs
          go_wp2_with (at_builtin
                       refine wpList_append_bytes rfl (.tmp 14) (.tmp 21) rfl (w.heap.size + 1) _ ((bytesS z).take (16 + t)) rfl (hown.alloc _) (some ⟨wr.heap.size, 0, none⟩) [x] 1 rfl (Src.of_blk (Blk.eq_ (Blk.new wr 5 _) (by rw [HX.out.2.1]; rfl))) (by have := HX.out.2.2; simp only [List.length_singleton]; omega) (by simp <;> omega) ?_
                       intro v3 w3 hv3 hg3
                       have hb3 := below_own (hb.alloc (by omega) _) (hown.alloc _) hg3 (Nat.le_succ _) (by simp <;> omega)
                       have BZ3 := Blk.grown (BZ.alloc _) hg3 (fun e => by have := (World.ownsRow.lt hown _ e.symm).1; omega)
                       rw [HX.out.1, take_bytes z (16 + t) (by omega)] at hv3)
          go_roundw
          case rel => exact ⟨t + 1, by omega, by congr 1; omega, hb3, BZ3, hv3⟩
          case measure => simp [intOf]; omega
        · obtain rfl : t = 8 := by omega
          go_wp2
          refine ⟨⟨hb, BZ, Lib.hid (.inr (.inr (.inr (.inl (⟨rfl, hown⟩)))))⟩, by decide⟩
    · clear HI
      go_wp2_with fail
      go_loopw [3, 5] (fun v s wr => ∃ t : Nat, t ≤ 8 ∧ s = .int .i64 (56 - 8 * (t : Int)) ∧ Below w.heap.size w wr ∧ Blk wr w.heap.size 56 #[.int .u64 (z0 : Int), .int .u64 (z1 : Int), .int .u64 (z2 : Int), .int .u64 (z3 : Int)] ∧ OwnB wr (w.heap.size + 1) v ((bytesS z).take (24 + t))) (fun _ s _ => (intOf s + 8).toNat)
      case atStart => exact ⟨0, by omega, rfl, hb, BZ, hown⟩
      case round =>
        clear hb BZ hown
        obtain ⟨t, ht, rfl, hb, BZ, hown⟩ := hrel
        by_cases hlt : t < 8
        · obtain ⟨s, hs⟩ : ∃ s, s = 56 - 8 * t := ⟨_, rfl⟩
          have hs1 : (56 - 8 * (t : Int)) = (s : Int) := by omega
          obtain ⟨x, hx⟩ : ∃ x, x = byteN z (31 - (24 + t)) := ⟨_, rfl⟩
          have hxe : (z0 : Int) / 2 ^ s % 256 = (x.toNat : Int) := by
            have h := HS.out.1 s (by omega)
            have e : 8 * (31 - (24 + t)) = 64 * 0 + s := by omega
            rw [hx, byteN, UInt8.toNat_ofNat', e, h]
            have : ((z0 : Int) / 2 ^ s % 256) = ((z0 / 2 ^ s % 256 : Nat) : Int) := by push_cast; rfl
            rw [this]
            omega
          have hlen : ((bytesS z).take (24 + t)).length ≤ 32 := by rw [List.length_take, bytesS_length]; omega
          have HX := Lib.hid (And.intro hx (And.intro hxe hlen))
          have pc : wr.cell? ⟨w.heap.size, 0, none⟩ = some (.int .u64 (z0 : Int)) := BZ.cell 0
          have hsl : s ≤ 56 := by omega
          have HT := Lib.hid hs
          have lz := BZ.lt
          rw [hs1]
          clear hx hxe hlen hs
          go_wp2_with (at_builtin
                       refine wpList_append_bytes rfl (.tmp 14) (.tmp 21) rfl (w.heap.size + 1) _ ((bytesS z).take (24 + t)) rfl (hown.alloc _) (some ⟨wr.heap.size, 0, none⟩) [x] 1 rfl (Src.of_blk (Blk.eq_ (Blk.new wr 5 _) (by rw [HX.out.2.1]; rfl))) (by have := HX.out.2.2; simp only [List.length_singleton]; omega) (by simp <;> omega) ?_
                       intro v3 w3 hv3 hg3
                       have hb3 := below_own (hb.alloc (by omega) _) (hown.alloc _) hg3 (Nat.le_succ _) (by simp <;> omega)
                       have BZ3 := Blk.grown (BZ.alloc _) hg3 (fun e => by have := (World.ownsRow.lt hown _ e.symm).1; omega)
                       rw [HX.out.1, take_bytes z (24 + t) (by omega)] at hv3)
          go_roundw
          case rel => exact ⟨t + 1, by omega, by congr 1; omega, hb3, BZ3, hv3⟩
          case measure => simp [intOf]; omega
        · obtain rfl : t = 8 := by omega
          go_wp2
          refine ⟨⟨hb, BZ, Lib.hid (.inr (.inr (.inr (.inr (⟨rfl, hown⟩)))))⟩, by decide⟩
    · clear HI
      rw [List.take_of_length_le (by rw [bytesS_length]; exact Nat.le_refl _)] at hown
      obtain ⟨g, n, cap, rfl, hn, _, hl⟩ := hown.form' (by rw [bytesS_length]; omega)
      have hn32 : n = 32 := by rw [hn.out, bytesS_length]
      subst hn32
      go_wp2
      go_ret
      exact ⟨g, cap, rfl, hown, hl, hb⟩
end Go.Proofs.Ytneeefinaejgcaa

end
section
namespace Go.Proofs.Ytneeefinaejgcaa.Cu
open Go.RowKit Go.Proofs.Ytneeefinaejgcaa Go.Proofs.Ytneeefinaejgcaa.Sy

def modcs : Array Value := #[.int .u64 18446744069414583343, .int .u64 18446744073709551615, .int .u64 18446744073709551615, .int .u64 18446744073709551615, .int .u64 4294968273, .int .u64 0, .int .u64 0]
def mod0 : Array Value := #[.int .u64 0, .int .u64 0, .int .u64 0, .int .u64 0, .int .u64 0, .int .u64 0, .int .u64 0]
theorem refmul_c (w : World) (a b : Fp) : Calls Try.prog 57 #[.agg modcs, fv a.val, fv b.val] w (Gets w (fv (a * b).val)) := mulR_any w a.val b.val (lt4 a) (lt4 b)
theorem refadd_c (w : World) (a b : Fp) : Calls Try.prog 56 #[.agg modcs, fv a.val, fv b.val] w (Gets w (fv (a + b).val)) := addR_any w a.val b.val (lt4 a) (lt4 b)
theorem refneg_c (w : World) (a : Fp) : Calls Try.prog 91 #[.agg modcs, fv a.val] w (Gets w (fv (-a).val)) := by rw [← val_neg]; exact negR_any w a.val (lt4 a)
theorem eql_num (w : World) (F : Slots) (o : Oper) (x y : Operand) (n m : Nat) {yt : TypeId} (ho : o.op = .binOp .eql 56 x y yt) (hx : evF F x = fv n) (hy : evF F y = fv m) (hn : n < K4) (hm : m < K4) : (execOp (evF F) o).run Try.prog w = .ok (.value (.bool (decide (n = m)))) w := by
  have h1 := Nm.run_eqGuard_fv .eql x y n m w
  have h2 := Nm.run_eql_fv w n m hn hm
  unfold execOp
  simp only [ho, hx, hy, Sem.run_bind, h1, h2, Result.andThen_ok, Sem.run_pure]
set_option maxRecDepth 100000 in
theorem small_c (w : World) (k : Nat) (hk : k < 18446744073709551616) : Calls Try.prog 66 #[.int .u64 (k : Int)] w (Gets w (fv k)) := by
  rw [fv_small k hk]
  refine Sy.enter (args := [.int .u64 (k : Int)]) Try.func66 rfl (Nat.le_of_ble_eq_true (by kernel_rfl)) ?_
  refine Sy.seq ?_
  refine Sy.region ?_
  refine Sy.make (by kernel_rfl) 56 (fcs 0) ptr (fun _ => by kernel_rfl) (fun g0 => ?_)
  refine Sy.nil ?_
  refine Sy.then_ ?_
  refine Sy.seq ?_
  refine Sy.region ?_
  refine Sy.step (by kernel_rfl) (.int .u64 (k : Int)) (Quiet.pure (fun _ => by kernel_rfl)) ?_
  refine Sy.step (by kernel_rfl) (.agg #[.int .u64 (k : Int), .int .u64 0, .int .u64 0, .int .u64 0]) (Quiet.pure (fun _ => by kernel_rfl)) ?_
  refine Sy.write (by kernel_rfl) 0 g0 56 (fcs 0) #[.int .u64 (k : Int), .int .u64 0, .int .u64 0, .int .u64 0] (by kernel_rfl) (Writes.store 0 56 #[.int .u64 (k : Int), .int .u64 0, .int .u64 0, .int .u64 0] _ _ rfl (by kernel_rfl) (by kernel_rfl) (by kernel_rfl) (Nat.le_of_ble_eq_true (by kernel_rfl)) (by kernel_rfl) (by kernel_rfl)) ?_
  refine Sy.nil ?_
  refine Sy.then_ ?_
  refine Sy.ret ?_
  exact Sy.ret1 rfl (.inl (Res.cell (ty' := 56) g0 0 #[.int .u64 (k : Int), .int .u64 0, .int .u64 0, .int .u64 0] _ (by kernel_rfl) (by kernel_rfl) Try.underlying56 rfl (by kernel_rfl) (by kernel_rfl)))
set_option maxHeartbeats 4000000 in
set_option maxRecDepth 100000 in
theorem mulR_c (w : World) (a b : Fp) : Calls Try.prog 37 #[fv a.val, fv b.val] w (Gets w (fv (a * b).val)) := by
  refine Sy.enter (args := [fv a.val, fv b.val]) Try.func37 rfl (Nat.le_of_ble_eq_true (by kernel_rfl)) ?_
  refine Sy.seq ?_
  refine Sy.region ?_
  refine Sy.make (by kernel_rfl) 56 (fcs a.val) ptr (fun _ => by kernel_rfl) (fun g0 => ?_)
  refine Sy.make (by kernel_rfl) 56 (fcs b.val) ptr (fun _ => by kernel_rfl) (fun g1 => ?_)
  refine Sy.make (by kernel_rfl) 56 (fcs 0) ptr (fun _ => by kernel_rfl) (fun g2 => ?_)
  refine Sy.nil ?_
  refine Sy.then_ ?_
  refine Sy.seq ?_
  refine Sy.regionD (fun j => j == 4) (by kernel_rfl) ?_
  refine Sy.stepD 0 rfl (by kernel_rfl) (fun _ _ _ _ h => h) (by kernel_rfl) (.agg modcs) (Quiet.call 36 #[] (fun _ => by kernel_rfl) (refP_any)) ?_
  refine Sy.stepD 1 rfl (by kernel_rfl) (fun _ _ _ _ h => h) (by kernel_rfl) (fv a.val) (Quiet.load 0 g0 0 4 56 56 (fcs a.val) _ _ rfl (by kernel_rfl) (by kernel_rfl) Try.underlying56 rfl (by kernel_rfl) _ (by kernel_rfl) (Nat.le_of_ble_eq_true (by kernel_rfl))) ?_
  refine Sy.stepD 2 rfl (by kernel_rfl) (fun _ _ _ _ h => h) (by kernel_rfl) (fv b.val) (Quiet.load 1 g1 0 4 56 56 (fcs b.val) _ _ rfl (by kernel_rfl) (by kernel_rfl) Try.underlying56 rfl (by kernel_rfl) _ (by kernel_rfl) (Nat.le_of_ble_eq_true (by kernel_rfl))) ?_
  obtain ⟨z1, hz1⟩ : ∃ z : Fp, z = a * b := ⟨_, rfl⟩
  refine Sy.stepD 3 rfl (by kernel_rfl) (fun _ _ _ _ h => h) (by kernel_rfl) (fv z1.val) (Quiet.call 57 #[.agg modcs, fv a.val, fv b.val] (fun _ => by kernel_rfl) (fun w => by rw [hz1]; exact refmul_c w a b)) ?_
  refine Sy.writeD 4 rfl (by kernel_rfl) (by rfl) (by kernel_rfl) 2 g2 56 (fcs 0) (fcs z1.val) (by kernel_rfl) (Writes.store 0 56 (fcs z1.val) _ _ rfl (by kernel_rfl) (by kernel_rfl) (by kernel_rfl) (Nat.le_of_ble_eq_true (by kernel_rfl)) (by kernel_rfl) (by kernel_rfl)) ?_
  refine Sy.doneD (by kernel_rfl) ?_
  refine Sy.then_ ?_
  refine Sy.ret ?_
  rw [show (fv (a * b).val : Value) = fv z1.val from by rw [hz1]]
  exact Sy.ret1 (v := fv z1.val) rfl (.inl (Res.cell (ty' := 56) g2 2 (fcs z1.val) _ (by kernel_rfl) (by kernel_rfl) Try.underlying56 rfl (by kernel_rfl) (by kernel_rfl)))
set_option maxHeartbeats 4000000 in
set_option maxRecDepth 100000 in
theorem addR_c (w : World) (a b : Fp) : Calls Try.prog 64 #[fv a.val, fv b.val] w (Gets w (fv (a + b).val)) := by
  refine Sy.enter (args := [fv a.val, fv b.val]) Try.func64 rfl (Nat.le_of_ble_eq_true (by kernel_rfl)) ?_
  refine Sy.seq ?_
  refine Sy.region ?_
  refine Sy.make (by kernel_rfl) 56 (fcs a.val) ptr (fun _ => by kernel_rfl) (fun g0 => ?_)
  refine Sy.make (by kernel_rfl) 56 (fcs b.val) ptr (fun _ => by kernel_rfl) (fun g1 => ?_)
  refine Sy.make (by kernel_rfl) 56 (fcs 0) ptr (fun _ => by kernel_rfl) (fun g2 => ?_)
  refine Sy.nil ?_
  refine Sy.then_ ?_
  refine Sy.seq ?_
  refine Sy.regionD (fun j => j == 4) (by kernel_rfl) ?_
  refine Sy.stepD 0 rfl (by kernel_rfl) (fun _ _ _ _ h => h) (by kernel_rfl) (.agg modcs) (Quiet.call 36 #[] (fun _ => by kernel_rfl) (refP_any)) ?_
  refine Sy.stepD 1 rfl (by kernel_rfl) (fun _ _ _ _ h => h) (by kernel_rfl) (fv a.val) (Quiet.load 0 g0 0 4 56 56 (fcs a.val) _ _ rfl (by kernel_rfl) (by kernel_rfl) Try.underlying56 rfl (by kernel_rfl) _ (by kernel_rfl) (Nat.le_of_ble_eq_true (by kernel_rfl))) ?_
  refine Sy.stepD 2 rfl (by kernel_rfl) (fun _ _ _ _ h => h) (by kernel_rfl) (fv b.val) (Quiet.load 1 g1 0 4 56 56 (fcs b.val) _ _ rfl (by kernel_rfl) (by kernel_rfl) Try.underlying56 rfl (by kernel_rfl) _ (by kernel_rfl) (Nat.le_of_ble_eq_true (by kernel_rfl))) ?_
  obtain ⟨z1, hz1⟩ : ∃ z : Fp, z = a + b := ⟨_, rfl⟩
  refine Sy.stepD 3 rfl (by kernel_rfl) (fun _ _ _ _ h => h) (by kernel_rfl) (fv z1.val) (Quiet.call 56 #[.agg modcs, fv a.val, fv b.val] (fun _ => by kernel_rfl) (fun w => by rw [hz1]; exact refadd_c w a b)) ?_
  refine Sy.writeD 4 rfl (by kernel_rfl) (by rfl) (by kernel_rfl) 2 g2 56 (fcs 0) (fcs z1.val) (by kernel_rfl) (Writes.store 0 56 (fcs z1.val) _ _ rfl (by kernel_rfl) (by kernel_rfl) (by kernel_rfl) (Nat.le_of_ble_eq_true (by kernel_rfl)) (by kernel_rfl) (by kernel_rfl)) ?_
  refine Sy.doneD (by kernel_rfl) ?_
  refine Sy.then_ ?_
  refine Sy.ret ?_
  rw [show (fv (a + b).val : Value) = fv z1.val from by rw [hz1]]
  exact Sy.ret1 (v := fv z1.val) rfl (.inl (Res.cell (ty' := 56) g2 2 (fcs z1.val) _ (by kernel_rfl) (by kernel_rfl) Try.underlying56 rfl (by kernel_rfl) (by kernel_rfl)))
set_option maxHeartbeats 4000000 in
set_option maxRecDepth 100000 in
theorem zeroR_c (w : World)  : Calls Try.prog 34 #[] w (Gets w (pv 0 0 true)) := by
  refine Sy.enter (args := []) Try.func34 rfl (Nat.le_of_ble_eq_true (by kernel_rfl)) ?_
  refine Sy.seq ?_
  refine Sy.region ?_
  refine Sy.make (by kernel_rfl) 27 (pcs 0 0 false) ptr (fun _ => by kernel_rfl) (fun g0 => ?_)
  refine Sy.nil ?_
  refine Sy.then_ ?_
  refine Sy.seq ?_
  refine Sy.region ?_
  refine Sy.step (by kernel_rfl) (pv 0 0 true) (Quiet.pure (fun _ => by kernel_rfl)) ?_
  refine Sy.write (by kernel_rfl) 0 g0 27 (pcs 0 0 false) (pcs 0 0 true) (by kernel_rfl) (Writes.store 0 27 (pcs 0 0 true) _ _ rfl (by kernel_rfl) (by kernel_rfl) (by kernel_rfl) (Nat.le_of_ble_eq_true (by kernel_rfl)) (by kernel_rfl) (by kernel_rfl)) ?_
  refine Sy.nil ?_
  refine Sy.then_ ?_
  refine Sy.ret ?_
  exact Sy.ret1 (v := pv 0 0 true) rfl (.inl (Res.cell (ty' := 27) g0 0 (pcs 0 0 true) _ (by kernel_rfl) (by kernel_rfl) Try.underlying27 rfl (by kernel_rfl) (by kernel_rfl)))
set_option maxHeartbeats 4000000 in
set_option maxRecDepth 100000 in
theorem baseR_c (w : World)  : Calls Try.prog 24 #[] w (Gets w (ptv bP)) := by
  refine Sy.enter (args := []) Try.func24 rfl (Nat.le_of_ble_eq_true (by kernel_rfl)) ?_
  refine Sy.seq ?_
  refine Sy.region ?_
  refine Sy.make (by kernel_rfl) 27 (pcs 0 0 false) ptr (fun _ => by kernel_rfl) (fun g0 => ?_)
  refine Sy.nil ?_
  refine Sy.then_ ?_
  refine Sy.seq ?_
  refine Sy.region ?_
  refine Sy.step (by kernel_rfl) (fv 55066263022277343669578718895168534326250603453777594175500187360389116729240) (Quiet.pure (fun _ => by kernel_rfl)) ?_
  refine Sy.step (by kernel_rfl) (fv 32670510020758816978083085130507043184471273380659243275938904335757337482424) (Quiet.pure (fun _ => by kernel_rfl)) ?_
  refine Sy.step (by kernel_rfl) (pv 55066263022277343669578718895168534326250603453777594175500187360389116729240 32670510020758816978083085130507043184471273380659243275938904335757337482424 false) (Quiet.pure (fun _ => by kernel_rfl)) ?_
  refine Sy.write (by kernel_rfl) 0 g0 27 (pcs 0 0 false) (pcs 55066263022277343669578718895168534326250603453777594175500187360389116729240 32670510020758816978083085130507043184471273380659243275938904335757337482424 false) (by kernel_rfl) (Writes.store 0 27 (pcs 55066263022277343669578718895168534326250603453777594175500187360389116729240 32670510020758816978083085130507043184471273380659243275938904335757337482424 false) _ _ rfl (by kernel_rfl) (by kernel_rfl) (by kernel_rfl) (Nat.le_of_ble_eq_true (by kernel_rfl)) (by kernel_rfl) (by kernel_rfl)) ?_
  refine Sy.nil ?_
  refine Sy.then_ ?_
  refine Sy.ret ?_
  rw [show (ptv bP : Value) = pv 55066263022277343669578718895168534326250603453777594175500187360389116729240 32670510020758816978083085130507043184471273380659243275938904335757337482424 false from by kernel_rfl]
  exact Sy.ret1 (v := pv 55066263022277343669578718895168534326250603453777594175500187360389116729240 32670510020758816978083085130507043184471273380659243275938904335757337482424 false) rfl (.inl (Res.cell (ty' := 27) g0 0 (pcs 55066263022277343669578718895168534326250603453777594175500187360389116729240 32670510020758816978083085130507043184471273380659243275938904335757337482424 false) _ (by kernel_rfl) (by kernel_rfl) Try.underlying27 rfl (by kernel_rfl) (by kernel_rfl)))
set_option maxHeartbeats 4000000 in
set_option maxRecDepth 100000 in
theorem cubeR_c (w : World) (x : Fp) : Calls Try.prog 89 #[fv x.val] w (Gets w (fv (x * x * x + 7).val)) := by
  refine Sy.enter (args := [fv x.val]) Try.func89 rfl (Nat.le_of_ble_eq_true (by kernel_rfl)) ?_
  refine Sy.seq ?_
  refine Sy.region ?_
  refine Sy.make (by kernel_rfl) 56 (fcs x.val) ptr (fun _ => by kernel_rfl) (fun g0 => ?_)
  refine Sy.make (by kernel_rfl) 56 (fcs 0) ptr (fun _ => by kernel_rfl) (fun g1 => ?_)
  refine Sy.nil ?_
  refine Sy.then_ ?_
  refine Sy.seq ?_
  refine Sy.regionD (fun j => j == 7) (by kernel_rfl) ?_
  refine Sy.stepD 0 rfl (by kernel_rfl) (fun _ _ _ _ h => h) (by kernel_rfl) (fv x.val) (Quiet.load 0 g0 0 4 56 56 (fcs x.val) _ _ rfl (by kernel_rfl) (by kernel_rfl) Try.underlying56 rfl (by kernel_rfl) _ (by kernel_rfl) (Nat.le_of_ble_eq_true (by kernel_rfl))) ?_
  refine Sy.stepD 1 rfl (by kernel_rfl) (fun _ _ _ _ h => h) (by kernel_rfl) (fv x.val) (Quiet.load 0 g0 0 4 56 56 (fcs x.val) _ _ rfl (by kernel_rfl) (by kernel_rfl) Try.underlying56 rfl (by kernel_rfl) _ (by kernel_rfl) (Nat.le_of_ble_eq_true (by kernel_rfl))) ?_
  refine Sy.stepD 2 rfl (by kernel_rfl) (fun _ _ _ _ h => h) (by kernel_rfl) (fv x.val) (Quiet.load 0 g0 0 4 56 56 (fcs x.val) _ _ rfl (by kernel_rfl) (by kernel_rfl) Try.underlying56 rfl (by kernel_rfl) _ (by kernel_rfl) (Nat.le_of_ble_eq_true (by kernel_rfl))) ?_
  obtain ⟨z1, hz1⟩ : ∃ z : Fp, z = x * x := ⟨_, rfl⟩
  refine Sy.stepD 3 rfl (by kernel_rfl) (fun _ _ _ _ h => h) (by kernel_rfl) (fv z1.val) (Quiet.call 37 #[fv x.val, fv x.val] (fun _ => by kernel_rfl) (fun w => by rw [hz1]; exact mulR_c w x x)) ?_
  obtain ⟨z2, hz2⟩ : ∃ z : Fp, z = x * z1 := ⟨_, rfl⟩
  refine Sy.stepD 4 rfl (by kernel_rfl) (fun _ _ _ _ h => h) (by kernel_rfl) (fv z2.val) (Quiet.call 37 #[fv x.val, fv z1.val] (fun _ => by kernel_rfl) (fun w => by rw [hz2]; exact mulR_c w x z1)) ?_
  obtain ⟨z3, hz3⟩ : ∃ z : Fp, z = (7 : Fp) := ⟨_, rfl⟩
  refine Sy.stepD 5 rfl (by kernel_rfl) (fun _ _ _ _ h => h) (by kernel_rfl) (fv z3.val) (Quiet.call 66 #[.int .u64 7] (fun _ => by kernel_rfl) (fun w => by rw [hz3]; exact small_c w 7 (by decide))) ?_
  obtain ⟨z4, hz4⟩ : ∃ z : Fp, z = z2 + z3 := ⟨_, rfl⟩
  refine Sy.stepD 6 rfl (by kernel_rfl) (fun _ _ _ _ h => h) (by kernel_rfl) (fv z4.val) (Quiet.call 64 #[fv z2.val, fv z3.val] (fun _ => by kernel_rfl) (fun w => by rw [hz4]; exact addR_c w z2 z3)) ?_
  refine Sy.writeD 7 rfl (by kernel_rfl) (by rfl) (by kernel_rfl) 1 g1 56 (fcs 0) (fcs z4.val) (by kernel_rfl) (Writes.store 0 56 (fcs z4.val) _ _ rfl (by kernel_rfl) (by kernel_rfl) (by kernel_rfl) (Nat.le_of_ble_eq_true (by kernel_rfl)) (by kernel_rfl) (by kernel_rfl)) ?_
  refine Sy.doneD (by kernel_rfl) ?_
  refine Sy.then_ ?_
  refine Sy.ret ?_
  rw [show (fv (x * x * x + 7).val : Value) = fv z4.val from by
    refine congrArg (fun t : Fp => fv t.val) ?_
    grobner]
  exact Sy.ret1 (v := fv z4.val) rfl (.inl (Res.cell (ty' := 56) g1 1 (fcs z4.val) _ (by kernel_rfl) (by kernel_rfl) Try.underlying56 rfl (by kernel_rfl) (by kernel_rfl)))
set_option maxHeartbeats 4000000 in
set_option maxRecDepth 100000 in
theorem pointR_c (w : World) (x y : Nat) (hx : x < K4) (hy : y < K4) : Calls Try.prog 38 #[fv x, fv y] w (Gets w (pv x y false)) := by
  refine Sy.enter (args := [fv x, fv y]) Try.func38 rfl (Nat.le_of_ble_eq_true (by kernel_rfl)) ?_
  refine Sy.seq ?_
  refine Sy.region ?_
  refine Sy.make (by kernel_rfl) 56 (fcs x) ptr (fun _ => by kernel_rfl) (fun g0 => ?_)
  refine Sy.make (by kernel_rfl) 56 (fcs y) ptr (fun _ => by kernel_rfl) (fun g1 => ?_)
  refine Sy.make (by kernel_rfl) 27 (pcs 0 0 false) ptr (fun _ => by kernel_rfl) (fun g2 => ?_)
  refine Sy.nil ?_
  refine Sy.then_ ?_
  refine Sy.seq ?_
  refine Sy.regionD (fun j => j == 5) (by kernel_rfl) ?_
  refine Sy.stepD 0 rfl (by kernel_rfl) (fun _ _ _ _ h => h) (by kernel_rfl) (fv x) (Quiet.load 0 g0 0 4 56 56 (fcs x) _ _ rfl (by kernel_rfl) (by kernel_rfl) Try.underlying56 rfl (by kernel_rfl) _ (by kernel_rfl) (Nat.le_of_ble_eq_true (by kernel_rfl))) ?_
  refine Sy.stepD 1 rfl (by kernel_rfl) (fun _ _ _ _ h => h) (by kernel_rfl) (fv x) (Quiet.call 68 #[fv x] (fun _ => by kernel_rfl) (fun w => refFe_any w x (by first | assumption | exact lt4 _ | decide +kernel))) ?_
  refine Sy.stepD 2 rfl (by kernel_rfl) (fun _ _ _ _ h => h) (by kernel_rfl) (fv y) (Quiet.load 1 g1 0 4 56 56 (fcs y) _ _ rfl (by kernel_rfl) (by kernel_rfl) Try.underlying56 rfl (by kernel_rfl) _ (by kernel_rfl) (Nat.le_of_ble_eq_true (by kernel_rfl))) ?_
  refine Sy.stepD 3 rfl (by kernel_rfl) (fun _ _ _ _ h => h) (by kernel_rfl) (fv y) (Quiet.call 68 #[fv y] (fun _ => by kernel_rfl) (fun w => refFe_any w y (by first | assumption | exact lt4 _ | decide +kernel))) ?_
  refine Sy.stepD 4 rfl (by kernel_rfl) (fun _ _ _ _ h => h) (by kernel_rfl) (pv x y false) (Quiet.pure (fun _ => by kernel_rfl)) ?_
  refine Sy.writeD 5 rfl (by kernel_rfl) (by rfl) (by kernel_rfl) 2 g2 27 (pcs 0 0 false) (pcs x y false) (by kernel_rfl) (Writes.store 0 27 (pcs x y false) _ _ rfl (by kernel_rfl) (by kernel_rfl) (by kernel_rfl) (Nat.le_of_ble_eq_true (by kernel_rfl)) (by kernel_rfl) (by kernel_rfl)) ?_
  refine Sy.doneD (by kernel_rfl) ?_
  refine Sy.then_ ?_
  refine Sy.ret ?_
  exact Sy.ret1 (v := pv x y false) rfl (.inl (Res.cell (ty' := 27) g2 2 (pcs x y false) _ (by kernel_rfl) (by kernel_rfl) Try.underlying27 rfl (by kernel_rfl) (by kernel_rfl)))
set_option maxHeartbeats 4000000 in
set_option maxRecDepth 100000 in
theorem rightR_b (w : World) (x y : Nat) (i : Bool) (hx : x < K4) (hy : y < K4) : Calls Try.prog 61 #[pv x y i] w (Gets w (.bool (rightB x y i))) := by
  refine Sy.enter (args := [pv x y i]) Try.func61 rfl (Nat.le_of_ble_eq_true (by kernel_rfl)) ?_
  refine Sy.seq ?_
  refine Sy.region ?_
  refine Sy.make (by kernel_rfl) 27 (pcs x y i) ptr (fun _ => by kernel_rfl) (fun g0 => ?_)
  refine Sy.step (by kernel_rfl) (.bool false) (Quiet.pure (fun _ => by kernel_rfl)) ?_
  refine Sy.nil ?_
  refine Sy.then_ ?_
  refine Sy.seq ?_
  refine Sy.seq ?_
  refine Sy.region ?_
  refine Sy.step (by kernel_rfl) (.pointer (some ⟨g0, 8, none⟩)) (Quiet.pure (fun _ => by kernel_rfl)) ?_
  refine Sy.step (by kernel_rfl) (.bool i) (Quiet.cell 0 g0 8 27 4 (pcs x y i) _ _ rfl (by kernel_rfl) (by kernel_rfl) Try.underlying4 rfl _ (by kernel_rfl)) ?_
  refine Sy.nil ?_
  refine Sy.then_ ?_
  cases i
  · refine Sy.cond_f (by kernel_rfl) (by kernel_rfl) ?_
    refine Sy.skip ?_
    refine Sy.then_ ?_
    refine Sy.seq ?_
    refine Sy.region ?_
    refine Sy.step (by kernel_rfl) (.pointer (some ⟨g0, 0, none⟩)) (Quiet.pure (fun _ => by kernel_rfl)) ?_
    refine Sy.step (by kernel_rfl) (fv x) (Quiet.load 0 g0 0 4 27 25 (pcs x y false) _ _ rfl (by kernel_rfl) (by kernel_rfl) Try.underlying25 rfl (by kernel_rfl) _ (by kernel_rfl) (Nat.le_of_ble_eq_true (by kernel_rfl))) ?_
    refine Sy.step (by kernel_rfl) (fv x) (Quiet.call 31 #[fv x] (fun _ => by kernel_rfl) (fun w => refOf_any w x (by first | assumption | exact lt4 _ | decide +kernel))) ?_
    refine Sy.make (by kernel_rfl) 56 (fcs 0) ptr (fun _ => by kernel_rfl) (fun g1 => ?_)
    refine Sy.write (by kernel_rfl) 1 g1 56 (fcs 0) (fcs x) (by kernel_rfl) (Writes.store 0 56 (fcs x) _ _ rfl (by kernel_rfl) (by kernel_rfl) (by kernel_rfl) (Nat.le_of_ble_eq_true (by kernel_rfl)) (by kernel_rfl) (by kernel_rfl)) ?_
    refine Sy.nil ?_
    refine Sy.then_ ?_
    refine Sy.seq ?_
    refine Sy.region ?_
    refine Sy.step (by kernel_rfl) (.pointer (some ⟨g0, 4, none⟩)) (Quiet.pure (fun _ => by kernel_rfl)) ?_
    refine Sy.step (by kernel_rfl) (fv y) (Quiet.load 0 g0 4 4 27 25 (pcs x y false) _ _ rfl (by kernel_rfl) (by kernel_rfl) Try.underlying25 rfl (by kernel_rfl) _ (by kernel_rfl) (Nat.le_of_ble_eq_true (by kernel_rfl))) ?_
    refine Sy.step (by kernel_rfl) (fv y) (Quiet.call 31 #[fv y] (fun _ => by kernel_rfl) (fun w => refOf_any w y (by first | assumption | exact lt4 _ | decide +kernel))) ?_
    refine Sy.make (by kernel_rfl) 56 (fcs 0) ptr (fun _ => by kernel_rfl) (fun g2 => ?_)
    refine Sy.write (by kernel_rfl) 2 g2 56 (fcs 0) (fcs y) (by kernel_rfl) (Writes.store 0 56 (fcs y) _ _ rfl (by kernel_rfl) (by kernel_rfl) (by kernel_rfl) (Nat.le_of_ble_eq_true (by kernel_rfl)) (by kernel_rfl) (by kernel_rfl)) ?_
    refine Sy.nil ?_
    refine Sy.then_ ?_
    refine Sy.seq ?_
    refine Sy.region ?_
    refine Sy.step (by kernel_rfl) (.agg modcs) (Quiet.call 36 #[] (fun _ => by kernel_rfl) (refP_any)) ?_
    refine Sy.make (by kernel_rfl) 60 mod0 ptr (fun _ => by kernel_rfl) (fun g3 => ?_)
    refine Sy.write (by kernel_rfl) 3 g3 60 mod0 modcs (by kernel_rfl) (Writes.store 0 60 modcs _ _ rfl (by kernel_rfl) (by kernel_rfl) (by kernel_rfl) (Nat.le_of_ble_eq_true (by kernel_rfl)) (by kernel_rfl) (by kernel_rfl)) ?_
    refine Sy.nil ?_
    refine Sy.then_ ?_
    refine Sy.seq ?_
    refine Sy.region ?_
    refine Sy.step (by kernel_rfl) (.agg modcs) (Quiet.load 3 g3 0 7 60 60 modcs _ _ rfl (by kernel_rfl) (by kernel_rfl) Try.underlying60 rfl (by kernel_rfl) _ (by kernel_rfl) (Nat.le_of_ble_eq_true (by kernel_rfl))) ?_
    refine Sy.step (by kernel_rfl) (fv x) (Quiet.load 1 g1 0 4 56 56 (fcs x) _ _ rfl (by kernel_rfl) (by kernel_rfl) Try.underlying56 rfl (by kernel_rfl) _ (by kernel_rfl) (Nat.le_of_ble_eq_true (by kernel_rfl))) ?_
    obtain ⟨b1, hb1⟩ : ∃ z : Bool, z = decide (x < pM) := ⟨_, rfl⟩
    refine Sy.step (by kernel_rfl) (.bool b1) (Quiet.call 90 #[.agg modcs, fv x] (fun _ => by kernel_rfl) (fun w => by rw [hb1]; exact rightR_any w x (by first | assumption | exact lt4 _ | decide +kernel))) ?_
    refine Sy.step (by kernel_rfl) (.bool b1) (Quiet.pure (fun _ => by kernel_rfl)) ?_
    refine Sy.nil ?_
    refine Sy.then_ ?_
    refine Sy.seq ?_
    refine Sy.region ?_
    refine Sy.step (by kernel_rfl) (.agg modcs) (Quiet.load 3 g3 0 7 60 60 modcs _ _ rfl (by kernel_rfl) (by kernel_rfl) Try.underlying60 rfl (by kernel_rfl) _ (by kernel_rfl) (Nat.le_of_ble_eq_true (by kernel_rfl))) ?_
    refine Sy.step (by kernel_rfl) (fv y) (Quiet.load 2 g2 0 4 56 56 (fcs y) _ _ rfl (by kernel_rfl) (by kernel_rfl) Try.underlying56 rfl (by kernel_rfl) _ (by kernel_rfl) (Nat.le_of_ble_eq_true (by kernel_rfl))) ?_
    obtain ⟨b2, hb2⟩ : ∃ z : Bool, z = decide (y < pM) := ⟨_, rfl⟩
    refine Sy.step (by kernel_rfl) (.bool b2) (Quiet.call 90 #[.agg modcs, fv y] (fun _ => by kernel_rfl) (fun w => by rw [hb2]; exact rightR_any w y (by first | assumption | exact lt4 _ | decide +kernel))) ?_
    refine Sy.step (by kernel_rfl) (.bool b2) (Quiet.pure (fun _ => by kernel_rfl)) ?_
    refine Sy.nil ?_
    refine Sy.then_ ?_
    refine Sy.seq ?_
    refine Sy.regionD (fun j => false) (by kernel_rfl) ?_
    refine Sy.stepD 0 rfl (by kernel_rfl) (fun _ _ _ _ h => h) (by kernel_rfl) (.bool b1) (Quiet.pure (fun _ => by kernel_rfl)) ?_
    refine Sy.stepD 1 rfl (by kernel_rfl) (fun _ _ _ _ h => h) (by kernel_rfl) (.bool b1) (Quiet.pure (fun _ => by kernel_rfl)) ?_
    cases b1
    · refine Sy.passD 2 rfl (by kernel_rfl) (fun _ _ _ _ h => h) (by kernel_rfl) (by kernel_rfl) ?_
      refine Sy.stepD 3 rfl (by kernel_rfl) (fun _ _ _ _ h => h) (by kernel_rfl) (.bool false) (Quiet.pure (fun _ => by kernel_rfl)) ?_
      refine Sy.stepD 4 rfl (by kernel_rfl) (fun _ _ _ _ h => h) (by kernel_rfl) (.bool false) (Quiet.pure (fun _ => by kernel_rfl)) ?_
      refine Sy.passD 5 rfl (by kernel_rfl) (fun _ _ _ _ h => h) (by kernel_rfl) (by kernel_rfl) ?_
      refine Sy.passD 6 rfl (by kernel_rfl) (fun _ _ _ _ h => h) (by kernel_rfl) (by kernel_rfl) ?_
      refine Sy.passD 7 rfl (by kernel_rfl) (fun _ _ _ _ h => h) (by kernel_rfl) (by kernel_rfl) ?_
      refine Sy.passD 8 rfl (by kernel_rfl) (fun _ _ _ _ h => h) (by kernel_rfl) (by kernel_rfl) ?_
      refine Sy.passD 9 rfl (by kernel_rfl) (fun _ _ _ _ h => h) (by kernel_rfl) (by kernel_rfl) ?_
      refine Sy.passD 10 rfl (by kernel_rfl) (fun _ _ _ _ h => h) (by kernel_rfl) (by kernel_rfl) ?_
      refine Sy.stepD 11 rfl (by kernel_rfl) (fun _ _ _ _ h => h) (by kernel_rfl) (.bool false) (Quiet.pure (fun _ => by kernel_rfl)) ?_
      refine Sy.stepD 12 rfl (by kernel_rfl) (fun _ _ _ _ h => h) (by kernel_rfl) (.bool false) (Quiet.pure (fun _ => by kernel_rfl)) ?_
      refine Sy.doneD (by kernel_rfl) ?_
      refine Sy.then_ ?_
      refine Sy.ret ?_
      rw [show (.bool (rightB x y false) : Value) = .bool false from by rw [rb_x (of_decide_eq_false hb1.symm)]]
      exact Sy.ret1 (v := .bool false) rfl (.inl (show _ = _ by kernel_rfl))
    · obtain ⟨ux, rfl⟩ : ∃ u : Fp, x = u.val := ⟨⟨x, of_decide_eq_true hb1.symm⟩, rfl⟩
      refine Sy.stepD 2 rfl (by kernel_rfl) (fun _ _ _ _ h => h) (by kernel_rfl) (.bool b2) (Quiet.pure (fun _ => by kernel_rfl)) ?_
      refine Sy.stepD 3 rfl (by kernel_rfl) (fun _ _ _ _ h => h) (by kernel_rfl) (.bool b2) (Quiet.pure (fun _ => by kernel_rfl)) ?_
      refine Sy.stepD 4 rfl (by kernel_rfl) (fun _ _ _ _ h => h) (by kernel_rfl) (.bool b2) (Quiet.pure (fun _ => by kernel_rfl)) ?_
      cases b2
      · refine Sy.passD 5 rfl (by kernel_rfl) (fun _ _ _ _ h => h) (by kernel_rfl) (by kernel_rfl) ?_
        refine Sy.passD 6 rfl (by kernel_rfl) (fun _ _ _ _ h => h) (by kernel_rfl) (by kernel_rfl) ?_
        refine Sy.passD 7 rfl (by kernel_rfl) (fun _ _ _ _ h => h) (by kernel_rfl) (by kernel_rfl) ?_
        refine Sy.passD 8 rfl (by kernel_rfl) (fun _ _ _ _ h => h) (by kernel_rfl) (by kernel_rfl) ?_
        refine Sy.passD 9 rfl (by kernel_rfl) (fun _ _ _ _ h => h) (by kernel_rfl) (by kernel_rfl) ?_
        refine Sy.passD 10 rfl (by kernel_rfl) (fun _ _ _ _ h => h) (by kernel_rfl) (by kernel_rfl) ?_
        refine Sy.stepD 11 rfl (by kernel_rfl) (fun _ _ _ _ h => h) (by kernel_rfl) (.bool false) (Quiet.pure (fun _ => by kernel_rfl)) ?_
        refine Sy.stepD 12 rfl (by kernel_rfl) (fun _ _ _ _ h => h) (by kernel_rfl) (.bool false) (Quiet.pure (fun _ => by kernel_rfl)) ?_
        refine Sy.doneD (by kernel_rfl) ?_
        refine Sy.then_ ?_
        refine Sy.ret ?_
        rw [show (.bool (rightB ux.val y false) : Value) = .bool false from by rw [rb_y (of_decide_eq_false hb2.symm)]]
        exact Sy.ret1 (v := .bool false) rfl (.inl (show _ = _ by kernel_rfl))
      · obtain ⟨uy, rfl⟩ : ∃ u : Fp, y = u.val := ⟨⟨y, of_decide_eq_true hb2.symm⟩, rfl⟩
        refine Sy.stepD 5 rfl (by kernel_rfl) (fun _ _ _ _ h => h) (by kernel_rfl) (fv uy.val) (Quiet.load 2 g2 0 4 56 56 (fcs uy.val) _ _ rfl (by kernel_rfl) (by kernel_rfl) Try.underlying56 rfl (by kernel_rfl) _ (by kernel_rfl) (Nat.le_of_ble_eq_true (by kernel_rfl))) ?_
        refine Sy.stepD 6 rfl (by kernel_rfl) (fun _ _ _ _ h => h) (by kernel_rfl) (fv uy.val) (Quiet.load 2 g2 0 4 56 56 (fcs uy.val) _ _ rfl (by kernel_rfl) (by kernel_rfl) Try.underlying56 rfl (by kernel_rfl) _ (by kernel_rfl) (Nat.le_of_ble_eq_true (by kernel_rfl))) ?_
        obtain ⟨z1, hz1⟩ : ∃ z : Fp, z = uy * uy := ⟨_, rfl⟩
        refine Sy.stepD 7 rfl (by kernel_rfl) (fun _ _ _ _ h => h) (by kernel_rfl) (fv z1.val) (Quiet.call 37 #[fv uy.val, fv uy.val] (fun _ => by kernel_rfl) (fun w => by rw [hz1]; exact mulR_c w uy uy)) ?_
        refine Sy.stepD 8 rfl (by kernel_rfl) (fun _ _ _ _ h => h) (by kernel_rfl) (fv ux.val) (Quiet.load 1 g1 0 4 56 56 (fcs ux.val) _ _ rfl (by kernel_rfl) (by kernel_rfl) Try.underlying56 rfl (by kernel_rfl) _ (by kernel_rfl) (Nat.le_of_ble_eq_true (by kernel_rfl))) ?_
        obtain ⟨z2, hz2⟩ : ∃ z : Fp, z = ux * ux * ux + 7 := ⟨_, rfl⟩
        refine Sy.stepD 9 rfl (by kernel_rfl) (fun _ _ _ _ h => h) (by kernel_rfl) (fv z2.val) (Quiet.call 89 #[fv ux.val] (fun _ => by kernel_rfl) (fun w => by rw [hz2]; exact cubeR_c w ux)) ?_
        obtain ⟨b3, hb3⟩ : ∃ z : Bool, z = decide (z1.val = z2.val) := ⟨_, rfl⟩
        refine Sy.stepD 10 rfl (by kernel_rfl) (fun _ _ _ _ h => h) (by kernel_rfl) (.bool b3) (Quiet.pure (fun w => by rw [hb3]; exact eql_num w _ _ _ _ _ _ rfl rfl rfl (by first | assumption | exact lt4 _ | decide +kernel) (by first | assumption | exact lt4 _ | decide +kernel))) ?_
        refine Sy.stepD 11 rfl (by kernel_rfl) (fun _ _ _ _ h => h) (by kernel_rfl) (.bool b3) (Quiet.pure (fun _ => by kernel_rfl)) ?_
        refine Sy.stepD 12 rfl (by kernel_rfl) (fun _ _ _ _ h => h) (by kernel_rfl) (.bool b3) (Quiet.pure (fun _ => by kernel_rfl)) ?_
        refine Sy.doneD (by kernel_rfl) ?_
        refine Sy.then_ ?_
        refine Sy.ret ?_
        rw [show (.bool (rightB ux.val uy.val false) : Value) = .bool b3 from by rw [hb3, rb_xy]; simp only [hz2, hz1]]
        exact Sy.ret1 (v := .bool b3) rfl (.inl (show _ = _ by kernel_rfl))
  · refine Sy.cond_t (by kernel_rfl) (by kernel_rfl) ?_
    refine Sy.seq ?_
    refine Sy.regionD (fun j => false) (by kernel_rfl) ?_
    refine Sy.stepD 0 rfl (by kernel_rfl) (fun _ _ _ _ h => h) (by kernel_rfl) (pv x y true) (Quiet.load 0 g0 0 9 27 27 (pcs x y true) _ _ rfl (by kernel_rfl) (by kernel_rfl) Try.underlying27 rfl (by kernel_rfl) _ (by kernel_rfl) (Nat.le_of_ble_eq_true (by kernel_rfl))) ?_
    refine Sy.stepD 1 rfl (by kernel_rfl) (fun _ _ _ _ h => h) (by kernel_rfl) (pv 0 0 true) (Quiet.call 34 #[] (fun _ => by kernel_rfl) (zeroR_c)) ?_
    obtain ⟨b4, hb4⟩ : ∃ z : Bool, z = sameB x y true 0 0 true := ⟨_, rfl⟩
    refine Sy.stepD 2 rfl (by kernel_rfl) (fun _ _ _ _ h => h) (by kernel_rfl) (.bool b4) (Quiet.pure (fun w => by rw [hb4]; exact eql_pt w _ _ _ _ _ _ _ _ _ _ rfl rfl rfl (by first | assumption | exact lt4 _ | decide +kernel) (by first | assumption | exact lt4 _ | decide +kernel) (by first | assumption | exact lt4 _ | decide +kernel) (by first | assumption | exact lt4 _ | decide +kernel))) ?_
    refine Sy.stepD 3 rfl (by kernel_rfl) (fun _ _ _ _ h => h) (by kernel_rfl) (.bool b4) (Quiet.pure (fun _ => by kernel_rfl)) ?_
    refine Sy.doneD (by kernel_rfl) ?_
    refine Sy.then_ ?_
    refine Sy.ret ?_
    refine Sy.then_ret ?_
    rw [show (.bool (rightB x y true) : Value) = .bool b4 from by rw [hb4, rightB_inf]]
    exact Sy.ret1 (v := .bool b4) rfl (.inl (show _ = _ by kernel_rfl))
set_option maxHeartbeats 4000000 in
set_option maxRecDepth 100000 in
theorem taken_c (w : World) (x y : Nat) (i : Bool) (hx : x < K4) (hy : y < K4) : Calls Try.prog 27 #[pv x y i] w (Gets w (ptv (dec x y i))) := by
  refine Sy.enter (args := [pv x y i]) Try.func27 rfl (Nat.le_of_ble_eq_true (by kernel_rfl)) ?_
  refine Sy.seq ?_
  refine Sy.region ?_
  refine Sy.make (by kernel_rfl) 27 (pcs x y i) ptr (fun _ => by kernel_rfl) (fun g0 => ?_)
  refine Sy.make (by kernel_rfl) 27 (pcs 0 0 false) ptr (fun _ => by kernel_rfl) (fun g1 => ?_)
  refine Sy.nil ?_
  refine Sy.then_ ?_
  refine Sy.seq ?_
  refine Sy.region ?_
  refine Sy.step (by kernel_rfl) (pv x y i) (Quiet.load 0 g0 0 9 27 27 (pcs x y i) _ _ rfl (by kernel_rfl) (by kernel_rfl) Try.underlying27 rfl (by kernel_rfl) _ (by kernel_rfl) (Nat.le_of_ble_eq_true (by kernel_rfl))) ?_
  obtain ⟨b1, hb1⟩ : ∃ z : Bool, z = rightB x y i := ⟨_, rfl⟩
  refine Sy.step (by kernel_rfl) (.bool b1) (Quiet.call 61 #[pv x y i] (fun _ => by kernel_rfl) (by rw [hb1]; exact fun w => rightR_b w x y i (by first | assumption | exact lt4 _ | decide +kernel) (by first | assumption | exact lt4 _ | decide +kernel))) ?_
  refine Sy.step (by kernel_rfl) (.bool b1) (Quiet.pure (fun _ => by kernel_rfl)) ?_
  refine Sy.nil ?_
  refine Sy.then_ ?_
  refine Sy.seq ?_
  refine Sy.seq ?_
  refine Sy.region ?_
  refine Sy.step (by kernel_rfl) (.bool b1) (Quiet.pure (fun _ => by kernel_rfl)) ?_
  cases b1
  · refine Sy.step (by kernel_rfl) (.bool true) (Quiet.pure (fun _ => by kernel_rfl)) ?_
    refine Sy.nil ?_
    refine Sy.then_ ?_
    refine Sy.cond_t (by kernel_rfl) (by kernel_rfl) ?_
    refine Sy.seq ?_
    refine Sy.region ?_
    refine Sy.step (by kernel_rfl) (pv 0 0 true) (Quiet.call 34 #[] (fun _ => by kernel_rfl) (zeroR_c)) ?_
    refine Sy.write (by kernel_rfl) 1 g1 27 (pcs 0 0 false) (pcs 0 0 true) (by kernel_rfl) (Writes.store 0 27 (pcs 0 0 true) _ _ rfl (by kernel_rfl) (by kernel_rfl) (by kernel_rfl) (Nat.le_of_ble_eq_true (by kernel_rfl)) (by kernel_rfl) (by kernel_rfl)) ?_
    refine Sy.nil ?_
    refine Sy.then_ ?_
    refine Sy.ret ?_
    refine Sy.then_ret ?_
    rw [show (ptv (dec x y i) : Value) = pv 0 0 true from ptv_wrong x y i hb1.symm]
    exact Sy.ret1 (v := pv 0 0 true) rfl (.inl (Res.cell (ty' := 27) g1 1 (pcs 0 0 true) _ (by kernel_rfl) (by kernel_rfl) Try.underlying27 rfl (by kernel_rfl) (by kernel_rfl)))
  · refine Sy.step (by kernel_rfl) (.bool false) (Quiet.pure (fun _ => by kernel_rfl)) ?_
    refine Sy.nil ?_
    refine Sy.then_ ?_
    refine Sy.cond_f (by kernel_rfl) (by kernel_rfl) ?_
    refine Sy.skip ?_
    refine Sy.then_ ?_
    refine Sy.seq ?_
    refine Sy.region ?_
    refine Sy.step (by kernel_rfl) (pv x y i) (Quiet.load 0 g0 0 9 27 27 (pcs x y i) _ _ rfl (by kernel_rfl) (by kernel_rfl) Try.underlying27 rfl (by kernel_rfl) _ (by kernel_rfl) (Nat.le_of_ble_eq_true (by kernel_rfl))) ?_
    refine Sy.write (by kernel_rfl) 1 g1 27 (pcs 0 0 false) (pcs x y i) (by kernel_rfl) (Writes.store 0 27 (pcs x y i) _ _ rfl (by kernel_rfl) (by kernel_rfl) (by kernel_rfl) (Nat.le_of_ble_eq_true (by kernel_rfl)) (by kernel_rfl) (by kernel_rfl)) ?_
    refine Sy.nil ?_
    refine Sy.then_ ?_
    refine Sy.ret ?_
    rw [show (ptv (dec x y i) : Value) = pv x y i from ptv_right x y i hb1.symm]
    exact Sy.ret1 (v := pv x y i) rfl (.inl (Res.cell (ty' := 27) g1 1 (pcs x y i) _ (by kernel_rfl) (by kernel_rfl) Try.underlying27 rfl (by kernel_rfl) (by kernel_rfl)))
set_option maxHeartbeats 4000000 in
set_option maxRecDepth 100000 in
theorem negRe_none (w : World) (x y : Nat) (i : Bool) (hx : x < K4) (hy : y < K4) (h : dec x y i = none) : Calls Try.prog 54 #[pv x y i] w (Gets w (ptv (Ec.neg none))) := by
  refine Sy.enter (args := [pv x y i]) Try.func54 rfl (Nat.le_of_ble_eq_true (by kernel_rfl)) ?_
  refine Sy.seq ?_
  refine Sy.region ?_
  refine Sy.make (by kernel_rfl) 27 (pcs x y i) ptr (fun _ => by kernel_rfl) (fun g0 => ?_)
  refine Sy.make (by kernel_rfl) 27 (pcs 0 0 false) ptr (fun _ => by kernel_rfl) (fun g1 => ?_)
  refine Sy.nil ?_
  refine Sy.then_ ?_
  refine Sy.seq ?_
  refine Sy.region ?_
  refine Sy.step (by kernel_rfl) (pv x y i) (Quiet.load 0 g0 0 9 27 27 (pcs x y i) _ _ rfl (by kernel_rfl) (by kernel_rfl) Try.underlying27 rfl (by kernel_rfl) _ (by kernel_rfl) (Nat.le_of_ble_eq_true (by kernel_rfl))) ?_
  refine Sy.step (by kernel_rfl) (pv 0 0 true) (Quiet.call 27 #[pv x y i] (fun _ => by kernel_rfl) (fun w => by have hrr := taken_c w x y i (by first | assumption | exact lt4 _ | decide +kernel) (by first | assumption | exact lt4 _ | decide +kernel); rw [h] at hrr; exact hrr)) ?_
  refine Sy.write (by kernel_rfl) 0 g0 27 (pcs x y i) (pcs 0 0 true) (by kernel_rfl) (Writes.store 0 27 (pcs 0 0 true) _ _ rfl (by kernel_rfl) (by kernel_rfl) (by kernel_rfl) (Nat.le_of_ble_eq_true (by kernel_rfl)) (by kernel_rfl) (by kernel_rfl)) ?_
  refine Sy.nil ?_
  refine Sy.then_ ?_
  refine Sy.seq ?_
  refine Sy.seq ?_
  refine Sy.region ?_
  refine Sy.step (by kernel_rfl) (.pointer (some ⟨g0, 8, none⟩)) (Quiet.pure (fun _ => by kernel_rfl)) ?_
  refine Sy.step (by kernel_rfl) (.bool true) (Quiet.cell 0 g0 8 27 4 (pcs 0 0 true) _ _ rfl (by kernel_rfl) (by kernel_rfl) Try.underlying4 rfl _ (by kernel_rfl)) ?_
  refine Sy.nil ?_
  refine Sy.then_ ?_
  refine Sy.cond_t (by kernel_rfl) (by kernel_rfl) ?_
  refine Sy.seq ?_
  refine Sy.region ?_
  refine Sy.step (by kernel_rfl) (pv 0 0 true) (Quiet.load 0 g0 0 9 27 27 (pcs 0 0 true) _ _ rfl (by kernel_rfl) (by kernel_rfl) Try.underlying27 rfl (by kernel_rfl) _ (by kernel_rfl) (Nat.le_of_ble_eq_true (by kernel_rfl))) ?_
  refine Sy.write (by kernel_rfl) 1 g1 27 (pcs 0 0 false) (pcs 0 0 true) (by kernel_rfl) (Writes.store 0 27 (pcs 0 0 true) _ _ rfl (by kernel_rfl) (by kernel_rfl) (by kernel_rfl) (Nat.le_of_ble_eq_true (by kernel_rfl)) (by kernel_rfl) (by kernel_rfl)) ?_
  refine Sy.nil ?_
  refine Sy.then_ ?_
  refine Sy.ret ?_
  refine Sy.then_ret ?_
  rw [show (ptv (Ec.neg none) : Value) = pv 0 0 true from rfl]
  exact Sy.ret1 (v := pv 0 0 true) rfl (.inl (Res.cell (ty' := 27) g1 1 (pcs 0 0 true) _ (by kernel_rfl) (by kernel_rfl) Try.underlying27 rfl (by kernel_rfl) (by kernel_rfl)))
set_option maxHeartbeats 4000000 in
set_option maxRecDepth 100000 in
theorem negRe_some (w : World) (x y : Nat) (i : Bool) (hx : x < K4) (hy : y < K4) (u v : Fp) (h : dec x y i = some (u, v)) : Calls Try.prog 54 #[pv x y i] w (Gets w (ptv (Ec.neg (some (u, v))))) := by
  refine Sy.enter (args := [pv x y i]) Try.func54 rfl (Nat.le_of_ble_eq_true (by kernel_rfl)) ?_
  refine Sy.seq ?_
  refine Sy.region ?_
  refine Sy.make (by kernel_rfl) 27 (pcs x y i) ptr (fun _ => by kernel_rfl) (fun g0 => ?_)
  refine Sy.make (by kernel_rfl) 27 (pcs 0 0 false) ptr (fun _ => by kernel_rfl) (fun g1 => ?_)
  refine Sy.nil ?_
  refine Sy.then_ ?_
  refine Sy.seq ?_
  refine Sy.region ?_
  refine Sy.step (by kernel_rfl) (pv x y i) (Quiet.load 0 g0 0 9 27 27 (pcs x y i) _ _ rfl (by kernel_rfl) (by kernel_rfl) Try.underlying27 rfl (by kernel_rfl) _ (by kernel_rfl) (Nat.le_of_ble_eq_true (by kernel_rfl))) ?_
  refine Sy.step (by kernel_rfl) (pv u.val v.val false) (Quiet.call 27 #[pv x y i] (fun _ => by kernel_rfl) (fun w => by have hrr := taken_c w x y i (by first | assumption | exact lt4 _ | decide +kernel) (by first | assumption | exact lt4 _ | decide +kernel); rw [h] at hrr; exact hrr)) ?_
  refine Sy.write (by kernel_rfl) 0 g0 27 (pcs x y i) (pcs u.val v.val false) (by kernel_rfl) (Writes.store 0 27 (pcs u.val v.val false) _ _ rfl (by kernel_rfl) (by kernel_rfl) (by kernel_rfl) (Nat.le_of_ble_eq_true (by kernel_rfl)) (by kernel_rfl) (by kernel_rfl)) ?_
  refine Sy.nil ?_
  refine Sy.then_ ?_
  refine Sy.seq ?_
  refine Sy.seq ?_
  refine Sy.region ?_
  refine Sy.step (by kernel_rfl) (.pointer (some ⟨g0, 8, none⟩)) (Quiet.pure (fun _ => by kernel_rfl)) ?_
  refine Sy.step (by kernel_rfl) (.bool false) (Quiet.cell 0 g0 8 27 4 (pcs u.val v.val false) _ _ rfl (by kernel_rfl) (by kernel_rfl) Try.underlying4 rfl _ (by kernel_rfl)) ?_
  refine Sy.nil ?_
  refine Sy.then_ ?_
  refine Sy.cond_f (by kernel_rfl) (by kernel_rfl) ?_
  refine Sy.skip ?_
  refine Sy.then_ ?_
  refine Sy.seq ?_
  refine Sy.regionD (fun j => j == 9) (by kernel_rfl) ?_
  refine Sy.stepD 0 rfl (by kernel_rfl) (fun _ _ _ _ h => h) (by kernel_rfl) (.pointer (some ⟨g0, 0, none⟩)) (Quiet.pure (fun _ => by kernel_rfl)) ?_
  refine Sy.stepD 1 rfl (by kernel_rfl) (fun _ _ _ _ h => h) (by kernel_rfl) (fv u.val) (Quiet.load 0 g0 0 4 27 25 (pcs u.val v.val false) _ _ rfl (by kernel_rfl) (by kernel_rfl) Try.underlying25 rfl (by kernel_rfl) _ (by kernel_rfl) (Nat.le_of_ble_eq_true (by kernel_rfl))) ?_
  refine Sy.stepD 2 rfl (by kernel_rfl) (fun _ _ _ _ h => h) (by kernel_rfl) (fv u.val) (Quiet.call 31 #[fv u.val] (fun _ => by kernel_rfl) (fun w => refOf_any w u.val (by first | assumption | exact lt4 _ | decide +kernel))) ?_
  refine Sy.stepD 3 rfl (by kernel_rfl) (fun _ _ _ _ h => h) (by kernel_rfl) (.agg modcs) (Quiet.call 36 #[] (fun _ => by kernel_rfl) (refP_any)) ?_
  refine Sy.stepD 4 rfl (by kernel_rfl) (fun _ _ _ _ h => h) (by kernel_rfl) (.pointer (some ⟨g0, 4, none⟩)) (Quiet.pure (fun _ => by kernel_rfl)) ?_
  refine Sy.stepD 5 rfl (by kernel_rfl) (fun _ _ _ _ h => h) (by kernel_rfl) (fv v.val) (Quiet.load 0 g0 4 4 27 25 (pcs u.val v.val false) _ _ rfl (by kernel_rfl) (by kernel_rfl) Try.underlying25 rfl (by kernel_rfl) _ (by kernel_rfl) (Nat.le_of_ble_eq_true (by kernel_rfl))) ?_
  refine Sy.stepD 6 rfl (by kernel_rfl) (fun _ _ _ _ h => h) (by kernel_rfl) (fv v.val) (Quiet.call 31 #[fv v.val] (fun _ => by kernel_rfl) (fun w => refOf_any w v.val (by first | assumption | exact lt4 _ | decide +kernel))) ?_
  obtain ⟨z1, hz1⟩ : ∃ z : Fp, z = -v := ⟨_, rfl⟩
  refine Sy.stepD 7 rfl (by kernel_rfl) (fun _ _ _ _ h => h) (by kernel_rfl) (fv z1.val) (Quiet.call 91 #[.agg modcs, fv v.val] (fun _ => by kernel_rfl) (fun w => by rw [hz1]; exact refneg_c w v)) ?_
  refine Sy.stepD 8 rfl (by kernel_rfl) (fun _ _ _ _ h => h) (by kernel_rfl) (pv u.val z1.val false) (Quiet.call 38 #[fv u.val, fv z1.val] (fun _ => by kernel_rfl) (fun w => pointR_c w u.val z1.val (by first | assumption | exact lt4 _ | decide +kernel) (by first | assumption | exact lt4 _ | decide +kernel))) ?_
  refine Sy.writeD 9 rfl (by kernel_rfl) (by rfl) (by kernel_rfl) 1 g1 27 (pcs 0 0 false) (pcs u.val z1.val false) (by kernel_rfl) (Writes.store 0 27 (pcs u.val z1.val false) _ _ rfl (by kernel_rfl) (by kernel_rfl) (by kernel_rfl) (Nat.le_of_ble_eq_true (by kernel_rfl)) (by kernel_rfl) (by kernel_rfl)) ?_
  refine Sy.doneD (by kernel_rfl) ?_
  refine Sy.then_ ?_
  refine Sy.ret ?_
  rw [show (ptv (Ec.neg (some (u, v))) : Value) = pv u.val z1.val false from by rw [hz1]; rfl]
  exact Sy.ret1 (v := pv u.val z1.val false) rfl (.inl (Res.cell (ty' := 27) g1 1 (pcs u.val z1.val false) _ (by kernel_rfl) (by kernel_rfl) Try.underlying27 rfl (by kernel_rfl) (by kernel_rfl)))
theorem negRe_any (w : World) (x y : Nat) (i : Bool) (hx : x < K4) (hy : y < K4) : Calls Try.prog 54 #[pv x y i] w (Gets w (ptv (Ec.neg (dec x y i)))) := by
  rcases h : dec x y i with _ | ⟨u, v⟩
  · exact negRe_none w x y i hx hy h
  · exact negRe_some w x y i hx hy u v h
end Go.Proofs.Ytneeefinaejgcaa.Cu

end
section
namespace Go.Proofs.Ytneeefinaejgcaa.Cu
open Go.RowKit Go.Proofs.Ytneeefinaejgcaa Go.Proofs.Ytneeefinaejgcaa.Sy

theorem eql_bool_same (w : World) (F : Slots) (o : Oper) (x y : Operand) (b : Bool) {yt : TypeId} (ho : o.op = .binOp .eql 4 x y yt) (hx : evF F x = .bool b) (hy : evF F y = .bool b) : (execOp (evF F) o).run Try.prog w = .ok (.value (.bool true)) w := by
  unfold execOp
  simp only [ho, hx, hy]
  cases b <;> kernel_rfl
theorem eql_pt_same (w : World) (F : Slots) (o : Oper) (x y : Operand) (a b : Nat) (i : Bool) {yt : TypeId} (ho : o.op = .binOp .eql 27 x y yt) (hx : evF F x = pv a b i) (hy : evF F y = pv a b i) (ha : a < K4) (hb : b < K4) : (execOp (evF F) o).run Try.prog w = .ok (.value (.bool true)) w := by
  have h := eql_pt w F o x y a b i a b i ho hx hy ha hb ha hb
  have e : sameB a b i a b i = true := by
    unfold sameB
    simp
  rwa [e] at h
/-- of points of the curve -/
theorem add_of {P Q R : Pt} {a b : Nat} {i : Bool} {c d : Nat} {j : Bool} {u v : Nat} {k : Bool} (ha : a < K4) (hb : b < K4) (hc : c < K4) (hd : d < K4) (h1 : dec a b i = P) (h2 : dec c d j = Q) (h3 : ptv R = pv u v k) (he : Ec.add finv P Q = R) (w : World) : Calls Try.prog 22 #[pv a b i, pv c d j] w (Gets w (pv u v k)) := by
  rw [← h3, ← he, ← h1, ← h2]
  exact add_any w a b i c d j ha hb hc hd
theorem neg_of {P R : Pt} {a b : Nat} {i : Bool} {u v : Nat} {k : Bool} (ha : a < K4) (hb : b < K4) (h1 : dec a b i = P) (h3 : ptv R = pv u v k) (he : Ec.neg P = R) (w : World) : Calls Try.prog 26 #[pv a b i] w (Gets w (pv u v k)) := by
  rw [← h3, ← he, ← h1]
  exact neg_any w a b i ha hb
theorem right_of {a b : Nat} {i : Bool} {r : Bool} (ha : a < K4) (hb : b < K4) (h : rightB a b i = r) (w : World) : Calls Try.prog 10 #[pv a b i] w (Gets w (.bool r)) := by
  rw [← h]
  exact right_b w a b i ha hb
set_option maxHeartbeats 4000000 in
set_option maxRecDepth 100000 in
theorem alive5 (w : World)  : Calls Try.prog 8 #[] w (Gets w (.bool true)) := by
  have hb := bP_on
  have db : dec gx.val gy.val false = bP := dec_fin gx gy hb
  have l1 := lt4 gx
  have l2 := lt4 gy
  obtain ⟨ngy, hn⟩ : ∃ z : Fp, z = -gy := ⟨_, rfl⟩
  have l3 := lt4 ngy
  have dn : dec gx.val ngy.val false = Ec.neg bP := by
    rw [hn]
    exact dec_fin gx (-gy) (Ec.On.neg hb)
  have pn : ptv (Ec.neg bP) = pv gx.val ngy.val false := by rw [hn]; rfl
  have rb : rightB gx.val gy.val false = true := by decide +kernel
  obtain ⟨a, ha⟩ : ∃ a, a = gx.val := ⟨_, rfl⟩
  obtain ⟨b, hbb⟩ : ∃ a, a = gy.val := ⟨_, rfl⟩
  obtain ⟨c, hc⟩ : ∃ a, a = ngy.val := ⟨_, rfl⟩
  have pb : ptv bP = pv a b false := by rw [ha, hbb]; rfl
  have cb : ∀ w, Calls Try.prog 23 #[] w (Gets w (pv a b false)) := fun w => by rw [← pb]; exact base_c w
  have cr : ∀ w, Calls Try.prog 24 #[] w (Gets w (pv a b false)) := fun w => by rw [← pb]; exact baseR_c w
  rw [← ha, ← hbb] at db rb
  rw [← ha] at dn pn l1
  rw [← hbb] at l2
  rw [← hc] at dn pn l3
  refine Sy.enter (args := []) Try.func8 rfl (Nat.le_of_ble_eq_true (by kernel_rfl)) ?_
  refine Sy.seq ?_
  refine Sy.region ?_
  refine Sy.step (by kernel_rfl) (.bool false) (Quiet.pure (fun _ => by kernel_rfl)) ?_
  refine Sy.nil ?_
  refine Sy.then_ ?_
  refine Sy.seq ?_
  refine Sy.region ?_
  refine Sy.step (by kernel_rfl) (pv a b false) (Quiet.call 23 #[] (fun _ => by kernel_rfl) (cb)) ?_
  refine Sy.make (by kernel_rfl) 27 (pcs 0 0 false) ptr (fun _ => by kernel_rfl) (fun g0 => ?_)
  refine Sy.write (by kernel_rfl) 0 g0 27 (pcs 0 0 false) (pcs a b false) (by kernel_rfl) (Writes.store 0 27 (pcs a b false) _ _ rfl (by kernel_rfl) (by kernel_rfl) (by kernel_rfl) (Nat.le_of_ble_eq_true (by kernel_rfl)) (by kernel_rfl) (by kernel_rfl)) ?_
  refine Sy.nil ?_
  refine Sy.then_ ?_
  refine Sy.seq ?_
  refine Sy.regionD (fun j => false) (by kernel_rfl) ?_
  refine Sy.stepD 0 rfl (by kernel_rfl) (fun _ _ _ _ h => h) (by kernel_rfl) (pv a b false) (Quiet.load 0 g0 0 9 27 27 (pcs a b false) _ _ rfl (by kernel_rfl) (by kernel_rfl) Try.underlying27 rfl (by kernel_rfl) _ (by kernel_rfl) (Nat.le_of_ble_eq_true (by kernel_rfl))) ?_
  refine Sy.stepD 1 rfl (by kernel_rfl) (fun _ _ _ _ h => h) (by kernel_rfl) (pv a b false) (Quiet.call 24 #[] (fun _ => by kernel_rfl) (cr)) ?_
  refine Sy.stepD 2 rfl (by kernel_rfl) (fun _ _ _ _ h => h) (by kernel_rfl) (.bool true) (Quiet.pure (fun w => eql_pt_same w _ _ _ _ _ _ _ rfl rfl rfl (by first | assumption | exact lt4 _ | decide +kernel) (by first | assumption | exact lt4 _ | decide +kernel))) ?_
  refine Sy.stepD 3 rfl (by kernel_rfl) (fun _ _ _ _ h => h) (by kernel_rfl) (.bool true) (Quiet.pure (fun _ => by kernel_rfl)) ?_
  refine Sy.stepD 4 rfl (by kernel_rfl) (fun _ _ _ _ h => h) (by kernel_rfl) (pv a b false) (Quiet.load 0 g0 0 9 27 27 (pcs a b false) _ _ rfl (by kernel_rfl) (by kernel_rfl) Try.underlying27 rfl (by kernel_rfl) _ (by kernel_rfl) (Nat.le_of_ble_eq_true (by kernel_rfl))) ?_
  refine Sy.stepD 5 rfl (by kernel_rfl) (fun _ _ _ _ h => h) (by kernel_rfl) (.bool true) (Quiet.call 10 #[pv a b false] (fun _ => by kernel_rfl) (right_of l1 l2 rb)) ?_
  refine Sy.stepD 6 rfl (by kernel_rfl) (fun _ _ _ _ h => h) (by kernel_rfl) (.bool true) (Quiet.pure (fun _ => by kernel_rfl)) ?_
  refine Sy.stepD 7 rfl (by kernel_rfl) (fun _ _ _ _ h => h) (by kernel_rfl) (.bool true) (Quiet.pure (fun _ => by kernel_rfl)) ?_
  refine Sy.stepD 8 rfl (by kernel_rfl) (fun _ _ _ _ h => h) (by kernel_rfl) (pv a b false) (Quiet.load 0 g0 0 9 27 27 (pcs a b false) _ _ rfl (by kernel_rfl) (by kernel_rfl) Try.underlying27 rfl (by kernel_rfl) _ (by kernel_rfl) (Nat.le_of_ble_eq_true (by kernel_rfl))) ?_
  refine Sy.stepD 9 rfl (by kernel_rfl) (fun _ _ _ _ h => h) (by kernel_rfl) (pv 0 0 true) (Quiet.call 25 #[] (fun _ => by kernel_rfl) (zero_c)) ?_
  refine Sy.stepD 10 rfl (by kernel_rfl) (fun _ _ _ _ h => h) (by kernel_rfl) (pv a b false) (Quiet.call 22 #[pv a b false, pv 0 0 true] (fun _ => by kernel_rfl) (add_of l1 l2 (by decide) (by decide) db dec_zero pb (Ec.add_zero _))) ?_
  refine Sy.stepD 11 rfl (by kernel_rfl) (fun _ _ _ _ h => h) (by kernel_rfl) (pv a b false) (Quiet.load 0 g0 0 9 27 27 (pcs a b false) _ _ rfl (by kernel_rfl) (by kernel_rfl) Try.underlying27 rfl (by kernel_rfl) _ (by kernel_rfl) (Nat.le_of_ble_eq_true (by kernel_rfl))) ?_
  refine Sy.stepD 12 rfl (by kernel_rfl) (fun _ _ _ _ h => h) (by kernel_rfl) (.bool true) (Quiet.pure (fun w => eql_pt_same w _ _ _ _ _ _ _ rfl rfl rfl (by first | assumption | exact lt4 _ | decide +kernel) (by first | assumption | exact lt4 _ | decide +kernel))) ?_
  refine Sy.stepD 13 rfl (by kernel_rfl) (fun _ _ _ _ h => h) (by kernel_rfl) (.bool true) (Quiet.pure (fun _ => by kernel_rfl)) ?_
  refine Sy.stepD 14 rfl (by kernel_rfl) (fun _ _ _ _ h => h) (by kernel_rfl) (.bool true) (Quiet.pure (fun _ => by kernel_rfl)) ?_
  refine Sy.stepD 15 rfl (by kernel_rfl) (fun _ _ _ _ h => h) (by kernel_rfl) (pv a b false) (Quiet.load 0 g0 0 9 27 27 (pcs a b false) _ _ rfl (by kernel_rfl) (by kernel_rfl) Try.underlying27 rfl (by kernel_rfl) _ (by kernel_rfl) (Nat.le_of_ble_eq_true (by kernel_rfl))) ?_
  refine Sy.stepD 16 rfl (by kernel_rfl) (fun _ _ _ _ h => h) (by kernel_rfl) (pv a b false) (Quiet.load 0 g0 0 9 27 27 (pcs a b false) _ _ rfl (by kernel_rfl) (by kernel_rfl) Try.underlying27 rfl (by kernel_rfl) _ (by kernel_rfl) (Nat.le_of_ble_eq_true (by kernel_rfl))) ?_
  refine Sy.stepD 17 rfl (by kernel_rfl) (fun _ _ _ _ h => h) (by kernel_rfl) (pv a c false) (Quiet.call 26 #[pv a b false] (fun _ => by kernel_rfl) (neg_of l1 l2 db pn rfl)) ?_
  refine Sy.stepD 18 rfl (by kernel_rfl) (fun _ _ _ _ h => h) (by kernel_rfl) (pv 0 0 true) (Quiet.call 22 #[pv a b false, pv a c false] (fun _ => by kernel_rfl) (add_of l1 l2 l1 l3 db dn (R := none) rfl (Ec.add_neg _))) ?_
  refine Sy.stepD 19 rfl (by kernel_rfl) (fun _ _ _ _ h => h) (by kernel_rfl) (pv 0 0 true) (Quiet.call 25 #[] (fun _ => by kernel_rfl) (zero_c)) ?_
  refine Sy.stepD 20 rfl (by kernel_rfl) (fun _ _ _ _ h => h) (by kernel_rfl) (.bool true) (Quiet.pure (fun w => eql_pt_same w _ _ _ _ _ _ _ rfl rfl rfl (by first | assumption | exact lt4 _ | decide +kernel) (by first | assumption | exact lt4 _ | decide +kernel))) ?_
  refine Sy.stepD 21 rfl (by kernel_rfl) (fun _ _ _ _ h => h) (by kernel_rfl) (.bool true) (Quiet.pure (fun _ => by kernel_rfl)) ?_
  refine Sy.stepD 22 rfl (by kernel_rfl) (fun _ _ _ _ h => h) (by kernel_rfl) (.bool true) (Quiet.pure (fun _ => by kernel_rfl)) ?_
  refine Sy.stepD 23 rfl (by kernel_rfl) (fun _ _ _ _ h => h) (by kernel_rfl) (pv 0 0 true) (Quiet.call 25 #[] (fun _ => by kernel_rfl) (zero_c)) ?_
  refine Sy.stepD 24 rfl (by kernel_rfl) (fun _ _ _ _ h => h) (by kernel_rfl) (.bool true) (Quiet.pure (fun _ => by kernel_rfl)) ?_
  refine Sy.stepD 25 rfl (by kernel_rfl) (fun _ _ _ _ h => h) (by kernel_rfl) (.bool true) (Quiet.pure (fun _ => by kernel_rfl)) ?_
  refine Sy.stepD 26 rfl (by kernel_rfl) (fun _ _ _ _ h => h) (by kernel_rfl) (.bool true) (Quiet.pure (fun _ => by kernel_rfl)) ?_
  refine Sy.doneD (by kernel_rfl) ?_
  refine Sy.then_ ?_
  refine Sy.ret ?_
  exact Sy.ret1 (v := .bool true) rfl (.inl (show _ = _ by kernel_rfl))
end Go.Proofs.Ytneeefinaejgcaa.Cu

end
section
namespace Go.Proofs.Ytneeefinaejgcaa.Sy
open Go.RowKit Go.Proofs.Ytneeefinaejgcaa

theorem St.setNew {w0 : Base} {w w' : World} {L : Blocks} (h : St w0 w L) (hg : Gr w w') {i g : Nat} {t : TypeId} {cs : Array Value} (hi : i < L.length) (hn : w.heap.size ≤ g) (hb : Blk w' g t cs) : St w0 w' (L.set i (g, t, cs)) := by
  have h' := h.gr hg
  refine ⟨h'.below, fun g1 t1 c1 hm => ?_, ?_, h'.size, h'.non⟩
  · rcases List.mem_or_eq_of_mem_set hm with hm | e
    · exact ⟨(h.blk g1 t1 c1 hm).1, hg.blk (h.blk g1 t1 c1 hm).2⟩
    · obtain ⟨rfl, rfl, rfl⟩ : g1 = g ∧ t1 = t ∧ c1 = cs := by simpa using e
      exact ⟨Nat.le_trans h.below.size hn, hb⟩
  · rw [List.map_set]
    have hlt : ∀ x ∈ L.map (·.1), x < g := fun x hx => by
      obtain ⟨⟨g1, t1, c1⟩, hm, rfl⟩ := List.mem_map.1 hx
      exact Nat.lt_of_lt_of_le (h.blk g1 t1 c1 hm).2.lt hn
    have hp := h.apart
    generalize L.map (·.1) = l at hlt hp
    clear h hb hi
    induction l generalizing i with
    | nil => exact List.Pairwise.nil
    | cons x l ih =>
      obtain ⟨h1, h2⟩ := List.nodup_cons.1 hp
      cases i with
      | zero =>
        refine List.nodup_cons.2 ⟨fun hm => ?_, h2⟩
        have := hlt g (List.mem_cons_of_mem _ hm)
        omega
      | succ i =>
        refine List.nodup_cons.2 ⟨fun hm => ?_, ih (fun y hy => hlt y (List.mem_cons_of_mem _ hy)) h2⟩
        rcases List.mem_or_eq_of_mem_set hm with hm | e
        · exact h1 hm
        · have := hlt x (List.mem_cons_self ..)
          omega

theorem addr_off (b f q : Nat) : (⟨b, f, none⟩ : Addr).add q = ⟨b, f + q, none⟩ := by unfold Addr.add; split <;> simp_all

section
variable {P : Program} {w0 : Base} {n : Nat} {Q : Exit → Act → World → Prop} {F : Slots} {L : Blocks} {ops : Array Oper} {o : Oper} {l : List Oper}

/-- a call whose contract leans on what is known -/
theorem Quiet.callS {v : Value} (f : FuncId) (args : Array Value) (he : ∀ w, (execOp (evF F) o).run P w = .ok (.enter f args) w)
    (h : ∀ w, St w0 w L → Calls P f args w (Gets w v)) : Quiet P w0 F L o v := fun w hw => by
  unfold Gives; rw [he w]; exact h w hw

/-- one cell -/
theorem Writes.one (f : Nat) {g : Nat} {t : TypeId} {cs cs' : Array Value} (ty : TypeId) (v : Value) (x y : Operand) (ho : o.op = .store ty x y) (hx : evF F x = .pointer (some ⟨g, f, none⟩)) (hy : evF F y = v)
    (hi : (P.info? ty).map (·.size) = some 1) (hv : v.cells = #[v]) (h1 : v.oneCell' = true) (hk : f < cs.size) (hcs : cs.setIfInBounds f v = cs') : Writes P F o g t cs cs' :=
  fun w hb => ⟨w.setCell ⟨g, f, none⟩ v, by
    have hth := hb.there f 1 hk
    have hst := run_storeCells_cells (P := P) g f [v] 0 w (fun j hj => by simpa using (hth j hj).1) (fun j hj => by simpa using (hth j hj).2) (fun u hu => by rw [List.mem_singleton.1 hu]; exact h1)
    unfold execOp
    cases hq : P.info? ty with
    | none => simp [hq] at hi
    | some i =>
      have hs : i.size = 1 := by simpa [hq] using hi
      simp only [World.setCells, Nat.add_zero] at hst
      simp [ho, hx, hy, Instr.storeAt, Instr.sureAddr, storeVar, sizeOf, typeInfo, hq, hs, hv, hst, Result.andThen],
    only_setCell (World.grownBy.refl w (some g)) (.inl rfl) v, hcs ▸ hb.set_ f v⟩

/-- a slice of the call's own grows -/
theorem append (hg : good ops n F o = true) (ts e : TypeId) (inf : TypeInfo) (z : Value) (ht : P.underlying ts = some (.slice e)) (hinf : P.info? e = some inf) (hz : inf.zero = some z) (hs1 : inf.size = 1) (hb1 : inf.bytes = 1) (hzs : z.cells.size = 1)
    (s x : Operand) (ho : o.op = .call { callee := .builtin .append, args := #[s, x], argTypes := #[ts, ts] })
    (i g len cap : Nat) (cs : Array Value) (old : List Value) (hs : evF F s = .slice (some ⟨g, 0, none⟩) len cap) (hL : L[i]? = some (g, e, cs)) (hold : cs.toList.take len = old) (hlen : old.length = len) (hcap : cs.size = cap) (hmax : cap ≤ maxLen)
    (j gx fx m c : Nat) (tx : TypeId) (cx : Array Value) (news : List Value) (hx : evF F x = .slice (some ⟨gx, fx, none⟩) m c) (hLx : L[j]? = some (gx, tx, cx)) (hnews : (cx.toList.drop fx).take m = news) (hm : news.length = m) (h1 : ∀ u ∈ news, u.oneCell' = true) (hsmall : len + m ≤ 140737488355328)
    (h : ∀ (g' cap' : Nat) (sp : List Value), sp.length + (len + m) = cap' → cap' ≤ maxLen → wpS P w0 n ops Q (putF F o.dst (.slice (some ⟨g', 0, none⟩) (len + m) cap')) (L.set i (g', e, (old ++ (news ++ sp)).toArray)) l) : wpS P w0 n ops Q F L (o :: l) := fun a w ha hw => by
  obtain ⟨k1, _, k3, _⟩ := good_spec hg
  refine wpList_step fun K hK => ?_
  rw [if_pos (ha.wanted k1)]
  have hb := hw.get hL
  have hbx := hw.get hLx
  have hle : len ≤ cap := by
    have := congrArg List.length hold
    rw [List.length_take, hlen, Array.length_toList, hcap] at this
    omega
  have hn : ∀ q u, news[q]? = some u → w.cell? ((⟨gx, fx, none⟩ : Addr).add q) = some u := fun q u hq => by
    rw [addr_off, hbx.cell]
    rw [← hnews] at hq
    have hlt : q < m := by
      have := (List.getElem?_eq_some_iff.1 hq).1
      simp at this; omega
    rw [List.getElem?_take_of_lt hlt, List.getElem?_drop] at hq
    simpa using hq
  have hown : w.ownsRow 0 e 1 (.slice (some ⟨g, 0, none⟩) len cap) len old := ⟨by omega, .inr ⟨g, cap, cs, rfl, Nat.zero_le _, hb, hle, hmax, by omega, by rw [Nat.mul_one]; exact hold⟩⟩
  have step : ∀ v' w', (Builtin.append_ #[ts, ts] o.type #[.slice (some ⟨g, 0, none⟩) len cap, .slice (some ⟨gx, fx, none⟩) m c]).run P w = .ok v' w' → K (a.put o.dst v') w' → o.wp P a w K Q := fun v' w' hr hk => by
    unfold Oper.wp
    rw [good_exec hg ha]
    unfold execOp
    simp only [ho, resolve, invoke, builtin, Sem.run_bind, Sem.run_pure, Result.andThen_ok, List.map_toArray, List.map_cons, List.map_nil, hs, hx, hr]
    exact hk
  have last : ∀ (w' : World) (g' cap' : Nat) (cur : Array Value), cur.size = cap' → cap' ≤ maxLen → cur.toList.take (len + m) = old ++ news → St w0 w' (L.set i (g', e, cur)) → K (a.put o.dst (.slice (some ⟨g', 0, none⟩) (len + m) cap')) w' := fun w' g' cap' cur h2 h3 h4 h5 => by
    have hc : cur = (old ++ (news ++ cur.toList.drop (len + m))).toArray := by
      rw [← List.append_assoc, ← h4, List.take_append_drop]
    rw [hc] at h5
    refine hK _ _ (h g' cap' _ ?_ h3 _ _ (ha.put k3 _) h5)
    have := congrArg List.length h4
    rw [List.length_take, List.length_append, Array.length_toList, hlen, hm] at this
    rw [List.length_drop, Array.length_toList]
    omega
  rcases Nat.lt_or_ge cap (len + m) with hlt | hge
  · obtain ⟨v', w', hr, hrow, hgr⟩ := run_append_arg_grows (P := P) w ts o.type e inf z 1 1 ht hinf hz hs1 hb1 hzs (by decide) ⟨g, 0, none⟩ len cap old (by omega) (hown.cells (g := g) rfl) ⟨gx, fx, none⟩ m c news (by omega) hn hlt (by simp only [maxLen]; omega) (by omega)
    refine step v' w' hr ?_
    rcases hrow.2 with ⟨rfl, h0⟩ | ⟨g', cap', cur, rfl, q1, q2, _, q4, q5, q6⟩
    · omega
    · exact last w' g' cap' cur (by omega) q4 (by rw [Nat.mul_one] at q6; exact q6) (hw.setNew (⟨hgr.os, hgr.tape, hgr.output, hgr.size, fun k hk => hgr.block k hk (by simp)⟩) (List.getElem?_eq_some_iff.1 hL).1 q1 q2)
  · obtain ⟨w', hr, hrow, hgr⟩ := run_append_own_spare (P := P) w 0 ts o.type e inf 1 ht hinf hs1 g len cap old hown ⟨gx, fx, none⟩ m c news (by omega) hn h1 hge
    refine step _ w' hr ?_
    rcases hrow.2 with ⟨h0, _⟩ | ⟨g', cap', cur, hv, _, q2, _, q4, q5, q6⟩
    · cases h0
    · cases hv
      exact last w' g cap cur (by omega) q4 (by rw [Nat.mul_one] at q6; exact q6) (hw.set hL hgr q2)
/-- the first append, to nothing -/
theorem appendNil (hg : good ops n F o = true) (ts e : TypeId) (inf : TypeInfo) (z : Value) (ht : P.underlying ts = some (.slice e)) (hinf : P.info? e = some inf) (hz : inf.zero = some z) (hs1 : inf.size = 1) (hb1 : inf.bytes = 1) (hzs : z.cells.size = 1)
    (s x : Operand) (ho : o.op = .call { callee := .builtin .append, args := #[s, x], argTypes := #[ts, ts] }) (hs : evF F s = .slice none 0 0)
    (j gx fx m c : Nat) (tx : TypeId) (cx : Array Value) (news : List Value) (hx : evF F x = .slice (some ⟨gx, fx, none⟩) m c) (hLx : L[j]? = some (gx, tx, cx)) (hnews : (cx.toList.drop fx).take m = news) (hm : news.length = m) (hm0 : 0 < m) (h1 : ∀ u ∈ news, u.oneCell' = true) (hsmall : m ≤ 140737488355328)
    (h : ∀ (g' cap' : Nat) (sp : List Value), sp.length + m = cap' → cap' ≤ maxLen → wpS P w0 n ops Q (putF F o.dst (.slice (some ⟨g', 0, none⟩) m cap')) (L ++ [(g', e, (news ++ sp).toArray)]) l) : wpS P w0 n ops Q F L (o :: l) := fun a w ha hw => by
  obtain ⟨k1, _, k3, _⟩ := good_spec hg
  refine wpList_step fun K hK => ?_
  rw [if_pos (ha.wanted k1)]
  have hbx := hw.get hLx
  have hn : ∀ q u, news[q]? = some u → w.cell? ((⟨gx, fx, none⟩ : Addr).add q) = some u := fun q u hq => by
    rw [addr_off, hbx.cell]
    rw [← hnews] at hq
    have hlt : q < m := by
      have := (List.getElem?_eq_some_iff.1 hq).1
      simp at this; omega
    rw [List.getElem?_take_of_lt hlt, List.getElem?_drop] at hq
    simpa using hq
  obtain ⟨v', w', hr, hrow, hgr, hnil⟩ := run_append_own (P := P) w w.heap.size ts o.type e inf z 1 1 ht hinf hz hs1 hb1 hzs (by decide) (.slice none 0 0) 0 [] (World.ownsRow_nil w _ e 1) ⟨gx, fx, none⟩ m c news (by omega) hn h1 (by simp only [maxLen]; omega) (by omega) (Nat.le_refl _)
  rcases hrow.2 with ⟨_, h0⟩ | ⟨g', cap', cur, rfl, q1, q2, _, q4, q5, q6⟩
  · omega
  have q6' : cur.toList.take m = news := by simpa using q6
  unfold Oper.wp
  rw [good_exec hg ha]
  unfold execOp
  simp only [ho, resolve, invoke, builtin, Sem.run_bind, Sem.run_pure, Result.andThen_ok, List.map_toArray, List.map_cons, List.map_nil, hs, hx, hr]
  have hc : cur = (news ++ cur.toList.drop m).toArray := by rw [← q6', List.take_append_drop]
  rw [hc] at q2
  rw [Nat.zero_add]
  refine hK _ _ (h g' cap' _ ?_ q4 _ _ (ha.put k3 _) (hw.add (⟨hgr.os, hgr.tape, hgr.output, hgr.size, fun k hk => hgr.block k hk (by simp [Value.ownBlock])⟩) q1 q2))
  have := congrArg List.length q6'
  rw [List.length_take, hm, Array.length_toList] at this
  rw [List.length_drop, Array.length_toList]
  omega

/-! ## Loops -/
/-- so many rounds, from what is known -/
def wpR (P : Program) (w0 : Base) (n : Nat) (c : Code) (Q : Exit → Act → World → Prop) (k : Nat) (F : Slots) (L : Blocks) : Prop := ∀ a w, Fr w0.ds a n F → St w0 w L → Code.roundsIn w0.fence w0.room P c Q k a w
theorem loopN {c : Code} (k : Nat) (h : wpR P w0 n c Q k F L) : wpC P w0 n Q F L (.loop c) := fun a w ha hw => wpIn_loop_rounds k (h a w ha hw)
theorem round {c : Code} {k : Nat} (h : wpC P w0 n (Exit.then (Code.roundsIn w0.fence w0.room P c Q k) Q) F L c) : wpR P w0 n c Q (k + 1) F L := fun a w ha hw => h a w ha hw
theorem again {c : Code} {k : Nat} {R : Exit → Act → World → Prop} (h : wpR P w0 n c Q k F L) : X w0 n (Exit.then (Code.roundsIn w0.fence w0.room P c Q k) R) F L .normal := fun a w ha hw => h a w ha hw
theorem lookup_all : ∀ (G : Slots), (∀ p ∈ G, F.lookup p.1 = some p.2) → ∀ i v, G.lookup i = some v → F.lookup i = some v
  | [], _, _, _, h => by cases h
  | (q, u) :: G, hG, i, v, h => by
    simp only [List.lookup_cons] at h
    by_cases e : i = q
    · subst e
      simp at h
      subst h
      exact hG (i, u) (List.mem_cons_self ..)
    · have e' : (i == q) = false := by simpa using e
      rw [e'] at h
      exact lookup_all G (fun p hp => hG p (List.mem_cons_of_mem _ hp)) i v h
theorem Fr.all {ds : List Deferred} {a : Act} (h : Fr ds a n F) {G : Slots} (hG : ∀ p ∈ G, F.lookup p.1 = some p.2) : Fr ds a n G := h.less (lookup_all G hG)
theorem all_nil : ∀ p ∈ ([] : Slots), F.lookup p.1 = some p.2 := fun _ h => by cases h
theorem all_cons {G : Slots} {i : Nat} {v : Value} (h : F.lookup i = some v) (hG : ∀ p ∈ G, F.lookup p.1 = some p.2) : ∀ p ∈ (i, v) :: G, F.lookup p.1 = some p.2 := fun p hp => by
  rcases List.mem_cons.1 hp with rfl | hp
  · exact h
  · exact hG p hp

/-! ## Less is known -/
/-- some of the blocks -/
def sel : Blocks → List Bool → Blocks
  | x :: l, true :: m => x :: sel l m
  | _ :: l, false :: m => sel l m
  | _, _ => []
theorem sel_sub : ∀ (l : Blocks) (m : List Bool), (sel l m).Sublist l
  | [], [] => List.Sublist.slnil
  | [], _ :: _ => by simp [sel]
  | _ :: _, [] => by simp [sel]
  | _ :: l, true :: m => (sel_sub l m).cons_cons _
  | _ :: l, false :: m => (sel_sub l m).cons _
theorem tidyR {c : Code} {k : Nat} {G : Slots} {M : Blocks} (m : List Bool) (hM : sel L m = M) (hF : ∀ p ∈ G, F.lookup p.1 = some p.2) (h : wpR P w0 n c Q k G M) : wpR P w0 n c Q k F L := fun a w ha hw => h a w (ha.all hF) (hM ▸ hw.less (sel_sub L m))

/-- memory that was there before the call -/
theorem Quiet.there (g f k : Nat) (ty : TypeId) (cs : List Value) (d : TypeDesc) (x : Operand) (ho : o.op = .load ty x) (hx : evF F x = .pointer (some ⟨g, f, none⟩)) (hg : g < w0.world.heap.size) (hr : w0.world.rangeAt g f cs)
    (hu : P.underlying ty = some d) (hd : d.isRow = true) (hi : (P.info? ty).map (·.size) = some k) (hk : cs.length = k) (v : Value) (hv : Value.agg cs.toArray = v) : Quiet P w0 F L o v := fun w hw => by
  have hl := run_loadVar_mid (P := P) w g f ty cs d (fun j u hj => (Below.cell (p := ⟨g, f + j, none⟩) hw.below hg).trans (hr j u hj)) hu hd (by rw [hi, hk])
  unfold Gives execOp
  simp only [ho, hx, Instr.loadAt, Instr.sureAddr, Sem.run_bind, Sem.run_pure, Result.andThen_ok, hl]
  exact ⟨hv, Gr.refl _⟩
theorem Quiet.thereOne (g f : Nat) (ty : TypeId) (d : TypeDesc) (x : Operand) (ho : o.op = .load ty x) (hx : evF F x = .pointer (some ⟨g, f, none⟩)) (hg : g < w0.world.heap.size) (v : Value) (hr : w0.world.cell? ⟨g, f, none⟩ = some v)
    (hu : P.underlying ty = some d) (hd : d.isRow = false) : Quiet P w0 F L o v := fun w hw => by
  have hc : w.cell? ⟨g, f, none⟩ = some v := (Below.cell (p := ⟨g, f, none⟩) hw.below hg).trans hr
  have ha : (isAgg ty).run P w = .ok false w := by
    cases d <;> first | (cases hd; done) | simp [isAgg, underlying, hu]
  unfold Gives execOp
  simp only [ho, hx, Instr.loadAt, Instr.sureAddr, Sem.run_bind, Sem.run_pure, Result.andThen_ok, loadVar, ha, Bool.false_eq_true, if_false, run_load, hc]
  exact ⟨trivial, Gr.refl _⟩
end
end Go.Proofs.Ytneeefinaejgcaa.Sy

end
section
namespace Go.Proofs.Ytneeefinaejgcaa
open Go.RowKit Go.Lib

set_option maxHeartbeats 8000000 in
set_option maxRecDepth 100000 in
theorem bytes_any (w : World) (x : Nat) (hx : x < 115792089237316195423570985008687907853269984665640564039457584007913129639936) : Calls Try.prog 50 #[fv x] w fun e w' => e = .returned (.agg ((bytesS (x % pM)).map bv).toArray) ∧ Below w.heap.size w w' := by
  obtain ⟨z, hz⟩ : ∃ z, z = x % pM := ⟨_, rfl⟩
  have hzl : z < 115792089237316195423570985008687907853269984665640564039457584007913129639936 := by rw [hz]; exact mod_lt x
  have cn : ∀ w, Calls Try.prog 39 #[fv x] w fun e w' => e = .returned (fv z) ∧ Below w.heap.size w w' := by
    intro w; rw [hz]; exact norm_any w x hx
  rw [← hz]
  obtain ⟨z0, z1, z2, z3, a0, a1, a2, a3, ez, fz⟩ := words_of z hzl
  have HZ := Lib.hid (And.intro a0 (And.intro a1 (And.intro a2 (And.intro a3 ez))))
  have FZ := Lib.hid fz
  obtain ⟨x0, x1, x2, x3, fx⟩ := words_fv x hx
  rw [fx] at cn ⊢
  clear fx fz hz hzl a0 a1 a2 a3 ez hx
  have hZB : Hid ((List.replicate 32 (Value.int .u8 0)).toArray = ((partB z 0).map bv).toArray) := Lib.hid (by simp [partB, lowB, bv])
  go_enter Try.func50, Try.ntmps50
  go_wp2_with fail
  refine (cn _).mono ?_
  rintro e w1 ⟨rfl, hb⟩
  have BR : Blk w1 (w.heap.size + 1) 81 _ := Gr.blk hb (Blk.alloc (blk_new2 w _ _ _) _)
  have BB : Blk w1 (w.heap.size + 2) 81 ((partB z 0).map bv).toArray := Blk.eq_ (Gr.blk hb (blk_new3 w _ _ _ _)) hZB.out
  have hB := Below.gr (below_alloc3 w _ _ _) hb
  have sz := BB.lt
  clear hb cn
  go_wp2_with (first | ((with_reducible refine here_store ?_); refine wpList_store_blk rfl _ _ _ rfl (w1.heap.size) (fcs (z)) rfl rfl _ _ (Blk.new w1 _ _) (by kernel_rfl) (by rfl) (fcs_one _) ?_; intro w2 hL2 hB2 hK2; have CR := hK2 _ (by omega) _ _ (BR.alloc _); have CB := hK2 _ (by omega) _ _ (BB.alloc _); have hC := (hB.alloc (by omega) _).trans (hB2 _ (by omega))))
  go_loopw [8] (fun i wr => ∃ k : Nat, k ≤ 32 ∧ i = .int .i64 (k : Int) ∧ Below w.heap.size w wr ∧ Blk wr (w.heap.size + 2) 81 ((partB z k).map bv).toArray ∧ Blk wr w1.heap.size 25 #[.int .u64 (z0 : Int), .int .u64 (z1 : Int), .int .u64 (z2 : Int), .int .u64 (z3 : Int)] ∧ Blk wr (w.heap.size + 1) 81 (List.replicate 32 (Value.int .u8 0)).toArray) (fun i _ => 32 - (intOf i).toNat)
  case atStart => exact ⟨0, by omega, rfl, hC, CB, hL2.eq_ (fcs_words FZ.out), CR⟩
  case round =>
    obtain ⟨k, hk, rfl, hb, hP, hN, hR⟩ := hrel
    by_cases hlt : k < 32
    · have ce : ∀ j, j < 32 → ∃ v, wr.cell? ⟨w.heap.size + 1 + 1, j, none⟩ = some v := fun j hj => ⟨_, (hP.cell j).trans (Array.getElem?_eq_getElem (by simp [partB_length z k hk]; exact hj))⟩
      obtain ⟨v, hv⟩ := ce (31 - k) (by omega)
      have ff := hP.frozen (31 - k)
      have q0 : wr.cell? ⟨w1.heap.size, 0, none⟩ = some (.int .u64 (z0 : Int)) := hN.cell 0
      have q1 : wr.cell? ⟨w1.heap.size, 1, none⟩ = some (.int .u64 (z1 : Int)) := hN.cell 1
      have q2 : wr.cell? ⟨w1.heap.size, 2, none⟩ = some (.int .u64 (z2 : Int)) := hN.cell 2
      have q3 : wr.cell? ⟨w1.heap.size, 3, none⟩ = some (.int .u64 (z3 : Int)) := hN.cell 3
      have hPn := hP.set_ (31 - k) (bv (byteN z k))
      rw [partB_set z k hlt] at hPn
      have HP := Lib.hid hPn
      clear hPn ce
      have HR := Lib.hid (And.intro hb (And.intro hN hR))
      clear hb hP hN hR hk
      have hsz : w.heap.size + 2 < w1.heap.size := sz
      rcases (show k = 0 ∨ k = 1 ∨ k = 2 ∨ k = 3 ∨ k = 4 ∨ k = 5 ∨ k = 6 ∨ k = 7 ∨ k = 8 ∨ k = 9 ∨ k = 10 ∨ k = 11 ∨ k = 12 ∨ k = 13 ∨ k = 14 ∨ k = 15 ∨ k = 16 ∨ k = 17 ∨ k = 18 ∨ k = 19 ∨ k = 20 ∨ k = 21 ∨ k = 22 ∨ k = 23 ∨ k = 24 ∨ k = 25 ∨ k = 26 ∨ k = 27 ∨ k = 28 ∨ k = 29 ∨ k = 30 ∨ k = 31 by omega) with rfl | rfl | rfl | rfl | rfl | rfl | rfl | rfl | rfl | rfl | rfl | rfl | rfl | rfl | rfl | rfl | rfl | rfl | rfl | rfl | rfl | rfl | rfl | rfl | rfl | rfl | rfl | rfl | rfl | rfl | rfl | rfl
      all_goals
        go_wp2
        obtain ⟨a0, a1, a2, a3, ez⟩ := HZ.out
        refine ⟨⟨_, by decide, rfl, HR.out.1.setCell (by show w.heap.size ≤ w.heap.size + 1 + 1; omega) _, HP.out.val (by rw [bv_byteN]; congr 1; omega), HR.out.2.1.far (by show w1.heap.size ≠ w.heap.size + 1 + 1; omega) _, HR.out.2.2.far (by show w.heap.size + 1 ≠ w.heap.size + 1 + 1; omega) _⟩, by simp [intOf]⟩
    · have p1 : ¬ (k : Int) < 32 := by omega
      obtain rfl : k = 32 := by omega
      rw [partB_full] at hP
      have HI := Lib.hid (bytesS_length z)
      have HL := Lib.hid hP
      have HR := Lib.hid hR
      clear hN hP hR
      go_wp2_with (first | ((with_reducible refine here_load (d := some 24) ?_); refine wpList_load_blk rfl _ _ rfl (w.heap.size + 2) rfl _ _ _ HL.out Try.underlying81 rfl (b32_info HI.out) ?_) | ((with_reducible refine here_store ?_); refine wpList_store_blk rfl _ _ _ rfl (w.heap.size + 1) ((bytesS z).map bv).toArray rfl rfl _ _ HR.out (b32_info HI.out) (by simp [HI.out]) (b32_one _) ?_; intro w9 hL9 hB9 hK9))
      exact bodyPost_ret (results_cell_row rfl _ _ (w.heap.size + 1) _ _ (0, 0) _ rfl hL9 Try.underlying81 rfl (b32_info HI.out)) rfl ⟨rfl, hb.trans (hB9 _ (by omega))⟩
end Go.Proofs.Ytneeefinaejgcaa

end
section
namespace Go.Proofs.Ytneeefinaejgcaa
open Go.RowKit Go.Lib

/-- what Read answers -/
def readS (l : List UInt8) : Nat × Bool := if valB l < pM then (valB l, true) else (0, false)

set_option maxHeartbeats 8000000 in
set_option maxRecDepth 100000 in
theorem read_any (w : World) (l : List UInt8) (hl : l.length = 32) : Calls Try.prog 85 #[.agg (l.map bv).toArray] w fun e w' => e = .returned (.tuple #[fv (readS l).1, .bool (readS l).2]) ∧ Below w.heap.size w w' := by
  have HL := Lib.hid hl
  clear hl
  go_enter Try.func85, Try.ntmps85
  go_wp2_with (first | ((with_reducible refine here_load (d := some 7) ?_); refine wpList_load_blk rfl _ _ rfl w.heap.size rfl _ _ _ (((Blk.new w _ _).alloc _).alloc _) Try.underlying81 rfl (b32_info HL.out) ?_))
  go_loopw [8] (fun i wr => ∃ k y0 y1 y2 y3 : Nat, k ≤ 32 ∧ i = .int .i64 (k : Int) ∧ Hid (y0 = wdB l k 0 ∧ y1 = wdB l k 1 ∧ y2 = wdB l k 2 ∧ y3 = wdB l k 3) ∧ Below w.heap.size w wr ∧ Blk wr (w.heap.size + 2) 25 #[.int .u64 (y3 : Int), .int .u64 (y2 : Int), .int .u64 (y1 : Int), .int .u64 (y0 : Int)] ∧ Blk wr (w.heap.size + 1) 25 #[.int .u64 0, .int .u64 0, .int .u64 0, .int .u64 0]) (fun i _ => 32 - (intOf i).toNat)
  case atStart => exact ⟨0, 0, 0, 0, 0, by omega, rfl, Lib.hid ⟨(wdB_zero l 0).symm, (wdB_zero l 1).symm, (wdB_zero l 2).symm, (wdB_zero l 3).symm⟩, below_alloc3 w _ _ _, blk_new3 w _ _ _ _, (blk_new2 w _ _ _).alloc _⟩
  case round =>
    obtain ⟨k, y0, y1, y2, y3, hk, rfl, HY, hb, hP, hR⟩ := hrel
    have q3 : wr.cell? ⟨w.heap.size + 1 + 1, 0, none⟩ = some (.int .u64 (y3 : Int)) := hP.cell 0
    have q2 : wr.cell? ⟨w.heap.size + 1 + 1, 1, none⟩ = some (.int .u64 (y2 : Int)) := hP.cell 1
    have q1 : wr.cell? ⟨w.heap.size + 1 + 1, 2, none⟩ = some (.int .u64 (y1 : Int)) := hP.cell 2
    have q0 : wr.cell? ⟨w.heap.size + 1 + 1, 3, none⟩ = some (.int .u64 (y0 : Int)) := hP.cell 3
    have ff : ∀ j, wr.frozen? ⟨w.heap.size + 1 + 1, j, none⟩ = false := fun j => hP.frozen j
    by_cases hlt : k < 32
    · obtain ⟨c, hc⟩ : ∃ c, l[k]? = some c := ⟨l[k]'(by rw [HL.out]; exact hlt), List.getElem?_eq_getElem _⟩
      have HC := Lib.hid hc
      obtain ⟨m, hm⟩ : ∃ m, m = c.toNat := ⟨_, rfl⟩
      have hm8 : m < 256 := by rw [hm]; exact c.toNat_lt
      have hI : ∀ W, (Instr.index 81 (.agg (l.map bv).toArray) (.int .i64 (k : Int))).run Try.prog W = .ok (.int .u8 (m : Int)) W := fun W => by
        rw [run_index_b32 W l k c hc hlt, hm]; rfl
      have HM := Lib.hid hm
      have HR := Lib.hid (And.intro hb (And.intro hP hR))
      clear hb hP hR hc hk hm
      rcases (show k = 0 ∨ k = 1 ∨ k = 2 ∨ k = 3 ∨ k = 4 ∨ k = 5 ∨ k = 6 ∨ k = 7 ∨ k = 8 ∨ k = 9 ∨ k = 10 ∨ k = 11 ∨ k = 12 ∨ k = 13 ∨ k = 14 ∨ k = 15 ∨ k = 16 ∨ k = 17 ∨ k = 18 ∨ k = 19 ∨ k = 20 ∨ k = 21 ∨ k = 22 ∨ k = 23 ∨ k = 24 ∨ k = 25 ∨ k = 26 ∨ k = 27 ∨ k = 28 ∨ k = 29 ∨ k = 30 ∨ k = 31 by omega) with rfl | rfl | rfl | rfl | rfl | rfl | rfl | rfl | rfl | rfl | rfl | rfl | rfl | rfl | rfl | rfl | rfl | rfl | rfl | rfl | rfl | rfl | rfl | rfl | rfl | rfl | rfl | rfl | rfl | rfl | rfl | rfl
      all_goals
        simp only [Int.cast_ofNat_Int] at hI
      all_goals
        first
        | ((have hy : y0 < 72057594037927936 := by rw [HY.out.1]; exact wdB_lt l _ 0 (by decide)); (have ho := or_add y0 m hy hm8); go_wp2; (refine ⟨⟨_, y0 * 256 + m, y1, y2, y3, by decide, rfl, Lib.hid ⟨by rw [HY.out.1, HM.out]; exact (wdB_step l _ 0 c HC.out (by decide)).symm, by rw [HY.out.2.1]; exact (wdB_same l _ 1 (by decide)).symm, by rw [HY.out.2.2.1]; exact (wdB_same l _ 2 (by decide)).symm, by rw [HY.out.2.2.2]; exact (wdB_same l _ 3 (by decide)).symm⟩, HR.out.1.setCell (by show w.heap.size ≤ w.heap.size + 1 + 1; omega) _, Blk.eq_ (HR.out.2.1.set_ 3 _) (by rw [show ((y0 * 256 + m : Nat) : Int) = (y0 : Int) * 256 + (m : Int) by omega]; rfl), HR.out.2.2.far (by show w.heap.size + 1 ≠ w.heap.size + 1 + 1; omega) _⟩, by simp [intOf]⟩))
        | ((have hy : y1 < 72057594037927936 := by rw [HY.out.2.1]; exact wdB_lt l _ 1 (by decide)); (have ho := or_add y1 m hy hm8); go_wp2; (refine ⟨⟨_, y0, y1 * 256 + m, y2, y3, by decide, rfl, Lib.hid ⟨by rw [HY.out.1]; exact (wdB_same l _ 0 (by decide)).symm, by rw [HY.out.2.1, HM.out]; exact (wdB_step l _ 1 c HC.out (by decide)).symm, by rw [HY.out.2.2.1]; exact (wdB_same l _ 2 (by decide)).symm, by rw [HY.out.2.2.2]; exact (wdB_same l _ 3 (by decide)).symm⟩, HR.out.1.setCell (by show w.heap.size ≤ w.heap.size + 1 + 1; omega) _, Blk.eq_ (HR.out.2.1.set_ 2 _) (by rw [show ((y1 * 256 + m : Nat) : Int) = (y1 : Int) * 256 + (m : Int) by omega]; rfl), HR.out.2.2.far (by show w.heap.size + 1 ≠ w.heap.size + 1 + 1; omega) _⟩, by simp [intOf]⟩))
        | ((have hy : y2 < 72057594037927936 := by rw [HY.out.2.2.1]; exact wdB_lt l _ 2 (by decide)); (have ho := or_add y2 m hy hm8); go_wp2; (refine ⟨⟨_, y0, y1, y2 * 256 + m, y3, by decide, rfl, Lib.hid ⟨by rw [HY.out.1]; exact (wdB_same l _ 0 (by decide)).symm, by rw [HY.out.2.1]; exact (wdB_same l _ 1 (by decide)).symm, by rw [HY.out.2.2.1, HM.out]; exact (wdB_step l _ 2 c HC.out (by decide)).symm, by rw [HY.out.2.2.2]; exact (wdB_same l _ 3 (by decide)).symm⟩, HR.out.1.setCell (by show w.heap.size ≤ w.heap.size + 1 + 1; omega) _, Blk.eq_ (HR.out.2.1.set_ 1 _) (by rw [show ((y2 * 256 + m : Nat) : Int) = (y2 : Int) * 256 + (m : Int) by omega]; rfl), HR.out.2.2.far (by show w.heap.size + 1 ≠ w.heap.size + 1 + 1; omega) _⟩, by simp [intOf]⟩))
        | ((have hy : y3 < 72057594037927936 := by rw [HY.out.2.2.2]; exact wdB_lt l _ 3 (by decide)); (have ho := or_add y3 m hy hm8); go_wp2; (refine ⟨⟨_, y0, y1, y2, y3 * 256 + m, by decide, rfl, Lib.hid ⟨by rw [HY.out.1]; exact (wdB_same l _ 0 (by decide)).symm, by rw [HY.out.2.1]; exact (wdB_same l _ 1 (by decide)).symm, by rw [HY.out.2.2.1]; exact (wdB_same l _ 2 (by decide)).symm, by rw [HY.out.2.2.2, HM.out]; exact (wdB_step l _ 3 c HC.out (by decide)).symm⟩, HR.out.1.setCell (by show w.heap.size ≤ w.heap.size + 1 + 1; omega) _, Blk.eq_ (HR.out.2.1.set_ 0 _) (by rw [show ((y3 * 256 + m : Nat) : Int) = (y3 : Int) * 256 + (m : Int) by omega]; rfl), HR.out.2.2.far (by show w.heap.size + 1 ≠ w.heap.size + 1 + 1; omega) _⟩, by simp [intOf]⟩))
    · have p1 : ¬ (k : Int) < 32 := by omega
      obtain rfl : k = 32 := by omega
      have b0 : y0 < 18446744073709551616 := by rw [HY.out.1]; exact wdB_lt8 l _ _
      have b1 : y1 < 18446744073709551616 := by rw [HY.out.2.1]; exact wdB_lt8 l _ _
      have b2 : y2 < 18446744073709551616 := by rw [HY.out.2.2.1]; exact wdB_lt8 l _ _
      have b3 : y3 < 18446744073709551616 := by rw [HY.out.2.2.2]; exact wdB_lt8 l _ _
      obtain ⟨z, hz⟩ : ∃ z, z = y3 + 18446744073709551616 * y2 + 340282366920938463463374607431768211456 * y1 + 6277101735386680763835789423207666416102355444464034512896 * y0 := ⟨_, rfl⟩
      have fz := fv_mk y3 y2 y1 y0 b3 b2 b1 b0
      rw [← hz] at fz
      have hzl : z < 115792089237316195423570985008687907853269984665640564039457584007913129639936 := by rw [hz]; exact fv_lt y3 y2 y1 y0 b3 b2 b1 b0
      have hzv : z = valB l := by rw [wdB_all l HL.out, hz, HY.out.1, HY.out.2.1, HY.out.2.2.1, HY.out.2.2.2]
      obtain ⟨n, hn⟩ : ∃ n, n = z % pM := ⟨_, rfl⟩
      have hnl : n < 115792089237316195423570985008687907853269984665640564039457584007913129639936 := by rw [hn]; exact mod_lt z
      obtain ⟨b, hbd⟩ : ∃ b, b = decide (n ≠ z) := ⟨_, rfl⟩
      have eb : ∀ W, (binOp .neq 25 (fv n) (fv z)).run Try.prog W = .ok (.bool b) W := fun W => by rw [hbd]; exact run_neq_fv W n z hnl hzl
      have cn : ∀ w, Calls Try.prog 39 #[fv z] w fun e w' => e = .returned (fv n) ∧ Below w.heap.size w w' := by
        intro w; rw [hn]; exact norm_any w z hzl
      have hS : readS l = if b = true then (0, false) else (z, true) := by
        unfold readS
        rw [← hzv, hbd, hn]
        by_cases h : z < pM
        · rw [if_pos h, Nat.mod_eq_of_lt h]; simp
        · have h2 : z % pM ≠ z := fun e => h (by rw [← e]; exact mod_lt_p z)
          rw [if_neg h]; simp [h2]
      have HS := Lib.hid hS
      have FZ := Lib.hid fz.symm
      have HP := Lib.hid hP
      clear HY b0 b1 b2 b3 hz fz hzl hzv hn hnl hbd hS q0 q1 q2 q3 ff hP
      go_wp2
      refine wp_region_G (fun _ => false) (by kernel_rfl) ?_
      try simp only [Act.put]
      refine wpAnyG_take 0 rfl (by kernel_rfl) (fun _ _ _ h => h) (YieldsG.loadF (by rfl) _ _ rfl (w.heap.size + 2) rfl (z) _ _ (HP.out) (FZ.out) Try.underlying25 rfl (by kernel_rfl)) ?_
      try simp only [Act.put, List.setIfInBounds_toArray, List.set_cons_zero, List.set_cons_succ]
      refine wpAnyG_take 1 rfl (by kernel_rfl) (fun _ _ _ h => h) (YieldsG.call (v := fv n) (by rfl) 39 _ (fun w9 => by go_simp; try (first | with_reducible rfl | rfl)) (fun w9 h9 => cn w9)) ?_
      try simp only [Act.put, List.setIfInBounds_toArray, List.set_cons_zero, List.set_cons_succ]
      refine wpAnyG_take 2 rfl (by kernel_rfl) (fun _ _ _ h => h) (YieldsG.loadF (by rfl) _ _ rfl (w.heap.size + 2) rfl (z) _ _ (HP.out) (FZ.out) Try.underlying25 rfl (by kernel_rfl)) ?_
      try simp only [Act.put, List.setIfInBounds_toArray, List.set_cons_zero, List.set_cons_succ]
      refine wpAnyG_take 3 rfl (by kernel_rfl) (fun _ _ _ h => h) (YieldsG.pure (v := .bool b) (by rfl) (fun w9 h9 => by go_simp; rw [run_eqGuard_fv]; simp only [Result.andThen_ok, eb])) ?_
      try simp only [Act.put, List.setIfInBounds_toArray, List.set_cons_zero, List.set_cons_succ]
      refine wpAnyG_done (by kernel_rfl) (fun u hu => ?_)
      have hbu := Below.gr hb hu
      have BR := Gr.blk hu hR
      have BP := Gr.blk hu HP.out
      clear hu hb hR HP eb cn
      cases b
      · have HT : Hid (readS l = (z, true)) := Lib.hid (by rw [HS.out]; rfl)
        clear HS
        go_wp2_with (first | ((with_reducible refine here_load (d := some 31) ?_); refine wpList_load_fv rfl _ _ rfl (w.heap.size + 2) rfl (z) _ _ _ (BP) (FZ.out) Try.underlying25 rfl (by kernel_rfl) ?_) | ((with_reducible refine here_store ?_); refine wpList_store_blk rfl _ _ _ rfl (w.heap.size + 1) (fcs (z)) rfl rfl _ _ (BR) (by kernel_rfl) (by rfl) (fcs_one _) ?_; intro vz hLz hqz hKz))
        exact bodyPost_ret (res_cell_tmp rfl _ _ (w.heap.size + 1) _ _ _ _ rfl hLz rfl Try.underlying25 rfl (by kernel_rfl)) rfl ⟨by rw [HT.out]; rfl, hbu.trans (hqz _ (by omega))⟩
      · have HT : Hid (readS l = (0, false)) := Lib.hid (by rw [HS.out]; rfl)
        clear HS
        go_wp2_with (first | ((with_reducible refine here_store ?_); refine wpList_store_blk rfl _ _ _ rfl (w.heap.size + 1) _ rfl rfl _ _ (BR) (by kernel_rfl) (by rfl) (by simp [Value.oneCell']) ?_; intro vz hLz hqz hKz))
        exact bodyPost_ret (res_cell_tmp rfl _ _ (w.heap.size + 1) _ _ _ _ rfl hLz rfl Try.underlying25 rfl (by kernel_rfl)) rfl ⟨by rw [HT.out]; rfl, hbu.trans (hqz _ (by omega))⟩
end Go.Proofs.Ytneeefinaejgcaa

end
section
namespace Go.Proofs.Ytneeefinaejgcaa
open Go.RowKit Go.Lib

set_option maxHeartbeats 8000000 in
set_option maxRecDepth 100000 in
theorem addR_at {v1 v2 : Value} (w : World) (x y s k : Nat) (h1 : fv x = v1) (h2 : fv y = v2) (hx : x < 115792089237316195423570985008687907853269984665640564039457584007913129639936) (hy : y < 115792089237316195423570985008687907853269984665640564039457584007913129639936) (hs : s < 115792089237316195423570985008687907853269984665640564039457584007913129639936) (he : s + 115792089237316195423570985008687907853269984665640564039457584007913129639936 * k = x + y) : Calls Try.prog 105 #[v1, v2] w fun e w' => e = .returned (fv s) ∧ Below w.heap.size w w' := by
  subst h1 h2
  obtain ⟨x0, x1, x2, x3, a0, a1, a2, a3, ex, fx⟩ := words_of x hx
  obtain ⟨y0, y1, y2, y3, b0, b1, b2, b3, ey, fy⟩ := words_of y hy
  obtain ⟨s0, c0, d0, k0, e0, r0⟩ := add0_ex x0 y0 a0 b0
  obtain ⟨s1, c1, d1, k1, e1, r1⟩ := addc_ex x1 y1 c0 a1 b1 k0
  obtain ⟨s2, c2, d2, k2, e2, r2⟩ := addc_ex x2 y2 c1 a2 b2 k1
  obtain ⟨s3, c3, d3, k3, e3, r3⟩ := addc_ex x3 y3 c2 a3 b3 k2
  have fin : s0 + 18446744073709551616 * s1 + 340282366920938463463374607431768211456 * s2 + 6277101735386680763835789423207666416102355444464034512896 * s3 = s := by omega
  have hfs := fv_mk s0 s1 s2 s3 d0 d1 d2 d3
  rw [fin] at hfs
  have Fd := Lib.hid hfs
  rw [fx, fy]
  clear fx fy ex ey hx hy hs he a0 a1 a2 a3 b0 b1 b2 b3 d0 d1 d2 d3 k0 k1 k2 k3 e0 e1 e2 e3 fin hfs
  go_enter Try.func105, Try.ntmps105
  go_wp2_with fail
  go_loopw [5, 6] (fun bo i wr => Below w.heap.size w wr ∧ Blk wr (w.heap.size + 1) 56 #[.int .u64 (y0 : Int), .int .u64 (y1 : Int), .int .u64 (y2 : Int), .int .u64 (y3 : Int)] ∧ Blk wr (w.heap.size + 2) 56 #[.int .u64 0, .int .u64 0, .int .u64 0, .int .u64 0] ∧ Hid ((i = .int .i64 0 ∧ bo = .int .u64 0 ∧ Blk wr w.heap.size 56 #[.int .u64 (x0 : Int), .int .u64 (x1 : Int), .int .u64 (x2 : Int), .int .u64 (x3 : Int)]) ∨ (i = .int .i64 1 ∧ bo = .int .u64 (c0 : Int) ∧ Blk wr w.heap.size 56 #[.int .u64 (s0 : Int), .int .u64 (x1 : Int), .int .u64 (x2 : Int), .int .u64 (x3 : Int)]) ∨ (i = .int .i64 2 ∧ bo = .int .u64 (c1 : Int) ∧ Blk wr w.heap.size 56 #[.int .u64 (s0 : Int), .int .u64 (s1 : Int), .int .u64 (x2 : Int), .int .u64 (x3 : Int)]) ∨ (i = .int .i64 3 ∧ bo = .int .u64 (c2 : Int) ∧ Blk wr w.heap.size 56 #[.int .u64 (s0 : Int), .int .u64 (s1 : Int), .int .u64 (s2 : Int), .int .u64 (x3 : Int)]) ∨ (i = .int .i64 4 ∧ bo = .int .u64 (c3 : Int) ∧ Blk wr w.heap.size 56 #[.int .u64 (s0 : Int), .int .u64 (s1 : Int), .int .u64 (s2 : Int), .int .u64 (s3 : Int)]))) (fun _ i _ => 4 - (intOf i).toNat)
  case atStart => exact ⟨below_alloc3 w _ _ _, (blk_new2 w _ _ _).alloc _, blk_new3 w _ _ _ _, Lib.hid (.inl ⟨rfl, rfl, ((Blk.new w _ _).alloc _).alloc _⟩)⟩
  case round =>
    obtain ⟨hb, BY, BR, HI⟩ := hrel
    have lY := BY.lt
    have lX : w.heap.size < wr.heap.size := by omega
    have hsz : w.heap.size + 2 < wr.heap.size := BR.lt
    rcases HI.out with ⟨rfl, rfl, BX⟩ | ⟨rfl, rfl, BX⟩ | ⟨rfl, rfl, BX⟩ | ⟨rfl, rfl, BX⟩ | ⟨rfl, rfl, BX⟩
    · clear HI
      have px : wr.cell? ⟨w.heap.size, 0, none⟩ = some (.int .u64 (x0 : Int)) := BX.cell 0
      have py : wr.cell? ⟨w.heap.size + 1, 0, none⟩ = some (.int .u64 (y0 : Int)) := BY.cell 0
      go_wp2
      refine wp_region_G (fun _ => false) (by kernel_rfl) ?_
      try simp only [Act.put]
      refine wpAnyG_take 0 rfl (by kernel_rfl) (fun _ _ _ h => h) (YieldsG.pure (by rfl) (fun w9 _ => by go_simp; try with_reducible rfl)) ?_
      try simp only [Act.put, List.setIfInBounds_toArray, List.set_cons_zero, List.set_cons_succ]
      refine wpAnyG_take 1 rfl (by kernel_rfl) (fun _ _ _ h => h) (YieldsG.pure (by rfl) (fun w9 _ => by go_simp; try with_reducible rfl)) ?_
      try simp only [Act.put, List.setIfInBounds_toArray, List.set_cons_zero, List.set_cons_succ]
      refine wpAnyG_take 2 rfl (by kernel_rfl) (fun _ _ _ h => h) (YieldsG.pure (v := .int .u64 (x0 : Int)) (by rfl) (fun w9 h9 => by have hz := (Below.cell (p := ⟨w.heap.size, 0, none⟩) h9 lX).trans px; go_simp; first | done | simp [hz])) ?_
      try simp only [Act.put, List.setIfInBounds_toArray, List.set_cons_zero, List.set_cons_succ]
      refine wpAnyG_take 3 rfl (by kernel_rfl) (fun _ _ _ h => h) (YieldsG.pure (by rfl) (fun w9 _ => by go_simp; try with_reducible rfl)) ?_
      try simp only [Act.put, List.setIfInBounds_toArray, List.set_cons_zero, List.set_cons_succ]
      refine wpAnyG_take 4 rfl (by kernel_rfl) (fun _ _ _ h => h) (YieldsG.pure (by rfl) (fun w9 _ => by go_simp; try with_reducible rfl)) ?_
      try simp only [Act.put, List.setIfInBounds_toArray, List.set_cons_zero, List.set_cons_succ]
      refine wpAnyG_take 5 rfl (by kernel_rfl) (fun _ _ _ h => h) (YieldsG.pure (v := .int .u64 (y0 : Int)) (by rfl) (fun w9 h9 => by have hz := (Below.cell (p := ⟨w.heap.size + 1, 0, none⟩) h9 lY).trans py; go_simp; first | done | simp [hz])) ?_
      try simp only [Act.put, List.setIfInBounds_toArray, List.set_cons_zero, List.set_cons_succ]
      refine wpAnyG_take 6 rfl (by kernel_rfl) (fun _ _ _ h => h) (YieldsG.pure (by rfl) (fun w9 _ => by go_simp; try with_reducible rfl)) ?_
      try simp only [Act.put, List.setIfInBounds_toArray, List.set_cons_zero, List.set_cons_succ]
      refine wpAnyG_take 7 rfl (by kernel_rfl) (fun _ _ _ h => h) (YieldsG.pure (v := .tuple #[.int .u64 (s0 : Int), .int .u64 (c0 : Int)]) (by rfl) (fun w9 h9 => by go_simp)) ?_
      try simp only [Act.put, List.setIfInBounds_toArray, List.set_cons_zero, List.set_cons_succ]
      refine wpAnyG_take 8 rfl (by kernel_rfl) (fun _ _ _ h => h) (YieldsG.pure (by rfl) (fun w9 _ => by go_simp; try with_reducible rfl)) ?_
      try simp only [Act.put, List.setIfInBounds_toArray, List.set_cons_zero, List.set_cons_succ]
      refine wpAnyG_take 9 rfl (by kernel_rfl) (fun _ _ _ h => h) (YieldsG.pure (by rfl) (fun w9 _ => by go_simp; try with_reducible rfl)) ?_
      try simp only [Act.put, List.setIfInBounds_toArray, List.set_cons_zero, List.set_cons_succ]
      refine wpAnyG_take 10 rfl (by kernel_rfl) (fun _ _ _ h => h) (YieldsG.pure (by rfl) (fun w9 _ => by go_simp; try with_reducible rfl)) ?_
      try simp only [Act.put, List.setIfInBounds_toArray, List.set_cons_zero, List.set_cons_succ]
      refine wpAnyG_take 11 rfl (by kernel_rfl) (fun _ _ _ h => h) (YieldsG.pure (by rfl) (fun w9 _ => by go_simp; try with_reducible rfl)) ?_
      try simp only [Act.put, List.setIfInBounds_toArray, List.set_cons_zero, List.set_cons_succ]
      refine wpAnyG_take 12 rfl (by kernel_rfl) (fun _ _ _ h => h) (YieldsG.pure (by rfl) (fun w9 _ => by go_simp; try with_reducible rfl)) ?_
      try simp only [Act.put, List.setIfInBounds_toArray, List.set_cons_zero, List.set_cons_succ]
      refine wpAnyG_done (by kernel_rfl) (fun u hu => ?_)
      have BXu := Gr.blk hu BX
      have BYu := Gr.blk hu BY
      have BRu := Gr.blk hu BR
      have hbu := Below.gr hb hu
      have pc : u.cell? ⟨w.heap.size, 0, none⟩ = some (.int .u64 (x0 : Int)) := BXu.cell 0
      have pf := BXu.frozen 0
      go_wp2
      refine ⟨⟨hbu.setCell (Nat.le_refl _) _, BYu.far (by show w.heap.size + 1 ≠ w.heap.size; omega) _, BRu.far (by show w.heap.size + 2 ≠ w.heap.size; omega) _, Lib.hid (.inr (.inl (⟨rfl, rfl, BXu.set_ 0 _⟩)))⟩, by decide⟩
    · clear HI
      have px : wr.cell? ⟨w.heap.size, 1, none⟩ = some (.int .u64 (x1 : Int)) := BX.cell 1
      have py : wr.cell? ⟨w.heap.size + 1, 1, none⟩ = some (.int .u64 (y1 : Int)) := BY.cell 1
      go_wp2
      refine wp_region_G (fun _ => false) (by kernel_rfl) ?_
      try simp only [Act.put]
      refine wpAnyG_take 0 rfl (by kernel_rfl) (fun _ _ _ h => h) (YieldsG.pure (by rfl) (fun w9 _ => by go_simp; try with_reducible rfl)) ?_
      try simp only [Act.put, List.setIfInBounds_toArray, List.set_cons_zero, List.set_cons_succ]
      refine wpAnyG_take 1 rfl (by kernel_rfl) (fun _ _ _ h => h) (YieldsG.pure (by rfl) (fun w9 _ => by go_simp; try with_reducible rfl)) ?_
      try simp only [Act.put, List.setIfInBounds_toArray, List.set_cons_zero, List.set_cons_succ]
      refine wpAnyG_take 2 rfl (by kernel_rfl) (fun _ _ _ h => h) (YieldsG.pure (v := .int .u64 (x1 : Int)) (by rfl) (fun w9 h9 => by have hz := (Below.cell (p := ⟨w.heap.size, 1, none⟩) h9 lX).trans px; go_simp; first | done | simp [hz])) ?_
      try simp only [Act.put, List.setIfInBounds_toArray, List.set_cons_zero, List.set_cons_succ]
      refine wpAnyG_take 3 rfl (by kernel_rfl) (fun _ _ _ h => h) (YieldsG.pure (by rfl) (fun w9 _ => by go_simp; try with_reducible rfl)) ?_
      try simp only [Act.put, List.setIfInBounds_toArray, List.set_cons_zero, List.set_cons_succ]
      refine wpAnyG_take 4 rfl (by kernel_rfl) (fun _ _ _ h => h) (YieldsG.pure (by rfl) (fun w9 _ => by go_simp; try with_reducible rfl)) ?_
      try simp only [Act.put, List.setIfInBounds_toArray, List.set_cons_zero, List.set_cons_succ]
      refine wpAnyG_take 5 rfl (by kernel_rfl) (fun _ _ _ h => h) (YieldsG.pure (v := .int .u64 (y1 : Int)) (by rfl) (fun w9 h9 => by have hz := (Below.cell (p := ⟨w.heap.size + 1, 1, none⟩) h9 lY).trans py; go_simp; first | done | simp [hz])) ?_
      try simp only [Act.put, List.setIfInBounds_toArray, List.set_cons_zero, List.set_cons_succ]
      refine wpAnyG_take 6 rfl (by kernel_rfl) (fun _ _ _ h => h) (YieldsG.pure (by rfl) (fun w9 _ => by go_simp; try with_reducible rfl)) ?_
      try simp only [Act.put, List.setIfInBounds_toArray, List.set_cons_zero, List.set_cons_succ]
      refine wpAnyG_take 7 rfl (by kernel_rfl) (fun _ _ _ h => h) (YieldsG.pure (v := .tuple #[.int .u64 (s1 : Int), .int .u64 (c1 : Int)]) (by rfl) (fun w9 h9 => by go_simp)) ?_
      try simp only [Act.put, List.setIfInBounds_toArray, List.set_cons_zero, List.set_cons_succ]
      refine wpAnyG_take 8 rfl (by kernel_rfl) (fun _ _ _ h => h) (YieldsG.pure (by rfl) (fun w9 _ => by go_simp; try with_reducible rfl)) ?_
      try simp only [Act.put, List.setIfInBounds_toArray, List.set_cons_zero, List.set_cons_succ]
      refine wpAnyG_take 9 rfl (by kernel_rfl) (fun _ _ _ h => h) (YieldsG.pure (by rfl) (fun w9 _ => by go_simp; try with_reducible rfl)) ?_
      try simp only [Act.put, List.setIfInBounds_toArray, List.set_cons_zero, List.set_cons_succ]
      refine wpAnyG_take 10 rfl (by kernel_rfl) (fun _ _ _ h => h) (YieldsG.pure (by rfl) (fun w9 _ => by go_simp; try with_reducible rfl)) ?_
      try simp only [Act.put, List.setIfInBounds_toArray, List.set_cons_zero, List.set_cons_succ]
      refine wpAnyG_take 11 rfl (by kernel_rfl) (fun _ _ _ h => h) (YieldsG.pure (by rfl) (fun w9 _ => by go_simp; try with_reducible rfl)) ?_
      try simp only [Act.put, List.setIfInBounds_toArray, List.set_cons_zero, List.set_cons_succ]
      refine wpAnyG_take 12 rfl (by kernel_rfl) (fun _ _ _ h => h) (YieldsG.pure (by rfl) (fun w9 _ => by go_simp; try with_reducible rfl)) ?_
      try simp only [Act.put, List.setIfInBounds_toArray, List.set_cons_zero, List.set_cons_succ]
      refine wpAnyG_done (by kernel_rfl) (fun u hu => ?_)
      have BXu := Gr.blk hu BX
      have BYu := Gr.blk hu BY
      have BRu := Gr.blk hu BR
      have hbu := Below.gr hb hu
      have pc : u.cell? ⟨w.heap.size, 1, none⟩ = some (.int .u64 (x1 : Int)) := BXu.cell 1
      have pf := BXu.frozen 1
      go_wp2
      refine ⟨⟨hbu.setCell (Nat.le_refl _) _, BYu.far (by show w.heap.size + 1 ≠ w.heap.size; omega) _, BRu.far (by show w.heap.size + 2 ≠ w.heap.size; omega) _, Lib.hid (.inr (.inr (.inl (⟨rfl, rfl, BXu.set_ 1 _⟩))))⟩, by decide⟩
    · clear HI
      have px : wr.cell? ⟨w.heap.size, 2, none⟩ = some (.int .u64 (x2 : Int)) := BX.cell 2
      have py : wr.cell? ⟨w.heap.size + 1, 2, none⟩ = some (.int .u64 (y2 : Int)) := BY.cell 2
      go_wp2
      refine wp_region_G (fun _ => false) (by kernel_rfl) ?_
      try simp only [Act.put]
      refine wpAnyG_take 0 rfl (by kernel_rfl) (fun _ _ _ h => h) (YieldsG.pure (by rfl) (fun w9 _ => by go_simp; try with_reducible rfl)) ?_
      try simp only [Act.put, List.setIfInBounds_toArray, List.set_cons_zero, List.set_cons_succ]
      refine wpAnyG_take 1 rfl (by kernel_rfl) (fun _ _ _ h => h) (YieldsG.pure (by rfl) (fun w9 _ => by go_simp; try with_reducible rfl)) ?_
      try simp only [Act.put, List.setIfInBounds_toArray, List.set_cons_zero, List.set_cons_succ]
      refine wpAnyG_take 2 rfl (by kernel_rfl) (fun _ _ _ h => h) (YieldsG.pure (v := .int .u64 (x2 : Int)) (by rfl) (fun w9 h9 => by have hz := (Below.cell (p := ⟨w.heap.size, 2, none⟩) h9 lX).trans px; go_simp; first | done | simp [hz])) ?_
      try simp only [Act.put, List.setIfInBounds_toArray, List.set_cons_zero, List.set_cons_succ]
      refine wpAnyG_take 3 rfl (by kernel_rfl) (fun _ _ _ h => h) (YieldsG.pure (by rfl) (fun w9 _ => by go_simp; try with_reducible rfl)) ?_
      try simp only [Act.put, List.setIfInBounds_toArray, List.set_cons_zero, List.set_cons_succ]
      refine wpAnyG_take 4 rfl (by kernel_rfl) (fun _ _ _ h => h) (YieldsG.pure (by rfl) (fun w9 _ => by go_simp; try with_reducible rfl)) ?_
      try simp only [Act.put, List.setIfInBounds_toArray, List.set_cons_zero, List.set_cons_succ]
      refine wpAnyG_take 5 rfl (by kernel_rfl) (fun _ _ _ h => h) (YieldsG.pure (v := .int .u64 (y2 : Int)) (by rfl) (fun w9 h9 => by have hz := (Below.cell (p := ⟨w.heap.size + 1, 2, none⟩) h9 lY).trans py; go_simp; first | done | simp [hz])) ?_
      try simp only [Act.put, List.setIfInBounds_toArray, List.set_cons_zero, List.set_cons_succ]
      refine wpAnyG_take 6 rfl (by kernel_rfl) (fun _ _ _ h => h) (YieldsG.pure (by rfl) (fun w9 _ => by go_simp; try with_reducible rfl)) ?_
      try simp only [Act.put, List.setIfInBounds_toArray, List.set_cons_zero, List.set_cons_succ]
      refine wpAnyG_take 7 rfl (by kernel_rfl) (fun _ _ _ h => h) (YieldsG.pure (v := .tuple #[.int .u64 (s2 : Int), .int .u64 (c2 : Int)]) (by rfl) (fun w9 h9 => by go_simp)) ?_
      try simp only [Act.put, List.setIfInBounds_toArray, List.set_cons_zero, List.set_cons_succ]
      refine wpAnyG_take 8 rfl (by kernel_rfl) (fun _ _ _ h => h) (YieldsG.pure (by rfl) (fun w9 _ => by go_simp; try with_reducible rfl)) ?_
      try simp only [Act.put, List.setIfInBounds_toArray, List.set_cons_zero, List.set_cons_succ]
      refine wpAnyG_take 9 rfl (by kernel_rfl) (fun _ _ _ h => h) (YieldsG.pure (by rfl) (fun w9 _ => by go_simp; try with_reducible rfl)) ?_
      try simp only [Act.put, List.setIfInBounds_toArray, List.set_cons_zero, List.set_cons_succ]
      refine wpAnyG_take 10 rfl (by kernel_rfl) (fun _ _ _ h => h) (YieldsG.pure (by rfl) (fun w9 _ => by go_simp; try with_reducible rfl)) ?_
      try simp only [Act.put, List.setIfInBounds_toArray, List.set_cons_zero, List.set_cons_succ]
      refine wpAnyG_take 11 rfl (by kernel_rfl) (fun _ _ _ h => h) (YieldsG.pure (by rfl) (fun w9 _ => by go_simp; try with_reducible rfl)) ?_
      try simp only [Act.put, List.setIfInBounds_toArray, List.set_cons_zero, List.set_cons_succ]
      refine wpAnyG_take 12 rfl (by kernel_rfl) (fun _ _ _ h => h) (YieldsG.pure (by rfl) (fun w9 _ => by go_simp; try with_reducible rfl)) ?_
      try simp only [Act.put, List.setIfInBounds_toArray, List.set_cons_zero, List.set_cons_succ]
      refine wpAnyG_done (by kernel_rfl) (fun u hu => ?_)
      have BXu := Gr.blk hu BX
      have BYu := Gr.blk hu BY
      have BRu := Gr.blk hu BR
      have hbu := Below.gr hb hu
      have pc : u.cell? ⟨w.heap.size, 2, none⟩ = some (.int .u64 (x2 : Int)) := BXu.cell 2
      have pf := BXu.frozen 2
      go_wp2
      refine ⟨⟨hbu.setCell (Nat.le_refl _) _, BYu.far (by show w.heap.size + 1 ≠ w.heap.size; omega) _, BRu.far (by show w.heap.size + 2 ≠ w.heap.size; omega) _, Lib.hid (.inr (.inr (.inr (.inl (⟨rfl, rfl, BXu.set_ 2 _⟩)))))⟩, by decide⟩
    · clear HI
      have px : wr.cell? ⟨w.heap.size, 3, none⟩ = some (.int .u64 (x3 : Int)) := BX.cell 3
      have py : wr.cell? ⟨w.heap.size + 1, 3, none⟩ = some (.int .u64 (y3 : Int)) := BY.cell 3
      go_wp2
      refine wp_region_G (fun _ => false) (by kernel_rfl) ?_
      try simp only [Act.put]
      refine wpAnyG_take 0 rfl (by kernel_rfl) (fun _ _ _ h => h) (YieldsG.pure (by rfl) (fun w9 _ => by go_simp; try with_reducible rfl)) ?_
      try simp only [Act.put, List.setIfInBounds_toArray, List.set_cons_zero, List.set_cons_succ]
      refine wpAnyG_take 1 rfl (by kernel_rfl) (fun _ _ _ h => h) (YieldsG.pure (by rfl) (fun w9 _ => by go_simp; try with_reducible rfl)) ?_
      try simp only [Act.put, List.setIfInBounds_toArray, List.set_cons_zero, List.set_cons_succ]
      refine wpAnyG_take 2 rfl (by kernel_rfl) (fun _ _ _ h => h) (YieldsG.pure (v := .int .u64 (x3 : Int)) (by rfl) (fun w9 h9 => by have hz := (Below.cell (p := ⟨w.heap.size, 3, none⟩) h9 lX).trans px; go_simp; first | done | simp [hz])) ?_
      try simp only [Act.put, List.setIfInBounds_toArray, List.set_cons_zero, List.set_cons_succ]
      refine wpAnyG_take 3 rfl (by kernel_rfl) (fun _ _ _ h => h) (YieldsG.pure (by rfl) (fun w9 _ => by go_simp; try with_reducible rfl)) ?_
      try simp only [Act.put, List.setIfInBounds_toArray, List.set_cons_zero, List.set_cons_succ]
      refine wpAnyG_take 4 rfl (by kernel_rfl) (fun _ _ _ h => h) (YieldsG.pure (by rfl) (fun w9 _ => by go_simp; try with_reducible rfl)) ?_
      try simp only [Act.put, List.setIfInBounds_toArray, List.set_cons_zero, List.set_cons_succ]
      refine wpAnyG_take 5 rfl (by kernel_rfl) (fun _ _ _ h => h) (YieldsG.pure (v := .int .u64 (y3 : Int)) (by rfl) (fun w9 h9 => by have hz := (Below.cell (p := ⟨w.heap.size + 1, 3, none⟩) h9 lY).trans py; go_simp; first | done | simp [hz])) ?_
      try simp only [Act.put, List.setIfInBounds_toArray, List.set_cons_zero, List.set_cons_succ]
      refine wpAnyG_take 6 rfl (by kernel_rfl) (fun _ _ _ h => h) (YieldsG.pure (by rfl) (fun w9 _ => by go_simp; try with_reducible rfl)) ?_
      try simp only [Act.put, List.setIfInBounds_toArray, List.set_cons_zero, List.set_cons_succ]
      refine wpAnyG_take 7 rfl (by kernel_rfl) (fun _ _ _ h => h) (YieldsG.pure (v := .tuple #[.int .u64 (s3 : Int), .int .u64 (c3 : Int)]) (by rfl) (fun w9 h9 => by go_simp)) ?_
      try simp only [Act.put, List.setIfInBounds_toArray, List.set_cons_zero, List.set_cons_succ]
      refine wpAnyG_take 8 rfl (by kernel_rfl) (fun _ _ _ h => h) (YieldsG.pure (by rfl) (fun w9 _ => by go_simp; try with_reducible rfl)) ?_
      try simp only [Act.put, List.setIfInBounds_toArray, List.set_cons_zero, List.set_cons_succ]
      refine wpAnyG_take 9 rfl (by kernel_rfl) (fun _ _ _ h => h) (YieldsG.pure (by rfl) (fun w9 _ => by go_simp; try with_reducible rfl)) ?_
      try simp only [Act.put, List.setIfInBounds_toArray, List.set_cons_zero, List.set_cons_succ]
      refine wpAnyG_take 10 rfl (by kernel_rfl) (fun _ _ _ h => h) (YieldsG.pure (by rfl) (fun w9 _ => by go_simp; try with_reducible rfl)) ?_
      try simp only [Act.put, List.setIfInBounds_toArray, List.set_cons_zero, List.set_cons_succ]
      refine wpAnyG_take 11 rfl (by kernel_rfl) (fun _ _ _ h => h) (YieldsG.pure (by rfl) (fun w9 _ => by go_simp; try with_reducible rfl)) ?_
      try simp only [Act.put, List.setIfInBounds_toArray, List.set_cons_zero, List.set_cons_succ]
      refine wpAnyG_take 12 rfl (by kernel_rfl) (fun _ _ _ h => h) (YieldsG.pure (by rfl) (fun w9 _ => by go_simp; try with_reducible rfl)) ?_
      try simp only [Act.put, List.setIfInBounds_toArray, List.set_cons_zero, List.set_cons_succ]
      refine wpAnyG_done (by kernel_rfl) (fun u hu => ?_)
      have BXu := Gr.blk hu BX
      have BYu := Gr.blk hu BY
      have BRu := Gr.blk hu BR
      have hbu := Below.gr hb hu
      have pc : u.cell? ⟨w.heap.size, 3, none⟩ = some (.int .u64 (x3 : Int)) := BXu.cell 3
      have pf := BXu.frozen 3
      go_wp2
      refine ⟨⟨hbu.setCell (Nat.le_refl _) _, BYu.far (by show w.heap.size + 1 ≠ w.heap.size; omega) _, BRu.far (by show w.heap.size + 2 ≠ w.heap.size; omega) _, Lib.hid (.inr (.inr (.inr (.inr (⟨rfl, rfl, BXu.set_ 3 _⟩)))))⟩, by decide⟩
    · clear HI
      have BS := BX.eq_ (fcs_words Fd.out.symm).symm
      go_wp2_with (first | ((with_reducible refine here_load (d := some 28) ?_); refine wpList_load_fv rfl _ _ rfl (w.heap.size) rfl (s) _ _ _ (BS) (fv_fcs s) Try.underlying56 rfl (by kernel_rfl) ?_) | ((with_reducible refine here_store ?_); refine wpList_store_blk rfl _ _ _ rfl (w.heap.size + 2) (fcs (s)) rfl rfl _ _ (BR) (by kernel_rfl) (by rfl) (fcs_one _) ?_; intro w9 hL9 hB9 hK9))
      exact bodyPost_ret (results_cell_row rfl _ _ (w.heap.size + 2) _ _ (0, 0) _ rfl hL9 Try.underlying56 rfl (by kernel_rfl)) rfl ⟨rfl, hb.trans (hB9 _ (by omega))⟩

/-- (p + 1) / 4 -/
def eQ : Nat := 28948022309329048855892746252171976963317496166410141009864396001977208667916
def rtR (x : Nat) : Nat := pw x eQ
/-- the even root, if there is one -/
def sqrtR (x : Nat) : Nat × Bool := if mulP (rtR x) (rtR x) ≠ x % pM then (0, false) else if rtR x % 18446744073709551616 % 2 = 1 then (negP (rtR x), true) else (rtR x, true)
theorem fv_eQ : fv 28948022309329048855892746252171976963317496166410141009864396001977208667916 = .agg #[.int .u64 18446744072635809548, .int .u64 18446744073709551615, .int .u64 18446744073709551615, .int .u64 4611686018427387903] := rfl
theorem rem_two (n : Nat) (_ : n < 18446744073709551616) : ∃ b : Bool, b = decide (n % 2 = 1) ∧ (((n : Int) % 2 == 1) = b) := by
  refine ⟨_, rfl, ?_⟩
  rcases (show n % 2 = 0 ∨ n % 2 = 1 by omega) with h | h
  · have : (n : Int) % 2 = 0 := by omega
    rw [this, h]; rfl
  · have : (n : Int) % 2 = 1 := by omega
    rw [this, h]; rfl

set_option maxHeartbeats 8000000 in
set_option maxRecDepth 100000 in
theorem sqrtR_any (w : World) (x : Nat) (hx : x < 115792089237316195423570985008687907853269984665640564039457584007913129639936) : Calls Try.prog 88 #[fv x] w fun e w' => e = .returned (.tuple #[fv (sqrtR x).1, .bool (sqrtR x).2]) ∧ Below w.heap.size w w' := by
  obtain ⟨p, hp⟩ : ∃ p, p = 115792089237316195423570985008687907853269984665640564039457584007908834671663 := ⟨_, rfl⟩
  obtain ⟨one, h1⟩ : ∃ n, n = 1 := ⟨_, rfl⟩
  obtain ⟨e, he⟩ : ∃ e, e = 115792089237316195423570985008687907853269984665640564039457584007908834671663 + 1 := ⟨_, rfl⟩
  obtain ⟨q, hq⟩ : ∃ q, q = eQ := ⟨_, rfl⟩
  obtain ⟨r, hr⟩ : ∃ r, r = rtR x := ⟨_, rfl⟩
  obtain ⟨m, hm⟩ : ∃ z, z = mulP r r := ⟨_, rfl⟩
  obtain ⟨n, hn⟩ : ∃ z, z = x % pM := ⟨_, rfl⟩
  obtain ⟨g, hg⟩ : ∃ z, z = negP r := ⟨_, rfl⟩
  have lq : q < 115792089237316195423570985008687907853269984665640564039457584007913129639936 := by rw [hq, eQ]; omega
  have lr : r < 115792089237316195423570985008687907853269984665640564039457584007913129639936 := by rw [hr]; exact pw_lt _ _
  have lm : m < 115792089237316195423570985008687907853269984665640564039457584007913129639936 := by rw [hm]; exact mulP_lt _ _
  have ln : n < 115792089237316195423570985008687907853269984665640564039457584007913129639936 := by rw [hn]; exact mod_lt x
  have cP : ∀ w, Calls Try.prog 36 #[] w fun e w' => e = .returned (.agg #[.int .u64 18446744069414583343, .int .u64 18446744073709551615, .int .u64 18446744073709551615, .int .u64 18446744073709551615, .int .u64 4294968273, .int .u64 0, .int .u64 0]) ∧ Below w.heap.size w w' := refP_any
  have c1 : ∀ w, Calls Try.prog 66 #[.int .u64 1] w fun e w' => e = .returned (fv one) ∧ Below w.heap.size w w' := fun w => small_at w one 1 (by rw [h1]; rfl) (by omega)
  have cA : ∀ w, Calls Try.prog 105 #[fv p, fv one] w fun r w' => r = .returned (fv e) ∧ Below w.heap.size w w' := fun w => addR_at w p one e 0 rfl rfl (by omega) (by omega) (by omega) (by omega)
  have cW : ∀ w, Calls Try.prog 67 #[.agg #[.int .u64 18446744069414583343, .int .u64 18446744073709551615, .int .u64 18446744073709551615, .int .u64 18446744073709551615, .int .u64 4294968273, .int .u64 0, .int .u64 0], fv x, fv q] w fun e w' => e = .returned (fv r) ∧ Below w.heap.size w w' := by
    intro w; rw [hr, rtR, ← hq]; exact power_any w x q hx lq
  have cM : ∀ w, Calls Try.prog 57 #[.agg #[.int .u64 18446744069414583343, .int .u64 18446744073709551615, .int .u64 18446744073709551615, .int .u64 18446744073709551615, .int .u64 4294968273, .int .u64 0, .int .u64 0], fv r, fv r] w fun e w' => e = .returned (fv m) ∧ Below w.heap.size w w' := by
    intro w; rw [hm]; exact mulR_any w r r lr lr
  have cN : ∀ w, Calls Try.prog 28 #[.agg #[.int .u64 18446744069414583343, .int .u64 18446744073709551615, .int .u64 18446744073709551615, .int .u64 18446744073709551615, .int .u64 4294968273, .int .u64 0, .int .u64 0], fv x] w fun e w' => e = .returned (fv n) ∧ Below w.heap.size w w' := by
    intro w; rw [hn]; exact normR_any w x hx
  have cG : ∀ w, Calls Try.prog 91 #[.agg #[.int .u64 18446744069414583343, .int .u64 18446744073709551615, .int .u64 18446744073709551615, .int .u64 18446744073709551615, .int .u64 4294968273, .int .u64 0, .int .u64 0], fv r] w fun e w' => e = .returned (fv g) ∧ Below w.heap.size w w' := by
    intro w; rw [hg]; exact negR_any w r lr
  obtain ⟨b, hb⟩ : ∃ b, b = decide (m ≠ n) := ⟨_, rfl⟩
  have eb : ∀ W, (binOp .neq 56 (fv m) (fv n)).run Try.prog W = .ok (.bool b) W := fun W => by rw [hb]; exact Nm.run_neq_fv W m n lm ln
  obtain ⟨r0, r1, r2, r3, a0, a1, a2, a3, er, fr⟩ := words_of r lr
  obtain ⟨o, ho, hob⟩ := rem_two r0 a0
  have hS : sqrtR x = if b = true then (0, false) else if o = true then (g, true) else (r, true) := by
    unfold sqrtR
    have h0 : r % 18446744073709551616 = r0 := by omega
    rw [← hr, ← hm, ← hn, ← hg, hb, ho, h0]
    by_cases h1 : m = n <;> by_cases h2 : r0 % 2 = 1 <;> simp [h1, h2]
  have FP : Hid (fv p = .agg #[.int .u64 18446744069414583343, .int .u64 18446744073709551615, .int .u64 18446744073709551615, .int .u64 18446744073709551615]) := Lib.hid (by rw [hp]; exact fv_P)
  have FE : Hid (fv e = .agg #[.int .u64 18446744069414583344, .int .u64 18446744073709551615, .int .u64 18446744073709551615, .int .u64 18446744073709551615]) := Lib.hid (by rw [he]; rfl)
  have FQ : Hid (fv q = .agg #[.int .u64 18446744072635809548, .int .u64 18446744073709551615, .int .u64 18446744073709551615, .int .u64 4611686018427387903]) := Lib.hid (by rw [hq]; exact fv_eQ)
  have FR := Lib.hid fr
  obtain ⟨x0, x1, x2, x3, fx⟩ := words_fv x hx
  have FX := Lib.hid fx
  rw [fx, hS]
  clear fx hx hp h1 he hq hr hm hn hg lq lr lm ln hb ho hS a0 a1 a2 a3 er fr
  go_enter Try.func88, Try.ntmps88
  go_wp2_with fail
  refine (cP _).mono ?_
  rintro z w1 ⟨rfl, k1⟩
  have BX := Gr.blk k1 ((Blk.new w _ _).alloc _)
  have BR := Gr.blk k1 (blk_new2 w _ _ _)
  have hB := Below.gr (below_alloc2 w _ _) k1
  have sz1 : w.heap.size + 1 < w1.heap.size := BR.lt
  clear k1 cP
  go_wp2_with (first | ((with_reducible refine here_store ?_); refine wpList_store_blk rfl _ _ _ rfl (w1.heap.size) #[.int .u64 18446744069414583343, .int .u64 18446744073709551615, .int .u64 18446744073709551615, .int .u64 18446744073709551615, .int .u64 4294968273, .int .u64 0, .int .u64 0] rfl rfl _ _ (Blk.new w1 _ _) (by kernel_rfl) (by rfl) (by simp [Value.oneCell']) ?_; intro w2 hL2 hq2 hK2; have BX2 := hK2 _ (by omega) _ _ (BX.alloc _); have BR2 := hK2 _ (by omega) _ _ (BR.alloc _); have hB2 := (hB.alloc (by omega) _).trans (hq2 _ (by omega))))
  refine wp_region_G (fun j => j == 5) (by kernel_rfl) ?_
  try simp only [Act.put]
  refine wpAnyG_take 0 rfl (by kernel_rfl) (fun _ _ _ h => h) (YieldsG.pure (by rfl) (fun w9 _ => by go_simp; try with_reducible rfl)) ?_
  try simp only [Act.put, List.setIfInBounds_toArray, List.set_cons_zero, List.set_cons_succ]
  refine wpAnyG_take 1 rfl (by kernel_rfl) (fun _ _ _ h => h) (YieldsG.loadP (by rfl) _ _ rfl w1.heap.size rfl p _ (Blk.lt hL2) (mod_range hL2) FP.out Try.underlying56 rfl (by kernel_rfl)) ?_
  try simp only [Act.put, List.setIfInBounds_toArray, List.set_cons_zero, List.set_cons_succ]
  refine wpAnyG_take 2 rfl (by kernel_rfl) (fun _ _ _ h => h) (YieldsG.call (v := fv one) (by rfl) 66 _ (fun w9 => by go_simp; try (first | with_reducible rfl | rfl)) (fun w9 h9 => c1 w9)) ?_
  try simp only [Act.put, List.setIfInBounds_toArray, List.set_cons_zero, List.set_cons_succ]
  refine wpAnyG_take 3 rfl (by kernel_rfl) (fun _ _ _ h => h) (YieldsG.call (v := fv e) (by rfl) 105 _ (fun w9 => by go_simp; try (first | with_reducible rfl | rfl)) (fun w9 h9 => cA w9)) ?_
  try simp only [Act.put, List.setIfInBounds_toArray, List.set_cons_zero, List.set_cons_succ]
  refine wpAnyG_sole 4 rfl (by kernel_rfl) (by rfl) (fun w4 h4 K hK => ?_)
  go_simp
  refine hK _ _ (fun _ => gr_alloc _ _) ?_
  clear hK K
  try simp only [Act.put, List.setIfInBounds_toArray, List.set_cons_zero, List.set_cons_succ]
  refine wpAnyG_store 5 rfl (by kernel_rfl) (by rfl) _ _ _ rfl (w4.heap.size) (fcs (e)) rfl rfl _ _ (Blk.new w4 _ _) (by kernel_rfl) (by rfl) (fcs_one _) rfl (fun w6 h6 w7 hB7 hL7 => ?_)
  try simp only [Act.put]
  refine wpAnyG_done (by kernel_rfl) (fun w8 h8 => ?_)
  have sz4 : w1.heap.size < w4.heap.size := by have := hL2.lt; have := h4.size; omega
  have BM8 : Blk w8 w1.heap.size 60 #[.int .u64 18446744069414583343, .int .u64 18446744073709551615, .int .u64 18446744073709551615, .int .u64 18446744073709551615, .int .u64 4294968273, .int .u64 0, .int .u64 0] := Gr.blk h8 (Blk.below (B := w4.heap.size) (Gr.blk h6 (Blk.alloc (Gr.blk h4 hL2) _)) (hB7 _ (Nat.le_refl _)) (by omega))
  have BX8 := Gr.blk h8 (Blk.below (B := w4.heap.size) (Gr.blk h6 (Blk.alloc (Gr.blk h4 BX2) _)) (hB7 _ (Nat.le_refl _)) (by omega))
  have BR8 := Gr.blk h8 (Blk.below (B := w4.heap.size) (Gr.blk h6 (Blk.alloc (Gr.blk h4 BR2) _)) (hB7 _ (Nat.le_refl _)) (by omega))
  have BE8 : Blk w8 w4.heap.size 56 #[.int .u64 18446744069414583344, .int .u64 18446744073709551615, .int .u64 18446744073709551615, .int .u64 18446744073709551615] := (Gr.blk h8 hL7).eq_ (fcs_words FE.out)
  have hB8 : Below w.heap.size w w8 := Below.gr ((Below.gr ((Below.gr hB2 h4).alloc (by omega) _) h6).trans (hB7 _ (by omega))) h8
  clear h4 h6 hB7 hL7 h8 c1 cA hL2 BX2 BR2 hB2
  go_wp2_with fail
  go_loopw [6, 7] (fun rs i wr => Below w.heap.size w wr ∧ Blk wr w1.heap.size 60 #[.int .u64 18446744069414583343, .int .u64 18446744073709551615, .int .u64 18446744073709551615, .int .u64 18446744073709551615, .int .u64 4294968273, .int .u64 0, .int .u64 0] ∧ Blk wr w.heap.size 56 #[.int .u64 x0, .int .u64 x1, .int .u64 x2, .int .u64 x3] ∧ Blk wr (w.heap.size + 1) 56 #[.int .u64 0, .int .u64 0, .int .u64 0, .int .u64 0] ∧ Hid ((i = .int .i64 3 ∧ rs = .int .u64 0 ∧ Blk wr w4.heap.size 56 #[.int .u64 18446744069414583344, .int .u64 18446744073709551615, .int .u64 18446744073709551615, .int .u64 18446744073709551615]) ∨ (i = .int .i64 2 ∧ rs = .int .u64 3 ∧ Blk wr w4.heap.size 56 #[.int .u64 18446744069414583344, .int .u64 18446744073709551615, .int .u64 18446744073709551615, .int .u64 4611686018427387903]) ∨ (i = .int .i64 1 ∧ rs = .int .u64 3 ∧ Blk wr w4.heap.size 56 #[.int .u64 18446744069414583344, .int .u64 18446744073709551615, .int .u64 18446744073709551615, .int .u64 4611686018427387903]) ∨ (i = .int .i64 0 ∧ rs = .int .u64 3 ∧ Blk wr w4.heap.size 56 #[.int .u64 18446744069414583344, .int .u64 18446744073709551615, .int .u64 18446744073709551615, .int .u64 4611686018427387903]) ∨ (i = .int .i64 (-1) ∧ rs = .int .u64 0 ∧ Blk wr w4.heap.size 56 #[.int .u64 18446744072635809548, .int .u64 18446744073709551615, .int .u64 18446744073709551615, .int .u64 4611686018427387903]))) (fun _ i _ => (intOf i + 1).toNat)
  case atStart => exact ⟨hB8, BM8, BX8, BR8, Lib.hid (.inl ⟨rfl, rfl, BE8⟩)⟩
  case round =>
    clear hB8 BM8 BX8 BR8 BE8
    obtain ⟨hb, BM, BX, BR, HI⟩ := hrel
    rcases HI.out with ⟨rfl, rfl, BE⟩ | ⟨rfl, rfl, BE⟩ | ⟨rfl, rfl, BE⟩ | ⟨rfl, rfl, BE⟩ | ⟨rfl, rfl, BE⟩
    · clear HI
      have pe : wr.cell? ⟨w4.heap.size, 3, none⟩ = some (.int .u64 18446744073709551615) := BE.cell 3
      have pf := BE.frozen 3
      go_wp2
      refine ⟨⟨hb.setCell (by show w.heap.size ≤ w4.heap.size; omega) _, BM.far (by show w1.heap.size ≠ w4.heap.size; omega) _, BX.far (by show w.heap.size ≠ w4.heap.size; omega) _, BR.far (by show w.heap.size + 1 ≠ w4.heap.size; omega) _, Lib.hid (.inr (.inl (⟨rfl, rfl, BE.set_ 3 _⟩)))⟩, by decide⟩
    · clear HI
      have pe : wr.cell? ⟨w4.heap.size, 2, none⟩ = some (.int .u64 18446744073709551615) := BE.cell 2
      have pf := BE.frozen 2
      go_wp2
      refine ⟨⟨hb.setCell (by show w.heap.size ≤ w4.heap.size; omega) _, BM.far (by show w1.heap.size ≠ w4.heap.size; omega) _, BX.far (by show w.heap.size ≠ w4.heap.size; omega) _, BR.far (by show w.heap.size + 1 ≠ w4.heap.size; omega) _, Lib.hid (.inr (.inr (.inl (⟨rfl, rfl, BE.set_ 2 _⟩))))⟩, by decide⟩
    · clear HI
      have pe : wr.cell? ⟨w4.heap.size, 1, none⟩ = some (.int .u64 18446744073709551615) := BE.cell 1
      have pf := BE.frozen 1
      go_wp2
      refine ⟨⟨hb.setCell (by show w.heap.size ≤ w4.heap.size; omega) _, BM.far (by show w1.heap.size ≠ w4.heap.size; omega) _, BX.far (by show w.heap.size ≠ w4.heap.size; omega) _, BR.far (by show w.heap.size + 1 ≠ w4.heap.size; omega) _, Lib.hid (.inr (.inr (.inr (.inl (⟨rfl, rfl, BE.set_ 1 _⟩)))))⟩, by decide⟩
    · clear HI
      have pe : wr.cell? ⟨w4.heap.size, 0, none⟩ = some (.int .u64 18446744069414583344) := BE.cell 0
      have pf := BE.frozen 0
      go_wp2
      refine ⟨⟨hb.setCell (by show w.heap.size ≤ w4.heap.size; omega) _, BM.far (by show w1.heap.size ≠ w4.heap.size; omega) _, BX.far (by show w.heap.size ≠ w4.heap.size; omega) _, BR.far (by show w.heap.size + 1 ≠ w4.heap.size; omega) _, Lib.hid (.inr (.inr (.inr (.inr (⟨rfl, rfl, BE.set_ 0 _⟩)))))⟩, by decide⟩
    · clear HI
      have sl := BE.lt
      go_wp2_with (first | ((with_reducible refine here_load (d := some 31) ?_); refine wpList_load_blk rfl _ _ rfl w1.heap.size rfl _ _ _ (BM) Try.underlying60 rfl (by kernel_rfl) ?_) | ((with_reducible refine here_load (d := some 32) ?_); refine wpList_load_fv rfl _ _ rfl (w.heap.size) rfl (x) _ _ _ (BX) (FX.out) Try.underlying56 rfl (by kernel_rfl) ?_) | ((with_reducible refine here_load (d := some 33) ?_); refine wpList_load_fv rfl _ _ rfl (w4.heap.size) rfl (q) _ _ _ (BE) (FQ.out) Try.underlying56 rfl (by kernel_rfl) ?_))
      refine (cW _).mono ?_
      rintro z w5 ⟨rfl, k1⟩
      have BM := Gr.blk k1 BM
      have BX := Gr.blk k1 BX
      have BR := Gr.blk k1 BR
      have hb := Below.gr hb k1
      have sz5 : w4.heap.size < w5.heap.size := Nat.lt_of_lt_of_le sl k1.size
      clear k1 cW BE
      go_wp2_with (first | ((with_reducible refine here_store ?_); refine wpList_store_blk rfl _ _ _ rfl (w5.heap.size) (fcs (r)) rfl rfl _ _ (Blk.new w5 _ _) (by kernel_rfl) (by rfl) (fcs_one _) ?_; intro w6 hL6 hq6 hK6; have BM6 := hK6 _ (by omega) _ _ (BM.alloc _); have BX6 := hK6 _ (by omega) _ _ (BX.alloc _); have BR6 := hK6 _ (by omega) _ _ (BR.alloc _); have hB6 := (hb.alloc (by omega) _).trans (hq6 _ (by omega))))
      refine wp_region_G (fun _ => false) (by kernel_rfl) ?_
      try simp only [Act.put]
      refine wpAnyG_take 0 rfl (by kernel_rfl) (fun _ _ _ h => h) (YieldsG.load (by rfl) _ _ rfl w1.heap.size 0 rfl ([.int .u64 18446744069414583343, .int .u64 18446744073709551615, .int .u64 18446744073709551615, .int .u64 18446744073709551615, .int .u64 4294968273, .int .u64 0, .int .u64 0]) _ (Blk.lt (BM6)) (Blk.range (BM6)) Try.underlying60 rfl (by kernel_rfl)) ?_
      try simp only [Act.put, List.setIfInBounds_toArray, List.set_cons_zero, List.set_cons_succ]
      refine wpAnyG_take 1 rfl (by kernel_rfl) (fun _ _ _ h => h) (YieldsG.loadF (by rfl) _ _ rfl (w5.heap.size) rfl (r) _ _ (hL6) (fv_fcs _) Try.underlying56 rfl (by kernel_rfl)) ?_
      try simp only [Act.put, List.setIfInBounds_toArray, List.set_cons_zero, List.set_cons_succ]
      refine wpAnyG_take 2 rfl (by kernel_rfl) (fun _ _ _ h => h) (YieldsG.loadF (by rfl) _ _ rfl (w5.heap.size) rfl (r) _ _ (hL6) (fv_fcs _) Try.underlying56 rfl (by kernel_rfl)) ?_
      try simp only [Act.put, List.setIfInBounds_toArray, List.set_cons_zero, List.set_cons_succ]
      refine wpAnyG_take 3 rfl (by kernel_rfl) (fun _ _ _ h => h) (YieldsG.call (v := fv m) (by rfl) 57 _ (fun w9 => by go_simp; try (first | with_reducible rfl | rfl)) (fun w9 h9 => cM w9)) ?_
      try simp only [Act.put, List.setIfInBounds_toArray, List.set_cons_zero, List.set_cons_succ]
      refine wpAnyG_take 4 rfl (by kernel_rfl) (fun _ _ _ h => h) (YieldsG.load (by rfl) _ _ rfl w1.heap.size 0 rfl ([.int .u64 18446744069414583343, .int .u64 18446744073709551615, .int .u64 18446744073709551615, .int .u64 18446744073709551615, .int .u64 4294968273, .int .u64 0, .int .u64 0]) _ (Blk.lt (BM6)) (Blk.range (BM6)) Try.underlying60 rfl (by kernel_rfl)) ?_
      try simp only [Act.put, List.setIfInBounds_toArray, List.set_cons_zero, List.set_cons_succ]
      refine wpAnyG_take 5 rfl (by kernel_rfl) (fun _ _ _ h => h) (YieldsG.loadF (by rfl) _ _ rfl (w.heap.size) rfl (x) _ _ (BX6) (FX.out) Try.underlying56 rfl (by kernel_rfl)) ?_
      try simp only [Act.put, List.setIfInBounds_toArray, List.set_cons_zero, List.set_cons_succ]
      refine wpAnyG_take 6 rfl (by kernel_rfl) (fun _ _ _ h => h) (YieldsG.call (v := fv n) (by rfl) 28 _ (fun w9 => by go_simp; try (first | with_reducible rfl | rfl)) (fun w9 h9 => cN w9)) ?_
      try simp only [Act.put, List.setIfInBounds_toArray, List.set_cons_zero, List.set_cons_succ]
      refine wpAnyG_take 7 rfl (by kernel_rfl) (fun _ _ _ h => h) (YieldsG.pure (v := .bool b) (by rfl) (fun w9 h9 => by go_simp; rw [Nm.run_eqGuard_fv]; simp only [Result.andThen_ok])) ?_
      try simp only [Act.put, List.setIfInBounds_toArray, List.set_cons_zero, List.set_cons_succ]
      refine wpAnyG_done (by kernel_rfl) (fun u hu => ?_)
      have BM := Gr.blk hu BM6
      have BR := Gr.blk hu BR6
      have BRT := Gr.blk hu hL6
      have hb := Below.gr hB6 hu
      have BW : Blk u w5.heap.size 56 #[.int .u64 (r0 : Int), .int .u64 (r1 : Int), .int .u64 (r2 : Int), .int .u64 (r3 : Int)] := BRT.eq_ (fcs_words FR.out)
      have pc : u.cell? ⟨w5.heap.size, 0, none⟩ = some (.int .u64 (r0 : Int)) := BW.cell 0
      clear hu BM6 BX6 BR6 hL6 hB6 BX eb cM cN BW
      cases b
      · cases o
        · go_wp2_with (first | ((with_reducible refine here_load (d := some 51) ?_); refine wpList_load_fv rfl _ _ rfl (w5.heap.size) rfl (r) _ _ _ (BRT) (fv_fcs _) Try.underlying56 rfl (by kernel_rfl) ?_) | ((with_reducible refine here_store ?_); refine wpList_store_blk rfl _ _ _ rfl (w.heap.size + 1) (fcs (r)) rfl rfl _ _ (BR) (by kernel_rfl) (by rfl) (fcs_one _) ?_; intro w9 hL9 hB9 hK9))
          exact bodyPost_ret (res_cell_tmp rfl _ _ (w.heap.size + 1) _ _ _ _ rfl hL9 rfl Try.underlying56 rfl (by kernel_rfl)) rfl ⟨rfl, hb.trans (hB9 _ (by omega))⟩
        · go_wp2_with (first | ((with_reducible refine here_load (d := some 48) ?_); refine wpList_load_blk rfl _ _ rfl w1.heap.size rfl _ _ _ (BM) Try.underlying60 rfl (by kernel_rfl) ?_) | ((with_reducible refine here_load (d := some 49) ?_); refine wpList_load_fv rfl _ _ rfl (w5.heap.size) rfl (r) _ _ _ (BRT) (fv_fcs _) Try.underlying56 rfl (by kernel_rfl) ?_))
          refine (cG _).mono ?_
          rintro z w6 ⟨rfl, k1⟩
          have BR := Gr.blk k1 BR
          have hb := Below.gr hb k1
          clear k1 cG
          go_wp2_with (first | ((with_reducible refine here_store ?_); refine wpList_store_blk rfl _ _ _ rfl (w.heap.size + 1) (fcs (g)) rfl rfl _ _ (BR) (by kernel_rfl) (by rfl) (fcs_one _) ?_; intro w9 hL9 hB9 hK9))
          exact bodyPost_ret (res_cell_tmp rfl _ _ (w.heap.size + 1) _ _ _ _ rfl hL9 rfl Try.underlying56 rfl (by kernel_rfl)) rfl ⟨rfl, hb.trans (hB9 _ (by omega))⟩
      · go_wp2_with (first | ((with_reducible refine here_store ?_); refine wpList_store_blk rfl _ _ _ rfl (w.heap.size + 1) _ rfl rfl _ _ (BR) (by kernel_rfl) (by rfl) (by simp [Value.oneCell']) ?_; intro w9 hL9 hB9 hK9))
        exact bodyPost_ret (res_cell_tmp rfl _ _ (w.heap.size + 1) _ _ _ _ rfl hL9 rfl Try.underlying56 rfl (by kernel_rfl)) rfl ⟨rfl, hb.trans (hB9 _ (by omega))⟩
end Go.Proofs.Ytneeefinaejgcaa

end
section
namespace Go.Proofs.Ytneeefinaejgcaa
open Go.RowKit Go.Lib

theorem prime_p : Nt.Pr pM := Nt.pr_p
theorem eRoot_is : eRoot = eQ := by decide +kernel
theorem four_eQ : 2 * (eQ + eQ) = pM + 1 := by decide +kernel
theorem root_is (x : Nat) : rtR x = rootR x := by
  have h := rootR_pow x
  rw [rootR_red, eRoot_is] at h
  rw [h]
  rfl
theorem root_lt_p (x : Nat) : rootR x < pM := by rw [← rootR_red]; exact mod_lt_p _
theorem low_odd (r : Nat) : r % 18446744073709551616 % 2 = r % 2 := by omega
theorem sqrt_is (x : Nat) : sqrtR x = sqrtS x := by
  unfold sqrtR sqrtS
  rw [root_is, low_odd, rootR_red]

theorem sq_le {p r a : Nat} (hp : Nt.Pr p) (hle : a ≤ r) (hr : r < p) (h : r * r % p = a * a % p) : r = a ∨ r + a = p := by
  have e : (r - a) * (r + a) = r * r - a * a := by
    obtain ⟨d, rfl⟩ : ∃ d, r = a + d := ⟨r - a, by omega⟩
    rw [Nat.add_sub_cancel_left]
    have h1 : (a + d) * (a + d) = a * a + d * (a + d + a) := by
      simp only [Nat.mul_add, Nat.add_mul]
      have := Nat.mul_comm a d
      omega
    rw [h1, Nat.add_sub_cancel_left]
  have hd : p ∣ (r - a) * (r + a) := by
    rw [e]
    exact Nat.dvd_of_mod_eq_zero (Nat.sub_mod_eq_zero_of_mod_eq h)
  by_cases hz : (r + a) % p = 0
  · obtain ⟨k, hk⟩ := Nat.dvd_of_mod_eq_zero hz
    rcases k with _ | _ | k
    · left; omega
    · right; omega
    · have hk' : r + a = p * (k + 2) := hk
      have : p * 2 ≤ p * (k + 2) := Nat.mul_le_mul (Nat.le_refl _) (by omega)
      omega
  · left
    have hd2 : p ∣ r - a := (Nt.cop hp (r + a) hz).dvd_of_dvd_mul_right hd
    have := Nat.eq_zero_of_dvd_of_lt hd2 (by omega)
    omega
theorem sq_roots {p r a : Nat} (hp : Nt.Pr p) (hr : r < p) (ha : a < p) (h : r * r % p = a * a % p) : r = a ∨ r + a = p := by
  rcases Nat.le_total a r with hl | hl
  · exact sq_le hp hl hr h
  · rcases sq_le hp hl ha h.symm with h1 | h1
    · exact .inl h1.symm
    · exact .inr (by omega)
theorem pow_gen {p a e : Nat} (hp : Nt.Pr p) (he : 2 * (e + e) = p + 1) : ((a * a) ^ e % p) * ((a * a) ^ e % p) % p = a * a % p := by
  have h2 := hp.1
  rw [← Nat.mul_mod, ← Nat.pow_add, ← Nat.pow_two, ← Nat.pow_mul, he]
  have e1 : a ^ (p + 1) = a ^ (p - 1) * a ^ 2 := by rw [← Nat.pow_add]; congr 1; omega
  rw [e1, Nat.mul_mod]
  by_cases hz : a % p = 0
  · have : a ^ 2 % p = 0 := by rw [Nat.pow_two, Nat.mul_mod, hz]; simp
    rw [this]; simp
  · rw [Nt.flt hp a hz, Nat.one_mul, Nat.mod_mod]
theorem root_sq (a : Nat) : mulP (rootR (mulP a a)) (rootR (mulP a a)) = mulP a a := by
  have h := rootR_pow (mulP a a)
  rw [rootR_red, eRoot_is] at h
  rw [h]
  unfold mulP
  rw [← Nat.pow_mod]
  exact pow_gen prime_p four_eQ
theorem neg_of (r : Nat) (h : r < pM) (h0 : r ≠ 0) : negP r = pM - r := by
  unfold negP
  rw [Nat.mod_eq_of_lt h]
  exact Nat.mod_eq_of_lt (by omega)
theorem neg_sq (r : Nat) (h : r < pM) (h0 : r ≠ 0) : mulP (negP r) (negP r) = mulP r r := by
  rw [neg_of r h h0]
  obtain ⟨q, hq⟩ : ∃ q, pM = q + r := ⟨pM - r, by omega⟩
  rw [show pM - r = q by omega]
  unfold mulP
  have e : q * q + pM * r = r * r + pM * q := by
    rw [hq, Nat.add_mul, Nat.add_mul, Nat.mul_comm r q]
    omega
  have h1 : (q * q + pM * r) % pM = q * q % pM := Nat.add_mul_mod_self_left _ _ _
  have h2 : (r * r + pM * q) % pM = r * r % pM := Nat.add_mul_mod_self_left _ _ _
  rw [← h1, ← h2, e]
theorem pM_odd : pM % 2 = 1 := by decide +kernel
/-- the answer is even -/
theorem sqrt_even (x : Nat) : (sqrtS x).1 % pM % 2 = 0 := by
  unfold sqrtS
  have hr := root_lt_p x
  by_cases h1 : mulP (rootR x) (rootR x) ≠ x % pM
  · rw [if_pos h1]; rw [Nat.zero_mod]
  · rw [if_neg h1]
    by_cases h2 : rootR x % pM % 2 = 1
    · rw [if_pos h2]
      rw [rootR_red] at h2
      have h0 : rootR x ≠ 0 := by omega
      have e := neg_of _ hr h0
      have hp := pM_odd
      show negP (rootR x) % pM % 2 = 0
      rw [e, Nat.mod_eq_of_lt (show pM - rootR x < pM by omega)]
      omega
    · rw [if_neg h2]
      show rootR x % pM % 2 = 0
      omega
theorem sqrt_lt (x : Nat) : (sqrtS x).1 < 115792089237316195423570985008687907853269984665640564039457584007913129639936 := by
  unfold sqrtS
  by_cases h1 : mulP (rootR x) (rootR x) ≠ x % pM
  · rw [if_pos h1]; show 0 < _; omega
  · rw [if_neg h1]
    by_cases h2 : rootR x % pM % 2 = 1
    · rw [if_pos h2]; exact negP_lt _
    · rw [if_neg h2]; exact rootR_lt _
/-- its square is the number -/
theorem sqrt_mul (x : Nat) (h : (sqrtS x).2 = true) : mulP (sqrtS x).1 (sqrtS x).1 = x % pM := by
  unfold sqrtS at h ⊢
  by_cases h1 : mulP (rootR x) (rootR x) ≠ x % pM
  · rw [if_pos h1] at h; cases h
  · rw [if_neg h1]
    have h1' : mulP (rootR x) (rootR x) = x % pM := Classical.not_not.1 h1
    by_cases h2 : rootR x % pM % 2 = 1
    · rw [if_pos h2]
      rw [rootR_red] at h2
      show mulP (negP (rootR x)) (negP (rootR x)) = _
      rw [neg_sq _ (root_lt_p x) (by omega)]
      exact h1'
    · rw [if_neg h2]; exact h1'
/-- the square of a number has a root: that number, or its contrary -/
theorem sqrt_sq (a : Nat) : ∃ s, sqrtS (mulP a a) = (s, true) ∧ (s = a % pM ∨ s = negP a) := by
  obtain ⟨r, hr⟩ : ∃ r, r = rootR (mulP a a) := ⟨_, rfl⟩
  have hs := root_sq a
  rw [← hr] at hs
  have hl : r < pM := by rw [hr]; exact root_lt_p _
  have hx : mulP a a % pM = mulP a a := by unfold mulP; rw [Nat.mod_mod]
  obtain ⟨b, hb⟩ : ∃ b, b = a % pM := ⟨_, rfl⟩
  have hbl : b < pM := by rw [hb]; exact mod_lt_p a
  have hng : negP a = negP b := by unfold negP; rw [hb, Nat.mod_mod]
  have hrr : r = b ∨ r + b = pM := by
    refine sq_roots prime_p hl hbl ?_
    have : mulP a a = b * b % pM := by rw [hb, ← Nat.mul_mod]; rfl
    rw [← this]; exact hs
  have p0 : 0 < pM := by omega
  have hor : (r = b ∧ negP r = negP b) ∨ (r = negP b ∧ negP r = b) := by
    rcases hrr with h | h
    · left; exact ⟨h, by rw [h]⟩
    · by_cases h0 : b = 0
      · omega
      · right
        have e1 := neg_of b hbl h0
        have e2 := neg_of r hl (by omega)
        exact ⟨by omega, by omega⟩
  unfold sqrtS
  rw [← hr, hx, if_neg (by rw [hs]; exact fun h => h rfl), hng, ← hb]
  by_cases h2 : r % pM % 2 = 1
  · rw [if_pos h2]
    refine ⟨_, rfl, ?_⟩
    rcases hor with h | h
    · exact .inr h.2
    · exact .inl h.2
  · rw [if_neg h2]
    refine ⟨_, rfl, ?_⟩
    rcases hor with h | h
    · exact .inl h.1
    · exact .inr h.1
end Go.Proofs.Ytneeefinaejgcaa

end
