/-
  Texts of ours, put together: RefPow, NumB, FeOwn, RefBytes, CrvC, CurveAlive, EcJ, CrvJ, CrvK, SymD.
-/
import Derived.Test.YtneeefinaejgcaaBC5
set_option linter.unusedVariables false
set_option linter.unusedSimpArgs false
section
namespace Go.Proofs.Ytneeefinaejgcaa
open Go.RowKit Go.Lib

/-- a power modulo p -/
def pw (x e : Nat) : Nat := x ^ e % pM
theorem pw_lt (x e : Nat) : pw x e < 115792089237316195423570985008687907853269984665640564039457584007913129639936 := mod_lt _
theorem pw_zero (x : Nat) : pw x 0 = 1 := by unfold pw; rw [Nat.pow_zero]; decide
theorem pw_sq (x e : Nat) : mulP (pw x e) (pw x e) = pw x (2 * e) := by
  unfold mulP pw
  rw [← Nat.mul_mod, ← Nat.pow_add, Nat.two_mul]
theorem pw_mul (x e : Nat) : mulP (pw x e) x = pw x (e + 1) := by
  unfold mulP pw
  rw [Nat.mod_mul_mod, Nat.pow_succ]
theorem div_word2 (a r s : Nat) (hs : s ≤ 63) : (a + 18446744073709551616 * r) / 2 ^ s % 2 = a / 2 ^ s % 2 := by
  obtain ⟨u, hu⟩ : ∃ u, 2 ^ s * (2 * u) = 18446744073709551616 := by
    refine ⟨2 ^ (63 - s), ?_⟩
    have : 2 ^ s * 2 ^ (63 - s) = 2 ^ 63 := by rw [← Nat.pow_add]; congr 1; omega
    rw [show (2 : Nat) * 2 ^ (63 - s) = 2 ^ (63 - s) * 2 from Nat.mul_comm _ _, ← Nat.mul_assoc, this]
  rw [← hu, Nat.mul_assoc, Nat.add_mul_div_left _ _ (Nat.two_pow_pos s), Nat.mul_assoc, Nat.add_mul_mod_self_left]
/-- the next binary digit -/
theorem next_digit (e i s w r : Nat) (hz : e / 2 ^ (64 * i) = w + 18446744073709551616 * r) (hs : s ≤ 63) : e / 2 ^ (64 * i + s) = 2 * (e / 2 ^ (64 * i + (s + 1))) + w / 2 ^ s % 2 := by
  have h1 : e / 2 ^ (64 * i + s) % 2 = w / 2 ^ s % 2 := by
    rw [Nat.pow_add, ← Nat.div_div_eq_div_mul, hz, div_word2 w r s hs]
  have h2 : e / 2 ^ (64 * i + (s + 1)) = e / 2 ^ (64 * i + s) / 2 := by
    rw [← Nat.add_assoc, Nat.pow_succ, Nat.div_div_eq_div_mul]
  rw [h2, ← h1]
  omega
theorem and_bit (a s : Nat) (ha : a < 18446744073709551616) (hs : s ≤ 63) : ∃ m : Nat, bits .and .u64 (a : Int) ((2 ^ s : Nat) : Int) = (m : Int) ∧ (m = 0 ↔ a / 2 ^ s % 2 = 0) := by
  have h2 : 2 ^ s < 18446744073709551616 := by
    have : 2 ^ s ≤ 2 ^ 63 := Nat.pow_le_pow_right (by omega) hs
    omega
  refine ⟨a &&& 2 ^ s, bits_and_u64_nat a (2 ^ s) ha h2, ?_⟩
  have hb : a.testBit s = decide (a / 2 ^ s % 2 = 1) := Nat.testBit_eq_decide_div_mod_eq
  constructor
  · intro h
    have h2 : (a &&& 2 ^ s).testBit s = false := by rw [h]; simp
    rw [Nat.testBit_and, Nat.testBit_two_pow_self, Bool.and_true, hb] at h2
    have h3 : ¬ a / 2 ^ s % 2 = 1 := by simpa using h2
    omega
  · intro h
    have h2 : a.testBit s = false := by rw [hb]; simp; omega
    refine Nat.eq_of_testBit_eq fun j => ?_
    rw [Nat.testBit_and, Nat.zero_testBit, Nat.testBit_two_pow]
    by_cases hj : s = j
    · subst hj; simp [h2]
    · simp [hj]

theorem small_at (w : World) (n : Nat) (di : Int) (hdi : di = (n : Int)) (hn : n < 18446744073709551616) : Calls Try.prog 66 #[.int .u64 di] w fun e w' => e = .returned (fv n) ∧ Below w.heap.size w w' := by
  subst hdi
  rw [fv_small n hn]
  go_enter Try.func66, Try.ntmps66
  go_wp2
  exact bodyPost_ret (results_cell_row rfl _ _ w.heap.size _ _ (0, 0) _ rfl (heap_alloc_new w _) Try.underlying56 rfl (by kernel_rfl)) rfl ⟨rfl, (Below.refl _ _).alloc (Nat.le_refl _) _⟩

set_option maxHeartbeats 16000000 in
set_option maxRecDepth 100000 in
theorem power_any (w : World) (x e : Nat) (hx : x < 115792089237316195423570985008687907853269984665640564039457584007913129639936) (he : e < 115792089237316195423570985008687907853269984665640564039457584007913129639936) : Calls Try.prog 67 #[.agg #[.int .u64 18446744069414583343, .int .u64 18446744073709551615, .int .u64 18446744073709551615, .int .u64 18446744073709551615, .int .u64 4294968273, .int .u64 0, .int .u64 0], fv x, fv e] w fun ee w' => ee = .returned (fv (pw x e)) ∧ Below w.heap.size w w' := by
  obtain ⟨x0, x1, x2, x3, fx⟩ := words_fv x hx
  obtain ⟨e0, e1, e2, e3, b0, b1, b2, b3, ee, fe⟩ := words_of e he
  have n0 := fun s hs => next_digit e 0 s e0 (e1 + 18446744073709551616 * e2 + 340282366920938463463374607431768211456 * e3) (by omega) hs
  have n1 := fun s hs => next_digit e 1 s e1 (e2 + 18446744073709551616 * e3) (by omega) hs
  have n2 := fun s hs => next_digit e 2 s e2 e3 (by omega) hs
  have n3 := fun s hs => next_digit e 3 s e3 0 (by omega) hs
  have h256 : e / 2 ^ 256 = 0 := by omega
  have HN := Lib.hid (And.intro n0 (And.intro n1 (And.intro n2 n3)))
  have HB := Lib.hid (And.intro b0 (And.intro b1 (And.intro b2 b3)))
  have H0 := Lib.hid h256
  have FX := Lib.hid fx
  have HX := Lib.hid hx
  rw [fx, fe]
  clear fx fe ee hx he b0 b1 b2 b3 n0 n1 n2 n3 h256
  go_enter Try.func67, Try.ntmps67
  go_wp2_with fail
  obtain ⟨one, h1⟩ : ∃ one, one = 1 := ⟨_, rfl⟩
  refine (small_at _ one 1 (by rw [h1]; rfl) (by omega)).mono ?_
  rintro ez w1 ⟨rfl, g1⟩
  have BM : Blk w1 w.heap.size 60 #[.int .u64 18446744069414583343, .int .u64 18446744073709551615, .int .u64 18446744073709551615, .int .u64 18446744073709551615, .int .u64 4294968273, .int .u64 0, .int .u64 0] := Gr.blk g1 (((((Blk.new w _ _).alloc _).alloc _).alloc _))
  have BX : Blk w1 (w.heap.size + 1) 56 #[.int .u64 (x0 : Int), .int .u64 (x1 : Int), .int .u64 (x2 : Int), .int .u64 (x3 : Int)] := Gr.blk g1 ((((blk_new2 w _ _ _).alloc _).alloc _))
  have BE : Blk w1 (w.heap.size + 2) 56 #[.int .u64 (e0 : Int), .int .u64 (e1 : Int), .int .u64 (e2 : Int), .int .u64 (e3 : Int)] := Gr.blk g1 ((blk_new3 w _ _ _ _).alloc _)
  have BR : Blk w1 (w.heap.size + 3) 56 #[.int .u64 0, .int .u64 0, .int .u64 0, .int .u64 0] := Gr.blk g1 (blk_new4 w _ _ _ _ _)
  have hB := Below.gr (below_alloc4 w _ _ _ _) g1
  have sz : w.heap.size + 3 < w1.heap.size := BR.lt
  have H1 := Lib.hid h1
  clear g1 h1
  go_wp2_with (first | ((with_reducible refine here_store ?_); refine wpList_store_blk rfl _ _ _ rfl (w1.heap.size) (fcs (one)) rfl rfl _ _ (Blk.new w1 _ _) (by kernel_rfl) (by rfl) (fcs_one _) ?_; intro w2 hL2 hq2 hK2; have KM := hK2 _ (by omega) _ _ (BM.alloc _); have KX := hK2 _ (by omega) _ _ (BX.alloc _); have KE := hK2 _ (by omega) _ _ (BE.alloc _); have KR := hK2 _ (by omega) _ _ (BR.alloc _); have hB2 := (hB.alloc (by omega) _).trans (hq2 _ (by omega))))
  go_loopw [8] (fun i wr => Below w.heap.size w wr ∧ Blk wr w.heap.size 60 #[.int .u64 18446744069414583343, .int .u64 18446744073709551615, .int .u64 18446744073709551615, .int .u64 18446744073709551615, .int .u64 4294968273, .int .u64 0, .int .u64 0] ∧ Blk wr (w.heap.size + 1) 56 #[.int .u64 (x0 : Int), .int .u64 (x1 : Int), .int .u64 (x2 : Int), .int .u64 (x3 : Int)] ∧ Blk wr (w.heap.size + 2) 56 #[.int .u64 (e0 : Int), .int .u64 (e1 : Int), .int .u64 (e2 : Int), .int .u64 (e3 : Int)] ∧ Blk wr (w.heap.size + 3) 56 #[.int .u64 0, .int .u64 0, .int .u64 0, .int .u64 0] ∧ Hid ((i = .int .i64 3 ∧ Blk wr w1.heap.size 56 (fcs (pw x (e / 2 ^ 256)))) ∨ (i = .int .i64 2 ∧ Blk wr w1.heap.size 56 (fcs (pw x (e / 2 ^ 192)))) ∨ (i = .int .i64 1 ∧ Blk wr w1.heap.size 56 (fcs (pw x (e / 2 ^ 128)))) ∨ (i = .int .i64 0 ∧ Blk wr w1.heap.size 56 (fcs (pw x (e / 2 ^ 64)))) ∨ (i = .int .i64 (-1) ∧ Blk wr w1.heap.size 56 (fcs (pw x (e / 2 ^ 0)))))) (fun i _ => (intOf i + 1).toNat)
  case atStart => exact ⟨hB2, KM, KX, KE, KR, Lib.hid (.inl ⟨rfl, Blk.eq_ hL2 (by rw [H0.out, pw_zero, H1.out])⟩)⟩
  case round =>
    obtain ⟨hb, BM, BX, BE, BR, HI⟩ := hrel
    rcases HI.out with ⟨rfl, BP⟩ | ⟨rfl, BP⟩ | ⟨rfl, BP⟩ | ⟨rfl, BP⟩ | ⟨rfl, BP⟩
    · clear HI
      go_wp2_with fail
      go_loopw [9] (fun bt wr => ∃ t : Nat, t ≤ 64 ∧ bt = .int .u64 ((2 ^ t / 2 : Nat) : Int) ∧ Below w.heap.size w wr ∧ Blk wr w.heap.size 60 #[.int .u64 18446744069414583343, .int .u64 18446744073709551615, .int .u64 18446744073709551615, .int .u64 18446744073709551615, .int .u64 4294968273, .int .u64 0, .int .u64 0] ∧ Blk wr (w.heap.size + 1) 56 #[.int .u64 (x0 : Int), .int .u64 (x1 : Int), .int .u64 (x2 : Int), .int .u64 (x3 : Int)] ∧ Blk wr (w.heap.size + 2) 56 #[.int .u64 (e0 : Int), .int .u64 (e1 : Int), .int .u64 (e2 : Int), .int .u64 (e3 : Int)] ∧ Blk wr (w.heap.size + 3) 56 #[.int .u64 0, .int .u64 0, .int .u64 0, .int .u64 0] ∧ Blk wr w1.heap.size 56 (fcs (pw x (e / 2 ^ (64 * 3 + t))))) (fun bt _ => (intOf bt).toNat)
      case atStart => exact ⟨64, by omega, rfl, hb, BM, BX, BE, BR, BP⟩
      case round =>
        clear hb BM BX BE BR BP
        obtain ⟨t, ht, rfl, hb, BM, BX, BE, BR, BP⟩ := hrel
        by_cases h0 : t = 0
        · subst h0
          go_wp2
          refine ⟨⟨hb, BM, BX, BE, BR, Lib.hid (.inr (.inl (⟨rfl, BP⟩)))⟩, by decide⟩
        · obtain ⟨s, hs⟩ : ∃ s, t = s + 1 := ⟨t - 1, by omega⟩
          subst hs
          have hbt : 2 ^ (s + 1) / 2 = 2 ^ s := by rw [Nat.pow_succ]; omega
          rw [hbt]
          obtain ⟨bt, hbe⟩ : ∃ bt, bt = 2 ^ s := ⟨_, rfl⟩
          have hpos : 0 < bt := by rw [hbe]; exact Nat.two_pow_pos s
          have hblt : bt < 18446744073709551616 := by
            have h63 : 2 ^ s ≤ 2 ^ 63 := Nat.pow_le_pow_right (by omega) (by omega)
            rw [hbe]
            omega
          have hhalf : bt / 2 = 2 ^ s / 2 := by rw [hbe]
          obtain ⟨m, hm, hmz⟩ := and_bit e3 s HB.out.2.2.2 (by omega)
          rw [← hbe] at hm
          have hd := HN.out.2.2.2 s (by omega)
          obtain ⟨r, hr⟩ : ∃ r, r = pw x (e / 2 ^ (64 * 3 + (s + 1))) := ⟨_, rfl⟩
          obtain ⟨q, hq⟩ : ∃ q, q = mulP r r := ⟨_, rfl⟩
          obtain ⟨v, hv⟩ : ∃ v, v = mulP q x := ⟨_, rfl⟩
          have hq2 : q = pw x (2 * (e / 2 ^ (64 * 3 + (s + 1)))) := by rw [hq, hr, pw_sq]
          have lr : r < 115792089237316195423570985008687907853269984665640564039457584007913129639936 := by rw [hr]; exact pw_lt _ _
          have lq : q < 115792089237316195423570985008687907853269984665640564039457584007913129639936 := by rw [hq]; exact mulP_lt _ _
          have cS : ∀ w, Calls Try.prog 57 #[.agg #[.int .u64 18446744069414583343, .int .u64 18446744073709551615, .int .u64 18446744073709551615, .int .u64 18446744073709551615, .int .u64 4294968273, .int .u64 0, .int .u64 0], fv r, fv r] w fun e w' => e = .returned (fv q) ∧ Below w.heap.size w w' := by
            intro w; rw [hq]; exact mulR_any w r r lr lr
          have cX : ∀ w, Calls Try.prog 57 #[.agg #[.int .u64 18446744069414583343, .int .u64 18446744073709551615, .int .u64 18446744073709551615, .int .u64 18446744073709551615, .int .u64 4294968273, .int .u64 0, .int .u64 0], fv q, fv x] w fun e w' => e = .returned (fv v) ∧ Below w.heap.size w w' := by
            intro w; rw [hv]; exact mulR_any w q x lq HX.out
          have hend0 : m = 0 → q = pw x (e / 2 ^ (64 * 3 + s)) := fun h => by
            rw [hq2, hd, hmz.1 h]; rfl
          have hend1 : m ≠ 0 → v = pw x (e / 2 ^ (64 * 3 + s)) := fun h => by
            have hb1 : e3 / 2 ^ s % 2 = 1 := by have := mt hmz.2 h; omega
            rw [hv, hq2, pw_mul, hd, hb1]
          have HE := Lib.hid (And.intro hend0 (And.intro hend1 (And.intro hhalf hbe)))
          rw [← hr] at BP
          have hgt : (bt : Int) > 0 := by omega
          rw [← hbe]
          clear hr hq hv hq2 lr lq hend0 hend1 hhalf hbe hd hmz hbt
          go_wp2_with (first | ((with_reducible refine here_load (d := some 19) ?_); refine wpList_load_blk rfl _ _ rfl w.heap.size rfl _ _ _ (BM) Try.underlying60 rfl (by kernel_rfl) ?_) | ((with_reducible refine here_load (d := some 20) ?_); refine wpList_load_fv rfl _ _ rfl (w1.heap.size) rfl (r) _ _ _ (BP) (fv_fcs r) Try.underlying56 rfl (by kernel_rfl) ?_) | ((with_reducible refine here_load (d := some 21) ?_); refine wpList_load_fv rfl _ _ rfl (w1.heap.size) rfl (r) _ _ _ (BP) (fv_fcs r) Try.underlying56 rfl (by kernel_rfl) ?_))
          refine (cS _).mono ?_
          rintro ez u ⟨rfl, gu⟩
          have EM := Gr.blk gu BM
          have EX := Gr.blk gu BX
          have EE := Gr.blk gu BE
          have ER := Gr.blk gu BR
          have EP := Gr.blk gu BP
          have hbu := Below.gr hb gu
          clear gu cS BM BX BE BR BP hb
          have lu := EP.lt
          by_cases hm0 : m = 0
          · have hq0 := Lib.hid (HE.out.1 hm0)
            subst hm0
            clear cX
            go_wp2_with (first | ((with_reducible refine here_store ?_); refine wpList_store_blk rfl _ _ _ rfl (w1.heap.size) (fcs (q)) rfl rfl _ _ (EP) (by kernel_rfl) (by rfl) (fcs_one _) ?_; intro uz hLz hqz hKz; have FM := hKz _ (by omega) _ _ EM; have FXx := hKz _ (by omega) _ _ EX; have FE_ := hKz _ (by omega) _ _ EE; have FR := hKz _ (by omega) _ _ ER; have hbz := hbu.trans (hqz _ (by omega)); have pc : uz.cell? ⟨w.heap.size + 2, 3, none⟩ = some (.int .u64 (e3 : Int)) := FE_.cell 3))
            go_roundw
            case rel => exact ⟨s, by omega, by rw [← HE.out.2.2.1]; congr 1 <;> omega, hbz, FM, FXx, FE_, FR, Blk.eq_ hLz (by rw [hq0.out])⟩
            case measure => simp [intOf]; omega
          · have hq1 := Lib.hid (HE.out.2.1 hm0)
            have hmi : ¬ (m : Int) = 0 := by omega
            go_wp2_with (first | ((with_reducible refine here_store ?_); refine wpList_store_blk rfl _ _ _ rfl (w1.heap.size) (fcs (q)) rfl rfl _ _ (EP) (by kernel_rfl) (by rfl) (fcs_one _) ?_; intro uz hLz hqz hKz; have FM := hKz _ (by omega) _ _ EM; have FXx := hKz _ (by omega) _ _ EX; have FE_ := hKz _ (by omega) _ _ EE; have FR := hKz _ (by omega) _ _ ER; have hbz := hbu.trans (hqz _ (by omega)); have pc : uz.cell? ⟨w.heap.size + 2, 3, none⟩ = some (.int .u64 (e3 : Int)) := FE_.cell 3) | ((with_reducible refine here_load (d := some 29) ?_); refine wpList_load_blk rfl _ _ rfl w.heap.size rfl _ _ _ (FM) Try.underlying60 rfl (by kernel_rfl) ?_) | ((with_reducible refine here_load (d := some 30) ?_); refine wpList_load_fv rfl _ _ rfl (w1.heap.size) rfl (q) _ _ _ (hLz) (fv_fcs q) Try.underlying56 rfl (by kernel_rfl) ?_) | ((with_reducible refine here_load (d := some 31) ?_); refine wpList_load_fv rfl _ _ rfl (w.heap.size + 1) rfl (x) _ _ _ (FXx) (FX.out) Try.underlying56 rfl (by kernel_rfl) ?_))
            refine (cX _).mono ?_
            rintro ez u2 ⟨rfl, gu⟩
            have GM := Gr.blk gu FM
            have GX := Gr.blk gu FXx
            have GE := Gr.blk gu FE_
            have GR := Gr.blk gu FR
            have GP := Gr.blk gu hLz
            have hbg := Below.gr hbz gu
            clear gu cX FM FXx FE_ FR hbz
            go_wp2_with (first | ((with_reducible refine here_store ?_); refine wpList_store_blk rfl _ _ _ rfl (w1.heap.size) (fcs (v)) rfl rfl _ _ (GP) (by kernel_rfl) (by rfl) (fcs_one _) ?_; intro uy hLy hqy hKy; have JM := hKy _ (by omega) _ _ GM; have JX := hKy _ (by omega) _ _ GX; have JE := hKy _ (by omega) _ _ GE; have JR := hKy _ (by omega) _ _ GR; have hby := hbg.trans (hqy _ (by omega))))
            go_roundw
            case rel => exact ⟨s, by omega, by rw [← HE.out.2.2.1]; congr 1 <;> omega, hby, JM, JX, JE, JR, Blk.eq_ hLy (by rw [hq1.out])⟩
            case measure => simp [intOf]; omega
    · clear HI
      go_wp2_with fail
      go_loopw [9] (fun bt wr => ∃ t : Nat, t ≤ 64 ∧ bt = .int .u64 ((2 ^ t / 2 : Nat) : Int) ∧ Below w.heap.size w wr ∧ Blk wr w.heap.size 60 #[.int .u64 18446744069414583343, .int .u64 18446744073709551615, .int .u64 18446744073709551615, .int .u64 18446744073709551615, .int .u64 4294968273, .int .u64 0, .int .u64 0] ∧ Blk wr (w.heap.size + 1) 56 #[.int .u64 (x0 : Int), .int .u64 (x1 : Int), .int .u64 (x2 : Int), .int .u64 (x3 : Int)] ∧ Blk wr (w.heap.size + 2) 56 #[.int .u64 (e0 : Int), .int .u64 (e1 : Int), .int .u64 (e2 : Int), .int .u64 (e3 : Int)] ∧ Blk wr (w.heap.size + 3) 56 #[.int .u64 0, .int .u64 0, .int .u64 0, .int .u64 0] ∧ Blk wr w1.heap.size 56 (fcs (pw x (e / 2 ^ (64 * 2 + t))))) (fun bt _ => (intOf bt).toNat)
      case atStart => exact ⟨64, by omega, rfl, hb, BM, BX, BE, BR, BP⟩
      case round =>
        clear hb BM BX BE BR BP
        obtain ⟨t, ht, rfl, hb, BM, BX, BE, BR, BP⟩ := hrel
        by_cases h0 : t = 0
        · subst h0
          go_wp2
          refine ⟨⟨hb, BM, BX, BE, BR, Lib.hid (.inr (.inr (.inl (⟨rfl, BP⟩))))⟩, by decide⟩
        · obtain ⟨s, hs⟩ : ∃ s, t = s + 1 := ⟨t - 1, by omega⟩
          subst hs
          have hbt : 2 ^ (s + 1) / 2 = 2 ^ s := by rw [Nat.pow_succ]; omega
          rw [hbt]
          obtain ⟨bt, hbe⟩ : ∃ bt, bt = 2 ^ s := ⟨_, rfl⟩
          have hpos : 0 < bt := by rw [hbe]; exact Nat.two_pow_pos s
          have hblt : bt < 18446744073709551616 := by
            have h63 : 2 ^ s ≤ 2 ^ 63 := Nat.pow_le_pow_right (by omega) (by omega)
            rw [hbe]
            omega
          have hhalf : bt / 2 = 2 ^ s / 2 := by rw [hbe]
          obtain ⟨m, hm, hmz⟩ := and_bit e2 s HB.out.2.2.1 (by omega)
          rw [← hbe] at hm
          have hd := HN.out.2.2.1 s (by omega)
          obtain ⟨r, hr⟩ : ∃ r, r = pw x (e / 2 ^ (64 * 2 + (s + 1))) := ⟨_, rfl⟩
          obtain ⟨q, hq⟩ : ∃ q, q = mulP r r := ⟨_, rfl⟩
          obtain ⟨v, hv⟩ : ∃ v, v = mulP q x := ⟨_, rfl⟩
          have hq2 : q = pw x (2 * (e / 2 ^ (64 * 2 + (s + 1)))) := by rw [hq, hr, pw_sq]
          have lr : r < 115792089237316195423570985008687907853269984665640564039457584007913129639936 := by rw [hr]; exact pw_lt _ _
          have lq : q < 115792089237316195423570985008687907853269984665640564039457584007913129639936 := by rw [hq]; exact mulP_lt _ _
          have cS : ∀ w, Calls Try.prog 57 #[.agg #[.int .u64 18446744069414583343, .int .u64 18446744073709551615, .int .u64 18446744073709551615, .int .u64 18446744073709551615, .int .u64 4294968273, .int .u64 0, .int .u64 0], fv r, fv r] w fun e w' => e = .returned (fv q) ∧ Below w.heap.size w w' := by
            intro w; rw [hq]; exact mulR_any w r r lr lr
          have cX : ∀ w, Calls Try.prog 57 #[.agg #[.int .u64 18446744069414583343, .int .u64 18446744073709551615, .int .u64 18446744073709551615, .int .u64 18446744073709551615, .int .u64 4294968273, .int .u64 0, .int .u64 0], fv q, fv x] w fun e w' => e = .returned (fv v) ∧ Below w.heap.size w w' := by
            intro w; rw [hv]; exact mulR_any w q x lq HX.out
          have hend0 : m = 0 → q = pw x (e / 2 ^ (64 * 2 + s)) := fun h => by
            rw [hq2, hd, hmz.1 h]; rfl
          have hend1 : m ≠ 0 → v = pw x (e / 2 ^ (64 * 2 + s)) := fun h => by
            have hb1 : e2 / 2 ^ s % 2 = 1 := by have := mt hmz.2 h; omega
            rw [hv, hq2, pw_mul, hd, hb1]
          have HE := Lib.hid (And.intro hend0 (And.intro hend1 (And.intro hhalf hbe)))
          rw [← hr] at BP
          have hgt : (bt : Int) > 0 := by omega
          rw [← hbe]
          clear hr hq hv hq2 lr lq hend0 hend1 hhalf hbe hd hmz hbt
          go_wp2_with (first | ((with_reducible refine here_load (d := some 19) ?_); refine wpList_load_blk rfl _ _ rfl w.heap.size rfl _ _ _ (BM) Try.underlying60 rfl (by kernel_rfl) ?_) | ((with_reducible refine here_load (d := some 20) ?_); refine wpList_load_fv rfl _ _ rfl (w1.heap.size) rfl (r) _ _ _ (BP) (fv_fcs r) Try.underlying56 rfl (by kernel_rfl) ?_) | ((with_reducible refine here_load (d := some 21) ?_); refine wpList_load_fv rfl _ _ rfl (w1.heap.size) rfl (r) _ _ _ (BP) (fv_fcs r) Try.underlying56 rfl (by kernel_rfl) ?_))
          refine (cS _).mono ?_
          rintro ez u ⟨rfl, gu⟩
          have EM := Gr.blk gu BM
          have EX := Gr.blk gu BX
          have EE := Gr.blk gu BE
          have ER := Gr.blk gu BR
          have EP := Gr.blk gu BP
          have hbu := Below.gr hb gu
          clear gu cS BM BX BE BR BP hb
          have lu := EP.lt
          by_cases hm0 : m = 0
          · have hq0 := Lib.hid (HE.out.1 hm0)
            subst hm0
            clear cX
            go_wp2_with (first | ((with_reducible refine here_store ?_); refine wpList_store_blk rfl _ _ _ rfl (w1.heap.size) (fcs (q)) rfl rfl _ _ (EP) (by kernel_rfl) (by rfl) (fcs_one _) ?_; intro uz hLz hqz hKz; have FM := hKz _ (by omega) _ _ EM; have FXx := hKz _ (by omega) _ _ EX; have FE_ := hKz _ (by omega) _ _ EE; have FR := hKz _ (by omega) _ _ ER; have hbz := hbu.trans (hqz _ (by omega)); have pc : uz.cell? ⟨w.heap.size + 2, 2, none⟩ = some (.int .u64 (e2 : Int)) := FE_.cell 2))
            go_roundw
            case rel => exact ⟨s, by omega, by rw [← HE.out.2.2.1]; congr 1 <;> omega, hbz, FM, FXx, FE_, FR, Blk.eq_ hLz (by rw [hq0.out])⟩
            case measure => simp [intOf]; omega
          · have hq1 := Lib.hid (HE.out.2.1 hm0)
            have hmi : ¬ (m : Int) = 0 := by omega
            go_wp2_with (first | ((with_reducible refine here_store ?_); refine wpList_store_blk rfl _ _ _ rfl (w1.heap.size) (fcs (q)) rfl rfl _ _ (EP) (by kernel_rfl) (by rfl) (fcs_one _) ?_; intro uz hLz hqz hKz; have FM := hKz _ (by omega) _ _ EM; have FXx := hKz _ (by omega) _ _ EX; have FE_ := hKz _ (by omega) _ _ EE; have FR := hKz _ (by omega) _ _ ER; have hbz := hbu.trans (hqz _ (by omega)); have pc : uz.cell? ⟨w.heap.size + 2, 2, none⟩ = some (.int .u64 (e2 : Int)) := FE_.cell 2) | ((with_reducible refine here_load (d := some 29) ?_); refine wpList_load_blk rfl _ _ rfl w.heap.size rfl _ _ _ (FM) Try.underlying60 rfl (by kernel_rfl) ?_) | ((with_reducible refine here_load (d := some 30) ?_); refine wpList_load_fv rfl _ _ rfl (w1.heap.size) rfl (q) _ _ _ (hLz) (fv_fcs q) Try.underlying56 rfl (by kernel_rfl) ?_) | ((with_reducible refine here_load (d := some 31) ?_); refine wpList_load_fv rfl _ _ rfl (w.heap.size + 1) rfl (x) _ _ _ (FXx) (FX.out) Try.underlying56 rfl (by kernel_rfl) ?_))
            refine (cX _).mono ?_
            rintro ez u2 ⟨rfl, gu⟩
            have GM := Gr.blk gu FM
            have GX := Gr.blk gu FXx
            have GE := Gr.blk gu FE_
            have GR := Gr.blk gu FR
            have GP := Gr.blk gu hLz
            have hbg := Below.gr hbz gu
            clear gu cX FM FXx FE_ FR hbz
            go_wp2_with (first | ((with_reducible refine here_store ?_); refine wpList_store_blk rfl _ _ _ rfl (w1.heap.size) (fcs (v)) rfl rfl _ _ (GP) (by kernel_rfl) (by rfl) (fcs_one _) ?_; intro uy hLy hqy hKy; have JM := hKy _ (by omega) _ _ GM; have JX := hKy _ (by omega) _ _ GX; have JE := hKy _ (by omega) _ _ GE; have JR := hKy _ (by omega) _ _ GR; have hby := hbg.trans (hqy _ (by omega))))
            go_roundw
            case rel => exact ⟨s, by omega, by rw [← HE.out.2.2.1]; congr 1 <;> omega, hby, JM, JX, JE, JR, Blk.eq_ hLy (by rw [hq1.out])⟩
            case measure => simp [intOf]; omega
    · clear HI
      go_wp2_with fail
      go_loopw [9] (fun bt wr => ∃ t : Nat, t ≤ 64 ∧ bt = .int .u64 ((2 ^ t / 2 : Nat) : Int) ∧ Below w.heap.size w wr ∧ Blk wr w.heap.size 60 #[.int .u64 18446744069414583343, .int .u64 18446744073709551615, .int .u64 18446744073709551615, .int .u64 18446744073709551615, .int .u64 4294968273, .int .u64 0, .int .u64 0] ∧ Blk wr (w.heap.size + 1) 56 #[.int .u64 (x0 : Int), .int .u64 (x1 : Int), .int .u64 (x2 : Int), .int .u64 (x3 : Int)] ∧ Blk wr (w.heap.size + 2) 56 #[.int .u64 (e0 : Int), .int .u64 (e1 : Int), .int .u64 (e2 : Int), .int .u64 (e3 : Int)] ∧ Blk wr (w.heap.size + 3) 56 #[.int .u64 0, .int .u64 0, .int .u64 0, .int .u64 0] ∧ Blk wr w1.heap.size 56 (fcs (pw x (e / 2 ^ (64 * 1 + t))))) (fun bt _ => (intOf bt).toNat)
      case atStart => exact ⟨64, by omega, rfl, hb, BM, BX, BE, BR, BP⟩
      case round =>
        clear hb BM BX BE BR BP
        obtain ⟨t, ht, rfl, hb, BM, BX, BE, BR, BP⟩ := hrel
        by_cases h0 : t = 0
        · subst h0
          go_wp2
          refine ⟨⟨hb, BM, BX, BE, BR, Lib.hid (.inr (.inr (.inr (.inl (⟨rfl, BP⟩)))))⟩, by decide⟩
        · obtain ⟨s, hs⟩ : ∃ s, t = s + 1 := ⟨t - 1, by omega⟩
          subst hs
          have hbt : 2 ^ (s + 1) / 2 = 2 ^ s := by rw [Nat.pow_succ]; omega
          rw [hbt]
          obtain ⟨bt, hbe⟩ : ∃ bt, bt = 2 ^ s := ⟨_, rfl⟩
          have hpos : 0 < bt := by rw [hbe]; exact Nat.two_pow_pos s
          have hblt : bt < 18446744073709551616 := by
            have h63 : 2 ^ s ≤ 2 ^ 63 := Nat.pow_le_pow_right (by omega) (by omega)
            rw [hbe]
            omega
          have hhalf : bt / 2 = 2 ^ s / 2 := by rw [hbe]
          obtain ⟨m, hm, hmz⟩ := and_bit e1 s HB.out.2.1 (by omega)
          rw [← hbe] at hm
          have hd := HN.out.2.1 s (by omega)
          obtain ⟨r, hr⟩ : ∃ r, r = pw x (e / 2 ^ (64 * 1 + (s + 1))) := ⟨_, rfl⟩
          obtain ⟨q, hq⟩ : ∃ q, q = mulP r r := ⟨_, rfl⟩
          obtain ⟨v, hv⟩ : ∃ v, v = mulP q x := ⟨_, rfl⟩
          have hq2 : q = pw x (2 * (e / 2 ^ (64 * 1 + (s + 1)))) := by rw [hq, hr, pw_sq]
          have lr : r < 115792089237316195423570985008687907853269984665640564039457584007913129639936 := by rw [hr]; exact pw_lt _ _
          have lq : q < 115792089237316195423570985008687907853269984665640564039457584007913129639936 := by rw [hq]; exact mulP_lt _ _
          have cS : ∀ w, Calls Try.prog 57 #[.agg #[.int .u64 18446744069414583343, .int .u64 18446744073709551615, .int .u64 18446744073709551615, .int .u64 18446744073709551615, .int .u64 4294968273, .int .u64 0, .int .u64 0], fv r, fv r] w fun e w' => e = .returned (fv q) ∧ Below w.heap.size w w' := by
            intro w; rw [hq]; exact mulR_any w r r lr lr
          have cX : ∀ w, Calls Try.prog 57 #[.agg #[.int .u64 18446744069414583343, .int .u64 18446744073709551615, .int .u64 18446744073709551615, .int .u64 18446744073709551615, .int .u64 4294968273, .int .u64 0, .int .u64 0], fv q, fv x] w fun e w' => e = .returned (fv v) ∧ Below w.heap.size w w' := by
            intro w; rw [hv]; exact mulR_any w q x lq HX.out
          have hend0 : m = 0 → q = pw x (e / 2 ^ (64 * 1 + s)) := fun h => by
            rw [hq2, hd, hmz.1 h]; rfl
          have hend1 : m ≠ 0 → v = pw x (e / 2 ^ (64 * 1 + s)) := fun h => by
            have hb1 : e1 / 2 ^ s % 2 = 1 := by have := mt hmz.2 h; omega
            rw [hv, hq2, pw_mul, hd, hb1]
          have HE := Lib.hid (And.intro hend0 (And.intro hend1 (And.intro hhalf hbe)))
          rw [← hr] at BP
          have hgt : (bt : Int) > 0 := by omega
          rw [← hbe]
          clear hr hq hv hq2 lr lq hend0 hend1 hhalf hbe hd hmz hbt
          go_wp2_with (first | ((with_reducible refine here_load (d := some 19) ?_); refine wpList_load_blk rfl _ _ rfl w.heap.size rfl _ _ _ (BM) Try.underlying60 rfl (by kernel_rfl) ?_) | ((with_reducible refine here_load (d := some 20) ?_); refine wpList_load_fv rfl _ _ rfl (w1.heap.size) rfl (r) _ _ _ (BP) (fv_fcs r) Try.underlying56 rfl (by kernel_rfl) ?_) | ((with_reducible refine here_load (d := some 21) ?_); refine wpList_load_fv rfl _ _ rfl (w1.heap.size) rfl (r) _ _ _ (BP) (fv_fcs r) Try.underlying56 rfl (by kernel_rfl) ?_))
          refine (cS _).mono ?_
          rintro ez u ⟨rfl, gu⟩
          have EM := Gr.blk gu BM
          have EX := Gr.blk gu BX
          have EE := Gr.blk gu BE
          have ER := Gr.blk gu BR
          have EP := Gr.blk gu BP
          have hbu := Below.gr hb gu
          clear gu cS BM BX BE BR BP hb
          have lu := EP.lt
          by_cases hm0 : m = 0
          · have hq0 := Lib.hid (HE.out.1 hm0)
            subst hm0
            clear cX
            go_wp2_with (first | ((with_reducible refine here_store ?_); refine wpList_store_blk rfl _ _ _ rfl (w1.heap.size) (fcs (q)) rfl rfl _ _ (EP) (by kernel_rfl) (by rfl) (fcs_one _) ?_; intro uz hLz hqz hKz; have FM := hKz _ (by omega) _ _ EM; have FXx := hKz _ (by omega) _ _ EX; have FE_ := hKz _ (by omega) _ _ EE; have FR := hKz _ (by omega) _ _ ER; have hbz := hbu.trans (hqz _ (by omega)); have pc : uz.cell? ⟨w.heap.size + 2, 1, none⟩ = some (.int .u64 (e1 : Int)) := FE_.cell 1))
            go_roundw
            case rel => exact ⟨s, by omega, by rw [← HE.out.2.2.1]; congr 1 <;> omega, hbz, FM, FXx, FE_, FR, Blk.eq_ hLz (by rw [hq0.out])⟩
            case measure => simp [intOf]; omega
          · have hq1 := Lib.hid (HE.out.2.1 hm0)
            have hmi : ¬ (m : Int) = 0 := by omega
            go_wp2_with (first | ((with_reducible refine here_store ?_); refine wpList_store_blk rfl _ _ _ rfl (w1.heap.size) (fcs (q)) rfl rfl _ _ (EP) (by kernel_rfl) (by rfl) (fcs_one _) ?_; intro uz hLz hqz hKz; have FM := hKz _ (by omega) _ _ EM; have FXx := hKz _ (by omega) _ _ EX; have FE_ := hKz _ (by omega) _ _ EE; have FR := hKz _ (by omega) _ _ ER; have hbz := hbu.trans (hqz _ (by omega)); have pc : uz.cell? ⟨w.heap.size + 2, 1, none⟩ = some (.int .u64 (e1 : Int)) := FE_.cell 1) | ((with_reducible refine here_load (d := some 29) ?_); refine wpList_load_blk rfl _ _ rfl w.heap.size rfl _ _ _ (FM) Try.underlying60 rfl (by kernel_rfl) ?_) | ((with_reducible refine here_load (d := some 30) ?_); refine wpList_load_fv rfl _ _ rfl (w1.heap.size) rfl (q) _ _ _ (hLz) (fv_fcs q) Try.underlying56 rfl (by kernel_rfl) ?_) | ((with_reducible refine here_load (d := some 31) ?_); refine wpList_load_fv rfl _ _ rfl (w.heap.size + 1) rfl (x) _ _ _ (FXx) (FX.out) Try.underlying56 rfl (by kernel_rfl) ?_))
            refine (cX _).mono ?_
            rintro ez u2 ⟨rfl, gu⟩
            have GM := Gr.blk gu FM
            have GX := Gr.blk gu FXx
            have GE := Gr.blk gu FE_
            have GR := Gr.blk gu FR
            have GP := Gr.blk gu hLz
            have hbg := Below.gr hbz gu
            clear gu cX FM FXx FE_ FR hbz
            go_wp2_with (first | ((with_reducible refine here_store ?_); refine wpList_store_blk rfl _ _ _ rfl (w1.heap.size) (fcs (v)) rfl rfl _ _ (GP) (by kernel_rfl) (by rfl) (fcs_one _) ?_; intro uy hLy hqy hKy; have JM := hKy _ (by omega) _ _ GM; have JX := hKy _ (by omega) _ _ GX; have JE := hKy _ (by omega) _ _ GE; have JR := hKy _ (by omega) _ _ GR; have hby := hbg.trans (hqy _ (by omega))))
            go_roundw
            case rel => exact ⟨s, by omega, by rw [← HE.out.2.2.1]; congr 1 <;> omega, hby, JM, JX, JE, JR, Blk.eq_ hLy (by rw [hq1.out])⟩
            case measure => simp [intOf]; omega
    · clear HI
      go_wp2_with fail
      go_loopw [9] (fun bt wr => ∃ t : Nat, t ≤ 64 ∧ bt = .int .u64 ((2 ^ t / 2 : Nat) : Int) ∧ Below w.heap.size w wr ∧ Blk wr w.heap.size 60 #[.int .u64 18446744069414583343, .int .u64 18446744073709551615, .int .u64 18446744073709551615, .int .u64 18446744073709551615, .int .u64 4294968273, .int .u64 0, .int .u64 0] ∧ Blk wr (w.heap.size + 1) 56 #[.int .u64 (x0 : Int), .int .u64 (x1 : Int), .int .u64 (x2 : Int), .int .u64 (x3 : Int)] ∧ Blk wr (w.heap.size + 2) 56 #[.int .u64 (e0 : Int), .int .u64 (e1 : Int), .int .u64 (e2 : Int), .int .u64 (e3 : Int)] ∧ Blk wr (w.heap.size + 3) 56 #[.int .u64 0, .int .u64 0, .int .u64 0, .int .u64 0] ∧ Blk wr w1.heap.size 56 (fcs (pw x (e / 2 ^ (64 * 0 + t))))) (fun bt _ => (intOf bt).toNat)
      case atStart => exact ⟨64, by omega, rfl, hb, BM, BX, BE, BR, BP⟩
      case round =>
        clear hb BM BX BE BR BP
        obtain ⟨t, ht, rfl, hb, BM, BX, BE, BR, BP⟩ := hrel
        by_cases h0 : t = 0
        · subst h0
          go_wp2
          refine ⟨⟨hb, BM, BX, BE, BR, Lib.hid (.inr (.inr (.inr (.inr (⟨rfl, BP⟩)))))⟩, by decide⟩
        · obtain ⟨s, hs⟩ : ∃ s, t = s + 1 := ⟨t - 1, by omega⟩
          subst hs
          have hbt : 2 ^ (s + 1) / 2 = 2 ^ s := by rw [Nat.pow_succ]; omega
          rw [hbt]
          obtain ⟨bt, hbe⟩ : ∃ bt, bt = 2 ^ s := ⟨_, rfl⟩
          have hpos : 0 < bt := by rw [hbe]; exact Nat.two_pow_pos s
          have hblt : bt < 18446744073709551616 := by
            have h63 : 2 ^ s ≤ 2 ^ 63 := Nat.pow_le_pow_right (by omega) (by omega)
            rw [hbe]
            omega
          have hhalf : bt / 2 = 2 ^ s / 2 := by rw [hbe]
          obtain ⟨m, hm, hmz⟩ := and_bit e0 s HB.out.1 (by omega)
          rw [← hbe] at hm
          have hd := HN.out.1 s (by omega)
          obtain ⟨r, hr⟩ : ∃ r, r = pw x (e / 2 ^ (64 * 0 + (s + 1))) := ⟨_, rfl⟩
          obtain ⟨q, hq⟩ : ∃ q, q = mulP r r := ⟨_, rfl⟩
          obtain ⟨v, hv⟩ : ∃ v, v = mulP q x := ⟨_, rfl⟩
          have hq2 : q = pw x (2 * (e / 2 ^ (64 * 0 + (s + 1)))) := by rw [hq, hr, pw_sq]
          have lr : r < 115792089237316195423570985008687907853269984665640564039457584007913129639936 := by rw [hr]; exact pw_lt _ _
          have lq : q < 115792089237316195423570985008687907853269984665640564039457584007913129639936 := by rw [hq]; exact mulP_lt _ _
          have cS : ∀ w, Calls Try.prog 57 #[.agg #[.int .u64 18446744069414583343, .int .u64 18446744073709551615, .int .u64 18446744073709551615, .int .u64 18446744073709551615, .int .u64 4294968273, .int .u64 0, .int .u64 0], fv r, fv r] w fun e w' => e = .returned (fv q) ∧ Below w.heap.size w w' := by
            intro w; rw [hq]; exact mulR_any w r r lr lr
          have cX : ∀ w, Calls Try.prog 57 #[.agg #[.int .u64 18446744069414583343, .int .u64 18446744073709551615, .int .u64 18446744073709551615, .int .u64 18446744073709551615, .int .u64 4294968273, .int .u64 0, .int .u64 0], fv q, fv x] w fun e w' => e = .returned (fv v) ∧ Below w.heap.size w w' := by
            intro w; rw [hv]; exact mulR_any w q x lq HX.out
          have hend0 : m = 0 → q = pw x (e / 2 ^ (64 * 0 + s)) := fun h => by
            rw [hq2, hd, hmz.1 h]; rfl
          have hend1 : m ≠ 0 → v = pw x (e / 2 ^ (64 * 0 + s)) := fun h => by
            have hb1 : e0 / 2 ^ s % 2 = 1 := by have := mt hmz.2 h; omega
            rw [hv, hq2, pw_mul, hd, hb1]
          have HE := Lib.hid (And.intro hend0 (And.intro hend1 (And.intro hhalf hbe)))
          rw [← hr] at BP
          have hgt : (bt : Int) > 0 := by omega
          rw [← hbe]
          clear hr hq hv hq2 lr lq hend0 hend1 hhalf hbe hd hmz hbt
          go_wp2_with (first | ((with_reducible refine here_load (d := some 19) ?_); refine wpList_load_blk rfl _ _ rfl w.heap.size rfl _ _ _ (BM) Try.underlying60 rfl (by kernel_rfl) ?_) | ((with_reducible refine here_load (d := some 20) ?_); refine wpList_load_fv rfl _ _ rfl (w1.heap.size) rfl (r) _ _ _ (BP) (fv_fcs r) Try.underlying56 rfl (by kernel_rfl) ?_) | ((with_reducible refine here_load (d := some 21) ?_); refine wpList_load_fv rfl _ _ rfl (w1.heap.size) rfl (r) _ _ _ (BP) (fv_fcs r) Try.underlying56 rfl (by kernel_rfl) ?_))
          refine (cS _).mono ?_
          rintro ez u ⟨rfl, gu⟩
          have EM := Gr.blk gu BM
          have EX := Gr.blk gu BX
          have EE := Gr.blk gu BE
          have ER := Gr.blk gu BR
          have EP := Gr.blk gu BP
          have hbu := Below.gr hb gu
          clear gu cS BM BX BE BR BP hb
          have lu := EP.lt
          by_cases hm0 : m = 0
          · have hq0 := Lib.hid (HE.out.1 hm0)
            subst hm0
            clear cX
            go_wp2_with (first | ((with_reducible refine here_store ?_); refine wpList_store_blk rfl _ _ _ rfl (w1.heap.size) (fcs (q)) rfl rfl _ _ (EP) (by kernel_rfl) (by rfl) (fcs_one _) ?_; intro uz hLz hqz hKz; have FM := hKz _ (by omega) _ _ EM; have FXx := hKz _ (by omega) _ _ EX; have FE_ := hKz _ (by omega) _ _ EE; have FR := hKz _ (by omega) _ _ ER; have hbz := hbu.trans (hqz _ (by omega)); have pc : uz.cell? ⟨w.heap.size + 2, 0, none⟩ = some (.int .u64 (e0 : Int)) := FE_.cell 0))
            go_roundw
            case rel => exact ⟨s, by omega, by rw [← HE.out.2.2.1]; congr 1 <;> omega, hbz, FM, FXx, FE_, FR, Blk.eq_ hLz (by rw [hq0.out])⟩
            case measure => simp [intOf]; omega
          · have hq1 := Lib.hid (HE.out.2.1 hm0)
            have hmi : ¬ (m : Int) = 0 := by omega
            go_wp2_with (first | ((with_reducible refine here_store ?_); refine wpList_store_blk rfl _ _ _ rfl (w1.heap.size) (fcs (q)) rfl rfl _ _ (EP) (by kernel_rfl) (by rfl) (fcs_one _) ?_; intro uz hLz hqz hKz; have FM := hKz _ (by omega) _ _ EM; have FXx := hKz _ (by omega) _ _ EX; have FE_ := hKz _ (by omega) _ _ EE; have FR := hKz _ (by omega) _ _ ER; have hbz := hbu.trans (hqz _ (by omega)); have pc : uz.cell? ⟨w.heap.size + 2, 0, none⟩ = some (.int .u64 (e0 : Int)) := FE_.cell 0) | ((with_reducible refine here_load (d := some 29) ?_); refine wpList_load_blk rfl _ _ rfl w.heap.size rfl _ _ _ (FM) Try.underlying60 rfl (by kernel_rfl) ?_) | ((with_reducible refine here_load (d := some 30) ?_); refine wpList_load_fv rfl _ _ rfl (w1.heap.size) rfl (q) _ _ _ (hLz) (fv_fcs q) Try.underlying56 rfl (by kernel_rfl) ?_) | ((with_reducible refine here_load (d := some 31) ?_); refine wpList_load_fv rfl _ _ rfl (w.heap.size + 1) rfl (x) _ _ _ (FXx) (FX.out) Try.underlying56 rfl (by kernel_rfl) ?_))
            refine (cX _).mono ?_
            rintro ez u2 ⟨rfl, gu⟩
            have GM := Gr.blk gu FM
            have GX := Gr.blk gu FXx
            have GE := Gr.blk gu FE_
            have GR := Gr.blk gu FR
            have GP := Gr.blk gu hLz
            have hbg := Below.gr hbz gu
            clear gu cX FM FXx FE_ FR hbz
            go_wp2_with (first | ((with_reducible refine here_store ?_); refine wpList_store_blk rfl _ _ _ rfl (w1.heap.size) (fcs (v)) rfl rfl _ _ (GP) (by kernel_rfl) (by rfl) (fcs_one _) ?_; intro uy hLy hqy hKy; have JM := hKy _ (by omega) _ _ GM; have JX := hKy _ (by omega) _ _ GX; have JE := hKy _ (by omega) _ _ GE; have JR := hKy _ (by omega) _ _ GR; have hby := hbg.trans (hqy _ (by omega))))
            go_roundw
            case rel => exact ⟨s, by omega, by rw [← HE.out.2.2.1]; congr 1 <;> omega, hby, JM, JX, JE, JR, Blk.eq_ hLy (by rw [hq1.out])⟩
            case measure => simp [intOf]; omega
    · clear HI
      have BP0 : Blk wr w1.heap.size 56 (fcs (pw x e)) := by
        have h := BP
        rw [Nat.pow_zero, Nat.div_one] at h
        exact h
      obtain ⟨z, hz⟩ : ∃ z, z = pw x e := ⟨_, rfl⟩
      rw [← hz] at BP0
      have HZ := Lib.hid hz
      clear hz BP
      go_wp2_with (first | ((with_reducible refine here_load (d := some 33) ?_); refine wpList_load_fv rfl _ _ rfl (w1.heap.size) rfl (z) _ _ _ (BP0) (fv_fcs z) Try.underlying56 rfl (by kernel_rfl) ?_) | ((with_reducible refine here_store ?_); refine wpList_store_blk rfl _ _ _ rfl (w.heap.size + 3) (fcs (z)) rfl rfl _ _ (BR) (by kernel_rfl) (by rfl) (fcs_one _) ?_; intro vz hLz hqz hKz))
      exact bodyPost_ret (results_cell_row rfl _ _ (w.heap.size + 3) _ _ (0, 0) _ rfl hLz Try.underlying56 rfl (by kernel_rfl)) rfl ⟨by rw [← HZ.out]; rfl, hb.trans (hqz _ (by omega))⟩

set_option maxHeartbeats 2000000 in
set_option maxRecDepth 100000 in
theorem invRef_any (w : World) (x : Nat) (hx : x < 115792089237316195423570985008687907853269984665640564039457584007913129639936) : Calls Try.prog 35 #[.agg #[.int .u64 18446744069414583343, .int .u64 18446744073709551615, .int .u64 18446744073709551615, .int .u64 18446744073709551615, .int .u64 4294968273, .int .u64 0, .int .u64 0], fv x] w fun e w' => e = .returned (fv (pw x (115792089237316195423570985008687907853269984665640564039457584007908834671663 - 2))) ∧ Below w.heap.size w w' := by
  obtain ⟨p, hp⟩ : ∃ p, p = 115792089237316195423570985008687907853269984665640564039457584007908834671663 := ⟨_, rfl⟩
  obtain ⟨n2, h2⟩ : ∃ n, n = 2 := ⟨_, rfl⟩
  obtain ⟨q, hq⟩ : ∃ q, q = 115792089237316195423570985008687907853269984665640564039457584007908834671663 - 2 := ⟨_, rfl⟩
  obtain ⟨z, hz⟩ : ∃ z, z = pw x q := ⟨_, rfl⟩
  rw [← hq, ← hz]
  have cS : ∀ w, Calls Try.prog 66 #[.int .u64 2] w fun e w' => e = .returned (fv n2) ∧ Below w.heap.size w w' := fun w => small_at w n2 2 (by rw [h2]; rfl) (by omega)
  have cM : ∀ w, Calls Try.prog 63 #[fv p, fv n2] w fun e w' => e = .returned (fv q) ∧ Below w.heap.size w w' := fun w => minusR_at w p n2 q 0 rfl rfl (by omega) (by omega) (by omega) (by omega)
  have cP : ∀ w, Calls Try.prog 67 #[.agg #[.int .u64 18446744069414583343, .int .u64 18446744073709551615, .int .u64 18446744073709551615, .int .u64 18446744073709551615, .int .u64 4294968273, .int .u64 0, .int .u64 0], fv x, fv q] w fun e w' => e = .returned (fv z) ∧ Below w.heap.size w w' := by
    intro w; rw [hz]; exact power_any w x q hx (by omega)
  have FP : Hid (fv p = .agg #[.int .u64 18446744069414583343, .int .u64 18446744073709551615, .int .u64 18446744073709551615, .int .u64 18446744073709551615]) := Lib.hid (by rw [hp]; exact fv_P)
  obtain ⟨x0, x1, x2, x3, fx⟩ := words_fv x hx
  have FX := Lib.hid fx
  rw [fx]
  clear fx hx hp h2 hq hz
  go_enter Try.func35, Try.ntmps35
  go_wp2
  refine wp_region_G (fun j => j == 7) (by kernel_rfl) ?_
  try simp only [Act.put]
  refine wpAnyG_take 0 rfl (by kernel_rfl) (fun _ _ _ h => h) (YieldsG.load (by rfl) _ _ rfl w.heap.size 0 rfl ([.int .u64 18446744069414583343, .int .u64 18446744073709551615, .int .u64 18446744073709551615, .int .u64 18446744073709551615, .int .u64 4294968273, .int .u64 0, .int .u64 0]) _ (Blk.lt (((Blk.new w _ _).alloc _).alloc _)) (Blk.range (((Blk.new w _ _).alloc _).alloc _)) Try.underlying60 rfl (by kernel_rfl)) ?_
  try simp only [Act.put, List.setIfInBounds_toArray, List.set_cons_zero, List.set_cons_succ]
  refine wpAnyG_take 1 rfl (by kernel_rfl) (fun _ _ _ h => h) (YieldsG.loadF (by rfl) _ _ rfl (w.heap.size + 1) rfl (x) _ _ ((blk_new2 w _ _ _).alloc _) (FX.out) Try.underlying56 rfl (by kernel_rfl)) ?_
  try simp only [Act.put, List.setIfInBounds_toArray, List.set_cons_zero, List.set_cons_succ]
  refine wpAnyG_take 2 rfl (by kernel_rfl) (fun _ _ _ h => h) (YieldsG.pure (by rfl) (fun w9 _ => by go_simp; try with_reducible rfl)) ?_
  try simp only [Act.put, List.setIfInBounds_toArray, List.set_cons_zero, List.set_cons_succ]
  refine wpAnyG_take 3 rfl (by kernel_rfl) (fun _ _ _ h => h) (YieldsG.loadP (by rfl) _ _ rfl w.heap.size rfl p _ (Blk.lt (((Blk.new w _ _).alloc _).alloc _)) (mod_range (((Blk.new w _ _).alloc _).alloc _)) FP.out Try.underlying56 rfl (by kernel_rfl)) ?_
  try simp only [Act.put, List.setIfInBounds_toArray, List.set_cons_zero, List.set_cons_succ]
  refine wpAnyG_take 4 rfl (by kernel_rfl) (fun _ _ _ h => h) (YieldsG.call (v := fv n2) (by rfl) 66 _ (fun w9 => by go_simp; try (first | with_reducible rfl | rfl)) (fun w9 h9 => cS w9)) ?_
  try simp only [Act.put, List.setIfInBounds_toArray, List.set_cons_zero, List.set_cons_succ]
  refine wpAnyG_take 5 rfl (by kernel_rfl) (fun _ _ _ h => h) (YieldsG.call (v := fv q) (by rfl) 63 _ (fun w9 => by go_simp; try (first | with_reducible rfl | rfl)) (fun w9 h9 => cM w9)) ?_
  try simp only [Act.put, List.setIfInBounds_toArray, List.set_cons_zero, List.set_cons_succ]
  refine wpAnyG_take 6 rfl (by kernel_rfl) (fun _ _ _ h => h) (YieldsG.call (v := fv z) (by rfl) 67 _ (fun w9 => by go_simp; try (first | with_reducible rfl | rfl)) (fun w9 h9 => cP w9)) ?_
  try simp only [Act.put, List.setIfInBounds_toArray, List.set_cons_zero, List.set_cons_succ]
  refine wpAnyG_store 7 rfl (by kernel_rfl) (by rfl) _ _ _ rfl (w.heap.size + 2) (fcs (z)) rfl rfl _ _ (blk_new3 w _ _ _ _) (by kernel_rfl) (by rfl) (fcs_one _) rfl (fun w6 h6 w7 hB7 hL7 => ?_)
  try simp only [Act.put]
  refine wpAnyG_done (by kernel_rfl) (fun w8 h8 => ?_)
  have hfin := Gr.blk h8 hL7
  have hb9 := (Below.gr (below_alloc3 w _ _ _) h6).trans ((hB7 _ (by omega)).trans (Below.mono h8 (by have := hL7.lt; omega)))
  go_wp2
  exact bodyPost_ret (results_cell_row rfl _ _ (w.heap.size + 2) _ _ (0, 0) _ rfl hfin Try.underlying56 rfl (by kernel_rfl)) rfl ⟨rfl, hb9⟩
end Go.Proofs.Ytneeefinaejgcaa

end
section
namespace Go.Proofs.Ytneeefinaejgcaa
open Go.RowKit Go.Lib

/-- byte number j of a number, the lowest is 0 -/
def byteN (z j : Nat) : UInt8 := UInt8.ofNat (z / 2 ^ (8 * j) % 256)
/-- the k lowest bytes, the highest first -/
def lowB (z : Nat) : Nat → List UInt8
  | 0 => []
  | k + 1 => byteN z k :: lowB z k
theorem lowB_length (z : Nat) : ∀ k, (lowB z k).length = k
  | 0 => rfl
  | k + 1 => by rw [lowB, List.length_cons, lowB_length z k]
def bytesS (z : Nat) : List UInt8 := lowB z 32
/-- what stands in the array behind k rounds -/
def partB (z k : Nat) : List UInt8 := List.replicate (32 - k) 0 ++ lowB z k
theorem partB_length (z k : Nat) (h : k ≤ 32) : (partB z k).length = 32 := by simp [partB, lowB_length]; omega
theorem partB_full (z : Nat) : partB z 32 = bytesS z := by simp [partB, bytesS]
theorem partB_set (z k : Nat) (h : k < 32) : ((partB z k).map bv).toArray.setIfInBounds (31 - k) (bv (byteN z k)) = ((partB z (k + 1)).map bv).toArray := by
  rw [List.setIfInBounds_toArray]
  congr 1
  rw [← List.map_set]
  congr 1
  unfold partB
  rw [List.set_append_left _ _ (by simp; omega)]
  obtain ⟨m, hm⟩ : ∃ m, 32 - k = m + 1 := ⟨31 - k, by omega⟩
  have h2 : 32 - (k + 1) = m := by omega
  have h3 : 31 - k = m := by omega
  rw [hm, h2, h3, List.replicate_succ', List.set_append_right _ _ (by simp)]
  simp [lowB]
theorem bytesS_length (z : Nat) : (bytesS z).length = 32 := lowB_length z 32
theorem bv_byteN (z j : Nat) : bv (byteN z j) = .int .u8 ((z / 2 ^ (8 * j) % 256 : Nat) : Int) := by
  unfold bv byteN
  congr 2
  rw [UInt8.toNat_ofNat']
  omega
theorem Blk.val {w : World} {a : Addr} {v v' : Value} {g : Nat} {t : TypeId} {cs : Array Value} (h : Blk (w.setCell a v) g t cs) (e : v = v') : Blk (w.setCell a v') g t cs := e ▸ h
theorem b32_info {l : List UInt8} (h : l.length = 32) : (Try.prog.info? 81).map (·.size) = some (l.map bv).toArray.size := by
  simp only [List.size_toArray, List.length_map, h]
  kernel_rfl
theorem b32_one (l : List UInt8) : (l.map bv).toArray.all (·.oneCell') = true := by simp [bv, Value.oneCell']

end Go.Proofs.Ytneeefinaejgcaa

end
section
namespace Go.Proofs.Ytneeefinaejgcaa
open Go.RowKit Sp

end Go.Proofs.Ytneeefinaejgcaa

end
section
namespace Go.Proofs.Ytneeefinaejgcaa
open Go.RowKit Go.Lib

set_option maxHeartbeats 2000000 in
set_option maxRecDepth 100000 in
theorem rightR_any (w : World) (x : Nat) (hx : x < 115792089237316195423570985008687907853269984665640564039457584007913129639936) : Calls Try.prog 90 #[modV, fv x] w fun e w' => e = .returned (.bool (decide (x < pM))) ∧ Below w.heap.size w w' := by
  obtain ⟨p, hp⟩ : ∃ p, p = 115792089237316195423570985008687907853269984665640564039457584007908834671663 := ⟨_, rfl⟩
  obtain ⟨b, hb⟩ : ∃ b, b = decide (x < pM) := ⟨_, rfl⟩
  have cb : ∀ w, Calls Try.prog 62 #[fv x, fv p] w fun e w' => e = .returned (.bool b) ∧ Below w.heap.size w w' := by
    intro w; rw [hb, pM_eq, ← hp]; exact below_at w x p rfl rfl hx (by omega)
  have hpc : fv p = .agg #[.int .u64 18446744069414583343, .int .u64 18446744073709551615, .int .u64 18446744073709551615, .int .u64 18446744073709551615] := by rw [hp]; exact fv_P
  obtain ⟨x0, x1, x2, x3, fx⟩ := words_fv x hx
  have FX := Lib.hid fx
  have FP := Lib.hid hpc
  rw [fx, ← hb]
  unfold modV
  clear fx hpc hx hp hb
  go_enter Try.func90, Try.ntmps90
  go_wp2_with (first | ((with_reducible refine here_load (d := some 5) ?_); refine wpList_load_fv rfl _ _ rfl (w.heap.size + 1) rfl (x) _ _ _ (blk_new2 w _ _ _) (FX.out) Try.underlying56 rfl (by kernel_rfl) ?_) | ((with_reducible refine here_load (d := some 7) ?_); refine wpList_load_part rfl _ _ rfl w.heap.size rfl p [.int .u64 18446744069414583343, .int .u64 18446744073709551615, .int .u64 18446744073709551615, .int .u64 18446744073709551615] _ (mod_range ((Blk.new w _ _).alloc _)) FP.out Try.underlying56 rfl (by kernel_rfl) ?_))
  refine (cb _).mono ?_
  rintro e w1 ⟨rfl, k1⟩
  go_wp2
  go_ret
  exact ⟨rfl, Below.gr (below_alloc2 w _ _) k1⟩

end Go.Proofs.Ytneeefinaejgcaa

end
section
namespace Go.Proofs.Ytneeefinaejgcaa.Cu
open Go.RowKit Go.Proofs.Ytneeefinaejgcaa Go.Proofs.Ytneeefinaejgcaa.Sy

def modcs : Array Value := #[.int .u64 18446744069414583343, .int .u64 18446744073709551615, .int .u64 18446744073709551615, .int .u64 18446744073709551615, .int .u64 4294968273, .int .u64 0, .int .u64 0]
def mod0 : Array Value := #[.int .u64 0, .int .u64 0, .int .u64 0, .int .u64 0, .int .u64 0, .int .u64 0, .int .u64 0]
theorem refmul_c (w : World) (a b : Fp) : Calls Try.prog 57 #[.agg modcs, fv a.val, fv b.val] w (Gets w (fv (a * b).val)) := mulR_any w a.val b.val (lt4 a) (lt4 b)
theorem refadd_c (w : World) (a b : Fp) : Calls Try.prog 56 #[.agg modcs, fv a.val, fv b.val] w (Gets w (fv (a + b).val)) := addR_any w a.val b.val (lt4 a) (lt4 b)
theorem refsub_c (w : World) (a b : Fp) : Calls Try.prog 96 #[.agg modcs, fv a.val, fv b.val] w (Gets w (fv (a - b).val)) := by rw [← val_sub]; exact subR_any w a.val b.val (lt4 a) (lt4 b)
theorem inv_pw (a : Nat) : invR a = pw a (115792089237316195423570985008687907853269984665640564039457584007908834671663 - 2) := by
  have h := invR_pow a
  rw [invR_red] at h
  rw [h, ← eInv_is]
  rfl
theorem refinv_c (w : World) (a : Fp) : Calls Try.prog 35 #[.agg modcs, fv a.val] w (Gets w (fv (finv a).val)) := by
  have e : (finv a).val = invR a.val := rfl
  have h := invRef_any w a.val (lt4 a)
  rw [← inv_pw, ← e] at h
  exact h
theorem eql_num (w : World) (F : Slots) (o : Oper) (x y : Operand) (n m : Nat) {yt : TypeId} (ho : o.op = .binOp .eql 56 x y yt) (hx : evF F x = fv n) (hy : evF F y = fv m) (hn : n < K4) (hm : m < K4) : (execOp (evF F) o).run Try.prog w = .ok (.value (.bool (decide (n = m)))) w := by
  have h1 := Nm.run_eqGuard_fv .eql x y n m w
  have h2 := Nm.run_eql_fv w n m hn hm
  unfold execOp
  simp only [ho, hx, hy, Sem.run_bind, h1, h2, Result.andThen_ok, Sem.run_pure]
theorem neq_num (w : World) (F : Slots) (o : Oper) (x y : Operand) (n m : Nat) {yt : TypeId} (ho : o.op = .binOp .neq 56 x y yt) (hx : evF F x = fv n) (hy : evF F y = fv m) (hn : n < K4) (hm : m < K4) : (execOp (evF F) o).run Try.prog w = .ok (.value (.bool (decide (n ≠ m)))) w := by
  have h1 := Nm.run_eqGuard_fv .neq x y n m w
  have h2 := Nm.run_neq_fv w n m hn hm
  unfold execOp
  simp only [ho, hx, hy, Sem.run_bind, h1, h2, Result.andThen_ok, Sem.run_pure]
set_option maxRecDepth 100000 in
theorem small_c (w : World) (k : Nat) (hk : k < 18446744073709551616) : Calls Try.prog 66 #[.int .u64 (k : Int)] w (Gets w (fv k)) := by
  rw [fv_small k hk]
  refine Sy.enter (args := [.int .u64 (k : Int)]) Try.func66 rfl (Nat.le_of_ble_eq_true (by kernel_rfl)) ?_
  refine Sy.seq ?_
  refine Sy.region ?_
  refine Sy.make (by kernel_rfl) 56 (fcs 0) ptr (fun _ => by kernel_rfl) (fun g0 => ?_)
  refine Sy.nil ?_
  refine Sy.then_ ?_
  refine Sy.seq ?_
  refine Sy.region ?_
  refine Sy.step (by kernel_rfl) (.int .u64 (k : Int)) (Quiet.pure (fun _ => by kernel_rfl)) ?_
  refine Sy.step (by kernel_rfl) (.agg #[.int .u64 (k : Int), .int .u64 0, .int .u64 0, .int .u64 0]) (Quiet.pure (fun _ => by kernel_rfl)) ?_
  refine Sy.write (by kernel_rfl) 0 g0 56 (fcs 0) #[.int .u64 (k : Int), .int .u64 0, .int .u64 0, .int .u64 0] (by kernel_rfl) (Writes.store 0 56 #[.int .u64 (k : Int), .int .u64 0, .int .u64 0, .int .u64 0] _ _ rfl (by kernel_rfl) (by kernel_rfl) (by kernel_rfl) (Nat.le_of_ble_eq_true (by kernel_rfl)) (by kernel_rfl) (by kernel_rfl)) ?_
  refine Sy.nil ?_
  refine Sy.then_ ?_
  refine Sy.ret ?_
  exact Sy.ret1 rfl (.inl (Res.cell (ty' := 56) g0 0 #[.int .u64 (k : Int), .int .u64 0, .int .u64 0, .int .u64 0] _ (by kernel_rfl) (by kernel_rfl) Try.underlying56 rfl (by kernel_rfl) (by kernel_rfl)))
set_option maxHeartbeats 4000000 in
set_option maxRecDepth 100000 in
theorem mulR_c (w : World) (a b : Fp) : Calls Try.prog 37 #[fv a.val, fv b.val] w (Gets w (fv (a * b).val)) := by
  refine Sy.enter (args := [fv a.val, fv b.val]) Try.func37 rfl (Nat.le_of_ble_eq_true (by kernel_rfl)) ?_
  refine Sy.seq ?_
  refine Sy.region ?_
  refine Sy.make (by kernel_rfl) 56 (fcs a.val) ptr (fun _ => by kernel_rfl) (fun g0 => ?_)
  refine Sy.make (by kernel_rfl) 56 (fcs b.val) ptr (fun _ => by kernel_rfl) (fun g1 => ?_)
  refine Sy.make (by kernel_rfl) 56 (fcs 0) ptr (fun _ => by kernel_rfl) (fun g2 => ?_)
  refine Sy.nil ?_
  refine Sy.then_ ?_
  refine Sy.seq ?_
  refine Sy.regionD (fun j => j == 4) (by kernel_rfl) ?_
  refine Sy.stepD 0 rfl (by kernel_rfl) (fun _ _ _ _ h => h) (by kernel_rfl) (.agg modcs) (Quiet.call 36 #[] (fun _ => by kernel_rfl) (refP_any)) ?_
  refine Sy.stepD 1 rfl (by kernel_rfl) (fun _ _ _ _ h => h) (by kernel_rfl) (fv a.val) (Quiet.load 0 g0 0 4 56 56 (fcs a.val) _ _ rfl (by kernel_rfl) (by kernel_rfl) Try.underlying56 rfl (by kernel_rfl) _ (by kernel_rfl) (Nat.le_of_ble_eq_true (by kernel_rfl))) ?_
  refine Sy.stepD 2 rfl (by kernel_rfl) (fun _ _ _ _ h => h) (by kernel_rfl) (fv b.val) (Quiet.load 1 g1 0 4 56 56 (fcs b.val) _ _ rfl (by kernel_rfl) (by kernel_rfl) Try.underlying56 rfl (by kernel_rfl) _ (by kernel_rfl) (Nat.le_of_ble_eq_true (by kernel_rfl))) ?_
  obtain ⟨z1, hz1⟩ : ∃ z : Fp, z = a * b := ⟨_, rfl⟩
  refine Sy.stepD 3 rfl (by kernel_rfl) (fun _ _ _ _ h => h) (by kernel_rfl) (fv z1.val) (Quiet.call 57 #[.agg modcs, fv a.val, fv b.val] (fun _ => by kernel_rfl) (fun w => by rw [hz1]; exact refmul_c w a b)) ?_
  refine Sy.writeD 4 rfl (by kernel_rfl) (by rfl) (by kernel_rfl) 2 g2 56 (fcs 0) (fcs z1.val) (by kernel_rfl) (Writes.store 0 56 (fcs z1.val) _ _ rfl (by kernel_rfl) (by kernel_rfl) (by kernel_rfl) (Nat.le_of_ble_eq_true (by kernel_rfl)) (by kernel_rfl) (by kernel_rfl)) ?_
  refine Sy.doneD (by kernel_rfl) ?_
  refine Sy.then_ ?_
  refine Sy.ret ?_
  rw [show (fv (a * b).val : Value) = fv z1.val from by rw [hz1]]
  exact Sy.ret1 (v := fv z1.val) rfl (.inl (Res.cell (ty' := 56) g2 2 (fcs z1.val) _ (by kernel_rfl) (by kernel_rfl) Try.underlying56 rfl (by kernel_rfl) (by kernel_rfl)))
set_option maxHeartbeats 4000000 in
set_option maxRecDepth 100000 in
theorem addR_c (w : World) (a b : Fp) : Calls Try.prog 64 #[fv a.val, fv b.val] w (Gets w (fv (a + b).val)) := by
  refine Sy.enter (args := [fv a.val, fv b.val]) Try.func64 rfl (Nat.le_of_ble_eq_true (by kernel_rfl)) ?_
  refine Sy.seq ?_
  refine Sy.region ?_
  refine Sy.make (by kernel_rfl) 56 (fcs a.val) ptr (fun _ => by kernel_rfl) (fun g0 => ?_)
  refine Sy.make (by kernel_rfl) 56 (fcs b.val) ptr (fun _ => by kernel_rfl) (fun g1 => ?_)
  refine Sy.make (by kernel_rfl) 56 (fcs 0) ptr (fun _ => by kernel_rfl) (fun g2 => ?_)
  refine Sy.nil ?_
  refine Sy.then_ ?_
  refine Sy.seq ?_
  refine Sy.regionD (fun j => j == 4) (by kernel_rfl) ?_
  refine Sy.stepD 0 rfl (by kernel_rfl) (fun _ _ _ _ h => h) (by kernel_rfl) (.agg modcs) (Quiet.call 36 #[] (fun _ => by kernel_rfl) (refP_any)) ?_
  refine Sy.stepD 1 rfl (by kernel_rfl) (fun _ _ _ _ h => h) (by kernel_rfl) (fv a.val) (Quiet.load 0 g0 0 4 56 56 (fcs a.val) _ _ rfl (by kernel_rfl) (by kernel_rfl) Try.underlying56 rfl (by kernel_rfl) _ (by kernel_rfl) (Nat.le_of_ble_eq_true (by kernel_rfl))) ?_
  refine Sy.stepD 2 rfl (by kernel_rfl) (fun _ _ _ _ h => h) (by kernel_rfl) (fv b.val) (Quiet.load 1 g1 0 4 56 56 (fcs b.val) _ _ rfl (by kernel_rfl) (by kernel_rfl) Try.underlying56 rfl (by kernel_rfl) _ (by kernel_rfl) (Nat.le_of_ble_eq_true (by kernel_rfl))) ?_
  obtain ⟨z1, hz1⟩ : ∃ z : Fp, z = a + b := ⟨_, rfl⟩
  refine Sy.stepD 3 rfl (by kernel_rfl) (fun _ _ _ _ h => h) (by kernel_rfl) (fv z1.val) (Quiet.call 56 #[.agg modcs, fv a.val, fv b.val] (fun _ => by kernel_rfl) (fun w => by rw [hz1]; exact refadd_c w a b)) ?_
  refine Sy.writeD 4 rfl (by kernel_rfl) (by rfl) (by kernel_rfl) 2 g2 56 (fcs 0) (fcs z1.val) (by kernel_rfl) (Writes.store 0 56 (fcs z1.val) _ _ rfl (by kernel_rfl) (by kernel_rfl) (by kernel_rfl) (Nat.le_of_ble_eq_true (by kernel_rfl)) (by kernel_rfl) (by kernel_rfl)) ?_
  refine Sy.doneD (by kernel_rfl) ?_
  refine Sy.then_ ?_
  refine Sy.ret ?_
  rw [show (fv (a + b).val : Value) = fv z1.val from by rw [hz1]]
  exact Sy.ret1 (v := fv z1.val) rfl (.inl (Res.cell (ty' := 56) g2 2 (fcs z1.val) _ (by kernel_rfl) (by kernel_rfl) Try.underlying56 rfl (by kernel_rfl) (by kernel_rfl)))
set_option maxHeartbeats 4000000 in
set_option maxRecDepth 100000 in
theorem subR_c (w : World) (a b : Fp) : Calls Try.prog 65 #[fv a.val, fv b.val] w (Gets w (fv (a - b).val)) := by
  refine Sy.enter (args := [fv a.val, fv b.val]) Try.func65 rfl (Nat.le_of_ble_eq_true (by kernel_rfl)) ?_
  refine Sy.seq ?_
  refine Sy.region ?_
  refine Sy.make (by kernel_rfl) 56 (fcs a.val) ptr (fun _ => by kernel_rfl) (fun g0 => ?_)
  refine Sy.make (by kernel_rfl) 56 (fcs b.val) ptr (fun _ => by kernel_rfl) (fun g1 => ?_)
  refine Sy.make (by kernel_rfl) 56 (fcs 0) ptr (fun _ => by kernel_rfl) (fun g2 => ?_)
  refine Sy.nil ?_
  refine Sy.then_ ?_
  refine Sy.seq ?_
  refine Sy.regionD (fun j => j == 4) (by kernel_rfl) ?_
  refine Sy.stepD 0 rfl (by kernel_rfl) (fun _ _ _ _ h => h) (by kernel_rfl) (.agg modcs) (Quiet.call 36 #[] (fun _ => by kernel_rfl) (refP_any)) ?_
  refine Sy.stepD 1 rfl (by kernel_rfl) (fun _ _ _ _ h => h) (by kernel_rfl) (fv a.val) (Quiet.load 0 g0 0 4 56 56 (fcs a.val) _ _ rfl (by kernel_rfl) (by kernel_rfl) Try.underlying56 rfl (by kernel_rfl) _ (by kernel_rfl) (Nat.le_of_ble_eq_true (by kernel_rfl))) ?_
  refine Sy.stepD 2 rfl (by kernel_rfl) (fun _ _ _ _ h => h) (by kernel_rfl) (fv b.val) (Quiet.load 1 g1 0 4 56 56 (fcs b.val) _ _ rfl (by kernel_rfl) (by kernel_rfl) Try.underlying56 rfl (by kernel_rfl) _ (by kernel_rfl) (Nat.le_of_ble_eq_true (by kernel_rfl))) ?_
  obtain ⟨z1, hz1⟩ : ∃ z : Fp, z = a - b := ⟨_, rfl⟩
  refine Sy.stepD 3 rfl (by kernel_rfl) (fun _ _ _ _ h => h) (by kernel_rfl) (fv z1.val) (Quiet.call 96 #[.agg modcs, fv a.val, fv b.val] (fun _ => by kernel_rfl) (fun w => by rw [hz1]; exact refsub_c w a b)) ?_
  refine Sy.writeD 4 rfl (by kernel_rfl) (by rfl) (by kernel_rfl) 2 g2 56 (fcs 0) (fcs z1.val) (by kernel_rfl) (Writes.store 0 56 (fcs z1.val) _ _ rfl (by kernel_rfl) (by kernel_rfl) (by kernel_rfl) (Nat.le_of_ble_eq_true (by kernel_rfl)) (by kernel_rfl) (by kernel_rfl)) ?_
  refine Sy.doneD (by kernel_rfl) ?_
  refine Sy.then_ ?_
  refine Sy.ret ?_
  rw [show (fv (a - b).val : Value) = fv z1.val from by rw [hz1]]
  exact Sy.ret1 (v := fv z1.val) rfl (.inl (Res.cell (ty' := 56) g2 2 (fcs z1.val) _ (by kernel_rfl) (by kernel_rfl) Try.underlying56 rfl (by kernel_rfl) (by kernel_rfl)))
set_option maxHeartbeats 4000000 in
set_option maxRecDepth 100000 in
theorem zeroR_c (w : World)  : Calls Try.prog 34 #[] w (Gets w (pv 0 0 true)) := by
  refine Sy.enter (args := []) Try.func34 rfl (Nat.le_of_ble_eq_true (by kernel_rfl)) ?_
  refine Sy.seq ?_
  refine Sy.region ?_
  refine Sy.make (by kernel_rfl) 27 (pcs 0 0 false) ptr (fun _ => by kernel_rfl) (fun g0 => ?_)
  refine Sy.nil ?_
  refine Sy.then_ ?_
  refine Sy.seq ?_
  refine Sy.region ?_
  refine Sy.step (by kernel_rfl) (pv 0 0 true) (Quiet.pure (fun _ => by kernel_rfl)) ?_
  refine Sy.write (by kernel_rfl) 0 g0 27 (pcs 0 0 false) (pcs 0 0 true) (by kernel_rfl) (Writes.store 0 27 (pcs 0 0 true) _ _ rfl (by kernel_rfl) (by kernel_rfl) (by kernel_rfl) (Nat.le_of_ble_eq_true (by kernel_rfl)) (by kernel_rfl) (by kernel_rfl)) ?_
  refine Sy.nil ?_
  refine Sy.then_ ?_
  refine Sy.ret ?_
  exact Sy.ret1 (v := pv 0 0 true) rfl (.inl (Res.cell (ty' := 27) g0 0 (pcs 0 0 true) _ (by kernel_rfl) (by kernel_rfl) Try.underlying27 rfl (by kernel_rfl) (by kernel_rfl)))
set_option maxHeartbeats 4000000 in
set_option maxRecDepth 100000 in
theorem baseR_c (w : World)  : Calls Try.prog 24 #[] w (Gets w (ptv bP)) := by
  refine Sy.enter (args := []) Try.func24 rfl (Nat.le_of_ble_eq_true (by kernel_rfl)) ?_
  refine Sy.seq ?_
  refine Sy.region ?_
  refine Sy.make (by kernel_rfl) 27 (pcs 0 0 false) ptr (fun _ => by kernel_rfl) (fun g0 => ?_)
  refine Sy.nil ?_
  refine Sy.then_ ?_
  refine Sy.seq ?_
  refine Sy.region ?_
  refine Sy.step (by kernel_rfl) (fv 55066263022277343669578718895168534326250603453777594175500187360389116729240) (Quiet.pure (fun _ => by kernel_rfl)) ?_
  refine Sy.step (by kernel_rfl) (fv 32670510020758816978083085130507043184471273380659243275938904335757337482424) (Quiet.pure (fun _ => by kernel_rfl)) ?_
  refine Sy.step (by kernel_rfl) (pv 55066263022277343669578718895168534326250603453777594175500187360389116729240 32670510020758816978083085130507043184471273380659243275938904335757337482424 false) (Quiet.pure (fun _ => by kernel_rfl)) ?_
  refine Sy.write (by kernel_rfl) 0 g0 27 (pcs 0 0 false) (pcs 55066263022277343669578718895168534326250603453777594175500187360389116729240 32670510020758816978083085130507043184471273380659243275938904335757337482424 false) (by kernel_rfl) (Writes.store 0 27 (pcs 55066263022277343669578718895168534326250603453777594175500187360389116729240 32670510020758816978083085130507043184471273380659243275938904335757337482424 false) _ _ rfl (by kernel_rfl) (by kernel_rfl) (by kernel_rfl) (Nat.le_of_ble_eq_true (by kernel_rfl)) (by kernel_rfl) (by kernel_rfl)) ?_
  refine Sy.nil ?_
  refine Sy.then_ ?_
  refine Sy.ret ?_
  rw [show (ptv bP : Value) = pv 55066263022277343669578718895168534326250603453777594175500187360389116729240 32670510020758816978083085130507043184471273380659243275938904335757337482424 false from by kernel_rfl]
  exact Sy.ret1 (v := pv 55066263022277343669578718895168534326250603453777594175500187360389116729240 32670510020758816978083085130507043184471273380659243275938904335757337482424 false) rfl (.inl (Res.cell (ty' := 27) g0 0 (pcs 55066263022277343669578718895168534326250603453777594175500187360389116729240 32670510020758816978083085130507043184471273380659243275938904335757337482424 false) _ (by kernel_rfl) (by kernel_rfl) Try.underlying27 rfl (by kernel_rfl) (by kernel_rfl)))
set_option maxHeartbeats 4000000 in
set_option maxRecDepth 100000 in
theorem cubeR_c (w : World) (x : Fp) : Calls Try.prog 89 #[fv x.val] w (Gets w (fv (x * x * x + 7).val)) := by
  refine Sy.enter (args := [fv x.val]) Try.func89 rfl (Nat.le_of_ble_eq_true (by kernel_rfl)) ?_
  refine Sy.seq ?_
  refine Sy.region ?_
  refine Sy.make (by kernel_rfl) 56 (fcs x.val) ptr (fun _ => by kernel_rfl) (fun g0 => ?_)
  refine Sy.make (by kernel_rfl) 56 (fcs 0) ptr (fun _ => by kernel_rfl) (fun g1 => ?_)
  refine Sy.nil ?_
  refine Sy.then_ ?_
  refine Sy.seq ?_
  refine Sy.regionD (fun j => j == 7) (by kernel_rfl) ?_
  refine Sy.stepD 0 rfl (by kernel_rfl) (fun _ _ _ _ h => h) (by kernel_rfl) (fv x.val) (Quiet.load 0 g0 0 4 56 56 (fcs x.val) _ _ rfl (by kernel_rfl) (by kernel_rfl) Try.underlying56 rfl (by kernel_rfl) _ (by kernel_rfl) (Nat.le_of_ble_eq_true (by kernel_rfl))) ?_
  refine Sy.stepD 1 rfl (by kernel_rfl) (fun _ _ _ _ h => h) (by kernel_rfl) (fv x.val) (Quiet.load 0 g0 0 4 56 56 (fcs x.val) _ _ rfl (by kernel_rfl) (by kernel_rfl) Try.underlying56 rfl (by kernel_rfl) _ (by kernel_rfl) (Nat.le_of_ble_eq_true (by kernel_rfl))) ?_
  refine Sy.stepD 2 rfl (by kernel_rfl) (fun _ _ _ _ h => h) (by kernel_rfl) (fv x.val) (Quiet.load 0 g0 0 4 56 56 (fcs x.val) _ _ rfl (by kernel_rfl) (by kernel_rfl) Try.underlying56 rfl (by kernel_rfl) _ (by kernel_rfl) (Nat.le_of_ble_eq_true (by kernel_rfl))) ?_
  obtain ⟨z1, hz1⟩ : ∃ z : Fp, z = x * x := ⟨_, rfl⟩
  refine Sy.stepD 3 rfl (by kernel_rfl) (fun _ _ _ _ h => h) (by kernel_rfl) (fv z1.val) (Quiet.call 37 #[fv x.val, fv x.val] (fun _ => by kernel_rfl) (fun w => by rw [hz1]; exact mulR_c w x x)) ?_
  obtain ⟨z2, hz2⟩ : ∃ z : Fp, z = x * z1 := ⟨_, rfl⟩
  refine Sy.stepD 4 rfl (by kernel_rfl) (fun _ _ _ _ h => h) (by kernel_rfl) (fv z2.val) (Quiet.call 37 #[fv x.val, fv z1.val] (fun _ => by kernel_rfl) (fun w => by rw [hz2]; exact mulR_c w x z1)) ?_
  obtain ⟨z3, hz3⟩ : ∃ z : Fp, z = (7 : Fp) := ⟨_, rfl⟩
  refine Sy.stepD 5 rfl (by kernel_rfl) (fun _ _ _ _ h => h) (by kernel_rfl) (fv z3.val) (Quiet.call 66 #[.int .u64 7] (fun _ => by kernel_rfl) (fun w => by rw [hz3]; exact small_c w 7 (by decide))) ?_
  obtain ⟨z4, hz4⟩ : ∃ z : Fp, z = z2 + z3 := ⟨_, rfl⟩
  refine Sy.stepD 6 rfl (by kernel_rfl) (fun _ _ _ _ h => h) (by kernel_rfl) (fv z4.val) (Quiet.call 64 #[fv z2.val, fv z3.val] (fun _ => by kernel_rfl) (fun w => by rw [hz4]; exact addR_c w z2 z3)) ?_
  refine Sy.writeD 7 rfl (by kernel_rfl) (by rfl) (by kernel_rfl) 1 g1 56 (fcs 0) (fcs z4.val) (by kernel_rfl) (Writes.store 0 56 (fcs z4.val) _ _ rfl (by kernel_rfl) (by kernel_rfl) (by kernel_rfl) (Nat.le_of_ble_eq_true (by kernel_rfl)) (by kernel_rfl) (by kernel_rfl)) ?_
  refine Sy.doneD (by kernel_rfl) ?_
  refine Sy.then_ ?_
  refine Sy.ret ?_
  rw [show (fv (x * x * x + 7).val : Value) = fv z4.val from by
    refine congrArg (fun t : Fp => fv t.val) ?_
    grobner]
  exact Sy.ret1 (v := fv z4.val) rfl (.inl (Res.cell (ty' := 56) g1 1 (fcs z4.val) _ (by kernel_rfl) (by kernel_rfl) Try.underlying56 rfl (by kernel_rfl) (by kernel_rfl)))
set_option maxHeartbeats 4000000 in
set_option maxRecDepth 100000 in
theorem pointR_c (w : World) (x y : Nat) (hx : x < K4) (hy : y < K4) : Calls Try.prog 38 #[fv x, fv y] w (Gets w (pv x y false)) := by
  refine Sy.enter (args := [fv x, fv y]) Try.func38 rfl (Nat.le_of_ble_eq_true (by kernel_rfl)) ?_
  refine Sy.seq ?_
  refine Sy.region ?_
  refine Sy.make (by kernel_rfl) 56 (fcs x) ptr (fun _ => by kernel_rfl) (fun g0 => ?_)
  refine Sy.make (by kernel_rfl) 56 (fcs y) ptr (fun _ => by kernel_rfl) (fun g1 => ?_)
  refine Sy.make (by kernel_rfl) 27 (pcs 0 0 false) ptr (fun _ => by kernel_rfl) (fun g2 => ?_)
  refine Sy.nil ?_
  refine Sy.then_ ?_
  refine Sy.seq ?_
  refine Sy.regionD (fun j => j == 5) (by kernel_rfl) ?_
  refine Sy.stepD 0 rfl (by kernel_rfl) (fun _ _ _ _ h => h) (by kernel_rfl) (fv x) (Quiet.load 0 g0 0 4 56 56 (fcs x) _ _ rfl (by kernel_rfl) (by kernel_rfl) Try.underlying56 rfl (by kernel_rfl) _ (by kernel_rfl) (Nat.le_of_ble_eq_true (by kernel_rfl))) ?_
  refine Sy.stepD 1 rfl (by kernel_rfl) (fun _ _ _ _ h => h) (by kernel_rfl) (fv x) (Quiet.call 68 #[fv x] (fun _ => by kernel_rfl) (fun w => refFe_any w x (by first | assumption | exact lt4 _ | decide +kernel))) ?_
  refine Sy.stepD 2 rfl (by kernel_rfl) (fun _ _ _ _ h => h) (by kernel_rfl) (fv y) (Quiet.load 1 g1 0 4 56 56 (fcs y) _ _ rfl (by kernel_rfl) (by kernel_rfl) Try.underlying56 rfl (by kernel_rfl) _ (by kernel_rfl) (Nat.le_of_ble_eq_true (by kernel_rfl))) ?_
  refine Sy.stepD 3 rfl (by kernel_rfl) (fun _ _ _ _ h => h) (by kernel_rfl) (fv y) (Quiet.call 68 #[fv y] (fun _ => by kernel_rfl) (fun w => refFe_any w y (by first | assumption | exact lt4 _ | decide +kernel))) ?_
  refine Sy.stepD 4 rfl (by kernel_rfl) (fun _ _ _ _ h => h) (by kernel_rfl) (pv x y false) (Quiet.pure (fun _ => by kernel_rfl)) ?_
  refine Sy.writeD 5 rfl (by kernel_rfl) (by rfl) (by kernel_rfl) 2 g2 27 (pcs 0 0 false) (pcs x y false) (by kernel_rfl) (Writes.store 0 27 (pcs x y false) _ _ rfl (by kernel_rfl) (by kernel_rfl) (by kernel_rfl) (Nat.le_of_ble_eq_true (by kernel_rfl)) (by kernel_rfl) (by kernel_rfl)) ?_
  refine Sy.doneD (by kernel_rfl) ?_
  refine Sy.then_ ?_
  refine Sy.ret ?_
  exact Sy.ret1 (v := pv x y false) rfl (.inl (Res.cell (ty' := 27) g2 2 (pcs x y false) _ (by kernel_rfl) (by kernel_rfl) Try.underlying27 rfl (by kernel_rfl) (by kernel_rfl)))
set_option maxHeartbeats 4000000 in
set_option maxRecDepth 100000 in
theorem rightR_b (w : World) (x y : Nat) (i : Bool) (hx : x < K4) (hy : y < K4) : Calls Try.prog 61 #[pv x y i] w (Gets w (.bool (rightB x y i))) := by
  refine Sy.enter (args := [pv x y i]) Try.func61 rfl (Nat.le_of_ble_eq_true (by kernel_rfl)) ?_
  refine Sy.seq ?_
  refine Sy.region ?_
  refine Sy.make (by kernel_rfl) 27 (pcs x y i) ptr (fun _ => by kernel_rfl) (fun g0 => ?_)
  refine Sy.step (by kernel_rfl) (.bool false) (Quiet.pure (fun _ => by kernel_rfl)) ?_
  refine Sy.nil ?_
  refine Sy.then_ ?_
  refine Sy.seq ?_
  refine Sy.seq ?_
  refine Sy.region ?_
  refine Sy.step (by kernel_rfl) (.pointer (some ⟨g0, 8, none⟩)) (Quiet.pure (fun _ => by kernel_rfl)) ?_
  refine Sy.step (by kernel_rfl) (.bool i) (Quiet.cell 0 g0 8 27 4 (pcs x y i) _ _ rfl (by kernel_rfl) (by kernel_rfl) Try.underlying4 rfl _ (by kernel_rfl)) ?_
  refine Sy.nil ?_
  refine Sy.then_ ?_
  cases i
  · refine Sy.cond_f (by kernel_rfl) (by kernel_rfl) ?_
    refine Sy.skip ?_
    refine Sy.then_ ?_
    refine Sy.seq ?_
    refine Sy.region ?_
    refine Sy.step (by kernel_rfl) (.pointer (some ⟨g0, 0, none⟩)) (Quiet.pure (fun _ => by kernel_rfl)) ?_
    refine Sy.step (by kernel_rfl) (fv x) (Quiet.load 0 g0 0 4 27 25 (pcs x y false) _ _ rfl (by kernel_rfl) (by kernel_rfl) Try.underlying25 rfl (by kernel_rfl) _ (by kernel_rfl) (Nat.le_of_ble_eq_true (by kernel_rfl))) ?_
    refine Sy.step (by kernel_rfl) (fv x) (Quiet.call 31 #[fv x] (fun _ => by kernel_rfl) (fun w => refOf_any w x (by first | assumption | exact lt4 _ | decide +kernel))) ?_
    refine Sy.make (by kernel_rfl) 56 (fcs 0) ptr (fun _ => by kernel_rfl) (fun g1 => ?_)
    refine Sy.write (by kernel_rfl) 1 g1 56 (fcs 0) (fcs x) (by kernel_rfl) (Writes.store 0 56 (fcs x) _ _ rfl (by kernel_rfl) (by kernel_rfl) (by kernel_rfl) (Nat.le_of_ble_eq_true (by kernel_rfl)) (by kernel_rfl) (by kernel_rfl)) ?_
    refine Sy.nil ?_
    refine Sy.then_ ?_
    refine Sy.seq ?_
    refine Sy.region ?_
    refine Sy.step (by kernel_rfl) (.pointer (some ⟨g0, 4, none⟩)) (Quiet.pure (fun _ => by kernel_rfl)) ?_
    refine Sy.step (by kernel_rfl) (fv y) (Quiet.load 0 g0 4 4 27 25 (pcs x y false) _ _ rfl (by kernel_rfl) (by kernel_rfl) Try.underlying25 rfl (by kernel_rfl) _ (by kernel_rfl) (Nat.le_of_ble_eq_true (by kernel_rfl))) ?_
    refine Sy.step (by kernel_rfl) (fv y) (Quiet.call 31 #[fv y] (fun _ => by kernel_rfl) (fun w => refOf_any w y (by first | assumption | exact lt4 _ | decide +kernel))) ?_
    refine Sy.make (by kernel_rfl) 56 (fcs 0) ptr (fun _ => by kernel_rfl) (fun g2 => ?_)
    refine Sy.write (by kernel_rfl) 2 g2 56 (fcs 0) (fcs y) (by kernel_rfl) (Writes.store 0 56 (fcs y) _ _ rfl (by kernel_rfl) (by kernel_rfl) (by kernel_rfl) (Nat.le_of_ble_eq_true (by kernel_rfl)) (by kernel_rfl) (by kernel_rfl)) ?_
    refine Sy.nil ?_
    refine Sy.then_ ?_
    refine Sy.seq ?_
    refine Sy.region ?_
    refine Sy.step (by kernel_rfl) (.agg modcs) (Quiet.call 36 #[] (fun _ => by kernel_rfl) (refP_any)) ?_
    refine Sy.make (by kernel_rfl) 60 mod0 ptr (fun _ => by kernel_rfl) (fun g3 => ?_)
    refine Sy.write (by kernel_rfl) 3 g3 60 mod0 modcs (by kernel_rfl) (Writes.store 0 60 modcs _ _ rfl (by kernel_rfl) (by kernel_rfl) (by kernel_rfl) (Nat.le_of_ble_eq_true (by kernel_rfl)) (by kernel_rfl) (by kernel_rfl)) ?_
    refine Sy.nil ?_
    refine Sy.then_ ?_
    refine Sy.seq ?_
    refine Sy.region ?_
    refine Sy.step (by kernel_rfl) (.agg modcs) (Quiet.load 3 g3 0 7 60 60 modcs _ _ rfl (by kernel_rfl) (by kernel_rfl) Try.underlying60 rfl (by kernel_rfl) _ (by kernel_rfl) (Nat.le_of_ble_eq_true (by kernel_rfl))) ?_
    refine Sy.step (by kernel_rfl) (fv x) (Quiet.load 1 g1 0 4 56 56 (fcs x) _ _ rfl (by kernel_rfl) (by kernel_rfl) Try.underlying56 rfl (by kernel_rfl) _ (by kernel_rfl) (Nat.le_of_ble_eq_true (by kernel_rfl))) ?_
    obtain ⟨b1, hb1⟩ : ∃ z : Bool, z = decide (x < pM) := ⟨_, rfl⟩
    refine Sy.step (by kernel_rfl) (.bool b1) (Quiet.call 90 #[.agg modcs, fv x] (fun _ => by kernel_rfl) (fun w => by rw [hb1]; exact rightR_any w x (by first | assumption | exact lt4 _ | decide +kernel))) ?_
    refine Sy.step (by kernel_rfl) (.bool b1) (Quiet.pure (fun _ => by kernel_rfl)) ?_
    refine Sy.nil ?_
    refine Sy.then_ ?_
    refine Sy.seq ?_
    refine Sy.region ?_
    refine Sy.step (by kernel_rfl) (.agg modcs) (Quiet.load 3 g3 0 7 60 60 modcs _ _ rfl (by kernel_rfl) (by kernel_rfl) Try.underlying60 rfl (by kernel_rfl) _ (by kernel_rfl) (Nat.le_of_ble_eq_true (by kernel_rfl))) ?_
    refine Sy.step (by kernel_rfl) (fv y) (Quiet.load 2 g2 0 4 56 56 (fcs y) _ _ rfl (by kernel_rfl) (by kernel_rfl) Try.underlying56 rfl (by kernel_rfl) _ (by kernel_rfl) (Nat.le_of_ble_eq_true (by kernel_rfl))) ?_
    obtain ⟨b2, hb2⟩ : ∃ z : Bool, z = decide (y < pM) := ⟨_, rfl⟩
    refine Sy.step (by kernel_rfl) (.bool b2) (Quiet.call 90 #[.agg modcs, fv y] (fun _ => by kernel_rfl) (fun w => by rw [hb2]; exact rightR_any w y (by first | assumption | exact lt4 _ | decide +kernel))) ?_
    refine Sy.step (by kernel_rfl) (.bool b2) (Quiet.pure (fun _ => by kernel_rfl)) ?_
    refine Sy.nil ?_
    refine Sy.then_ ?_
    refine Sy.seq ?_
    refine Sy.regionD (fun j => false) (by kernel_rfl) ?_
    refine Sy.stepD 0 rfl (by kernel_rfl) (fun _ _ _ _ h => h) (by kernel_rfl) (.bool b1) (Quiet.pure (fun _ => by kernel_rfl)) ?_
    refine Sy.stepD 1 rfl (by kernel_rfl) (fun _ _ _ _ h => h) (by kernel_rfl) (.bool b1) (Quiet.pure (fun _ => by kernel_rfl)) ?_
    cases b1
    · refine Sy.passD 2 rfl (by kernel_rfl) (fun _ _ _ _ h => h) (by kernel_rfl) (by kernel_rfl) ?_
      refine Sy.stepD 3 rfl (by kernel_rfl) (fun _ _ _ _ h => h) (by kernel_rfl) (.bool false) (Quiet.pure (fun _ => by kernel_rfl)) ?_
      refine Sy.stepD 4 rfl (by kernel_rfl) (fun _ _ _ _ h => h) (by kernel_rfl) (.bool false) (Quiet.pure (fun _ => by kernel_rfl)) ?_
      refine Sy.passD 5 rfl (by kernel_rfl) (fun _ _ _ _ h => h) (by kernel_rfl) (by kernel_rfl) ?_
      refine Sy.passD 6 rfl (by kernel_rfl) (fun _ _ _ _ h => h) (by kernel_rfl) (by kernel_rfl) ?_
      refine Sy.passD 7 rfl (by kernel_rfl) (fun _ _ _ _ h => h) (by kernel_rfl) (by kernel_rfl) ?_
      refine Sy.passD 8 rfl (by kernel_rfl) (fun _ _ _ _ h => h) (by kernel_rfl) (by kernel_rfl) ?_
      refine Sy.passD 9 rfl (by kernel_rfl) (fun _ _ _ _ h => h) (by kernel_rfl) (by kernel_rfl) ?_
      refine Sy.passD 10 rfl (by kernel_rfl) (fun _ _ _ _ h => h) (by kernel_rfl) (by kernel_rfl) ?_
      refine Sy.stepD 11 rfl (by kernel_rfl) (fun _ _ _ _ h => h) (by kernel_rfl) (.bool false) (Quiet.pure (fun _ => by kernel_rfl)) ?_
      refine Sy.stepD 12 rfl (by kernel_rfl) (fun _ _ _ _ h => h) (by kernel_rfl) (.bool false) (Quiet.pure (fun _ => by kernel_rfl)) ?_
      refine Sy.doneD (by kernel_rfl) ?_
      refine Sy.then_ ?_
      refine Sy.ret ?_
      rw [show (.bool (rightB x y false) : Value) = .bool false from by rw [rb_x (of_decide_eq_false hb1.symm)]]
      exact Sy.ret1 (v := .bool false) rfl (.inl (show _ = _ by kernel_rfl))
    · obtain ⟨ux, rfl⟩ : ∃ u : Fp, x = u.val := ⟨⟨x, of_decide_eq_true hb1.symm⟩, rfl⟩
      refine Sy.stepD 2 rfl (by kernel_rfl) (fun _ _ _ _ h => h) (by kernel_rfl) (.bool b2) (Quiet.pure (fun _ => by kernel_rfl)) ?_
      refine Sy.stepD 3 rfl (by kernel_rfl) (fun _ _ _ _ h => h) (by kernel_rfl) (.bool b2) (Quiet.pure (fun _ => by kernel_rfl)) ?_
      refine Sy.stepD 4 rfl (by kernel_rfl) (fun _ _ _ _ h => h) (by kernel_rfl) (.bool b2) (Quiet.pure (fun _ => by kernel_rfl)) ?_
      cases b2
      · refine Sy.passD 5 rfl (by kernel_rfl) (fun _ _ _ _ h => h) (by kernel_rfl) (by kernel_rfl) ?_
        refine Sy.passD 6 rfl (by kernel_rfl) (fun _ _ _ _ h => h) (by kernel_rfl) (by kernel_rfl) ?_
        refine Sy.passD 7 rfl (by kernel_rfl) (fun _ _ _ _ h => h) (by kernel_rfl) (by kernel_rfl) ?_
        refine Sy.passD 8 rfl (by kernel_rfl) (fun _ _ _ _ h => h) (by kernel_rfl) (by kernel_rfl) ?_
        refine Sy.passD 9 rfl (by kernel_rfl) (fun _ _ _ _ h => h) (by kernel_rfl) (by kernel_rfl) ?_
        refine Sy.passD 10 rfl (by kernel_rfl) (fun _ _ _ _ h => h) (by kernel_rfl) (by kernel_rfl) ?_
        refine Sy.stepD 11 rfl (by kernel_rfl) (fun _ _ _ _ h => h) (by kernel_rfl) (.bool false) (Quiet.pure (fun _ => by kernel_rfl)) ?_
        refine Sy.stepD 12 rfl (by kernel_rfl) (fun _ _ _ _ h => h) (by kernel_rfl) (.bool false) (Quiet.pure (fun _ => by kernel_rfl)) ?_
        refine Sy.doneD (by kernel_rfl) ?_
        refine Sy.then_ ?_
        refine Sy.ret ?_
        rw [show (.bool (rightB ux.val y false) : Value) = .bool false from by rw [rb_y (of_decide_eq_false hb2.symm)]]
        exact Sy.ret1 (v := .bool false) rfl (.inl (show _ = _ by kernel_rfl))
      · obtain ⟨uy, rfl⟩ : ∃ u : Fp, y = u.val := ⟨⟨y, of_decide_eq_true hb2.symm⟩, rfl⟩
        refine Sy.stepD 5 rfl (by kernel_rfl) (fun _ _ _ _ h => h) (by kernel_rfl) (fv uy.val) (Quiet.load 2 g2 0 4 56 56 (fcs uy.val) _ _ rfl (by kernel_rfl) (by kernel_rfl) Try.underlying56 rfl (by kernel_rfl) _ (by kernel_rfl) (Nat.le_of_ble_eq_true (by kernel_rfl))) ?_
        refine Sy.stepD 6 rfl (by kernel_rfl) (fun _ _ _ _ h => h) (by kernel_rfl) (fv uy.val) (Quiet.load 2 g2 0 4 56 56 (fcs uy.val) _ _ rfl (by kernel_rfl) (by kernel_rfl) Try.underlying56 rfl (by kernel_rfl) _ (by kernel_rfl) (Nat.le_of_ble_eq_true (by kernel_rfl))) ?_
        obtain ⟨z1, hz1⟩ : ∃ z : Fp, z = uy * uy := ⟨_, rfl⟩
        refine Sy.stepD 7 rfl (by kernel_rfl) (fun _ _ _ _ h => h) (by kernel_rfl) (fv z1.val) (Quiet.call 37 #[fv uy.val, fv uy.val] (fun _ => by kernel_rfl) (fun w => by rw [hz1]; exact mulR_c w uy uy)) ?_
        refine Sy.stepD 8 rfl (by kernel_rfl) (fun _ _ _ _ h => h) (by kernel_rfl) (fv ux.val) (Quiet.load 1 g1 0 4 56 56 (fcs ux.val) _ _ rfl (by kernel_rfl) (by kernel_rfl) Try.underlying56 rfl (by kernel_rfl) _ (by kernel_rfl) (Nat.le_of_ble_eq_true (by kernel_rfl))) ?_
        obtain ⟨z2, hz2⟩ : ∃ z : Fp, z = ux * ux * ux + 7 := ⟨_, rfl⟩
        refine Sy.stepD 9 rfl (by kernel_rfl) (fun _ _ _ _ h => h) (by kernel_rfl) (fv z2.val) (Quiet.call 89 #[fv ux.val] (fun _ => by kernel_rfl) (fun w => by rw [hz2]; exact cubeR_c w ux)) ?_
        obtain ⟨b3, hb3⟩ : ∃ z : Bool, z = decide (z1.val = z2.val) := ⟨_, rfl⟩
        refine Sy.stepD 10 rfl (by kernel_rfl) (fun _ _ _ _ h => h) (by kernel_rfl) (.bool b3) (Quiet.pure (fun w => by rw [hb3]; exact eql_num w _ _ _ _ _ _ rfl rfl rfl (by first | assumption | exact lt4 _ | decide +kernel) (by first | assumption | exact lt4 _ | decide +kernel))) ?_
        refine Sy.stepD 11 rfl (by kernel_rfl) (fun _ _ _ _ h => h) (by kernel_rfl) (.bool b3) (Quiet.pure (fun _ => by kernel_rfl)) ?_
        refine Sy.stepD 12 rfl (by kernel_rfl) (fun _ _ _ _ h => h) (by kernel_rfl) (.bool b3) (Quiet.pure (fun _ => by kernel_rfl)) ?_
        refine Sy.doneD (by kernel_rfl) ?_
        refine Sy.then_ ?_
        refine Sy.ret ?_
        rw [show (.bool (rightB ux.val uy.val false) : Value) = .bool b3 from by rw [hb3, rb_xy]; simp only [hz2, hz1]]
        exact Sy.ret1 (v := .bool b3) rfl (.inl (show _ = _ by kernel_rfl))
  · refine Sy.cond_t (by kernel_rfl) (by kernel_rfl) ?_
    refine Sy.seq ?_
    refine Sy.regionD (fun j => false) (by kernel_rfl) ?_
    refine Sy.stepD 0 rfl (by kernel_rfl) (fun _ _ _ _ h => h) (by kernel_rfl) (pv x y true) (Quiet.load 0 g0 0 9 27 27 (pcs x y true) _ _ rfl (by kernel_rfl) (by kernel_rfl) Try.underlying27 rfl (by kernel_rfl) _ (by kernel_rfl) (Nat.le_of_ble_eq_true (by kernel_rfl))) ?_
    refine Sy.stepD 1 rfl (by kernel_rfl) (fun _ _ _ _ h => h) (by kernel_rfl) (pv 0 0 true) (Quiet.call 34 #[] (fun _ => by kernel_rfl) (zeroR_c)) ?_
    obtain ⟨b4, hb4⟩ : ∃ z : Bool, z = sameB x y true 0 0 true := ⟨_, rfl⟩
    refine Sy.stepD 2 rfl (by kernel_rfl) (fun _ _ _ _ h => h) (by kernel_rfl) (.bool b4) (Quiet.pure (fun w => by rw [hb4]; exact eql_pt w _ _ _ _ _ _ _ _ _ _ rfl rfl rfl (by first | assumption | exact lt4 _ | decide +kernel) (by first | assumption | exact lt4 _ | decide +kernel) (by first | assumption | exact lt4 _ | decide +kernel) (by first | assumption | exact lt4 _ | decide +kernel))) ?_
    refine Sy.stepD 3 rfl (by kernel_rfl) (fun _ _ _ _ h => h) (by kernel_rfl) (.bool b4) (Quiet.pure (fun _ => by kernel_rfl)) ?_
    refine Sy.doneD (by kernel_rfl) ?_
    refine Sy.then_ ?_
    refine Sy.ret ?_
    refine Sy.then_ret ?_
    rw [show (.bool (rightB x y true) : Value) = .bool b4 from by rw [hb4, rightB_inf]]
    exact Sy.ret1 (v := .bool b4) rfl (.inl (show _ = _ by kernel_rfl))
set_option maxHeartbeats 4000000 in
set_option maxRecDepth 100000 in
theorem taken_c (w : World) (x y : Nat) (i : Bool) (hx : x < K4) (hy : y < K4) : Calls Try.prog 27 #[pv x y i] w (Gets w (ptv (dec x y i))) := by
  refine Sy.enter (args := [pv x y i]) Try.func27 rfl (Nat.le_of_ble_eq_true (by kernel_rfl)) ?_
  refine Sy.seq ?_
  refine Sy.region ?_
  refine Sy.make (by kernel_rfl) 27 (pcs x y i) ptr (fun _ => by kernel_rfl) (fun g0 => ?_)
  refine Sy.make (by kernel_rfl) 27 (pcs 0 0 false) ptr (fun _ => by kernel_rfl) (fun g1 => ?_)
  refine Sy.nil ?_
  refine Sy.then_ ?_
  refine Sy.seq ?_
  refine Sy.region ?_
  refine Sy.step (by kernel_rfl) (pv x y i) (Quiet.load 0 g0 0 9 27 27 (pcs x y i) _ _ rfl (by kernel_rfl) (by kernel_rfl) Try.underlying27 rfl (by kernel_rfl) _ (by kernel_rfl) (Nat.le_of_ble_eq_true (by kernel_rfl))) ?_
  obtain ⟨b1, hb1⟩ : ∃ z : Bool, z = rightB x y i := ⟨_, rfl⟩
  refine Sy.step (by kernel_rfl) (.bool b1) (Quiet.call 61 #[pv x y i] (fun _ => by kernel_rfl) (by rw [hb1]; exact fun w => rightR_b w x y i (by first | assumption | exact lt4 _ | decide +kernel) (by first | assumption | exact lt4 _ | decide +kernel))) ?_
  refine Sy.step (by kernel_rfl) (.bool b1) (Quiet.pure (fun _ => by kernel_rfl)) ?_
  refine Sy.nil ?_
  refine Sy.then_ ?_
  refine Sy.seq ?_
  refine Sy.seq ?_
  refine Sy.region ?_
  refine Sy.step (by kernel_rfl) (.bool b1) (Quiet.pure (fun _ => by kernel_rfl)) ?_
  cases b1
  · refine Sy.step (by kernel_rfl) (.bool true) (Quiet.pure (fun _ => by kernel_rfl)) ?_
    refine Sy.nil ?_
    refine Sy.then_ ?_
    refine Sy.cond_t (by kernel_rfl) (by kernel_rfl) ?_
    refine Sy.seq ?_
    refine Sy.region ?_
    refine Sy.step (by kernel_rfl) (pv 0 0 true) (Quiet.call 34 #[] (fun _ => by kernel_rfl) (zeroR_c)) ?_
    refine Sy.write (by kernel_rfl) 1 g1 27 (pcs 0 0 false) (pcs 0 0 true) (by kernel_rfl) (Writes.store 0 27 (pcs 0 0 true) _ _ rfl (by kernel_rfl) (by kernel_rfl) (by kernel_rfl) (Nat.le_of_ble_eq_true (by kernel_rfl)) (by kernel_rfl) (by kernel_rfl)) ?_
    refine Sy.nil ?_
    refine Sy.then_ ?_
    refine Sy.ret ?_
    refine Sy.then_ret ?_
    rw [show (ptv (dec x y i) : Value) = pv 0 0 true from ptv_wrong x y i hb1.symm]
    exact Sy.ret1 (v := pv 0 0 true) rfl (.inl (Res.cell (ty' := 27) g1 1 (pcs 0 0 true) _ (by kernel_rfl) (by kernel_rfl) Try.underlying27 rfl (by kernel_rfl) (by kernel_rfl)))
  · refine Sy.step (by kernel_rfl) (.bool false) (Quiet.pure (fun _ => by kernel_rfl)) ?_
    refine Sy.nil ?_
    refine Sy.then_ ?_
    refine Sy.cond_f (by kernel_rfl) (by kernel_rfl) ?_
    refine Sy.skip ?_
    refine Sy.then_ ?_
    refine Sy.seq ?_
    refine Sy.region ?_
    refine Sy.step (by kernel_rfl) (pv x y i) (Quiet.load 0 g0 0 9 27 27 (pcs x y i) _ _ rfl (by kernel_rfl) (by kernel_rfl) Try.underlying27 rfl (by kernel_rfl) _ (by kernel_rfl) (Nat.le_of_ble_eq_true (by kernel_rfl))) ?_
    refine Sy.write (by kernel_rfl) 1 g1 27 (pcs 0 0 false) (pcs x y i) (by kernel_rfl) (Writes.store 0 27 (pcs x y i) _ _ rfl (by kernel_rfl) (by kernel_rfl) (by kernel_rfl) (Nat.le_of_ble_eq_true (by kernel_rfl)) (by kernel_rfl) (by kernel_rfl)) ?_
    refine Sy.nil ?_
    refine Sy.then_ ?_
    refine Sy.ret ?_
    rw [show (ptv (dec x y i) : Value) = pv x y i from ptv_right x y i hb1.symm]
    exact Sy.ret1 (v := pv x y i) rfl (.inl (Res.cell (ty' := 27) g1 1 (pcs x y i) _ (by kernel_rfl) (by kernel_rfl) Try.underlying27 rfl (by kernel_rfl) (by kernel_rfl)))
set_option maxHeartbeats 4000000 in
set_option maxRecDepth 100000 in
theorem addRe_nn (w : World) (x y : Nat) (i : Bool) (x2 y2 : Nat) (i2 : Bool) (hx : x < K4) (hy : y < K4) (hx2 : x2 < K4) (hy2 : y2 < K4) (h : dec x y i = none) (k : dec x2 y2 i2 = none) : Calls Try.prog 43 #[pv x y i, pv x2 y2 i2] w (Gets w (ptv none)) := by
  refine Sy.enter (args := [pv x y i, pv x2 y2 i2]) Try.func43 rfl (Nat.le_of_ble_eq_true (by kernel_rfl)) ?_
  refine Sy.seq ?_
  refine Sy.region ?_
  refine Sy.make (by kernel_rfl) 27 (pcs x y i) ptr (fun _ => by kernel_rfl) (fun g0 => ?_)
  refine Sy.make (by kernel_rfl) 27 (pcs x2 y2 i2) ptr (fun _ => by kernel_rfl) (fun g1 => ?_)
  refine Sy.make (by kernel_rfl) 27 (pcs 0 0 false) ptr (fun _ => by kernel_rfl) (fun g2 => ?_)
  refine Sy.nil ?_
  refine Sy.then_ ?_
  refine Sy.seq ?_
  refine Sy.region ?_
  refine Sy.step (by kernel_rfl) (pv x y i) (Quiet.load 0 g0 0 9 27 27 (pcs x y i) _ _ rfl (by kernel_rfl) (by kernel_rfl) Try.underlying27 rfl (by kernel_rfl) _ (by kernel_rfl) (Nat.le_of_ble_eq_true (by kernel_rfl))) ?_
  refine Sy.step (by kernel_rfl) (pv 0 0 true) (Quiet.call 27 #[pv x y i] (fun _ => by kernel_rfl) (fun w => by have hrr := taken_c w x y i (by first | assumption | exact lt4 _ | decide +kernel) (by first | assumption | exact lt4 _ | decide +kernel); rw [h] at hrr; exact hrr)) ?_
  refine Sy.write (by kernel_rfl) 0 g0 27 (pcs x y i) (pcs 0 0 true) (by kernel_rfl) (Writes.store 0 27 (pcs 0 0 true) _ _ rfl (by kernel_rfl) (by kernel_rfl) (by kernel_rfl) (Nat.le_of_ble_eq_true (by kernel_rfl)) (by kernel_rfl) (by kernel_rfl)) ?_
  refine Sy.nil ?_
  refine Sy.then_ ?_
  refine Sy.seq ?_
  refine Sy.region ?_
  refine Sy.step (by kernel_rfl) (pv x2 y2 i2) (Quiet.load 1 g1 0 9 27 27 (pcs x2 y2 i2) _ _ rfl (by kernel_rfl) (by kernel_rfl) Try.underlying27 rfl (by kernel_rfl) _ (by kernel_rfl) (Nat.le_of_ble_eq_true (by kernel_rfl))) ?_
  refine Sy.step (by kernel_rfl) (pv 0 0 true) (Quiet.call 27 #[pv x2 y2 i2] (fun _ => by kernel_rfl) (fun w => by have hrr := taken_c w x2 y2 i2 (by first | assumption | exact lt4 _ | decide +kernel) (by first | assumption | exact lt4 _ | decide +kernel); rw [k] at hrr; exact hrr)) ?_
  refine Sy.write (by kernel_rfl) 1 g1 27 (pcs x2 y2 i2) (pcs 0 0 true) (by kernel_rfl) (Writes.store 0 27 (pcs 0 0 true) _ _ rfl (by kernel_rfl) (by kernel_rfl) (by kernel_rfl) (Nat.le_of_ble_eq_true (by kernel_rfl)) (by kernel_rfl) (by kernel_rfl)) ?_
  refine Sy.nil ?_
  refine Sy.then_ ?_
  refine Sy.seq ?_
  refine Sy.seq ?_
  refine Sy.region ?_
  refine Sy.step (by kernel_rfl) (.pointer (some ⟨g0, 8, none⟩)) (Quiet.pure (fun _ => by kernel_rfl)) ?_
  refine Sy.step (by kernel_rfl) (.bool true) (Quiet.cell 0 g0 8 27 4 (pcs 0 0 true) _ _ rfl (by kernel_rfl) (by kernel_rfl) Try.underlying4 rfl _ (by kernel_rfl)) ?_
  refine Sy.nil ?_
  refine Sy.then_ ?_
  refine Sy.cond_t (by kernel_rfl) (by kernel_rfl) ?_
  refine Sy.seq ?_
  refine Sy.region ?_
  refine Sy.step (by kernel_rfl) (pv 0 0 true) (Quiet.load 1 g1 0 9 27 27 (pcs 0 0 true) _ _ rfl (by kernel_rfl) (by kernel_rfl) Try.underlying27 rfl (by kernel_rfl) _ (by kernel_rfl) (Nat.le_of_ble_eq_true (by kernel_rfl))) ?_
  refine Sy.write (by kernel_rfl) 2 g2 27 (pcs 0 0 false) (pcs 0 0 true) (by kernel_rfl) (Writes.store 0 27 (pcs 0 0 true) _ _ rfl (by kernel_rfl) (by kernel_rfl) (by kernel_rfl) (Nat.le_of_ble_eq_true (by kernel_rfl)) (by kernel_rfl) (by kernel_rfl)) ?_
  refine Sy.nil ?_
  refine Sy.then_ ?_
  refine Sy.ret ?_
  refine Sy.then_ret ?_
  rw [show (ptv none : Value) = pv 0 0 true from rfl]
  exact Sy.ret1 (v := pv 0 0 true) rfl (.inl (Res.cell (ty' := 27) g2 2 (pcs 0 0 true) _ (by kernel_rfl) (by kernel_rfl) Try.underlying27 rfl (by kernel_rfl) (by kernel_rfl)))
set_option maxHeartbeats 4000000 in
set_option maxRecDepth 100000 in
theorem addRe_ns (w : World) (x y : Nat) (i : Bool) (x2 y2 : Nat) (i2 : Bool) (hx : x < K4) (hy : y < K4) (hx2 : x2 < K4) (hy2 : y2 < K4) (c d : Fp) (h : dec x y i = none) (k : dec x2 y2 i2 = some (c, d)) : Calls Try.prog 43 #[pv x y i, pv x2 y2 i2] w (Gets w (ptv (some (c, d)))) := by
  refine Sy.enter (args := [pv x y i, pv x2 y2 i2]) Try.func43 rfl (Nat.le_of_ble_eq_true (by kernel_rfl)) ?_
  refine Sy.seq ?_
  refine Sy.region ?_
  refine Sy.make (by kernel_rfl) 27 (pcs x y i) ptr (fun _ => by kernel_rfl) (fun g0 => ?_)
  refine Sy.make (by kernel_rfl) 27 (pcs x2 y2 i2) ptr (fun _ => by kernel_rfl) (fun g1 => ?_)
  refine Sy.make (by kernel_rfl) 27 (pcs 0 0 false) ptr (fun _ => by kernel_rfl) (fun g2 => ?_)
  refine Sy.nil ?_
  refine Sy.then_ ?_
  refine Sy.seq ?_
  refine Sy.region ?_
  refine Sy.step (by kernel_rfl) (pv x y i) (Quiet.load 0 g0 0 9 27 27 (pcs x y i) _ _ rfl (by kernel_rfl) (by kernel_rfl) Try.underlying27 rfl (by kernel_rfl) _ (by kernel_rfl) (Nat.le_of_ble_eq_true (by kernel_rfl))) ?_
  refine Sy.step (by kernel_rfl) (pv 0 0 true) (Quiet.call 27 #[pv x y i] (fun _ => by kernel_rfl) (fun w => by have hrr := taken_c w x y i (by first | assumption | exact lt4 _ | decide +kernel) (by first | assumption | exact lt4 _ | decide +kernel); rw [h] at hrr; exact hrr)) ?_
  refine Sy.write (by kernel_rfl) 0 g0 27 (pcs x y i) (pcs 0 0 true) (by kernel_rfl) (Writes.store 0 27 (pcs 0 0 true) _ _ rfl (by kernel_rfl) (by kernel_rfl) (by kernel_rfl) (Nat.le_of_ble_eq_true (by kernel_rfl)) (by kernel_rfl) (by kernel_rfl)) ?_
  refine Sy.nil ?_
  refine Sy.then_ ?_
  refine Sy.seq ?_
  refine Sy.region ?_
  refine Sy.step (by kernel_rfl) (pv x2 y2 i2) (Quiet.load 1 g1 0 9 27 27 (pcs x2 y2 i2) _ _ rfl (by kernel_rfl) (by kernel_rfl) Try.underlying27 rfl (by kernel_rfl) _ (by kernel_rfl) (Nat.le_of_ble_eq_true (by kernel_rfl))) ?_
  refine Sy.step (by kernel_rfl) (pv c.val d.val false) (Quiet.call 27 #[pv x2 y2 i2] (fun _ => by kernel_rfl) (fun w => by have hrr := taken_c w x2 y2 i2 (by first | assumption | exact lt4 _ | decide +kernel) (by first | assumption | exact lt4 _ | decide +kernel); rw [k] at hrr; exact hrr)) ?_
  refine Sy.write (by kernel_rfl) 1 g1 27 (pcs x2 y2 i2) (pcs c.val d.val false) (by kernel_rfl) (Writes.store 0 27 (pcs c.val d.val false) _ _ rfl (by kernel_rfl) (by kernel_rfl) (by kernel_rfl) (Nat.le_of_ble_eq_true (by kernel_rfl)) (by kernel_rfl) (by kernel_rfl)) ?_
  refine Sy.nil ?_
  refine Sy.then_ ?_
  refine Sy.seq ?_
  refine Sy.seq ?_
  refine Sy.region ?_
  refine Sy.step (by kernel_rfl) (.pointer (some ⟨g0, 8, none⟩)) (Quiet.pure (fun _ => by kernel_rfl)) ?_
  refine Sy.step (by kernel_rfl) (.bool true) (Quiet.cell 0 g0 8 27 4 (pcs 0 0 true) _ _ rfl (by kernel_rfl) (by kernel_rfl) Try.underlying4 rfl _ (by kernel_rfl)) ?_
  refine Sy.nil ?_
  refine Sy.then_ ?_
  refine Sy.cond_t (by kernel_rfl) (by kernel_rfl) ?_
  refine Sy.seq ?_
  refine Sy.region ?_
  refine Sy.step (by kernel_rfl) (pv c.val d.val false) (Quiet.load 1 g1 0 9 27 27 (pcs c.val d.val false) _ _ rfl (by kernel_rfl) (by kernel_rfl) Try.underlying27 rfl (by kernel_rfl) _ (by kernel_rfl) (Nat.le_of_ble_eq_true (by kernel_rfl))) ?_
  refine Sy.write (by kernel_rfl) 2 g2 27 (pcs 0 0 false) (pcs c.val d.val false) (by kernel_rfl) (Writes.store 0 27 (pcs c.val d.val false) _ _ rfl (by kernel_rfl) (by kernel_rfl) (by kernel_rfl) (Nat.le_of_ble_eq_true (by kernel_rfl)) (by kernel_rfl) (by kernel_rfl)) ?_
  refine Sy.nil ?_
  refine Sy.then_ ?_
  refine Sy.ret ?_
  refine Sy.then_ret ?_
  rw [show (ptv (some (c, d)) : Value) = pv c.val d.val false from rfl]
  exact Sy.ret1 (v := pv c.val d.val false) rfl (.inl (Res.cell (ty' := 27) g2 2 (pcs c.val d.val false) _ (by kernel_rfl) (by kernel_rfl) Try.underlying27 rfl (by kernel_rfl) (by kernel_rfl)))
set_option maxHeartbeats 4000000 in
set_option maxRecDepth 100000 in
theorem addRe_sn (w : World) (x y : Nat) (i : Bool) (x2 y2 : Nat) (i2 : Bool) (hx : x < K4) (hy : y < K4) (hx2 : x2 < K4) (hy2 : y2 < K4) (u v : Fp) (h : dec x y i = some (u, v)) (k : dec x2 y2 i2 = none) : Calls Try.prog 43 #[pv x y i, pv x2 y2 i2] w (Gets w (ptv (some (u, v)))) := by
  refine Sy.enter (args := [pv x y i, pv x2 y2 i2]) Try.func43 rfl (Nat.le_of_ble_eq_true (by kernel_rfl)) ?_
  refine Sy.seq ?_
  refine Sy.region ?_
  refine Sy.make (by kernel_rfl) 27 (pcs x y i) ptr (fun _ => by kernel_rfl) (fun g0 => ?_)
  refine Sy.make (by kernel_rfl) 27 (pcs x2 y2 i2) ptr (fun _ => by kernel_rfl) (fun g1 => ?_)
  refine Sy.make (by kernel_rfl) 27 (pcs 0 0 false) ptr (fun _ => by kernel_rfl) (fun g2 => ?_)
  refine Sy.nil ?_
  refine Sy.then_ ?_
  refine Sy.seq ?_
  refine Sy.region ?_
  refine Sy.step (by kernel_rfl) (pv x y i) (Quiet.load 0 g0 0 9 27 27 (pcs x y i) _ _ rfl (by kernel_rfl) (by kernel_rfl) Try.underlying27 rfl (by kernel_rfl) _ (by kernel_rfl) (Nat.le_of_ble_eq_true (by kernel_rfl))) ?_
  refine Sy.step (by kernel_rfl) (pv u.val v.val false) (Quiet.call 27 #[pv x y i] (fun _ => by kernel_rfl) (fun w => by have hrr := taken_c w x y i (by first | assumption | exact lt4 _ | decide +kernel) (by first | assumption | exact lt4 _ | decide +kernel); rw [h] at hrr; exact hrr)) ?_
  refine Sy.write (by kernel_rfl) 0 g0 27 (pcs x y i) (pcs u.val v.val false) (by kernel_rfl) (Writes.store 0 27 (pcs u.val v.val false) _ _ rfl (by kernel_rfl) (by kernel_rfl) (by kernel_rfl) (Nat.le_of_ble_eq_true (by kernel_rfl)) (by kernel_rfl) (by kernel_rfl)) ?_
  refine Sy.nil ?_
  refine Sy.then_ ?_
  refine Sy.seq ?_
  refine Sy.region ?_
  refine Sy.step (by kernel_rfl) (pv x2 y2 i2) (Quiet.load 1 g1 0 9 27 27 (pcs x2 y2 i2) _ _ rfl (by kernel_rfl) (by kernel_rfl) Try.underlying27 rfl (by kernel_rfl) _ (by kernel_rfl) (Nat.le_of_ble_eq_true (by kernel_rfl))) ?_
  refine Sy.step (by kernel_rfl) (pv 0 0 true) (Quiet.call 27 #[pv x2 y2 i2] (fun _ => by kernel_rfl) (fun w => by have hrr := taken_c w x2 y2 i2 (by first | assumption | exact lt4 _ | decide +kernel) (by first | assumption | exact lt4 _ | decide +kernel); rw [k] at hrr; exact hrr)) ?_
  refine Sy.write (by kernel_rfl) 1 g1 27 (pcs x2 y2 i2) (pcs 0 0 true) (by kernel_rfl) (Writes.store 0 27 (pcs 0 0 true) _ _ rfl (by kernel_rfl) (by kernel_rfl) (by kernel_rfl) (Nat.le_of_ble_eq_true (by kernel_rfl)) (by kernel_rfl) (by kernel_rfl)) ?_
  refine Sy.nil ?_
  refine Sy.then_ ?_
  refine Sy.seq ?_
  refine Sy.seq ?_
  refine Sy.region ?_
  refine Sy.step (by kernel_rfl) (.pointer (some ⟨g0, 8, none⟩)) (Quiet.pure (fun _ => by kernel_rfl)) ?_
  refine Sy.step (by kernel_rfl) (.bool false) (Quiet.cell 0 g0 8 27 4 (pcs u.val v.val false) _ _ rfl (by kernel_rfl) (by kernel_rfl) Try.underlying4 rfl _ (by kernel_rfl)) ?_
  refine Sy.nil ?_
  refine Sy.then_ ?_
  refine Sy.cond_f (by kernel_rfl) (by kernel_rfl) ?_
  refine Sy.skip ?_
  refine Sy.then_ ?_
  refine Sy.seq ?_
  refine Sy.seq ?_
  refine Sy.region ?_
  refine Sy.step (by kernel_rfl) (.pointer (some ⟨g1, 8, none⟩)) (Quiet.pure (fun _ => by kernel_rfl)) ?_
  refine Sy.step (by kernel_rfl) (.bool true) (Quiet.cell 1 g1 8 27 4 (pcs 0 0 true) _ _ rfl (by kernel_rfl) (by kernel_rfl) Try.underlying4 rfl _ (by kernel_rfl)) ?_
  refine Sy.nil ?_
  refine Sy.then_ ?_
  refine Sy.cond_t (by kernel_rfl) (by kernel_rfl) ?_
  refine Sy.seq ?_
  refine Sy.region ?_
  refine Sy.step (by kernel_rfl) (pv u.val v.val false) (Quiet.load 0 g0 0 9 27 27 (pcs u.val v.val false) _ _ rfl (by kernel_rfl) (by kernel_rfl) Try.underlying27 rfl (by kernel_rfl) _ (by kernel_rfl) (Nat.le_of_ble_eq_true (by kernel_rfl))) ?_
  refine Sy.write (by kernel_rfl) 2 g2 27 (pcs 0 0 false) (pcs u.val v.val false) (by kernel_rfl) (Writes.store 0 27 (pcs u.val v.val false) _ _ rfl (by kernel_rfl) (by kernel_rfl) (by kernel_rfl) (Nat.le_of_ble_eq_true (by kernel_rfl)) (by kernel_rfl) (by kernel_rfl)) ?_
  refine Sy.nil ?_
  refine Sy.then_ ?_
  refine Sy.ret ?_
  refine Sy.then_ret ?_
  rw [show (ptv (some (u, v)) : Value) = pv u.val v.val false from rfl]
  exact Sy.ret1 (v := pv u.val v.val false) rfl (.inl (Res.cell (ty' := 27) g2 2 (pcs u.val v.val false) _ (by kernel_rfl) (by kernel_rfl) Try.underlying27 rfl (by kernel_rfl) (by kernel_rfl)))
set_option maxHeartbeats 4000000 in
set_option maxRecDepth 100000 in
theorem addRe_ss (w : World) (x y : Nat) (i : Bool) (x2 y2 : Nat) (i2 : Bool) (hx : x < K4) (hy : y < K4) (hx2 : x2 < K4) (hy2 : y2 < K4) (u v c d : Fp) (h : dec x y i = some (u, v)) (k : dec x2 y2 i2 = some (c, d)) (ho : v * v = u * u * u + 7) (hk : d * d = c * c * c + 7) : Calls Try.prog 43 #[pv x y i, pv x2 y2 i2] w (Gets w (ptv (Ec.add finv (some (u, v)) (some (c, d))))) := by
  refine Sy.enter (args := [pv x y i, pv x2 y2 i2]) Try.func43 rfl (Nat.le_of_ble_eq_true (by kernel_rfl)) ?_
  refine Sy.seq ?_
  refine Sy.region ?_
  refine Sy.make (by kernel_rfl) 27 (pcs x y i) ptr (fun _ => by kernel_rfl) (fun g0 => ?_)
  refine Sy.make (by kernel_rfl) 27 (pcs x2 y2 i2) ptr (fun _ => by kernel_rfl) (fun g1 => ?_)
  refine Sy.make (by kernel_rfl) 27 (pcs 0 0 false) ptr (fun _ => by kernel_rfl) (fun g2 => ?_)
  refine Sy.nil ?_
  refine Sy.then_ ?_
  refine Sy.seq ?_
  refine Sy.region ?_
  refine Sy.step (by kernel_rfl) (pv x y i) (Quiet.load 0 g0 0 9 27 27 (pcs x y i) _ _ rfl (by kernel_rfl) (by kernel_rfl) Try.underlying27 rfl (by kernel_rfl) _ (by kernel_rfl) (Nat.le_of_ble_eq_true (by kernel_rfl))) ?_
  refine Sy.step (by kernel_rfl) (pv u.val v.val false) (Quiet.call 27 #[pv x y i] (fun _ => by kernel_rfl) (fun w => by have hrr := taken_c w x y i (by first | assumption | exact lt4 _ | decide +kernel) (by first | assumption | exact lt4 _ | decide +kernel); rw [h] at hrr; exact hrr)) ?_
  refine Sy.write (by kernel_rfl) 0 g0 27 (pcs x y i) (pcs u.val v.val false) (by kernel_rfl) (Writes.store 0 27 (pcs u.val v.val false) _ _ rfl (by kernel_rfl) (by kernel_rfl) (by kernel_rfl) (Nat.le_of_ble_eq_true (by kernel_rfl)) (by kernel_rfl) (by kernel_rfl)) ?_
  refine Sy.nil ?_
  refine Sy.then_ ?_
  refine Sy.seq ?_
  refine Sy.region ?_
  refine Sy.step (by kernel_rfl) (pv x2 y2 i2) (Quiet.load 1 g1 0 9 27 27 (pcs x2 y2 i2) _ _ rfl (by kernel_rfl) (by kernel_rfl) Try.underlying27 rfl (by kernel_rfl) _ (by kernel_rfl) (Nat.le_of_ble_eq_true (by kernel_rfl))) ?_
  refine Sy.step (by kernel_rfl) (pv c.val d.val false) (Quiet.call 27 #[pv x2 y2 i2] (fun _ => by kernel_rfl) (fun w => by have hrr := taken_c w x2 y2 i2 (by first | assumption | exact lt4 _ | decide +kernel) (by first | assumption | exact lt4 _ | decide +kernel); rw [k] at hrr; exact hrr)) ?_
  refine Sy.write (by kernel_rfl) 1 g1 27 (pcs x2 y2 i2) (pcs c.val d.val false) (by kernel_rfl) (Writes.store 0 27 (pcs c.val d.val false) _ _ rfl (by kernel_rfl) (by kernel_rfl) (by kernel_rfl) (Nat.le_of_ble_eq_true (by kernel_rfl)) (by kernel_rfl) (by kernel_rfl)) ?_
  refine Sy.nil ?_
  refine Sy.then_ ?_
  refine Sy.seq ?_
  refine Sy.seq ?_
  refine Sy.region ?_
  refine Sy.step (by kernel_rfl) (.pointer (some ⟨g0, 8, none⟩)) (Quiet.pure (fun _ => by kernel_rfl)) ?_
  refine Sy.step (by kernel_rfl) (.bool false) (Quiet.cell 0 g0 8 27 4 (pcs u.val v.val false) _ _ rfl (by kernel_rfl) (by kernel_rfl) Try.underlying4 rfl _ (by kernel_rfl)) ?_
  refine Sy.nil ?_
  refine Sy.then_ ?_
  refine Sy.cond_f (by kernel_rfl) (by kernel_rfl) ?_
  refine Sy.skip ?_
  refine Sy.then_ ?_
  refine Sy.seq ?_
  refine Sy.seq ?_
  refine Sy.region ?_
  refine Sy.step (by kernel_rfl) (.pointer (some ⟨g1, 8, none⟩)) (Quiet.pure (fun _ => by kernel_rfl)) ?_
  refine Sy.step (by kernel_rfl) (.bool false) (Quiet.cell 1 g1 8 27 4 (pcs c.val d.val false) _ _ rfl (by kernel_rfl) (by kernel_rfl) Try.underlying4 rfl _ (by kernel_rfl)) ?_
  refine Sy.nil ?_
  refine Sy.then_ ?_
  refine Sy.cond_f (by kernel_rfl) (by kernel_rfl) ?_
  refine Sy.skip ?_
  refine Sy.then_ ?_
  refine Sy.seq ?_
  refine Sy.region ?_
  refine Sy.step (by kernel_rfl) (.pointer (some ⟨g0, 0, none⟩)) (Quiet.pure (fun _ => by kernel_rfl)) ?_
  refine Sy.step (by kernel_rfl) (fv u.val) (Quiet.load 0 g0 0 4 27 25 (pcs u.val v.val false) _ _ rfl (by kernel_rfl) (by kernel_rfl) Try.underlying25 rfl (by kernel_rfl) _ (by kernel_rfl) (Nat.le_of_ble_eq_true (by kernel_rfl))) ?_
  refine Sy.step (by kernel_rfl) (fv u.val) (Quiet.call 31 #[fv u.val] (fun _ => by kernel_rfl) (fun w => refOf_any w u.val (by first | assumption | exact lt4 _ | decide +kernel))) ?_
  refine Sy.make (by kernel_rfl) 56 (fcs 0) ptr (fun _ => by kernel_rfl) (fun g3 => ?_)
  refine Sy.write (by kernel_rfl) 3 g3 56 (fcs 0) (fcs u.val) (by kernel_rfl) (Writes.store 0 56 (fcs u.val) _ _ rfl (by kernel_rfl) (by kernel_rfl) (by kernel_rfl) (Nat.le_of_ble_eq_true (by kernel_rfl)) (by kernel_rfl) (by kernel_rfl)) ?_
  refine Sy.nil ?_
  refine Sy.then_ ?_
  refine Sy.seq ?_
  refine Sy.region ?_
  refine Sy.step (by kernel_rfl) (.pointer (some ⟨g0, 4, none⟩)) (Quiet.pure (fun _ => by kernel_rfl)) ?_
  refine Sy.step (by kernel_rfl) (fv v.val) (Quiet.load 0 g0 4 4 27 25 (pcs u.val v.val false) _ _ rfl (by kernel_rfl) (by kernel_rfl) Try.underlying25 rfl (by kernel_rfl) _ (by kernel_rfl) (Nat.le_of_ble_eq_true (by kernel_rfl))) ?_
  refine Sy.step (by kernel_rfl) (fv v.val) (Quiet.call 31 #[fv v.val] (fun _ => by kernel_rfl) (fun w => refOf_any w v.val (by first | assumption | exact lt4 _ | decide +kernel))) ?_
  refine Sy.make (by kernel_rfl) 56 (fcs 0) ptr (fun _ => by kernel_rfl) (fun g4 => ?_)
  refine Sy.write (by kernel_rfl) 4 g4 56 (fcs 0) (fcs v.val) (by kernel_rfl) (Writes.store 0 56 (fcs v.val) _ _ rfl (by kernel_rfl) (by kernel_rfl) (by kernel_rfl) (Nat.le_of_ble_eq_true (by kernel_rfl)) (by kernel_rfl) (by kernel_rfl)) ?_
  refine Sy.nil ?_
  refine Sy.then_ ?_
  refine Sy.seq ?_
  refine Sy.region ?_
  refine Sy.step (by kernel_rfl) (.pointer (some ⟨g1, 0, none⟩)) (Quiet.pure (fun _ => by kernel_rfl)) ?_
  refine Sy.step (by kernel_rfl) (fv c.val) (Quiet.load 1 g1 0 4 27 25 (pcs c.val d.val false) _ _ rfl (by kernel_rfl) (by kernel_rfl) Try.underlying25 rfl (by kernel_rfl) _ (by kernel_rfl) (Nat.le_of_ble_eq_true (by kernel_rfl))) ?_
  refine Sy.step (by kernel_rfl) (fv c.val) (Quiet.call 31 #[fv c.val] (fun _ => by kernel_rfl) (fun w => refOf_any w c.val (by first | assumption | exact lt4 _ | decide +kernel))) ?_
  refine Sy.make (by kernel_rfl) 56 (fcs 0) ptr (fun _ => by kernel_rfl) (fun g5 => ?_)
  refine Sy.write (by kernel_rfl) 5 g5 56 (fcs 0) (fcs c.val) (by kernel_rfl) (Writes.store 0 56 (fcs c.val) _ _ rfl (by kernel_rfl) (by kernel_rfl) (by kernel_rfl) (Nat.le_of_ble_eq_true (by kernel_rfl)) (by kernel_rfl) (by kernel_rfl)) ?_
  refine Sy.nil ?_
  refine Sy.then_ ?_
  refine Sy.seq ?_
  refine Sy.region ?_
  refine Sy.step (by kernel_rfl) (.pointer (some ⟨g1, 4, none⟩)) (Quiet.pure (fun _ => by kernel_rfl)) ?_
  refine Sy.step (by kernel_rfl) (fv d.val) (Quiet.load 1 g1 4 4 27 25 (pcs c.val d.val false) _ _ rfl (by kernel_rfl) (by kernel_rfl) Try.underlying25 rfl (by kernel_rfl) _ (by kernel_rfl) (Nat.le_of_ble_eq_true (by kernel_rfl))) ?_
  refine Sy.step (by kernel_rfl) (fv d.val) (Quiet.call 31 #[fv d.val] (fun _ => by kernel_rfl) (fun w => refOf_any w d.val (by first | assumption | exact lt4 _ | decide +kernel))) ?_
  refine Sy.make (by kernel_rfl) 56 (fcs 0) ptr (fun _ => by kernel_rfl) (fun g6 => ?_)
  refine Sy.write (by kernel_rfl) 6 g6 56 (fcs 0) (fcs d.val) (by kernel_rfl) (Writes.store 0 56 (fcs d.val) _ _ rfl (by kernel_rfl) (by kernel_rfl) (by kernel_rfl) (Nat.le_of_ble_eq_true (by kernel_rfl)) (by kernel_rfl) (by kernel_rfl)) ?_
  refine Sy.nil ?_
  refine Sy.then_ ?_
  refine Sy.seq ?_
  refine Sy.region ?_
  refine Sy.step (by kernel_rfl) (fv d.val) (Quiet.load 6 g6 0 4 56 56 (fcs d.val) _ _ rfl (by kernel_rfl) (by kernel_rfl) Try.underlying56 rfl (by kernel_rfl) _ (by kernel_rfl) (Nat.le_of_ble_eq_true (by kernel_rfl))) ?_
  refine Sy.step (by kernel_rfl) (fv v.val) (Quiet.load 4 g4 0 4 56 56 (fcs v.val) _ _ rfl (by kernel_rfl) (by kernel_rfl) Try.underlying56 rfl (by kernel_rfl) _ (by kernel_rfl) (Nat.le_of_ble_eq_true (by kernel_rfl))) ?_
  obtain ⟨z1, hz1⟩ : ∃ z : Fp, z = d - v := ⟨_, rfl⟩
  refine Sy.step (by kernel_rfl) (fv z1.val) (Quiet.call 65 #[fv d.val, fv v.val] (fun _ => by kernel_rfl) (fun w => by rw [hz1]; exact subR_c w d v)) ?_
  refine Sy.make (by kernel_rfl) 56 (fcs 0) ptr (fun _ => by kernel_rfl) (fun g7 => ?_)
  refine Sy.write (by kernel_rfl) 7 g7 56 (fcs 0) (fcs z1.val) (by kernel_rfl) (Writes.store 0 56 (fcs z1.val) _ _ rfl (by kernel_rfl) (by kernel_rfl) (by kernel_rfl) (Nat.le_of_ble_eq_true (by kernel_rfl)) (by kernel_rfl) (by kernel_rfl)) ?_
  refine Sy.nil ?_
  refine Sy.then_ ?_
  refine Sy.seq ?_
  refine Sy.region ?_
  refine Sy.step (by kernel_rfl) (fv c.val) (Quiet.load 5 g5 0 4 56 56 (fcs c.val) _ _ rfl (by kernel_rfl) (by kernel_rfl) Try.underlying56 rfl (by kernel_rfl) _ (by kernel_rfl) (Nat.le_of_ble_eq_true (by kernel_rfl))) ?_
  refine Sy.step (by kernel_rfl) (fv u.val) (Quiet.load 3 g3 0 4 56 56 (fcs u.val) _ _ rfl (by kernel_rfl) (by kernel_rfl) Try.underlying56 rfl (by kernel_rfl) _ (by kernel_rfl) (Nat.le_of_ble_eq_true (by kernel_rfl))) ?_
  obtain ⟨z2, hz2⟩ : ∃ z : Fp, z = c - u := ⟨_, rfl⟩
  refine Sy.step (by kernel_rfl) (fv z2.val) (Quiet.call 65 #[fv c.val, fv u.val] (fun _ => by kernel_rfl) (fun w => by rw [hz2]; exact subR_c w c u)) ?_
  refine Sy.make (by kernel_rfl) 56 (fcs 0) ptr (fun _ => by kernel_rfl) (fun g8 => ?_)
  refine Sy.write (by kernel_rfl) 8 g8 56 (fcs 0) (fcs z2.val) (by kernel_rfl) (Writes.store 0 56 (fcs z2.val) _ _ rfl (by kernel_rfl) (by kernel_rfl) (by kernel_rfl) (Nat.le_of_ble_eq_true (by kernel_rfl)) (by kernel_rfl) (by kernel_rfl)) ?_
  refine Sy.nil ?_
  refine Sy.then_ ?_
  refine Sy.seq ?_
  refine Sy.seq ?_
  refine Sy.region ?_
  refine Sy.step (by kernel_rfl) (fv u.val) (Quiet.load 3 g3 0 4 56 56 (fcs u.val) _ _ rfl (by kernel_rfl) (by kernel_rfl) Try.underlying56 rfl (by kernel_rfl) _ (by kernel_rfl) (Nat.le_of_ble_eq_true (by kernel_rfl))) ?_
  refine Sy.step (by kernel_rfl) (fv c.val) (Quiet.load 5 g5 0 4 56 56 (fcs c.val) _ _ rfl (by kernel_rfl) (by kernel_rfl) Try.underlying56 rfl (by kernel_rfl) _ (by kernel_rfl) (Nat.le_of_ble_eq_true (by kernel_rfl))) ?_
  obtain ⟨b1, hb1⟩ : ∃ z : Bool, z = decide (u.val = c.val) := ⟨_, rfl⟩
  refine Sy.step (by kernel_rfl) (.bool b1) (Quiet.pure (fun w => by rw [hb1]; exact eql_num w _ _ _ _ _ _ rfl rfl rfl (by first | assumption | exact lt4 _ | decide +kernel) (by first | assumption | exact lt4 _ | decide +kernel))) ?_
  refine Sy.nil ?_
  refine Sy.then_ ?_
  cases b1
  · have e1 : u ≠ c := fun e => of_decide_eq_false hb1.symm (congrArg Fin.val e)
    refine Sy.cond_f (by kernel_rfl) (by kernel_rfl) ?_
    refine Sy.skip ?_
    refine Sy.then_ ?_
    refine Sy.seq ?_
    refine Sy.regionD (fun j => j == 6) (by kernel_rfl) ?_
    refine Sy.stepD 0 rfl (by kernel_rfl) (fun _ _ _ _ h => h) (by kernel_rfl) (fv z1.val) (Quiet.load 7 g7 0 4 56 56 (fcs z1.val) _ _ rfl (by kernel_rfl) (by kernel_rfl) Try.underlying56 rfl (by kernel_rfl) _ (by kernel_rfl) (Nat.le_of_ble_eq_true (by kernel_rfl))) ?_
    refine Sy.stepD 1 rfl (by kernel_rfl) (fun _ _ _ _ h => h) (by kernel_rfl) (.agg modcs) (Quiet.call 36 #[] (fun _ => by kernel_rfl) (refP_any)) ?_
    refine Sy.stepD 2 rfl (by kernel_rfl) (fun _ _ _ _ h => h) (by kernel_rfl) (fv z2.val) (Quiet.load 8 g8 0 4 56 56 (fcs z2.val) _ _ rfl (by kernel_rfl) (by kernel_rfl) Try.underlying56 rfl (by kernel_rfl) _ (by kernel_rfl) (Nat.le_of_ble_eq_true (by kernel_rfl))) ?_
    obtain ⟨z3, hz3⟩ : ∃ z : Fp, z = finv z2 := ⟨_, rfl⟩
    refine Sy.stepD 3 rfl (by kernel_rfl) (fun _ _ _ _ h => h) (by kernel_rfl) (fv z3.val) (Quiet.call 35 #[.agg modcs, fv z2.val] (fun _ => by kernel_rfl) (fun w => by rw [hz3]; exact refinv_c w z2)) ?_
    obtain ⟨z4, hz4⟩ : ∃ z : Fp, z = z1 * z3 := ⟨_, rfl⟩
    refine Sy.stepD 4 rfl (by kernel_rfl) (fun _ _ _ _ h => h) (by kernel_rfl) (fv z4.val) (Quiet.call 37 #[fv z1.val, fv z3.val] (fun _ => by kernel_rfl) (fun w => by rw [hz4]; exact mulR_c w z1 z3)) ?_
    refine Sy.makeD 5 rfl (by kernel_rfl) (by kernel_rfl) 56 (fcs 0) ptr (fun _ => by kernel_rfl) (fun g9 => ?_)
    refine Sy.writeD 6 rfl (by kernel_rfl) (by rfl) (by kernel_rfl) 9 g9 56 (fcs 0) (fcs z4.val) (by kernel_rfl) (Writes.store 0 56 (fcs z4.val) _ _ rfl (by kernel_rfl) (by kernel_rfl) (by kernel_rfl) (Nat.le_of_ble_eq_true (by kernel_rfl)) (by kernel_rfl) (by kernel_rfl)) ?_
    refine Sy.doneD (by kernel_rfl) ?_
    refine Sy.then_ ?_
    refine Sy.seq ?_
    refine Sy.regionD (fun j => j == 8) (by kernel_rfl) ?_
    refine Sy.stepD 0 rfl (by kernel_rfl) (fun _ _ _ _ h => h) (by kernel_rfl) (fv z4.val) (Quiet.load 9 g9 0 4 56 56 (fcs z4.val) _ _ rfl (by kernel_rfl) (by kernel_rfl) Try.underlying56 rfl (by kernel_rfl) _ (by kernel_rfl) (Nat.le_of_ble_eq_true (by kernel_rfl))) ?_
    refine Sy.stepD 1 rfl (by kernel_rfl) (fun _ _ _ _ h => h) (by kernel_rfl) (fv z4.val) (Quiet.load 9 g9 0 4 56 56 (fcs z4.val) _ _ rfl (by kernel_rfl) (by kernel_rfl) Try.underlying56 rfl (by kernel_rfl) _ (by kernel_rfl) (Nat.le_of_ble_eq_true (by kernel_rfl))) ?_
    obtain ⟨z5, hz5⟩ : ∃ z : Fp, z = z4 * z4 := ⟨_, rfl⟩
    refine Sy.stepD 2 rfl (by kernel_rfl) (fun _ _ _ _ h => h) (by kernel_rfl) (fv z5.val) (Quiet.call 37 #[fv z4.val, fv z4.val] (fun _ => by kernel_rfl) (fun w => by rw [hz5]; exact mulR_c w z4 z4)) ?_
    refine Sy.stepD 3 rfl (by kernel_rfl) (fun _ _ _ _ h => h) (by kernel_rfl) (fv u.val) (Quiet.load 3 g3 0 4 56 56 (fcs u.val) _ _ rfl (by kernel_rfl) (by kernel_rfl) Try.underlying56 rfl (by kernel_rfl) _ (by kernel_rfl) (Nat.le_of_ble_eq_true (by kernel_rfl))) ?_
    obtain ⟨z6, hz6⟩ : ∃ z : Fp, z = z5 - u := ⟨_, rfl⟩
    refine Sy.stepD 4 rfl (by kernel_rfl) (fun _ _ _ _ h => h) (by kernel_rfl) (fv z6.val) (Quiet.call 65 #[fv z5.val, fv u.val] (fun _ => by kernel_rfl) (fun w => by rw [hz6]; exact subR_c w z5 u)) ?_
    refine Sy.stepD 5 rfl (by kernel_rfl) (fun _ _ _ _ h => h) (by kernel_rfl) (fv c.val) (Quiet.load 5 g5 0 4 56 56 (fcs c.val) _ _ rfl (by kernel_rfl) (by kernel_rfl) Try.underlying56 rfl (by kernel_rfl) _ (by kernel_rfl) (Nat.le_of_ble_eq_true (by kernel_rfl))) ?_
    obtain ⟨z7, hz7⟩ : ∃ z : Fp, z = z6 - c := ⟨_, rfl⟩
    refine Sy.stepD 6 rfl (by kernel_rfl) (fun _ _ _ _ h => h) (by kernel_rfl) (fv z7.val) (Quiet.call 65 #[fv z6.val, fv c.val] (fun _ => by kernel_rfl) (fun w => by rw [hz7]; exact subR_c w z6 c)) ?_
    refine Sy.makeD 7 rfl (by kernel_rfl) (by kernel_rfl) 56 (fcs 0) ptr (fun _ => by kernel_rfl) (fun g10 => ?_)
    refine Sy.writeD 8 rfl (by kernel_rfl) (by rfl) (by kernel_rfl) 10 g10 56 (fcs 0) (fcs z7.val) (by kernel_rfl) (Writes.store 0 56 (fcs z7.val) _ _ rfl (by kernel_rfl) (by kernel_rfl) (by kernel_rfl) (Nat.le_of_ble_eq_true (by kernel_rfl)) (by kernel_rfl) (by kernel_rfl)) ?_
    refine Sy.doneD (by kernel_rfl) ?_
    refine Sy.then_ ?_
    refine Sy.seq ?_
    refine Sy.regionD (fun j => j == 9) (by kernel_rfl) ?_
    refine Sy.stepD 0 rfl (by kernel_rfl) (fun _ _ _ _ h => h) (by kernel_rfl) (fv z7.val) (Quiet.load 10 g10 0 4 56 56 (fcs z7.val) _ _ rfl (by kernel_rfl) (by kernel_rfl) Try.underlying56 rfl (by kernel_rfl) _ (by kernel_rfl) (Nat.le_of_ble_eq_true (by kernel_rfl))) ?_
    refine Sy.stepD 1 rfl (by kernel_rfl) (fun _ _ _ _ h => h) (by kernel_rfl) (fv z4.val) (Quiet.load 9 g9 0 4 56 56 (fcs z4.val) _ _ rfl (by kernel_rfl) (by kernel_rfl) Try.underlying56 rfl (by kernel_rfl) _ (by kernel_rfl) (Nat.le_of_ble_eq_true (by kernel_rfl))) ?_
    refine Sy.stepD 2 rfl (by kernel_rfl) (fun _ _ _ _ h => h) (by kernel_rfl) (fv u.val) (Quiet.load 3 g3 0 4 56 56 (fcs u.val) _ _ rfl (by kernel_rfl) (by kernel_rfl) Try.underlying56 rfl (by kernel_rfl) _ (by kernel_rfl) (Nat.le_of_ble_eq_true (by kernel_rfl))) ?_
    refine Sy.stepD 3 rfl (by kernel_rfl) (fun _ _ _ _ h => h) (by kernel_rfl) (fv z7.val) (Quiet.load 10 g10 0 4 56 56 (fcs z7.val) _ _ rfl (by kernel_rfl) (by kernel_rfl) Try.underlying56 rfl (by kernel_rfl) _ (by kernel_rfl) (Nat.le_of_ble_eq_true (by kernel_rfl))) ?_
    obtain ⟨z8, hz8⟩ : ∃ z : Fp, z = u - z7 := ⟨_, rfl⟩
    refine Sy.stepD 4 rfl (by kernel_rfl) (fun _ _ _ _ h => h) (by kernel_rfl) (fv z8.val) (Quiet.call 65 #[fv u.val, fv z7.val] (fun _ => by kernel_rfl) (fun w => by rw [hz8]; exact subR_c w u z7)) ?_
    obtain ⟨z9, hz9⟩ : ∃ z : Fp, z = z4 * z8 := ⟨_, rfl⟩
    refine Sy.stepD 5 rfl (by kernel_rfl) (fun _ _ _ _ h => h) (by kernel_rfl) (fv z9.val) (Quiet.call 37 #[fv z4.val, fv z8.val] (fun _ => by kernel_rfl) (fun w => by rw [hz9]; exact mulR_c w z4 z8)) ?_
    refine Sy.stepD 6 rfl (by kernel_rfl) (fun _ _ _ _ h => h) (by kernel_rfl) (fv v.val) (Quiet.load 4 g4 0 4 56 56 (fcs v.val) _ _ rfl (by kernel_rfl) (by kernel_rfl) Try.underlying56 rfl (by kernel_rfl) _ (by kernel_rfl) (Nat.le_of_ble_eq_true (by kernel_rfl))) ?_
    obtain ⟨z10, hz10⟩ : ∃ z : Fp, z = z9 - v := ⟨_, rfl⟩
    refine Sy.stepD 7 rfl (by kernel_rfl) (fun _ _ _ _ h => h) (by kernel_rfl) (fv z10.val) (Quiet.call 65 #[fv z9.val, fv v.val] (fun _ => by kernel_rfl) (fun w => by rw [hz10]; exact subR_c w z9 v)) ?_
    refine Sy.stepD 8 rfl (by kernel_rfl) (fun _ _ _ _ h => h) (by kernel_rfl) (pv z7.val z10.val false) (Quiet.call 38 #[fv z7.val, fv z10.val] (fun _ => by kernel_rfl) (fun w => pointR_c w z7.val z10.val (by first | assumption | exact lt4 _ | decide +kernel) (by first | assumption | exact lt4 _ | decide +kernel))) ?_
    refine Sy.writeD 9 rfl (by kernel_rfl) (by rfl) (by kernel_rfl) 2 g2 27 (pcs 0 0 false) (pcs z7.val z10.val false) (by kernel_rfl) (Writes.store 0 27 (pcs z7.val z10.val false) _ _ rfl (by kernel_rfl) (by kernel_rfl) (by kernel_rfl) (Nat.le_of_ble_eq_true (by kernel_rfl)) (by kernel_rfl) (by kernel_rfl)) ?_
    refine Sy.doneD (by kernel_rfl) ?_
    refine Sy.then_ ?_
    refine Sy.ret ?_
    have ha : ¬ (u = c ∧ v + d = 0) := fun t => e1 t.1
    have hs : z4 = Ec.slp finv u v c d := by
      unfold Ec.slp
      rw [if_neg e1]
      clear h k ho hk hb1 ha e1
      grobner
    rw [show (ptv (Ec.add finv (some (u, v)) (some (c, d))) : Value) = pv z7.val z10.val false from by simp only [Ec.add]; rw [if_neg ha, ← hs]; unfold Ec.y3 Ec.x3 ptv; rw [hz10, hz9, hz8, hz7, hz6, hz5]]
    exact Sy.ret1 (v := pv z7.val z10.val false) rfl (.inl (Res.cell (ty' := 27) g2 2 (pcs z7.val z10.val false) _ (by kernel_rfl) (by kernel_rfl) Try.underlying27 rfl (by kernel_rfl) (by kernel_rfl)))
  · have e1 : u = c := Fin.ext (of_decide_eq_true hb1.symm)
    refine Sy.cond_t (by kernel_rfl) (by kernel_rfl) ?_
    refine Sy.seq ?_
    refine Sy.seq ?_
    refine Sy.region ?_
    refine Sy.step (by kernel_rfl) (fv v.val) (Quiet.load 4 g4 0 4 56 56 (fcs v.val) _ _ rfl (by kernel_rfl) (by kernel_rfl) Try.underlying56 rfl (by kernel_rfl) _ (by kernel_rfl) (Nat.le_of_ble_eq_true (by kernel_rfl))) ?_
    refine Sy.step (by kernel_rfl) (fv d.val) (Quiet.load 6 g6 0 4 56 56 (fcs d.val) _ _ rfl (by kernel_rfl) (by kernel_rfl) Try.underlying56 rfl (by kernel_rfl) _ (by kernel_rfl) (Nat.le_of_ble_eq_true (by kernel_rfl))) ?_
    obtain ⟨b2, hb2⟩ : ∃ z : Bool, z = decide (v.val ≠ d.val) := ⟨_, rfl⟩
    refine Sy.step (by kernel_rfl) (.bool b2) (Quiet.pure (fun w => by rw [hb2]; exact neq_num w _ _ _ _ _ _ rfl rfl rfl (by first | assumption | exact lt4 _ | decide +kernel) (by first | assumption | exact lt4 _ | decide +kernel))) ?_
    refine Sy.step (by kernel_rfl) (.bool b2) (Quiet.pure (fun _ => by kernel_rfl)) ?_
    cases b2
    · have e2 : v = d := Fin.ext (Decidable.of_not_not (of_decide_eq_false hb2.symm))
      refine Sy.step (by kernel_rfl) (fv v.val) (Quiet.load 4 g4 0 4 56 56 (fcs v.val) _ _ rfl (by kernel_rfl) (by kernel_rfl) Try.underlying56 rfl (by kernel_rfl) _ (by kernel_rfl) (Nat.le_of_ble_eq_true (by kernel_rfl))) ?_
      refine Sy.step (by kernel_rfl) (fv 0) (Quiet.pure (fun _ => by kernel_rfl)) ?_
      obtain ⟨b3, hb3⟩ : ∃ z : Bool, z = decide (v.val = 0) := ⟨_, rfl⟩
      refine Sy.step (by kernel_rfl) (.bool b3) (Quiet.pure (fun w => by rw [hb3]; exact eql_num w _ _ _ _ _ _ rfl rfl rfl (by first | assumption | exact lt4 _ | decide +kernel) (by first | assumption | exact lt4 _ | decide +kernel))) ?_
      refine Sy.step (by kernel_rfl) (.bool b3) (Quiet.pure (fun _ => by kernel_rfl)) ?_
      refine Sy.nil ?_
      refine Sy.then_ ?_
      cases b3
      · refine Sy.cond_f (by kernel_rfl) (by kernel_rfl) ?_
        refine Sy.skip ?_
        refine Sy.then_ ?_
        refine Sy.seq ?_
        refine Sy.region ?_
        refine Sy.step (by kernel_rfl) (fv u.val) (Quiet.load 3 g3 0 4 56 56 (fcs u.val) _ _ rfl (by kernel_rfl) (by kernel_rfl) Try.underlying56 rfl (by kernel_rfl) _ (by kernel_rfl) (Nat.le_of_ble_eq_true (by kernel_rfl))) ?_
        refine Sy.step (by kernel_rfl) (fv u.val) (Quiet.load 3 g3 0 4 56 56 (fcs u.val) _ _ rfl (by kernel_rfl) (by kernel_rfl) Try.underlying56 rfl (by kernel_rfl) _ (by kernel_rfl) (Nat.le_of_ble_eq_true (by kernel_rfl))) ?_
        obtain ⟨z11, hz11⟩ : ∃ z : Fp, z = u * u := ⟨_, rfl⟩
        refine Sy.step (by kernel_rfl) (fv z11.val) (Quiet.call 37 #[fv u.val, fv u.val] (fun _ => by kernel_rfl) (fun w => by rw [hz11]; exact mulR_c w u u)) ?_
        refine Sy.make (by kernel_rfl) 56 (fcs 0) ptr (fun _ => by kernel_rfl) (fun g9 => ?_)
        refine Sy.write (by kernel_rfl) 9 g9 56 (fcs 0) (fcs z11.val) (by kernel_rfl) (Writes.store 0 56 (fcs z11.val) _ _ rfl (by kernel_rfl) (by kernel_rfl) (by kernel_rfl) (Nat.le_of_ble_eq_true (by kernel_rfl)) (by kernel_rfl) (by kernel_rfl)) ?_
        refine Sy.nil ?_
        refine Sy.then_ ?_
        refine Sy.seq ?_
        refine Sy.regionD (fun j => j == 5) (by kernel_rfl) ?_
        refine Sy.stepD 0 rfl (by kernel_rfl) (fun _ _ _ _ h => h) (by kernel_rfl) (fv z11.val) (Quiet.load 9 g9 0 4 56 56 (fcs z11.val) _ _ rfl (by kernel_rfl) (by kernel_rfl) Try.underlying56 rfl (by kernel_rfl) _ (by kernel_rfl) (Nat.le_of_ble_eq_true (by kernel_rfl))) ?_
        refine Sy.stepD 1 rfl (by kernel_rfl) (fun _ _ _ _ h => h) (by kernel_rfl) (fv z11.val) (Quiet.load 9 g9 0 4 56 56 (fcs z11.val) _ _ rfl (by kernel_rfl) (by kernel_rfl) Try.underlying56 rfl (by kernel_rfl) _ (by kernel_rfl) (Nat.le_of_ble_eq_true (by kernel_rfl))) ?_
        refine Sy.stepD 2 rfl (by kernel_rfl) (fun _ _ _ _ h => h) (by kernel_rfl) (fv z11.val) (Quiet.load 9 g9 0 4 56 56 (fcs z11.val) _ _ rfl (by kernel_rfl) (by kernel_rfl) Try.underlying56 rfl (by kernel_rfl) _ (by kernel_rfl) (Nat.le_of_ble_eq_true (by kernel_rfl))) ?_
        obtain ⟨z12, hz12⟩ : ∃ z : Fp, z = z11 + z11 := ⟨_, rfl⟩
        refine Sy.stepD 3 rfl (by kernel_rfl) (fun _ _ _ _ h => h) (by kernel_rfl) (fv z12.val) (Quiet.call 64 #[fv z11.val, fv z11.val] (fun _ => by kernel_rfl) (fun w => by rw [hz12]; exact addR_c w z11 z11)) ?_
        obtain ⟨z13, hz13⟩ : ∃ z : Fp, z = z11 + z12 := ⟨_, rfl⟩
        refine Sy.stepD 4 rfl (by kernel_rfl) (fun _ _ _ _ h => h) (by kernel_rfl) (fv z13.val) (Quiet.call 64 #[fv z11.val, fv z12.val] (fun _ => by kernel_rfl) (fun w => by rw [hz13]; exact addR_c w z11 z12)) ?_
        refine Sy.writeD 5 rfl (by kernel_rfl) (by rfl) (by kernel_rfl) 7 g7 56 (fcs z1.val) (fcs z13.val) (by kernel_rfl) (Writes.store 0 56 (fcs z13.val) _ _ rfl (by kernel_rfl) (by kernel_rfl) (by kernel_rfl) (Nat.le_of_ble_eq_true (by kernel_rfl)) (by kernel_rfl) (by kernel_rfl)) ?_
        refine Sy.doneD (by kernel_rfl) ?_
        refine Sy.then_ ?_
        refine Sy.region ?_
        refine Sy.step (by kernel_rfl) (fv v.val) (Quiet.load 4 g4 0 4 56 56 (fcs v.val) _ _ rfl (by kernel_rfl) (by kernel_rfl) Try.underlying56 rfl (by kernel_rfl) _ (by kernel_rfl) (Nat.le_of_ble_eq_true (by kernel_rfl))) ?_
        refine Sy.step (by kernel_rfl) (fv v.val) (Quiet.load 4 g4 0 4 56 56 (fcs v.val) _ _ rfl (by kernel_rfl) (by kernel_rfl) Try.underlying56 rfl (by kernel_rfl) _ (by kernel_rfl) (Nat.le_of_ble_eq_true (by kernel_rfl))) ?_
        obtain ⟨z14, hz14⟩ : ∃ z : Fp, z = v + v := ⟨_, rfl⟩
        refine Sy.step (by kernel_rfl) (fv z14.val) (Quiet.call 64 #[fv v.val, fv v.val] (fun _ => by kernel_rfl) (fun w => by rw [hz14]; exact addR_c w v v)) ?_
        refine Sy.write (by kernel_rfl) 8 g8 56 (fcs z2.val) (fcs z14.val) (by kernel_rfl) (Writes.store 0 56 (fcs z14.val) _ _ rfl (by kernel_rfl) (by kernel_rfl) (by kernel_rfl) (Nat.le_of_ble_eq_true (by kernel_rfl)) (by kernel_rfl) (by kernel_rfl)) ?_
        refine Sy.nil ?_
        refine Sy.then_ ?_
        refine Sy.seq ?_
        refine Sy.regionD (fun j => j == 6) (by kernel_rfl) ?_
        refine Sy.stepD 0 rfl (by kernel_rfl) (fun _ _ _ _ h => h) (by kernel_rfl) (fv z13.val) (Quiet.load 7 g7 0 4 56 56 (fcs z13.val) _ _ rfl (by kernel_rfl) (by kernel_rfl) Try.underlying56 rfl (by kernel_rfl) _ (by kernel_rfl) (Nat.le_of_ble_eq_true (by kernel_rfl))) ?_
        refine Sy.stepD 1 rfl (by kernel_rfl) (fun _ _ _ _ h => h) (by kernel_rfl) (.agg modcs) (Quiet.call 36 #[] (fun _ => by kernel_rfl) (refP_any)) ?_
        refine Sy.stepD 2 rfl (by kernel_rfl) (fun _ _ _ _ h => h) (by kernel_rfl) (fv z14.val) (Quiet.load 8 g8 0 4 56 56 (fcs z14.val) _ _ rfl (by kernel_rfl) (by kernel_rfl) Try.underlying56 rfl (by kernel_rfl) _ (by kernel_rfl) (Nat.le_of_ble_eq_true (by kernel_rfl))) ?_
        obtain ⟨z15, hz15⟩ : ∃ z : Fp, z = finv z14 := ⟨_, rfl⟩
        refine Sy.stepD 3 rfl (by kernel_rfl) (fun _ _ _ _ h => h) (by kernel_rfl) (fv z15.val) (Quiet.call 35 #[.agg modcs, fv z14.val] (fun _ => by kernel_rfl) (fun w => by rw [hz15]; exact refinv_c w z14)) ?_
        obtain ⟨z16, hz16⟩ : ∃ z : Fp, z = z13 * z15 := ⟨_, rfl⟩
        refine Sy.stepD 4 rfl (by kernel_rfl) (fun _ _ _ _ h => h) (by kernel_rfl) (fv z16.val) (Quiet.call 37 #[fv z13.val, fv z15.val] (fun _ => by kernel_rfl) (fun w => by rw [hz16]; exact mulR_c w z13 z15)) ?_
        refine Sy.makeD 5 rfl (by kernel_rfl) (by kernel_rfl) 56 (fcs 0) ptr (fun _ => by kernel_rfl) (fun g10 => ?_)
        refine Sy.writeD 6 rfl (by kernel_rfl) (by rfl) (by kernel_rfl) 10 g10 56 (fcs 0) (fcs z16.val) (by kernel_rfl) (Writes.store 0 56 (fcs z16.val) _ _ rfl (by kernel_rfl) (by kernel_rfl) (by kernel_rfl) (Nat.le_of_ble_eq_true (by kernel_rfl)) (by kernel_rfl) (by kernel_rfl)) ?_
        refine Sy.doneD (by kernel_rfl) ?_
        refine Sy.then_ ?_
        refine Sy.seq ?_
        refine Sy.regionD (fun j => j == 8) (by kernel_rfl) ?_
        refine Sy.stepD 0 rfl (by kernel_rfl) (fun _ _ _ _ h => h) (by kernel_rfl) (fv z16.val) (Quiet.load 10 g10 0 4 56 56 (fcs z16.val) _ _ rfl (by kernel_rfl) (by kernel_rfl) Try.underlying56 rfl (by kernel_rfl) _ (by kernel_rfl) (Nat.le_of_ble_eq_true (by kernel_rfl))) ?_
        refine Sy.stepD 1 rfl (by kernel_rfl) (fun _ _ _ _ h => h) (by kernel_rfl) (fv z16.val) (Quiet.load 10 g10 0 4 56 56 (fcs z16.val) _ _ rfl (by kernel_rfl) (by kernel_rfl) Try.underlying56 rfl (by kernel_rfl) _ (by kernel_rfl) (Nat.le_of_ble_eq_true (by kernel_rfl))) ?_
        obtain ⟨z17, hz17⟩ : ∃ z : Fp, z = z16 * z16 := ⟨_, rfl⟩
        refine Sy.stepD 2 rfl (by kernel_rfl) (fun _ _ _ _ h => h) (by kernel_rfl) (fv z17.val) (Quiet.call 37 #[fv z16.val, fv z16.val] (fun _ => by kernel_rfl) (fun w => by rw [hz17]; exact mulR_c w z16 z16)) ?_
        refine Sy.stepD 3 rfl (by kernel_rfl) (fun _ _ _ _ h => h) (by kernel_rfl) (fv u.val) (Quiet.load 3 g3 0 4 56 56 (fcs u.val) _ _ rfl (by kernel_rfl) (by kernel_rfl) Try.underlying56 rfl (by kernel_rfl) _ (by kernel_rfl) (Nat.le_of_ble_eq_true (by kernel_rfl))) ?_
        obtain ⟨z18, hz18⟩ : ∃ z : Fp, z = z17 - u := ⟨_, rfl⟩
        refine Sy.stepD 4 rfl (by kernel_rfl) (fun _ _ _ _ h => h) (by kernel_rfl) (fv z18.val) (Quiet.call 65 #[fv z17.val, fv u.val] (fun _ => by kernel_rfl) (fun w => by rw [hz18]; exact subR_c w z17 u)) ?_
        refine Sy.stepD 5 rfl (by kernel_rfl) (fun _ _ _ _ h => h) (by kernel_rfl) (fv c.val) (Quiet.load 5 g5 0 4 56 56 (fcs c.val) _ _ rfl (by kernel_rfl) (by kernel_rfl) Try.underlying56 rfl (by kernel_rfl) _ (by kernel_rfl) (Nat.le_of_ble_eq_true (by kernel_rfl))) ?_
        obtain ⟨z19, hz19⟩ : ∃ z : Fp, z = z18 - c := ⟨_, rfl⟩
        refine Sy.stepD 6 rfl (by kernel_rfl) (fun _ _ _ _ h => h) (by kernel_rfl) (fv z19.val) (Quiet.call 65 #[fv z18.val, fv c.val] (fun _ => by kernel_rfl) (fun w => by rw [hz19]; exact subR_c w z18 c)) ?_
        refine Sy.makeD 7 rfl (by kernel_rfl) (by kernel_rfl) 56 (fcs 0) ptr (fun _ => by kernel_rfl) (fun g11 => ?_)
        refine Sy.writeD 8 rfl (by kernel_rfl) (by rfl) (by kernel_rfl) 11 g11 56 (fcs 0) (fcs z19.val) (by kernel_rfl) (Writes.store 0 56 (fcs z19.val) _ _ rfl (by kernel_rfl) (by kernel_rfl) (by kernel_rfl) (Nat.le_of_ble_eq_true (by kernel_rfl)) (by kernel_rfl) (by kernel_rfl)) ?_
        refine Sy.doneD (by kernel_rfl) ?_
        refine Sy.then_ ?_
        refine Sy.seq ?_
        refine Sy.regionD (fun j => j == 9) (by kernel_rfl) ?_
        refine Sy.stepD 0 rfl (by kernel_rfl) (fun _ _ _ _ h => h) (by kernel_rfl) (fv z19.val) (Quiet.load 11 g11 0 4 56 56 (fcs z19.val) _ _ rfl (by kernel_rfl) (by kernel_rfl) Try.underlying56 rfl (by kernel_rfl) _ (by kernel_rfl) (Nat.le_of_ble_eq_true (by kernel_rfl))) ?_
        refine Sy.stepD 1 rfl (by kernel_rfl) (fun _ _ _ _ h => h) (by kernel_rfl) (fv z16.val) (Quiet.load 10 g10 0 4 56 56 (fcs z16.val) _ _ rfl (by kernel_rfl) (by kernel_rfl) Try.underlying56 rfl (by kernel_rfl) _ (by kernel_rfl) (Nat.le_of_ble_eq_true (by kernel_rfl))) ?_
        refine Sy.stepD 2 rfl (by kernel_rfl) (fun _ _ _ _ h => h) (by kernel_rfl) (fv u.val) (Quiet.load 3 g3 0 4 56 56 (fcs u.val) _ _ rfl (by kernel_rfl) (by kernel_rfl) Try.underlying56 rfl (by kernel_rfl) _ (by kernel_rfl) (Nat.le_of_ble_eq_true (by kernel_rfl))) ?_
        refine Sy.stepD 3 rfl (by kernel_rfl) (fun _ _ _ _ h => h) (by kernel_rfl) (fv z19.val) (Quiet.load 11 g11 0 4 56 56 (fcs z19.val) _ _ rfl (by kernel_rfl) (by kernel_rfl) Try.underlying56 rfl (by kernel_rfl) _ (by kernel_rfl) (Nat.le_of_ble_eq_true (by kernel_rfl))) ?_
        obtain ⟨z20, hz20⟩ : ∃ z : Fp, z = u - z19 := ⟨_, rfl⟩
        refine Sy.stepD 4 rfl (by kernel_rfl) (fun _ _ _ _ h => h) (by kernel_rfl) (fv z20.val) (Quiet.call 65 #[fv u.val, fv z19.val] (fun _ => by kernel_rfl) (fun w => by rw [hz20]; exact subR_c w u z19)) ?_
        obtain ⟨z21, hz21⟩ : ∃ z : Fp, z = z16 * z20 := ⟨_, rfl⟩
        refine Sy.stepD 5 rfl (by kernel_rfl) (fun _ _ _ _ h => h) (by kernel_rfl) (fv z21.val) (Quiet.call 37 #[fv z16.val, fv z20.val] (fun _ => by kernel_rfl) (fun w => by rw [hz21]; exact mulR_c w z16 z20)) ?_
        refine Sy.stepD 6 rfl (by kernel_rfl) (fun _ _ _ _ h => h) (by kernel_rfl) (fv v.val) (Quiet.load 4 g4 0 4 56 56 (fcs v.val) _ _ rfl (by kernel_rfl) (by kernel_rfl) Try.underlying56 rfl (by kernel_rfl) _ (by kernel_rfl) (Nat.le_of_ble_eq_true (by kernel_rfl))) ?_
        obtain ⟨z22, hz22⟩ : ∃ z : Fp, z = z21 - v := ⟨_, rfl⟩
        refine Sy.stepD 7 rfl (by kernel_rfl) (fun _ _ _ _ h => h) (by kernel_rfl) (fv z22.val) (Quiet.call 65 #[fv z21.val, fv v.val] (fun _ => by kernel_rfl) (fun w => by rw [hz22]; exact subR_c w z21 v)) ?_
        refine Sy.stepD 8 rfl (by kernel_rfl) (fun _ _ _ _ h => h) (by kernel_rfl) (pv z19.val z22.val false) (Quiet.call 38 #[fv z19.val, fv z22.val] (fun _ => by kernel_rfl) (fun w => pointR_c w z19.val z22.val (by first | assumption | exact lt4 _ | decide +kernel) (by first | assumption | exact lt4 _ | decide +kernel))) ?_
        refine Sy.writeD 9 rfl (by kernel_rfl) (by rfl) (by kernel_rfl) 2 g2 27 (pcs 0 0 false) (pcs z19.val z22.val false) (by kernel_rfl) (Writes.store 0 27 (pcs z19.val z22.val false) _ _ rfl (by kernel_rfl) (by kernel_rfl) (by kernel_rfl) (Nat.le_of_ble_eq_true (by kernel_rfl)) (by kernel_rfl) (by kernel_rfl)) ?_
        refine Sy.doneD (by kernel_rfl) ?_
        refine Sy.then_ ?_
        refine Sy.ret ?_
        have ha : ¬ (u = c ∧ v + d = 0) := fun t => no_two u v ho (fld.two v (e2 ▸ t.2))
        have hs : z16 = Ec.slp finv u v c d := by
          unfold Ec.slp
          rw [if_pos e1]
          clear h k ho hk hb1 hb2 hb3 ha e1 e2
          grobner
        rw [show (ptv (Ec.add finv (some (u, v)) (some (c, d))) : Value) = pv z19.val z22.val false from by simp only [Ec.add]; rw [if_neg ha, ← hs]; unfold Ec.y3 Ec.x3 ptv; rw [hz22, hz21, hz20, hz19, hz18, hz17]]
        exact Sy.ret1 (v := pv z19.val z22.val false) rfl (.inl (Res.cell (ty' := 27) g2 2 (pcs z19.val z22.val false) _ (by kernel_rfl) (by kernel_rfl) Try.underlying27 rfl (by kernel_rfl) (by kernel_rfl)))
      · exact absurd (Fin.ext (of_decide_eq_true hb3.symm)) (no_two u v ho)
    · have e2 : v ≠ d := fun e => of_decide_eq_true hb2.symm (congrArg Fin.val e)
      refine Sy.pass (by kernel_rfl) (by kernel_rfl) ?_
      refine Sy.pass (by kernel_rfl) (by kernel_rfl) ?_
      refine Sy.pass (by kernel_rfl) (by kernel_rfl) ?_
      refine Sy.step (by kernel_rfl) (.bool true) (Quiet.pure (fun _ => by kernel_rfl)) ?_
      refine Sy.nil ?_
      refine Sy.then_ ?_
      refine Sy.cond_t (by kernel_rfl) (by kernel_rfl) ?_
      refine Sy.seq ?_
      refine Sy.region ?_
      refine Sy.step (by kernel_rfl) (pv 0 0 true) (Quiet.call 34 #[] (fun _ => by kernel_rfl) (zeroR_c)) ?_
      refine Sy.write (by kernel_rfl) 2 g2 27 (pcs 0 0 false) (pcs 0 0 true) (by kernel_rfl) (Writes.store 0 27 (pcs 0 0 true) _ _ rfl (by kernel_rfl) (by kernel_rfl) (by kernel_rfl) (Nat.le_of_ble_eq_true (by kernel_rfl)) (by kernel_rfl) (by kernel_rfl)) ?_
      refine Sy.nil ?_
      refine Sy.then_ ?_
      refine Sy.ret ?_
      refine Sy.then_ret ?_
      refine Sy.then_ret ?_
      rw [show (ptv (Ec.add finv (some (u, v)) (some (c, d))) : Value) = pv 0 0 true from by simp only [Ec.add]; rw [if_pos ⟨e1, Classical.byContradiction fun t => Ec.off fld ho hk (fun q => e2 q.2) (fun q => t q.2) e1⟩]; rfl]
      exact Sy.ret1 (v := pv 0 0 true) rfl (.inl (Res.cell (ty' := 27) g2 2 (pcs 0 0 true) _ (by kernel_rfl) (by kernel_rfl) Try.underlying27 rfl (by kernel_rfl) (by kernel_rfl)))
/-- the document's every sum -/
theorem addRe_any (w : World) (x y : Nat) (i : Bool) (x2 y2 : Nat) (i2 : Bool) (hx : x < K4) (hy : y < K4) (hx2 : x2 < K4) (hy2 : y2 < K4) : Calls Try.prog 43 #[pv x y i, pv x2 y2 i2] w (Gets w (ptv (Ec.add finv (dec x y i) (dec x2 y2 i2)))) := by
  have o1 := dec_on x y i
  have o2 := dec_on x2 y2 i2
  rcases h : dec x y i with _ | ⟨u, v⟩ <;> rcases k : dec x2 y2 i2 with _ | ⟨c, d⟩
  · exact addRe_nn w x y i x2 y2 i2 hx hy hx2 hy2 h k
  · exact addRe_ns w x y i x2 y2 i2 hx hy hx2 hy2 c d h k
  · exact addRe_sn w x y i x2 y2 i2 hx hy hx2 hy2 u v h k
  · rw [h] at o1
    rw [k] at o2
    exact addRe_ss w x y i x2 y2 i2 hx hy hx2 hy2 u v c d h k o1 o2
end Go.Proofs.Ytneeefinaejgcaa.Cu

end
section
namespace Go.Proofs.Ytneeefinaejgcaa.Cu
open Go.RowKit Go.Proofs.Ytneeefinaejgcaa Go.Proofs.Ytneeefinaejgcaa.Sy

theorem eql_pt_same (w : World) (F : Slots) (o : Oper) (x y : Operand) (a b : Nat) (i : Bool) {yt : TypeId} (ho : o.op = .binOp .eql 27 x y yt) (hx : evF F x = pv a b i) (hy : evF F y = pv a b i) (ha : a < K4) (hb : b < K4) : (execOp (evF F) o).run Try.prog w = .ok (.value (.bool true)) w := by
  have h := eql_pt w F o x y a b i a b i ho hx hy ha hb ha hb
  have e : sameB a b i a b i = true := by
    unfold sameB
    simp
  rwa [e] at h
/-- of points of the curve -/
theorem add_of {P Q R : Pt} {a b : Nat} {i : Bool} {c d : Nat} {j : Bool} {u v : Nat} {k : Bool} (ha : a < K4) (hb : b < K4) (hc : c < K4) (hd : d < K4) (h1 : dec a b i = P) (h2 : dec c d j = Q) (h3 : ptv R = pv u v k) (he : Ec.add finv P Q = R) (w : World) : Calls Try.prog 22 #[pv a b i, pv c d j] w (Gets w (pv u v k)) := by
  rw [← h3, ← he, ← h1, ← h2]
  exact add_any w a b i c d j ha hb hc hd
theorem neg_of {P R : Pt} {a b : Nat} {i : Bool} {u v : Nat} {k : Bool} (ha : a < K4) (hb : b < K4) (h1 : dec a b i = P) (h3 : ptv R = pv u v k) (he : Ec.neg P = R) (w : World) : Calls Try.prog 26 #[pv a b i] w (Gets w (pv u v k)) := by
  rw [← h3, ← he, ← h1]
  exact neg_any w a b i ha hb
theorem right_of {a b : Nat} {i : Bool} {r : Bool} (ha : a < K4) (hb : b < K4) (h : rightB a b i = r) (w : World) : Calls Try.prog 10 #[pv a b i] w (Gets w (.bool r)) := by
  rw [← h]
  exact right_b w a b i ha hb
set_option maxHeartbeats 4000000 in
set_option maxRecDepth 100000 in
theorem alive5 (w : World)  : Calls Try.prog 8 #[] w (Gets w (.bool true)) := by
  have hb := bP_on
  have db : dec gx.val gy.val false = bP := dec_fin gx gy hb
  have l1 := lt4 gx
  have l2 := lt4 gy
  obtain ⟨ngy, hn⟩ : ∃ z : Fp, z = -gy := ⟨_, rfl⟩
  have l3 := lt4 ngy
  have dn : dec gx.val ngy.val false = Ec.neg bP := by
    rw [hn]
    exact dec_fin gx (-gy) (Ec.On.neg hb)
  have pn : ptv (Ec.neg bP) = pv gx.val ngy.val false := by rw [hn]; rfl
  have rb : rightB gx.val gy.val false = true := by decide +kernel
  obtain ⟨a, ha⟩ : ∃ a, a = gx.val := ⟨_, rfl⟩
  obtain ⟨b, hbb⟩ : ∃ a, a = gy.val := ⟨_, rfl⟩
  obtain ⟨c, hc⟩ : ∃ a, a = ngy.val := ⟨_, rfl⟩
  have pb : ptv bP = pv a b false := by rw [ha, hbb]; rfl
  have cb : ∀ w, Calls Try.prog 23 #[] w (Gets w (pv a b false)) := fun w => by rw [← pb]; exact base_c w
  have cr : ∀ w, Calls Try.prog 24 #[] w (Gets w (pv a b false)) := fun w => by rw [← pb]; exact baseR_c w
  rw [← ha, ← hbb] at db rb
  rw [← ha] at dn pn l1
  rw [← hbb] at l2
  rw [← hc] at dn pn l3
  refine Sy.enter (args := []) Try.func8 rfl (Nat.le_of_ble_eq_true (by kernel_rfl)) ?_
  refine Sy.seq ?_
  refine Sy.region ?_
  refine Sy.step (by kernel_rfl) (.bool false) (Quiet.pure (fun _ => by kernel_rfl)) ?_
  refine Sy.nil ?_
  refine Sy.then_ ?_
  refine Sy.seq ?_
  refine Sy.region ?_
  refine Sy.step (by kernel_rfl) (pv a b false) (Quiet.call 23 #[] (fun _ => by kernel_rfl) (cb)) ?_
  refine Sy.make (by kernel_rfl) 27 (pcs 0 0 false) ptr (fun _ => by kernel_rfl) (fun g0 => ?_)
  refine Sy.write (by kernel_rfl) 0 g0 27 (pcs 0 0 false) (pcs a b false) (by kernel_rfl) (Writes.store 0 27 (pcs a b false) _ _ rfl (by kernel_rfl) (by kernel_rfl) (by kernel_rfl) (Nat.le_of_ble_eq_true (by kernel_rfl)) (by kernel_rfl) (by kernel_rfl)) ?_
  refine Sy.nil ?_
  refine Sy.then_ ?_
  refine Sy.seq ?_
  refine Sy.regionD (fun j => false) (by kernel_rfl) ?_
  refine Sy.stepD 0 rfl (by kernel_rfl) (fun _ _ _ _ h => h) (by kernel_rfl) (pv a b false) (Quiet.load 0 g0 0 9 27 27 (pcs a b false) _ _ rfl (by kernel_rfl) (by kernel_rfl) Try.underlying27 rfl (by kernel_rfl) _ (by kernel_rfl) (Nat.le_of_ble_eq_true (by kernel_rfl))) ?_
  refine Sy.stepD 1 rfl (by kernel_rfl) (fun _ _ _ _ h => h) (by kernel_rfl) (pv a b false) (Quiet.call 24 #[] (fun _ => by kernel_rfl) (cr)) ?_
  refine Sy.stepD 2 rfl (by kernel_rfl) (fun _ _ _ _ h => h) (by kernel_rfl) (.bool true) (Quiet.pure (fun w => eql_pt_same w _ _ _ _ _ _ _ rfl rfl rfl (by first | assumption | exact lt4 _ | decide +kernel) (by first | assumption | exact lt4 _ | decide +kernel))) ?_
  refine Sy.stepD 3 rfl (by kernel_rfl) (fun _ _ _ _ h => h) (by kernel_rfl) (.bool true) (Quiet.pure (fun _ => by kernel_rfl)) ?_
  refine Sy.stepD 4 rfl (by kernel_rfl) (fun _ _ _ _ h => h) (by kernel_rfl) (pv a b false) (Quiet.load 0 g0 0 9 27 27 (pcs a b false) _ _ rfl (by kernel_rfl) (by kernel_rfl) Try.underlying27 rfl (by kernel_rfl) _ (by kernel_rfl) (Nat.le_of_ble_eq_true (by kernel_rfl))) ?_
  refine Sy.stepD 5 rfl (by kernel_rfl) (fun _ _ _ _ h => h) (by kernel_rfl) (.bool true) (Quiet.call 10 #[pv a b false] (fun _ => by kernel_rfl) (right_of l1 l2 rb)) ?_
  refine Sy.stepD 6 rfl (by kernel_rfl) (fun _ _ _ _ h => h) (by kernel_rfl) (.bool true) (Quiet.pure (fun _ => by kernel_rfl)) ?_
  refine Sy.stepD 7 rfl (by kernel_rfl) (fun _ _ _ _ h => h) (by kernel_rfl) (.bool true) (Quiet.pure (fun _ => by kernel_rfl)) ?_
  refine Sy.stepD 8 rfl (by kernel_rfl) (fun _ _ _ _ h => h) (by kernel_rfl) (pv a b false) (Quiet.load 0 g0 0 9 27 27 (pcs a b false) _ _ rfl (by kernel_rfl) (by kernel_rfl) Try.underlying27 rfl (by kernel_rfl) _ (by kernel_rfl) (Nat.le_of_ble_eq_true (by kernel_rfl))) ?_
  refine Sy.stepD 9 rfl (by kernel_rfl) (fun _ _ _ _ h => h) (by kernel_rfl) (pv 0 0 true) (Quiet.call 25 #[] (fun _ => by kernel_rfl) (zero_c)) ?_
  refine Sy.stepD 10 rfl (by kernel_rfl) (fun _ _ _ _ h => h) (by kernel_rfl) (pv a b false) (Quiet.call 22 #[pv a b false, pv 0 0 true] (fun _ => by kernel_rfl) (add_of l1 l2 (by decide) (by decide) db dec_zero pb (Ec.add_zero _))) ?_
  refine Sy.stepD 11 rfl (by kernel_rfl) (fun _ _ _ _ h => h) (by kernel_rfl) (pv a b false) (Quiet.load 0 g0 0 9 27 27 (pcs a b false) _ _ rfl (by kernel_rfl) (by kernel_rfl) Try.underlying27 rfl (by kernel_rfl) _ (by kernel_rfl) (Nat.le_of_ble_eq_true (by kernel_rfl))) ?_
  refine Sy.stepD 12 rfl (by kernel_rfl) (fun _ _ _ _ h => h) (by kernel_rfl) (.bool true) (Quiet.pure (fun w => eql_pt_same w _ _ _ _ _ _ _ rfl rfl rfl (by first | assumption | exact lt4 _ | decide +kernel) (by first | assumption | exact lt4 _ | decide +kernel))) ?_
  refine Sy.stepD 13 rfl (by kernel_rfl) (fun _ _ _ _ h => h) (by kernel_rfl) (.bool true) (Quiet.pure (fun _ => by kernel_rfl)) ?_
  refine Sy.stepD 14 rfl (by kernel_rfl) (fun _ _ _ _ h => h) (by kernel_rfl) (.bool true) (Quiet.pure (fun _ => by kernel_rfl)) ?_
  refine Sy.stepD 15 rfl (by kernel_rfl) (fun _ _ _ _ h => h) (by kernel_rfl) (pv a b false) (Quiet.load 0 g0 0 9 27 27 (pcs a b false) _ _ rfl (by kernel_rfl) (by kernel_rfl) Try.underlying27 rfl (by kernel_rfl) _ (by kernel_rfl) (Nat.le_of_ble_eq_true (by kernel_rfl))) ?_
  refine Sy.stepD 16 rfl (by kernel_rfl) (fun _ _ _ _ h => h) (by kernel_rfl) (pv a b false) (Quiet.load 0 g0 0 9 27 27 (pcs a b false) _ _ rfl (by kernel_rfl) (by kernel_rfl) Try.underlying27 rfl (by kernel_rfl) _ (by kernel_rfl) (Nat.le_of_ble_eq_true (by kernel_rfl))) ?_
  refine Sy.stepD 17 rfl (by kernel_rfl) (fun _ _ _ _ h => h) (by kernel_rfl) (pv a c false) (Quiet.call 26 #[pv a b false] (fun _ => by kernel_rfl) (neg_of l1 l2 db pn rfl)) ?_
  refine Sy.stepD 18 rfl (by kernel_rfl) (fun _ _ _ _ h => h) (by kernel_rfl) (pv 0 0 true) (Quiet.call 22 #[pv a b false, pv a c false] (fun _ => by kernel_rfl) (add_of l1 l2 l1 l3 db dn (R := none) rfl (Ec.add_neg _))) ?_
  refine Sy.stepD 19 rfl (by kernel_rfl) (fun _ _ _ _ h => h) (by kernel_rfl) (pv 0 0 true) (Quiet.call 25 #[] (fun _ => by kernel_rfl) (zero_c)) ?_
  refine Sy.stepD 20 rfl (by kernel_rfl) (fun _ _ _ _ h => h) (by kernel_rfl) (.bool true) (Quiet.pure (fun w => eql_pt_same w _ _ _ _ _ _ _ rfl rfl rfl (by first | assumption | exact lt4 _ | decide +kernel) (by first | assumption | exact lt4 _ | decide +kernel))) ?_
  refine Sy.stepD 21 rfl (by kernel_rfl) (fun _ _ _ _ h => h) (by kernel_rfl) (.bool true) (Quiet.pure (fun _ => by kernel_rfl)) ?_
  refine Sy.stepD 22 rfl (by kernel_rfl) (fun _ _ _ _ h => h) (by kernel_rfl) (.bool true) (Quiet.pure (fun _ => by kernel_rfl)) ?_
  refine Sy.stepD 23 rfl (by kernel_rfl) (fun _ _ _ _ h => h) (by kernel_rfl) (pv 0 0 true) (Quiet.call 25 #[] (fun _ => by kernel_rfl) (zero_c)) ?_
  refine Sy.stepD 24 rfl (by kernel_rfl) (fun _ _ _ _ h => h) (by kernel_rfl) (.bool true) (Quiet.pure (fun _ => by kernel_rfl)) ?_
  refine Sy.stepD 25 rfl (by kernel_rfl) (fun _ _ _ _ h => h) (by kernel_rfl) (.bool true) (Quiet.pure (fun _ => by kernel_rfl)) ?_
  refine Sy.stepD 26 rfl (by kernel_rfl) (fun _ _ _ _ h => h) (by kernel_rfl) (.bool true) (Quiet.pure (fun _ => by kernel_rfl)) ?_
  refine Sy.doneD (by kernel_rfl) ?_
  refine Sy.then_ ?_
  refine Sy.ret ?_
  exact Sy.ret1 (v := .bool true) rfl (.inl (show _ = _ by kernel_rfl))
end Go.Proofs.Ytneeefinaejgcaa.Cu

end
section
namespace Go.Proofs.Ytneeefinaejgcaa.Ec
variable {n : Nat} [NeZero n] {inv : Fin n → Fin n}

/-- a point as x / z^2, y / z^3; none where z is 0 -/
structure Jac (n : Nat) where
  x : Fin n
  y : Fin n
  z : Fin n
def Rep (a : Jac n) : Pt n → Prop
  | none => a.z = 0
  | some (X, Y) => a.z ≠ 0 ∧ a.x = X * (a.z * a.z) ∧ a.y = Y * (a.z * a.z * a.z)
theorem Fld.ne_mul (H : Fld n inv) {a b : Fin n} (ha : a ≠ 0) (hb : b ≠ 0) : a * b ≠ 0 := fun h => by
  rcases H.zero h with k | k
  · exact ha k
  · exact hb k
theorem tw (H : Fld n inv) {P : Pt n} {a s : Jac n} {u q : Fin n} (hP : On P) (h : Rep a P) (hu : u = a.x * a.x * 3) (hz : s.z = a.y * a.z * 2) (hq : q = a.x * (a.y * a.y) * 4) (hx : s.x = u * u - (q + q)) (hy : s.y = u * (q - s.x) - a.y * a.y * (a.y * a.y) * 8) : Rep s (add inv P P) := by
  rcases P with _ | ⟨X, Y⟩
  · show s.z = 0
    have h : a.z = 0 := h
    rw [hz, h]; clear hz hu hq hx hy; grobner
  · obtain ⟨h0, h1, h2⟩ := h
    have hY := H.noTwo X Y hP
    have hYY : Y + Y ≠ 0 := fun k => hY (H.two _ k)
    have hn : ¬ (X = X ∧ Y + Y = 0) := fun k => hYY k.2
    obtain ⟨l, hl⟩ : ∃ l, l = slp inv X Y X Y := ⟨_, rfl⟩
    have hl2 : l * (Y + Y) = X * X * 3 := by
      have hi := H.one _ hYY
      rw [hl]; unfold slp; rw [if_pos rfl]
      clear hz hu hq hx hy h1 h2 hl
      grobner
    have ea : add inv (some (X, Y)) (some (X, Y)) = some (x3 l X X, y3 l X Y X) := by rw [hl]; exact if_neg hn
    rw [ea]
    obtain ⟨ax, ay, z⟩ := a
    obtain ⟨sx, sy, sz⟩ := s
    simp only at h0 h1 h2 hu hz hq hx hy ⊢
    have e1 : sz = Y * (z * z * z * z) * 2 := by rw [hz, h2]; clear hu hq hx hy h1 h2 hl hl2 hz; grobner
    have e2 : u = l * sz := by
      rw [hu, h1, e1]
      have : X * (z * z) * (X * (z * z)) * 3 = X * X * 3 * (z * z * z * z) := by clear hu hq hx hy h1 h2 hl hl2 hz e1; grobner
      rw [this, ← hl2]
      clear hu hq hx hy h1 h2 hl hl2 hz e1 this; grobner
    have e3 : q = X * (sz * sz) := by rw [hq, h1, h2, e1]; clear hu hq hx hy h1 h2 hl hl2 hz e1 e2; grobner
    have e4 : ay * ay * (ay * ay) * 8 = Y * (sz * sz * sz) := by rw [h2, e1]; clear hu hq hx hy h1 h2 hl hl2 hz e1 e2 e3; grobner
    have e5 : sx = x3 l X X * (sz * sz) := by rw [hx, e2, e3]; unfold x3; clear hu hq hx hy h1 h2 hl hl2 hz e1 e2 e3 e4; grobner
    refine ⟨?_, e5, ?_⟩
    · rw [e1]
      have h4 := H.ne_mul (H.ne_mul (H.ne_mul h0 h0) h0) h0
      intro k
      refine H.ne_mul hYY h4 ?_
      rw [← k]
      clear hu hq hx hy h1 h2 hl hl2 hz e1 e2 e3 e4 e5 k; grobner
    · rw [hy, e4, e2, e3, e5]
      unfold y3
      clear hu hq hx hy h1 h2 hl hl2 hz e1 e2 e3 e4 e5; grobner

/-- a sum of two that are neither the same nor none: u, v: the first one's coordinates over the common denominator, c, r: how far the other's are from there -/
theorem ad (H : Fld n inv) {X1 Y1 X2 Y2 : Fin n} {s : Jac n} {Z u v c r : Fin n} (h1 : Y1 * Y1 = X1 * X1 * X1 + 7) (h2 : Y2 * Y2 = X2 * X2 * X2 + 7) (hZ : Z ≠ 0) (hu : u = X1 * (Z * Z)) (hv : v = Y1 * (Z * Z * Z)) (hc : c = X2 * (Z * Z) - u) (hr : r = Y2 * (Z * Z * Z) - v)
    (hn : ¬ (c = 0 ∧ r = 0)) (hx : s.x = r * r - c * c * c - (u * (c * c) + u * (c * c))) (hy : s.y = r * (u * (c * c) - s.x) - v * (c * c * c)) (hz : s.z = Z * c) : Rep s (add inv (some (X1, Y1)) (some (X2, Y2))) := by
  obtain ⟨sx, sy, sz⟩ := s
  simp only at hx hy hz ⊢
  have ec : c = (X2 - X1) * (Z * Z) := by rw [hc, hu]; clear hc hu hv hr hx hy hz h1 h2; grobner
  have er : r = (Y2 - Y1) * (Z * Z * Z) := by rw [hr, hv]; clear hc hu hv hr hx hy hz h1 h2; grobner
  by_cases hX : X1 = X2
  · subst hX
    have c0 : c = 0 := by rw [ec]; clear ec hc hu hv hr hx hy hz h1 h2 er hn; grobner
    have hY : Y1 ≠ Y2 := fun e => hn ⟨c0, by rw [er, e]; clear ec hc hu hv hr hx hy hz h1 h2 er hn c0; grobner⟩
    have hs : Y1 + Y2 = 0 := Classical.byContradiction fun t => off H h1 h2 (fun q => hY q.2) (fun q => t q.2) rfl
    have ea : add inv (some (X1, Y1)) (some (X1, Y2)) = none := if_pos ⟨rfl, hs⟩
    rw [ea]
    show sz = 0
    rw [hz, c0]; clear ec hc hu hv hr hx hy hz h1 h2 er hn c0 hs; grobner
  · have hd : X2 - X1 ≠ 0 := fun e => hX (by clear ec hc hu hv hr hx hy hz h1 h2 er hn; grobner)
    have hneg : ¬ (X1 = X2 ∧ Y1 + Y2 = 0) := fun k => hX k.1
    obtain ⟨l, hl⟩ : ∃ l, l = slp inv X1 Y1 X2 Y2 := ⟨_, rfl⟩
    have hl2 : l * (X2 - X1) = Y2 - Y1 := by
      have hi := H.one _ hd
      rw [hl]; unfold slp; rw [if_neg hX]
      clear ec hc hu hv hr hx hy hz h1 h2 er hn hl
      grobner
    simp only [add]
    rw [if_neg hneg, ← hl]
    have e1 : sz = (X2 - X1) * (Z * Z * Z) := by rw [hz, ec]; clear ec hc hu hv hr hx hy hz h1 h2 er hn hl hl2; grobner
    have e2 : r = l * sz := by
      rw [er, e1, ← hl2]
      clear ec hc hu hv hr hx hy hz h1 h2 er hn hl hl2 e1; grobner
    have e3 : u * (c * c) = X1 * (sz * sz) := by rw [hu, ec, e1]; clear ec hc hu hv hr hx hy hz h1 h2 er hn hl hl2 e1 e2; grobner
    have e4 : c * c * c = (X2 - X1) * (sz * sz) := by rw [ec, e1]; clear ec hc hu hv hr hx hy hz h1 h2 er hn hl hl2 e1 e2 e3; grobner
    have e6 : v * (c * c * c) = Y1 * (sz * sz * sz) := by rw [hv, ec, e1]; clear ec hc hu hv hr hx hy hz h1 h2 er hn hl hl2 e1 e2 e3 e4; grobner
    have e5 : sx = x3 l X1 X2 * (sz * sz) := by rw [hx, e2, e3, e4]; unfold x3; clear ec hc hu hv hr hx hy hz h1 h2 er hn hl hl2 e1 e2 e3 e4 e6; grobner
    refine ⟨?_, e5, ?_⟩
    · rw [e1]; exact H.ne_mul hd (H.ne_mul (H.ne_mul hZ hZ) hZ)
    · rw [hy, e2, e3, e6, e5]
      unfold y3
      clear ec hc hu hv hr hx hy hz h1 h2 er hn hl hl2 e1 e2 e3 e4 e5 e6; grobner

/-- what three numbers stand for -/
theorem rep_point (H : Fld n inv) {a : Jac n} {P : Pt n} (h : Rep a P) : (a.z = 0 ∧ P = none) ∨ (a.z ≠ 0 ∧ P = some (a.x * (inv a.z * inv a.z), a.y * (inv a.z * inv a.z * inv a.z))) := by
  rcases P with _ | ⟨X, Y⟩
  · exact .inl ⟨h, rfl⟩
  · obtain ⟨h0, h1, h2⟩ := h
    have hi := H.one _ h0
    refine .inr ⟨h0, ?_⟩
    rw [h1, h2]
    obtain ⟨i, hI⟩ : ∃ i, i = inv a.z := ⟨_, rfl⟩
    rw [← hI] at hi ⊢
    have f1 : X * (a.z * a.z) * (i * i) = X := by
      have : X * (a.z * a.z) * (i * i) = X * (a.z * i) * (a.z * i) := by clear hi hI h1 h2; grobner
      rw [this, hi]; clear hi hI h1 h2 this; grobner
    have f2 : Y * (a.z * a.z * a.z) * (i * i * i) = Y := by
      have : Y * (a.z * a.z * a.z) * (i * i * i) = Y * (a.z * i) * (a.z * i) * (a.z * i) := by clear hi hI h1 h2 f1; grobner
      rw [this, hi]; clear hi hI h1 h2 this f1; grobner
    rw [f1, f2]
end Go.Proofs.Ytneeefinaejgcaa.Ec

end
section
namespace Go.Proofs.Ytneeefinaejgcaa.Cu
open Go.RowKit Go.Proofs.Ytneeefinaejgcaa Go.Proofs.Ytneeefinaejgcaa.Sy

abbrev J := Ec.Jac pM
/-- three numbers' cells -/
def tcs (x y z : Nat) : Array Value := (fws x ++ (fws y ++ fws z)).toArray
def tv (x y z : Nat) : Value := .agg (tcs x y z)
def jv (a : J) : Value := tv a.x.val a.y.val a.z.val
def dblJ (a : J) : J :=
  ⟨a.x * a.x * 3 * (a.x * a.x * 3) - (a.x * (a.y * a.y) * 4 + a.x * (a.y * a.y) * 4),
   a.x * a.x * 3 * (a.x * (a.y * a.y) * 4 - (a.x * a.x * 3 * (a.x * a.x * 3) - (a.x * (a.y * a.y) * 4 + a.x * (a.y * a.y) * 4))) - a.y * a.y * (a.y * a.y) * 8, a.y * a.z * 2⟩
theorem dblJ_rep {a : J} {P : Pt} (hP : Ec.On P) (h : Ec.Rep a P) : Ec.Rep (dblJ a) (Ec.add finv P P) := Ec.tw fld hP h rfl rfl rfl rfl rfl
def uJ (a b : J) : Fp := a.x * (b.z * b.z)
def vJ (a b : J) : Fp := a.y * (b.z * b.z * b.z)
def cJ (a b : J) : Fp := b.x * (a.z * a.z) - uJ a b
def rJ (a b : J) : Fp := b.y * (a.z * a.z * a.z) - vJ a b
def sxJ (a b : J) : Fp := rJ a b * rJ a b - cJ a b * cJ a b * cJ a b - (uJ a b * (cJ a b * cJ a b) + uJ a b * (cJ a b * cJ a b))
def syJ (a b : J) : Fp := rJ a b * (uJ a b * (cJ a b * cJ a b) - sxJ a b) - vJ a b * (cJ a b * cJ a b * cJ a b)
def szJ (a b : J) : Fp := a.z * b.z * cJ a b
def addJ (a b : J) : J := if a.z = 0 then b else if b.z = 0 then a else if cJ a b = 0 ∧ rJ a b = 0 then dblJ a else ⟨sxJ a b, syJ a b, szJ a b⟩
theorem addJ_1 {a b : J} (h : a.z = 0) : addJ a b = b := if_pos h
theorem addJ_2 {a b : J} (h : a.z ≠ 0) (k : b.z = 0) : addJ a b = a := by unfold addJ; rw [if_neg h, if_pos k]
theorem addJ_3 {a b : J} (h : a.z ≠ 0) (k : b.z ≠ 0) (c : cJ a b = 0) (r : rJ a b = 0) : addJ a b = dblJ a := by unfold addJ; rw [if_neg h, if_neg k, if_pos ⟨c, r⟩]
theorem addJ_4 {a b : J} (h : a.z ≠ 0) (k : b.z ≠ 0) (c : ¬ (cJ a b = 0 ∧ rJ a b = 0)) : addJ a b = ⟨sxJ a b, syJ a b, szJ a b⟩ := by unfold addJ; rw [if_neg h, if_neg k, if_neg c]
theorem addJ_rep {a b : J} {P Q : Pt} (hP : Ec.On P) (hQ : Ec.On Q) (h : Ec.Rep a P) (k : Ec.Rep b Q) : Ec.Rep (addJ a b) (Ec.add finv P Q) := by
  rcases P with _ | ⟨X1, Y1⟩
  · rw [addJ_1 h, Ec.zero_add]; exact k
  rcases Q with _ | ⟨X2, Y2⟩
  · rw [addJ_2 h.1 k]; exact h
  obtain ⟨h0, h1, h2⟩ := h
  obtain ⟨k0, k1, k2⟩ := k
  have hZ : a.z * b.z ≠ 0 := fld.ne_mul h0 k0
  have eu : uJ a b = X1 * (a.z * b.z * (a.z * b.z)) := by unfold uJ; rw [h1]; clear h1 h2 k1 k2 h0 k0 hZ hP hQ; grobner
  have ev : vJ a b = Y1 * (a.z * b.z * (a.z * b.z) * (a.z * b.z)) := by unfold vJ; rw [h2]; clear h1 h2 k1 k2 h0 k0 hZ hP hQ eu; grobner
  have ec : cJ a b = X2 * (a.z * b.z * (a.z * b.z)) - uJ a b := by unfold cJ; rw [k1]; clear h1 h2 k1 k2 h0 k0 hZ hP hQ eu ev; grobner
  have er : rJ a b = Y2 * (a.z * b.z * (a.z * b.z) * (a.z * b.z)) - vJ a b := by unfold rJ; rw [k2]; clear h1 h2 k1 k2 h0 k0 hZ hP hQ eu ev ec; grobner
  by_cases hc : cJ a b = 0 ∧ rJ a b = 0
  · rw [addJ_3 h0 k0 hc.1 hc.2]
    have g1 : (X2 - X1) * (a.z * b.z * (a.z * b.z)) = 0 := by rw [← hc.1, ec, eu]; clear h1 h2 k1 k2 h0 k0 hZ hP hQ eu ev ec er hc; grobner
    have g2 : (Y2 - Y1) * (a.z * b.z * (a.z * b.z) * (a.z * b.z)) = 0 := by rw [← hc.2, er, ev]; clear h1 h2 k1 k2 h0 k0 hZ hP hQ eu ev ec er hc g1; grobner
    have e1 : X2 = X1 := by
      rcases fld.zero g1 with q | q
      · clear h1 h2 k1 k2 h0 k0 hZ hP hQ eu ev ec er hc g1 g2; grobner
      · exact absurd q (fld.ne_mul hZ hZ)
    have e2 : Y2 = Y1 := by
      rcases fld.zero g2 with q | q
      · clear h1 h2 k1 k2 h0 k0 hZ hP hQ eu ev ec er hc g1 g2; grobner
      · exact absurd q (fld.ne_mul (fld.ne_mul hZ hZ) hZ)
    subst e1 e2
    exact dblJ_rep hP ⟨h0, h1, h2⟩
  · rw [addJ_4 h0 k0 hc]
    exact Ec.ad fld (u := uJ a b) (v := vJ a b) (c := cJ a b) (r := rJ a b) hP hQ hZ eu ev ec er hc rfl rfl rfl
end Go.Proofs.Ytneeefinaejgcaa.Cu

end
section
namespace Go.Proofs.Ytneeefinaejgcaa.Cu
open Go.RowKit Go.Proofs.Ytneeefinaejgcaa Go.Proofs.Ytneeefinaejgcaa.Sy

set_option maxHeartbeats 4000000 in
set_option maxRecDepth 100000 in
theorem twice_c (w : World) (a : Fp) : Calls Try.prog 99 #[fv a.val] w (Gets w (fv (a + a).val)) := by
  refine Sy.enter (args := [fv a.val]) Try.func99 rfl (Nat.le_of_ble_eq_true (by kernel_rfl)) ?_
  refine Sy.seq ?_
  refine Sy.region ?_
  refine Sy.make (by kernel_rfl) 25 (fcs a.val) ptr (fun _ => by kernel_rfl) (fun g0 => ?_)
  refine Sy.make (by kernel_rfl) 25 (fcs 0) ptr (fun _ => by kernel_rfl) (fun g1 => ?_)
  refine Sy.nil ?_
  refine Sy.then_ ?_
  refine Sy.seq ?_
  refine Sy.region ?_
  refine Sy.step (by kernel_rfl) (fv a.val) (Quiet.load 0 g0 0 4 25 25 (fcs a.val) _ _ rfl (by kernel_rfl) (by kernel_rfl) Try.underlying25 rfl (by kernel_rfl) _ (by kernel_rfl) (Nat.le_of_ble_eq_true (by kernel_rfl))) ?_
  refine Sy.step (by kernel_rfl) (fv a.val) (Quiet.load 0 g0 0 4 25 25 (fcs a.val) _ _ rfl (by kernel_rfl) (by kernel_rfl) Try.underlying25 rfl (by kernel_rfl) _ (by kernel_rfl) (Nat.le_of_ble_eq_true (by kernel_rfl))) ?_
  obtain ⟨z1, hz1⟩ : ∃ z : Fp, z = a + a := ⟨_, rfl⟩
  refine Sy.step (by kernel_rfl) (fv z1.val) (Quiet.call 76 #[fv a.val, fv a.val] (fun _ => by kernel_rfl) (by rw [hz1]; exact add_c a a)) ?_
  refine Sy.write (by kernel_rfl) 1 g1 25 (fcs 0) (fcs z1.val) (by kernel_rfl) (Writes.store 0 25 (fcs z1.val) _ _ rfl (by kernel_rfl) (by kernel_rfl) (by kernel_rfl) (Nat.le_of_ble_eq_true (by kernel_rfl)) (by kernel_rfl) (by kernel_rfl)) ?_
  refine Sy.nil ?_
  refine Sy.then_ ?_
  refine Sy.ret ?_
  rw [show (fv (a + a).val : Value) = fv z1.val from by rw [hz1]]
  exact Sy.ret1 (v := fv z1.val) rfl (.inl (Res.cell (ty' := 25) g1 1 (fcs z1.val) _ (by kernel_rfl) (by kernel_rfl) Try.underlying25 rfl (by kernel_rfl) (by kernel_rfl)))
set_option maxHeartbeats 4000000 in
set_option maxRecDepth 100000 in
theorem double_c (w : World) (a : J) : Calls Try.prog 80 #[tv a.x.val a.y.val a.z.val] w (Gets w (tv (dblJ a).x.val (dblJ a).y.val (dblJ a).z.val)) := by
  refine Sy.enter (args := [tv a.x.val a.y.val a.z.val]) Try.func80 rfl (Nat.le_of_ble_eq_true (by kernel_rfl)) ?_
  refine Sy.seq ?_
  refine Sy.region ?_
  refine Sy.make (by kernel_rfl) 73 (tcs a.x.val a.y.val a.z.val) ptr (fun _ => by kernel_rfl) (fun g0 => ?_)
  refine Sy.make (by kernel_rfl) 73 (tcs 0 0 0) ptr (fun _ => by kernel_rfl) (fun g1 => ?_)
  refine Sy.nil ?_
  refine Sy.then_ ?_
  refine Sy.seq ?_
  refine Sy.region ?_
  refine Sy.step (by kernel_rfl) (.pointer (some ⟨g0, 0, none⟩)) (Quiet.pure (fun _ => by kernel_rfl)) ?_
  refine Sy.step (by kernel_rfl) (fv a.x.val) (Quiet.load 0 g0 0 4 73 25 (tcs a.x.val a.y.val a.z.val) _ _ rfl (by kernel_rfl) (by kernel_rfl) Try.underlying25 rfl (by kernel_rfl) _ (by kernel_rfl) (Nat.le_of_ble_eq_true (by kernel_rfl))) ?_
  refine Sy.step (by kernel_rfl) (.pointer (some ⟨g0, 0, none⟩)) (Quiet.pure (fun _ => by kernel_rfl)) ?_
  refine Sy.step (by kernel_rfl) (fv a.x.val) (Quiet.load 0 g0 0 4 73 25 (tcs a.x.val a.y.val a.z.val) _ _ rfl (by kernel_rfl) (by kernel_rfl) Try.underlying25 rfl (by kernel_rfl) _ (by kernel_rfl) (Nat.le_of_ble_eq_true (by kernel_rfl))) ?_
  obtain ⟨z1, hz1⟩ : ∃ z : Fp, z = a.x * a.x := ⟨_, rfl⟩
  refine Sy.step (by kernel_rfl) (fv z1.val) (Quiet.call 40 #[fv a.x.val, fv a.x.val] (fun _ => by kernel_rfl) (by rw [hz1]; exact mul_c a.x a.x)) ?_
  refine Sy.make (by kernel_rfl) 25 (fcs 0) ptr (fun _ => by kernel_rfl) (fun g2 => ?_)
  refine Sy.write (by kernel_rfl) 2 g2 25 (fcs 0) (fcs z1.val) (by kernel_rfl) (Writes.store 0 25 (fcs z1.val) _ _ rfl (by kernel_rfl) (by kernel_rfl) (by kernel_rfl) (Nat.le_of_ble_eq_true (by kernel_rfl)) (by kernel_rfl) (by kernel_rfl)) ?_
  refine Sy.nil ?_
  refine Sy.then_ ?_
  refine Sy.seq ?_
  refine Sy.regionD (fun j => j == 6) (by kernel_rfl) ?_
  refine Sy.stepD 0 rfl (by kernel_rfl) (fun _ _ _ _ h => h) (by kernel_rfl) (fv z1.val) (Quiet.load 2 g2 0 4 25 25 (fcs z1.val) _ _ rfl (by kernel_rfl) (by kernel_rfl) Try.underlying25 rfl (by kernel_rfl) _ (by kernel_rfl) (Nat.le_of_ble_eq_true (by kernel_rfl))) ?_
  refine Sy.stepD 1 rfl (by kernel_rfl) (fun _ _ _ _ h => h) (by kernel_rfl) (fv z1.val) (Quiet.load 2 g2 0 4 25 25 (fcs z1.val) _ _ rfl (by kernel_rfl) (by kernel_rfl) Try.underlying25 rfl (by kernel_rfl) _ (by kernel_rfl) (Nat.le_of_ble_eq_true (by kernel_rfl))) ?_
  obtain ⟨z2, hz2⟩ : ∃ z : Fp, z = z1 + z1 := ⟨_, rfl⟩
  refine Sy.stepD 2 rfl (by kernel_rfl) (fun _ _ _ _ h => h) (by kernel_rfl) (fv z2.val) (Quiet.call 76 #[fv z1.val, fv z1.val] (fun _ => by kernel_rfl) (by rw [hz2]; exact add_c z1 z1)) ?_
  refine Sy.stepD 3 rfl (by kernel_rfl) (fun _ _ _ _ h => h) (by kernel_rfl) (fv z1.val) (Quiet.load 2 g2 0 4 25 25 (fcs z1.val) _ _ rfl (by kernel_rfl) (by kernel_rfl) Try.underlying25 rfl (by kernel_rfl) _ (by kernel_rfl) (Nat.le_of_ble_eq_true (by kernel_rfl))) ?_
  obtain ⟨z3, hz3⟩ : ∃ z : Fp, z = z2 + z1 := ⟨_, rfl⟩
  refine Sy.stepD 4 rfl (by kernel_rfl) (fun _ _ _ _ h => h) (by kernel_rfl) (fv z3.val) (Quiet.call 76 #[fv z2.val, fv z1.val] (fun _ => by kernel_rfl) (by rw [hz3]; exact add_c z2 z1)) ?_
  refine Sy.makeD 5 rfl (by kernel_rfl) (by kernel_rfl) 25 (fcs 0) ptr (fun _ => by kernel_rfl) (fun g3 => ?_)
  refine Sy.writeD 6 rfl (by kernel_rfl) (by rfl) (by kernel_rfl) 3 g3 25 (fcs 0) (fcs z3.val) (by kernel_rfl) (Writes.store 0 25 (fcs z3.val) _ _ rfl (by kernel_rfl) (by kernel_rfl) (by kernel_rfl) (Nat.le_of_ble_eq_true (by kernel_rfl)) (by kernel_rfl) (by kernel_rfl)) ?_
  refine Sy.doneD (by kernel_rfl) ?_
  refine Sy.then_ ?_
  refine Sy.seq ?_
  refine Sy.region ?_
  refine Sy.step (by kernel_rfl) (.pointer (some ⟨g0, 4, none⟩)) (Quiet.pure (fun _ => by kernel_rfl)) ?_
  refine Sy.step (by kernel_rfl) (fv a.y.val) (Quiet.load 0 g0 4 4 73 25 (tcs a.x.val a.y.val a.z.val) _ _ rfl (by kernel_rfl) (by kernel_rfl) Try.underlying25 rfl (by kernel_rfl) _ (by kernel_rfl) (Nat.le_of_ble_eq_true (by kernel_rfl))) ?_
  refine Sy.step (by kernel_rfl) (.pointer (some ⟨g0, 4, none⟩)) (Quiet.pure (fun _ => by kernel_rfl)) ?_
  refine Sy.step (by kernel_rfl) (fv a.y.val) (Quiet.load 0 g0 4 4 73 25 (tcs a.x.val a.y.val a.z.val) _ _ rfl (by kernel_rfl) (by kernel_rfl) Try.underlying25 rfl (by kernel_rfl) _ (by kernel_rfl) (Nat.le_of_ble_eq_true (by kernel_rfl))) ?_
  obtain ⟨z4, hz4⟩ : ∃ z : Fp, z = a.y * a.y := ⟨_, rfl⟩
  refine Sy.step (by kernel_rfl) (fv z4.val) (Quiet.call 40 #[fv a.y.val, fv a.y.val] (fun _ => by kernel_rfl) (by rw [hz4]; exact mul_c a.y a.y)) ?_
  obtain ⟨z5, hz5⟩ : ∃ z : Fp, z = z4 + z4 := ⟨_, rfl⟩
  refine Sy.step (by kernel_rfl) (fv z5.val) (Quiet.call 99 #[fv z4.val] (fun _ => by kernel_rfl) (fun w => by rw [hz5]; exact twice_c w z4)) ?_
  refine Sy.make (by kernel_rfl) 25 (fcs 0) ptr (fun _ => by kernel_rfl) (fun g4 => ?_)
  refine Sy.write (by kernel_rfl) 4 g4 25 (fcs 0) (fcs z5.val) (by kernel_rfl) (Writes.store 0 25 (fcs z5.val) _ _ rfl (by kernel_rfl) (by kernel_rfl) (by kernel_rfl) (Nat.le_of_ble_eq_true (by kernel_rfl)) (by kernel_rfl) (by kernel_rfl)) ?_
  refine Sy.nil ?_
  refine Sy.then_ ?_
  refine Sy.seq ?_
  refine Sy.region ?_
  refine Sy.step (by kernel_rfl) (.pointer (some ⟨g0, 0, none⟩)) (Quiet.pure (fun _ => by kernel_rfl)) ?_
  refine Sy.step (by kernel_rfl) (fv a.x.val) (Quiet.load 0 g0 0 4 73 25 (tcs a.x.val a.y.val a.z.val) _ _ rfl (by kernel_rfl) (by kernel_rfl) Try.underlying25 rfl (by kernel_rfl) _ (by kernel_rfl) (Nat.le_of_ble_eq_true (by kernel_rfl))) ?_
  refine Sy.step (by kernel_rfl) (fv z5.val) (Quiet.load 4 g4 0 4 25 25 (fcs z5.val) _ _ rfl (by kernel_rfl) (by kernel_rfl) Try.underlying25 rfl (by kernel_rfl) _ (by kernel_rfl) (Nat.le_of_ble_eq_true (by kernel_rfl))) ?_
  obtain ⟨z6, hz6⟩ : ∃ z : Fp, z = a.x * z5 := ⟨_, rfl⟩
  refine Sy.step (by kernel_rfl) (fv z6.val) (Quiet.call 40 #[fv a.x.val, fv z5.val] (fun _ => by kernel_rfl) (by rw [hz6]; exact mul_c a.x z5)) ?_
  obtain ⟨z7, hz7⟩ : ∃ z : Fp, z = z6 + z6 := ⟨_, rfl⟩
  refine Sy.step (by kernel_rfl) (fv z7.val) (Quiet.call 99 #[fv z6.val] (fun _ => by kernel_rfl) (fun w => by rw [hz7]; exact twice_c w z6)) ?_
  refine Sy.make (by kernel_rfl) 25 (fcs 0) ptr (fun _ => by kernel_rfl) (fun g5 => ?_)
  refine Sy.write (by kernel_rfl) 5 g5 25 (fcs 0) (fcs z7.val) (by kernel_rfl) (Writes.store 0 25 (fcs z7.val) _ _ rfl (by kernel_rfl) (by kernel_rfl) (by kernel_rfl) (Nat.le_of_ble_eq_true (by kernel_rfl)) (by kernel_rfl) (by kernel_rfl)) ?_
  refine Sy.nil ?_
  refine Sy.then_ ?_
  refine Sy.seq ?_
  refine Sy.region ?_
  refine Sy.make (by kernel_rfl) 73 (tcs 0 0 0) ptr (fun _ => by kernel_rfl) (fun g6 => ?_)
  refine Sy.nil ?_
  refine Sy.then_ ?_
  refine Sy.seq ?_
  refine Sy.regionD (fun j => j == 7) (by kernel_rfl) ?_
  refine Sy.stepD 0 rfl (by kernel_rfl) (fun _ _ _ _ h => h) (by kernel_rfl) (fv z3.val) (Quiet.load 3 g3 0 4 25 25 (fcs z3.val) _ _ rfl (by kernel_rfl) (by kernel_rfl) Try.underlying25 rfl (by kernel_rfl) _ (by kernel_rfl) (Nat.le_of_ble_eq_true (by kernel_rfl))) ?_
  refine Sy.stepD 1 rfl (by kernel_rfl) (fun _ _ _ _ h => h) (by kernel_rfl) (fv z3.val) (Quiet.load 3 g3 0 4 25 25 (fcs z3.val) _ _ rfl (by kernel_rfl) (by kernel_rfl) Try.underlying25 rfl (by kernel_rfl) _ (by kernel_rfl) (Nat.le_of_ble_eq_true (by kernel_rfl))) ?_
  obtain ⟨z8, hz8⟩ : ∃ z : Fp, z = z3 * z3 := ⟨_, rfl⟩
  refine Sy.stepD 2 rfl (by kernel_rfl) (fun _ _ _ _ h => h) (by kernel_rfl) (fv z8.val) (Quiet.call 40 #[fv z3.val, fv z3.val] (fun _ => by kernel_rfl) (by rw [hz8]; exact mul_c z3 z3)) ?_
  refine Sy.stepD 3 rfl (by kernel_rfl) (fun _ _ _ _ h => h) (by kernel_rfl) (fv z7.val) (Quiet.load 5 g5 0 4 25 25 (fcs z7.val) _ _ rfl (by kernel_rfl) (by kernel_rfl) Try.underlying25 rfl (by kernel_rfl) _ (by kernel_rfl) (Nat.le_of_ble_eq_true (by kernel_rfl))) ?_
  obtain ⟨z9, hz9⟩ : ∃ z : Fp, z = z7 + z7 := ⟨_, rfl⟩
  refine Sy.stepD 4 rfl (by kernel_rfl) (fun _ _ _ _ h => h) (by kernel_rfl) (fv z9.val) (Quiet.call 99 #[fv z7.val] (fun _ => by kernel_rfl) (fun w => by rw [hz9]; exact twice_c w z7)) ?_
  obtain ⟨z10, hz10⟩ : ∃ z : Fp, z = z8 - z9 := ⟨_, rfl⟩
  refine Sy.stepD 5 rfl (by kernel_rfl) (fun _ _ _ _ h => h) (by kernel_rfl) (fv z10.val) (Quiet.call 59 #[fv z8.val, fv z9.val] (fun _ => by kernel_rfl) (by rw [hz10]; exact sub_c z8 z9)) ?_
  refine Sy.stepD 6 rfl (by kernel_rfl) (fun _ _ _ _ h => h) (by kernel_rfl) (.pointer (some ⟨g6, 0, none⟩)) (Quiet.pure (fun _ => by kernel_rfl)) ?_
  refine Sy.writeD 7 rfl (by kernel_rfl) (by rfl) (by kernel_rfl) 6 g6 73 (tcs 0 0 0) (tcs z10.val 0 0) (by kernel_rfl) (Writes.store 0 25 (fcs z10.val) _ _ rfl (by kernel_rfl) (by kernel_rfl) (by kernel_rfl) (Nat.le_of_ble_eq_true (by kernel_rfl)) (by kernel_rfl) (by kernel_rfl)) ?_
  refine Sy.doneD (by kernel_rfl) ?_
  refine Sy.then_ ?_
  refine Sy.seq ?_
  refine Sy.regionD (fun j => j == 12) (by kernel_rfl) ?_
  refine Sy.stepD 0 rfl (by kernel_rfl) (fun _ _ _ _ h => h) (by kernel_rfl) (fv z3.val) (Quiet.load 3 g3 0 4 25 25 (fcs z3.val) _ _ rfl (by kernel_rfl) (by kernel_rfl) Try.underlying25 rfl (by kernel_rfl) _ (by kernel_rfl) (Nat.le_of_ble_eq_true (by kernel_rfl))) ?_
  refine Sy.stepD 1 rfl (by kernel_rfl) (fun _ _ _ _ h => h) (by kernel_rfl) (fv z7.val) (Quiet.load 5 g5 0 4 25 25 (fcs z7.val) _ _ rfl (by kernel_rfl) (by kernel_rfl) Try.underlying25 rfl (by kernel_rfl) _ (by kernel_rfl) (Nat.le_of_ble_eq_true (by kernel_rfl))) ?_
  refine Sy.stepD 2 rfl (by kernel_rfl) (fun _ _ _ _ h => h) (by kernel_rfl) (.pointer (some ⟨g6, 0, none⟩)) (Quiet.pure (fun _ => by kernel_rfl)) ?_
  refine Sy.stepD 3 rfl (by kernel_rfl) (fun _ _ _ _ h => h) (by kernel_rfl) (fv z10.val) (Quiet.load 6 g6 0 4 73 25 (tcs z10.val 0 0) _ _ rfl (by kernel_rfl) (by kernel_rfl) Try.underlying25 rfl (by kernel_rfl) _ (by kernel_rfl) (Nat.le_of_ble_eq_true (by kernel_rfl))) ?_
  obtain ⟨z11, hz11⟩ : ∃ z : Fp, z = z7 - z10 := ⟨_, rfl⟩
  refine Sy.stepD 4 rfl (by kernel_rfl) (fun _ _ _ _ h => h) (by kernel_rfl) (fv z11.val) (Quiet.call 59 #[fv z7.val, fv z10.val] (fun _ => by kernel_rfl) (by rw [hz11]; exact sub_c z7 z10)) ?_
  obtain ⟨z12, hz12⟩ : ∃ z : Fp, z = z3 * z11 := ⟨_, rfl⟩
  refine Sy.stepD 5 rfl (by kernel_rfl) (fun _ _ _ _ h => h) (by kernel_rfl) (fv z12.val) (Quiet.call 40 #[fv z3.val, fv z11.val] (fun _ => by kernel_rfl) (by rw [hz12]; exact mul_c z3 z11)) ?_
  refine Sy.stepD 6 rfl (by kernel_rfl) (fun _ _ _ _ h => h) (by kernel_rfl) (fv z5.val) (Quiet.load 4 g4 0 4 25 25 (fcs z5.val) _ _ rfl (by kernel_rfl) (by kernel_rfl) Try.underlying25 rfl (by kernel_rfl) _ (by kernel_rfl) (Nat.le_of_ble_eq_true (by kernel_rfl))) ?_
  refine Sy.stepD 7 rfl (by kernel_rfl) (fun _ _ _ _ h => h) (by kernel_rfl) (fv z5.val) (Quiet.load 4 g4 0 4 25 25 (fcs z5.val) _ _ rfl (by kernel_rfl) (by kernel_rfl) Try.underlying25 rfl (by kernel_rfl) _ (by kernel_rfl) (Nat.le_of_ble_eq_true (by kernel_rfl))) ?_
  obtain ⟨z13, hz13⟩ : ∃ z : Fp, z = z5 * z5 := ⟨_, rfl⟩
  refine Sy.stepD 8 rfl (by kernel_rfl) (fun _ _ _ _ h => h) (by kernel_rfl) (fv z13.val) (Quiet.call 40 #[fv z5.val, fv z5.val] (fun _ => by kernel_rfl) (by rw [hz13]; exact mul_c z5 z5)) ?_
  obtain ⟨z14, hz14⟩ : ∃ z : Fp, z = z13 + z13 := ⟨_, rfl⟩
  refine Sy.stepD 9 rfl (by kernel_rfl) (fun _ _ _ _ h => h) (by kernel_rfl) (fv z14.val) (Quiet.call 99 #[fv z13.val] (fun _ => by kernel_rfl) (fun w => by rw [hz14]; exact twice_c w z13)) ?_
  obtain ⟨z15, hz15⟩ : ∃ z : Fp, z = z12 - z14 := ⟨_, rfl⟩
  refine Sy.stepD 10 rfl (by kernel_rfl) (fun _ _ _ _ h => h) (by kernel_rfl) (fv z15.val) (Quiet.call 59 #[fv z12.val, fv z14.val] (fun _ => by kernel_rfl) (by rw [hz15]; exact sub_c z12 z14)) ?_
  refine Sy.stepD 11 rfl (by kernel_rfl) (fun _ _ _ _ h => h) (by kernel_rfl) (.pointer (some ⟨g6, 4, none⟩)) (Quiet.pure (fun _ => by kernel_rfl)) ?_
  refine Sy.writeD 12 rfl (by kernel_rfl) (by rfl) (by kernel_rfl) 6 g6 73 (tcs z10.val 0 0) (tcs z10.val z15.val 0) (by kernel_rfl) (Writes.store 4 25 (fcs z15.val) _ _ rfl (by kernel_rfl) (by kernel_rfl) (by kernel_rfl) (Nat.le_of_ble_eq_true (by kernel_rfl)) (by kernel_rfl) (by kernel_rfl)) ?_
  refine Sy.doneD (by kernel_rfl) ?_
  refine Sy.then_ ?_
  refine Sy.seq ?_
  refine Sy.region ?_
  refine Sy.step (by kernel_rfl) (.pointer (some ⟨g0, 4, none⟩)) (Quiet.pure (fun _ => by kernel_rfl)) ?_
  refine Sy.step (by kernel_rfl) (fv a.y.val) (Quiet.load 0 g0 4 4 73 25 (tcs a.x.val a.y.val a.z.val) _ _ rfl (by kernel_rfl) (by kernel_rfl) Try.underlying25 rfl (by kernel_rfl) _ (by kernel_rfl) (Nat.le_of_ble_eq_true (by kernel_rfl))) ?_
  refine Sy.step (by kernel_rfl) (.pointer (some ⟨g0, 8, none⟩)) (Quiet.pure (fun _ => by kernel_rfl)) ?_
  refine Sy.step (by kernel_rfl) (fv a.z.val) (Quiet.load 0 g0 8 4 73 25 (tcs a.x.val a.y.val a.z.val) _ _ rfl (by kernel_rfl) (by kernel_rfl) Try.underlying25 rfl (by kernel_rfl) _ (by kernel_rfl) (Nat.le_of_ble_eq_true (by kernel_rfl))) ?_
  obtain ⟨z16, hz16⟩ : ∃ z : Fp, z = a.y * a.z := ⟨_, rfl⟩
  refine Sy.step (by kernel_rfl) (fv z16.val) (Quiet.call 40 #[fv a.y.val, fv a.z.val] (fun _ => by kernel_rfl) (by rw [hz16]; exact mul_c a.y a.z)) ?_
  obtain ⟨z17, hz17⟩ : ∃ z : Fp, z = z16 + z16 := ⟨_, rfl⟩
  refine Sy.step (by kernel_rfl) (fv z17.val) (Quiet.call 99 #[fv z16.val] (fun _ => by kernel_rfl) (fun w => by rw [hz17]; exact twice_c w z16)) ?_
  refine Sy.step (by kernel_rfl) (.pointer (some ⟨g6, 8, none⟩)) (Quiet.pure (fun _ => by kernel_rfl)) ?_
  refine Sy.write (by kernel_rfl) 6 g6 73 (tcs z10.val z15.val 0) (tcs z10.val z15.val z17.val) (by kernel_rfl) (Writes.store 8 25 (fcs z17.val) _ _ rfl (by kernel_rfl) (by kernel_rfl) (by kernel_rfl) (Nat.le_of_ble_eq_true (by kernel_rfl)) (by kernel_rfl) (by kernel_rfl)) ?_
  refine Sy.nil ?_
  refine Sy.then_ ?_
  refine Sy.seq ?_
  refine Sy.region ?_
  refine Sy.step (by kernel_rfl) (tv z10.val z15.val z17.val) (Quiet.load 6 g6 0 12 73 73 (tcs z10.val z15.val z17.val) _ _ rfl (by kernel_rfl) (by kernel_rfl) Try.underlying73 rfl (by kernel_rfl) _ (by kernel_rfl) (Nat.le_of_ble_eq_true (by kernel_rfl))) ?_
  refine Sy.write (by kernel_rfl) 1 g1 73 (tcs 0 0 0) (tcs z10.val z15.val z17.val) (by kernel_rfl) (Writes.store 0 73 (tcs z10.val z15.val z17.val) _ _ rfl (by kernel_rfl) (by kernel_rfl) (by kernel_rfl) (Nat.le_of_ble_eq_true (by kernel_rfl)) (by kernel_rfl) (by kernel_rfl)) ?_
  refine Sy.nil ?_
  refine Sy.then_ ?_
  refine Sy.ret ?_
  rw [show (tv (dblJ a).x.val (dblJ a).y.val (dblJ a).z.val : Value) = tv z10.val z15.val z17.val from by
      have k0 : (dblJ a).x = z10 := by
        simp only [dblJ]
        grobner
      have k1 : (dblJ a).y = z15 := by
        simp only [dblJ]
        grobner
      have k2 : (dblJ a).z = z17 := by
        simp only [dblJ]
        grobner
      rw [k0, k1, k2]]
  exact Sy.ret1 (v := tv z10.val z15.val z17.val) rfl (.inl (Res.cell (ty' := 73) g1 1 (tcs z10.val z15.val z17.val) _ (by kernel_rfl) (by kernel_rfl) Try.underlying73 rfl (by kernel_rfl) (by kernel_rfl)))
set_option maxHeartbeats 4000000 in
set_option maxRecDepth 100000 in
theorem widened_c (w : World) (a : J) (t : Fp) : Calls Try.prog 79 #[tv a.x.val a.y.val a.z.val, fv t.val] w (Gets w (.tuple #[fv (a.x * (t * t)).val, fv (a.y * (t * t * t)).val])) := by
  refine Sy.enter (args := [tv a.x.val a.y.val a.z.val, fv t.val]) Try.func79 rfl (Nat.le_of_ble_eq_true (by kernel_rfl)) ?_
  refine Sy.seq ?_
  refine Sy.region ?_
  refine Sy.make (by kernel_rfl) 73 (tcs a.x.val a.y.val a.z.val) ptr (fun _ => by kernel_rfl) (fun g0 => ?_)
  refine Sy.make (by kernel_rfl) 25 (fcs t.val) ptr (fun _ => by kernel_rfl) (fun g1 => ?_)
  refine Sy.make (by kernel_rfl) 25 (fcs 0) ptr (fun _ => by kernel_rfl) (fun g2 => ?_)
  refine Sy.make (by kernel_rfl) 25 (fcs 0) ptr (fun _ => by kernel_rfl) (fun g3 => ?_)
  refine Sy.nil ?_
  refine Sy.then_ ?_
  refine Sy.seq ?_
  refine Sy.region ?_
  refine Sy.step (by kernel_rfl) (fv t.val) (Quiet.load 1 g1 0 4 25 25 (fcs t.val) _ _ rfl (by kernel_rfl) (by kernel_rfl) Try.underlying25 rfl (by kernel_rfl) _ (by kernel_rfl) (Nat.le_of_ble_eq_true (by kernel_rfl))) ?_
  refine Sy.step (by kernel_rfl) (fv t.val) (Quiet.load 1 g1 0 4 25 25 (fcs t.val) _ _ rfl (by kernel_rfl) (by kernel_rfl) Try.underlying25 rfl (by kernel_rfl) _ (by kernel_rfl) (Nat.le_of_ble_eq_true (by kernel_rfl))) ?_
  obtain ⟨z1, hz1⟩ : ∃ z : Fp, z = t * t := ⟨_, rfl⟩
  refine Sy.step (by kernel_rfl) (fv z1.val) (Quiet.call 40 #[fv t.val, fv t.val] (fun _ => by kernel_rfl) (by rw [hz1]; exact mul_c t t)) ?_
  refine Sy.make (by kernel_rfl) 25 (fcs 0) ptr (fun _ => by kernel_rfl) (fun g4 => ?_)
  refine Sy.write (by kernel_rfl) 4 g4 25 (fcs 0) (fcs z1.val) (by kernel_rfl) (Writes.store 0 25 (fcs z1.val) _ _ rfl (by kernel_rfl) (by kernel_rfl) (by kernel_rfl) (Nat.le_of_ble_eq_true (by kernel_rfl)) (by kernel_rfl) (by kernel_rfl)) ?_
  refine Sy.nil ?_
  refine Sy.then_ ?_
  refine Sy.seq ?_
  refine Sy.regionD (fun j => j == 10 || j == 11) (by kernel_rfl) ?_
  refine Sy.stepD 0 rfl (by kernel_rfl) (fun _ _ _ _ h => h) (by kernel_rfl) (.pointer (some ⟨g0, 0, none⟩)) (Quiet.pure (fun _ => by kernel_rfl)) ?_
  refine Sy.stepD 1 rfl (by kernel_rfl) (fun _ _ _ _ h => h) (by kernel_rfl) (fv a.x.val) (Quiet.load 0 g0 0 4 73 25 (tcs a.x.val a.y.val a.z.val) _ _ rfl (by kernel_rfl) (by kernel_rfl) Try.underlying25 rfl (by kernel_rfl) _ (by kernel_rfl) (Nat.le_of_ble_eq_true (by kernel_rfl))) ?_
  refine Sy.stepD 2 rfl (by kernel_rfl) (fun _ _ _ _ h => h) (by kernel_rfl) (fv z1.val) (Quiet.load 4 g4 0 4 25 25 (fcs z1.val) _ _ rfl (by kernel_rfl) (by kernel_rfl) Try.underlying25 rfl (by kernel_rfl) _ (by kernel_rfl) (Nat.le_of_ble_eq_true (by kernel_rfl))) ?_
  obtain ⟨z2, hz2⟩ : ∃ z : Fp, z = a.x * z1 := ⟨_, rfl⟩
  refine Sy.stepD 3 rfl (by kernel_rfl) (fun _ _ _ _ h => h) (by kernel_rfl) (fv z2.val) (Quiet.call 40 #[fv a.x.val, fv z1.val] (fun _ => by kernel_rfl) (by rw [hz2]; exact mul_c a.x z1)) ?_
  refine Sy.stepDB 4 [5, 9, 10, 11] rfl (by kernel_rfl) (fun _ _ _ _ h => h) (by kernel_rfl) (.pointer (some ⟨g0, 4, none⟩)) (Quiet.pure (fun _ => by kernel_rfl)) ?_
  refine Sy.stepDB 5 [9, 10, 11] rfl (by kernel_rfl) (fun _ _ _ _ h => h) (by kernel_rfl) (fv a.y.val) (Quiet.load 0 g0 4 4 73 25 (tcs a.x.val a.y.val a.z.val) _ _ rfl (by kernel_rfl) (by kernel_rfl) Try.underlying25 rfl (by kernel_rfl) _ (by kernel_rfl) (Nat.le_of_ble_eq_true (by kernel_rfl))) ?_
  refine Sy.stepDB 6 [8, 9, 10, 11] rfl (by kernel_rfl) (fun _ _ _ _ h => h) (by kernel_rfl) (fv z1.val) (Quiet.load 4 g4 0 4 25 25 (fcs z1.val) _ _ rfl (by kernel_rfl) (by kernel_rfl) Try.underlying25 rfl (by kernel_rfl) _ (by kernel_rfl) (Nat.le_of_ble_eq_true (by kernel_rfl))) ?_
  refine Sy.stepDB 7 [8, 9, 10, 11] rfl (by kernel_rfl) (fun _ _ _ _ h => h) (by kernel_rfl) (fv t.val) (Quiet.load 1 g1 0 4 25 25 (fcs t.val) _ _ rfl (by kernel_rfl) (by kernel_rfl) Try.underlying25 rfl (by kernel_rfl) _ (by kernel_rfl) (Nat.le_of_ble_eq_true (by kernel_rfl))) ?_
  obtain ⟨z3, hz3⟩ : ∃ z : Fp, z = z1 * t := ⟨_, rfl⟩
  refine Sy.stepDB 8 [9, 10, 11] rfl (by kernel_rfl) (fun _ _ _ _ h => h) (by kernel_rfl) (fv z3.val) (Quiet.call 40 #[fv z1.val, fv t.val] (fun _ => by kernel_rfl) (by rw [hz3]; exact mul_c z1 t)) ?_
  obtain ⟨z4, hz4⟩ : ∃ z : Fp, z = a.y * z3 := ⟨_, rfl⟩
  refine Sy.stepD 9 rfl (by kernel_rfl) (fun _ _ _ _ h => h) (by kernel_rfl) (fv z4.val) (Quiet.call 40 #[fv a.y.val, fv z3.val] (fun _ => by kernel_rfl) (by rw [hz4]; exact mul_c a.y z3)) ?_
  refine Sy.writeD 10 rfl (by kernel_rfl) (by rfl) (by kernel_rfl) 2 g2 25 (fcs 0) (fcs z2.val) (by kernel_rfl) (Writes.store 0 25 (fcs z2.val) _ _ rfl (by kernel_rfl) (by kernel_rfl) (by kernel_rfl) (Nat.le_of_ble_eq_true (by kernel_rfl)) (by kernel_rfl) (by kernel_rfl)) ?_
  refine Sy.writeD 11 rfl (by kernel_rfl) (by rfl) (by kernel_rfl) 3 g3 25 (fcs 0) (fcs z4.val) (by kernel_rfl) (Writes.store 0 25 (fcs z4.val) _ _ rfl (by kernel_rfl) (by kernel_rfl) (by kernel_rfl) (Nat.le_of_ble_eq_true (by kernel_rfl)) (by kernel_rfl) (by kernel_rfl)) ?_
  refine Sy.doneD (by kernel_rfl) ?_
  refine Sy.then_ ?_
  refine Sy.ret ?_
  rw [show (.tuple #[fv (a.x * (t * t)).val, fv (a.y * (t * t * t)).val] : Value) = .tuple #[fv z2.val, fv z4.val] from by rw [hz4, hz3, hz2, hz1]]
  exact Sy.ret2 (v := fv z2.val) (u := fv z4.val) rfl (.inl (Res.cell (ty' := 25) g2 2 (fcs z2.val) _ (by kernel_rfl) (by kernel_rfl) Try.underlying25 rfl (by kernel_rfl) (by kernel_rfl))) (.inl (Res.cell (ty' := 25) g3 3 (fcs z4.val) _ (by kernel_rfl) (by kernel_rfl) Try.underlying25 rfl (by kernel_rfl) (by kernel_rfl)))
end Go.Proofs.Ytneeefinaejgcaa.Cu

end
section
namespace Go.Proofs.Ytneeefinaejgcaa.Sy
open Go.RowKit Go.Proofs.Ytneeefinaejgcaa

theorem St.swap {w0 : Base} {w : World} {L : Blocks} {x y : Nat × TypeId × Array Value} (h : St w0 w (L ++ [y] ++ [x])) : St w0 w (L ++ [x] ++ [y]) := by
  have hp : (L ++ [y] ++ [x]).Perm (L ++ [x] ++ [y]) := by
    rw [List.append_assoc, List.append_assoc]
    exact List.Perm.append_left L (List.Perm.swap x y [])
  exact ⟨h.below, fun g t cs hm => h.blk g t cs (hp.symm.subset hm), (hp.map (·.1)).nodup h.apart, h.size, h.non⟩
theorem Fr.swap {ds : List Deferred} {a : Act} {n : Nat} {F : Slots} {i j : Nat} {u v : Value} (hij : (i == j) = false) (h : Fr ds a n ((i, u) :: (j, v) :: F)) : Fr ds a n ((j, v) :: (i, u) :: F) := h.less fun k x hk => by
  have hne : i ≠ j := by simpa using hij
  simp only [List.lookup_cons] at hk ⊢
  by_cases e1 : k = i
  · subst e1
    have e2 : (k == j) = false := by simpa using hne
    rw [e2] at hk
    simpa using hk
  · have e1' : (k == i) = false := by simpa using e1
    rw [e1'] at hk ⊢
    exact hk
section
variable {P : Program} {w0 : Base} {n : Nat} {Q : Exit → Act → World → Prop} {F : Slots} {L : Blocks} {ops : Array Oper} {ex : Nat → Bool} {fuel : Nat} {listed : Array Bool}
theorem makeDuo (i j : Nat) {oi oj : Oper} (hi0 : ops.toList[i]? = some oi) (hj0 : ops.toList[j]? = some oj) (hr : Region.ready .any ops listed = [i, j]) (hri : Region.ready .any ops (listed.setIfInBounds i true) = [j]) (hrj : Region.ready .any ops (listed.setIfInBounds j true) = [i])
    (di dj : Nat) (hdi : oi.dst = some di) (hdj : oj.dst = some dj) (hne : (di == dj) = false) (hij : i ≠ j)
    (hgi : good ops n F oi = true) (hgj : good ops n F oj = true) (hgi' : ∀ v, good ops n (putF F (some dj) v) oi = true) (hgj' : ∀ v, good ops n (putF F (some di) v) oj = true)
    (ti tj : TypeId) (ci cj : Array Value) (vi vj : Nat → Value) (hmi : ∀ F', Makes P F' oi ti ci vi) (hmj : ∀ F', Makes P F' oj tj cj vj)
    (h : ∀ gi gj, wpD P w0 n ops Q ex ((dj, vj gj) :: (di, vi gi) :: F) (L ++ [(gi, ti, ci)] ++ [(gj, tj, cj)]) fuel ((listed.setIfInBounds i true).setIfInBounds j true)) : wpD P w0 n ops Q ex F L (fuel + 1 + 1) listed := fun a w ha hw => by
  have fi : fits n (some di) = true := hdi ▸ (good_spec hgi).2.2.1
  have fj : fits n (some dj) = true := hdj ▸ (good_spec hgj).2.2.1
  refine wpAnyG_duo i j hi0 hj0 hr (ha.wanted (good_spec hgi).1) (ha.wanted (good_spec hgj).1) (fun w1 h1 K hK => ?_) (fun w1 h1 K hK => ?_)
  · unfold Oper.wp
    rw [good_exec hgi ha, hmi F w1]
    refine hK _ _ (fun _ => gr_alloc w1 _) ?_
    rw [hdi]
    have ha1 := ha.put fi (vi w1.heap.size)
    have hw1 := (hw.gr h1).add (gr_alloc w1 (.cells ci ti)) (Nat.le_refl _) (Blk.new w1 ti ci)
    refine wpAnyG_sole j hj0 hri (ha1.wanted (good_spec (hgj' _)).1) (fun w2 h2 K2 hK2 => ?_)
    unfold Oper.wp
    rw [good_exec (hgj' _) ha1, hmj _ w2]
    refine hK2 _ _ (fun _ => gr_alloc w2 _) ?_
    rw [hdj]
    exact h w1.heap.size w2.heap.size _ _ (ha1.put fj _) ((hw1.gr h2).add (gr_alloc w2 (.cells cj tj)) (Nat.le_refl _) (Blk.new w2 tj cj))
  · unfold Oper.wp
    rw [good_exec hgj ha, hmj F w1]
    refine hK _ _ (fun _ => gr_alloc w1 _) ?_
    rw [hdj]
    have ha1 := ha.put fj (vj w1.heap.size)
    have hw1 := (hw.gr h1).add (gr_alloc w1 (.cells cj tj)) (Nat.le_refl _) (Blk.new w1 tj cj)
    refine wpAnyG_sole i hi0 hrj (ha1.wanted (good_spec (hgi' _)).1) (fun w2 h2 K2 hK2 => ?_)
    unfold Oper.wp
    rw [good_exec (hgi' _) ha1, hmi _ w2]
    refine hK2 _ _ (fun _ => gr_alloc w2 _) ?_
    rw [hdi, Array.setIfInBounds_comm _ _ (Ne.symm hij)]
    exact h w2.heap.size w1.heap.size _ _ (Fr.swap hne (ha1.put fi _)) (St.swap ((hw1.gr h2).add (gr_alloc w2 (.cells ci ti)) (Nat.le_refl _) (Blk.new w2 ti ci)))
end
end Go.Proofs.Ytneeefinaejgcaa.Sy

end
