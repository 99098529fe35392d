/-
  The document's Small, Power, Inv.
-/
import Derived.Test.YtlojidnlkflpnaaRefMul
namespace Go.Proofs.Ytlojidnlkflpnaa
open Go.RowKit Go.Lib

/-- a power modulo p -/
def pw (x e : Nat) : Nat := x ^ e % pM
theorem pw_lt (x e : Nat) : pw x e < 115792089237316195423570985008687907853269984665640564039457584007913129639936 := mod_lt _
theorem pw_zero (x : Nat) : pw x 0 = 1 := by unfold pw; rw [Nat.pow_zero]; decide
theorem pw_sq (x e : Nat) : mulP (pw x e) (pw x e) = pw x (2 * e) := by
  unfold mulP pw
  rw [← Nat.mul_mod, ← Nat.pow_add, Nat.two_mul]
theorem pw_mul (x e : Nat) : mulP (pw x e) x = pw x (e + 1) := by
  unfold mulP pw
  rw [Nat.mod_mul_mod, Nat.pow_succ]
theorem div_word2 (a r s : Nat) (hs : s ≤ 63) : (a + 18446744073709551616 * r) / 2 ^ s % 2 = a / 2 ^ s % 2 := by
  obtain ⟨u, hu⟩ : ∃ u, 2 ^ s * (2 * u) = 18446744073709551616 := by
    refine ⟨2 ^ (63 - s), ?_⟩
    have : 2 ^ s * 2 ^ (63 - s) = 2 ^ 63 := by rw [← Nat.pow_add]; congr 1; omega
    rw [show (2 : Nat) * 2 ^ (63 - s) = 2 ^ (63 - s) * 2 from Nat.mul_comm _ _, ← Nat.mul_assoc, this]
  rw [← hu, Nat.mul_assoc, Nat.add_mul_div_left _ _ (Nat.two_pow_pos s), Nat.mul_assoc, Nat.add_mul_mod_self_left]
/-- the next binary digit -/
theorem next_digit (e i s w r : Nat) (hz : e / 2 ^ (64 * i) = w + 18446744073709551616 * r) (hs : s ≤ 63) : e / 2 ^ (64 * i + s) = 2 * (e / 2 ^ (64 * i + (s + 1))) + w / 2 ^ s % 2 := by
  have h1 : e / 2 ^ (64 * i + s) % 2 = w / 2 ^ s % 2 := by
    rw [Nat.pow_add, ← Nat.div_div_eq_div_mul, hz, div_word2 w r s hs]
  have h2 : e / 2 ^ (64 * i + (s + 1)) = e / 2 ^ (64 * i + s) / 2 := by
    rw [← Nat.add_assoc, Nat.pow_succ, Nat.div_div_eq_div_mul]
  rw [h2, ← h1]
  omega
theorem and_bit (a s : Nat) (ha : a < 18446744073709551616) (hs : s ≤ 63) : ∃ m : Nat, bits .and .u64 (a : Int) ((2 ^ s : Nat) : Int) = (m : Int) ∧ (m = 0 ↔ a / 2 ^ s % 2 = 0) := by
  have h2 : 2 ^ s < 18446744073709551616 := by
    have : 2 ^ s ≤ 2 ^ 63 := Nat.pow_le_pow_right (by omega) hs
    omega
  refine ⟨a &&& 2 ^ s, bits_and_u64_nat a (2 ^ s) ha h2, ?_⟩
  have hb : a.testBit s = decide (a / 2 ^ s % 2 = 1) := Nat.testBit_eq_decide_div_mod_eq
  constructor
  · intro h
    have h2 : (a &&& 2 ^ s).testBit s = false := by rw [h]; simp
    rw [Nat.testBit_and, Nat.testBit_two_pow_self, Bool.and_true, hb] at h2
    have h3 : ¬ a / 2 ^ s % 2 = 1 := by simpa using h2
    omega
  · intro h
    have h2 : a.testBit s = false := by rw [hb]; simp; omega
    refine Nat.eq_of_testBit_eq fun j => ?_
    rw [Nat.testBit_and, Nat.zero_testBit, Nat.testBit_two_pow]
    by_cases hj : s = j
    · subst hj; simp [h2]
    · simp [hj]

theorem small_at (w : World) (n : Nat) (di : Int) (hdi : di = (n : Int)) (hn : n < 18446744073709551616) : Calls Try.prog 86 #[.int .u64 di] w fun e w' => e = .returned (fv n) ∧ Below w.heap.size w w' := by
  subst hdi
  rw [fv_small n hn]
  go_enter Try.func86, Try.ntmps86
  go_wp2
  exact bodyPost_ret (results_cell_row rfl _ _ w.heap.size _ _ (0, 0) _ rfl (heap_alloc_new w _) Try.underlying62 rfl (by kernel_rfl)) rfl ⟨rfl, (Below.refl _ _).alloc (Nat.le_refl _) _⟩

set_option maxHeartbeats 16000000 in
set_option maxRecDepth 100000 in
theorem power_any (w : World) (x e : Nat) (hx : x < 115792089237316195423570985008687907853269984665640564039457584007913129639936) (he : e < 115792089237316195423570985008687907853269984665640564039457584007913129639936) : Calls Try.prog 92 #[.agg #[.int .u64 18446744069414583343, .int .u64 18446744073709551615, .int .u64 18446744073709551615, .int .u64 18446744073709551615, .int .u64 4294968273, .int .u64 0, .int .u64 0], fv x, fv e] w fun ee w' => ee = .returned (fv (pw x e)) ∧ Below w.heap.size w w' := by
  obtain ⟨x0, x1, x2, x3, fx⟩ := words_fv x hx
  obtain ⟨e0, e1, e2, e3, b0, b1, b2, b3, ee, fe⟩ := words_of e he
  have n0 := fun s hs => next_digit e 0 s e0 (e1 + 18446744073709551616 * e2 + 340282366920938463463374607431768211456 * e3) (by omega) hs
  have n1 := fun s hs => next_digit e 1 s e1 (e2 + 18446744073709551616 * e3) (by omega) hs
  have n2 := fun s hs => next_digit e 2 s e2 e3 (by omega) hs
  have n3 := fun s hs => next_digit e 3 s e3 0 (by omega) hs
  have h256 : e / 2 ^ 256 = 0 := by omega
  have HN := Lib.hid (And.intro n0 (And.intro n1 (And.intro n2 n3)))
  have HB := Lib.hid (And.intro b0 (And.intro b1 (And.intro b2 b3)))
  have H0 := Lib.hid h256
  have FX := Lib.hid fx
  have HX := Lib.hid hx
  rw [fx, fe]
  clear fx fe ee hx he b0 b1 b2 b3 n0 n1 n2 n3 h256
  go_enter Try.func92, Try.ntmps92
  go_wp2_with fail
  obtain ⟨one, h1⟩ : ∃ one, one = 1 := ⟨_, rfl⟩
  refine (small_at _ one 1 (by rw [h1]; rfl) (by omega)).mono ?_
  rintro ez w1 ⟨rfl, g1⟩
  have BM : Blk w1 w.heap.size 66 #[.int .u64 18446744069414583343, .int .u64 18446744073709551615, .int .u64 18446744073709551615, .int .u64 18446744073709551615, .int .u64 4294968273, .int .u64 0, .int .u64 0] := Gr.blk g1 (((((Blk.new w _ _).alloc _).alloc _).alloc _))
  have BX : Blk w1 (w.heap.size + 1) 62 #[.int .u64 (x0 : Int), .int .u64 (x1 : Int), .int .u64 (x2 : Int), .int .u64 (x3 : Int)] := Gr.blk g1 ((((blk_new2 w _ _ _).alloc _).alloc _))
  have BE : Blk w1 (w.heap.size + 2) 62 #[.int .u64 (e0 : Int), .int .u64 (e1 : Int), .int .u64 (e2 : Int), .int .u64 (e3 : Int)] := Gr.blk g1 ((blk_new3 w _ _ _ _).alloc _)
  have BR : Blk w1 (w.heap.size + 3) 62 #[.int .u64 0, .int .u64 0, .int .u64 0, .int .u64 0] := Gr.blk g1 (blk_new4 w _ _ _ _ _)
  have hB := Below.gr (below_alloc4 w _ _ _ _) g1
  have sz : w.heap.size + 3 < w1.heap.size := BR.lt
  have H1 := Lib.hid h1
  clear g1 h1
  go_wp2_with (first | ((with_reducible refine here_store ?_); refine wpList_store_blk rfl _ _ _ rfl (w1.heap.size) (fcs (one)) rfl rfl _ _ (Blk.new w1 _ _) (by kernel_rfl) (by rfl) (fcs_one _) ?_; intro w2 hL2 hq2 hK2; have KM := hK2 _ (by omega) _ _ (BM.alloc _); have KX := hK2 _ (by omega) _ _ (BX.alloc _); have KE := hK2 _ (by omega) _ _ (BE.alloc _); have KR := hK2 _ (by omega) _ _ (BR.alloc _); have hB2 := (hB.alloc (by omega) _).trans (hq2 _ (by omega))))
  go_loopw [8] (fun i wr => Below w.heap.size w wr ∧ Blk wr w.heap.size 66 #[.int .u64 18446744069414583343, .int .u64 18446744073709551615, .int .u64 18446744073709551615, .int .u64 18446744073709551615, .int .u64 4294968273, .int .u64 0, .int .u64 0] ∧ Blk wr (w.heap.size + 1) 62 #[.int .u64 (x0 : Int), .int .u64 (x1 : Int), .int .u64 (x2 : Int), .int .u64 (x3 : Int)] ∧ Blk wr (w.heap.size + 2) 62 #[.int .u64 (e0 : Int), .int .u64 (e1 : Int), .int .u64 (e2 : Int), .int .u64 (e3 : Int)] ∧ Blk wr (w.heap.size + 3) 62 #[.int .u64 0, .int .u64 0, .int .u64 0, .int .u64 0] ∧ Hid ((i = .int .i64 3 ∧ Blk wr w1.heap.size 62 (fcs (pw x (e / 2 ^ 256)))) ∨ (i = .int .i64 2 ∧ Blk wr w1.heap.size 62 (fcs (pw x (e / 2 ^ 192)))) ∨ (i = .int .i64 1 ∧ Blk wr w1.heap.size 62 (fcs (pw x (e / 2 ^ 128)))) ∨ (i = .int .i64 0 ∧ Blk wr w1.heap.size 62 (fcs (pw x (e / 2 ^ 64)))) ∨ (i = .int .i64 (-1) ∧ Blk wr w1.heap.size 62 (fcs (pw x (e / 2 ^ 0)))))) (fun i _ => (intOf i + 1).toNat)
  case atStart => exact ⟨hB2, KM, KX, KE, KR, Lib.hid (.inl ⟨rfl, Blk.eq_ hL2 (by rw [H0.out, pw_zero, H1.out])⟩)⟩
  case round =>
    obtain ⟨hb, BM, BX, BE, BR, HI⟩ := hrel
    rcases HI.out with ⟨rfl, BP⟩ | ⟨rfl, BP⟩ | ⟨rfl, BP⟩ | ⟨rfl, BP⟩ | ⟨rfl, BP⟩
    · clear HI
      go_wp2_with fail
      go_loopw [9] (fun bt wr => ∃ t : Nat, t ≤ 64 ∧ bt = .int .u64 ((2 ^ t / 2 : Nat) : Int) ∧ Below w.heap.size w wr ∧ Blk wr w.heap.size 66 #[.int .u64 18446744069414583343, .int .u64 18446744073709551615, .int .u64 18446744073709551615, .int .u64 18446744073709551615, .int .u64 4294968273, .int .u64 0, .int .u64 0] ∧ Blk wr (w.heap.size + 1) 62 #[.int .u64 (x0 : Int), .int .u64 (x1 : Int), .int .u64 (x2 : Int), .int .u64 (x3 : Int)] ∧ Blk wr (w.heap.size + 2) 62 #[.int .u64 (e0 : Int), .int .u64 (e1 : Int), .int .u64 (e2 : Int), .int .u64 (e3 : Int)] ∧ Blk wr (w.heap.size + 3) 62 #[.int .u64 0, .int .u64 0, .int .u64 0, .int .u64 0] ∧ Blk wr w1.heap.size 62 (fcs (pw x (e / 2 ^ (64 * 3 + t))))) (fun bt _ => (intOf bt).toNat)
      case atStart => exact ⟨64, by omega, rfl, hb, BM, BX, BE, BR, BP⟩
      case round =>
        clear hb BM BX BE BR BP
        obtain ⟨t, ht, rfl, hb, BM, BX, BE, BR, BP⟩ := hrel
        by_cases h0 : t = 0
        · subst h0
          go_wp2
          refine ⟨⟨hb, BM, BX, BE, BR, Lib.hid (.inr (.inl (⟨rfl, BP⟩)))⟩, by decide⟩
        · obtain ⟨s, hs⟩ : ∃ s, t = s + 1 := ⟨t - 1, by omega⟩
          subst hs
          have hbt : 2 ^ (s + 1) / 2 = 2 ^ s := by rw [Nat.pow_succ]; omega
          rw [hbt]
          obtain ⟨bt, hbe⟩ : ∃ bt, bt = 2 ^ s := ⟨_, rfl⟩
          have hpos : 0 < bt := by rw [hbe]; exact Nat.two_pow_pos s
          have hblt : bt < 18446744073709551616 := by
            have h63 : 2 ^ s ≤ 2 ^ 63 := Nat.pow_le_pow_right (by omega) (by omega)
            rw [hbe]
            omega
          have hhalf : bt / 2 = 2 ^ s / 2 := by rw [hbe]
          obtain ⟨m, hm, hmz⟩ := and_bit e3 s HB.out.2.2.2 (by omega)
          rw [← hbe] at hm
          have hd := HN.out.2.2.2 s (by omega)
          obtain ⟨r, hr⟩ : ∃ r, r = pw x (e / 2 ^ (64 * 3 + (s + 1))) := ⟨_, rfl⟩
          obtain ⟨q, hq⟩ : ∃ q, q = mulP r r := ⟨_, rfl⟩
          obtain ⟨v, hv⟩ : ∃ v, v = mulP q x := ⟨_, rfl⟩
          have hq2 : q = pw x (2 * (e / 2 ^ (64 * 3 + (s + 1)))) := by rw [hq, hr, pw_sq]
          have lr : r < 115792089237316195423570985008687907853269984665640564039457584007913129639936 := by rw [hr]; exact pw_lt _ _
          have lq : q < 115792089237316195423570985008687907853269984665640564039457584007913129639936 := by rw [hq]; exact mulP_lt _ _
          have cS : ∀ w, Calls Try.prog 75 #[.agg #[.int .u64 18446744069414583343, .int .u64 18446744073709551615, .int .u64 18446744073709551615, .int .u64 18446744073709551615, .int .u64 4294968273, .int .u64 0, .int .u64 0], fv r, fv r] w fun e w' => e = .returned (fv q) ∧ Below w.heap.size w w' := by
            intro w; rw [hq]; exact mulR_any w r r lr lr
          have cX : ∀ w, Calls Try.prog 75 #[.agg #[.int .u64 18446744069414583343, .int .u64 18446744073709551615, .int .u64 18446744073709551615, .int .u64 18446744073709551615, .int .u64 4294968273, .int .u64 0, .int .u64 0], fv q, fv x] w fun e w' => e = .returned (fv v) ∧ Below w.heap.size w w' := by
            intro w; rw [hv]; exact mulR_any w q x lq HX.out
          have hend0 : m = 0 → q = pw x (e / 2 ^ (64 * 3 + s)) := fun h => by
            rw [hq2, hd, hmz.1 h]; rfl
          have hend1 : m ≠ 0 → v = pw x (e / 2 ^ (64 * 3 + s)) := fun h => by
            have hb1 : e3 / 2 ^ s % 2 = 1 := by have := mt hmz.2 h; omega
            rw [hv, hq2, pw_mul, hd, hb1]
          have HE := Lib.hid (And.intro hend0 (And.intro hend1 (And.intro hhalf hbe)))
          rw [← hr] at BP
          have hgt : (bt : Int) > 0 := by omega
          rw [← hbe]
          clear hr hq hv hq2 lr lq hend0 hend1 hhalf hbe hd hmz hbt
          go_wp2_with (first | ((with_reducible refine here_load (d := some 19) ?_); refine wpList_load_blk rfl _ _ rfl w.heap.size rfl _ _ _ (BM) Try.underlying66 rfl (by kernel_rfl) ?_) | ((with_reducible refine here_load (d := some 20) ?_); refine wpList_load_fv rfl _ _ rfl (w1.heap.size) rfl (r) _ _ _ (BP) (fv_fcs r) Try.underlying62 rfl (by kernel_rfl) ?_) | ((with_reducible refine here_load (d := some 21) ?_); refine wpList_load_fv rfl _ _ rfl (w1.heap.size) rfl (r) _ _ _ (BP) (fv_fcs r) Try.underlying62 rfl (by kernel_rfl) ?_))
          refine (cS _).mono ?_
          rintro ez u ⟨rfl, gu⟩
          have EM := Gr.blk gu BM
          have EX := Gr.blk gu BX
          have EE := Gr.blk gu BE
          have ER := Gr.blk gu BR
          have EP := Gr.blk gu BP
          have hbu := Below.gr hb gu
          clear gu cS BM BX BE BR BP hb
          have lu := EP.lt
          by_cases hm0 : m = 0
          · have hq0 := Lib.hid (HE.out.1 hm0)
            subst hm0
            clear cX
            go_wp2_with (first | ((with_reducible refine here_store ?_); refine wpList_store_blk rfl _ _ _ rfl (w1.heap.size) (fcs (q)) rfl rfl _ _ (EP) (by kernel_rfl) (by rfl) (fcs_one _) ?_; intro uz hLz hqz hKz; have FM := hKz _ (by omega) _ _ EM; have FXx := hKz _ (by omega) _ _ EX; have FE_ := hKz _ (by omega) _ _ EE; have FR := hKz _ (by omega) _ _ ER; have hbz := hbu.trans (hqz _ (by omega)); have pc : uz.cell? ⟨w.heap.size + 2, 3, none⟩ = some (.int .u64 (e3 : Int)) := FE_.cell 3))
            go_roundw
            case rel => exact ⟨s, by omega, by rw [← HE.out.2.2.1]; congr 1 <;> omega, hbz, FM, FXx, FE_, FR, Blk.eq_ hLz (by rw [hq0.out])⟩
            case measure => simp [intOf]; omega
          · have hq1 := Lib.hid (HE.out.2.1 hm0)
            have hmi : ¬ (m : Int) = 0 := by omega
            go_wp2_with (first | ((with_reducible refine here_store ?_); refine wpList_store_blk rfl _ _ _ rfl (w1.heap.size) (fcs (q)) rfl rfl _ _ (EP) (by kernel_rfl) (by rfl) (fcs_one _) ?_; intro uz hLz hqz hKz; have FM := hKz _ (by omega) _ _ EM; have FXx := hKz _ (by omega) _ _ EX; have FE_ := hKz _ (by omega) _ _ EE; have FR := hKz _ (by omega) _ _ ER; have hbz := hbu.trans (hqz _ (by omega)); have pc : uz.cell? ⟨w.heap.size + 2, 3, none⟩ = some (.int .u64 (e3 : Int)) := FE_.cell 3) | ((with_reducible refine here_load (d := some 29) ?_); refine wpList_load_blk rfl _ _ rfl w.heap.size rfl _ _ _ (FM) Try.underlying66 rfl (by kernel_rfl) ?_) | ((with_reducible refine here_load (d := some 30) ?_); refine wpList_load_fv rfl _ _ rfl (w1.heap.size) rfl (q) _ _ _ (hLz) (fv_fcs q) Try.underlying62 rfl (by kernel_rfl) ?_) | ((with_reducible refine here_load (d := some 31) ?_); refine wpList_load_fv rfl _ _ rfl (w.heap.size + 1) rfl (x) _ _ _ (FXx) (FX.out) Try.underlying62 rfl (by kernel_rfl) ?_))
            refine (cX _).mono ?_
            rintro ez u2 ⟨rfl, gu⟩
            have GM := Gr.blk gu FM
            have GX := Gr.blk gu FXx
            have GE := Gr.blk gu FE_
            have GR := Gr.blk gu FR
            have GP := Gr.blk gu hLz
            have hbg := Below.gr hbz gu
            clear gu cX FM FXx FE_ FR hbz
            go_wp2_with (first | ((with_reducible refine here_store ?_); refine wpList_store_blk rfl _ _ _ rfl (w1.heap.size) (fcs (v)) rfl rfl _ _ (GP) (by kernel_rfl) (by rfl) (fcs_one _) ?_; intro uy hLy hqy hKy; have JM := hKy _ (by omega) _ _ GM; have JX := hKy _ (by omega) _ _ GX; have JE := hKy _ (by omega) _ _ GE; have JR := hKy _ (by omega) _ _ GR; have hby := hbg.trans (hqy _ (by omega))))
            go_roundw
            case rel => exact ⟨s, by omega, by rw [← HE.out.2.2.1]; congr 1 <;> omega, hby, JM, JX, JE, JR, Blk.eq_ hLy (by rw [hq1.out])⟩
            case measure => simp [intOf]; omega
    · clear HI
      go_wp2_with fail
      go_loopw [9] (fun bt wr => ∃ t : Nat, t ≤ 64 ∧ bt = .int .u64 ((2 ^ t / 2 : Nat) : Int) ∧ Below w.heap.size w wr ∧ Blk wr w.heap.size 66 #[.int .u64 18446744069414583343, .int .u64 18446744073709551615, .int .u64 18446744073709551615, .int .u64 18446744073709551615, .int .u64 4294968273, .int .u64 0, .int .u64 0] ∧ Blk wr (w.heap.size + 1) 62 #[.int .u64 (x0 : Int), .int .u64 (x1 : Int), .int .u64 (x2 : Int), .int .u64 (x3 : Int)] ∧ Blk wr (w.heap.size + 2) 62 #[.int .u64 (e0 : Int), .int .u64 (e1 : Int), .int .u64 (e2 : Int), .int .u64 (e3 : Int)] ∧ Blk wr (w.heap.size + 3) 62 #[.int .u64 0, .int .u64 0, .int .u64 0, .int .u64 0] ∧ Blk wr w1.heap.size 62 (fcs (pw x (e / 2 ^ (64 * 2 + t))))) (fun bt _ => (intOf bt).toNat)
      case atStart => exact ⟨64, by omega, rfl, hb, BM, BX, BE, BR, BP⟩
      case round =>
        clear hb BM BX BE BR BP
        obtain ⟨t, ht, rfl, hb, BM, BX, BE, BR, BP⟩ := hrel
        by_cases h0 : t = 0
        · subst h0
          go_wp2
          refine ⟨⟨hb, BM, BX, BE, BR, Lib.hid (.inr (.inr (.inl (⟨rfl, BP⟩))))⟩, by decide⟩
        · obtain ⟨s, hs⟩ : ∃ s, t = s + 1 := ⟨t - 1, by omega⟩
          subst hs
          have hbt : 2 ^ (s + 1) / 2 = 2 ^ s := by rw [Nat.pow_succ]; omega
          rw [hbt]
          obtain ⟨bt, hbe⟩ : ∃ bt, bt = 2 ^ s := ⟨_, rfl⟩
          have hpos : 0 < bt := by rw [hbe]; exact Nat.two_pow_pos s
          have hblt : bt < 18446744073709551616 := by
            have h63 : 2 ^ s ≤ 2 ^ 63 := Nat.pow_le_pow_right (by omega) (by omega)
            rw [hbe]
            omega
          have hhalf : bt / 2 = 2 ^ s / 2 := by rw [hbe]
          obtain ⟨m, hm, hmz⟩ := and_bit e2 s HB.out.2.2.1 (by omega)
          rw [← hbe] at hm
          have hd := HN.out.2.2.1 s (by omega)
          obtain ⟨r, hr⟩ : ∃ r, r = pw x (e / 2 ^ (64 * 2 + (s + 1))) := ⟨_, rfl⟩
          obtain ⟨q, hq⟩ : ∃ q, q = mulP r r := ⟨_, rfl⟩
          obtain ⟨v, hv⟩ : ∃ v, v = mulP q x := ⟨_, rfl⟩
          have hq2 : q = pw x (2 * (e / 2 ^ (64 * 2 + (s + 1)))) := by rw [hq, hr, pw_sq]
          have lr : r < 115792089237316195423570985008687907853269984665640564039457584007913129639936 := by rw [hr]; exact pw_lt _ _
          have lq : q < 115792089237316195423570985008687907853269984665640564039457584007913129639936 := by rw [hq]; exact mulP_lt _ _
          have cS : ∀ w, Calls Try.prog 75 #[.agg #[.int .u64 18446744069414583343, .int .u64 18446744073709551615, .int .u64 18446744073709551615, .int .u64 18446744073709551615, .int .u64 4294968273, .int .u64 0, .int .u64 0], fv r, fv r] w fun e w' => e = .returned (fv q) ∧ Below w.heap.size w w' := by
            intro w; rw [hq]; exact mulR_any w r r lr lr
          have cX : ∀ w, Calls Try.prog 75 #[.agg #[.int .u64 18446744069414583343, .int .u64 18446744073709551615, .int .u64 18446744073709551615, .int .u64 18446744073709551615, .int .u64 4294968273, .int .u64 0, .int .u64 0], fv q, fv x] w fun e w' => e = .returned (fv v) ∧ Below w.heap.size w w' := by
            intro w; rw [hv]; exact mulR_any w q x lq HX.out
          have hend0 : m = 0 → q = pw x (e / 2 ^ (64 * 2 + s)) := fun h => by
            rw [hq2, hd, hmz.1 h]; rfl
          have hend1 : m ≠ 0 → v = pw x (e / 2 ^ (64 * 2 + s)) := fun h => by
            have hb1 : e2 / 2 ^ s % 2 = 1 := by have := mt hmz.2 h; omega
            rw [hv, hq2, pw_mul, hd, hb1]
          have HE := Lib.hid (And.intro hend0 (And.intro hend1 (And.intro hhalf hbe)))
          rw [← hr] at BP
          have hgt : (bt : Int) > 0 := by omega
          rw [← hbe]
          clear hr hq hv hq2 lr lq hend0 hend1 hhalf hbe hd hmz hbt
          go_wp2_with (first | ((with_reducible refine here_load (d := some 19) ?_); refine wpList_load_blk rfl _ _ rfl w.heap.size rfl _ _ _ (BM) Try.underlying66 rfl (by kernel_rfl) ?_) | ((with_reducible refine here_load (d := some 20) ?_); refine wpList_load_fv rfl _ _ rfl (w1.heap.size) rfl (r) _ _ _ (BP) (fv_fcs r) Try.underlying62 rfl (by kernel_rfl) ?_) | ((with_reducible refine here_load (d := some 21) ?_); refine wpList_load_fv rfl _ _ rfl (w1.heap.size) rfl (r) _ _ _ (BP) (fv_fcs r) Try.underlying62 rfl (by kernel_rfl) ?_))
          refine (cS _).mono ?_
          rintro ez u ⟨rfl, gu⟩
          have EM := Gr.blk gu BM
          have EX := Gr.blk gu BX
          have EE := Gr.blk gu BE
          have ER := Gr.blk gu BR
          have EP := Gr.blk gu BP
          have hbu := Below.gr hb gu
          clear gu cS BM BX BE BR BP hb
          have lu := EP.lt
          by_cases hm0 : m = 0
          · have hq0 := Lib.hid (HE.out.1 hm0)
            subst hm0
            clear cX
            go_wp2_with (first | ((with_reducible refine here_store ?_); refine wpList_store_blk rfl _ _ _ rfl (w1.heap.size) (fcs (q)) rfl rfl _ _ (EP) (by kernel_rfl) (by rfl) (fcs_one _) ?_; intro uz hLz hqz hKz; have FM := hKz _ (by omega) _ _ EM; have FXx := hKz _ (by omega) _ _ EX; have FE_ := hKz _ (by omega) _ _ EE; have FR := hKz _ (by omega) _ _ ER; have hbz := hbu.trans (hqz _ (by omega)); have pc : uz.cell? ⟨w.heap.size + 2, 2, none⟩ = some (.int .u64 (e2 : Int)) := FE_.cell 2))
            go_roundw
            case rel => exact ⟨s, by omega, by rw [← HE.out.2.2.1]; congr 1 <;> omega, hbz, FM, FXx, FE_, FR, Blk.eq_ hLz (by rw [hq0.out])⟩
            case measure => simp [intOf]; omega
          · have hq1 := Lib.hid (HE.out.2.1 hm0)
            have hmi : ¬ (m : Int) = 0 := by omega
            go_wp2_with (first | ((with_reducible refine here_store ?_); refine wpList_store_blk rfl _ _ _ rfl (w1.heap.size) (fcs (q)) rfl rfl _ _ (EP) (by kernel_rfl) (by rfl) (fcs_one _) ?_; intro uz hLz hqz hKz; have FM := hKz _ (by omega) _ _ EM; have FXx := hKz _ (by omega) _ _ EX; have FE_ := hKz _ (by omega) _ _ EE; have FR := hKz _ (by omega) _ _ ER; have hbz := hbu.trans (hqz _ (by omega)); have pc : uz.cell? ⟨w.heap.size + 2, 2, none⟩ = some (.int .u64 (e2 : Int)) := FE_.cell 2) | ((with_reducible refine here_load (d := some 29) ?_); refine wpList_load_blk rfl _ _ rfl w.heap.size rfl _ _ _ (FM) Try.underlying66 rfl (by kernel_rfl) ?_) | ((with_reducible refine here_load (d := some 30) ?_); refine wpList_load_fv rfl _ _ rfl (w1.heap.size) rfl (q) _ _ _ (hLz) (fv_fcs q) Try.underlying62 rfl (by kernel_rfl) ?_) | ((with_reducible refine here_load (d := some 31) ?_); refine wpList_load_fv rfl _ _ rfl (w.heap.size + 1) rfl (x) _ _ _ (FXx) (FX.out) Try.underlying62 rfl (by kernel_rfl) ?_))
            refine (cX _).mono ?_
            rintro ez u2 ⟨rfl, gu⟩
            have GM := Gr.blk gu FM
            have GX := Gr.blk gu FXx
            have GE := Gr.blk gu FE_
            have GR := Gr.blk gu FR
            have GP := Gr.blk gu hLz
            have hbg := Below.gr hbz gu
            clear gu cX FM FXx FE_ FR hbz
            go_wp2_with (first | ((with_reducible refine here_store ?_); refine wpList_store_blk rfl _ _ _ rfl (w1.heap.size) (fcs (v)) rfl rfl _ _ (GP) (by kernel_rfl) (by rfl) (fcs_one _) ?_; intro uy hLy hqy hKy; have JM := hKy _ (by omega) _ _ GM; have JX := hKy _ (by omega) _ _ GX; have JE := hKy _ (by omega) _ _ GE; have JR := hKy _ (by omega) _ _ GR; have hby := hbg.trans (hqy _ (by omega))))
            go_roundw
            case rel => exact ⟨s, by omega, by rw [← HE.out.2.2.1]; congr 1 <;> omega, hby, JM, JX, JE, JR, Blk.eq_ hLy (by rw [hq1.out])⟩
            case measure => simp [intOf]; omega
    · clear HI
      go_wp2_with fail
      go_loopw [9] (fun bt wr => ∃ t : Nat, t ≤ 64 ∧ bt = .int .u64 ((2 ^ t / 2 : Nat) : Int) ∧ Below w.heap.size w wr ∧ Blk wr w.heap.size 66 #[.int .u64 18446744069414583343, .int .u64 18446744073709551615, .int .u64 18446744073709551615, .int .u64 18446744073709551615, .int .u64 4294968273, .int .u64 0, .int .u64 0] ∧ Blk wr (w.heap.size + 1) 62 #[.int .u64 (x0 : Int), .int .u64 (x1 : Int), .int .u64 (x2 : Int), .int .u64 (x3 : Int)] ∧ Blk wr (w.heap.size + 2) 62 #[.int .u64 (e0 : Int), .int .u64 (e1 : Int), .int .u64 (e2 : Int), .int .u64 (e3 : Int)] ∧ Blk wr (w.heap.size + 3) 62 #[.int .u64 0, .int .u64 0, .int .u64 0, .int .u64 0] ∧ Blk wr w1.heap.size 62 (fcs (pw x (e / 2 ^ (64 * 1 + t))))) (fun bt _ => (intOf bt).toNat)
      case atStart => exact ⟨64, by omega, rfl, hb, BM, BX, BE, BR, BP⟩
      case round =>
        clear hb BM BX BE BR BP
        obtain ⟨t, ht, rfl, hb, BM, BX, BE, BR, BP⟩ := hrel
        by_cases h0 : t = 0
        · subst h0
          go_wp2
          refine ⟨⟨hb, BM, BX, BE, BR, Lib.hid (.inr (.inr (.inr (.inl (⟨rfl, BP⟩)))))⟩, by decide⟩
        · obtain ⟨s, hs⟩ : ∃ s, t = s + 1 := ⟨t - 1, by omega⟩
          subst hs
          have hbt : 2 ^ (s + 1) / 2 = 2 ^ s := by rw [Nat.pow_succ]; omega
          rw [hbt]
          obtain ⟨bt, hbe⟩ : ∃ bt, bt = 2 ^ s := ⟨_, rfl⟩
          have hpos : 0 < bt := by rw [hbe]; exact Nat.two_pow_pos s
          have hblt : bt < 18446744073709551616 := by
            have h63 : 2 ^ s ≤ 2 ^ 63 := Nat.pow_le_pow_right (by omega) (by omega)
            rw [hbe]
            omega
          have hhalf : bt / 2 = 2 ^ s / 2 := by rw [hbe]
          obtain ⟨m, hm, hmz⟩ := and_bit e1 s HB.out.2.1 (by omega)
          rw [← hbe] at hm
          have hd := HN.out.2.1 s (by omega)
          obtain ⟨r, hr⟩ : ∃ r, r = pw x (e / 2 ^ (64 * 1 + (s + 1))) := ⟨_, rfl⟩
          obtain ⟨q, hq⟩ : ∃ q, q = mulP r r := ⟨_, rfl⟩
          obtain ⟨v, hv⟩ : ∃ v, v = mulP q x := ⟨_, rfl⟩
          have hq2 : q = pw x (2 * (e / 2 ^ (64 * 1 + (s + 1)))) := by rw [hq, hr, pw_sq]
          have lr : r < 115792089237316195423570985008687907853269984665640564039457584007913129639936 := by rw [hr]; exact pw_lt _ _
          have lq : q < 115792089237316195423570985008687907853269984665640564039457584007913129639936 := by rw [hq]; exact mulP_lt _ _
          have cS : ∀ w, Calls Try.prog 75 #[.agg #[.int .u64 18446744069414583343, .int .u64 18446744073709551615, .int .u64 18446744073709551615, .int .u64 18446744073709551615, .int .u64 4294968273, .int .u64 0, .int .u64 0], fv r, fv r] w fun e w' => e = .returned (fv q) ∧ Below w.heap.size w w' := by
            intro w; rw [hq]; exact mulR_any w r r lr lr
          have cX : ∀ w, Calls Try.prog 75 #[.agg #[.int .u64 18446744069414583343, .int .u64 18446744073709551615, .int .u64 18446744073709551615, .int .u64 18446744073709551615, .int .u64 4294968273, .int .u64 0, .int .u64 0], fv q, fv x] w fun e w' => e = .returned (fv v) ∧ Below w.heap.size w w' := by
            intro w; rw [hv]; exact mulR_any w q x lq HX.out
          have hend0 : m = 0 → q = pw x (e / 2 ^ (64 * 1 + s)) := fun h => by
            rw [hq2, hd, hmz.1 h]; rfl
          have hend1 : m ≠ 0 → v = pw x (e / 2 ^ (64 * 1 + s)) := fun h => by
            have hb1 : e1 / 2 ^ s % 2 = 1 := by have := mt hmz.2 h; omega
            rw [hv, hq2, pw_mul, hd, hb1]
          have HE := Lib.hid (And.intro hend0 (And.intro hend1 (And.intro hhalf hbe)))
          rw [← hr] at BP
          have hgt : (bt : Int) > 0 := by omega
          rw [← hbe]
          clear hr hq hv hq2 lr lq hend0 hend1 hhalf hbe hd hmz hbt
          go_wp2_with (first | ((with_reducible refine here_load (d := some 19) ?_); refine wpList_load_blk rfl _ _ rfl w.heap.size rfl _ _ _ (BM) Try.underlying66 rfl (by kernel_rfl) ?_) | ((with_reducible refine here_load (d := some 20) ?_); refine wpList_load_fv rfl _ _ rfl (w1.heap.size) rfl (r) _ _ _ (BP) (fv_fcs r) Try.underlying62 rfl (by kernel_rfl) ?_) | ((with_reducible refine here_load (d := some 21) ?_); refine wpList_load_fv rfl _ _ rfl (w1.heap.size) rfl (r) _ _ _ (BP) (fv_fcs r) Try.underlying62 rfl (by kernel_rfl) ?_))
          refine (cS _).mono ?_
          rintro ez u ⟨rfl, gu⟩
          have EM := Gr.blk gu BM
          have EX := Gr.blk gu BX
          have EE := Gr.blk gu BE
          have ER := Gr.blk gu BR
          have EP := Gr.blk gu BP
          have hbu := Below.gr hb gu
          clear gu cS BM BX BE BR BP hb
          have lu := EP.lt
          by_cases hm0 : m = 0
          · have hq0 := Lib.hid (HE.out.1 hm0)
            subst hm0
            clear cX
            go_wp2_with (first | ((with_reducible refine here_store ?_); refine wpList_store_blk rfl _ _ _ rfl (w1.heap.size) (fcs (q)) rfl rfl _ _ (EP) (by kernel_rfl) (by rfl) (fcs_one _) ?_; intro uz hLz hqz hKz; have FM := hKz _ (by omega) _ _ EM; have FXx := hKz _ (by omega) _ _ EX; have FE_ := hKz _ (by omega) _ _ EE; have FR := hKz _ (by omega) _ _ ER; have hbz := hbu.trans (hqz _ (by omega)); have pc : uz.cell? ⟨w.heap.size + 2, 1, none⟩ = some (.int .u64 (e1 : Int)) := FE_.cell 1))
            go_roundw
            case rel => exact ⟨s, by omega, by rw [← HE.out.2.2.1]; congr 1 <;> omega, hbz, FM, FXx, FE_, FR, Blk.eq_ hLz (by rw [hq0.out])⟩
            case measure => simp [intOf]; omega
          · have hq1 := Lib.hid (HE.out.2.1 hm0)
            have hmi : ¬ (m : Int) = 0 := by omega
            go_wp2_with (first | ((with_reducible refine here_store ?_); refine wpList_store_blk rfl _ _ _ rfl (w1.heap.size) (fcs (q)) rfl rfl _ _ (EP) (by kernel_rfl) (by rfl) (fcs_one _) ?_; intro uz hLz hqz hKz; have FM := hKz _ (by omega) _ _ EM; have FXx := hKz _ (by omega) _ _ EX; have FE_ := hKz _ (by omega) _ _ EE; have FR := hKz _ (by omega) _ _ ER; have hbz := hbu.trans (hqz _ (by omega)); have pc : uz.cell? ⟨w.heap.size + 2, 1, none⟩ = some (.int .u64 (e1 : Int)) := FE_.cell 1) | ((with_reducible refine here_load (d := some 29) ?_); refine wpList_load_blk rfl _ _ rfl w.heap.size rfl _ _ _ (FM) Try.underlying66 rfl (by kernel_rfl) ?_) | ((with_reducible refine here_load (d := some 30) ?_); refine wpList_load_fv rfl _ _ rfl (w1.heap.size) rfl (q) _ _ _ (hLz) (fv_fcs q) Try.underlying62 rfl (by kernel_rfl) ?_) | ((with_reducible refine here_load (d := some 31) ?_); refine wpList_load_fv rfl _ _ rfl (w.heap.size + 1) rfl (x) _ _ _ (FXx) (FX.out) Try.underlying62 rfl (by kernel_rfl) ?_))
            refine (cX _).mono ?_
            rintro ez u2 ⟨rfl, gu⟩
            have GM := Gr.blk gu FM
            have GX := Gr.blk gu FXx
            have GE := Gr.blk gu FE_
            have GR := Gr.blk gu FR
            have GP := Gr.blk gu hLz
            have hbg := Below.gr hbz gu
            clear gu cX FM FXx FE_ FR hbz
            go_wp2_with (first | ((with_reducible refine here_store ?_); refine wpList_store_blk rfl _ _ _ rfl (w1.heap.size) (fcs (v)) rfl rfl _ _ (GP) (by kernel_rfl) (by rfl) (fcs_one _) ?_; intro uy hLy hqy hKy; have JM := hKy _ (by omega) _ _ GM; have JX := hKy _ (by omega) _ _ GX; have JE := hKy _ (by omega) _ _ GE; have JR := hKy _ (by omega) _ _ GR; have hby := hbg.trans (hqy _ (by omega))))
            go_roundw
            case rel => exact ⟨s, by omega, by rw [← HE.out.2.2.1]; congr 1 <;> omega, hby, JM, JX, JE, JR, Blk.eq_ hLy (by rw [hq1.out])⟩
            case measure => simp [intOf]; omega
    · clear HI
      go_wp2_with fail
      go_loopw [9] (fun bt wr => ∃ t : Nat, t ≤ 64 ∧ bt = .int .u64 ((2 ^ t / 2 : Nat) : Int) ∧ Below w.heap.size w wr ∧ Blk wr w.heap.size 66 #[.int .u64 18446744069414583343, .int .u64 18446744073709551615, .int .u64 18446744073709551615, .int .u64 18446744073709551615, .int .u64 4294968273, .int .u64 0, .int .u64 0] ∧ Blk wr (w.heap.size + 1) 62 #[.int .u64 (x0 : Int), .int .u64 (x1 : Int), .int .u64 (x2 : Int), .int .u64 (x3 : Int)] ∧ Blk wr (w.heap.size + 2) 62 #[.int .u64 (e0 : Int), .int .u64 (e1 : Int), .int .u64 (e2 : Int), .int .u64 (e3 : Int)] ∧ Blk wr (w.heap.size + 3) 62 #[.int .u64 0, .int .u64 0, .int .u64 0, .int .u64 0] ∧ Blk wr w1.heap.size 62 (fcs (pw x (e / 2 ^ (64 * 0 + t))))) (fun bt _ => (intOf bt).toNat)
      case atStart => exact ⟨64, by omega, rfl, hb, BM, BX, BE, BR, BP⟩
      case round =>
        clear hb BM BX BE BR BP
        obtain ⟨t, ht, rfl, hb, BM, BX, BE, BR, BP⟩ := hrel
        by_cases h0 : t = 0
        · subst h0
          go_wp2
          refine ⟨⟨hb, BM, BX, BE, BR, Lib.hid (.inr (.inr (.inr (.inr (⟨rfl, BP⟩)))))⟩, by decide⟩
        · obtain ⟨s, hs⟩ : ∃ s, t = s + 1 := ⟨t - 1, by omega⟩
          subst hs
          have hbt : 2 ^ (s + 1) / 2 = 2 ^ s := by rw [Nat.pow_succ]; omega
          rw [hbt]
          obtain ⟨bt, hbe⟩ : ∃ bt, bt = 2 ^ s := ⟨_, rfl⟩
          have hpos : 0 < bt := by rw [hbe]; exact Nat.two_pow_pos s
          have hblt : bt < 18446744073709551616 := by
            have h63 : 2 ^ s ≤ 2 ^ 63 := Nat.pow_le_pow_right (by omega) (by omega)
            rw [hbe]
            omega
          have hhalf : bt / 2 = 2 ^ s / 2 := by rw [hbe]
          obtain ⟨m, hm, hmz⟩ := and_bit e0 s HB.out.1 (by omega)
          rw [← hbe] at hm
          have hd := HN.out.1 s (by omega)
          obtain ⟨r, hr⟩ : ∃ r, r = pw x (e / 2 ^ (64 * 0 + (s + 1))) := ⟨_, rfl⟩
          obtain ⟨q, hq⟩ : ∃ q, q = mulP r r := ⟨_, rfl⟩
          obtain ⟨v, hv⟩ : ∃ v, v = mulP q x := ⟨_, rfl⟩
          have hq2 : q = pw x (2 * (e / 2 ^ (64 * 0 + (s + 1)))) := by rw [hq, hr, pw_sq]
          have lr : r < 115792089237316195423570985008687907853269984665640564039457584007913129639936 := by rw [hr]; exact pw_lt _ _
          have lq : q < 115792089237316195423570985008687907853269984665640564039457584007913129639936 := by rw [hq]; exact mulP_lt _ _
          have cS : ∀ w, Calls Try.prog 75 #[.agg #[.int .u64 18446744069414583343, .int .u64 18446744073709551615, .int .u64 18446744073709551615, .int .u64 18446744073709551615, .int .u64 4294968273, .int .u64 0, .int .u64 0], fv r, fv r] w fun e w' => e = .returned (fv q) ∧ Below w.heap.size w w' := by
            intro w; rw [hq]; exact mulR_any w r r lr lr
          have cX : ∀ w, Calls Try.prog 75 #[.agg #[.int .u64 18446744069414583343, .int .u64 18446744073709551615, .int .u64 18446744073709551615, .int .u64 18446744073709551615, .int .u64 4294968273, .int .u64 0, .int .u64 0], fv q, fv x] w fun e w' => e = .returned (fv v) ∧ Below w.heap.size w w' := by
            intro w; rw [hv]; exact mulR_any w q x lq HX.out
          have hend0 : m = 0 → q = pw x (e / 2 ^ (64 * 0 + s)) := fun h => by
            rw [hq2, hd, hmz.1 h]; rfl
          have hend1 : m ≠ 0 → v = pw x (e / 2 ^ (64 * 0 + s)) := fun h => by
            have hb1 : e0 / 2 ^ s % 2 = 1 := by have := mt hmz.2 h; omega
            rw [hv, hq2, pw_mul, hd, hb1]
          have HE := Lib.hid (And.intro hend0 (And.intro hend1 (And.intro hhalf hbe)))
          rw [← hr] at BP
          have hgt : (bt : Int) > 0 := by omega
          rw [← hbe]
          clear hr hq hv hq2 lr lq hend0 hend1 hhalf hbe hd hmz hbt
          go_wp2_with (first | ((with_reducible refine here_load (d := some 19) ?_); refine wpList_load_blk rfl _ _ rfl w.heap.size rfl _ _ _ (BM) Try.underlying66 rfl (by kernel_rfl) ?_) | ((with_reducible refine here_load (d := some 20) ?_); refine wpList_load_fv rfl _ _ rfl (w1.heap.size) rfl (r) _ _ _ (BP) (fv_fcs r) Try.underlying62 rfl (by kernel_rfl) ?_) | ((with_reducible refine here_load (d := some 21) ?_); refine wpList_load_fv rfl _ _ rfl (w1.heap.size) rfl (r) _ _ _ (BP) (fv_fcs r) Try.underlying62 rfl (by kernel_rfl) ?_))
          refine (cS _).mono ?_
          rintro ez u ⟨rfl, gu⟩
          have EM := Gr.blk gu BM
          have EX := Gr.blk gu BX
          have EE := Gr.blk gu BE
          have ER := Gr.blk gu BR
          have EP := Gr.blk gu BP
          have hbu := Below.gr hb gu
          clear gu cS BM BX BE BR BP hb
          have lu := EP.lt
          by_cases hm0 : m = 0
          · have hq0 := Lib.hid (HE.out.1 hm0)
            subst hm0
            clear cX
            go_wp2_with (first | ((with_reducible refine here_store ?_); refine wpList_store_blk rfl _ _ _ rfl (w1.heap.size) (fcs (q)) rfl rfl _ _ (EP) (by kernel_rfl) (by rfl) (fcs_one _) ?_; intro uz hLz hqz hKz; have FM := hKz _ (by omega) _ _ EM; have FXx := hKz _ (by omega) _ _ EX; have FE_ := hKz _ (by omega) _ _ EE; have FR := hKz _ (by omega) _ _ ER; have hbz := hbu.trans (hqz _ (by omega)); have pc : uz.cell? ⟨w.heap.size + 2, 0, none⟩ = some (.int .u64 (e0 : Int)) := FE_.cell 0))
            go_roundw
            case rel => exact ⟨s, by omega, by rw [← HE.out.2.2.1]; congr 1 <;> omega, hbz, FM, FXx, FE_, FR, Blk.eq_ hLz (by rw [hq0.out])⟩
            case measure => simp [intOf]; omega
          · have hq1 := Lib.hid (HE.out.2.1 hm0)
            have hmi : ¬ (m : Int) = 0 := by omega
            go_wp2_with (first | ((with_reducible refine here_store ?_); refine wpList_store_blk rfl _ _ _ rfl (w1.heap.size) (fcs (q)) rfl rfl _ _ (EP) (by kernel_rfl) (by rfl) (fcs_one _) ?_; intro uz hLz hqz hKz; have FM := hKz _ (by omega) _ _ EM; have FXx := hKz _ (by omega) _ _ EX; have FE_ := hKz _ (by omega) _ _ EE; have FR := hKz _ (by omega) _ _ ER; have hbz := hbu.trans (hqz _ (by omega)); have pc : uz.cell? ⟨w.heap.size + 2, 0, none⟩ = some (.int .u64 (e0 : Int)) := FE_.cell 0) | ((with_reducible refine here_load (d := some 29) ?_); refine wpList_load_blk rfl _ _ rfl w.heap.size rfl _ _ _ (FM) Try.underlying66 rfl (by kernel_rfl) ?_) | ((with_reducible refine here_load (d := some 30) ?_); refine wpList_load_fv rfl _ _ rfl (w1.heap.size) rfl (q) _ _ _ (hLz) (fv_fcs q) Try.underlying62 rfl (by kernel_rfl) ?_) | ((with_reducible refine here_load (d := some 31) ?_); refine wpList_load_fv rfl _ _ rfl (w.heap.size + 1) rfl (x) _ _ _ (FXx) (FX.out) Try.underlying62 rfl (by kernel_rfl) ?_))
            refine (cX _).mono ?_
            rintro ez u2 ⟨rfl, gu⟩
            have GM := Gr.blk gu FM
            have GX := Gr.blk gu FXx
            have GE := Gr.blk gu FE_
            have GR := Gr.blk gu FR
            have GP := Gr.blk gu hLz
            have hbg := Below.gr hbz gu
            clear gu cX FM FXx FE_ FR hbz
            go_wp2_with (first | ((with_reducible refine here_store ?_); refine wpList_store_blk rfl _ _ _ rfl (w1.heap.size) (fcs (v)) rfl rfl _ _ (GP) (by kernel_rfl) (by rfl) (fcs_one _) ?_; intro uy hLy hqy hKy; have JM := hKy _ (by omega) _ _ GM; have JX := hKy _ (by omega) _ _ GX; have JE := hKy _ (by omega) _ _ GE; have JR := hKy _ (by omega) _ _ GR; have hby := hbg.trans (hqy _ (by omega))))
            go_roundw
            case rel => exact ⟨s, by omega, by rw [← HE.out.2.2.1]; congr 1 <;> omega, hby, JM, JX, JE, JR, Blk.eq_ hLy (by rw [hq1.out])⟩
            case measure => simp [intOf]; omega
    · clear HI
      have BP0 : Blk wr w1.heap.size 62 (fcs (pw x e)) := by
        have h := BP
        rw [Nat.pow_zero, Nat.div_one] at h
        exact h
      obtain ⟨z, hz⟩ : ∃ z, z = pw x e := ⟨_, rfl⟩
      rw [← hz] at BP0
      have HZ := Lib.hid hz
      clear hz BP
      go_wp2_with (first | ((with_reducible refine here_load (d := some 33) ?_); refine wpList_load_fv rfl _ _ rfl (w1.heap.size) rfl (z) _ _ _ (BP0) (fv_fcs z) Try.underlying62 rfl (by kernel_rfl) ?_) | ((with_reducible refine here_store ?_); refine wpList_store_blk rfl _ _ _ rfl (w.heap.size + 3) (fcs (z)) rfl rfl _ _ (BR) (by kernel_rfl) (by rfl) (fcs_one _) ?_; intro vz hLz hqz hKz))
      exact bodyPost_ret (results_cell_row rfl _ _ (w.heap.size + 3) _ _ (0, 0) _ rfl hLz Try.underlying62 rfl (by kernel_rfl)) rfl ⟨by rw [← HZ.out]; rfl, hb.trans (hqz _ (by omega))⟩

set_option maxHeartbeats 2000000 in
set_option maxRecDepth 100000 in
theorem invRef_any (w : World) (x : Nat) (hx : x < 115792089237316195423570985008687907853269984665640564039457584007913129639936) : Calls Try.prog 55 #[.agg #[.int .u64 18446744069414583343, .int .u64 18446744073709551615, .int .u64 18446744073709551615, .int .u64 18446744073709551615, .int .u64 4294968273, .int .u64 0, .int .u64 0], fv x] w fun e w' => e = .returned (fv (pw x (115792089237316195423570985008687907853269984665640564039457584007908834671663 - 2))) ∧ Below w.heap.size w w' := by
  obtain ⟨p, hp⟩ : ∃ p, p = 115792089237316195423570985008687907853269984665640564039457584007908834671663 := ⟨_, rfl⟩
  obtain ⟨n2, h2⟩ : ∃ n, n = 2 := ⟨_, rfl⟩
  obtain ⟨q, hq⟩ : ∃ q, q = 115792089237316195423570985008687907853269984665640564039457584007908834671663 - 2 := ⟨_, rfl⟩
  obtain ⟨z, hz⟩ : ∃ z, z = pw x q := ⟨_, rfl⟩
  rw [← hq, ← hz]
  have cS : ∀ w, Calls Try.prog 86 #[.int .u64 2] w fun e w' => e = .returned (fv n2) ∧ Below w.heap.size w w' := fun w => small_at w n2 2 (by rw [h2]; rfl) (by omega)
  have cM : ∀ w, Calls Try.prog 88 #[fv p, fv n2] w fun e w' => e = .returned (fv q) ∧ Below w.heap.size w w' := fun w => minusR_at w p n2 q 0 rfl rfl (by omega) (by omega) (by omega) (by omega)
  have cP : ∀ w, Calls Try.prog 92 #[.agg #[.int .u64 18446744069414583343, .int .u64 18446744073709551615, .int .u64 18446744073709551615, .int .u64 18446744073709551615, .int .u64 4294968273, .int .u64 0, .int .u64 0], fv x, fv q] w fun e w' => e = .returned (fv z) ∧ Below w.heap.size w w' := by
    intro w; rw [hz]; exact power_any w x q hx (by omega)
  have FP : Hid (fv p = .agg #[.int .u64 18446744069414583343, .int .u64 18446744073709551615, .int .u64 18446744073709551615, .int .u64 18446744073709551615]) := Lib.hid (by rw [hp]; exact fv_P)
  obtain ⟨x0, x1, x2, x3, fx⟩ := words_fv x hx
  have FX := Lib.hid fx
  rw [fx]
  clear fx hx hp h2 hq hz
  go_enter Try.func55, Try.ntmps55
  go_wp2
  refine wp_region_G (fun j => j == 7) (by kernel_rfl) ?_
  try simp only [Act.put]
  refine wpAnyG_take 0 rfl (by kernel_rfl) (fun _ _ _ h => h) (YieldsG.load (by rfl) _ _ rfl w.heap.size 0 rfl ([.int .u64 18446744069414583343, .int .u64 18446744073709551615, .int .u64 18446744073709551615, .int .u64 18446744073709551615, .int .u64 4294968273, .int .u64 0, .int .u64 0]) _ (Blk.lt (((Blk.new w _ _).alloc _).alloc _)) (Blk.range (((Blk.new w _ _).alloc _).alloc _)) Try.underlying66 rfl (by kernel_rfl)) ?_
  try simp only [Act.put, List.setIfInBounds_toArray, List.set_cons_zero, List.set_cons_succ]
  refine wpAnyG_take 1 rfl (by kernel_rfl) (fun _ _ _ h => h) (YieldsG.loadF (by rfl) _ _ rfl (w.heap.size + 1) rfl (x) _ _ ((blk_new2 w _ _ _).alloc _) (FX.out) Try.underlying62 rfl (by kernel_rfl)) ?_
  try simp only [Act.put, List.setIfInBounds_toArray, List.set_cons_zero, List.set_cons_succ]
  refine wpAnyG_take 2 rfl (by kernel_rfl) (fun _ _ _ h => h) (YieldsG.pure (by rfl) (fun w9 _ => by go_simp; try with_reducible rfl)) ?_
  try simp only [Act.put, List.setIfInBounds_toArray, List.set_cons_zero, List.set_cons_succ]
  refine wpAnyG_take 3 rfl (by kernel_rfl) (fun _ _ _ h => h) (YieldsG.loadP (by rfl) _ _ rfl w.heap.size rfl p _ (Blk.lt (((Blk.new w _ _).alloc _).alloc _)) (mod_range (((Blk.new w _ _).alloc _).alloc _)) FP.out Try.underlying62 rfl (by kernel_rfl)) ?_
  try simp only [Act.put, List.setIfInBounds_toArray, List.set_cons_zero, List.set_cons_succ]
  refine wpAnyG_take 4 rfl (by kernel_rfl) (fun _ _ _ h => h) (YieldsG.call (v := fv n2) (by rfl) 86 _ (fun w9 => by go_simp; try (first | with_reducible rfl | rfl)) (fun w9 h9 => cS w9)) ?_
  try simp only [Act.put, List.setIfInBounds_toArray, List.set_cons_zero, List.set_cons_succ]
  refine wpAnyG_take 5 rfl (by kernel_rfl) (fun _ _ _ h => h) (YieldsG.call (v := fv q) (by rfl) 88 _ (fun w9 => by go_simp; try (first | with_reducible rfl | rfl)) (fun w9 h9 => cM w9)) ?_
  try simp only [Act.put, List.setIfInBounds_toArray, List.set_cons_zero, List.set_cons_succ]
  refine wpAnyG_take 6 rfl (by kernel_rfl) (fun _ _ _ h => h) (YieldsG.call (v := fv z) (by rfl) 92 _ (fun w9 => by go_simp; try (first | with_reducible rfl | rfl)) (fun w9 h9 => cP w9)) ?_
  try simp only [Act.put, List.setIfInBounds_toArray, List.set_cons_zero, List.set_cons_succ]
  refine wpAnyG_store 7 rfl (by kernel_rfl) (by rfl) _ _ _ rfl (w.heap.size + 2) (fcs (z)) rfl rfl _ _ (blk_new3 w _ _ _ _) (by kernel_rfl) (by rfl) (fcs_one _) rfl (fun w6 h6 w7 hB7 hL7 => ?_)
  try simp only [Act.put]
  refine wpAnyG_done (by kernel_rfl) (fun w8 h8 => ?_)
  have hfin := Gr.blk h8 hL7
  have hb9 := (Below.gr (below_alloc3 w _ _ _) h6).trans ((hB7 _ (by omega)).trans (Below.mono h8 (by have := hL7.lt; omega)))
  go_wp2
  exact bodyPost_ret (results_cell_row rfl _ _ (w.heap.size + 2) _ _ (0, 0) _ rfl hfin Try.underlying62 rfl (by kernel_rfl)) rfl ⟨rfl, hb9⟩
end Go.Proofs.Ytlojidnlkflpnaa
