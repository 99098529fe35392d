/-
  Texts of ours, put together: RefPow, FeOwn, RefBytes, CrvC, FeB32, FeRead, RefSqrt, RootNum, CrvD, CrvP, CrvQ, EcW, CrvR, SymF, SymG, CrvS, CrvT.
-/
import Derived.Test.YtfhcpdbahbbmaaaGreatDoorBS3
set_option linter.unusedVariables false
set_option linter.unusedSimpArgs false
section
namespace Go.Proofs.YtfhcpdbahbbmaaaGreatDoor
open Go.RowKit Go.Lib

def pw (x e : Nat) : Nat := x ^ e % pM
theorem pw_lt (x e : Nat) : pw x e < (2^256) := mod_lt _
theorem pw_zero (x : Nat) : pw x 0 = 1 := by unfold pw; rw [Nat.pow_zero]; decide
theorem pw_sq (x e : Nat) : mulP (pw x e) (pw x e) = pw x (2 * e) := by
 unfold mulP pw
 rw [← Nat.mul_mod, ← Nat.pow_add, Nat.two_mul]
theorem pw_mul (x e : Nat) : mulP (pw x e) x = pw x (e + 1) := by
 unfold mulP pw
 rw [Nat.mod_mul_mod, Nat.pow_succ]
theorem div_word2 (a r s : Nat) (hs : s ≤ 63) : (a + 18446744073709551616 * r) / 2 ^ s % 2 = a / 2 ^ s % 2 := by
 obtain ⟨u, hu⟩ : ∃ u, 2 ^ s * (2 * u) = 18446744073709551616 := by
  refine ⟨2 ^ (63 - s), ?_⟩
  have : 2 ^ s * 2 ^ (63 - s) = 2 ^ 63 := by rw [← Nat.pow_add]; congr 1; omega
  rw [show (2 : Nat) * 2 ^ (63 - s) = 2 ^ (63 - s) * 2 from Nat.mul_comm _ _, ← Nat.mul_assoc, this]
 rw [← hu, Nat.mul_assoc, Nat.add_mul_div_left _ _ (Nat.two_pow_pos s), Nat.mul_assoc, Nat.add_mul_mod_self_left]
theorem next_digit (e i s w r : Nat) (hz : e / 2 ^ (64 * i) = w + 18446744073709551616 * r) (hs : s ≤ 63) : e / 2 ^ (64 * i + s) = 2 * (e / 2 ^ (64 * i + (s + 1))) + w / 2 ^ s % 2 := by
 have h1 : e / 2 ^ (64 * i + s) % 2 = w / 2 ^ s % 2 := by
  rw [Nat.pow_add, ← Nat.div_div_eq_div_mul, hz, div_word2 w r s hs]
 have h2 : e / 2 ^ (64 * i + (s + 1)) = e / 2 ^ (64 * i + s) / 2 := by
  rw [← Nat.add_assoc, Nat.pow_succ, Nat.div_div_eq_div_mul]
 rw [h2, ← h1]
 omega
theorem and_bit (a s : Nat) (ha : a < 18446744073709551616) (hs : s ≤ 63) : ∃ m : Nat, bits .and .u64 (a : Int) ((2 ^ s : Nat) : Int) = (m : Int) ∧ (m = 0 ↔ a / 2 ^ s % 2 = 0) := by
 have h2 : 2 ^ s < 18446744073709551616 := by
  have : 2 ^ s ≤ 2 ^ 63 := Nat.pow_le_pow_right (by omega) hs
  omega
 refine ⟨a &&& 2 ^ s, bits_and_u64_nat a (2 ^ s) ha h2, ?_⟩
 have hb : a.testBit s = decide (a / 2 ^ s % 2 = 1) := Nat.testBit_eq_decide_div_mod_eq
 constructor
 ·intro h
  have h2 : (a &&& 2 ^ s).testBit s = false := by rw [h]; simp
  rw [Nat.testBit_and, Nat.testBit_two_pow_self, Bool.and_true, hb] at h2
  have h3 : ¬ a / 2 ^ s % 2 = 1 := by simpa using h2
  omega
 ·intro h
  have h2 : a.testBit s = false := by rw [hb]; simp; omega
  refine Nat.eq_of_testBit_eq fun j => ?_
  rw [Nat.testBit_and, Nat.zero_testBit, Nat.testBit_two_pow]
  by_cases hj : s = j
  ·subst hj; simp [h2]
  ·simp [hj]

theorem small_at (w : World) (n : Nat) (di : Int) (hdi : di = (n : Int)) (hn : n < 18446744073709551616) : Calls Tryz.prog 132 #[.int .u64 di] w fun e w' => e = .returned (fv n) ∧ Below w.heap.size w w' := by
 subst hdi
 rw [fv_small n hn]
 go_enter Tryz.func132, Tryz.ntmps132
 go_wp2
 exact bodyPost_ret (results_cell_row rfl _ _ w.heap.size _ _ (0, 0) _ rfl (heap_alloc_new w _) Tryz.underlying97 rfl (by kernel_rfl)) rfl ⟨rfl, (Below.refl _ _).alloc (Nat.le_refl _) _⟩

set_option maxHeartbeats 16000000 in
set_option maxRecDepth 100000 in
theorem power_any (w : World) (x e : Nat) (hx : x < (2^256)) (he : e < (2^256)) : Calls Tryz.prog 133 #[.agg #[.int .u64 18446744069414583343, .int .u64 18446744073709551615, .int .u64 18446744073709551615, .int .u64 18446744073709551615, .int .u64 4294968273, .int .u64 0, .int .u64 0], fv x, fv e] w fun ee w' => ee = .returned (fv (pw x e)) ∧ Below w.heap.size w w' := by
 obtain ⟨x0, x1, x2, x3, fx⟩ := words_fv x hx
 obtain ⟨e0, e1, e2, e3, b0, b1, b2, b3, ee, fe⟩ := words_of e he
 have n0 := fun s hs => next_digit e 0 s e0 (e1 + 18446744073709551616 * e2 + 340282366920938463463374607431768211456 * e3) (by omega) hs
 have n1 := fun s hs => next_digit e 1 s e1 (e2 + 18446744073709551616 * e3) (by omega) hs
 have n2 := fun s hs => next_digit e 2 s e2 e3 (by omega) hs
 have n3 := fun s hs => next_digit e 3 s e3 0 (by omega) hs
 have h256 : e / 2 ^ 256 = 0 := by omega
 have HN := Lib.hid (And.intro n0 (And.intro n1 (And.intro n2 n3)))
 have HB := Lib.hid (And.intro b0 (And.intro b1 (And.intro b2 b3)))
 have H0 := Lib.hid h256
 have FX := Lib.hid fx
 have HX := Lib.hid hx
 rw [fx, fe]
 clear fx fe ee hx he b0 b1 b2 b3 n0 n1 n2 n3 h256
 go_enter Tryz.func133, Tryz.ntmps133
 go_wp2_with fail
 obtain ⟨one, h1⟩ : ∃ one, one = 1 := ⟨_, rfl⟩
 refine (small_at _ one 1 (by rw [h1]; rfl) (by omega)).mono ?_
 rintro ez w1 ⟨rfl, g1⟩
 have BM : Blk w1 w.heap.size 102 #[.int .u64 18446744069414583343, .int .u64 18446744073709551615, .int .u64 18446744073709551615, .int .u64 18446744073709551615, .int .u64 4294968273, .int .u64 0, .int .u64 0] := Gr.blk g1 (((((Blk.new w _ _).alloc _).alloc _).alloc _))
 have BX : Blk w1 (w.heap.size + 1) 97 #[.int .u64 (x0 : Int), .int .u64 (x1 : Int), .int .u64 (x2 : Int), .int .u64 (x3 : Int)] := Gr.blk g1 ((((blk_new2 w _ _ _).alloc _).alloc _))
 have BE : Blk w1 (w.heap.size + 2) 97 #[.int .u64 (e0 : Int), .int .u64 (e1 : Int), .int .u64 (e2 : Int), .int .u64 (e3 : Int)] := Gr.blk g1 ((blk_new3 w _ _ _ _).alloc _)
 have BR : Blk w1 (w.heap.size + 3) 97 #[.int .u64 0, .int .u64 0, .int .u64 0, .int .u64 0] := Gr.blk g1 (blk_new4 w _ _ _ _ _)
 have hB := Below.gr (below_alloc4 w _ _ _ _) g1
 have sz : w.heap.size + 3 < w1.heap.size := BR.lt
 have H1 := Lib.hid h1
 clear g1 h1
 go_wp2_with (first | ((with_reducible refine here_store ?_); refine wpList_store_blk rfl _ _ _ rfl (w1.heap.size) (fcs (one)) rfl rfl _ _ (Blk.new w1 _ _) (by kernel_rfl) (by rfl) (fcs_one _) ?_; intro w2 hL2 hq2 hK2; have KM := hK2 _ (by omega) _ _ (BM.alloc _); have KX := hK2 _ (by omega) _ _ (BX.alloc _); have KE := hK2 _ (by omega) _ _ (BE.alloc _); have KR := hK2 _ (by omega) _ _ (BR.alloc _); have hB2 := (hB.alloc (by omega) _).trans (hq2 _ (by omega))))
 go_loopw [8] (fun i wr => Below w.heap.size w wr ∧ Blk wr w.heap.size 102 #[.int .u64 18446744069414583343, .int .u64 18446744073709551615, .int .u64 18446744073709551615, .int .u64 18446744073709551615, .int .u64 4294968273, .int .u64 0, .int .u64 0] ∧ Blk wr (w.heap.size + 1) 97 #[.int .u64 (x0 : Int), .int .u64 (x1 : Int), .int .u64 (x2 : Int), .int .u64 (x3 : Int)] ∧ Blk wr (w.heap.size + 2) 97 #[.int .u64 (e0 : Int), .int .u64 (e1 : Int), .int .u64 (e2 : Int), .int .u64 (e3 : Int)] ∧ Blk wr (w.heap.size + 3) 97 #[.int .u64 0, .int .u64 0, .int .u64 0, .int .u64 0] ∧ Hid ((i = .int .i64 3 ∧ Blk wr w1.heap.size 97 (fcs (pw x (e / 2 ^ 256)))) ∨ (i = .int .i64 2 ∧ Blk wr w1.heap.size 97 (fcs (pw x (e / 2 ^ 192)))) ∨ (i = .int .i64 1 ∧ Blk wr w1.heap.size 97 (fcs (pw x (e / 2 ^ 128)))) ∨ (i = .int .i64 0 ∧ Blk wr w1.heap.size 97 (fcs (pw x (e / 2 ^ 64)))) ∨ (i = .int .i64 (-1) ∧ Blk wr w1.heap.size 97 (fcs (pw x (e / 2 ^ 0)))))) (fun i _ => (intOf i + 1).toNat)
 case atStart => exact ⟨hB2, KM, KX, KE, KR, Lib.hid (.inl ⟨rfl, Blk.eq_ hL2 (by rw [H0.out, pw_zero, H1.out])⟩)⟩
 case round =>
  obtain ⟨hb, BM, BX, BE, BR, HI⟩ := hrel
  rcases HI.out with ⟨rfl, BP⟩ | ⟨rfl, BP⟩ | ⟨rfl, BP⟩ | ⟨rfl, BP⟩ | ⟨rfl, BP⟩
  ·clear HI
   go_wp2_with fail
   go_loopw [9] (fun bt wr => ∃ t : Nat, t ≤ 64 ∧ bt = .int .u64 ((2 ^ t / 2 : Nat) : Int) ∧ Below w.heap.size w wr ∧ Blk wr w.heap.size 102 #[.int .u64 18446744069414583343, .int .u64 18446744073709551615, .int .u64 18446744073709551615, .int .u64 18446744073709551615, .int .u64 4294968273, .int .u64 0, .int .u64 0] ∧ Blk wr (w.heap.size + 1) 97 #[.int .u64 (x0 : Int), .int .u64 (x1 : Int), .int .u64 (x2 : Int), .int .u64 (x3 : Int)] ∧ Blk wr (w.heap.size + 2) 97 #[.int .u64 (e0 : Int), .int .u64 (e1 : Int), .int .u64 (e2 : Int), .int .u64 (e3 : Int)] ∧ Blk wr (w.heap.size + 3) 97 #[.int .u64 0, .int .u64 0, .int .u64 0, .int .u64 0] ∧ Blk wr w1.heap.size 97 (fcs (pw x (e / 2 ^ (64 * 3 + t))))) (fun bt _ => (intOf bt).toNat)
   case atStart => exact ⟨64, by omega, rfl, hb, BM, BX, BE, BR, BP⟩
   case round =>
    clear hb BM BX BE BR BP
    obtain ⟨t, ht, rfl, hb, BM, BX, BE, BR, BP⟩ := hrel
    by_cases h0 : t = 0
    ·subst h0
     go_wp2
     refine ⟨⟨hb, BM, BX, BE, BR, Lib.hid (.inr (.inl (⟨rfl, BP⟩)))⟩, by decide⟩
    ·obtain ⟨s, hs⟩ : ∃ s, t = s + 1 := ⟨t - 1, by omega⟩
     subst hs
     have hbt : 2 ^ (s + 1) / 2 = 2 ^ s := by rw [Nat.pow_succ]; omega
     rw [hbt]
     obtain ⟨bt, hbe⟩ : ∃ bt, bt = 2 ^ s := ⟨_, rfl⟩
     have hpos : 0 < bt := by rw [hbe]; exact Nat.two_pow_pos s
     have hblt : bt < 18446744073709551616 := by
      have h63 : 2 ^ s ≤ 2 ^ 63 := Nat.pow_le_pow_right (by omega) (by omega)
      rw [hbe]
      omega
     have hhalf : bt / 2 = 2 ^ s / 2 := by rw [hbe]
     obtain ⟨m, hm, hmz⟩ := and_bit e3 s HB.out.2.2.2 (by omega)
     rw [← hbe] at hm
     have hd := HN.out.2.2.2 s (by omega)
     obtain ⟨r, hr⟩ : ∃ r, r = pw x (e / 2 ^ (64 * 3 + (s + 1))) := ⟨_, rfl⟩
     obtain ⟨q, hq⟩ : ∃ q, q = mulP r r := ⟨_, rfl⟩
     obtain ⟨v, hv⟩ : ∃ v, v = mulP q x := ⟨_, rfl⟩
     have hq2 : q = pw x (2 * (e / 2 ^ (64 * 3 + (s + 1)))) := by rw [hq, hr, pw_sq]
     have lr : r < (2^256) := by rw [hr]; exact pw_lt _ _
     have lq : q < (2^256) := by rw [hq]; exact mulP_lt _ _
     have cS : ∀ w, Calls Tryz.prog 106 #[.agg #[.int .u64 18446744069414583343, .int .u64 18446744073709551615, .int .u64 18446744073709551615, .int .u64 18446744073709551615, .int .u64 4294968273, .int .u64 0, .int .u64 0], fv r, fv r] w fun e w' => e = .returned (fv q) ∧ Below w.heap.size w w' := by
      intro w; rw [hq]; exact mulR_any w r r lr lr
     have cX : ∀ w, Calls Tryz.prog 106 #[.agg #[.int .u64 18446744069414583343, .int .u64 18446744073709551615, .int .u64 18446744073709551615, .int .u64 18446744073709551615, .int .u64 4294968273, .int .u64 0, .int .u64 0], fv q, fv x] w fun e w' => e = .returned (fv v) ∧ Below w.heap.size w w' := by
      intro w; rw [hv]; exact mulR_any w q x lq HX.out
     have hend0 : m = 0 → q = pw x (e / 2 ^ (64 * 3 + s)) := fun h => by
      rw [hq2, hd, hmz.1 h]; rfl
     have hend1 : m ≠ 0 → v = pw x (e / 2 ^ (64 * 3 + s)) := fun h => by
      have hb1 : e3 / 2 ^ s % 2 = 1 := by have := mt hmz.2 h; omega
      rw [hv, hq2, pw_mul, hd, hb1]
     have HE := Lib.hid (And.intro hend0 (And.intro hend1 (And.intro hhalf hbe)))
     rw [← hr] at BP
     have hgt : (bt : Int) > 0 := by omega
     rw [← hbe]
     clear hr hq hv hq2 lr lq hend0 hend1 hhalf hbe hd hmz hbt
     go_wp2_with (first | ((with_reducible refine here_load (d := some 19) ?_); refine wpList_load_blk rfl _ _ rfl w.heap.size rfl _ _ _ (BM) Tryz.underlying102 rfl (by kernel_rfl) ?_) | ((with_reducible refine here_load (d := some 20) ?_); refine wpList_load_fv rfl _ _ rfl (w1.heap.size) rfl (r) _ _ _ (BP) (fv_fcs r) Tryz.underlying97 rfl (by kernel_rfl) ?_) | ((with_reducible refine here_load (d := some 21) ?_); refine wpList_load_fv rfl _ _ rfl (w1.heap.size) rfl (r) _ _ _ (BP) (fv_fcs r) Tryz.underlying97 rfl (by kernel_rfl) ?_))
     refine (cS _).mono ?_
     rintro ez u ⟨rfl, gu⟩
     have EM := Gr.blk gu BM
     have EX := Gr.blk gu BX
     have EE := Gr.blk gu BE
     have ER := Gr.blk gu BR
     have EP := Gr.blk gu BP
     have hbu := Below.gr hb gu
     clear gu cS BM BX BE BR BP hb
     have lu := EP.lt
     by_cases hm0 : m = 0
     ·have hq0 := Lib.hid (HE.out.1 hm0)
      subst hm0
      clear cX
      go_wp2_with (first | ((with_reducible refine here_store ?_); refine wpList_store_blk rfl _ _ _ rfl (w1.heap.size) (fcs (q)) rfl rfl _ _ (EP) (by kernel_rfl) (by rfl) (fcs_one _) ?_; intro uz hLz hqz hKz; have FM := hKz _ (by omega) _ _ EM; have FXx := hKz _ (by omega) _ _ EX; have FE_ := hKz _ (by omega) _ _ EE; have FR := hKz _ (by omega) _ _ ER; have hbz := hbu.trans (hqz _ (by omega)); have pc : uz.cell? ⟨w.heap.size + 2, 3, none⟩ = some (.int .u64 (e3 : Int)) := FE_.cell 3))
      go_roundw
      case rel => exact ⟨s, by omega, by rw [← HE.out.2.2.1]; congr 1 <;> omega, hbz, FM, FXx, FE_, FR, Blk.eq_ hLz (by rw [hq0.out])⟩
      case measure => simp [intOf]; omega
     ·have hq1 := Lib.hid (HE.out.2.1 hm0)
      have hmi : ¬ (m : Int) = 0 := by omega
      go_wp2_with (first | ((with_reducible refine here_store ?_); refine wpList_store_blk rfl _ _ _ rfl (w1.heap.size) (fcs (q)) rfl rfl _ _ (EP) (by kernel_rfl) (by rfl) (fcs_one _) ?_; intro uz hLz hqz hKz; have FM := hKz _ (by omega) _ _ EM; have FXx := hKz _ (by omega) _ _ EX; have FE_ := hKz _ (by omega) _ _ EE; have FR := hKz _ (by omega) _ _ ER; have hbz := hbu.trans (hqz _ (by omega)); have pc : uz.cell? ⟨w.heap.size + 2, 3, none⟩ = some (.int .u64 (e3 : Int)) := FE_.cell 3) | ((with_reducible refine here_load (d := some 29) ?_); refine wpList_load_blk rfl _ _ rfl w.heap.size rfl _ _ _ (FM) Tryz.underlying102 rfl (by kernel_rfl) ?_) | ((with_reducible refine here_load (d := some 30) ?_); refine wpList_load_fv rfl _ _ rfl (w1.heap.size) rfl (q) _ _ _ (hLz) (fv_fcs q) Tryz.underlying97 rfl (by kernel_rfl) ?_) | ((with_reducible refine here_load (d := some 31) ?_); refine wpList_load_fv rfl _ _ rfl (w.heap.size + 1) rfl (x) _ _ _ (FXx) (FX.out) Tryz.underlying97 rfl (by kernel_rfl) ?_))
      refine (cX _).mono ?_
      rintro ez u2 ⟨rfl, gu⟩
      have GM := Gr.blk gu FM
      have GX := Gr.blk gu FXx
      have GE := Gr.blk gu FE_
      have GR := Gr.blk gu FR
      have GP := Gr.blk gu hLz
      have hbg := Below.gr hbz gu
      clear gu cX FM FXx FE_ FR hbz
      go_wp2_with (first | ((with_reducible refine here_store ?_); refine wpList_store_blk rfl _ _ _ rfl (w1.heap.size) (fcs (v)) rfl rfl _ _ (GP) (by kernel_rfl) (by rfl) (fcs_one _) ?_; intro uy hLy hqy hKy; have JM := hKy _ (by omega) _ _ GM; have JX := hKy _ (by omega) _ _ GX; have JE := hKy _ (by omega) _ _ GE; have JR := hKy _ (by omega) _ _ GR; have hby := hbg.trans (hqy _ (by omega))))
      go_roundw
      case rel => exact ⟨s, by omega, by rw [← HE.out.2.2.1]; congr 1 <;> omega, hby, JM, JX, JE, JR, Blk.eq_ hLy (by rw [hq1.out])⟩
      case measure => simp [intOf]; omega
  ·clear HI
   go_wp2_with fail
   go_loopw [9] (fun bt wr => ∃ t : Nat, t ≤ 64 ∧ bt = .int .u64 ((2 ^ t / 2 : Nat) : Int) ∧ Below w.heap.size w wr ∧ Blk wr w.heap.size 102 #[.int .u64 18446744069414583343, .int .u64 18446744073709551615, .int .u64 18446744073709551615, .int .u64 18446744073709551615, .int .u64 4294968273, .int .u64 0, .int .u64 0] ∧ Blk wr (w.heap.size + 1) 97 #[.int .u64 (x0 : Int), .int .u64 (x1 : Int), .int .u64 (x2 : Int), .int .u64 (x3 : Int)] ∧ Blk wr (w.heap.size + 2) 97 #[.int .u64 (e0 : Int), .int .u64 (e1 : Int), .int .u64 (e2 : Int), .int .u64 (e3 : Int)] ∧ Blk wr (w.heap.size + 3) 97 #[.int .u64 0, .int .u64 0, .int .u64 0, .int .u64 0] ∧ Blk wr w1.heap.size 97 (fcs (pw x (e / 2 ^ (64 * 2 + t))))) (fun bt _ => (intOf bt).toNat)
   case atStart => exact ⟨64, by omega, rfl, hb, BM, BX, BE, BR, BP⟩
   case round =>
    clear hb BM BX BE BR BP
    obtain ⟨t, ht, rfl, hb, BM, BX, BE, BR, BP⟩ := hrel
    by_cases h0 : t = 0
    ·subst h0
     go_wp2
     refine ⟨⟨hb, BM, BX, BE, BR, Lib.hid (.inr (.inr (.inl (⟨rfl, BP⟩))))⟩, by decide⟩
    ·obtain ⟨s, hs⟩ : ∃ s, t = s + 1 := ⟨t - 1, by omega⟩
     subst hs
     have hbt : 2 ^ (s + 1) / 2 = 2 ^ s := by rw [Nat.pow_succ]; omega
     rw [hbt]
     obtain ⟨bt, hbe⟩ : ∃ bt, bt = 2 ^ s := ⟨_, rfl⟩
     have hpos : 0 < bt := by rw [hbe]; exact Nat.two_pow_pos s
     have hblt : bt < 18446744073709551616 := by
      have h63 : 2 ^ s ≤ 2 ^ 63 := Nat.pow_le_pow_right (by omega) (by omega)
      rw [hbe]
      omega
     have hhalf : bt / 2 = 2 ^ s / 2 := by rw [hbe]
     obtain ⟨m, hm, hmz⟩ := and_bit e2 s HB.out.2.2.1 (by omega)
     rw [← hbe] at hm
     have hd := HN.out.2.2.1 s (by omega)
     obtain ⟨r, hr⟩ : ∃ r, r = pw x (e / 2 ^ (64 * 2 + (s + 1))) := ⟨_, rfl⟩
     obtain ⟨q, hq⟩ : ∃ q, q = mulP r r := ⟨_, rfl⟩
     obtain ⟨v, hv⟩ : ∃ v, v = mulP q x := ⟨_, rfl⟩
     have hq2 : q = pw x (2 * (e / 2 ^ (64 * 2 + (s + 1)))) := by rw [hq, hr, pw_sq]
     have lr : r < (2^256) := by rw [hr]; exact pw_lt _ _
     have lq : q < (2^256) := by rw [hq]; exact mulP_lt _ _
     have cS : ∀ w, Calls Tryz.prog 106 #[.agg #[.int .u64 18446744069414583343, .int .u64 18446744073709551615, .int .u64 18446744073709551615, .int .u64 18446744073709551615, .int .u64 4294968273, .int .u64 0, .int .u64 0], fv r, fv r] w fun e w' => e = .returned (fv q) ∧ Below w.heap.size w w' := by
      intro w; rw [hq]; exact mulR_any w r r lr lr
     have cX : ∀ w, Calls Tryz.prog 106 #[.agg #[.int .u64 18446744069414583343, .int .u64 18446744073709551615, .int .u64 18446744073709551615, .int .u64 18446744073709551615, .int .u64 4294968273, .int .u64 0, .int .u64 0], fv q, fv x] w fun e w' => e = .returned (fv v) ∧ Below w.heap.size w w' := by
      intro w; rw [hv]; exact mulR_any w q x lq HX.out
     have hend0 : m = 0 → q = pw x (e / 2 ^ (64 * 2 + s)) := fun h => by
      rw [hq2, hd, hmz.1 h]; rfl
     have hend1 : m ≠ 0 → v = pw x (e / 2 ^ (64 * 2 + s)) := fun h => by
      have hb1 : e2 / 2 ^ s % 2 = 1 := by have := mt hmz.2 h; omega
      rw [hv, hq2, pw_mul, hd, hb1]
     have HE := Lib.hid (And.intro hend0 (And.intro hend1 (And.intro hhalf hbe)))
     rw [← hr] at BP
     have hgt : (bt : Int) > 0 := by omega
     rw [← hbe]
     clear hr hq hv hq2 lr lq hend0 hend1 hhalf hbe hd hmz hbt
     go_wp2_with (first | ((with_reducible refine here_load (d := some 19) ?_); refine wpList_load_blk rfl _ _ rfl w.heap.size rfl _ _ _ (BM) Tryz.underlying102 rfl (by kernel_rfl) ?_) | ((with_reducible refine here_load (d := some 20) ?_); refine wpList_load_fv rfl _ _ rfl (w1.heap.size) rfl (r) _ _ _ (BP) (fv_fcs r) Tryz.underlying97 rfl (by kernel_rfl) ?_) | ((with_reducible refine here_load (d := some 21) ?_); refine wpList_load_fv rfl _ _ rfl (w1.heap.size) rfl (r) _ _ _ (BP) (fv_fcs r) Tryz.underlying97 rfl (by kernel_rfl) ?_))
     refine (cS _).mono ?_
     rintro ez u ⟨rfl, gu⟩
     have EM := Gr.blk gu BM
     have EX := Gr.blk gu BX
     have EE := Gr.blk gu BE
     have ER := Gr.blk gu BR
     have EP := Gr.blk gu BP
     have hbu := Below.gr hb gu
     clear gu cS BM BX BE BR BP hb
     have lu := EP.lt
     by_cases hm0 : m = 0
     ·have hq0 := Lib.hid (HE.out.1 hm0)
      subst hm0
      clear cX
      go_wp2_with (first | ((with_reducible refine here_store ?_); refine wpList_store_blk rfl _ _ _ rfl (w1.heap.size) (fcs (q)) rfl rfl _ _ (EP) (by kernel_rfl) (by rfl) (fcs_one _) ?_; intro uz hLz hqz hKz; have FM := hKz _ (by omega) _ _ EM; have FXx := hKz _ (by omega) _ _ EX; have FE_ := hKz _ (by omega) _ _ EE; have FR := hKz _ (by omega) _ _ ER; have hbz := hbu.trans (hqz _ (by omega)); have pc : uz.cell? ⟨w.heap.size + 2, 2, none⟩ = some (.int .u64 (e2 : Int)) := FE_.cell 2))
      go_roundw
      case rel => exact ⟨s, by omega, by rw [← HE.out.2.2.1]; congr 1 <;> omega, hbz, FM, FXx, FE_, FR, Blk.eq_ hLz (by rw [hq0.out])⟩
      case measure => simp [intOf]; omega
     ·have hq1 := Lib.hid (HE.out.2.1 hm0)
      have hmi : ¬ (m : Int) = 0 := by omega
      go_wp2_with (first | ((with_reducible refine here_store ?_); refine wpList_store_blk rfl _ _ _ rfl (w1.heap.size) (fcs (q)) rfl rfl _ _ (EP) (by kernel_rfl) (by rfl) (fcs_one _) ?_; intro uz hLz hqz hKz; have FM := hKz _ (by omega) _ _ EM; have FXx := hKz _ (by omega) _ _ EX; have FE_ := hKz _ (by omega) _ _ EE; have FR := hKz _ (by omega) _ _ ER; have hbz := hbu.trans (hqz _ (by omega)); have pc : uz.cell? ⟨w.heap.size + 2, 2, none⟩ = some (.int .u64 (e2 : Int)) := FE_.cell 2) | ((with_reducible refine here_load (d := some 29) ?_); refine wpList_load_blk rfl _ _ rfl w.heap.size rfl _ _ _ (FM) Tryz.underlying102 rfl (by kernel_rfl) ?_) | ((with_reducible refine here_load (d := some 30) ?_); refine wpList_load_fv rfl _ _ rfl (w1.heap.size) rfl (q) _ _ _ (hLz) (fv_fcs q) Tryz.underlying97 rfl (by kernel_rfl) ?_) | ((with_reducible refine here_load (d := some 31) ?_); refine wpList_load_fv rfl _ _ rfl (w.heap.size + 1) rfl (x) _ _ _ (FXx) (FX.out) Tryz.underlying97 rfl (by kernel_rfl) ?_))
      refine (cX _).mono ?_
      rintro ez u2 ⟨rfl, gu⟩
      have GM := Gr.blk gu FM
      have GX := Gr.blk gu FXx
      have GE := Gr.blk gu FE_
      have GR := Gr.blk gu FR
      have GP := Gr.blk gu hLz
      have hbg := Below.gr hbz gu
      clear gu cX FM FXx FE_ FR hbz
      go_wp2_with (first | ((with_reducible refine here_store ?_); refine wpList_store_blk rfl _ _ _ rfl (w1.heap.size) (fcs (v)) rfl rfl _ _ (GP) (by kernel_rfl) (by rfl) (fcs_one _) ?_; intro uy hLy hqy hKy; have JM := hKy _ (by omega) _ _ GM; have JX := hKy _ (by omega) _ _ GX; have JE := hKy _ (by omega) _ _ GE; have JR := hKy _ (by omega) _ _ GR; have hby := hbg.trans (hqy _ (by omega))))
      go_roundw
      case rel => exact ⟨s, by omega, by rw [← HE.out.2.2.1]; congr 1 <;> omega, hby, JM, JX, JE, JR, Blk.eq_ hLy (by rw [hq1.out])⟩
      case measure => simp [intOf]; omega
  ·clear HI
   go_wp2_with fail
   go_loopw [9] (fun bt wr => ∃ t : Nat, t ≤ 64 ∧ bt = .int .u64 ((2 ^ t / 2 : Nat) : Int) ∧ Below w.heap.size w wr ∧ Blk wr w.heap.size 102 #[.int .u64 18446744069414583343, .int .u64 18446744073709551615, .int .u64 18446744073709551615, .int .u64 18446744073709551615, .int .u64 4294968273, .int .u64 0, .int .u64 0] ∧ Blk wr (w.heap.size + 1) 97 #[.int .u64 (x0 : Int), .int .u64 (x1 : Int), .int .u64 (x2 : Int), .int .u64 (x3 : Int)] ∧ Blk wr (w.heap.size + 2) 97 #[.int .u64 (e0 : Int), .int .u64 (e1 : Int), .int .u64 (e2 : Int), .int .u64 (e3 : Int)] ∧ Blk wr (w.heap.size + 3) 97 #[.int .u64 0, .int .u64 0, .int .u64 0, .int .u64 0] ∧ Blk wr w1.heap.size 97 (fcs (pw x (e / 2 ^ (64 * 1 + t))))) (fun bt _ => (intOf bt).toNat)
   case atStart => exact ⟨64, by omega, rfl, hb, BM, BX, BE, BR, BP⟩
   case round =>
    clear hb BM BX BE BR BP
    obtain ⟨t, ht, rfl, hb, BM, BX, BE, BR, BP⟩ := hrel
    by_cases h0 : t = 0
    ·subst h0
     go_wp2
     refine ⟨⟨hb, BM, BX, BE, BR, Lib.hid (.inr (.inr (.inr (.inl (⟨rfl, BP⟩)))))⟩, by decide⟩
    ·obtain ⟨s, hs⟩ : ∃ s, t = s + 1 := ⟨t - 1, by omega⟩
     subst hs
     have hbt : 2 ^ (s + 1) / 2 = 2 ^ s := by rw [Nat.pow_succ]; omega
     rw [hbt]
     obtain ⟨bt, hbe⟩ : ∃ bt, bt = 2 ^ s := ⟨_, rfl⟩
     have hpos : 0 < bt := by rw [hbe]; exact Nat.two_pow_pos s
     have hblt : bt < 18446744073709551616 := by
      have h63 : 2 ^ s ≤ 2 ^ 63 := Nat.pow_le_pow_right (by omega) (by omega)
      rw [hbe]
      omega
     have hhalf : bt / 2 = 2 ^ s / 2 := by rw [hbe]
     obtain ⟨m, hm, hmz⟩ := and_bit e1 s HB.out.2.1 (by omega)
     rw [← hbe] at hm
     have hd := HN.out.2.1 s (by omega)
     obtain ⟨r, hr⟩ : ∃ r, r = pw x (e / 2 ^ (64 * 1 + (s + 1))) := ⟨_, rfl⟩
     obtain ⟨q, hq⟩ : ∃ q, q = mulP r r := ⟨_, rfl⟩
     obtain ⟨v, hv⟩ : ∃ v, v = mulP q x := ⟨_, rfl⟩
     have hq2 : q = pw x (2 * (e / 2 ^ (64 * 1 + (s + 1)))) := by rw [hq, hr, pw_sq]
     have lr : r < (2^256) := by rw [hr]; exact pw_lt _ _
     have lq : q < (2^256) := by rw [hq]; exact mulP_lt _ _
     have cS : ∀ w, Calls Tryz.prog 106 #[.agg #[.int .u64 18446744069414583343, .int .u64 18446744073709551615, .int .u64 18446744073709551615, .int .u64 18446744073709551615, .int .u64 4294968273, .int .u64 0, .int .u64 0], fv r, fv r] w fun e w' => e = .returned (fv q) ∧ Below w.heap.size w w' := by
      intro w; rw [hq]; exact mulR_any w r r lr lr
     have cX : ∀ w, Calls Tryz.prog 106 #[.agg #[.int .u64 18446744069414583343, .int .u64 18446744073709551615, .int .u64 18446744073709551615, .int .u64 18446744073709551615, .int .u64 4294968273, .int .u64 0, .int .u64 0], fv q, fv x] w fun e w' => e = .returned (fv v) ∧ Below w.heap.size w w' := by
      intro w; rw [hv]; exact mulR_any w q x lq HX.out
     have hend0 : m = 0 → q = pw x (e / 2 ^ (64 * 1 + s)) := fun h => by
      rw [hq2, hd, hmz.1 h]; rfl
     have hend1 : m ≠ 0 → v = pw x (e / 2 ^ (64 * 1 + s)) := fun h => by
      have hb1 : e1 / 2 ^ s % 2 = 1 := by have := mt hmz.2 h; omega
      rw [hv, hq2, pw_mul, hd, hb1]
     have HE := Lib.hid (And.intro hend0 (And.intro hend1 (And.intro hhalf hbe)))
     rw [← hr] at BP
     have hgt : (bt : Int) > 0 := by omega
     rw [← hbe]
     clear hr hq hv hq2 lr lq hend0 hend1 hhalf hbe hd hmz hbt
     go_wp2_with (first | ((with_reducible refine here_load (d := some 19) ?_); refine wpList_load_blk rfl _ _ rfl w.heap.size rfl _ _ _ (BM) Tryz.underlying102 rfl (by kernel_rfl) ?_) | ((with_reducible refine here_load (d := some 20) ?_); refine wpList_load_fv rfl _ _ rfl (w1.heap.size) rfl (r) _ _ _ (BP) (fv_fcs r) Tryz.underlying97 rfl (by kernel_rfl) ?_) | ((with_reducible refine here_load (d := some 21) ?_); refine wpList_load_fv rfl _ _ rfl (w1.heap.size) rfl (r) _ _ _ (BP) (fv_fcs r) Tryz.underlying97 rfl (by kernel_rfl) ?_))
     refine (cS _).mono ?_
     rintro ez u ⟨rfl, gu⟩
     have EM := Gr.blk gu BM
     have EX := Gr.blk gu BX
     have EE := Gr.blk gu BE
     have ER := Gr.blk gu BR
     have EP := Gr.blk gu BP
     have hbu := Below.gr hb gu
     clear gu cS BM BX BE BR BP hb
     have lu := EP.lt
     by_cases hm0 : m = 0
     ·have hq0 := Lib.hid (HE.out.1 hm0)
      subst hm0
      clear cX
      go_wp2_with (first | ((with_reducible refine here_store ?_); refine wpList_store_blk rfl _ _ _ rfl (w1.heap.size) (fcs (q)) rfl rfl _ _ (EP) (by kernel_rfl) (by rfl) (fcs_one _) ?_; intro uz hLz hqz hKz; have FM := hKz _ (by omega) _ _ EM; have FXx := hKz _ (by omega) _ _ EX; have FE_ := hKz _ (by omega) _ _ EE; have FR := hKz _ (by omega) _ _ ER; have hbz := hbu.trans (hqz _ (by omega)); have pc : uz.cell? ⟨w.heap.size + 2, 1, none⟩ = some (.int .u64 (e1 : Int)) := FE_.cell 1))
      go_roundw
      case rel => exact ⟨s, by omega, by rw [← HE.out.2.2.1]; congr 1 <;> omega, hbz, FM, FXx, FE_, FR, Blk.eq_ hLz (by rw [hq0.out])⟩
      case measure => simp [intOf]; omega
     ·have hq1 := Lib.hid (HE.out.2.1 hm0)
      have hmi : ¬ (m : Int) = 0 := by omega
      go_wp2_with (first | ((with_reducible refine here_store ?_); refine wpList_store_blk rfl _ _ _ rfl (w1.heap.size) (fcs (q)) rfl rfl _ _ (EP) (by kernel_rfl) (by rfl) (fcs_one _) ?_; intro uz hLz hqz hKz; have FM := hKz _ (by omega) _ _ EM; have FXx := hKz _ (by omega) _ _ EX; have FE_ := hKz _ (by omega) _ _ EE; have FR := hKz _ (by omega) _ _ ER; have hbz := hbu.trans (hqz _ (by omega)); have pc : uz.cell? ⟨w.heap.size + 2, 1, none⟩ = some (.int .u64 (e1 : Int)) := FE_.cell 1) | ((with_reducible refine here_load (d := some 29) ?_); refine wpList_load_blk rfl _ _ rfl w.heap.size rfl _ _ _ (FM) Tryz.underlying102 rfl (by kernel_rfl) ?_) | ((with_reducible refine here_load (d := some 30) ?_); refine wpList_load_fv rfl _ _ rfl (w1.heap.size) rfl (q) _ _ _ (hLz) (fv_fcs q) Tryz.underlying97 rfl (by kernel_rfl) ?_) | ((with_reducible refine here_load (d := some 31) ?_); refine wpList_load_fv rfl _ _ rfl (w.heap.size + 1) rfl (x) _ _ _ (FXx) (FX.out) Tryz.underlying97 rfl (by kernel_rfl) ?_))
      refine (cX _).mono ?_
      rintro ez u2 ⟨rfl, gu⟩
      have GM := Gr.blk gu FM
      have GX := Gr.blk gu FXx
      have GE := Gr.blk gu FE_
      have GR := Gr.blk gu FR
      have GP := Gr.blk gu hLz
      have hbg := Below.gr hbz gu
      clear gu cX FM FXx FE_ FR hbz
      go_wp2_with (first | ((with_reducible refine here_store ?_); refine wpList_store_blk rfl _ _ _ rfl (w1.heap.size) (fcs (v)) rfl rfl _ _ (GP) (by kernel_rfl) (by rfl) (fcs_one _) ?_; intro uy hLy hqy hKy; have JM := hKy _ (by omega) _ _ GM; have JX := hKy _ (by omega) _ _ GX; have JE := hKy _ (by omega) _ _ GE; have JR := hKy _ (by omega) _ _ GR; have hby := hbg.trans (hqy _ (by omega))))
      go_roundw
      case rel => exact ⟨s, by omega, by rw [← HE.out.2.2.1]; congr 1 <;> omega, hby, JM, JX, JE, JR, Blk.eq_ hLy (by rw [hq1.out])⟩
      case measure => simp [intOf]; omega
  ·clear HI
   go_wp2_with fail
   go_loopw [9] (fun bt wr => ∃ t : Nat, t ≤ 64 ∧ bt = .int .u64 ((2 ^ t / 2 : Nat) : Int) ∧ Below w.heap.size w wr ∧ Blk wr w.heap.size 102 #[.int .u64 18446744069414583343, .int .u64 18446744073709551615, .int .u64 18446744073709551615, .int .u64 18446744073709551615, .int .u64 4294968273, .int .u64 0, .int .u64 0] ∧ Blk wr (w.heap.size + 1) 97 #[.int .u64 (x0 : Int), .int .u64 (x1 : Int), .int .u64 (x2 : Int), .int .u64 (x3 : Int)] ∧ Blk wr (w.heap.size + 2) 97 #[.int .u64 (e0 : Int), .int .u64 (e1 : Int), .int .u64 (e2 : Int), .int .u64 (e3 : Int)] ∧ Blk wr (w.heap.size + 3) 97 #[.int .u64 0, .int .u64 0, .int .u64 0, .int .u64 0] ∧ Blk wr w1.heap.size 97 (fcs (pw x (e / 2 ^ (64 * 0 + t))))) (fun bt _ => (intOf bt).toNat)
   case atStart => exact ⟨64, by omega, rfl, hb, BM, BX, BE, BR, BP⟩
   case round =>
    clear hb BM BX BE BR BP
    obtain ⟨t, ht, rfl, hb, BM, BX, BE, BR, BP⟩ := hrel
    by_cases h0 : t = 0
    ·subst h0
     go_wp2
     refine ⟨⟨hb, BM, BX, BE, BR, Lib.hid (.inr (.inr (.inr (.inr (⟨rfl, BP⟩)))))⟩, by decide⟩
    ·obtain ⟨s, hs⟩ : ∃ s, t = s + 1 := ⟨t - 1, by omega⟩
     subst hs
     have hbt : 2 ^ (s + 1) / 2 = 2 ^ s := by rw [Nat.pow_succ]; omega
     rw [hbt]
     obtain ⟨bt, hbe⟩ : ∃ bt, bt = 2 ^ s := ⟨_, rfl⟩
     have hpos : 0 < bt := by rw [hbe]; exact Nat.two_pow_pos s
     have hblt : bt < 18446744073709551616 := by
      have h63 : 2 ^ s ≤ 2 ^ 63 := Nat.pow_le_pow_right (by omega) (by omega)
      rw [hbe]
      omega
     have hhalf : bt / 2 = 2 ^ s / 2 := by rw [hbe]
     obtain ⟨m, hm, hmz⟩ := and_bit e0 s HB.out.1 (by omega)
     rw [← hbe] at hm
     have hd := HN.out.1 s (by omega)
     obtain ⟨r, hr⟩ : ∃ r, r = pw x (e / 2 ^ (64 * 0 + (s + 1))) := ⟨_, rfl⟩
     obtain ⟨q, hq⟩ : ∃ q, q = mulP r r := ⟨_, rfl⟩
     obtain ⟨v, hv⟩ : ∃ v, v = mulP q x := ⟨_, rfl⟩
     have hq2 : q = pw x (2 * (e / 2 ^ (64 * 0 + (s + 1)))) := by rw [hq, hr, pw_sq]
     have lr : r < (2^256) := by rw [hr]; exact pw_lt _ _
     have lq : q < (2^256) := by rw [hq]; exact mulP_lt _ _
     have cS : ∀ w, Calls Tryz.prog 106 #[.agg #[.int .u64 18446744069414583343, .int .u64 18446744073709551615, .int .u64 18446744073709551615, .int .u64 18446744073709551615, .int .u64 4294968273, .int .u64 0, .int .u64 0], fv r, fv r] w fun e w' => e = .returned (fv q) ∧ Below w.heap.size w w' := by
      intro w; rw [hq]; exact mulR_any w r r lr lr
     have cX : ∀ w, Calls Tryz.prog 106 #[.agg #[.int .u64 18446744069414583343, .int .u64 18446744073709551615, .int .u64 18446744073709551615, .int .u64 18446744073709551615, .int .u64 4294968273, .int .u64 0, .int .u64 0], fv q, fv x] w fun e w' => e = .returned (fv v) ∧ Below w.heap.size w w' := by
      intro w; rw [hv]; exact mulR_any w q x lq HX.out
     have hend0 : m = 0 → q = pw x (e / 2 ^ (64 * 0 + s)) := fun h => by
      rw [hq2, hd, hmz.1 h]; rfl
     have hend1 : m ≠ 0 → v = pw x (e / 2 ^ (64 * 0 + s)) := fun h => by
      have hb1 : e0 / 2 ^ s % 2 = 1 := by have := mt hmz.2 h; omega
      rw [hv, hq2, pw_mul, hd, hb1]
     have HE := Lib.hid (And.intro hend0 (And.intro hend1 (And.intro hhalf hbe)))
     rw [← hr] at BP
     have hgt : (bt : Int) > 0 := by omega
     rw [← hbe]
     clear hr hq hv hq2 lr lq hend0 hend1 hhalf hbe hd hmz hbt
     go_wp2_with (first | ((with_reducible refine here_load (d := some 19) ?_); refine wpList_load_blk rfl _ _ rfl w.heap.size rfl _ _ _ (BM) Tryz.underlying102 rfl (by kernel_rfl) ?_) | ((with_reducible refine here_load (d := some 20) ?_); refine wpList_load_fv rfl _ _ rfl (w1.heap.size) rfl (r) _ _ _ (BP) (fv_fcs r) Tryz.underlying97 rfl (by kernel_rfl) ?_) | ((with_reducible refine here_load (d := some 21) ?_); refine wpList_load_fv rfl _ _ rfl (w1.heap.size) rfl (r) _ _ _ (BP) (fv_fcs r) Tryz.underlying97 rfl (by kernel_rfl) ?_))
     refine (cS _).mono ?_
     rintro ez u ⟨rfl, gu⟩
     have EM := Gr.blk gu BM
     have EX := Gr.blk gu BX
     have EE := Gr.blk gu BE
     have ER := Gr.blk gu BR
     have EP := Gr.blk gu BP
     have hbu := Below.gr hb gu
     clear gu cS BM BX BE BR BP hb
     have lu := EP.lt
     by_cases hm0 : m = 0
     ·have hq0 := Lib.hid (HE.out.1 hm0)
      subst hm0
      clear cX
      go_wp2_with (first | ((with_reducible refine here_store ?_); refine wpList_store_blk rfl _ _ _ rfl (w1.heap.size) (fcs (q)) rfl rfl _ _ (EP) (by kernel_rfl) (by rfl) (fcs_one _) ?_; intro uz hLz hqz hKz; have FM := hKz _ (by omega) _ _ EM; have FXx := hKz _ (by omega) _ _ EX; have FE_ := hKz _ (by omega) _ _ EE; have FR := hKz _ (by omega) _ _ ER; have hbz := hbu.trans (hqz _ (by omega)); have pc : uz.cell? ⟨w.heap.size + 2, 0, none⟩ = some (.int .u64 (e0 : Int)) := FE_.cell 0))
      go_roundw
      case rel => exact ⟨s, by omega, by rw [← HE.out.2.2.1]; congr 1 <;> omega, hbz, FM, FXx, FE_, FR, Blk.eq_ hLz (by rw [hq0.out])⟩
      case measure => simp [intOf]; omega
     ·have hq1 := Lib.hid (HE.out.2.1 hm0)
      have hmi : ¬ (m : Int) = 0 := by omega
      go_wp2_with (first | ((with_reducible refine here_store ?_); refine wpList_store_blk rfl _ _ _ rfl (w1.heap.size) (fcs (q)) rfl rfl _ _ (EP) (by kernel_rfl) (by rfl) (fcs_one _) ?_; intro uz hLz hqz hKz; have FM := hKz _ (by omega) _ _ EM; have FXx := hKz _ (by omega) _ _ EX; have FE_ := hKz _ (by omega) _ _ EE; have FR := hKz _ (by omega) _ _ ER; have hbz := hbu.trans (hqz _ (by omega)); have pc : uz.cell? ⟨w.heap.size + 2, 0, none⟩ = some (.int .u64 (e0 : Int)) := FE_.cell 0) | ((with_reducible refine here_load (d := some 29) ?_); refine wpList_load_blk rfl _ _ rfl w.heap.size rfl _ _ _ (FM) Tryz.underlying102 rfl (by kernel_rfl) ?_) | ((with_reducible refine here_load (d := some 30) ?_); refine wpList_load_fv rfl _ _ rfl (w1.heap.size) rfl (q) _ _ _ (hLz) (fv_fcs q) Tryz.underlying97 rfl (by kernel_rfl) ?_) | ((with_reducible refine here_load (d := some 31) ?_); refine wpList_load_fv rfl _ _ rfl (w.heap.size + 1) rfl (x) _ _ _ (FXx) (FX.out) Tryz.underlying97 rfl (by kernel_rfl) ?_))
      refine (cX _).mono ?_
      rintro ez u2 ⟨rfl, gu⟩
      have GM := Gr.blk gu FM
      have GX := Gr.blk gu FXx
      have GE := Gr.blk gu FE_
      have GR := Gr.blk gu FR
      have GP := Gr.blk gu hLz
      have hbg := Below.gr hbz gu
      clear gu cX FM FXx FE_ FR hbz
      go_wp2_with (first | ((with_reducible refine here_store ?_); refine wpList_store_blk rfl _ _ _ rfl (w1.heap.size) (fcs (v)) rfl rfl _ _ (GP) (by kernel_rfl) (by rfl) (fcs_one _) ?_; intro uy hLy hqy hKy; have JM := hKy _ (by omega) _ _ GM; have JX := hKy _ (by omega) _ _ GX; have JE := hKy _ (by omega) _ _ GE; have JR := hKy _ (by omega) _ _ GR; have hby := hbg.trans (hqy _ (by omega))))
      go_roundw
      case rel => exact ⟨s, by omega, by rw [← HE.out.2.2.1]; congr 1 <;> omega, hby, JM, JX, JE, JR, Blk.eq_ hLy (by rw [hq1.out])⟩
      case measure => simp [intOf]; omega
  ·clear HI
   have BP0 : Blk wr w1.heap.size 97 (fcs (pw x e)) := by
    have h := BP
    rw [Nat.pow_zero, Nat.div_one] at h
    exact h
   obtain ⟨z, hz⟩ : ∃ z, z = pw x e := ⟨_, rfl⟩
   rw [← hz] at BP0
   have HZ := Lib.hid hz
   clear hz BP
   go_wp2_with (first | ((with_reducible refine here_load (d := some 33) ?_); refine wpList_load_fv rfl _ _ rfl (w1.heap.size) rfl (z) _ _ _ (BP0) (fv_fcs z) Tryz.underlying97 rfl (by kernel_rfl) ?_) | ((with_reducible refine here_store ?_); refine wpList_store_blk rfl _ _ _ rfl (w.heap.size + 3) (fcs (z)) rfl rfl _ _ (BR) (by kernel_rfl) (by rfl) (fcs_one _) ?_; intro vz hLz hqz hKz))
   exact bodyPost_ret (results_cell_row rfl _ _ (w.heap.size + 3) _ _ (0, 0) _ rfl hLz Tryz.underlying97 rfl (by kernel_rfl)) rfl ⟨by rw [← HZ.out]; rfl, hb.trans (hqz _ (by omega))⟩

set_option maxHeartbeats 2000000 in
set_option maxRecDepth 100000 in
theorem invRef_any (w : World) (x : Nat) (hx : x < (2^256)) : Calls Tryz.prog 81 #[.agg #[.int .u64 18446744069414583343, .int .u64 18446744073709551615, .int .u64 18446744073709551615, .int .u64 18446744073709551615, .int .u64 4294968273, .int .u64 0, .int .u64 0], fv x] w fun e w' => e = .returned (fv (pw x (115792089237316195423570985008687907853269984665640564039457584007908834671663 - 2))) ∧ Below w.heap.size w w' := by
 obtain ⟨p, hp⟩ : ∃ p, p = 115792089237316195423570985008687907853269984665640564039457584007908834671663 := ⟨_, rfl⟩
 obtain ⟨n2, h2⟩ : ∃ n, n = 2 := ⟨_, rfl⟩
 obtain ⟨q, hq⟩ : ∃ q, q = 115792089237316195423570985008687907853269984665640564039457584007908834671663 - 2 := ⟨_, rfl⟩
 obtain ⟨z, hz⟩ : ∃ z, z = pw x q := ⟨_, rfl⟩
 rw [← hq, ← hz]
 have cS : ∀ w, Calls Tryz.prog 132 #[.int .u64 2] w fun e w' => e = .returned (fv n2) ∧ Below w.heap.size w w' := fun w => small_at w n2 2 (by rw [h2]; rfl) (by omega)
 have cM : ∀ w, Calls Tryz.prog 131 #[fv p, fv n2] w fun e w' => e = .returned (fv q) ∧ Below w.heap.size w w' := fun w => minusR_at w p n2 q 0 rfl rfl (by omega) (by omega) (by omega) (by omega)
 have cP : ∀ w, Calls Tryz.prog 133 #[.agg #[.int .u64 18446744069414583343, .int .u64 18446744073709551615, .int .u64 18446744073709551615, .int .u64 18446744073709551615, .int .u64 4294968273, .int .u64 0, .int .u64 0], fv x, fv q] w fun e w' => e = .returned (fv z) ∧ Below w.heap.size w w' := by
  intro w; rw [hz]; exact power_any w x q hx (by omega)
 have FP : Hid (fv p = .agg #[.int .u64 18446744069414583343, .int .u64 18446744073709551615, .int .u64 18446744073709551615, .int .u64 18446744073709551615]) := Lib.hid (by rw [hp]; exact fv_P)
 obtain ⟨x0, x1, x2, x3, fx⟩ := words_fv x hx
 have FX := Lib.hid fx
 rw [fx]
 clear fx hx hp h2 hq hz
 go_enter Tryz.func81, Tryz.ntmps81
 go_wp2
 refine wp_region_G (fun j => j == 7) (by kernel_rfl) ?_
 try simp only [Act.put]
 refine tkw 0 rfl (YieldsG.load (by rfl) _ _ rfl w.heap.size 0 rfl ([.int .u64 18446744069414583343, .int .u64 18446744073709551615, .int .u64 18446744073709551615, .int .u64 18446744073709551615, .int .u64 4294968273, .int .u64 0, .int .u64 0]) _ (Blk.lt (((Blk.new w _ _).alloc _).alloc _)) (Blk.range (((Blk.new w _ _).alloc _).alloc _)) Tryz.underlying102 rfl (by kernel_rfl)) ?_
 try simp only [Act.put, aA, aZ, aS]
 refine tkw 1 rfl (YieldsG.loadF (by rfl) _ _ rfl (w.heap.size + 1) rfl (x) _ _ ((blk_new2 w _ _ _).alloc _) (FX.out) Tryz.underlying97 rfl (by kernel_rfl)) ?_
 try simp only [Act.put, aA, aZ, aS]
 refine tk 2 rfl ?_
 try simp only [Act.put, aA, aZ, aS]
 refine tkw 3 rfl (YieldsG.loadP (by rfl) _ _ rfl w.heap.size rfl p _ (Blk.lt (((Blk.new w _ _).alloc _).alloc _)) (mod_range (((Blk.new w _ _).alloc _).alloc _)) FP.out Tryz.underlying97 rfl (by kernel_rfl)) ?_
 try simp only [Act.put, aA, aZ, aS]
 refine tkw 4 rfl (YieldsG.call (v := fv n2) (by rfl) 132 _ (fun w9 => by go_simp; try (first | with_reducible rfl | rfl)) (fun w9 h9 => cS w9)) ?_
 try simp only [Act.put, aA, aZ, aS]
 refine tkw 5 rfl (YieldsG.call (v := fv q) (by rfl) 131 _ (fun w9 => by go_simp; try (first | with_reducible rfl | rfl)) (fun w9 h9 => cM w9)) ?_
 try simp only [Act.put, aA, aZ, aS]
 refine tkw 6 rfl (YieldsG.call (v := fv z) (by rfl) 133 _ (fun w9 => by go_simp; try (first | with_reducible rfl | rfl)) (fun w9 h9 => cP w9)) ?_
 try simp only [Act.put, aA, aZ, aS]
 refine wpAnyG_store 7 rfl (by kernel_rfl) (by rfl) _ _ _ rfl (w.heap.size + 2) (fcs (z)) rfl rfl _ _ (blk_new3 w _ _ _ _) (by kernel_rfl) (by rfl) (fcs_one _) rfl (fun w6 h6 w7 hB7 hL7 => ?_)
 try simp only [Act.put]
 refine wpAnyG_done (by kernel_rfl) (fun w8 h8 => ?_)
 have hfin := Gr.blk h8 hL7
 have hb9 := (Below.gr (below_alloc3 w _ _ _) h6).trans ((hB7 _ (by omega)).trans (Below.mono h8 (by have := hL7.lt; omega)))
 go_wp2
 exact bodyPost_ret (results_cell_row rfl _ _ (w.heap.size + 2) _ _ (0, 0) _ rfl hfin Tryz.underlying97 rfl (by kernel_rfl)) rfl ⟨rfl, hb9⟩
end Go.Proofs.YtfhcpdbahbbmaaaGreatDoor

end
section
namespace Go.Proofs.YtfhcpdbahbbmaaaGreatDoor
open Go.RowKit Sp

def Src (w : World) (A : Option Addr) (m : List UInt8) : Prop :=
 m ≠ [] → ∃ b o, A = some ⟨b, o, none⟩ ∧ b < w.heap.size ∧ ∀ j u, m[j]? = some u → w.cell? ⟨b, o + j, none⟩ = some (bv u)

theorem Src.keep {w w' : World} {A : Option Addr} {m : List UInt8} (h : Src w A m) (hs : w.heap.size ≤ w'.heap.size) (hk : m ≠ [] → ∀ a, A = some a → a.block < w.heap.size → w'.heap[a.block]? = w.heap[a.block]?) : Src w' A m := fun hm => by
 obtain ⟨b, o, rfl, hb, hc⟩ := h hm
 exact ⟨b, o, rfl, by omega, fun j u hu => (World.cell?_of_block (w := w) (a := ⟨b, o + j, none⟩) (show w'.heap[b]? = w.heap[b]? from hk hm ⟨b, o, none⟩ rfl hb)).trans (hc j u hu)⟩
theorem Src.below {w w' : World} {A : Option Addr} {m : List UInt8} (h : Src w A m) (hb : Below w.heap.size w w') : Src w' A m :=
 h.keep hb.size fun _ _ _ hl => hb.block _ hl

theorem Src.of_blk {w : World} {g : Nat} {t : TypeId} {m : List UInt8} (h : Blk w g t (m.map bv).toArray) : Src w (some ⟨g, 0, none⟩) m := fun _ =>
 ⟨g, 0, rfl, h.lt, fun j u hu => by rw [Nat.zero_add]; exact (h.cell j).trans (by simp [hu])⟩

theorem addr_add (g o n : Nat) : (⟨g, o, none⟩ : Addr).add n = ⟨g, o + n, none⟩ := by
 unfold Addr.add; split <;> simp_all
theorem oneCell_bv (l : List UInt8) : ∀ v ∈ l.map bv, v.oneCell' = true := fun v hv => by
 obtain ⟨x, _, rfl⟩ := List.mem_map.1 hv
 rfl

def OwnB (w : World) (base : Nat) (v : Value) (l : List UInt8) : Prop := w.ownsRow base 5 1 v l.length (l.map bv)

theorem infoByte : (Tryz.prog.info? 5).map (fun i => (i.zero, i.size, i.bytes)) = some (some (.int .u8 0), 1, 1) := by kernel_rfl

theorem OwnB.form {w : World} {base : Nat} {v : Value} {l : List UInt8} (h : OwnB w base v l) (hl : 0 < l.length) :
  ∃ g cap, v = .slice (some ⟨g, 0, none⟩) l.length cap ∧ base ≤ g ∧ g < w.heap.size := World.ownsRow.form h hl
theorem OwnB.form' {w : World} {base : Nat} {v : Value} {l : List UInt8} (h : OwnB w base v l) (hl : 0 < l.length) :
  ∃ g n cap, v = .slice (some ⟨g, 0, none⟩) n cap ∧ Hid (n = l.length) ∧ base ≤ g ∧ g < w.heap.size := by
 obtain ⟨g, cap, h1, h2, h3⟩ := h.form hl
 exact ⟨g, l.length, cap, h1, Lib.hid rfl, h2, h3⟩
theorem OwnB.alloc {w : World} {base : Nat} {v : Value} {l : List UInt8} (h : OwnB w base v l) (o : Obj) : OwnB (w.alloc o) base v l := World.ownsRow.alloc h o
theorem OwnB.nil (w : World) (base : Nat) : OwnB w base (.slice none 0 0) [] := World.ownsRow_nil w base _ _
theorem below_own {B base : Nat} {w0 w w' : World} {v : Value} {l : List UInt8} (h : Below B w0 w) (hown : OwnB w base v l) (hg : w.grownBy w' v.ownBlock) (hB : B ≤ base) (hw : B ≤ w.heap.size) : Below B w0 w' :=
 h.grown hg hw (fun k hk => Nat.le_trans hB (World.ownsRow.lt hown k hk).1)

theorem run_append_of_nil {P : Program} (w : World) (base : Nat) (t ty e : TypeId) (i : TypeInfo) (size : Nat) (ht : P.underlying t = some (.slice e)) (hi : P.info? e = some i)
  (v : Value) (n : Nat) (xs : List Value) (hown : w.ownsRow base e size v n xs) (c : Nat) : (Builtin.append_ #[t, t] ty #[v, .slice none 0 c]).run P w = .ok v w := by
 rcases hown.2 with ⟨rfl, rfl⟩ | ⟨g, cap, cur, rfl, _, _, hnc, _⟩
 ·simp [Builtin.append_, run_underlying ht, sizeOf, typeInfo, hi, Builtin.lenOf, Builtin.firstCells]
 ·simp [Builtin.append_, run_underlying ht, sizeOf, typeInfo, hi, Builtin.lenOf, Builtin.firstCells, hnc, storeCells]

theorem run_append_bytes (w : World) (base : Nat) (v : Value) (l m : List UInt8) (hown : OwnB w base v l) (A : Option Addr) (c : Nat) (hsrc : Src w A m) (hlen : l.length + m.length ≤ 140737488355328) (hbase : base ≤ w.heap.size) (ty : TypeId) :
  ∃ v' w', (Builtin.append_ #[25, 25] ty #[v, .slice A m.length c]).run Tryz.prog w = .ok v' w' ∧ OwnB w' base v' (l ++ m) ∧ w.grownBy w' v.ownBlock := by
 obtain ⟨i, hi, hz0, hz1, hz2⟩ := info_parts infoByte
 by_cases hm : m = []
 ·subst hm
  cases A with
  | none => exact ⟨v, w, run_append_of_nil w base _ _ _ i 1 Tryz.underlying25 hi v _ _ hown c, by simpa using hown, World.grownBy.refl w _⟩
  | some ad =>
   obtain ⟨v', w', h1, h2, h3, _⟩ := run_append_own (P := Tryz.prog) w base 25 ty 5 i (.int .u8 0) 1 1 Tryz.underlying25 hi hz0 hz1 hz2 rfl (by decide) v l.length (l.map bv) hown ad 0 c [] rfl (by simp) (by simp)
    (by simp [maxLen]; simp at hlen; omega) (by simp at hlen; omega) hbase
   exact ⟨v', w', h1, by simpa [OwnB] using h2, h3⟩
 ·obtain ⟨b, o, rfl, _, hc⟩ := hsrc hm
  obtain ⟨v', w', h1, h2, h3, _⟩ := run_append_own (P := Tryz.prog) w base 25 ty 5 i (.int .u8 0) 1 1 Tryz.underlying25 hi hz0 hz1 hz2 rfl (by decide) v l.length (l.map bv) hown ⟨b, o, none⟩ m.length c (m.map bv) (by simp)
   (fun j u hu => by
    rw [addr_add]
    rw [List.getElem?_map] at hu
    obtain ⟨x, hx, rfl⟩ := Option.map_eq_some_iff.1 hu
    exact hc j x hx) (oneCell_bv m) (by simp [maxLen]; omega) (by omega) hbase
  exact ⟨v', w', h1, by simpa [OwnB] using h2, h3⟩

theorem wpList_append_bytes {w : World} {ops : Array Oper} {rest : List Oper} {o : Oper} {a : Act} {Q : Exit → Act → World → Prop} (hgd : o.guard = none) (s x : Operand)
  (ho : o.op = .call { callee := .builtin .append, args := #[s, x], argTypes := #[25, 25] }) (base : Nat) (v : Value) (l : List UInt8) (hs : a.eval s = v) (hown : OwnB w base v l)
  (A : Option Addr) (m : List UInt8) (c : Nat) (hx : a.eval x = .slice A m.length c) (hsrc : Src w A m) (hlen : l.length + m.length ≤ 140737488355328) (hbase : base ≤ w.heap.size)
  (h : ∀ v' w', OwnB w' base v' (l ++ m) → w.grownBy w' v.ownBlock → wpList Tryz.prog ops Q rest (a.put o.dst v') w') : wpList Tryz.prog ops Q (o :: rest) a w := by
 refine wpList_plain hgd fun K hK => ?_
 obtain ⟨v', w', hrun, h2, h3⟩ := run_append_bytes w base v l m hown A c hsrc hlen hbase o.type
 unfold Oper.wp execOp
 simp only [ho, resolve, invoke, builtin, Sem.run_bind, Sem.run_pure, Result.andThen_ok, List.map_toArray, List.map_cons, List.map_nil, hs, hx, hrun]
 exact hK _ _ (h v' w' h2 h3)
end Go.Proofs.YtfhcpdbahbbmaaaGreatDoor

end
section
namespace Go.Proofs.YtfhcpdbahbbmaaaGreatDoor
open Go.RowKit Go.Lib

set_option maxHeartbeats 2000000 in
set_option maxRecDepth 100000 in
theorem rightR_any (w : World) (x : Nat) (hx : x < (2^256)) : Calls Tryz.prog 53 #[modV, fv x] w fun e w' => e = .returned (.bool (decide (x < pM))) ∧ Below w.heap.size w w' := by
  obtain ⟨p, hp⟩ : ∃ p, p = 115792089237316195423570985008687907853269984665640564039457584007908834671663 := ⟨_, rfl⟩
  obtain ⟨b, hb⟩ : ∃ b, b = decide (x < pM) := ⟨_, rfl⟩
  have cb : ∀ w, Calls Tryz.prog 112 #[fv x, fv p] w fun e w' => e = .returned (.bool b) ∧ Below w.heap.size w w' := by
    intro w; rw [hb, pM_eq, ← hp]; exact below_at w x p rfl rfl hx (by omega)
  have hpc : fv p = .agg #[.int .u64 18446744069414583343, .int .u64 18446744073709551615, .int .u64 18446744073709551615, .int .u64 18446744073709551615] := by rw [hp]; exact fv_P
  obtain ⟨x0, x1, x2, x3, fx⟩ := words_fv x hx
  have FX := Lib.hid fx
  have FP := Lib.hid hpc
  rw [fx, ← hb]
  unfold modV
  clear fx hpc hx hp hb
  go_enter Tryz.func53, Tryz.ntmps53
  go_wp2_with (first | ((with_reducible refine here_load (d := some 5) ?_); refine wpList_load_fv rfl _ _ rfl (w.heap.size + 1) rfl (x) _ _ _ (blk_new2 w _ _ _) (FX.out) Tryz.underlying97 rfl (by kernel_rfl) ?_) | ((with_reducible refine here_load (d := some 7) ?_); refine wpList_load_part rfl _ _ rfl w.heap.size rfl p [.int .u64 18446744069414583343, .int .u64 18446744073709551615, .int .u64 18446744073709551615, .int .u64 18446744073709551615] _ (mod_range ((Blk.new w _ _).alloc _)) FP.out Tryz.underlying97 rfl (by kernel_rfl) ?_))
  refine (cb _).mono ?_
  rintro e w1 ⟨rfl, k1⟩
  go_wp2
  go_ret
  exact ⟨rfl, Below.gr (below_alloc2 w _ _) k1⟩

theorem div_word (a r s : Nat) (hs : s ≤ 56) : (a + 18446744073709551616 * r) / 2 ^ s % 256 = a / 2 ^ s % 256 := by
  obtain ⟨u, hu⟩ : ∃ u, 2 ^ s * (256 * u) = 18446744073709551616 := by
    refine ⟨2 ^ (56 - s), ?_⟩
    have : 2 ^ s * 2 ^ (56 - s) = 2 ^ 56 := by rw [← Nat.pow_add]; congr 1; omega
    rw [show (256 : Nat) * 2 ^ (56 - s) = 2 ^ (56 - s) * 256 from Nat.mul_comm _ _, ← Nat.mul_assoc, this]
  rw [← hu, Nat.mul_assoc, Nat.add_mul_div_left _ _ (Nat.two_pow_pos s), Nat.mul_assoc, Nat.add_mul_mod_self_left]
theorem shift_word (z i s w r : Nat) (hz : z / 2 ^ (64 * i) = w + 18446744073709551616 * r) (hs : s ≤ 56) : z / 2 ^ (64 * i + s) % 256 = w / 2 ^ s % 256 := by
  rw [Nat.pow_add, ← Nat.div_div_eq_div_mul, hz, div_word w r s hs]
theorem lowB_get (z : Nat) : ∀ (k j : Nat), j < k → (lowB z k)[j]? = some (byteN z (k - 1 - j))
  | 0, j, h => by omega
  | k + 1, 0, _ => by simp [lowB]
  | k + 1, j + 1, h => by
    rw [lowB, List.getElem?_cons_succ, lowB_get z k j (by omega)]
    congr 2
    omega
theorem take_bytes (z n : Nat) (h : n < 32) : (bytesS z).take n ++ [byteN z (31 - n)] = (bytesS z).take (n + 1) := by
  rw [List.take_add_one, bytesS, lowB_get z 32 n h]
  rfl
set_option maxHeartbeats 4000000 in
set_option maxRecDepth 100000 in
theorem bytesR_any (w : World) (z : Nat) (hz : z < (2^256)) : Calls Tryz.prog 102 #[fv z] w fun e w' => ∃ g cap, e = .returned (.slice (some ⟨g, 0, none⟩) 32 cap) ∧ OwnB w' (w.heap.size + 1) (.slice (some ⟨g, 0, none⟩) 32 cap) (bytesS z) ∧ g < w'.heap.size ∧ Below w.heap.size w w' := by
  obtain ⟨z0, z1, z2, z3, a0, a1, a2, a3, ez, fz⟩ := words_of z hz
  have s0 := fun s hs => shift_word z 0 s z0 (z1 + 18446744073709551616 * z2 + 340282366920938463463374607431768211456 * z3) (by omega) hs
  have s1 := fun s hs => shift_word z 1 s z1 (z2 + 18446744073709551616 * z3) (by omega) hs
  have s2 := fun s hs => shift_word z 2 s z2 z3 (by omega) hs
  have s3 := fun s hs => shift_word z 3 s z3 0 (by omega) hs
  have HS := Lib.hid (And.intro s0 (And.intro s1 (And.intro s2 s3)))
  rw [fz]
  clear ez fz hz a0 a1 a2 a3 s0 s1 s2 s3
  go_enter Tryz.func102, Tryz.ntmps102
  go_wp2_with fail
  go_loopw [3, 4] (fun v i wr => Below w.heap.size w wr ∧ Blk wr w.heap.size 97 #[.int .u64 (z0 : Int), .int .u64 (z1 : Int), .int .u64 (z2 : Int), .int .u64 (z3 : Int)] ∧ Hid ((i = .int .i64 3 ∧ OwnB wr (w.heap.size + 1) v ((bytesS z).take 0)) ∨ (i = .int .i64 2 ∧ OwnB wr (w.heap.size + 1) v ((bytesS z).take 8)) ∨ (i = .int .i64 1 ∧ OwnB wr (w.heap.size + 1) v ((bytesS z).take 16)) ∨ (i = .int .i64 0 ∧ OwnB wr (w.heap.size + 1) v ((bytesS z).take 24)) ∨ (i = .int .i64 (-1) ∧ OwnB wr (w.heap.size + 1) v ((bytesS z).take 32)))) (fun _ i _ => (intOf i + 1).toNat)
  case atStart => exact ⟨(Below.refl _ _).alloc (Nat.le_refl _) _, Blk.new w _ _, Lib.hid (.inl ⟨rfl, OwnB.nil _ _⟩)⟩
  case round =>
    obtain ⟨hb, BZ, HI⟩ := hrel
    rcases HI.out with ⟨rfl, hown⟩ | ⟨rfl, hown⟩ | ⟨rfl, hown⟩ | ⟨rfl, hown⟩ | ⟨rfl, hown⟩
    · clear HI
      go_wp2_with fail
      go_loopw [3, 5] (fun v s wr => ∃ t : Nat, t ≤ 8 ∧ s = .int .i64 (56 - 8 * (t : Int)) ∧ Below w.heap.size w wr ∧ Blk wr w.heap.size 97 #[.int .u64 (z0 : Int), .int .u64 (z1 : Int), .int .u64 (z2 : Int), .int .u64 (z3 : Int)] ∧ OwnB wr (w.heap.size + 1) v ((bytesS z).take (0 + t))) (fun _ s _ => (intOf s + 8).toNat)
      case atStart => exact ⟨0, by omega, rfl, hb, BZ, hown⟩
      case round =>
        clear hb BZ hown
        obtain ⟨t, ht, rfl, hb, BZ, hown⟩ := hrel
        by_cases hlt : t < 8
        · obtain ⟨s, hs⟩ : ∃ s, s = 56 - 8 * t := ⟨_, rfl⟩
          have hs1 : (56 - 8 * (t : Int)) = (s : Int) := by omega
          obtain ⟨x, hx⟩ : ∃ x, x = byteN z (31 - (0 + t)) := ⟨_, rfl⟩
          have hxe : (z3 : Int) / 2 ^ s % 256 = (x.toNat : Int) := by
            have h := HS.out.2.2.2 s (by omega)
            have e : 8 * (31 - (0 + t)) = 64 * 3 + s := by omega
            rw [hx, byteN, UInt8.toNat_ofNat', e, h]
            have : ((z3 : Int) / 2 ^ s % 256) = ((z3 / 2 ^ s % 256 : Nat) : Int) := by push_cast; rfl
            rw [this]
            omega
          have hlen : ((bytesS z).take (0 + t)).length ≤ 32 := by rw [List.length_take, bytesS_length]; omega
          have HX := Lib.hid (And.intro hx (And.intro hxe hlen))
          have pc : wr.cell? ⟨w.heap.size, 3, none⟩ = some (.int .u64 (z3 : Int)) := BZ.cell 3
          have hsl : s ≤ 56 := by omega
          have HT := Lib.hid hs
          have lz := BZ.lt
          rw [hs1]
          clear hx hxe hlen hs
          go_wp2_with (at_builtin
                       refine wpList_append_bytes rfl (.tmp 14) (.tmp 21) rfl (w.heap.size + 1) _ ((bytesS z).take (0 + t)) rfl (hown.alloc _) (some ⟨wr.heap.size, 0, none⟩) [x] 1 rfl (Src.of_blk (Blk.eq_ (Blk.new wr 5 _) (by rw [HX.out.2.1]; rfl))) (by have := HX.out.2.2; simp only [List.length_singleton]; omega) (by simp <;> omega) ?_
                       intro v3 w3 hv3 hg3
                       have hb3 := below_own (hb.alloc (by omega) _) (hown.alloc _) hg3 (Nat.le_succ _) (by simp <;> omega)
                       have BZ3 := Blk.grown (BZ.alloc _) hg3 (fun e => by have := (World.ownsRow.lt hown _ e.symm).1; omega)
                       rw [HX.out.1, take_bytes z (0 + t) (by omega)] at hv3)
          go_roundw
          case rel => exact ⟨t + 1, by omega, by congr 1; omega, hb3, BZ3, hv3⟩
          case measure => simp [intOf]; omega
        · obtain rfl : t = 8 := by omega
          go_wp2
          refine ⟨⟨hb, BZ, Lib.hid (.inr (.inl (⟨rfl, hown⟩)))⟩, by decide⟩
    · clear HI
      go_wp2_with fail
      go_loopw [3, 5] (fun v s wr => ∃ t : Nat, t ≤ 8 ∧ s = .int .i64 (56 - 8 * (t : Int)) ∧ Below w.heap.size w wr ∧ Blk wr w.heap.size 97 #[.int .u64 (z0 : Int), .int .u64 (z1 : Int), .int .u64 (z2 : Int), .int .u64 (z3 : Int)] ∧ OwnB wr (w.heap.size + 1) v ((bytesS z).take (8 + t))) (fun _ s _ => (intOf s + 8).toNat)
      case atStart => exact ⟨0, by omega, rfl, hb, BZ, hown⟩
      case round =>
        clear hb BZ hown
        obtain ⟨t, ht, rfl, hb, BZ, hown⟩ := hrel
        by_cases hlt : t < 8
        · obtain ⟨s, hs⟩ : ∃ s, s = 56 - 8 * t := ⟨_, rfl⟩
          have hs1 : (56 - 8 * (t : Int)) = (s : Int) := by omega
          obtain ⟨x, hx⟩ : ∃ x, x = byteN z (31 - (8 + t)) := ⟨_, rfl⟩
          have hxe : (z2 : Int) / 2 ^ s % 256 = (x.toNat : Int) := by
            have h := HS.out.2.2.1 s (by omega)
            have e : 8 * (31 - (8 + t)) = 64 * 2 + s := by omega
            rw [hx, byteN, UInt8.toNat_ofNat', e, h]
            have : ((z2 : Int) / 2 ^ s % 256) = ((z2 / 2 ^ s % 256 : Nat) : Int) := by push_cast; rfl
            rw [this]
            omega
          have hlen : ((bytesS z).take (8 + t)).length ≤ 32 := by rw [List.length_take, bytesS_length]; omega
          have HX := Lib.hid (And.intro hx (And.intro hxe hlen))
          have pc : wr.cell? ⟨w.heap.size, 2, none⟩ = some (.int .u64 (z2 : Int)) := BZ.cell 2
          have hsl : s ≤ 56 := by omega
          have HT := Lib.hid hs
          have lz := BZ.lt
          rw [hs1]
          clear hx hxe hlen hs
          go_wp2_with (at_builtin
                       refine wpList_append_bytes rfl (.tmp 14) (.tmp 21) rfl (w.heap.size + 1) _ ((bytesS z).take (8 + t)) rfl (hown.alloc _) (some ⟨wr.heap.size, 0, none⟩) [x] 1 rfl (Src.of_blk (Blk.eq_ (Blk.new wr 5 _) (by rw [HX.out.2.1]; rfl))) (by have := HX.out.2.2; simp only [List.length_singleton]; omega) (by simp <;> omega) ?_
                       intro v3 w3 hv3 hg3
                       have hb3 := below_own (hb.alloc (by omega) _) (hown.alloc _) hg3 (Nat.le_succ _) (by simp <;> omega)
                       have BZ3 := Blk.grown (BZ.alloc _) hg3 (fun e => by have := (World.ownsRow.lt hown _ e.symm).1; omega)
                       rw [HX.out.1, take_bytes z (8 + t) (by omega)] at hv3)
          go_roundw
          case rel => exact ⟨t + 1, by omega, by congr 1; omega, hb3, BZ3, hv3⟩
          case measure => simp [intOf]; omega
        · obtain rfl : t = 8 := by omega
          go_wp2
          refine ⟨⟨hb, BZ, Lib.hid (.inr (.inr (.inl (⟨rfl, hown⟩))))⟩, by decide⟩
    · clear HI
      go_wp2_with fail
      go_loopw [3, 5] (fun v s wr => ∃ t : Nat, t ≤ 8 ∧ s = .int .i64 (56 - 8 * (t : Int)) ∧ Below w.heap.size w wr ∧ Blk wr w.heap.size 97 #[.int .u64 (z0 : Int), .int .u64 (z1 : Int), .int .u64 (z2 : Int), .int .u64 (z3 : Int)] ∧ OwnB wr (w.heap.size + 1) v ((bytesS z).take (16 + t))) (fun _ s _ => (intOf s + 8).toNat)
      case atStart => exact ⟨0, by omega, rfl, hb, BZ, hown⟩
      case round =>
        clear hb BZ hown
        obtain ⟨t, ht, rfl, hb, BZ, hown⟩ := hrel
        by_cases hlt : t < 8
        · obtain ⟨s, hs⟩ : ∃ s, s = 56 - 8 * t := ⟨_, rfl⟩
          have hs1 : (56 - 8 * (t : Int)) = (s : Int) := by omega
          obtain ⟨x, hx⟩ : ∃ x, x = byteN z (31 - (16 + t)) := ⟨_, rfl⟩
          have hxe : (z1 : Int) / 2 ^ s % 256 = (x.toNat : Int) := by
            have h := HS.out.2.1 s (by omega)
            have e : 8 * (31 - (16 + t)) = 64 * 1 + s := by omega
            rw [hx, byteN, UInt8.toNat_ofNat', e, h]
            have : ((z1 : Int) / 2 ^ s % 256) = ((z1 / 2 ^ s % 256 : Nat) : Int) := by push_cast; rfl
            rw [this]
            omega
          have hlen : ((bytesS z).take (16 + t)).length ≤ 32 := by rw [List.length_take, bytesS_length]; omega
          have HX := Lib.hid (And.intro hx (And.intro hxe hlen))
          have pc : wr.cell? ⟨w.heap.size, 1, none⟩ = some (.int .u64 (z1 : Int)) := BZ.cell 1
          have hsl : s ≤ 56 := by omega
          have HT := Lib.hid hs
          have lz := BZ.lt
          rw [hs1]
          clear hx hxe hlen hs
          go_wp2_with (at_builtin
                       refine wpList_append_bytes rfl (.tmp 14) (.tmp 21) rfl (w.heap.size + 1) _ ((bytesS z).take (16 + t)) rfl (hown.alloc _) (some ⟨wr.heap.size, 0, none⟩) [x] 1 rfl (Src.of_blk (Blk.eq_ (Blk.new wr 5 _) (by rw [HX.out.2.1]; rfl))) (by have := HX.out.2.2; simp only [List.length_singleton]; omega) (by simp <;> omega) ?_
                       intro v3 w3 hv3 hg3
                       have hb3 := below_own (hb.alloc (by omega) _) (hown.alloc _) hg3 (Nat.le_succ _) (by simp <;> omega)
                       have BZ3 := Blk.grown (BZ.alloc _) hg3 (fun e => by have := (World.ownsRow.lt hown _ e.symm).1; omega)
                       rw [HX.out.1, take_bytes z (16 + t) (by omega)] at hv3)
          go_roundw
          case rel => exact ⟨t + 1, by omega, by congr 1; omega, hb3, BZ3, hv3⟩
          case measure => simp [intOf]; omega
        · obtain rfl : t = 8 := by omega
          go_wp2
          refine ⟨⟨hb, BZ, Lib.hid (.inr (.inr (.inr (.inl (⟨rfl, hown⟩)))))⟩, by decide⟩
    · clear HI
      go_wp2_with fail
      go_loopw [3, 5] (fun v s wr => ∃ t : Nat, t ≤ 8 ∧ s = .int .i64 (56 - 8 * (t : Int)) ∧ Below w.heap.size w wr ∧ Blk wr w.heap.size 97 #[.int .u64 (z0 : Int), .int .u64 (z1 : Int), .int .u64 (z2 : Int), .int .u64 (z3 : Int)] ∧ OwnB wr (w.heap.size + 1) v ((bytesS z).take (24 + t))) (fun _ s _ => (intOf s + 8).toNat)
      case atStart => exact ⟨0, by omega, rfl, hb, BZ, hown⟩
      case round =>
        clear hb BZ hown
        obtain ⟨t, ht, rfl, hb, BZ, hown⟩ := hrel
        by_cases hlt : t < 8
        · obtain ⟨s, hs⟩ : ∃ s, s = 56 - 8 * t := ⟨_, rfl⟩
          have hs1 : (56 - 8 * (t : Int)) = (s : Int) := by omega
          obtain ⟨x, hx⟩ : ∃ x, x = byteN z (31 - (24 + t)) := ⟨_, rfl⟩
          have hxe : (z0 : Int) / 2 ^ s % 256 = (x.toNat : Int) := by
            have h := HS.out.1 s (by omega)
            have e : 8 * (31 - (24 + t)) = 64 * 0 + s := by omega
            rw [hx, byteN, UInt8.toNat_ofNat', e, h]
            have : ((z0 : Int) / 2 ^ s % 256) = ((z0 / 2 ^ s % 256 : Nat) : Int) := by push_cast; rfl
            rw [this]
            omega
          have hlen : ((bytesS z).take (24 + t)).length ≤ 32 := by rw [List.length_take, bytesS_length]; omega
          have HX := Lib.hid (And.intro hx (And.intro hxe hlen))
          have pc : wr.cell? ⟨w.heap.size, 0, none⟩ = some (.int .u64 (z0 : Int)) := BZ.cell 0
          have hsl : s ≤ 56 := by omega
          have HT := Lib.hid hs
          have lz := BZ.lt
          rw [hs1]
          clear hx hxe hlen hs
          go_wp2_with (at_builtin
                       refine wpList_append_bytes rfl (.tmp 14) (.tmp 21) rfl (w.heap.size + 1) _ ((bytesS z).take (24 + t)) rfl (hown.alloc _) (some ⟨wr.heap.size, 0, none⟩) [x] 1 rfl (Src.of_blk (Blk.eq_ (Blk.new wr 5 _) (by rw [HX.out.2.1]; rfl))) (by have := HX.out.2.2; simp only [List.length_singleton]; omega) (by simp <;> omega) ?_
                       intro v3 w3 hv3 hg3
                       have hb3 := below_own (hb.alloc (by omega) _) (hown.alloc _) hg3 (Nat.le_succ _) (by simp <;> omega)
                       have BZ3 := Blk.grown (BZ.alloc _) hg3 (fun e => by have := (World.ownsRow.lt hown _ e.symm).1; omega)
                       rw [HX.out.1, take_bytes z (24 + t) (by omega)] at hv3)
          go_roundw
          case rel => exact ⟨t + 1, by omega, by congr 1; omega, hb3, BZ3, hv3⟩
          case measure => simp [intOf]; omega
        · obtain rfl : t = 8 := by omega
          go_wp2
          refine ⟨⟨hb, BZ, Lib.hid (.inr (.inr (.inr (.inr (⟨rfl, hown⟩)))))⟩, by decide⟩
    · clear HI
      rw [List.take_of_length_le (by rw [bytesS_length]; exact Nat.le_refl _)] at hown
      obtain ⟨g, n, cap, rfl, hn, _, hl⟩ := hown.form' (by rw [bytesS_length]; omega)
      have hn32 : n = 32 := by rw [hn.out, bytesS_length]
      subst hn32
      go_wp2
      go_ret
      exact ⟨g, cap, rfl, hown, hl, hb⟩
end Go.Proofs.YtfhcpdbahbbmaaaGreatDoor

end
section
namespace Go.Proofs.YtfhcpdbahbbmaaaGreatDoor.Cu
open Go.RowKit Go.Proofs.YtfhcpdbahbbmaaaGreatDoor Go.Proofs.YtfhcpdbahbbmaaaGreatDoor.Sy
set_option maxRecDepth 100000
set_option maxHeartbeats 4000000

def modcs : Array Value := #[.int .u64 18446744069414583343, .int .u64 18446744073709551615, .int .u64 18446744073709551615, .int .u64 18446744073709551615, .int .u64 4294968273, .int .u64 0, .int .u64 0]
def mod0 : Array Value := #[.int .u64 0, .int .u64 0, .int .u64 0, .int .u64 0, .int .u64 0, .int .u64 0, .int .u64 0]
theorem refmul_c (w : World) (a b : Fp) : Calls Tryz.prog 106 #[.agg modcs, fv a.val, fv b.val] w (Gets w (fv (a * b).val)) := mulR_any w a.val b.val (lt4 a) (lt4 b)
theorem refadd_c (w : World) (a b : Fp) : Calls Tryz.prog 105 #[.agg modcs, fv a.val, fv b.val] w (Gets w (fv (a + b).val)) := addR_any w a.val b.val (lt4 a) (lt4 b)
theorem refsub_c (w : World) (a b : Fp) : Calls Tryz.prog 127 #[.agg modcs, fv a.val, fv b.val] w (Gets w (fv (a - b).val)) := by rw [← val_sub]; exact subR_any w a.val b.val (lt4 a) (lt4 b)
theorem inv_pw (a : Nat) : invR a = pw a (115792089237316195423570985008687907853269984665640564039457584007908834671663 - 2) := by
 have h := invR_pow a
 rw [invR_red] at h
 rw [h, ← eInv_is]
 rfl
theorem refinv_c (w : World) (a : Fp) : Calls Tryz.prog 81 #[.agg modcs, fv a.val] w (Gets w (fv (finv a).val)) := by
 have e : (finv a).val = invR a.val := rfl
 have h := invRef_any w a.val (lt4 a)
 rw [← inv_pw, ← e] at h
 exact h
theorem eql_num (w : World) (F : Slots) (o : Oper) (x y : Operand) (n m : Nat) {yt : TypeId} (ho : o.op = .binOp .eql 97 x y yt) (hx : evF F x = fv n) (hy : evF F y = fv m) (hn : n < K4) (hm : m < K4) : (execOp (evF F) o).run Tryz.prog w = .ok (.value (.bool (decide (n = m)))) w := by
 have h1 := Nm.run_eqGuard_fv .eql x y n m w
 have h2 := Nm.run_eql_fv w n m hn hm
 unfold execOp
 simp only [ho, hx, hy, Sem.run_bind, h1, h2, Result.andThen_ok, Sem.run_pure]
theorem small_c (w : World) (k : Nat) (hk : k < 18446744073709551616) : Calls Tryz.prog 132 #[.int .u64 (k : Int)] w (Gets w (fv k)) := by
 rw [fv_small k hk]
 refine Sy.enter (args := [.int .u64 (k : Int)]) Tryz.func132 rfl kL ?_
 refine sC ?_
 refine sM 97 (fcs 0) (fun g0 => ?_)
 refine sA ?_
 refine sP (.int .u64 (k : Int)) <| sP (.agg #[.int .u64 (k : Int), .int .u64 0, .int .u64 0, .int .u64 0]) <| sW 0 g0 97 (fcs 0) #[.int .u64 (k : Int), .int .u64 0, .int .u64 0, .int .u64 0] (wS 0 97 #[.int .u64 (k : Int), .int .u64 0, .int .u64 0, .int .u64 0] rfl) ?_
 refine sG <| Sy.ret ?_
 exact Sy.ret1 rfl (.inl (Res.cell (ty' := 97) g0 0 #[.int .u64 (k : Int), .int .u64 0, .int .u64 0, .int .u64 0] _ kR kR Tryz.underlying97 rfl kR kR))
theorem mulR_c (w : World) (a b : Fp) : Calls Tryz.prog 82 #[fv a.val, fv b.val] w (Gets w (fv (a * b).val)) := by
 refine Sy.enter (args := [fv a.val, fv b.val]) Tryz.func82 rfl kL ?_
 refine sC ?_
 refine sM 97 (fcs a.val) (fun g0 => ?_)
 refine sM 97 (fcs b.val) (fun g1 => ?_)
 refine sM 97 (fcs 0) (fun g2 => ?_)
 refine sH (fun j => j == 4) ?_
 refine sD 0 rfl (.agg modcs) (qF 54 #[] (refP_any)) <| sD 1 rfl (fv a.val) (qL 0 g0 0 4 97 97 (fcs a.val) rfl Tryz.underlying97) <| sD 2 rfl (fv b.val) (qL 1 g1 0 4 97 97 (fcs b.val) rfl Tryz.underlying97) ?_
 obtain ⟨z1, hz1⟩ : ∃ z : Fp, z = a * b := ⟨_, rfl⟩
 refine sD 3 rfl (fv z1.val) (qF 106 #[.agg modcs, fv a.val, fv b.val] (fun w => by rw [hz1]; exact refmul_c w a b)) <| sX 4 rfl 2 g2 97 (fcs 0) (fcs z1.val) (wS 0 97 (fcs z1.val) rfl) ?_
 refine sI ?_
 refine Sy.ret ?_
 rw [show (fv (a * b).val : Value) = fv z1.val from by rw [hz1]]
 exact rC (v := fv z1.val) 97 g2 2 (fcs z1.val) rfl Tryz.underlying97
theorem addR_c (w : World) (a b : Fp) : Calls Tryz.prog 114 #[fv a.val, fv b.val] w (Gets w (fv (a + b).val)) := by
 refine Sy.enter (args := [fv a.val, fv b.val]) Tryz.func114 rfl kL ?_
 refine sC ?_
 refine sM 97 (fcs a.val) (fun g0 => ?_)
 refine sM 97 (fcs b.val) (fun g1 => ?_)
 refine sM 97 (fcs 0) (fun g2 => ?_)
 refine sH (fun j => j == 4) ?_
 refine sD 0 rfl (.agg modcs) (qF 54 #[] (refP_any)) <| sD 1 rfl (fv a.val) (qL 0 g0 0 4 97 97 (fcs a.val) rfl Tryz.underlying97) <| sD 2 rfl (fv b.val) (qL 1 g1 0 4 97 97 (fcs b.val) rfl Tryz.underlying97) ?_
 obtain ⟨z1, hz1⟩ : ∃ z : Fp, z = a + b := ⟨_, rfl⟩
 refine sD 3 rfl (fv z1.val) (qF 105 #[.agg modcs, fv a.val, fv b.val] (fun w => by rw [hz1]; exact refadd_c w a b)) <| sX 4 rfl 2 g2 97 (fcs 0) (fcs z1.val) (wS 0 97 (fcs z1.val) rfl) ?_
 refine sI ?_
 refine Sy.ret ?_
 rw [show (fv (a + b).val : Value) = fv z1.val from by rw [hz1]]
 exact rC (v := fv z1.val) 97 g2 2 (fcs z1.val) rfl Tryz.underlying97
theorem subR_c (w : World) (a b : Fp) : Calls Tryz.prog 113 #[fv a.val, fv b.val] w (Gets w (fv (a - b).val)) := by
 refine Sy.enter (args := [fv a.val, fv b.val]) Tryz.func113 rfl kL ?_
 refine sC ?_
 refine sM 97 (fcs a.val) (fun g0 => ?_)
 refine sM 97 (fcs b.val) (fun g1 => ?_)
 refine sM 97 (fcs 0) (fun g2 => ?_)
 refine sH (fun j => j == 4) ?_
 refine sD 0 rfl (.agg modcs) (qF 54 #[] (refP_any)) <| sD 1 rfl (fv a.val) (qL 0 g0 0 4 97 97 (fcs a.val) rfl Tryz.underlying97) <| sD 2 rfl (fv b.val) (qL 1 g1 0 4 97 97 (fcs b.val) rfl Tryz.underlying97) ?_
 obtain ⟨z1, hz1⟩ : ∃ z : Fp, z = a - b := ⟨_, rfl⟩
 refine sD 3 rfl (fv z1.val) (qF 127 #[.agg modcs, fv a.val, fv b.val] (fun w => by rw [hz1]; exact refsub_c w a b)) <| sX 4 rfl 2 g2 97 (fcs 0) (fcs z1.val) (wS 0 97 (fcs z1.val) rfl) ?_
 refine sI ?_
 refine Sy.ret ?_
 rw [show (fv (a - b).val : Value) = fv z1.val from by rw [hz1]]
 exact rC (v := fv z1.val) 97 g2 2 (fcs z1.val) rfl Tryz.underlying97
theorem zeroR_c (w : World)  : Calls Tryz.prog 80 #[] w (Gets w (pv 0 0 true)) := by
 refine Sy.enter (args := []) Tryz.func80 rfl kL ?_
 refine sC ?_
 refine sM 71 (pcs 0 0 false) (fun g0 => ?_)
 refine sA ?_
 refine sP (pv 0 0 true) <| sW 0 g0 71 (pcs 0 0 false) (pcs 0 0 true) (wS 0 71 (pcs 0 0 true) rfl) ?_
 refine sG <| Sy.ret ?_
 exact rC (v := pv 0 0 true) 71 g0 0 (pcs 0 0 true) rfl Tryz.underlying71
theorem baseR_c (w : World)  : Calls Tryz.prog 31 #[] w (Gets w (ptv bP)) := by
 refine Sy.enter (args := []) Tryz.func31 rfl kL ?_
 refine sC ?_
 refine sM 71 (pcs 0 0 false) (fun g0 => ?_)
 refine sA ?_
 refine sP (fv 55066263022277343669578718895168534326250603453777594175500187360389116729240) <| sP (fv 32670510020758816978083085130507043184471273380659243275938904335757337482424) <| sP (pv 55066263022277343669578718895168534326250603453777594175500187360389116729240 32670510020758816978083085130507043184471273380659243275938904335757337482424 false) <| sW 0 g0 71 (pcs 0 0 false) (pcs 55066263022277343669578718895168534326250603453777594175500187360389116729240 32670510020758816978083085130507043184471273380659243275938904335757337482424 false) (wS 0 71 (pcs 55066263022277343669578718895168534326250603453777594175500187360389116729240 32670510020758816978083085130507043184471273380659243275938904335757337482424 false) rfl) ?_
 refine sG <| Sy.ret ?_
 rw [show (ptv bP : Value) = pv 55066263022277343669578718895168534326250603453777594175500187360389116729240 32670510020758816978083085130507043184471273380659243275938904335757337482424 false from by kernel_rfl]
 exact rC (v := pv 55066263022277343669578718895168534326250603453777594175500187360389116729240 32670510020758816978083085130507043184471273380659243275938904335757337482424 false) 71 g0 0 (pcs 55066263022277343669578718895168534326250603453777594175500187360389116729240 32670510020758816978083085130507043184471273380659243275938904335757337482424 false) rfl Tryz.underlying71
theorem cubeR_c (w : World) (x : Fp) : Calls Tryz.prog 111 #[fv x.val] w (Gets w (fv (x * x * x + 7).val)) := by
 refine Sy.enter (args := [fv x.val]) Tryz.func111 rfl kL ?_
 refine sC ?_
 refine sM 97 (fcs x.val) (fun g0 => ?_)
 refine sM 97 (fcs 0) (fun g1 => ?_)
 refine sH (fun j => j == 7) ?_
 refine sD 0 rfl (fv x.val) (qL 0 g0 0 4 97 97 (fcs x.val) rfl Tryz.underlying97) <| sD 1 rfl (fv x.val) (qL 0 g0 0 4 97 97 (fcs x.val) rfl Tryz.underlying97) <| sD 2 rfl (fv x.val) (qL 0 g0 0 4 97 97 (fcs x.val) rfl Tryz.underlying97) ?_
 obtain ⟨z1, hz1⟩ : ∃ z : Fp, z = x * x := ⟨_, rfl⟩
 refine sD 3 rfl (fv z1.val) (qF 82 #[fv x.val, fv x.val] (fun w => by rw [hz1]; exact mulR_c w x x)) ?_
 obtain ⟨z2, hz2⟩ : ∃ z : Fp, z = x * z1 := ⟨_, rfl⟩
 refine sD 4 rfl (fv z2.val) (qF 82 #[fv x.val, fv z1.val] (fun w => by rw [hz2]; exact mulR_c w x z1)) ?_
 obtain ⟨z3, hz3⟩ : ∃ z : Fp, z = (7 : Fp) := ⟨_, rfl⟩
 refine sD 5 rfl (fv z3.val) (qF 132 #[.int .u64 7] (fun w => by rw [hz3]; exact small_c w 7 (by decide))) ?_
 obtain ⟨z4, hz4⟩ : ∃ z : Fp, z = z2 + z3 := ⟨_, rfl⟩
 refine sD 6 rfl (fv z4.val) (qF 114 #[fv z2.val, fv z3.val] (fun w => by rw [hz4]; exact addR_c w z2 z3)) <| sX 7 rfl 1 g1 97 (fcs 0) (fcs z4.val) (wS 0 97 (fcs z4.val) rfl) ?_
 refine sI ?_
 refine Sy.ret ?_
 rw [show (fv (x * x * x + 7).val : Value) = fv z4.val from by
  refine congrArg (fun t : Fp => fv t.val) ?_
  grobner]
 exact rC (v := fv z4.val) 97 g1 1 (fcs z4.val) rfl Tryz.underlying97
theorem pointR_c (w : World) (x y : Nat) (hx : x < K4) (hy : y < K4) : Calls Tryz.prog 83 #[fv x, fv y] w (Gets w (pv x y false)) := by
 refine Sy.enter (args := [fv x, fv y]) Tryz.func83 rfl kL ?_
 refine sC ?_
 refine sM 97 (fcs x) (fun g0 => ?_)
 refine sM 97 (fcs y) (fun g1 => ?_)
 refine sM 71 (pcs 0 0 false) (fun g2 => ?_)
 refine sH (fun j => j == 5) ?_
 refine sD 0 rfl (fv x) (qL 0 g0 0 4 97 97 (fcs x) rfl Tryz.underlying97) <| sD 1 rfl (fv x) (qF 58 #[fv x] (fun w => refFe_any w x lK)) <| sD 2 rfl (fv y) (qL 1 g1 0 4 97 97 (fcs y) rfl Tryz.underlying97) <| sD 3 rfl (fv y) (qF 58 #[fv y] (fun w => refFe_any w y lK)) <| sZ 4 rfl (pv x y false) <| sX 5 rfl 2 g2 71 (pcs 0 0 false) (pcs x y false) (wS 0 71 (pcs x y false) rfl) ?_
 refine sI ?_
 refine Sy.ret ?_
 exact rC (v := pv x y false) 71 g2 2 (pcs x y false) rfl Tryz.underlying71
theorem rightR_b (w : World) (x y : Nat) (i : Bool) (hx : x < K4) (hy : y < K4) : Calls Tryz.prog 126 #[pv x y i] w (Gets w (.bool (rightB x y i))) := by
 refine Sy.enter (args := [pv x y i]) Tryz.func126 rfl kL ?_
 refine sC ?_
 refine sM 71 (pcs x y i) (fun g0 => ?_)
 refine sP (.bool false) ?_
 refine sG <| Sy.seq <| sC ?_
 refine sP (.pointer (some ⟨g0, 8, none⟩)) <| sS (.bool i) (qC 0 g0 8 71 4 (pcs x y i) rfl Tryz.underlying4) ?_
 refine sG ?_
 cases i
 ·refine sU <| Sy.skip <| sB ?_
  refine sP (.pointer (some ⟨g0, 0, none⟩)) <| sS (fv x) (qL 0 g0 0 4 71 69 (pcs x y false) rfl Tryz.underlying69) <| sS (fv x) (qF 77 #[fv x] (fun w => refOf_any w x lK)) ?_
  refine sM 97 (fcs 0) (fun g1 => ?_)
  refine sW 1 g1 97 (fcs 0) (fcs x) (wS 0 97 (fcs x) rfl) ?_
  refine sA ?_
  refine sP (.pointer (some ⟨g0, 4, none⟩)) <| sS (fv y) (qL 0 g0 4 4 71 69 (pcs x y false) rfl Tryz.underlying69) <| sS (fv y) (qF 77 #[fv y] (fun w => refOf_any w y lK)) ?_
  refine sM 97 (fcs 0) (fun g2 => ?_)
  refine sW 2 g2 97 (fcs 0) (fcs y) (wS 0 97 (fcs y) rfl) ?_
  refine sA ?_
  refine sS (.agg modcs) (qF 54 #[] (refP_any)) ?_
  refine sM 102 mod0 (fun g3 => ?_)
  refine sW 3 g3 102 mod0 modcs (wS 0 102 modcs rfl) ?_
  refine sA ?_
  refine sS (.agg modcs) (qL 3 g3 0 7 102 102 modcs rfl Tryz.underlying102) <| sS (fv x) (qL 1 g1 0 4 97 97 (fcs x) rfl Tryz.underlying97) ?_
  obtain ⟨b1, hb1⟩ : ∃ z : Bool, z = decide (x < pM) := ⟨_, rfl⟩
  refine sS (.bool b1) (qF 53 #[.agg modcs, fv x] (fun w => by rw [hb1]; exact rightR_any w x lK)) <| sP (.bool b1) ?_
  refine sA ?_
  refine sS (.agg modcs) (qL 3 g3 0 7 102 102 modcs rfl Tryz.underlying102) <| sS (fv y) (qL 2 g2 0 4 97 97 (fcs y) rfl Tryz.underlying97) ?_
  obtain ⟨b2, hb2⟩ : ∃ z : Bool, z = decide (y < pM) := ⟨_, rfl⟩
  refine sS (.bool b2) (qF 53 #[.agg modcs, fv y] (fun w => by rw [hb2]; exact rightR_any w y lK)) <| sP (.bool b2) ?_
  refine sH (fun j => false) ?_
  refine sZ 0 rfl (.bool b1) <| sZ 1 rfl (.bool b1) ?_
  cases b1
  ·refine sQ 2 rfl <| sZ 3 rfl (.bool false) <| sZ 4 rfl (.bool false) <| sQ 5 rfl <| sQ 6 rfl <| sQ 7 rfl <| sQ 8 rfl <| sQ 9 rfl ?_
   refine sQ 10 rfl <| sZ 11 rfl (.bool false) <| sZ 12 rfl (.bool false) ?_
   refine sI ?_
   refine Sy.ret ?_
   rw [show (.bool (rightB x y false) : Value) = .bool false from by rw [rb_x (of_decide_eq_false hb1.symm)]]
   exact rV (.bool false) rfl
  ·obtain ⟨ux, rfl⟩ : ∃ u : Fp, x = u.val := ⟨⟨x, of_decide_eq_true hb1.symm⟩, rfl⟩
   refine sZ 2 rfl (.bool b2) <| sZ 3 rfl (.bool b2) <| sZ 4 rfl (.bool b2) ?_
   cases b2
   ·refine sQ 5 rfl <| sQ 6 rfl <| sQ 7 rfl <| sQ 8 rfl <| sQ 9 rfl <| sQ 10 rfl <| sZ 11 rfl (.bool false) <| sZ 12 rfl (.bool false) ?_
    refine sI ?_
    refine Sy.ret ?_
    rw [show (.bool (rightB ux.val y false) : Value) = .bool false from by rw [rb_y (of_decide_eq_false hb2.symm)]]
    exact rV (.bool false) rfl
   ·obtain ⟨uy, rfl⟩ : ∃ u : Fp, y = u.val := ⟨⟨y, of_decide_eq_true hb2.symm⟩, rfl⟩
    refine sD 5 rfl (fv uy.val) (qL 2 g2 0 4 97 97 (fcs uy.val) rfl Tryz.underlying97) <| sD 6 rfl (fv uy.val) (qL 2 g2 0 4 97 97 (fcs uy.val) rfl Tryz.underlying97) ?_
    obtain ⟨z1, hz1⟩ : ∃ z : Fp, z = uy * uy := ⟨_, rfl⟩
    refine sD 7 rfl (fv z1.val) (qF 82 #[fv uy.val, fv uy.val] (fun w => by rw [hz1]; exact mulR_c w uy uy)) <| sD 8 rfl (fv ux.val) (qL 1 g1 0 4 97 97 (fcs ux.val) rfl Tryz.underlying97) ?_
    obtain ⟨z2, hz2⟩ : ∃ z : Fp, z = ux * ux * ux + 7 := ⟨_, rfl⟩
    refine sD 9 rfl (fv z2.val) (qF 111 #[fv ux.val] (fun w => by rw [hz2]; exact cubeR_c w ux)) ?_
    obtain ⟨b3, hb3⟩ : ∃ z : Bool, z = decide (z1.val = z2.val) := ⟨_, rfl⟩
    refine sD 10 rfl (.bool b3) (Quiet.pure (fun w => by rw [hb3]; exact eql_num w _ _ _ _ _ _ rfl rfl rfl lK lK)) <| sZ 11 rfl (.bool b3) <| sZ 12 rfl (.bool b3) ?_
    refine sI ?_
    refine Sy.ret ?_
    rw [show (.bool (rightB ux.val uy.val false) : Value) = .bool b3 from by rw [hb3, rb_xy]; simp only [hz2, hz1]]
    exact rV (.bool b3) rfl
 ·refine sT <| Sy.seq ?_
  refine Sy.regionD (fun j => false) kR ?_
  refine sD 0 rfl (pv x y true) (qL 0 g0 0 9 71 71 (pcs x y true) rfl Tryz.underlying71) <| sD 1 rfl (pv 0 0 true) (qF 80 #[] (zeroR_c)) ?_
  obtain ⟨b4, hb4⟩ : ∃ z : Bool, z = sameB x y true 0 0 true := ⟨_, rfl⟩
  refine sD 2 rfl (.bool b4) (Quiet.pure (fun w => by rw [hb4]; exact eql_pt w _ _ _ _ _ _ _ _ _ _ rfl rfl rfl lK lK lK lK)) <| sZ 3 rfl (.bool b4) ?_
  refine sI ?_
  refine Sy.ret <| Sy.then_ret ?_
  rw [show (.bool (rightB x y true) : Value) = .bool b4 from by rw [hb4, rightB_inf]]
  exact rV (.bool b4) rfl
theorem taken_c (w : World) (x y : Nat) (i : Bool) (hx : x < K4) (hy : y < K4) : Calls Tryz.prog 73 #[pv x y i] w (Gets w (ptv (dec x y i))) := by
 refine Sy.enter (args := [pv x y i]) Tryz.func73 rfl kL ?_
 refine sC ?_
 refine sM 71 (pcs x y i) (fun g0 => ?_)
 refine sM 71 (pcs 0 0 false) (fun g1 => ?_)
 refine sA ?_
 refine sS (pv x y i) (qL 0 g0 0 9 71 71 (pcs x y i) rfl Tryz.underlying71) ?_
 obtain ⟨b1, hb1⟩ : ∃ z : Bool, z = rightB x y i := ⟨_, rfl⟩
 refine sS (.bool b1) (qF 126 #[pv x y i] (by rw [hb1]; exact fun w => rightR_b w x y i lK lK)) <| sP (.bool b1) ?_
 refine sG <| Sy.seq <| sC ?_
 refine sP (.bool b1) ?_
 cases b1
 ·refine sP (.bool true) ?_
  refine sG <| sT <| sC ?_
  refine sS (pv 0 0 true) (qF 80 #[] (zeroR_c)) <| sW 1 g1 71 (pcs 0 0 false) (pcs 0 0 true) (wS 0 71 (pcs 0 0 true) rfl) ?_
  refine sG <| Sy.ret <| Sy.then_ret ?_
  rw [show (ptv (dec x y i) : Value) = pv 0 0 true from ptv_wrong x y i hb1.symm]
  exact rC (v := pv 0 0 true) 71 g1 1 (pcs 0 0 true) rfl Tryz.underlying71
 ·refine sP (.bool false) ?_
  refine sG <| sU <| Sy.skip <| sB ?_
  refine sS (pv x y i) (qL 0 g0 0 9 71 71 (pcs x y i) rfl Tryz.underlying71) <| sW 1 g1 71 (pcs 0 0 false) (pcs x y i) (wS 0 71 (pcs x y i) rfl) ?_
  refine sG <| Sy.ret ?_
  rw [show (ptv (dec x y i) : Value) = pv x y i from ptv_right x y i hb1.symm]
  exact rC (v := pv x y i) 71 g1 1 (pcs x y i) rfl Tryz.underlying71
end Go.Proofs.YtfhcpdbahbbmaaaGreatDoor.Cu

end
section
namespace Go.Proofs.YtfhcpdbahbbmaaaGreatDoor
open Go.RowKit Go.Lib

set_option maxHeartbeats 8000000 in
set_option maxRecDepth 100000 in
theorem bytes_any (w : World) (x : Nat) (hx : x < (2^256)) : Calls Tryz.prog 142 #[fv x] w fun e w' => e = .returned (.agg ((bytesS (x % pM)).map bv).toArray) ∧ Below w.heap.size w w' := by
 obtain ⟨z, hz⟩ : ∃ z, z = x % pM := ⟨_, rfl⟩
 have hzl : z < (2^256) := by rw [hz]; exact mod_lt x
 have cn : ∀ w, Calls Tryz.prog 176 #[fv x] w fun e w' => e = .returned (fv z) ∧ Below w.heap.size w w' := by
  intro w; rw [hz]; exact norm_any w x hx
 rw [← hz]
 obtain ⟨z0, z1, z2, z3, a0, a1, a2, a3, ez, fz⟩ := words_of z hzl
 have HZ := Lib.hid (And.intro a0 (And.intro a1 (And.intro a2 (And.intro a3 ez))))
 have FZ := Lib.hid fz
 obtain ⟨x0, x1, x2, x3, fx⟩ := words_fv x hx
 rw [fx] at cn ⊢
 clear fx fz hz hzl a0 a1 a2 a3 ez hx
 have hZB : Hid ((List.replicate 32 (Value.int .u8 0)).toArray = ((partB z 0).map bv).toArray) := Lib.hid (by simp [partB, lowB, bv])
 go_enter Tryz.func142, Tryz.ntmps142
 go_wp2_with fail
 refine (cn _).mono ?_
 rintro e w1 ⟨rfl, hb⟩
 have BR : Blk w1 (w.heap.size + 1) 30 _ := Gr.blk hb (Blk.alloc (blk_new2 w _ _ _) _)
 have BB : Blk w1 (w.heap.size + 2) 30 ((partB z 0).map bv).toArray := Blk.eq_ (Gr.blk hb (blk_new3 w _ _ _ _)) hZB.out
 have hB := Below.gr (below_alloc3 w _ _ _) hb
 have sz := BB.lt
 clear hb cn
 go_wp2_with (first | ((with_reducible refine here_store ?_); refine wpList_store_blk rfl _ _ _ rfl (w1.heap.size) (fcs (z)) rfl rfl _ _ (Blk.new w1 _ _) (by kernel_rfl) (by rfl) (fcs_one _) ?_; intro w2 hL2 hB2 hK2; have CR := hK2 _ (by omega) _ _ (BR.alloc _); have CB := hK2 _ (by omega) _ _ (BB.alloc _); have hC := (hB.alloc (by omega) _).trans (hB2 _ (by omega))))
 go_loopw [8] (fun i wr => ∃ k : Nat, k ≤ 32 ∧ i = .int .i64 (k : Int) ∧ Below w.heap.size w wr ∧ Blk wr (w.heap.size + 2) 30 ((partB z k).map bv).toArray ∧ Blk wr w1.heap.size 69 #[.int .u64 (z0 : Int), .int .u64 (z1 : Int), .int .u64 (z2 : Int), .int .u64 (z3 : Int)] ∧ Blk wr (w.heap.size + 1) 30 (List.replicate 32 (Value.int .u8 0)).toArray) (fun i _ => 32 - (intOf i).toNat)
 case atStart => exact ⟨0, by omega, rfl, hC, CB, hL2.eq_ (fcs_words FZ.out), CR⟩
 case round =>
  obtain ⟨k, hk, rfl, hb, hP, hN, hR⟩ := hrel
  by_cases hlt : k < 32
  ·have ce : ∀ j, j < 32 → ∃ v, wr.cell? ⟨w.heap.size + 1 + 1, j, none⟩ = some v := fun j hj => ⟨_, (hP.cell j).trans (Array.getElem?_eq_getElem (by simp [partB_length z k hk]; exact hj))⟩
   obtain ⟨v, hv⟩ := ce (31 - k) (by omega)
   have ff := hP.frozen (31 - k)
   have q0 : wr.cell? ⟨w1.heap.size, 0, none⟩ = some (.int .u64 (z0 : Int)) := hN.cell 0
   have q1 : wr.cell? ⟨w1.heap.size, 1, none⟩ = some (.int .u64 (z1 : Int)) := hN.cell 1
   have q2 : wr.cell? ⟨w1.heap.size, 2, none⟩ = some (.int .u64 (z2 : Int)) := hN.cell 2
   have q3 : wr.cell? ⟨w1.heap.size, 3, none⟩ = some (.int .u64 (z3 : Int)) := hN.cell 3
   have hPn := hP.set_ (31 - k) (bv (byteN z k))
   rw [partB_set z k hlt] at hPn
   have HP := Lib.hid hPn
   clear hPn ce
   have HR := Lib.hid (And.intro hb (And.intro hN hR))
   clear hb hP hN hR hk
   have hsz : w.heap.size + 2 < w1.heap.size := sz
   rcases (show k = 0 ∨ k = 1 ∨ k = 2 ∨ k = 3 ∨ k = 4 ∨ k = 5 ∨ k = 6 ∨ k = 7 ∨ k = 8 ∨ k = 9 ∨ k = 10 ∨ k = 11 ∨ k = 12 ∨ k = 13 ∨ k = 14 ∨ k = 15 ∨ k = 16 ∨ k = 17 ∨ k = 18 ∨ k = 19 ∨ k = 20 ∨ k = 21 ∨ k = 22 ∨ k = 23 ∨ k = 24 ∨ k = 25 ∨ k = 26 ∨ k = 27 ∨ k = 28 ∨ k = 29 ∨ k = 30 ∨ k = 31 by omega) with rfl | rfl | rfl | rfl | rfl | rfl | rfl | rfl | rfl | rfl | rfl | rfl | rfl | rfl | rfl | rfl | rfl | rfl | rfl | rfl | rfl | rfl | rfl | rfl | rfl | rfl | rfl | rfl | rfl | rfl | rfl | rfl
   all_goals
    go_wp2
    obtain ⟨a0, a1, a2, a3, ez⟩ := HZ.out
    refine ⟨⟨_, by decide, rfl, HR.out.1.setCell (by show w.heap.size ≤ w.heap.size + 1 + 1; omega) _, HP.out.val (by rw [bv_byteN]; congr 1; omega), HR.out.2.1.far (by show w1.heap.size ≠ w.heap.size + 1 + 1; omega) _, HR.out.2.2.far (by show w.heap.size + 1 ≠ w.heap.size + 1 + 1; omega) _⟩, by simp [intOf]⟩
  ·have p1 : ¬ (k : Int) < 32 := by omega
   obtain rfl : k = 32 := by omega
   rw [partB_full] at hP
   have HI := Lib.hid (bytesS_length z)
   have HL := Lib.hid hP
   have HR := Lib.hid hR
   clear hN hP hR
   go_wp2_with (first | ((with_reducible refine here_load (d := some 24) ?_); refine wpList_load_blk rfl _ _ rfl (w.heap.size + 2) rfl _ _ _ HL.out Tryz.underlying30 rfl (b32_info HI.out) ?_) | ((with_reducible refine here_store ?_); refine wpList_store_blk rfl _ _ _ rfl (w.heap.size + 1) ((bytesS z).map bv).toArray rfl rfl _ _ HR.out (b32_info HI.out) (by simp [HI.out]) (b32_one _) ?_; intro w9 hL9 hB9 hK9))
   exact bodyPost_ret (results_cell_row rfl _ _ (w.heap.size + 1) _ _ (0, 0) _ rfl hL9 Tryz.underlying30 rfl (b32_info HI.out)) rfl ⟨rfl, hb.trans (hB9 _ (by omega))⟩
end Go.Proofs.YtfhcpdbahbbmaaaGreatDoor

end
section
namespace Go.Proofs.YtfhcpdbahbbmaaaGreatDoor
open Go.RowKit Go.Lib

def readS (l : List UInt8) : Nat × Bool := if valB l < pM then (valB l, true) else (0, false)

set_option maxHeartbeats 8000000 in
set_option maxRecDepth 100000 in
theorem read_any (w : World) (l : List UInt8) (hl : l.length = 32) : Calls Tryz.prog 161 #[.agg (l.map bv).toArray] w fun e w' => e = .returned (.tuple #[fv (readS l).1, .bool (readS l).2]) ∧ Below w.heap.size w w' := by
 have HL := Lib.hid hl
 clear hl
 go_enter Tryz.func161, Tryz.ntmps161
 go_wp2_with (first | ((with_reducible refine here_load (d := some 7) ?_); refine wpList_load_blk rfl _ _ rfl w.heap.size rfl _ _ _ (((Blk.new w _ _).alloc _).alloc _) Tryz.underlying30 rfl (b32_info HL.out) ?_))
 go_loopw [8] (fun i wr => ∃ k y0 y1 y2 y3 : Nat, k ≤ 32 ∧ i = .int .i64 (k : Int) ∧ Hid (y0 = wdB l k 0 ∧ y1 = wdB l k 1 ∧ y2 = wdB l k 2 ∧ y3 = wdB l k 3) ∧ Below w.heap.size w wr ∧ Blk wr (w.heap.size + 2) 69 #[.int .u64 (y3 : Int), .int .u64 (y2 : Int), .int .u64 (y1 : Int), .int .u64 (y0 : Int)] ∧ Blk wr (w.heap.size + 1) 69 #[.int .u64 0, .int .u64 0, .int .u64 0, .int .u64 0]) (fun i _ => 32 - (intOf i).toNat)
 case atStart => exact ⟨0, 0, 0, 0, 0, by omega, rfl, Lib.hid ⟨(wdB_zero l 0).symm, (wdB_zero l 1).symm, (wdB_zero l 2).symm, (wdB_zero l 3).symm⟩, below_alloc3 w _ _ _, blk_new3 w _ _ _ _, (blk_new2 w _ _ _).alloc _⟩
 case round =>
  obtain ⟨k, y0, y1, y2, y3, hk, rfl, HY, hb, hP, hR⟩ := hrel
  have q3 : wr.cell? ⟨w.heap.size + 1 + 1, 0, none⟩ = some (.int .u64 (y3 : Int)) := hP.cell 0
  have q2 : wr.cell? ⟨w.heap.size + 1 + 1, 1, none⟩ = some (.int .u64 (y2 : Int)) := hP.cell 1
  have q1 : wr.cell? ⟨w.heap.size + 1 + 1, 2, none⟩ = some (.int .u64 (y1 : Int)) := hP.cell 2
  have q0 : wr.cell? ⟨w.heap.size + 1 + 1, 3, none⟩ = some (.int .u64 (y0 : Int)) := hP.cell 3
  have ff : ∀ j, wr.frozen? ⟨w.heap.size + 1 + 1, j, none⟩ = false := fun j => hP.frozen j
  by_cases hlt : k < 32
  ·obtain ⟨c, hc⟩ : ∃ c, l[k]? = some c := ⟨l[k]'(by rw [HL.out]; exact hlt), List.getElem?_eq_getElem _⟩
   have HC := Lib.hid hc
   obtain ⟨m, hm⟩ : ∃ m, m = c.toNat := ⟨_, rfl⟩
   have hm8 : m < 256 := by rw [hm]; exact c.toNat_lt
   have hI : ∀ W, (Instr.index 30 (.agg (l.map bv).toArray) (.int .i64 (k : Int))).run Tryz.prog W = .ok (.int .u8 (m : Int)) W := fun W => by
    rw [run_index_b32 W l k c hc hlt, hm]; rfl
   have HM := Lib.hid hm
   have HR := Lib.hid (And.intro hb (And.intro hP hR))
   clear hb hP hR hc hk hm
   rcases (show k = 0 ∨ k = 1 ∨ k = 2 ∨ k = 3 ∨ k = 4 ∨ k = 5 ∨ k = 6 ∨ k = 7 ∨ k = 8 ∨ k = 9 ∨ k = 10 ∨ k = 11 ∨ k = 12 ∨ k = 13 ∨ k = 14 ∨ k = 15 ∨ k = 16 ∨ k = 17 ∨ k = 18 ∨ k = 19 ∨ k = 20 ∨ k = 21 ∨ k = 22 ∨ k = 23 ∨ k = 24 ∨ k = 25 ∨ k = 26 ∨ k = 27 ∨ k = 28 ∨ k = 29 ∨ k = 30 ∨ k = 31 by omega) with rfl | rfl | rfl | rfl | rfl | rfl | rfl | rfl | rfl | rfl | rfl | rfl | rfl | rfl | rfl | rfl | rfl | rfl | rfl | rfl | rfl | rfl | rfl | rfl | rfl | rfl | rfl | rfl | rfl | rfl | rfl | rfl
   all_goals
    simp only [Int.cast_ofNat_Int] at hI
   all_goals
    first
    | ((have hy : y0 < 72057594037927936 := by rw [HY.out.1]; exact wdB_lt l _ 0 (by decide)); (have ho := or_add y0 m hy hm8); go_wp2; (refine ⟨⟨_, y0 * 256 + m, y1, y2, y3, by decide, rfl, Lib.hid ⟨by rw [HY.out.1, HM.out]; exact (wdB_step l _ 0 c HC.out (by decide)).symm, by rw [HY.out.2.1]; exact (wdB_same l _ 1 (by decide)).symm, by rw [HY.out.2.2.1]; exact (wdB_same l _ 2 (by decide)).symm, by rw [HY.out.2.2.2]; exact (wdB_same l _ 3 (by decide)).symm⟩, HR.out.1.setCell (by show w.heap.size ≤ w.heap.size + 1 + 1; omega) _, Blk.eq_ (HR.out.2.1.set_ 3 _) (by rw [show ((y0 * 256 + m : Nat) : Int) = (y0 : Int) * 256 + (m : Int) by omega]; rfl), HR.out.2.2.far (by show w.heap.size + 1 ≠ w.heap.size + 1 + 1; omega) _⟩, by simp [intOf]⟩))
    | ((have hy : y1 < 72057594037927936 := by rw [HY.out.2.1]; exact wdB_lt l _ 1 (by decide)); (have ho := or_add y1 m hy hm8); go_wp2; (refine ⟨⟨_, y0, y1 * 256 + m, y2, y3, by decide, rfl, Lib.hid ⟨by rw [HY.out.1]; exact (wdB_same l _ 0 (by decide)).symm, by rw [HY.out.2.1, HM.out]; exact (wdB_step l _ 1 c HC.out (by decide)).symm, by rw [HY.out.2.2.1]; exact (wdB_same l _ 2 (by decide)).symm, by rw [HY.out.2.2.2]; exact (wdB_same l _ 3 (by decide)).symm⟩, HR.out.1.setCell (by show w.heap.size ≤ w.heap.size + 1 + 1; omega) _, Blk.eq_ (HR.out.2.1.set_ 2 _) (by rw [show ((y1 * 256 + m : Nat) : Int) = (y1 : Int) * 256 + (m : Int) by omega]; rfl), HR.out.2.2.far (by show w.heap.size + 1 ≠ w.heap.size + 1 + 1; omega) _⟩, by simp [intOf]⟩))
    | ((have hy : y2 < 72057594037927936 := by rw [HY.out.2.2.1]; exact wdB_lt l _ 2 (by decide)); (have ho := or_add y2 m hy hm8); go_wp2; (refine ⟨⟨_, y0, y1, y2 * 256 + m, y3, by decide, rfl, Lib.hid ⟨by rw [HY.out.1]; exact (wdB_same l _ 0 (by decide)).symm, by rw [HY.out.2.1]; exact (wdB_same l _ 1 (by decide)).symm, by rw [HY.out.2.2.1, HM.out]; exact (wdB_step l _ 2 c HC.out (by decide)).symm, by rw [HY.out.2.2.2]; exact (wdB_same l _ 3 (by decide)).symm⟩, HR.out.1.setCell (by show w.heap.size ≤ w.heap.size + 1 + 1; omega) _, Blk.eq_ (HR.out.2.1.set_ 1 _) (by rw [show ((y2 * 256 + m : Nat) : Int) = (y2 : Int) * 256 + (m : Int) by omega]; rfl), HR.out.2.2.far (by show w.heap.size + 1 ≠ w.heap.size + 1 + 1; omega) _⟩, by simp [intOf]⟩))
    | ((have hy : y3 < 72057594037927936 := by rw [HY.out.2.2.2]; exact wdB_lt l _ 3 (by decide)); (have ho := or_add y3 m hy hm8); go_wp2; (refine ⟨⟨_, y0, y1, y2, y3 * 256 + m, by decide, rfl, Lib.hid ⟨by rw [HY.out.1]; exact (wdB_same l _ 0 (by decide)).symm, by rw [HY.out.2.1]; exact (wdB_same l _ 1 (by decide)).symm, by rw [HY.out.2.2.1]; exact (wdB_same l _ 2 (by decide)).symm, by rw [HY.out.2.2.2, HM.out]; exact (wdB_step l _ 3 c HC.out (by decide)).symm⟩, HR.out.1.setCell (by show w.heap.size ≤ w.heap.size + 1 + 1; omega) _, Blk.eq_ (HR.out.2.1.set_ 0 _) (by rw [show ((y3 * 256 + m : Nat) : Int) = (y3 : Int) * 256 + (m : Int) by omega]; rfl), HR.out.2.2.far (by show w.heap.size + 1 ≠ w.heap.size + 1 + 1; omega) _⟩, by simp [intOf]⟩))
  ·have p1 : ¬ (k : Int) < 32 := by omega
   obtain rfl : k = 32 := by omega
   have b0 : y0 < 18446744073709551616 := by rw [HY.out.1]; exact wdB_lt8 l _ _
   have b1 : y1 < 18446744073709551616 := by rw [HY.out.2.1]; exact wdB_lt8 l _ _
   have b2 : y2 < 18446744073709551616 := by rw [HY.out.2.2.1]; exact wdB_lt8 l _ _
   have b3 : y3 < 18446744073709551616 := by rw [HY.out.2.2.2]; exact wdB_lt8 l _ _
   obtain ⟨z, hz⟩ : ∃ z, z = y3 + 18446744073709551616 * y2 + 340282366920938463463374607431768211456 * y1 + 6277101735386680763835789423207666416102355444464034512896 * y0 := ⟨_, rfl⟩
   have fz := fv_mk y3 y2 y1 y0 b3 b2 b1 b0
   rw [← hz] at fz
   have hzl : z < (2^256) := by rw [hz]; exact fv_lt y3 y2 y1 y0 b3 b2 b1 b0
   have hzv : z = valB l := by rw [wdB_all l HL.out, hz, HY.out.1, HY.out.2.1, HY.out.2.2.1, HY.out.2.2.2]
   obtain ⟨n, hn⟩ : ∃ n, n = z % pM := ⟨_, rfl⟩
   have hnl : n < (2^256) := by rw [hn]; exact mod_lt z
   obtain ⟨b, hbd⟩ : ∃ b, b = decide (n ≠ z) := ⟨_, rfl⟩
   have eb : ∀ W, (binOp .neq 69 (fv n) (fv z)).run Tryz.prog W = .ok (.bool b) W := fun W => by rw [hbd]; exact run_neq_fv W n z hnl hzl
   have cn : ∀ w, Calls Tryz.prog 176 #[fv z] w fun e w' => e = .returned (fv n) ∧ Below w.heap.size w w' := by
    intro w; rw [hn]; exact norm_any w z hzl
   have hS : readS l = if b = true then (0, false) else (z, true) := by
    unfold readS
    rw [← hzv, hbd, hn]
    by_cases h : z < pM
    ·rw [if_pos h, Nat.mod_eq_of_lt h]; simp
    ·have h2 : z % pM ≠ z := fun e => h (by rw [← e]; exact mod_lt_p z)
     rw [if_neg h]; simp [h2]
   have HS := Lib.hid hS
   have FZ := Lib.hid fz.symm
   have HP := Lib.hid hP
   clear HY b0 b1 b2 b3 hz fz hzl hzv hn hnl hbd hS q0 q1 q2 q3 ff hP
   go_wp2
   refine wp_region_G (fun _ => false) (by kernel_rfl) ?_
   try simp only [Act.put]
   refine tkw 0 rfl (YieldsG.loadF (by rfl) _ _ rfl (w.heap.size + 2) rfl (z) _ _ (HP.out) (FZ.out) Tryz.underlying69 rfl (by kernel_rfl)) ?_
   try simp only [Act.put, aA, aZ, aS]
   refine tkw 1 rfl (YieldsG.call (v := fv n) (by rfl) 176 _ (fun w9 => by go_simp; try (first | with_reducible rfl | rfl)) (fun w9 h9 => cn w9)) ?_
   try simp only [Act.put, aA, aZ, aS]
   refine tkw 2 rfl (YieldsG.loadF (by rfl) _ _ rfl (w.heap.size + 2) rfl (z) _ _ (HP.out) (FZ.out) Tryz.underlying69 rfl (by kernel_rfl)) ?_
   try simp only [Act.put, aA, aZ, aS]
   refine tkw 3 rfl (YieldsG.pure (v := .bool b) (by rfl) (fun w9 h9 => by go_simp; rw [run_eqGuard_fv]; simp only [Result.andThen_ok, eb])) ?_
   try simp only [Act.put, aA, aZ, aS]
   refine wpAnyG_done (by kernel_rfl) (fun u hu => ?_)
   have hbu := Below.gr hb hu
   have BR := Gr.blk hu hR
   have BP := Gr.blk hu HP.out
   clear hu hb hR HP eb cn
   cases b
   ·have HT : Hid (readS l = (z, true)) := Lib.hid (by rw [HS.out]; rfl)
    clear HS
    go_wp2_with (first | ((with_reducible refine here_load (d := some 31) ?_); refine wpList_load_fv rfl _ _ rfl (w.heap.size + 2) rfl (z) _ _ _ (BP) (FZ.out) Tryz.underlying69 rfl (by kernel_rfl) ?_) | ((with_reducible refine here_store ?_); refine wpList_store_blk rfl _ _ _ rfl (w.heap.size + 1) (fcs (z)) rfl rfl _ _ (BR) (by kernel_rfl) (by rfl) (fcs_one _) ?_; intro vz hLz hqz hKz))
    exact bodyPost_ret (res_cell_tmp rfl _ _ (w.heap.size + 1) _ _ _ _ rfl hLz rfl Tryz.underlying69 rfl (by kernel_rfl)) rfl ⟨by rw [HT.out]; rfl, hbu.trans (hqz _ (by omega))⟩
   ·have HT : Hid (readS l = (0, false)) := Lib.hid (by rw [HS.out]; rfl)
    clear HS
    go_wp2_with (first | ((with_reducible refine here_store ?_); refine wpList_store_blk rfl _ _ _ rfl (w.heap.size + 1) _ rfl rfl _ _ (BR) (by kernel_rfl) (by rfl) (by simp [Value.oneCell']) ?_; intro vz hLz hqz hKz))
    exact bodyPost_ret (res_cell_tmp rfl _ _ (w.heap.size + 1) _ _ _ _ rfl hLz rfl Tryz.underlying69 rfl (by kernel_rfl)) rfl ⟨by rw [HT.out]; rfl, hbu.trans (hqz _ (by omega))⟩
end Go.Proofs.YtfhcpdbahbbmaaaGreatDoor

end
section
namespace Go.Proofs.YtfhcpdbahbbmaaaGreatDoor
open Go.RowKit Go.Lib

def eQ : Nat := 28948022309329048855892746252171976963317496166410141009864396001977208667916
end Go.Proofs.YtfhcpdbahbbmaaaGreatDoor

end
section
namespace Go.Proofs.YtfhcpdbahbbmaaaGreatDoor
open Go.RowKit Go.Lib

theorem prime_p : Nt.Pr pM := Nt.pr_p
theorem eRoot_is : eRoot = eQ := by decide +kernel
theorem four_eQ : 2 * (eQ + eQ) = pM + 1 := by decide +kernel
theorem root_lt_p (x : Nat) : rootR x < pM := by rw [← rootR_red]; exact mod_lt_p _
theorem sq_le {p r a : Nat} (hp : Nt.Pr p) (hle : a ≤ r) (hr : r < p) (h : r * r % p = a * a % p) : r = a ∨ r + a = p := by
 have e : (r - a) * (r + a) = r * r - a * a := by
  obtain ⟨d, rfl⟩ : ∃ d, r = a + d := ⟨r - a, by omega⟩
  rw [Nat.add_sub_cancel_left]
  have h1 : (a + d) * (a + d) = a * a + d * (a + d + a) := by
   simp only [Nat.mul_add, Nat.add_mul]
   have := Nat.mul_comm a d
   omega
  rw [h1, Nat.add_sub_cancel_left]
 have hd : p ∣ (r - a) * (r + a) := by
  rw [e]
  exact Nat.dvd_of_mod_eq_zero (Nat.sub_mod_eq_zero_of_mod_eq h)
 by_cases hz : (r + a) % p = 0
 ·obtain ⟨k, hk⟩ := Nat.dvd_of_mod_eq_zero hz
  rcases k with _ | _ | k
  ·left; omega
  ·right; omega
  ·have hk' : r + a = p * (k + 2) := hk
   have : p * 2 ≤ p * (k + 2) := Nat.mul_le_mul (Nat.le_refl _) (by omega)
   omega
 ·left
  have hd2 : p ∣ r - a := (Nt.cop hp (r + a) hz).dvd_of_dvd_mul_right hd
  have := Nat.eq_zero_of_dvd_of_lt hd2 (by omega)
  omega
theorem sq_roots {p r a : Nat} (hp : Nt.Pr p) (hr : r < p) (ha : a < p) (h : r * r % p = a * a % p) : r = a ∨ r + a = p := by
 rcases Nat.le_total a r with hl | hl
 ·exact sq_le hp hl hr h
 ·rcases sq_le hp hl ha h.symm with h1 | h1
  ·exact .inl h1.symm
  ·exact .inr (by omega)
theorem pow_gen {p a e : Nat} (hp : Nt.Pr p) (he : 2 * (e + e) = p + 1) : ((a * a) ^ e % p) * ((a * a) ^ e % p) % p = a * a % p := by
 have h2 := hp.1
 rw [← Nat.mul_mod, ← Nat.pow_add, ← Nat.pow_two, ← Nat.pow_mul, he]
 have e1 : a ^ (p + 1) = a ^ (p - 1) * a ^ 2 := by rw [← Nat.pow_add]; congr 1; omega
 rw [e1, Nat.mul_mod]
 by_cases hz : a % p = 0
 ·have : a ^ 2 % p = 0 := by rw [Nat.pow_two, Nat.mul_mod, hz]; simp
  rw [this]; simp
 ·rw [Nt.flt hp a hz, Nat.one_mul, Nat.mod_mod]
theorem root_sq (a : Nat) : mulP (rootR (mulP a a)) (rootR (mulP a a)) = mulP a a := by
 have h := rootR_pow (mulP a a)
 rw [rootR_red, eRoot_is] at h
 rw [h]
 unfold mulP
 rw [← Nat.pow_mod]
 exact pow_gen prime_p four_eQ
theorem neg_of (r : Nat) (h : r < pM) (h0 : r ≠ 0) : negP r = pM - r := by
 unfold negP
 rw [Nat.mod_eq_of_lt h]
 exact Nat.mod_eq_of_lt (by omega)
theorem neg_sq (r : Nat) (h : r < pM) (h0 : r ≠ 0) : mulP (negP r) (negP r) = mulP r r := by
 rw [neg_of r h h0]
 obtain ⟨q, hq⟩ : ∃ q, pM = q + r := ⟨pM - r, by omega⟩
 rw [show pM - r = q by omega]
 unfold mulP
 have e : q * q + pM * r = r * r + pM * q := by
  rw [hq, Nat.add_mul, Nat.add_mul, Nat.mul_comm r q]
  omega
 have h1 : (q * q + pM * r) % pM = q * q % pM := Nat.add_mul_mod_self_left _ _ _
 have h2 : (r * r + pM * q) % pM = r * r % pM := Nat.add_mul_mod_self_left _ _ _
 rw [← h1, ← h2, e]
theorem pM_odd : pM % 2 = 1 := by decide +kernel
theorem sqrt_even (x : Nat) : (sqrtS x).1 % pM % 2 = 0 := by
 unfold sqrtS
 have hr := root_lt_p x
 by_cases h1 : mulP (rootR x) (rootR x) ≠ x % pM
 ·rw [if_pos h1]; rw [Nat.zero_mod]
 ·rw [if_neg h1]
  by_cases h2 : rootR x % pM % 2 = 1
  ·rw [if_pos h2]
   rw [rootR_red] at h2
   have h0 : rootR x ≠ 0 := by omega
   have e := neg_of _ hr h0
   have hp := pM_odd
   show negP (rootR x) % pM % 2 = 0
   rw [e, Nat.mod_eq_of_lt (show pM - rootR x < pM by omega)]
   omega
  ·rw [if_neg h2]
   show rootR x % pM % 2 = 0
   omega
theorem sqrt_lt (x : Nat) : (sqrtS x).1 < (2^256) := by
 unfold sqrtS
 by_cases h1 : mulP (rootR x) (rootR x) ≠ x % pM
 ·rw [if_pos h1]; show 0 < _; omega
 ·rw [if_neg h1]
  by_cases h2 : rootR x % pM % 2 = 1
  ·rw [if_pos h2]; exact negP_lt _
  ·rw [if_neg h2]; exact rootR_lt _
theorem sqrt_mul (x : Nat) (h : (sqrtS x).2 = true) : mulP (sqrtS x).1 (sqrtS x).1 = x % pM := by
 unfold sqrtS at h ⊢
 by_cases h1 : mulP (rootR x) (rootR x) ≠ x % pM
 ·rw [if_pos h1] at h; cases h
 ·rw [if_neg h1]
  have h1' : mulP (rootR x) (rootR x) = x % pM := Classical.not_not.1 h1
  by_cases h2 : rootR x % pM % 2 = 1
  ·rw [if_pos h2]
   rw [rootR_red] at h2
   show mulP (negP (rootR x)) (negP (rootR x)) = _
   rw [neg_sq _ (root_lt_p x) (by omega)]
   exact h1'
  ·rw [if_neg h2]; exact h1'
theorem sqrt_sq (a : Nat) : ∃ s, sqrtS (mulP a a) = (s, true) ∧ (s = a % pM ∨ s = negP a) := by
 obtain ⟨r, hr⟩ : ∃ r, r = rootR (mulP a a) := ⟨_, rfl⟩
 have hs := root_sq a
 rw [← hr] at hs
 have hl : r < pM := by rw [hr]; exact root_lt_p _
 have hx : mulP a a % pM = mulP a a := by unfold mulP; rw [Nat.mod_mod]
 obtain ⟨b, hb⟩ : ∃ b, b = a % pM := ⟨_, rfl⟩
 have hbl : b < pM := by rw [hb]; exact mod_lt_p a
 have hng : negP a = negP b := by unfold negP; rw [hb, Nat.mod_mod]
 have hrr : r = b ∨ r + b = pM := by
  refine sq_roots prime_p hl hbl ?_
  have : mulP a a = b * b % pM := by rw [hb, ← Nat.mul_mod]; rfl
  rw [← this]; exact hs
 have p0 : 0 < pM := by omega
 have hor : (r = b ∧ negP r = negP b) ∨ (r = negP b ∧ negP r = b) := by
  rcases hrr with h | h
  ·left; exact ⟨h, by rw [h]⟩
  ·by_cases h0 : b = 0
   ·omega
   ·right
    have e1 := neg_of b hbl h0
    have e2 := neg_of r hl (by omega)
    exact ⟨by omega, by omega⟩
 unfold sqrtS
 rw [← hr, hx, if_neg (by rw [hs]; exact fun h => h rfl), hng, ← hb]
 by_cases h2 : r % pM % 2 = 1
 ·rw [if_pos h2]
  refine ⟨_, rfl, ?_⟩
  rcases hor with h | h
  ·exact .inr h.2
  ·exact .inl h.2
 ·rw [if_neg h2]
  refine ⟨_, rfl, ?_⟩
  rcases hor with h | h
  ·exact .inl h.1
  ·exact .inr h.1
end Go.Proofs.YtfhcpdbahbbmaaaGreatDoor

end
section
namespace Go.Proofs.YtfhcpdbahbbmaaaGreatDoor.Cu
open Go.RowKit Go.Proofs.YtfhcpdbahbbmaaaGreatDoor Go.Proofs.YtfhcpdbahbbmaaaGreatDoor.Sy
set_option maxRecDepth 100000
set_option maxHeartbeats 4000000

theorem key_whole (l : List UInt8) {n : Nat} (hl : l.length = n) : Value.agg (((l.map bv).toArray.toList.drop 0).take n).toArray = .agg (l.map bv).toArray := by
 rw [List.drop_zero, List.take_of_length_le (by simp; omega)]
theorem key_size (l : List UInt8) {n : Nat} (hl : l.length = n) : 0 + n ≤ (l.map bv).toArray.size := by simp; omega
theorem key_at (l : List UInt8) {n : Nat} (hl : l.length = n) (k : Nat) (hk : k < n) : (l.map bv).toArray[k]? = some (bv (l.getD k 0)) := by
 have : k < l.length := by omega
 simp [List.getD, this]
noncomputable def infU8 : TypeInfo := (Tryz.prog.info? 5).getD default
theorem info_u8 : Tryz.prog.info? 5 = some infU8 := by kernel_rfl
def cubeN (x : Nat) : Nat := addP (mulP x (mulP x x)) 7
theorem cubeN_val (u : Fp) : cubeN u.val = (u * u * u + 7).val := by
 have e : u * (u * u) + 7 = u * u * u + 7 := by grobner
 rw [← e]
 rfl
def liftB (l : List UInt8) : Bool := decide (valB l < pM) && (sqrtS (cubeN (valB l))).2
theorem sqrt_fin (x : Nat) : (sqrtS x).1 < pM := by
 unfold sqrtS
 split
 ·exact Nat.pos_of_ne_zero (by decide +kernel)
 ·split
  ·exact mod_lt_p _
  ·show rootR x < pM
   rw [← rootR_red]; exact mod_lt_p _
def liftP (l : List UInt8) : Pt := if h : liftB l = true then some (⟨valB l, by unfold liftB at h; simp at h; exact h.1⟩, ⟨(sqrtS (cubeN (valB l))).1, sqrt_fin _⟩) else none
theorem lift_no {l : List UInt8} (h : liftB l = false) : liftP l = none := by unfold liftP; rw [dif_neg (by simp [h])]
theorem lift_yes {l : List UInt8} (h : liftB l = true) : ∃ u y : Fp, u.val = valB l ∧ y.val = (sqrtS (cubeN (valB l))).1 ∧ liftP l = some (u, y) ∧ y * y = u * u * u + 7 ∧ y.val % 2 = 0 := by
 refine ⟨_, _, rfl, rfl, by unfold liftP; rw [dif_pos h], ?_, ?_⟩
 ·have h2 : (sqrtS (cubeN (valB l))).2 = true := by unfold liftB at h; simp at h; exact h.2
  have hm := sqrt_mul _ h2
  refine Fin.ext ?_
  have hv : valB l < pM := by unfold liftB at h; simp at h; exact h.1
  have e := cubeN_val ⟨valB l, hv⟩
  show mulP (sqrtS (cubeN (valB l))).1 (sqrtS (cubeN (valB l))).1 = _
  rw [hm, ← e]
  exact Nat.mod_eq_of_lt (mod_lt_p _)
 ·have := sqrt_even (cubeN (valB l))
  rw [Nat.mod_eq_of_lt (sqrt_fin _)] at this
  exact this
theorem read_yes {l : List UInt8} {u : Fp} (h : u.val = valB l) : readS l = (u.val, true) := by
 unfold readS
 rw [if_pos (by rw [← h]; exact u.isLt), h]
theorem read_no {l : List UInt8} (h : ¬ valB l < pM) : readS l = (0, false) := by unfold readS; rw [if_neg h]
theorem lift_in (w : World) (l : List UInt8) (hl : l.length = 32) (u : Fp) (hu : u.val = valB l) : Calls Tryz.prog 107 #[.agg (l.map bv).toArray] w (Gets w (.tuple #[ptv (liftP l), .bool (liftB l)])) := by
 have cR : ∀ w, Calls Tryz.prog 161 #[.agg (l.map bv).toArray] w (Gets w (.tuple #[fv u.val, .bool true])) := fun w => by
  have h := read_any w l hl
  rw [read_yes hu] at h
  exact h
 refine Sy.enter (args := [.agg (l.map bv).toArray]) Tryz.func107 rfl kL ?_
 refine sC ?_
 refine sM 31 (l.map bv).toArray (fun g0 => ?_)
 refine sM 71 (pcs 0 0 false) (fun g1 => ?_)
 refine sP (.bool false) ?_
 refine sA ?_
 refine sS (.agg (l.map bv).toArray) (Quiet.load 0 g0 0 32 31 31 (l.map bv).toArray _ _ rfl kR kR Tryz.underlying31 rfl kR _ (key_whole l hl) (key_size l hl)) <| sS (.tuple #[fv u.val, .bool true]) (qF 161 #[.agg (l.map bv).toArray] (cR)) <| sP (.tuple #[fv u.val, .bool true]) <| sP (fv u.val) <| sP (.bool true) ?_
 refine sM 69 (fcs 0) (fun g2 => ?_)
 refine sW 2 g2 69 (fcs 0) (fcs u.val) (wS 0 69 (fcs u.val) rfl) <| sP (.bool true) ?_
 refine sA ?_
 refine sS (fv u.val) (qL 2 g2 0 4 69 69 (fcs u.val) rfl Tryz.underlying69) ?_
 obtain ⟨z1, hz1⟩ : ∃ z : Fp, z = u * u * u + 7 := ⟨_, rfl⟩
 refine sS (fv z1.val) (qF 163 #[fv u.val] (by rw [hz1]; exact fun w => square_c w u)) ?_
 obtain ⟨r1, hr1⟩ : ∃ z : Nat, z = (sqrtS z1.val).1 := ⟨_, rfl⟩
 obtain ⟨k1, hk1⟩ : ∃ z : Bool, z = (sqrtS z1.val).2 := ⟨_, rfl⟩
 have lr1 : r1 < K4 := by rw [hr1]; exact sqrt_lt _
 refine sS (.tuple #[fv r1, .bool k1]) (qF 162 #[fv z1.val] (fun w => by rw [hr1, hk1]; exact sqrt_any w z1.val lK)) <| sP (.tuple #[fv r1, .bool k1]) <| sP (fv r1) <| sP (.bool k1) ?_
 refine sM 69 (fcs 0) (fun g3 => ?_)
 refine sW 3 g3 69 (fcs 0) (fcs r1) (wS 0 69 (fcs r1) rfl) <| sP (.bool k1) ?_
 refine sG <| Sy.seq <| sC ?_
 refine sP (.bool true) <| sP (.bool false) <| sP (.bool false) <| sP (.bool k1) ?_
 cases k1
 ·refine sP (.bool true) <| sP (.bool true) ?_
  refine sG <| sT <| sC ?_
  refine sS (pv 0 0 true) (qF 140 #[] (zero_c)) <| sW 1 g1 71 (pcs 0 0 false) (pcs 0 0 true) (wS 0 71 (pcs 0 0 true) rfl) <| sP (.bool false) ?_
  refine sG <| Sy.ret <| Sy.then_ret ?_
  rw [show (.tuple #[ptv (liftP l), .bool (liftB l)] : Value) = .tuple #[pv 0 0 true, .bool false] from by
   have hb : liftB l = false := by unfold liftB; rw [← hu, cubeN_val, ← hz1, ← hk1]; simp
   rw [hb, lift_no hb]; rfl]
  exact Sy.ret2 (v := pv 0 0 true) (u := .bool false) rfl (.inl (Res.cell (ty' := 71) g1 1 (pcs 0 0 true) _ kR kR Tryz.underlying71 rfl kR kR)) (.inl (show _ = _ by kernel_rfl))
 ·refine sP (.bool false) <| sP (.bool false) ?_
  refine sG <| sU <| Sy.skip <| sB ?_
  refine sS (fv u.val) (qL 2 g2 0 4 69 69 (fcs u.val) rfl Tryz.underlying69) <| sS (fv r1) (qL 3 g3 0 4 69 69 (fcs r1) rfl Tryz.underlying69) <| sP (pv u.val r1 false) <| sW 1 g1 71 (pcs 0 0 false) (pcs u.val r1 false) (wS 0 71 (pcs u.val r1 false) rfl) <| sP (.bool true) ?_
  refine sG <| Sy.ret ?_
  rw [show (.tuple #[ptv (liftP l), .bool (liftB l)] : Value) = .tuple #[pv u.val r1 false, .bool true] from by
   have hb : liftB l = true := by unfold liftB; rw [← hu, cubeN_val, ← hz1, ← hk1]; simp [u.isLt]
   obtain ⟨u2, y2, e1, e2, e3, _, _⟩ := lift_yes hb
   rw [hb, e3]
   unfold ptv
   simp only
   rw [e1, e2, ← hu, cubeN_val, ← hz1, ← hr1]]
  exact Sy.ret2 (v := pv u.val r1 false) (u := .bool true) rfl (.inl (Res.cell (ty' := 71) g1 1 (pcs u.val r1 false) _ kR kR Tryz.underlying71 rfl kR kR)) (.inl (show _ = _ by kernel_rfl))
theorem lift_out (w : World) (l : List UInt8) (hl : l.length = 32) (hu : ¬ valB l < pM) : Calls Tryz.prog 107 #[.agg (l.map bv).toArray] w (Gets w (.tuple #[ptv (liftP l), .bool (liftB l)])) := by
 have cR : ∀ w, Calls Tryz.prog 161 #[.agg (l.map bv).toArray] w (Gets w (.tuple #[fv (0 : Fp).val, .bool false])) := fun w => by
  have h := read_any w l hl
  rw [read_no hu] at h
  exact h
 refine Sy.enter (args := [.agg (l.map bv).toArray]) Tryz.func107 rfl kL ?_
 refine sC ?_
 refine sM 31 (l.map bv).toArray (fun g0 => ?_)
 refine sM 71 (pcs 0 0 false) (fun g1 => ?_)
 refine sP (.bool false) ?_
 refine sA ?_
 refine sS (.agg (l.map bv).toArray) (Quiet.load 0 g0 0 32 31 31 (l.map bv).toArray _ _ rfl kR kR Tryz.underlying31 rfl kR _ (key_whole l hl) (key_size l hl)) <| sS (.tuple #[fv ((0 : Fp).val), .bool false]) (qF 161 #[.agg (l.map bv).toArray] (cR)) <| sP (.tuple #[fv ((0 : Fp).val), .bool false]) <| sP (fv ((0 : Fp).val)) <| sP (.bool false) ?_
 refine sM 69 (fcs 0) (fun g2 => ?_)
 refine sW 2 g2 69 (fcs 0) (fcs ((0 : Fp).val)) (wS 0 69 (fcs ((0 : Fp).val)) rfl) <| sP (.bool false) ?_
 refine sA ?_
 refine sS (fv ((0 : Fp).val)) (qL 2 g2 0 4 69 69 (fcs ((0 : Fp).val)) rfl Tryz.underlying69) ?_
 obtain ⟨z1, hz1⟩ : ∃ z : Fp, z = (0 : Fp) * (0 : Fp) * (0 : Fp) + 7 := ⟨_, rfl⟩
 refine sS (fv z1.val) (qF 163 #[fv ((0 : Fp).val)] (by rw [hz1]; exact fun w => square_c w (0 : Fp))) ?_
 obtain ⟨r1, hr1⟩ : ∃ z : Nat, z = (sqrtS z1.val).1 := ⟨_, rfl⟩
 obtain ⟨k1, hk1⟩ : ∃ z : Bool, z = (sqrtS z1.val).2 := ⟨_, rfl⟩
 have lr1 : r1 < K4 := by rw [hr1]; exact sqrt_lt _
 refine sS (.tuple #[fv r1, .bool k1]) (qF 162 #[fv z1.val] (fun w => by rw [hr1, hk1]; exact sqrt_any w z1.val lK)) <| sP (.tuple #[fv r1, .bool k1]) <| sP (fv r1) <| sP (.bool k1) ?_
 refine sM 69 (fcs 0) (fun g3 => ?_)
 refine sW 3 g3 69 (fcs 0) (fcs r1) (wS 0 69 (fcs r1) rfl) <| sP (.bool k1) ?_
 refine sG <| Sy.seq <| sC ?_
 refine sP (.bool false) <| sP (.bool true) <| sP (.bool true) ?_
 refine sN <| sN ?_
 refine sP (.bool true) ?_
 refine sG <| sT <| sC ?_
 refine sS (pv 0 0 true) (qF 140 #[] (zero_c)) <| sW 1 g1 71 (pcs 0 0 false) (pcs 0 0 true) (wS 0 71 (pcs 0 0 true) rfl) <| sP (.bool false) ?_
 refine sG <| Sy.ret <| Sy.then_ret ?_
 rw [show (.tuple #[ptv (liftP l), .bool (liftB l)] : Value) = .tuple #[pv 0 0 true, .bool false] from by
   have hb : liftB l = false := by unfold liftB; simp [hu]
   rw [hb, lift_no hb]; rfl]
 exact Sy.ret2 (v := pv 0 0 true) (u := .bool false) rfl (.inl (Res.cell (ty' := 71) g1 1 (pcs 0 0 true) _ kR kR Tryz.underlying71 rfl kR kR)) (.inl (show _ = _ by kernel_rfl))
theorem lift_any (w : World) (l : List UInt8) (hl : l.length = 32) : Calls Tryz.prog 107 #[.agg (l.map bv).toArray] w (Gets w (.tuple #[ptv (liftP l), .bool (liftB l)])) := by
 by_cases h : valB l < pM
 ·exact lift_in w l hl ⟨valB l, h⟩ rfl
 ·exact lift_out w l hl h
end Go.Proofs.YtfhcpdbahbbmaaaGreatDoor.Cu

end
section
namespace Go.Proofs.YtfhcpdbahbbmaaaGreatDoor.Cu
open Go.RowKit Go.Proofs.YtfhcpdbahbbmaaaGreatDoor Go.Proofs.YtfhcpdbahbbmaaaGreatDoor.Sy
set_option maxRecDepth 100000
set_option maxHeartbeats 4000000

def dg (m j : Nat) : Nat := m / 16 ^ (63 - j) % 16
def dgA (m j : Nat) : List Value := [.int .u8 ((dg m j : Nat) : Int)]
theorem dgA_len (m : Nat) : ∀ j, (dgA m j).length = 1 := fun _ => rfl
theorem byte_get (m k : Nat) (hk : k < 32) : ((bytesS m).getD k 0).toNat = m / 2 ^ (8 * (31 - k)) % 256 := by
 have h : ∀ n j, j < n → (lowB m n).getD j 0 = byteN m (n - 1 - j) := by
  intro n
  induction n with
  | zero => intro j hj; omega
  | succ n ih =>
   intro j hj
   cases j with
   | zero => rfl
   | succ j =>
    show (lowB m n).getD j 0 = _
    rw [ih j (by omega)]
    congr 1
    omega
 unfold bytesS
 rw [h 32 k hk, show 32 - 1 - k = 31 - k by omega]
 unfold byteN
 rw [UInt8.toNat_ofNat']
 omega
theorem p16 (k : Nat) : (2 : Nat) ^ (8 * k) = 16 ^ (2 * k) := by
 rw [show 8 * k = 4 * (2 * k) by omega, Nat.pow_mul]
theorem dg_hi (m k : Nat) (hk : k < 32) : ((bytesS m).getD k 0).toNat / 16 = dg m (2 * k) := by
 rw [byte_get m k hk, p16]
 unfold dg
 rw [show 63 - 2 * k = 2 * (31 - k) + 1 by omega, Nat.pow_succ, ← Nat.div_div_eq_div_mul]
 omega
theorem dg_lo (m k : Nat) (hk : k < 32) : ((bytesS m).getD k 0).toNat % 16 = dg m (2 * k + 1) := by
 rw [byte_get m k hk, p16]
 unfold dg
 rw [show 63 - (2 * k + 1) = 2 * (31 - k) by omega]
 omega
theorem exec_hi (F : Slots) (o : Oper) (t : TypeId) (x y : Operand) {yt : TypeId} (b : UInt8) (d : Nat) (ho : o.op = .binOp .shr t x y yt) (hx : evF F x = bv b) (hy : evF F y = .int .u64 4) (h : b.toNat / 16 = d) (w : World) : (execOp (evF F) o).run Tryz.prog w = .ok (.value (.int .u8 ((d : Nat) : Int))) w :=
 exec_int .shr t x y .u8 (b.toNat : Int) 4 _ ho hx hy (int_shr t .u8 .u64 _ _ _ (by decide) (by
  show Int.fdiv (b.toNat : Int) ((16 : Nat) : Int) = _
  rw [← h, Int.fdiv_eq_ediv_of_nonneg _ (by omega)]
  omega)) w
theorem and15 : ∀ n : Fin 256, IntKind.u8.wrap ((BitVec.ofInt 8 ((n.val : Nat) : Int) &&& BitVec.ofInt 8 15).toNat : Int) = ((n.val % 16 : Nat) : Int) := by decide +kernel
theorem exec_lo (F : Slots) (o : Oper) (t : TypeId) (x y : Operand) {yt : TypeId} (b : UInt8) (d : Nat) (ho : o.op = .binOp .and t x y yt) (hx : evF F x = bv b) (hy : evF F y = .int .u8 15) (h : b.toNat % 16 = d) (w : World) : (execOp (evF F) o).run Tryz.prog w = .ok (.value (.int .u8 ((d : Nat) : Int))) w :=
 exec_int .and t x y .u8 (b.toNat : Int) 15 _ ho hx hy (int_and t .u8 _ _ _ (by
  rw [← h]
  exact and15 ⟨b.toNat, b.toNat_lt⟩)) w
theorem digits_c (w : World) (x : Nat) (hx : x < K4) : Calls Tryz.prog 201 #[fv x] w (Gets w (.agg (flat (dgA (x % Sc.pM)) 64).toArray)) := by
 obtain ⟨m, hm⟩ : ∃ m, m = x % Sc.pM := ⟨_, rfl⟩
 obtain ⟨l, hl0⟩ : ∃ l, l = bytesS m := ⟨_, rfl⟩
 have hl : l.length = 32 := by rw [hl0]; exact bytesS_length m
 have cB : ∀ w, Calls Tryz.prog 91 #[fv x] w (Gets w (.agg (l.map bv).toArray)) := fun w => by rw [hl0, hm]; exact Sc.bytes_any w x hx
 rw [← hm]
 refine Sy.enter (args := [fv x]) Tryz.func201 rfl kL ?_
 refine sC ?_
 refine sM 24 (fcs x) (fun g0 => ?_)
 refine Sy.make kR 26 (flat (fun _ => [.int .u8 0]) 64).toArray ptr kF (fun g1 => ?_)
 refine sA ?_
 refine Sy.make kR 26 (flat (fun _ => [.int .u8 0]) 64).toArray ptr kF (fun g2 => ?_)
 refine sG <| Sy.seq <| sC ?_
 refine sS (fv x) (qL 0 g0 0 4 24 24 (fcs x) rfl Tryz.underlying24) <| sS (.agg (l.map bv).toArray) (qF 91 #[fv x] (cB)) <| sP (.int .i64 0) ?_
 refine sG <| Sy.block ?_
 refine Sy.loopK 32 (fun k1 => [(2, .pointer (some ⟨g1, 0, none⟩)), (3, .pointer (some ⟨g2, 0, none⟩)), (7, .agg (l.map bv).toArray), (8, .int .i64 ((k1 : Nat) : Int))]) (fun k1 => [(g1, 26, (flat (fun _ => [.int .u8 0]) 64).toArray), (g2, 26, (flat (upto (2 * k1) (dgA m) [.int .u8 0]) 64).toArray)]) [false, true, true] (M := [(g1, 26, (flat (fun _ => [.int .u8 0]) 64).toArray), (g2, 26, (flat (fun _ => [.int .u8 0]) 64).toArray)]) (all_cons kR (all_cons kR (all_cons kR (all_cons kR all_nil)))) kR (bcons rfl (bcons (beq (upto_zero)) rfl)) (fun k1 hk1 => ?_)
 refine sC ?_
 obtain ⟨b1, hb1⟩ : ∃ z : Bool, z = decide (k1 < 32) := ⟨_, rfl⟩
 refine sS (.bool b1) (Quiet.pure (exec_int .lss _ _ _ .i64 _ _ _ rfl rfl rfl (int_lss _ _ _ _ _ (by rw [hb1]; exact decide_eq_decide.2 (by omega))))) ?_
 refine sG <| Sy.seq ?_
 cases b1
 ·have lb1 : ¬ (k1 < 32) := of_decide_eq_false hb1.symm
  refine sU <| Sy.exit <| Sy.then_exit <| Sy.then_exit ?_
  obtain rfl : k1 = 32 := by omega
  refine Sy.in_exit <| sB ?_
  refine sS (.agg (flat (upto (2 * 32) (dgA m) [.int .u8 0]) 64).toArray) (Quiet.load 1 g2 0 64 26 26 (flat (upto (2 * 32) (dgA m) [.int .u8 0]) 64).toArray _ _ rfl kR kR Tryz.underlying26 rfl kR _ (flat_whole (upto_len (dgA_len m) rfl _) rfl) (flat_wsize (upto_len (dgA_len m) rfl _) rfl)) ?_
  refine Sy.write kR 0 g1 26 (flat (fun _ => [.int .u8 0]) 64).toArray (flat (upto (2 * 32) (dgA m) [.int .u8 0]) 64).toArray kR (Writes.store 0 26 (flat (upto (2 * 32) (dgA m) [.int .u8 0]) 64).toArray _ _ rfl kR kR (flat_info (upto_len (dgA_len m) rfl _) kR) (flat_over (upto_len (dgA_len m) rfl _) rfl kR) (flat_one (upto_len (dgA_len m) rfl _) _ (upto_one (fun _ u hu => by rw [List.mem_singleton.1 hu]; rfl) (fun u hu => by rw [List.mem_singleton.1 hu]; rfl) _)) (flat_put (upto_len (dgA_len m) rfl _) kR)) ?_
  refine sG <| Sy.ret ?_
  rw [show (.agg (flat (dgA m) 64).toArray : Value) = .agg (flat (upto (2 * 32) (dgA m) [.int .u8 0]) 64).toArray from congrArg Value.agg upto_all.symm]
  exact Sy.ret1 rfl (v := .agg (flat (upto (2 * 32) (dgA m) [.int .u8 0]) 64).toArray) (.inl (Res.cell (ty' := 26) g1 0 (flat (upto (2 * 32) (dgA m) [.int .u8 0]) 64).toArray _ kR kR Tryz.underlying26 rfl (flat_info (upto_len (dgA_len m) rfl _) kR) rfl))
 ·have lb1 : k1 < 32 := of_decide_eq_true hb1.symm
  refine sT <| Sy.skip <| Sy.then_ <| Sy.seq <| Sy.block <| sC ?_
  refine sP (.int .i64 ((k1 : Nat) : Int)) <| sS (bv (l.getD k1 0)) (Quiet.pure (exec_idx _ _ _ _ _ 32 k1 .i64 _ _ rfl rfl rfl Tryz.underlying30 Tryz.underlying5 rfl kF (by omega) (key_at l hl k1 (by omega)))) <| sP (.int .i64 ((k1 : Nat) : Int)) <| sP (bv (l.getD k1 0)) ?_
  refine sG <| Sy.region ?_
  refine sP (.int .i64 ((k1 : Nat) : Int)) <| sS (.int .i64 ((2 * k1 : Nat) : Int)) (Quiet.pure (exec_int .mul _ _ _ .i64 _ _ _ rfl rfl rfl (int_mul _ _ _ _ _ ((wrap_i64 (by omega) (by omega)).trans (by omega))))) <| sP (.int .i64 ((k1 : Nat) : Int)) <| sS (.int .i64 ((2 * k1 : Nat) : Int)) (Quiet.pure (exec_int .mul _ _ _ .i64 _ _ _ rfl rfl rfl (int_mul _ _ _ _ _ ((wrap_i64 (by omega) (by omega)).trans (by omega))))) <| sS (.int .i64 (((2 * k1) + 1 : Nat) : Int)) (Quiet.pure (exec_int .add _ _ _ .i64 _ _ _ rfl rfl rfl (int_add _ _ _ _ _ ((wrap_i64 (by omega) (by omega)).trans (by omega))))) <| sP (bv (l.getD k1 0)) <| sS (.int .u8 ((dg m (2 * k1) : Nat) : Int)) (Quiet.pure (exec_hi _ _ _ _ _ (l.getD k1 0) _ rfl rfl rfl (by rw [hl0]; exact dg_hi m k1 (by omega)))) <| sP (bv (l.getD k1 0)) ?_
  refine sS (.int .u8 ((dg m (2 * k1 + 1) : Nat) : Int)) (Quiet.pure (exec_lo _ _ _ _ _ (l.getD k1 0) _ rfl rfl rfl (by rw [hl0]; exact dg_lo m k1 (by omega)))) <| sS (.pointer (some ⟨g2, 0 + (2 * k1) * 1, none⟩)) (Quiet.pure (exec_atA 26 _ _ _ g2 0 _ (2 * k1) 1 .i64 rfl rfl rfl Tryz.underlying26 kF (by omega))) ?_
  refine Sy.write kR 1 g2 26 (flat (upto (2 * k1) (dgA m) [.int .u8 0]) 64).toArray (flat (upto (2 * k1 + 1) (dgA m) [.int .u8 0]) 64).toArray kR (Writes.one (0 + (2 * k1) * 1) 5 (.int .u8 ((dg m (2 * k1) : Nat) : Int)) _ _ rfl kR kR kR rfl rfl (flat_lt1 (upto_len (dgA_len m) rfl _) (k := 2 * k1) (by omega) (by omega)) ((congrArg (Array.setIfInBounds _ · _) (show 0 + (2 * k1) * 1 = 2 * k1 by omega)).trans (upto_set1 (dgA_len m) (rfl) (by omega)))) ?_
  refine sS (.pointer (some ⟨g2, 0 + ((2 * k1) + 1) * 1, none⟩)) (Quiet.pure (exec_atA 26 _ _ _ g2 0 _ ((2 * k1) + 1) 1 .i64 rfl rfl rfl Tryz.underlying26 kF (by omega))) ?_
  refine Sy.write kR 1 g2 26 (flat (upto (2 * k1 + 1) (dgA m) [.int .u8 0]) 64).toArray (flat (upto (2 * k1 + 1 + 1) (dgA m) [.int .u8 0]) 64).toArray kR (Writes.one (0 + ((2 * k1) + 1) * 1) 5 (.int .u8 ((dg m (2 * k1 + 1) : Nat) : Int)) _ _ rfl kR kR kR rfl rfl (flat_lt1 (upto_len (dgA_len m) rfl _) (k := 2 * k1 + 1) (by omega) (by omega)) ((congrArg (Array.setIfInBounds _ · _) (show 0 + ((2 * k1) + 1) * 1 = 2 * k1 + 1 by omega)).trans (upto_set1 (dgA_len m) (rfl) (by omega)))) ?_
  refine Sy.nil <| Sy.in_ <| Sy.then_ <| Sy.region ?_
  refine sS (.int .i64 ((k1 + 1 : Nat) : Int)) (Quiet.pure (exec_int .add _ _ _ .i64 _ _ _ rfl rfl rfl (int_add _ _ _ _ _ ((wrap_i64 (by omega) (by omega)).trans (by omega))))) <| sP (.int .i64 ((k1 + 1 : Nat) : Int)) ?_
  refine Sy.nil ?_
  exact Sy.againK [true, true] (M := [(g1, 26, (flat (fun _ => [.int .u8 0]) 64).toArray), (g2, 26, (flat (upto (2 * k1 + 1 + 1) (dgA m) [.int .u8 0]) 64).toArray)]) (by omega) (all_cons kR (all_cons kR (all_cons kR (all_cons kR all_nil)))) kR (bcons rfl (bcons (beq (congrArg (fun t => (flat (upto t (dgA m) [.int .u8 0]) 64).toArray) (show 2 * k1 + 1 + 1 = 2 * (k1 + 1) by omega))) rfl))
def tws (x y z : Nat) : List Value := fws x ++ (fws y ++ fws z)
def jws (a : J) : List Value := tws a.x.val a.y.val a.z.val
def fewL (a : J) : Nat → J
 | 0 => ⟨0, 0, 0⟩
 | k + 1 => addJ (fewL a k) a
theorem fewL_rep {a : J} {P : Pt} (hP : Ec.On P) (h : Ec.Rep a P) : ∀ k, Ec.Rep (fewL a k) (Ec.nm finv k P)
 | 0 => rfl
 | k + 1 => addJ_rep (hP.nm fld k) hP (fewL_rep hP h k) h
def fewA (a : J) (j : Nat) : List Value := jws (fewL a j)
theorem fewA_len (a : J) : ∀ j, (fewA a j).length = 12 := fun _ => rfl
theorem few_first (a : J) : (flat (fun _ => tws 0 0 0) 16).toArray = (flat (upto 1 (fewA a) (tws 0 0 0)) 16).toArray := congrArg List.toArray (flat_congr fun j _ => by
 unfold upto
 split
 ·obtain rfl : j = 0 := by omega
  rfl
 ·rfl)
theorem jws_one (a : J) : ∀ u ∈ jws a, u.oneCell' = true := fun u hu => by
 unfold jws tws fws at hu
 simp [qv] at hu
 rcases hu with rfl | rfl | rfl | rfl | rfl | rfl | rfl | rfl | rfl | rfl | rfl | rfl <;> rfl
theorem few_c (w : World) (P : Pt) (x y : Nat) (i : Bool) (hP : ptv P = pv x y i) : Calls Tryz.prog 202 #[pv x y i] w (Gets w (.agg (flat (fewA (threeJ P)) 16).toArray)) := by
 obtain ⟨a, ha⟩ : ∃ a, a = threeJ P := ⟨_, rfl⟩
 have c3 : ∀ w, Calls Tryz.prog 213 #[pv x y i] w (Gets w (tv a.x.val a.y.val a.z.val)) := fun w => by
  have h := three_c w P
  rw [hP, ← ha] at h
  exact h
 rw [← ha]
 refine Sy.enter (args := [pv x y i]) Tryz.func202 rfl kL ?_
 refine sC ?_
 refine sM 71 (pcs x y i) (fun g0 => ?_)
 refine Sy.make kR 243 (flat (fun _ => tws 0 0 0) 16).toArray ptr kF (fun g1 => ?_)
 refine sA ?_
 refine Sy.make kR 243 (flat (fun _ => tws 0 0 0) 16).toArray ptr kF (fun g2 => ?_)
 refine sA ?_
 refine sS (pv x y i) (qL 0 g0 0 9 71 71 (pcs x y i) rfl Tryz.underlying71) <| sS (tv a.x.val a.y.val a.z.val) (qF 213 #[pv x y i] (c3)) ?_
 refine sM 212 (tcs 0 0 0) (fun g3 => ?_)
 refine sW 3 g3 212 (tcs 0 0 0) (tcs a.x.val a.y.val a.z.val) (wS 0 212 (tcs a.x.val a.y.val a.z.val) rfl) ?_
 refine sG <| Sy.seq <| sC ?_
 refine sP (.int .i64 1) ?_
 refine sG <| Sy.block ?_
 refine Sy.loopK 15 (fun k1 => [(2, .pointer (some ⟨g1, 0, none⟩)), (3, .pointer (some ⟨g2, 0, none⟩)), (4, .pointer (some ⟨g3, 0, none⟩)), (5, .int .i64 ((k1 + 1 : Nat) : Int))]) (fun k1 => [(g1, 243, (flat (fun _ => tws 0 0 0) 16).toArray), (g2, 243, (flat (upto (k1 + 1) (fewA a) (tws 0 0 0)) 16).toArray), (g3, 212, (tcs a.x.val a.y.val a.z.val))]) [false, true, true, true] (M := [(g1, 243, (flat (fun _ => tws 0 0 0) 16).toArray), (g2, 243, (flat (fun _ => tws 0 0 0) 16).toArray), (g3, 212, (tcs a.x.val a.y.val a.z.val))]) (all_cons kR (all_cons kR (all_cons kR (all_cons kR all_nil)))) kR (bcons rfl (bcons (beq (few_first a)) (bcons rfl rfl))) (fun k1 hk1 => ?_)
 refine Sy.seq <| sC ?_
 refine sP (.int .i64 ((k1 + 1 : Nat) : Int)) ?_
 obtain ⟨b1, hb1⟩ : ∃ z : Bool, z = decide (k1 + 1 < 16) := ⟨_, rfl⟩
 refine sS (.bool b1) (Quiet.pure (exec_int .lss _ _ _ .i64 _ _ _ rfl rfl rfl (int_lss _ _ _ _ _ (by rw [hb1]; exact decide_eq_decide.2 (by omega))))) ?_
 refine sG ?_
 cases b1
 ·have lb1 : ¬ (k1 + 1 < 16) := of_decide_eq_false hb1.symm
  refine sU <| Sy.exit <| Sy.then_exit <| Sy.then_exit ?_
  obtain rfl : k1 = 15 := by omega
  refine Sy.in_exit <| sB ?_
  refine sS (.agg (flat (upto (15 + 1) (fewA a) (tws 0 0 0)) 16).toArray) (Quiet.load 1 g2 0 192 243 243 (flat (upto (15 + 1) (fewA a) (tws 0 0 0)) 16).toArray _ _ rfl kR kR Tryz.underlying243 rfl kR _ (flat_whole (upto_len (fewA_len a) rfl _) rfl) (flat_wsize (upto_len (fewA_len a) rfl _) rfl)) ?_
  refine Sy.write kR 0 g1 243 (flat (fun _ => tws 0 0 0) 16).toArray (flat (upto (15 + 1) (fewA a) (tws 0 0 0)) 16).toArray kR (Writes.store 0 243 (flat (upto (15 + 1) (fewA a) (tws 0 0 0)) 16).toArray _ _ rfl kR kR (flat_info (upto_len (fewA_len a) rfl _) kR) (flat_over (upto_len (fewA_len a) rfl _) rfl kR) (flat_one (upto_len (fewA_len a) rfl _) _ (upto_one (fun _ => jws_one _) (jws_one ⟨0, 0, 0⟩) _)) (flat_put (upto_len (fewA_len a) rfl _) kR)) ?_
  refine sG <| Sy.ret ?_
  rw [show (.agg (flat (fewA a) 16).toArray : Value) = .agg (flat (upto (15 + 1) (fewA a) (tws 0 0 0)) 16).toArray from congrArg Value.agg upto_all.symm]
  exact Sy.ret1 rfl (v := .agg (flat (upto (15 + 1) (fewA a) (tws 0 0 0)) 16).toArray) (.inl (Res.cell (ty' := 243) g1 0 (flat (upto (15 + 1) (fewA a) (tws 0 0 0)) 16).toArray _ kR kR Tryz.underlying243 rfl (flat_info (upto_len (fewA_len a) rfl _) kR) rfl))
 ·have lb1 : k1 + 1 < 16 := of_decide_eq_true hb1.symm
  refine sT <| Sy.skip <| Sy.then_ <| Sy.seq <| Sy.block ?_
  refine Sy.regionD (fun j => j == 8) kR ?_
  refine sZ 0 rfl (.int .i64 ((k1 + 1 : Nat) : Int)) <| sZ 1 rfl (.int .i64 ((k1 + 1 : Nat) : Int)) <| sD 2 rfl (.int .i64 (((k1 + 1) - 1 : Nat) : Int)) (Quiet.pure (exec_int .sub _ _ _ .i64 _ _ _ rfl rfl rfl (int_sub _ _ _ _ _ ((wrap_i64 (by omega) (by omega)).trans (by omega))))) <| sD 3 rfl (.pointer (some ⟨g2, 0 + ((k1 + 1) - 1) * 12, none⟩)) (Quiet.pure (exec_atA 243 _ _ _ g2 0 _ ((k1 + 1) - 1) 12 .i64 rfl rfl rfl Tryz.underlying243 kF (by omega))) <| sD 4 rfl (tv ((fewL a ((k1 + 1) - 1)).x.val) ((fewL a ((k1 + 1) - 1)).y.val) ((fewL a ((k1 + 1) - 1)).z.val)) (Quiet.load 1 g2 (0 + ((k1 + 1) - 1) * 12) 12 243 212 (flat (upto (k1 + 1) (fewA a) (tws 0 0 0)) 16).toArray _ _ rfl kR kR Tryz.underlying212 rfl kR _ ((flat_load (upto_len (fewA_len a) rfl _) (k := (k1 + 1) - 1) (by omega) (by omega)).trans ((congrArg (fun l : List Value => Value.agg l.toArray) (upto_lt (by omega))).trans kR)) (flat_fit (upto_len (fewA_len a) rfl _) (k := (k1 + 1) - 1) (by omega) (by omega))) <| sD 5 rfl (tv a.x.val a.y.val a.z.val) (qL 2 g3 0 12 212 212 (tcs a.x.val a.y.val a.z.val) rfl Tryz.underlying212) ?_
  obtain ⟨j1, hj1⟩ : ∃ z : J, z = addJ (fewL a ((k1 + 1) - 1)) a := ⟨_, rfl⟩
  refine sD 6 rfl (tv j1.x.val j1.y.val j1.z.val) (qF 178 #[tv ((fewL a ((k1 + 1) - 1)).x.val) ((fewL a ((k1 + 1) - 1)).y.val) ((fewL a ((k1 + 1) - 1)).z.val), tv a.x.val a.y.val a.z.val] (fun w => by rw [hj1]; exact addJ_c w (fewL a ((k1 + 1) - 1)) a)) <| sD 7 rfl (.pointer (some ⟨g2, 0 + (k1 + 1) * 12, none⟩)) (Quiet.pure (exec_atA 243 _ _ _ g2 0 _ (k1 + 1) 12 .i64 rfl rfl rfl Tryz.underlying243 kF (by omega))) ?_
  refine Sy.writeD 8 rfl kR (by rfl) kR 1 g2 243 (flat (upto (k1 + 1) (fewA a) (tws 0 0 0)) 16).toArray (flat (upto (k1 + 1 + 1) (fewA a) (tws 0 0 0)) 16).toArray kR (Writes.store (0 + (k1 + 1) * 12) 212 (tcs j1.x.val j1.y.val j1.z.val) _ _ rfl kR kR kR (flat_fit (upto_len (fewA_len a) rfl _) (k := k1 + 1) (by omega) (by omega)) kR (upto_set (v := (tcs j1.x.val j1.y.val j1.z.val).toList) (fewA_len a) rfl (by rw [hj1]; rfl) (by omega) (by omega))) ?_
  refine sE ?_
  refine Sy.in_ <| Sy.then_ <| Sy.region ?_
  refine sP (.int .i64 ((k1 + 1 : Nat) : Int)) <| sS (.int .i64 (((k1 + 1) + 1 : Nat) : Int)) (Quiet.pure (exec_int .add _ _ _ .i64 _ _ _ rfl rfl rfl (int_add _ _ _ _ _ ((wrap_i64 (by omega) (by omega)).trans (by omega))))) <| sP (.int .i64 (((k1 + 1) + 1 : Nat) : Int)) ?_
  refine Sy.nil ?_
  exact Sy.againK [true, true, true] (M := [(g1, 243, (flat (fun _ => tws 0 0 0) 16).toArray), (g2, 243, (flat (upto (k1 + 1 + 1) (fewA a) (tws 0 0 0)) 16).toArray), (g3, 212, (tcs a.x.val a.y.val a.z.val))]) (by omega) (all_cons kR (all_cons kR (all_cons kR (all_cons kR all_nil)))) kR (bcons rfl (bcons rfl (bcons rfl rfl)))
end Go.Proofs.YtfhcpdbahbbmaaaGreatDoor.Cu

end
section
namespace Go.Proofs.YtfhcpdbahbbmaaaGreatDoor.Cu
open Go.RowKit Go.Proofs.YtfhcpdbahbbmaaaGreatDoor Go.Proofs.YtfhcpdbahbbmaaaGreatDoor.Sy
set_option maxRecDepth 100000
set_option maxHeartbeats 4000000

structure Trm where
 k : Nat
 x : Nat
 y : Nat
 i : Bool
def trcs (k x y : Nat) (i : Bool) : Array Value := (fws k ++ (fws x ++ (fws y ++ [Value.bool i]))).toArray
def trv (k x y : Nat) (i : Bool) : Value := .agg (trcs k x y i)
def Trm.cells (t : Trm) : List Value := fws t.k ++ (fws t.x ++ (fws t.y ++ [Value.bool t.i]))
def Trm.ok (t : Trm) : Prop := t.k < K4 ∧ t.x < K4 ∧ t.y < K4
def Trm.pt (t : Trm) : Pt := dec t.x t.y t.i
def Trm.kn (t : Trm) : Nat := t.k % Sc.pM
def tmA (t : Trm) : List Value := flat (dgA t.kn) 64 ++ flat (fewA (threeJ t.pt)) 16
def tmcs (t : Trm) : Array Value := (tmA t).toArray
theorem tmA_len (T : Nat → Trm) : ∀ j, (tmA (T j)).length = 256 := fun _ => by
 unfold tmA
 rw [List.length_append, flat_len (dgA_len _), flat_len (fewA_len _)]
def zt : List Value := List.replicate 64 (.int .u8 0) ++ List.replicate 192 (.int .u64 0)
noncomputable def infTm : TypeInfo := (Tryz.prog.info? 246).getD default
theorem info_tm : Tryz.prog.info? 246 = some infTm := by kernel_rfl
theorem dg_lt (m j : Nat) : dg m j < 16 := Nat.mod_lt _ (by decide)
theorem few_p (w : World) (P : Pt) : Calls Tryz.prog 202 #[ptv P] w (Gets w (.agg (flat (fewA (threeJ P)) 16).toArray)) := by
 rcases P with _ | ⟨u, v⟩
 ·exact few_c w none 0 0 true rfl
 ·exact few_c w (some (u, v)) u.val v.val false rfl
def dbN (a : J) : Nat → J
 | 0 => a
 | j + 1 => dblJ (dbN a j)
def inJ (T : Nat → Trm) (i : Nat) (a : J) : Nat → J
 | 0 => a
 | j + 1 => addJ (inJ T i a j) (fewL (threeJ (T j).pt) (dg (T j).kn i))
def muJ (T : Nat → Trm) (n : Nat) : Nat → J
 | 0 => ⟨0, 0, 0⟩
 | i + 1 => inJ T i (dbN (muJ T n i) 4) n
theorem at_c (w : World) (g off i : Nat) (t : Trm) (hg : g < w.heap.size) (hi : i < 64) (hr : w.rangeAt g off (tmA t)) : Calls Tryz.prog 203 #[.pointer (some ⟨g, off, none⟩), .int .i64 ((i : Nat) : Int)] w (Gets w (tv (fewL (threeJ t.pt) (dg t.kn i)).x.val (fewL (threeJ t.pt) (dg t.kn i)).y.val (fewL (threeJ t.pt) (dg t.kn i)).z.val)) := by
 have hd := dg_lt t.kn i
 refine Sy.enter (args := [.pointer (some ⟨g, off, none⟩), .int .i64 ((i : Nat) : Int)]) Tryz.func203 rfl kL ?_
 refine sC ?_
 refine sM 212 (tcs 0 0 0) (fun g0 => ?_)
 refine sH (fun j => j == 11) ?_
 refine sZ 0 rfl (.pointer (some ⟨g, off, none⟩)) <| sZ 1 rfl (.pointer (some ⟨g, off, none⟩)) <| sZ 2 rfl (.int .i64 ((i : Nat) : Int)) <| sZ 3 rfl (.pointer (some ⟨g, off, none⟩)) <| sZ 4 rfl (.pointer (some ⟨g, off, none⟩)) <| sD 5 rfl (.pointer (some ⟨g, off + i * 1, none⟩)) (Quiet.pure (exec_atA 26 _ _ _ g off _ i 1 .i64 rfl rfl rfl Tryz.underlying26 kF (by omega))) <| sD 6 rfl (.int .u8 ((dg t.kn i : Nat) : Int)) (Quiet.thereOne g (off + i * 1) 5 _ _ rfl kR hg _ (range_flat (range_left hr) (dgA_len t.kn) hi 0 _ rfl) Tryz.underlying5 rfl) <| sZ 7 rfl (.pointer (some ⟨g, off, none⟩)) ?_
 refine sZ 8 rfl (.pointer (some ⟨g, off + 64, none⟩)) <| sD 9 rfl (.pointer (some ⟨g, off + 64 + (dg t.kn i) * 12, none⟩)) (Quiet.pure (exec_atA 243 _ _ _ g (off + 64) _ (dg t.kn i) 12 .u8 rfl rfl rfl Tryz.underlying243 kF (by omega))) <| sD 10 rfl (tv ((fewL (threeJ t.pt) (dg t.kn i)).x.val) ((fewL (threeJ t.pt) (dg t.kn i)).y.val) ((fewL (threeJ t.pt) (dg t.kn i)).z.val)) (Quiet.there g (off + 64 + (dg t.kn i) * 12) 12 212 (fewA (threeJ t.pt) (dg t.kn i)) _ _ rfl kR hg (range_flat (range_right hr (flat_len (dgA_len t.kn) 64)) (fewA_len _) hd) Tryz.underlying212 rfl kR rfl _ kR) <| sX 11 rfl 0 g0 212 (tcs 0 0 0) (tcs ((fewL (threeJ t.pt) (dg t.kn i)).x.val) ((fewL (threeJ t.pt) (dg t.kn i)).y.val) ((fewL (threeJ t.pt) (dg t.kn i)).z.val)) (wS 0 212 (tcs ((fewL (threeJ t.pt) (dg t.kn i)).x.val) ((fewL (threeJ t.pt) (dg t.kn i)).y.val) ((fewL (threeJ t.pt) (dg t.kn i)).z.val)) rfl) ?_
 refine sI ?_
 refine Sy.ret ?_
 exact rC (v := tv ((fewL (threeJ t.pt) (dg t.kn i)).x.val) ((fewL (threeJ t.pt) (dg t.kn i)).y.val) ((fewL (threeJ t.pt) (dg t.kn i)).z.val)) 212 g0 0 (tcs ((fewL (threeJ t.pt) (dg t.kn i)).x.val) ((fewL (threeJ t.pt) (dg t.kn i)).y.val) ((fewL (threeJ t.pt) (dg t.kn i)).z.val)) rfl Tryz.underlying212
theorem multi_c (w : World) (b o n c : Nat) (T : Nat → Trm) (hb : b < w.heap.size) (hn : n ≤ 32) (hok : ∀ j, (T j).ok) (hT : ∀ j, j < n → w.rangeAt b (o + j * 13) (T j).cells) : Calls Tryz.prog 179 #[.slice (some ⟨b, o, none⟩) n c] w (Gets w (tv (muJ T n 64).x.val (muJ T n 64).y.val (muJ T n 64).z.val)) := by
 refine Sy.enter (args := [.slice (some ⟨b, o, none⟩) n c]) Tryz.func179 rfl kL ?_
 refine sC ?_
 refine sM 212 (tcs 0 0 0) (fun g0 => ?_)
 refine sA ?_
 refine sP (.slice (some ⟨b, o, none⟩) n c) <| sP (.int .i64 ((n : Nat) : Int)) ?_
 refine Sy.make kR 246 (flat (fun _ => zt) n).toArray (fun g => .slice (some ⟨g, 0, none⟩) n n) (Makes.slice 241 246 _ (.agg zt.toArray) 256 1600 _ _ .i64 .i64 n zt rfl rfl rfl Tryz.underlying241 info_tm kR kR (by decide) kR kR kR (by omega) (by omega)) (fun g1 => ?_)
 refine sP (.slice (some ⟨g1, 0, none⟩) n n) ?_
 refine sG <| Sy.seq <| sC ?_
 refine sP (.slice (some ⟨b, o, none⟩) n c) <| sP (.int .i64 ((n : Nat) : Int)) <| sP (.int .i64 0) ?_
 refine sG <| Sy.block ?_
 refine Sy.loopK n (fun k1 => [(2, .pointer (some ⟨g0, 0, none⟩)), (3, .slice (some ⟨g1, 0, none⟩) n n), (12, .slice (some ⟨b, o, none⟩) n c), (13, .int .i64 ((n : Nat) : Int)), (14, .int .i64 ((k1 : Nat) : Int))]) (fun k1 => [(g0, 212, (tcs 0 0 0)), (g1, 246, (flat (upto k1 (fun j => tmA (T j)) zt) n).toArray)]) [true, true] (M := [(g0, 212, (tcs 0 0 0)), (g1, 246, (flat (fun _ => zt) n).toArray)]) (all_cons kR (all_cons kR (all_cons kR (all_cons kR (all_cons kR all_nil))))) kR (bcons rfl (bcons (beq (upto_zero)) rfl)) (fun k1 hk1 => ?_)
 refine sC ?_
 obtain ⟨b1, hb1⟩ : ∃ z : Bool, z = decide (k1 < n) := ⟨_, rfl⟩
 refine sS (.bool b1) (Quiet.pure (exec_int .lss _ _ _ .i64 _ _ _ rfl rfl rfl (int_lss _ _ _ _ _ (by rw [hb1]; exact decide_eq_decide.2 (by omega))))) ?_
 refine sG <| Sy.seq ?_
 cases b1
 ·have lb1 : ¬ (k1 < n) := of_decide_eq_false hb1.symm
  refine sU <| Sy.exit <| Sy.then_exit <| Sy.then_exit ?_
  obtain rfl : n = k1 := by omega
  refine Sy.in_exit <| sB ?_
  refine sM 212 (tcs 0 0 0) (fun g2 => ?_)
  refine sG <| Sy.seq <| sC ?_
  refine sP (.int .i64 0) ?_
  refine sG <| Sy.block ?_
  refine Sy.loopK 64 (fun k2 => [(2, .pointer (some ⟨g0, 0, none⟩)), (3, .slice (some ⟨g1, 0, none⟩) n n), (6, .pointer (some ⟨g2, 0, none⟩)), (31, .int .i64 ((k2 : Nat) : Int))]) (fun k2 => [(g0, 212, (tcs 0 0 0)), (g1, 246, (flat ((fun j => tmA (T j))) n).toArray), (g2, 212, (tcs ((muJ T n k2).x.val) ((muJ T n k2).y.val) ((muJ T n k2).z.val)))]) [true, true, true] (M := [(g0, 212, (tcs 0 0 0)), (g1, 246, (flat (upto n (fun j => tmA (T j)) zt) n).toArray), (g2, 212, (tcs 0 0 0))]) (all_cons kR (all_cons kR (all_cons kR (all_cons kR all_nil)))) kR (bcons rfl (bcons (beq (upto_all)) (bcons rfl rfl))) (fun k2 hk2 => ?_)
  refine sC ?_
  obtain ⟨b2, hb2⟩ : ∃ z : Bool, z = decide (k2 < 64) := ⟨_, rfl⟩
  refine sS (.bool b2) (Quiet.pure (exec_int .lss _ _ _ .i64 _ _ _ rfl rfl rfl (int_lss _ _ _ _ _ (by rw [hb2]; exact decide_eq_decide.2 (by omega))))) ?_
  refine sG <| Sy.seq ?_
  cases b2
  ·have lb2 : ¬ (k2 < 64) := of_decide_eq_false hb2.symm
   refine sU <| Sy.exit <| Sy.then_exit <| Sy.then_exit ?_
   obtain rfl : k2 = 64 := by omega
   refine Sy.in_exit <| sB ?_
   refine sS (tv ((muJ T n 64).x.val) ((muJ T n 64).y.val) ((muJ T n 64).z.val)) (qL 2 g2 0 12 212 212 (tcs ((muJ T n 64).x.val) ((muJ T n 64).y.val) ((muJ T n 64).z.val)) rfl Tryz.underlying212) <| sW 0 g0 212 (tcs 0 0 0) (tcs ((muJ T n 64).x.val) ((muJ T n 64).y.val) ((muJ T n 64).z.val)) (wS 0 212 (tcs ((muJ T n 64).x.val) ((muJ T n 64).y.val) ((muJ T n 64).z.val)) rfl) ?_
   refine sG <| Sy.ret ?_
   exact rC (v := tv ((muJ T n 64).x.val) ((muJ T n 64).y.val) ((muJ T n 64).z.val)) 212 g0 0 (tcs ((muJ T n 64).x.val) ((muJ T n 64).y.val) ((muJ T n 64).z.val)) rfl Tryz.underlying212
  ·have lb2 : k2 < 64 := of_decide_eq_true hb2.symm
   refine sT <| Sy.skip <| Sy.then_ <| Sy.seq <| Sy.block <| sC ?_
   refine sP (.int .i64 ((k2 : Nat) : Int)) <| sP (.int .i64 ((k2 : Nat) : Int)) ?_
   refine sG <| Sy.seq <| sC ?_
   refine sP (.int .i64 0) ?_
   refine sG <| Sy.block ?_
   refine Sy.loopK 4 (fun k3 => [(2, .pointer (some ⟨g0, 0, none⟩)), (3, .slice (some ⟨g1, 0, none⟩) n n), (6, .pointer (some ⟨g2, 0, none⟩)), (7, .int .i64 ((k2 : Nat) : Int)), (31, .int .i64 ((k2 : Nat) : Int)), (34, .int .i64 ((k3 : Nat) : Int))]) (fun k3 => [(g0, 212, (tcs 0 0 0)), (g1, 246, (flat ((fun j => tmA (T j))) n).toArray), (g2, 212, (tcs ((dbN (muJ T n k2) k3).x.val) ((dbN (muJ T n k2) k3).y.val) ((dbN (muJ T n k2) k3).z.val)))]) [true, true, true] (M := [(g0, 212, (tcs 0 0 0)), (g1, 246, (flat ((fun j => tmA (T j))) n).toArray), (g2, 212, (tcs ((muJ T n k2).x.val) ((muJ T n k2).y.val) ((muJ T n k2).z.val)))]) (all_cons kR (all_cons kR (all_cons kR (all_cons kR (all_cons kR (all_cons kR all_nil)))))) kR (bcons rfl (bcons rfl (bcons rfl rfl))) (fun k3 hk3 => ?_)
   refine sC ?_
   obtain ⟨b3, hb3⟩ : ∃ z : Bool, z = decide (k3 < 4) := ⟨_, rfl⟩
   refine sS (.bool b3) (Quiet.pure (exec_int .lss _ _ _ .i64 _ _ _ rfl rfl rfl (int_lss _ _ _ _ _ (by rw [hb3]; exact decide_eq_decide.2 (by omega))))) ?_
   refine sG <| Sy.seq ?_
   cases b3
   ·have lb3 : ¬ (k3 < 4) := of_decide_eq_false hb3.symm
    refine sU <| Sy.exit <| Sy.then_exit <| Sy.then_exit ?_
    obtain rfl : k3 = 4 := by omega
    refine Sy.in_exit <| sB ?_
    refine sP (.slice (some ⟨g1, 0, none⟩) n n) <| sP (.int .i64 ((n : Nat) : Int)) <| sP (.int .i64 0) ?_
    refine sG <| Sy.block ?_
    refine Sy.loopK n (fun k4 => [(2, .pointer (some ⟨g0, 0, none⟩)), (3, .slice (some ⟨g1, 0, none⟩) n n), (6, .pointer (some ⟨g2, 0, none⟩)), (7, .int .i64 ((k2 : Nat) : Int)), (31, .int .i64 ((k2 : Nat) : Int)), (40, .int .i64 ((n : Nat) : Int)), (41, .int .i64 ((k4 : Nat) : Int))]) (fun k4 => [(g0, 212, (tcs 0 0 0)), (g1, 246, (flat ((fun j => tmA (T j))) n).toArray), (g2, 212, (tcs ((inJ T k2 (dbN (muJ T n k2) 4) k4).x.val) ((inJ T k2 (dbN (muJ T n k2) 4) k4).y.val) ((inJ T k2 (dbN (muJ T n k2) 4) k4).z.val)))]) [true, true, true] (M := [(g0, 212, (tcs 0 0 0)), (g1, 246, (flat ((fun j => tmA (T j))) n).toArray), (g2, 212, (tcs ((dbN (muJ T n k2) 4).x.val) ((dbN (muJ T n k2) 4).y.val) ((dbN (muJ T n k2) 4).z.val)))]) (all_cons kR (all_cons kR (all_cons kR (all_cons kR (all_cons kR (all_cons kR (all_cons kR all_nil))))))) kR (bcons rfl (bcons rfl (bcons rfl rfl))) (fun k4 hk4 => ?_)
    refine sC ?_
    obtain ⟨b4, hb4⟩ : ∃ z : Bool, z = decide (k4 < n) := ⟨_, rfl⟩
    refine sS (.bool b4) (Quiet.pure (exec_int .lss _ _ _ .i64 _ _ _ rfl rfl rfl (int_lss _ _ _ _ _ (by rw [hb4]; exact decide_eq_decide.2 (by omega))))) ?_
    refine sG <| Sy.seq ?_
    cases b4
    ·have lb4 : ¬ (k4 < n) := of_decide_eq_false hb4.symm
     refine sU <| Sy.exit <| Sy.then_exit <| Sy.then_exit ?_
     obtain rfl : n = k4 := by omega
     refine Sy.in_exit <| Sy.in_ <| Sy.then_ <| Sy.region ?_
     refine sS (.int .i64 ((k2 + 1 : Nat) : Int)) (Quiet.pure (exec_int .add _ _ _ .i64 _ _ _ rfl rfl rfl (int_add _ _ _ _ _ ((wrap_i64 (by omega) (by omega)).trans (by omega))))) <| sP (.int .i64 ((k2 + 1 : Nat) : Int)) ?_
     refine Sy.nil ?_
     exact Sy.againK [true, true, true] (M := [(g0, 212, (tcs 0 0 0)), (g1, 246, (flat ((fun j => tmA (T j))) n).toArray), (g2, 212, (tcs ((inJ T k2 (dbN (muJ T n k2) 4) n).x.val) ((inJ T k2 (dbN (muJ T n k2) 4) n).y.val) ((inJ T k2 (dbN (muJ T n k2) 4) n).z.val)))]) (by omega) (all_cons kR (all_cons kR (all_cons kR (all_cons kR all_nil)))) kR (bcons rfl (bcons rfl (bcons rfl rfl)))
    ·have lb4 : k4 < n := of_decide_eq_true hb4.symm
     refine sT <| Sy.skip <| Sy.then_ <| Sy.seq <| Sy.block <| sC ?_
     refine sP (.int .i64 ((k4 : Nat) : Int)) <| sP (.int .i64 ((k4 : Nat) : Int)) ?_
     refine sG ?_
     refine Sy.regionD (fun j => j == 7) kR ?_
     refine sD 0 rfl (tv ((inJ T k2 (dbN (muJ T n k2) 4) k4).x.val) ((inJ T k2 (dbN (muJ T n k2) 4) k4).y.val) ((inJ T k2 (dbN (muJ T n k2) 4) k4).z.val)) (qL 2 g2 0 12 212 212 (tcs ((inJ T k2 (dbN (muJ T n k2) 4) k4).x.val) ((inJ T k2 (dbN (muJ T n k2) 4) k4).y.val) ((inJ T k2 (dbN (muJ T n k2) 4) k4).z.val)) rfl Tryz.underlying212) <| sZ 1 rfl (.slice (some ⟨g1, 0, none⟩) n n) <| sZ 2 rfl (.int .i64 ((k4 : Nat) : Int)) <| sD 3 rfl (.pointer (some ⟨g1, 0 + k4 * 256, none⟩)) (Quiet.pure (exec_at 241 _ _ _ g1 0 n n k4 256 .i64 rfl rfl rfl Tryz.underlying241 kF (by omega))) <| sZ 4 rfl (.int .i64 ((k2 : Nat) : Int)) <| sD 5 rfl (tv ((fewL (threeJ (T k4).pt) (dg (T k4).kn k2)).x.val) ((fewL (threeJ (T k4).pt) (dg (T k4).kn k2)).y.val) ((fewL (threeJ (T k4).pt) (dg (T k4).kn k2)).z.val)) (Quiet.callS 203 #[.pointer (some ⟨g1, 0 + k4 * 256, none⟩), .int .i64 ((k2 : Nat) : Int)] kF (fun w hw => at_c w g1 (0 + k4 * 256) k2 (T k4) (hw.get (i := 1) rfl).lt (by omega) (blk_range (hw.get (i := 1) rfl) (flat_at (tmA_len T) (k := k4) (by omega) (by omega))))) ?_
     obtain ⟨j1, hj1⟩ : ∃ z : J, z = addJ (inJ T k2 (dbN (muJ T n k2) 4) k4) (fewL (threeJ (T k4).pt) (dg (T k4).kn k2)) := ⟨_, rfl⟩
     refine sD 6 rfl (tv j1.x.val j1.y.val j1.z.val) (qF 178 #[tv ((inJ T k2 (dbN (muJ T n k2) 4) k4).x.val) ((inJ T k2 (dbN (muJ T n k2) 4) k4).y.val) ((inJ T k2 (dbN (muJ T n k2) 4) k4).z.val), tv ((fewL (threeJ (T k4).pt) (dg (T k4).kn k2)).x.val) ((fewL (threeJ (T k4).pt) (dg (T k4).kn k2)).y.val) ((fewL (threeJ (T k4).pt) (dg (T k4).kn k2)).z.val)] (fun w => by rw [hj1]; exact addJ_c w (inJ T k2 (dbN (muJ T n k2) 4) k4) (fewL (threeJ (T k4).pt) (dg (T k4).kn k2)))) <| sX 7 rfl 2 g2 212 (tcs ((inJ T k2 (dbN (muJ T n k2) 4) k4).x.val) ((inJ T k2 (dbN (muJ T n k2) 4) k4).y.val) ((inJ T k2 (dbN (muJ T n k2) 4) k4).z.val)) (tcs j1.x.val j1.y.val j1.z.val) (wS 0 212 (tcs j1.x.val j1.y.val j1.z.val) rfl) ?_
     refine sE ?_
     refine Sy.in_ <| Sy.then_ <| Sy.region ?_
     refine sS (.int .i64 ((k4 + 1 : Nat) : Int)) (Quiet.pure (exec_int .add _ _ _ .i64 _ _ _ rfl rfl rfl (int_add _ _ _ _ _ ((wrap_i64 (by omega) (by omega)).trans (by omega))))) <| sP (.int .i64 ((k4 + 1 : Nat) : Int)) ?_
     refine Sy.nil ?_
     exact Sy.againK [true, true, true] (M := [(g0, 212, (tcs 0 0 0)), (g1, 246, (flat ((fun j => tmA (T j))) n).toArray), (g2, 212, (tcs j1.x.val j1.y.val j1.z.val))]) (by omega) (all_cons kR (all_cons kR (all_cons kR (all_cons kR (all_cons kR (all_cons kR (all_cons kR all_nil))))))) kR (bcons rfl (bcons rfl (bcons (beq (by rw [hj1]; rfl)) rfl)))
   ·have lb3 : k3 < 4 := of_decide_eq_true hb3.symm
    refine sT <| Sy.skip <| Sy.then_ <| Sy.seq <| Sy.block <| Sy.region ?_
    refine sS (tv ((dbN (muJ T n k2) k3).x.val) ((dbN (muJ T n k2) k3).y.val) ((dbN (muJ T n k2) k3).z.val)) (qL 2 g2 0 12 212 212 (tcs ((dbN (muJ T n k2) k3).x.val) ((dbN (muJ T n k2) k3).y.val) ((dbN (muJ T n k2) k3).z.val)) rfl Tryz.underlying212) ?_
    obtain ⟨j2, hj2⟩ : ∃ z : J, z = dblJ (dbN (muJ T n k2) k3) := ⟨_, rfl⟩
    refine sS (tv j2.x.val j2.y.val j2.z.val) (qF 200 #[tv ((dbN (muJ T n k2) k3).x.val) ((dbN (muJ T n k2) k3).y.val) ((dbN (muJ T n k2) k3).z.val)] (fun w => by rw [hj2]; exact double_c w (dbN (muJ T n k2) k3))) <| sW 2 g2 212 (tcs ((dbN (muJ T n k2) k3).x.val) ((dbN (muJ T n k2) k3).y.val) ((dbN (muJ T n k2) k3).z.val)) (tcs j2.x.val j2.y.val j2.z.val) (wS 0 212 (tcs j2.x.val j2.y.val j2.z.val) rfl) ?_
    refine Sy.nil <| Sy.in_ <| Sy.then_ <| Sy.region ?_
    refine sS (.int .i64 ((k3 + 1 : Nat) : Int)) (Quiet.pure (exec_int .add _ _ _ .i64 _ _ _ rfl rfl rfl (int_add _ _ _ _ _ ((wrap_i64 (by omega) (by omega)).trans (by omega))))) <| sP (.int .i64 ((k3 + 1 : Nat) : Int)) ?_
    refine Sy.nil ?_
    exact Sy.againK [true, true, true] (M := [(g0, 212, (tcs 0 0 0)), (g1, 246, (flat ((fun j => tmA (T j))) n).toArray), (g2, 212, (tcs j2.x.val j2.y.val j2.z.val))]) (by omega) (all_cons kR (all_cons kR (all_cons kR (all_cons kR (all_cons kR (all_cons kR all_nil)))))) kR (bcons rfl (bcons rfl (bcons (beq (by rw [hj2]; rfl)) rfl)))
 ·have lb1 : k1 < n := of_decide_eq_true hb1.symm
  refine sT <| Sy.skip <| Sy.then_ <| Sy.seq <| Sy.block <| sC ?_
  refine sP (.int .i64 ((k1 : Nat) : Int)) <| sS (.pointer (some ⟨b, o + k1 * 13, none⟩)) (Quiet.pure (exec_at 177 _ _ _ b o n c k1 13 .i64 rfl rfl rfl Tryz.underlying177 kF (by omega))) <| sS (trv ((T k1).k) ((T k1).x) ((T k1).y) ((T k1).i)) (Quiet.there b (o + k1 * 13) 13 176 (T k1).cells _ _ rfl kR hb (hT k1 (by omega)) Tryz.underlying176 rfl kR rfl _ kR) ?_
  refine sM 176 (trcs 0 0 0 false) (fun g3 => ?_)
  refine sP (.int .i64 ((k1 : Nat) : Int)) <| sW 2 g3 176 (trcs 0 0 0 false) (trcs ((T k1).k) ((T k1).x) ((T k1).y) ((T k1).i)) (wS 0 176 (trcs ((T k1).k) ((T k1).x) ((T k1).y) ((T k1).i)) rfl) ?_
  refine sG ?_
  refine Sy.regionD (fun j => j == 11) kR ?_
  refine sZ 0 rfl (.slice (some ⟨g1, 0, none⟩) n n) <| sZ 1 rfl (.int .i64 ((k1 : Nat) : Int)) <| sZ 2 rfl (.pointer (some ⟨g3, 0, none⟩)) <| sD 3 rfl (fv ((T k1).k)) (qL 2 g3 0 4 176 24 (trcs ((T k1).k) ((T k1).x) ((T k1).y) ((T k1).i)) rfl Tryz.underlying24) <| sD 4 rfl (.agg (flat ((dgA (T k1).kn)) 64).toArray) (qF 201 #[fv ((T k1).k)] (fun w => digits_c w (T k1).k (hok k1).1)) <| sZ 5 rfl (.pointer (some ⟨g3, 4, none⟩)) <| sD 6 rfl (pv ((T k1).x) ((T k1).y) ((T k1).i)) (qL 2 g3 4 9 176 71 (trcs ((T k1).k) ((T k1).x) ((T k1).y) ((T k1).i)) rfl Tryz.underlying71) <| sD 7 rfl (ptv (T k1).pt) (qF 139 #[pv ((T k1).x) ((T k1).y) ((T k1).i)] (fun w => right_c w (T k1).x (T k1).y (T k1).i (hok k1).2.1 (hok k1).2.2)) ?_
  refine sD 8 rfl (.agg (flat ((fewA (threeJ (T k1).pt))) 16).toArray) (qF 202 #[ptv (T k1).pt] (fun w => few_p w (T k1).pt)) <| sZ 9 rfl (.agg (tmcs (T k1))) <| sD 10 rfl (.pointer (some ⟨g1, 0 + k1 * 256, none⟩)) (Quiet.pure (exec_at 241 _ _ _ g1 0 n n k1 256 .i64 rfl rfl rfl Tryz.underlying241 kF (by omega))) <| sX 11 rfl 1 g1 246 (flat (upto k1 (fun j => tmA (T j)) zt) n).toArray (flat (upto (k1 + 1) (fun j => tmA (T j)) zt) n).toArray (Writes.store (0 + k1 * 256) 246 (tmcs (T k1)) _ _ rfl kR kR kR (flat_fit (upto_len (tmA_len T) rfl _) (k := k1) (by omega) (by omega)) kR (upto_set (v := (tmcs (T k1)).toList) (tmA_len T) rfl (rfl) (by omega) (by omega))) ?_
  refine sE ?_
  refine Sy.in_ <| Sy.then_ <| Sy.region ?_
  refine sS (.int .i64 ((k1 + 1 : Nat) : Int)) (Quiet.pure (exec_int .add _ _ _ .i64 _ _ _ rfl rfl rfl (int_add _ _ _ _ _ ((wrap_i64 (by omega) (by omega)).trans (by omega))))) <| sP (.int .i64 ((k1 + 1 : Nat) : Int)) ?_
  refine Sy.nil ?_
  exact Sy.againK [true, true, false] (M := [(g0, 212, (tcs 0 0 0)), (g1, 246, (flat (upto (k1 + 1) (fun j => tmA (T j)) zt) n).toArray)]) (by omega) (all_cons kR (all_cons kR (all_cons kR (all_cons kR (all_cons kR all_nil))))) kR (bcons rfl (bcons rfl rfl))
end Go.Proofs.YtfhcpdbahbbmaaaGreatDoor.Cu

end
section
namespace Go.Proofs.YtfhcpdbahbbmaaaGreatDoor.Ec
variable {n : Nat} [NeZero n] {inv : Fin n → Fin n} {α : Type}

def sumF (inv : Fin n → Fin n) (f : α → Pt n) (s : Pt n) : List α → Pt n
 | [] => s
 | x :: l => sumF inv f (add inv s (f x)) l
def sumL (inv : Fin n → Fin n) (f : α → Pt n) (l : List α) : Pt n := sumF inv f none l
theorem On.sumF (H : Fld n inv) {f : α → Pt n} : ∀ (l : List α) {s : Pt n}, On s → (∀ x ∈ l, On (f x)) → On (Ec.sumF inv f s l)
 | [], _, hs, _ => hs
 | x :: l, _, hs, hf => On.sumF H l (On.add H hs (hf x (List.mem_cons_self ..))) fun y hy => hf y (List.mem_cons_of_mem _ hy)
theorem sumF_start (H : Fld n inv) {f : α → Pt n} : ∀ (l : List α) {s t : Pt n}, On s → On t → (∀ x ∈ l, On (f x)) → sumF inv f (add inv s t) l = add inv s (sumF inv f t l)
 | [], _, _, _, _, _ => rfl
 | x :: l, s, t, hs, ht, hf => by
  have hx := hf x (List.mem_cons_self ..)
  show sumF inv f (add inv (add inv s t) (f x)) l = add inv s (sumF inv f (add inv t (f x)) l)
  rw [assoc H hs ht hx]
  exact sumF_start H l hs (On.add H ht hx) fun y hy => hf y (List.mem_cons_of_mem _ hy)
theorem sumF_is (H : Fld n inv) {f : α → Pt n} (l : List α) {s : Pt n} (hs : On s) (hf : ∀ x ∈ l, On (f x)) : sumF inv f s l = add inv s (sumL inv f l) := by
 have := sumF_start H l hs (show On none from trivial) hf
 rwa [add_zero] at this
theorem On.sumL (H : Fld n inv) {f : α → Pt n} (l : List α) (hf : ∀ x ∈ l, On (f x)) : On (Ec.sumL inv f l) := On.sumF H l trivial hf
theorem sumL_cons (H : Fld n inv) {f : α → Pt n} (x : α) (l : List α) (hf : ∀ y ∈ x :: l, On (f y)) : sumL inv f (x :: l) = add inv (f x) (sumL inv f l) := by
 show sumF inv f (add inv none (f x)) l = _
 rw [zero_add]
 exact sumF_is H l (hf x (List.mem_cons_self ..)) fun y hy => hf y (List.mem_cons_of_mem _ hy)
theorem sumL_append (H : Fld n inv) {f : α → Pt n} : ∀ (l m : List α), (∀ x ∈ l ++ m, On (f x)) → sumL inv f (l ++ m) = add inv (sumL inv f l) (sumL inv f m)
 | [], m, _ => (zero_add _).symm
 | x :: l, m, h => by
  have h1 : ∀ y ∈ l ++ m, On (f y) := fun y hy => h y (List.mem_cons_of_mem _ hy)
  have h2 : ∀ y ∈ x :: l, On (f y) := fun y hy => h y (by rcases List.mem_cons.1 hy with rfl | hy; exact List.mem_cons_self ..; exact List.mem_cons_of_mem _ (List.mem_append_left _ hy))
  rw [List.cons_append, sumL_cons H x (l ++ m) (fun y hy => h y (by rw [List.cons_append]; exact hy)), sumL_append H l m h1, sumL_cons H x l h2,
   assoc H (h x (List.mem_cons_self ..)) (On.sumL H l fun y hy => h1 y (List.mem_append_left _ hy)) (On.sumL H m fun y hy => h1 y (List.mem_append_right _ hy))]
theorem sumL_add (H : Fld n inv) {f g : α → Pt n} : ∀ (l : List α), (∀ x ∈ l, On (f x)) → (∀ x ∈ l, On (g x)) → sumL inv (fun x => add inv (f x) (g x)) l = add inv (sumL inv f l) (sumL inv g l)
 | [], _, _ => rfl
 | x :: l, hf, hg => by
  have f1 := hf x (List.mem_cons_self ..)
  have g1 := hg x (List.mem_cons_self ..)
  have hf' : ∀ y ∈ l, On (f y) := fun y hy => hf y (List.mem_cons_of_mem _ hy)
  have hg' : ∀ y ∈ l, On (g y) := fun y hy => hg y (List.mem_cons_of_mem _ hy)
  rw [sumL_cons H x l (fun y hy => On.add H (hf y hy) (hg y hy)), sumL_cons H x l hf, sumL_cons H x l hg, sumL_add H l hf' hg']
  exact add4 H f1 g1 (On.sumL H l hf') (On.sumL H l hg')
theorem sumL_nm (H : Fld n inv) {f : α → Pt n} (k : Nat) : ∀ (l : List α), (∀ x ∈ l, On (f x)) → sumL inv (fun x => nm inv k (f x)) l = nm inv k (sumL inv f l)
 | [], _ => (nm_none k).symm
 | x :: l, hf => by
  have f1 := hf x (List.mem_cons_self ..)
  have hf' : ∀ y ∈ l, On (f y) := fun y hy => hf y (List.mem_cons_of_mem _ hy)
  rw [sumL_cons H x l (fun y hy => On.nm H (hf y hy) k), sumL_cons H x l hf, sumL_nm H k l hf', nm_sum H f1 (On.sumL H l hf')]
theorem sumL_congr (H : Fld n inv) {f g : α → Pt n} : ∀ (l : List α), (∀ x ∈ l, On (f x)) → (∀ x ∈ l, f x = g x) → sumL inv f l = sumL inv g l
 | [], _, _ => rfl
 | x :: l, hf, he => by
  have hg : ∀ y ∈ x :: l, On (g y) := fun y hy => he y hy ▸ hf y hy
  rw [sumL_cons H x l hf, sumL_cons H x l hg, he x (List.mem_cons_self ..), sumL_congr H l (fun y hy => hf y (List.mem_cons_of_mem _ hy)) fun y hy => he y (List.mem_cons_of_mem _ hy)]
theorem horner (H : Fld n inv) {p : α → Pt n} (k : α → Nat) (q : Nat) (l : List α) (hp : ∀ x ∈ l, On (p x)) :
  add inv (nm inv 16 (sumL inv (fun x => nm inv (k x / (16 * q)) (p x)) l)) (sumL inv (fun x => nm inv (k x / q % 16) (p x)) l) = sumL inv (fun x => nm inv (k x / q) (p x)) l := by
 rw [← sumL_nm H 16 l fun x hx => On.nm H (hp x hx) _, ← sumL_add H l (fun x hx => On.nm H (On.nm H (hp x hx) _) _) fun x hx => On.nm H (hp x hx) _]
 refine sumL_congr H l (fun x hx => On.add H (On.nm H (On.nm H (hp x hx) _) _) (On.nm H (hp x hx) _)) fun x hx => ?_
 rw [← nm_mul H (hp x hx), ← nm_add H (hp x hx)]
 congr 1
 rw [Nat.mul_comm 16 q, ← Nat.div_div_eq_div_mul]
 omega
theorem nm_two (P : Pt n) : nm inv 2 P = add inv P P := by
 show add inv (nm inv 1 P) P = _
 rw [nm_one]
theorem bit_step (H : Fld n inv) {P : Pt n} (hP : On P) (k q : Nat) : add inv (add inv (nm inv (k / (2 * q)) P) (nm inv (k / (2 * q)) P)) (nm inv (k / q % 2) P) = nm inv (k / q) P := by
 rw [← nm_two, ← nm_mul H hP, ← nm_add H hP]
 congr 1
 rw [Nat.mul_comm 2 q, ← Nat.div_div_eq_div_mul]
 omega
end Go.Proofs.YtfhcpdbahbbmaaaGreatDoor.Ec

end
section
namespace Go.Proofs.YtfhcpdbahbbmaaaGreatDoor.Cu
open Go.RowKit Go.Proofs.YtfhcpdbahbbmaaaGreatDoor Go.Proofs.YtfhcpdbahbbmaaaGreatDoor.Sy

theorem sumF_snoc {α : Type} (f : α → Pt) : ∀ (l : List α) (s : Pt) (x : α), Ec.sumF finv f s (l ++ [x]) = Ec.add finv (Ec.sumF finv f s l) (f x)
 | [], _, _ => rfl
 | y :: l, s, x => sumF_snoc f l (Ec.add finv s (f y)) x
theorem sumL_none {α : Type} (f : α → Pt) : ∀ (l : List α), (∀ x ∈ l, f x = none) → Ec.sumL finv f l = none
 | [], _ => rfl
 | x :: l, h => by
  show Ec.sumF finv f (Ec.add finv none (f x)) l = none
  rw [h x (List.mem_cons_self ..), Ec.add_zero]
  exact sumL_none f l fun y hy => h y (List.mem_cons_of_mem _ hy)
theorem sumL_map {α β : Type} (f : β → Pt) (g : α → β) (l : List α) : Ec.sumL finv f (l.map g) = Ec.sumL finv (fun x => f (g x)) l := by
 have h : ∀ (l : List α) (s : Pt), Ec.sumF finv f s (l.map g) = Ec.sumF finv (fun x => f (g x)) s l := by
  intro l
  induction l with
  | nil => intro _; rfl
  | cons x l ih => intro s; exact ih _
 exact h l none

theorem dbN_rep {a : J} {P : Pt} (hP : Ec.On P) (h : Ec.Rep a P) : ∀ j, Ec.Rep (dbN a j) (Ec.nm finv (2 ^ j) P)
 | 0 => by rw [Nat.pow_zero, Ec.nm_one]; exact h
 | j + 1 => by
  rw [show 2 ^ (j + 1) = 2 ^ j + 2 ^ j by omega, Ec.nm_add fld hP]
  exact dblJ_rep (hP.nm fld _) (dbN_rep hP h j)
theorem Trm.on (t : Trm) : Ec.On t.pt := dec_on t.x t.y t.i
theorem inJ_rep (T : Nat → Trm) (i : Nat) {a : J} {s : Pt} (hs : Ec.On s) (h : Ec.Rep a s) : ∀ j, Ec.Rep (inJ T i a j) (Ec.sumF finv (fun t => Ec.nm finv (dg (T t).kn i) (T t).pt) s (List.range j))
 | 0 => h
 | j + 1 => by
  rw [List.range_succ, sumF_snoc]
  exact addJ_rep (Ec.On.sumF fld _ hs fun x _ => (T x).on.nm fld _) ((T j).on.nm fld _) (inJ_rep T i hs h j) (fewL_rep (T j).on (threeJ_rep _) _)
theorem kn_lt (t : Trm) : t.kn < 16 ^ 64 := Nat.lt_trans (Nat.mod_lt _ (by decide)) (by decide)
theorem muJ_rep (T : Nat → Trm) (n : Nat) : ∀ i, i ≤ 64 → Ec.Rep (muJ T n i) (Ec.sumL finv (fun t => Ec.nm finv ((T t).kn / 16 ^ (64 - i)) (T t).pt) (List.range n))
 | 0, _ => by
  rw [sumL_none _ _ fun x _ => by rw [Nat.sub_zero, Nat.div_eq_of_lt (kn_lt (T x))]; rfl]
  rfl
 | i + 1, hi => by
  have hS : Ec.On (Ec.sumL finv (fun t => Ec.nm finv ((T t).kn / 16 ^ (64 - i)) (T t).pt) (List.range n)) := Ec.On.sumL fld _ fun x _ => (T x).on.nm fld _
  have h1 := dbN_rep hS (muJ_rep T n i (by omega)) 4
  have h2 := inJ_rep T i (hS.nm fld _) h1 n
  rw [Ec.sumF_is fld _ (hS.nm fld _) fun x _ => (T x).on.nm fld _] at h2
  have e1 : 16 ^ (64 - i) = 16 * 16 ^ (63 - i) := by rw [show 64 - i = (63 - i) + 1 by omega, Nat.pow_succ, Nat.mul_comm]
  have h3 := Ec.horner fld (p := fun t => (T t).pt) (fun t => (T t).kn) (16 ^ (63 - i)) (List.range n) fun x _ => (T x).on
  rw [show 64 - (i + 1) = 63 - i by omega, ← h3, ← e1]
  exact h2
theorem multi_rep (T : Nat → Trm) (n : Nat) : Ec.Rep (muJ T n 64) (Ec.sumL finv (fun t => Ec.nm finv (T t).kn (T t).pt) (List.range n)) := by
 have h := muJ_rep T n 64 (Nat.le_refl _)
 simpa using h

def szC (n c : Nat) : Nat := min 32 (n - c * 32)
def chJ (T : Nat → Trm) (n : Nat) (s : J) (c : Nat) : J := addJ s (muJ (fun j => T (c * 32 + j)) (szC n c) 64)
def chL (T : Nat → Trm) (n : Nat) (l : List Nat) : J := l.foldl (chJ T n) ⟨0, 0, 0⟩
theorem chL_snoc (T : Nat → Trm) (n : Nat) (l : List Nat) (c : Nat) : chL T n (l ++ [c]) = chJ T n (chL T n l) c := by simp [chL, List.foldl_append]
theorem chL_rep (T : Nat → Trm) (n : Nat) : ∀ c, Ec.Rep (chL T n (List.range c)) (Ec.sumL finv (fun t => Ec.nm finv (T t).kn (T t).pt) (List.range (min n (c * 32))))
 | 0 => by rw [Nat.zero_mul, Nat.min_zero]; rfl
 | c + 1 => by
  have hon : ∀ l, Ec.On (Ec.sumL finv (fun t => Ec.nm finv (T t).kn (T t).pt) l) := fun l => Ec.On.sumL fld _ fun x _ => (T x).on.nm fld _
  have h1 := chL_rep T n c
  have h2 := multi_rep (fun j => T (c * 32 + j)) (szC n c)
  have h3 := addJ_rep (hon _) (Ec.On.sumL fld _ fun x _ => (T (c * 32 + x)).on.nm fld _) h1 h2
  rw [List.range_succ, chL_snoc]
  show Ec.Rep (addJ _ _) _
  have e : min n ((c + 1) * 32) = min n (c * 32) + szC n c := by unfold szC; omega
  rcases Nat.lt_or_ge (c * 32) n with hlt | hge
  ·rw [e, List.range_add, Ec.sumL_append fld _ _ fun x _ => (T x).on.nm fld _, sumL_map]
   rw [show min n (c * 32) = c * 32 by omega] at h3 ⊢
   exact h3
  ·have ez : szC n c = 0 := by unfold szC; omega
   rw [e, ez, Nat.add_zero]
   rw [ez] at h3
   have e0 : ∀ f : Nat → Pt, Ec.sumL finv f (List.range 0) = none := fun _ => rfl
   rw [e0, Ec.add_zero] at h3
   exact h3
theorem chL_all (T : Nat → Trm) (n : Nat) : Ec.Rep (chL T n (List.range ((n + 31) / 32))) (Ec.sumL finv (fun t => Ec.nm finv (T t).kn (T t).pt) (List.range n)) := by
 have h := chL_rep T n ((n + 31) / 32)
 rwa [show min n ((n + 31) / 32 * 32) = n by omega] at h
end Go.Proofs.YtfhcpdbahbbmaaaGreatDoor.Cu

end
section
namespace Go.Proofs.YtfhcpdbahbbmaaaGreatDoor.Sy
open Go.RowKit Go.Proofs.YtfhcpdbahbbmaaaGreatDoor

abbrev mark (D : Nat) : Deferred := { target := .collected D, args := #[] }
theorem St.refix {w0 : Base} {w : World} {L : Blocks} (h : St w0 w L) (ds : List Deferred) (fe : Fence) (ro : Nat) : St ⟨w0.world, w, ds, fe, ro⟩ w L := ⟨h.below, h.blk, h.apart, Nat.le_refl _, fun _ _ _ h _ => h⟩
theorem St.back {w0 : Base} {W w : World} {L L' : Blocks} (h0 : St w0 W L) {ds : List Deferred} {fe : Fence} {ro : Nat} (h : St ⟨w0.world, W, ds, fe, ro⟩ w L') (ds' : List Deferred) (fe' : Fence) (ro' : Nat) : St ⟨w0.world, w0.fz, ds', fe', ro'⟩ w L' :=
 ⟨h.below, h.blk, h.apart, Nat.le_trans h0.size h.size, fun k o hk ho hc => h.non k o hk (h0.non k o hk ho hc) hc⟩
theorem St.keeps {w0 : Base} {W w : World} {L L' : Blocks} (h0 : St w0 W L) {ds : List Deferred} {fe : Fence} {ro : Nat} (h : St ⟨w0.world, W, ds, fe, ro⟩ w L') {B : Nat} (hB : w0.world.heap.size ≤ B) : KeepsFrom B W w := ⟨h.size, fun k o hk ho hc => h.non k o (Nat.le_trans hB hk) ho hc⟩
theorem St.between {w0 : Base} {W w : World} {L L' : Blocks} (h0 : St w0 W L) {ds : List Deferred} {fe : Fence} {ro : Nat} (h : St ⟨w0.world, W, ds, fe, ro⟩ w L') : Below w0.world.heap.size W w :=
 ⟨h.below.os.trans h0.below.os.symm, h.below.tape.trans h0.below.tape.symm, h.below.output.trans h0.below.output.symm, h.size, fun k hk => (h.below.block k hk).trans (h0.below.block k hk).symm⟩
theorem St.own {w0 : Base} {X Y : World} {L : Blocks} {B : Nat} {row : Option Nat} (h : St w0 X L) (hB : w0.fz.heap.size ≤ B) (hB2 : w0.world.heap.size ≤ B) (hg : X.grownBy Y row) (hr : ∀ r, row = some r → B ≤ r ∧ ∃ o : Obj, X.heap[r]? = some o ∧ o.isCells = false) : St w0 Y L := by
 refine ⟨?_, fun g t cs hm => ⟨(h.blk g t cs hm).1, (h.blk g t cs hm).2.grown hg (fun e => ?_)⟩, h.apart, Nat.le_trans h.size hg.size, fun k o hk ho hc => ?_⟩
 ·refine h.below.trans ⟨hg.os, hg.tape, hg.output, hg.size, fun k hk => hg.block k (Nat.lt_of_lt_of_le hk h.below.size) (fun e => ?_)⟩
  have := (hr k e.symm).1
  omega
 ·obtain ⟨o, ho, hc⟩ := (hr g e.symm).2
  have hb := (h.blk g t cs hm).2
  unfold Blk at hb
  rw [hb] at ho
  cases ho
  cases hc
 ·have h1 := h.non k o hk ho hc
  have hlt := (Array.getElem?_eq_some_iff.1 ho).1
  exact (hg.block k (Array.getElem?_eq_some_iff.1 h1).1 (fun e => by have := (hr k e.symm).1; omega)).trans h1

def KpL (n₀ : Nat) (l : Blocks) (W W' : World) : Prop := Below n₀ W W' ∧ ∀ p ∈ l, Blk W p.1 p.2.1 p.2.2 → Blk W' p.1 p.2.1 p.2.2
theorem KpL.trans {n₀ : Nat} {l : Blocks} {A B C : World} (h : KpL n₀ l A B) (k : KpL n₀ l B C) : KpL n₀ l A C := ⟨h.1.trans k.1, fun p hp hc => k.2 p hp (h.2 p hp hc)⟩
theorem KpL.put {n₀ : Nat} {l : Blocks} {W : World} {k : Nat} {o o' : Obj} (hk : n₀ ≤ k) (ho : W.heap[k]? = some o) (hc : o.isCells = false) : KpL n₀ l W (W.putObj k o') := by
 have hg := grownBy_putObj' W k o'
 refine ⟨⟨hg.os, hg.tape, hg.output, hg.size, fun j hj => World.putObj_heap_other (by omega)⟩, fun p _ hp => ?_⟩
 have hne : p.1 ≠ k := by
  rintro rfl
  unfold Blk at hp
  rw [hp] at ho
  cases ho
  cases hc
 exact (World.putObj_heap_other hne).trans hp
def roundF (F : Slots) (ps : Array Tmp) (vs : Array Value) : Slots := (ps.toList.zip vs.toList).foldl (fun F x => (x.1, x.2) :: F) F
theorem Fr.round {ds : List Deferred} {n : Nat} : ∀ (l : List (Tmp × Value)) {T : Array Value} {F : Slots}, (∀ x ∈ l, x.1 < n) → Fr ds { tmps := T, defers := ds } n F → Fr ds { tmps := l.foldl (fun t x => t.setIfInBounds x.1 x.2) T, defers := ds } n (l.foldl (fun F x => (x.1, x.2) :: F) F)
 | [], _, _, _, h => h
 | x :: l, T, F, hl, h => by
  have h2 := h.put (d := some x.1) (decide_eq_true (hl x (List.mem_cons_self ..))) x.2
  exact Fr.round l (fun y hy => hl y (List.mem_cons_of_mem _ hy)) h2

section
variable {P : Program} {w0 fz0 : World} {n : Nat} {Q : Exit → Act → World → Prop} {F : Slots} {L : Blocks}
abbrev rb (w0 fz : World) (l : Nat) : Base := ⟨w0, fz, [], Fence.wide.inRound l, 7⟩
abbrev ab (w0 fz : World) (D : Nat) : Base := ⟨w0, fz, [mark D], Fence.wide, 9⟩
def BP {α : Type} (w0 fz : World) (l : Nat) (HI : List α → Prop) (LL XR : List α → Blocks) (HX : List α → Prop) (pre : List α) : Exit → Act → World → Prop
 | .normal, _, w => HI pre ∧ St (rb w0 fz l) w (LL pre)
 | .ret, _, w => HX pre ∧ St (rb w0 fz l) w (XR pre)
 | _, _, _ => False
def AP (w0 fz : World) (l n na : Nat) (FA : List Nat → Slots) (LP : Blocks) (LA : List Nat → Blocks) : Exit → Act → World → Prop
 | .normal, a, w => ∃ gs, gs.length = na ∧ Fr [] a n (FA gs) ∧ St (rb w0 fz l) w (LP ++ LA gs)
 | _, _, _ => False
theorem rangeF {α : Type} {g : Operand} {ps : Array Tmp} {assign body : Code} (gf : Nat) (lb : Array Value) (hgi : inF F g = true) (hg : evF F g = .func (.func gf) #[] lb) (eg : ∀ args w, (callFunc gf args).run P w = .ok (.enter gf args) w)
  (encs : α → Array Value) (kl : Blocks) (S Sp : List α → Prop) (N : Nat) (hps : ∀ x, (encs x).size = ps.size) (hpn : ∀ p ∈ ps.toList, p < n)
  (G : List Nat) (HI : List α → Prop) (hI0 : HI []) (LL XR : List α → Blocks) (HX : List α → Prop) (m : List Bool) (h0 : sel L m = LL []) (hG : ∀ pre, (LL pre).map (·.1) = G)
  (hseq : ∀ w, St ⟨w0, fz0, [], Fence.wide, 9⟩ w L → ∃ wk, Below wk.heap.size wk w ∧ SeqStopsK Fence.wide 8 P gf lb encs (KpL w0.heap.size kl) S Sp N wk)
  (hkl : ∀ p ∈ kl, ∀ pre, p ∈ LL pre)
  (na : Nat) (FA : α → List Nat → Slots) (LA : α → List Nat → Blocks) (hLA : ∀ x gs, gs.length = na → (LA x gs).map (·.1) = gs)
  (hassign : ∀ l fz pre x, wpC P (rb w0 fz l) n (AP w0 fz l n na (FA x) (LL pre) (LA x)) (roundF F ps (encs x)) (LL pre) assign)
  (hbody : ∀ l fz pre x gs, gs.length = na → pre.length < N → HI pre → wpC P (rb w0 fz l) n (BP w0 fz l HI LL XR HX (pre ++ [x])) (FA x gs) (LL pre ++ LA x gs) body)
  (hdone : ∀ D fz xs, S xs → HI xs → w0.heap.size ≤ D → fz.heap[D]? = some (.deferred (some [])) → X (ab w0 fz D) n Q F (LL xs) .normal)
  (hstop : ∀ D fz pre, Sp pre → HX pre → w0.heap.size ≤ D → fz.heap[D]? = some (.deferred (some [])) → X (ab w0 fz D) n Q F (XR pre) .ret) :
  wpC P ⟨w0, fz0, [], Fence.wide, 9⟩ n Q F L (.rangeFunc g ps assign body) := by
 intro a w ha hw
 obtain ⟨wk, hbk, hsq⟩ := hseq w hw
 have hsz : fz0.heap.size ≤ w.heap.size := hw.size
 have hsz0 : w0.heap.size ≤ w.heap.size := hw.below.size
 have hz : St ⟨w0, fz0, [], Fence.wide, 9⟩ w (LL []) := h0 ▸ hw.less (sel_sub L m)
 have had : a.defers = [] := ha.1
 -- what a round hands on pays the iterator
 have hK : ∀ {W W' : World} {L1 : Blocks} {pre pre' : List α} {l : Nat}, St ⟨w0, fz0, [], Fence.wide, 9⟩ W (LL pre) → St (rb w0 W l) W' L1 → (LL pre').Sublist L1 → KpL w0.heap.size kl W W' := fun {W W' L1 pre pre' l} h1 h2 hs =>
  ⟨h1.between h2, fun p hp _ => by
   exact (h2.blk _ _ _ (hs.subset (hkl p hp pre'))).2⟩
 refine wpIn_rangeFunc_ownH (F := Fence.wide) (n := 9) rfl (by omega) (gf := gf) (lb := lb) ((ha.eval hgi).trans hg) trivial eg (encs := encs) (Kp := KpL w0.heap.size kl) (S := S) (Sp := Sp) (N := N) (w0 := wk) hsq KpL.trans
  (fun W l o o' hl ho hc _ => KpL.put (by omega) ho hc) hbk hps
  (fun pre W => HI pre ∧ St ⟨w0, fz0, [], Fence.wide, 9⟩ W (LL pre)) (fun c pre W => c = .ret ∧ HX pre ∧ St ⟨w0, fz0, [], Fence.wide, 9⟩ W (XR pre))
  (fun pre X Y row hs hg hr => ⟨hs.1, St.own hs.2 hsz hsz0 hg hr⟩) (fun c pre X Y row hs hg hr => ⟨hs.1, hs.2.1, St.own hs.2.2 hsz hsz0 hg hr⟩) ⟨hI0, hz⟩
  (fun x a' W => ∃ gs, gs.length = na ∧ Fr [] a' n (FA x gs) ∧ (∀ e ∈ LA x gs, w0.heap.size ≤ e.1 ∧ Blk W e.1 e.2.1 e.2.2) ∧ (G ++ gs).Nodup)
  (fun x a' _ X Y row hs hg hr => ?_) ?_ ?_ ?_ ?_
 ·obtain ⟨gs, hl0, h1, h2, h3⟩ := hs
  refine ⟨gs, hl0, h1, fun e he => ⟨(h2 e he).1, (h2 e he).2.grown hg (fun q => ?_)⟩, h3⟩
  obtain ⟨o, ho, hc⟩ := (hr e.1 q.symm).2
  have hb := (h2 e he).2
  unfold Blk at hb
  rw [hb] at ho
  cases ho
  cases hc
 ·-- the loop variables
  intro l pre x W K hI0' hk
  obtain ⟨hH, hI⟩ := hI0'
  have hfr : Fr [] { tmps := (ps.zip (encs x)).foldl (fun t (p, v) => t.setIfInBounds p v) a.tmps, defers := [] } n (roundF F ps (encs x)) := by
   have h1 : Fr [] { tmps := a.tmps, defers := [] } n F := ⟨rfl, ha.2.1, ha.2.2⟩
   have h2 := Fr.round (ps.toList.zip (encs x).toList) (fun y hy => hpn y.1 (List.of_mem_zip hy).1) h1
   have e : (ps.zip (encs x)).foldl (fun t (p, v) => t.setIfInBounds p v) a.tmps = (ps.toList.zip (encs x).toList).foldl (fun t x => t.setIfInBounds x.1 x.2) a.tmps := by
    rw [← Array.foldl_toList, Array.toList_zip]
   rw [e]
   exact h2
  refine wpIn_mono (hassign l W pre x _ W hfr (hI.refix _ _ _)) fun e a' W' hq => ?_
  cases e with
  | normal =>
   obtain ⟨gs, hl0, h1, h2⟩ := hq
   have hsub : (LL pre).Sublist (LL pre ++ LA x gs) := List.sublist_append_left _ _
   refine hk a' W' (hI.keeps h2 hsz0) (hK hI h2 hsub) ⟨hH, (hI.back h2 _ _ _).less hsub⟩ ⟨gs, hl0, h1, fun e he => h2.blk e.1 e.2.1 e.2.2 (List.mem_append_right _ he), ?_⟩
   have := h2.apart
   rwa [List.map_append, hG, hLA _ _ hl0] at this
  | _ => exact hq.elim
 ·-- the body
  intro l pre x a' W hl _ hI0' ⟨gs, hl0, h1, h2, h3⟩ hlen
  obtain ⟨hH, hI⟩ := hI0'
  have hst : St (rb w0 W l) W (LL pre ++ LA x gs) := by
   refine ⟨hI.below, fun g t cs hm => ?_, ?_, Nat.le_refl _, fun _ _ _ h _ => h⟩
   ·rcases List.mem_append.1 hm with hm | hm
    ·exact hI.blk g t cs hm
    ·exact h2 (g, t, cs) hm
   ·rw [List.map_append, hG, hLA _ _ hl0]
    exact h3
  refine wpIn_mono (hbody l W pre x gs hl0 hlen hH a' W h1 hst) fun e a3 W3 hq => ?_
  cases e with
  | normal => exact ⟨hI.keeps hq.2 hsz0, hK hI hq.2 (List.Sublist.refl _), hq.1, hI.back hq.2 _ _ _⟩
  | ret => exact ⟨hI.keeps hq.2 hsz0, rfl, hq.1, hI.back hq.2 _ _ _⟩
  | _ => exact hq.elim
 ·intro D xs W hD hS hI hd
  exact hdone D W xs hS hI.1 (Nat.le_trans hsz0 hD) hd _ W ⟨by simp [had], ha.2.1, ha.2.2⟩ (hI.2.refix _ _ _)
 ·rintro D c pre W hD hS ⟨rfl, hx, hI⟩ hd
  exact wpIn_ret (hstop D W pre hS hx (Nat.le_trans hsz0 hD) hd _ W ⟨by simp [had], ha.2.1, ha.2.2⟩ (hI.refix _ _ _))

theorem bpN {α : Type} {l : Nat} {HI : List α → Prop} {LL XR : List α → Blocks} {HX : List α → Prop} {pre : List α} (m : List Bool) {M : Blocks} (hL : sel L m = M) (hM : M = LL pre) (hi : HI pre) : X (rb w0 fz0 l) n (BP w0 fz0 l HI LL XR HX pre) F L .normal := fun _ _ _ hw => by
 subst hL
 refine ⟨hi, ?_⟩
 rw [← hM]
 exact hw.less (sel_sub L m)
theorem apN {l na : Nat} {FA : List Nat → Slots} {LP : Blocks} {LA : List Nat → Blocks} (gs : List Nat) (hg : gs.length = na) (hF : ∀ p ∈ FA gs, F.lookup p.1 = some p.2) (m : List Bool) (hL : sel L m = LP ++ LA gs) : X (rb w0 fz0 l) n (AP w0 fz0 l n na FA LP LA) F L .normal := fun _ _ ha hw => ⟨gs, hg, ha.all hF, hL ▸ hw.less (sel_sub L m)⟩

def GetsN (w : World) (R : Value → Blocks → Prop) (e : Ending) (w' : World) : Prop := ∃ v M, e = .returned v ∧ R v M ∧ Below w.heap.size w w' ∧ (∀ g t cs, (g, t, cs) ∈ M → w.heap.size ≤ g ∧ Blk w' g t cs) ∧ (M.map (·.1)).Nodup
theorem St.addN {w0 : Base} {w w' : World} {L M : Blocks} (h : St w0 w L) (hg : Gr w w') (hM : ∀ g t cs, (g, t, cs) ∈ M → w.heap.size ≤ g ∧ Blk w' g t cs) (hn : (M.map (·.1)).Nodup) : St w0 w' (L ++ M) := by
 have h' := h.gr hg
 refine ⟨h'.below, fun g t cs hm => ?_, ?_, h'.size, h'.non⟩
 ·rcases List.mem_append.1 hm with hm | hm
  ·exact h'.blk g t cs hm
  ·exact ⟨Nat.le_trans h.below.size (hM g t cs hm).1, (hM g t cs hm).2⟩
 ·rw [List.map_append, List.nodup_append]
  refine ⟨h.apart, hn, fun x hx y hy e => ?_⟩
  obtain ⟨⟨g, t, cs⟩, hm, rfl⟩ := List.mem_map.1 hx
  obtain ⟨⟨g', t', cs'⟩, hm', rfl⟩ := List.mem_map.1 hy
  have h1 := (h.blk g t cs hm).2.lt
  have h2 := (hM g' t' cs' hm').1
  have e' : g = g' := e
  omega
theorem callN {w0 : Base} {ops : Array Oper} {o : Oper} {l : List Oper} (hg : good ops n F o = true) (f : FuncId) (args : Array Value) (he : ∀ w, (execOp (evF F) o).run P w = .ok (.enter f args) w) (R : Value → Blocks → Prop)
  (hc : ∀ w, St w0 w L → Calls P f args w (GetsN w R)) (h : ∀ v M, R v M → wpS P w0 n ops Q (putF F o.dst v) (L ++ M) l) : wpS P w0 n ops Q F L (o :: l) := fun a w ha hw => by
 obtain ⟨g1, _, g3, _⟩ := good_spec hg
 refine wpList_step fun K hK => ?_
 rw [if_pos (ha.wanted g1)]
 unfold Oper.wp
 rw [good_exec hg ha, he w]
 refine Calls.mono (hc w hw) fun e w' he' => ?_
 obtain ⟨v, M, rfl, hR, hb, hM, hn⟩ := he'
 exact hK _ _ (h v M hR _ _ (ha.put g3 v) (hw.addN hb hM hn))
theorem callND {w0 : Base} {ops : Array Oper} {ex : Nat → Bool} {fuel : Nat} {listed : Array Bool} (k : Nat) {oi : Oper} (hi0 : ops.toList[k]? = some oi) (hr : Region.ready .any ops listed = [k]) (hg : good ops n F oi = true) (f : FuncId) (args : Array Value)
  (he : ∀ w, (execOp (evF F) oi).run P w = .ok (.enter f args) w) (R : Value → Blocks → Prop) (hc : ∀ w, St w0 w L → Calls P f args w (GetsN w R)) (h : ∀ v M, R v M → wpD P w0 n ops Q ex (putF F oi.dst v) (L ++ M) fuel (listed.setIfInBounds k true)) : wpD P w0 n ops Q ex F L (fuel + 1) listed := fun a w ha hw =>
 wpAnyG_sole k hi0 hr (ha.wanted (good_spec hg).1) fun w1 h1 K hK => by
  unfold Oper.wp
  rw [good_exec hg ha, he w1]
  refine Calls.mono (hc w1 (hw.gr h1)) fun e w' he' => ?_
  obtain ⟨v, M, rfl, hR, hb, hM, hn⟩ := he'
  exact hK _ _ (fun _ => hb) (h v M hR _ _ (ha.put (good_spec hg).2.2.1 v) ((hw.gr h1).addN hb hM hn))

theorem St.unmark {w0 fz : World} {D : Nat} {w : World} (h : St (ab w0 fz D) w L) (hD : w0.heap.size ≤ D) (hm : fz.heap[D]? = some (.deferred (some []))) :
  (Instr.takeDeferred D).run P w = .ok [] (w.putObj D (.deferred none)) ∧ St (Base.of w0) (w.putObj D (.deferred none)) L := by
 have ho := h.non D _ hD hm rfl
 have hg := grownBy_putObj' w D (.deferred none)
 refine ⟨run_takeDeferred ho, ?_⟩
 have h1 : St ⟨w0, w0, [], Fence.wide, 9⟩ w L := ⟨h.below, h.blk, h.apart, h.below.size, fun k o hk hq _ => by have := (Array.getElem?_eq_some_iff.1 hq).1; exact absurd this (by show ¬ k < w0.heap.size; have : w0.heap.size ≤ k := hk; omega)⟩
 exact h1.own (B := w0.heap.size) (Nat.le_refl _) (Nat.le_refl _) hg (fun r e => by cases e; exact ⟨hD, _, ho, rfl⟩)
theorem retM1 {w1 fz : World} {D : Nat} {fn : Func} {r : ResultVar} {v : Value} (hr : fn.results = #[r]) (h : Has P F L r v) (hD : w1.heap.size ≤ D) (hm : fz.heap[D]? = some (.deferred (some []))) : X (ab w1 fz D) n (bodyPostM Fence.wide 9 P fn (Gets w1 v)) F L .ret := fun a w ha hw => by
 obtain ⟨e1, e2⟩ := St.unmark (P := P) hw hD hm
 have hd : a.defers = [mark D] := ha.1
 show LeavesInM Fence.wide 9 P fn a.tmps (Gets w1 v) a.defers .returning w
 rw [hd]
 refine ⟨by simp, .inl ⟨D, _, rfl, e1, ?_⟩⟩
 refine ⟨v, ?_, rfl, e2.below⟩
 rcases Res.run h ha e2 with ⟨t, rfl, f1⟩ | ⟨t, ty, ad, rfl, f1, f2⟩ <;> simp [results, Result.andThen, *]
end
end Go.Proofs.YtfhcpdbahbbmaaaGreatDoor.Sy

end
section
namespace Go.Proofs.YtfhcpdbahbbmaaaGreatDoor.Sy
open Go.RowKit Go.Proofs.YtfhcpdbahbbmaaaGreatDoor

abbrev pb (W : World) (m : Nat) : Base := ⟨W, W, [], Fence.wide, m⟩
theorem St.here (W : World) (m : Nat) : St (pb W m) W [] := ⟨Below.refl _ _, (fun _ _ _ h => by cases h), List.Pairwise.nil, Nat.le_refl _, fun _ _ _ h _ => h⟩
theorem St.grown {W w : World} {m : Nat} {L : Blocks} (h : St (pb W m) w L) : Gr W w := h.below

section
variable {P : Program} {W : World} {m n : Nat} {Q : Exit → Act → World → Prop} {F : Slots} {L : Blocks} {ops : Array Oper} {o : Oper} {rest : List Oper}
theorem operIn_wide {o : Oper} {a : Act} {w : World} {K : Act → World → Prop} (hd : ∀ c, o.op ≠ .defer c) (h : o.wp P a w K Q) : o.wpIn Fence.wide m P a w K Q := by
 unfold Oper.wpIn
 refine ⟨fun _ _ => trivial, ?_⟩
 rw [Oper.semAt_plain _ _ _ hd]
 unfold Oper.wp at h
 generalize (execOp a.eval o).run P w = r at *
 cases r with
 | ok x w' =>
  cases x <;> simp only [Oper.upon, Oper.uponIn] at h ⊢ <;> first
   | exact h
   | exact ⟨fun e => by simp [Fence.wide] at e, callsIn_wide.2 h⟩
   | exact ⟨fun e => by simp [Fence.wide] at e, fun c cs _ => let ⟨v, w', r, s⟩ := h c cs; ⟨v, w', r, stepsIn_wide.2 s⟩⟩
   | exact h.elim
 | halt x w' => cases x <;> simp only [Oper.upon, Oper.uponIn] at h ⊢ <;> exact h
def thenI (P : Program) (ops : Array Oper) (m : Nat) (rest : List Oper) (Q : Exit → Act → World → Prop) : Exit → Act → World → Prop
 | .normal, a, w => wpListIn Fence.wide m P ops Q rest a w
 | e, a, w => Q e a w
theorem listIn_app (hq : ¬ LetsOut Q) : ∀ (l : List Oper), (∀ o ∈ l, ∀ c, o.op ≠ .defer c) → ∀ (a : Act) (w : World), wpList P ops (thenI P ops m rest Q) l a w → wpListIn Fence.wide m P ops Q (l ++ rest) a w
 | [], _, _, _, h => h
 | o :: l, hd, a, w, h => by
  have hq' : ¬ LetsOut (thenI P ops m rest Q) := fun ⟨a, w, q⟩ => hq ⟨a, w, q⟩
  unfold wpList at h
  show wpListIn Fence.wide m P ops Q (o :: (l ++ rest)) a w
  unfold wpListIn
  split
  ·rename_i hw
   simp only [hw, if_true] at h
   rcases h with h | h
   ·have h1 := operIn_wide (m := m) (hd o (by simp)) h
    have h2 : o.wpIn Fence.wide m P a w _ Q := h1
    exact Oper.wpIn_mono (fun a w h' => listIn_app hq l (fun o ho => hd o (by simp [ho])) a w h') h2
   ·exact absurd h.2 hq'
  ·rename_i hw
   simp only [hw] at h
   exact ⟨fun _ _ => trivial, listIn_app hq l (fun o ho => hd o (by simp [ho])) _ _ h⟩
theorem listIn_wide (hq : ¬ LetsOut Q) : ∀ (l : List Oper), (∀ o ∈ l, ∀ c, o.op ≠ .defer c) → ∀ (a : Act) (w : World), wpList P ops Q l a w → wpListIn Fence.wide m P ops Q l a w
 | [], _, _, _, h => h
 | o :: l, hd, a, w, h => by
  unfold wpList at h
  unfold wpListIn
  split
  ·rename_i hw
   simp only [hw, if_true] at h
   rcases h with h | h
   ·exact Oper.wpIn_mono (fun a w h' => listIn_wide hq l (fun o ho => hd o (by simp [ho])) a w h') (operIn_wide (hd o (by simp)) h)
   ·exact absurd h.2 hq
  ·rename_i hw
   simp only [hw] at h
   exact ⟨fun _ _ => trivial, listIn_wide hq l (fun o ho => hd o (by simp [ho])) _ _ h⟩
theorem noDefer_mem (h : noDefer ops = true) {o : Oper} (ho : o ∈ ops.toList) : ∀ c, o.op ≠ .defer c := by
 obtain ⟨i, hi⟩ := List.mem_iff_getElem?.1 ho
 exact noDefer_spec h (by simpa using hi)
theorem regionY {i : Nat} (k : Nat) (hq : ¬ LetsOut Q) (hd : noDefer ops = true) (h : wpS P (pb W m) n ops (thenI P ops m (ops.toList.drop k) Q) F L (ops.toList.take k)) : wpC P (pb W m) n Q F L (.region i ops false) := fun a w ha hw => by
 refine wpIn_region_list ?_
 have h1 := listIn_app hq (ops.toList.take k) (fun o ho => noDefer_mem hd (List.mem_of_mem_take ho)) a w (h a w ha hw)
 rwa [List.take_append_drop] at h1
theorem yieldX {ro : Option Nat} {k : Nat} (hl : ops.toList.drop k = o :: rest) (hq : ¬ LetsOut Q) (hd : noDefer ops = true) (hg : good ops n F o = true) (l : Nat) (args : Array Value) (he : ∀ w, (execOp (evF F) o).run P w = (Instr.yield l args).run P w)
  (R : Ending → World → Prop) (hY : ∀ w, Gr W w → YieldAt Fence.wide (m - 1) P l args w R) (hR : ∀ e w', R e w' → ∃ b, e = .returned (.bool b)) (_ : ro = none)
  (h : ∀ w' b, R (.returned (.bool b)) w' → wpS P (pb w' m) n ops Q (putF F o.dst (.bool b)) [] rest) : X (pb W m) n (thenI P ops m (ops.toList.drop k) Q) F L .normal := fun a w ha hw => by
 show wpListIn Fence.wide m P ops Q (ops.toList.drop k) a w
 have hdr : ∀ o ∈ ops.toList.drop k, ∀ c, o.op ≠ .defer c := fun o ho => noDefer_mem hd (List.mem_of_mem_drop ho)
 rw [hl] at hdr ⊢
 obtain ⟨g1, _, g3, _⟩ := good_spec hg
 unfold wpListIn
 rw [if_pos (ha.wanted g1)]
 unfold Oper.wpIn
 refine ⟨fun _ _ => trivial, ?_⟩
 rw [Oper.semAt_plain _ _ _ (hdr o (by simp)), good_exec hg ha, he w]
 obtain ⟨fn, tmps, assign, body, e1, e2⟩ := hY w hw.grown
 rw [e1]
 refine ⟨fun e => by simp [Fence.wide] at e, e2.mono fun e w' hr => ?_⟩
 obtain ⟨b, rfl⟩ := hR e w' hr
 exact listIn_wide hq rest (fun o ho => hdr o (by simp [ho])) _ _ (h w' b hr _ _ (ha.put g3 _) (St.here w' m))

theorem abides_gr {β : Type} {B : Nat} {J : β → World → Prop} (h : AbidesFrom B J) {s : β} {X Y : World} (hj : J s X) (hg : Gr X Y) : J s Y := h s X Y none hj (only_of_below hg none) (fun r e => by cases e)
theorem yield_mono {l : Nat} {args : Array Value} {R R' : Ending → World → Prop} (h : YieldAt Fence.wide m P l args W R) (hr : ∀ e w, R e w → R' e w) : YieldAt Fence.wide m P l args W R' := by
 obtain ⟨fn, tmps, assign, body, e1, e2⟩ := h
 exact ⟨fn, tmps, assign, body, e1, e2.mono hr⟩

def NextP (n N : Nat) (FF : Nat → Slots) (Z : Nat → World → Prop) (k : Nat) : Act → World → Prop := fun a w => k < N ∧ Fr [] a n (FF (k + 1)) ∧ Z (k + 1) w
theorem loopP {c : Code} (N : Nat) (FF : Nat → Slots) (Z : Nat → World → Prop) (hF : ∀ p ∈ FF 0, F.lookup p.1 = some p.2) (h0 : ∀ w, Gr W w → Z 0 w)
  (hr : ∀ k w, k ≤ N → Z k w → wpC P (pb w m) n (Exit.then (NextP n N FF Z k) Q) (FF k) [] c) : wpC P (pb W m) n Q F L (.loop c) :=
 loopI N (fun k a w => Fr [] a n (FF k) ∧ Z k w) (fun a w ha hw => ⟨ha.all hF, h0 w hw.grown⟩)
  fun k hk a w ⟨ha, hz⟩ => hr k w hk hz a w ha (St.here w m)
theorem againP {N : Nat} {FF : Nat → Slots} {Z : Nat → World → Prop} {k : Nat} {R : Exit → Act → World → Prop} (hk : k < N) (hF : ∀ p ∈ FF (k + 1), F.lookup p.1 = some p.2) (hz : ∀ w, Gr W w → Z (k + 1) w) :
  X (pb W m) n (Exit.then (NextP n N FF Z k) R) F L .normal := fun _ w ha hw => ⟨hk, ha.all hF, hz w hw.grown⟩
theorem enterP {f : FuncId} {fn : Func} {c : Code} {args : List Value} {R : Ending → World → Prop} (hf : P.funcs[f]? = some fn) (hb : fn.body = some c) (hn : args.length ≤ fn.ntmps)
  (h : wpC P (pb W m) fn.ntmps (bodyPost P fn R) (slotsOf 0 args) [] c) : CallsIn Fence.wide m P f args.toArray W R :=
 callsIn_of_wp hf hb trivial (h _ _ ⟨rfl, by simp; omega, fun i v hi => by
  have := (lookup_slotsOf args 0 i v hi).2
  rw [Nat.sub_zero] at this
  have hl := (List.getElem?_eq_some_iff.1 this).1
  rw [Array.getElem?_append_left (by simpa using hl)]
  simpa using this⟩ (St.here W m)) rfl
theorem retP {fn : Func} {R : Ending → World → Prop} (hr : fn.results = #[]) (h : ∀ v w, Gr W w → R (.returned v) w) {e : Exit} (he : e = .ret ∨ e = .normal) : X (pb W m) n (bodyPost P fn R) F L e := fun a w ha hw => by
 have hx : a.defers = [] ∧ ∃ v, (results fn a.tmps).run P w = .ok v w ∧ R (.returned v) w := ⟨ha.1, _, results_none hr _ _ _, h _ w hw.grown⟩
 rcases he with rfl | rfl <;> exact hx
end
end Go.Proofs.YtfhcpdbahbbmaaaGreatDoor.Sy

end
section
namespace Go.Proofs.YtfhcpdbahbbmaaaGreatDoor.Cu
open Go.RowKit Go.Proofs.YtfhcpdbahbbmaaaGreatDoor Go.Proofs.YtfhcpdbahbbmaaaGreatDoor.Sy
set_option maxRecDepth 100000
set_option maxHeartbeats 4000000

def chV (b off m c : Nat) : Value := .slice (some ⟨b, off + 32 * c * 13, none⟩) (szC m c) (szC m c)
def chE (b off m : Nat) {N : Nat} (x : Fin N) : Array Value := #[chV b off m x.val]
set_option maxHeartbeats 1000000 in
theorem chunk_any (w : World) (A : Option Addr) (m cap : Nat) :
    Calls Tryz.prog 177 #[.slice A m cap, .int .i64 32] w (GetsN w fun v M => ∃ g1 g2, v = .func (.func 197) #[] #[.pointer (some ⟨g1, 0, none⟩), .pointer (some ⟨g2, 0, none⟩)] ∧ M = [(g1, 177, #[.slice A m cap]), (g2, 3, #[.int .i64 32])]) := by
  go_enter Tryz.func177, Tryz.ntmps177
  go_wp2
  go_ret
  refine ⟨_, _, rfl, ⟨_, _, rfl, rfl⟩, below_alloc2 w _ _, fun g t cs hm => ?_, ?_⟩
  · simp only [List.mem_cons, List.not_mem_nil, or_false, Prod.mk.injEq] at hm
    rcases hm with ⟨rfl, rfl, rfl⟩ | ⟨rfl, rfl, rfl⟩
    · exact ⟨Nat.le_refl _, (Blk.new w _ _).alloc _⟩
    · exact ⟨by omega, blk_new2 w _ _ _⟩
  · simp
theorem chunk1_in (n l Bs Bn n₀ b off m cap N : Nat) (hN0 : N = (m + 31) / 32) (hm : m ≤ cap) (hm2 : m ≤ 4611686018427387904) (J Jx : List (Fin N) → World → Prop) (W : World) (hJ : AbidesFrom W.heap.size J) (hJx : AbidesFrom W.heap.size Jx)
    (hY : ∀ pre x W1, J pre W1 → pre.length < N → YieldAt Fence.wide (n - 1) Tryz.prog l (chE b off m x) W1 fun e W' => (e = .returned (.bool true) ∧ J (pre ++ [x]) W' ∧ KpL n₀ [(Bs, 177, #[.slice (some ⟨b, off, none⟩) m cap]), (Bn, 3, #[.int .i64 32])] W1 W') ∨ (e = .returned (.bool false) ∧ Jx (pre ++ [x]) W'))
    (hS : Blk W Bs 177 #[.slice (some ⟨b, off, none⟩) m cap]) (hN : Blk W Bn 3 #[.int .i64 32]) (h0 : J [] W) :
    CallsIn Fence.wide n Tryz.prog 197 #[.func (.yield l) #[] #[], .pointer (some ⟨Bs, 0, none⟩), .pointer (some ⟨Bn, 0, none⟩)] W fun e W' => (∃ v, e = .returned v) ∧ ((∃ ys : List (Fin N), ys.map (·.1) = List.range N ∧ J ys W') ∨ (∃ pre : List (Fin N), (∃ k, k ≤ N ∧ pre.map (·.1) = List.range k) ∧ Jx pre W')) := by
  refine Sy.enterP (args := [.func (.yield l) #[] #[], .pointer (some ⟨Bs, 0, none⟩), .pointer (some ⟨Bn, 0, none⟩)]) Tryz.func197 rfl kL ?_
  refine sC ?_
  refine sP (.int .i64 0) ?_
  refine sG <| Sy.block ?_
  refine Sy.loopP N (fun k1 => [(0, .func (.yield l) #[] #[]), (1, .pointer (some ⟨Bs, 0, none⟩)), (2, .pointer (some ⟨Bn, 0, none⟩)), (4, .int .i64 ((32 * k1 : Nat) : Int))]) (fun k1 w => ∃ pre : List (Fin N), pre.map (·.1) = List.range k1 ∧ J pre w ∧ Blk w Bs 177 #[.slice (some ⟨b, off, none⟩) m cap] ∧ Blk w Bn 3 #[.int .i64 32]) (all_cons kR (all_cons kR (all_cons kR (all_cons kR all_nil)))) (fun w hg => ⟨[], rfl, abides_gr hJ h0 hg, hg.blk hS, hg.blk hN⟩) (fun k1 wr hk1 hz => ?_)
  clear hS hN
  obtain ⟨pre, hpre, hj, hS, hN⟩ := hz
  have hlen : pre.length = k1 := by have := congrArg List.length hpre; rwa [List.length_map, List.length_range] at this
  refine Sy.seq <| sC ?_
  refine sP (.int .i64 ((32 * k1 : Nat) : Int)) <| sS (.slice (some ⟨b, off, none⟩) m cap) (Quiet.thereOne Bs 0 177 _ _ rfl kR hS.lt _ (hS.cell 0) Tryz.underlying177 rfl) <| sP (.int .i64 ((m : Nat) : Int)) ?_
  obtain ⟨b1, hb1⟩ : ∃ z : Bool, z = decide (32 * k1 < m) := ⟨_, rfl⟩
  refine sS (.bool b1) (Quiet.pure (exec_int .lss _ _ _ .i64 _ _ _ rfl rfl rfl (int_lss _ _ _ _ _ (by rw [hb1]; exact decide_eq_decide.2 (by omega))))) ?_
  refine sG ?_
  cases b1
  · have lb1 : ¬ (32 * k1 < m) := of_decide_eq_false hb1.symm
    refine sU <| Sy.exit <| Sy.then_exit <| Sy.then_exit ?_
    obtain rfl : N = k1 := by omega
    refine Sy.in_exit ?_
    exact Sy.retP rfl (fun v w3 hg => ⟨⟨_, rfl⟩, .inl ⟨pre, hpre, abides_gr hJ hj hg⟩⟩) (.inr rfl)
  · have lb1 : 32 * k1 < m := of_decide_eq_true hb1.symm
    refine sT <| Sy.skip <| Sy.then_ <| Sy.seq <| Sy.block <| Sy.seq ?_
    refine Sy.regionD (fun j => false) kR ?_
    refine sD 0 rfl (.int .i64 ((32 : Nat) : Int)) (Quiet.thereOne Bn 0 3 _ _ rfl kR hN.lt _ (hN.cell 0) Tryz.underlying3 rfl) <| sD 1 rfl (.slice (some ⟨b, off, none⟩) m cap) (Quiet.thereOne Bs 0 177 _ _ rfl kR hS.lt _ (hS.cell 0) Tryz.underlying177 rfl) <| sZ 2 rfl (.int .i64 ((32 * k1 : Nat) : Int)) <| sD 3 rfl (.slice (some ⟨b, off + (32 * k1) * 13, none⟩) (m - (32 * k1)) (cap - (32 * k1))) (Quiet.pure (exec_sl1 _ _ _ b off m cap (32 * k1) 13 .i64 rfl rfl rfl kR kF (by omega) (by omega))) <| sZ 4 rfl (.int .i64 (((m - (32 * k1)) : Nat) : Int)) ?_
    obtain ⟨sz, hsz⟩ : ∃ z, z = szC m k1 := ⟨_, rfl⟩
    have hs : 0 < sz ∧ 32 * k1 + sz ≤ m := by rw [hsz]; unfold szC; omega
    refine sD 5 rfl (.int .i64 ((sz : Nat) : Int)) (Quiet.pure (exec_min _ _ .i64 32 (m - (32 * k1)) sz rfl rfl rfl (by rw [hsz]; unfold szC; omega))) <| sZ 6 rfl (.int .i64 ((sz : Nat) : Int)) ?_
    refine sI ?_
    refine Sy.seq ?_
    have hx : k1 < N := by omega
    refine Sy.regionY 10 (by rintro ⟨_, _, ⟨_, hv⟩, _⟩; cases hv) kR ?_
    refine sP (.func (.yield l) #[] #[]) <| sS (.slice (some ⟨b, off, none⟩) m cap) (Quiet.thereOne Bs 0 177 _ _ rfl kR hS.lt _ (hS.cell 0) Tryz.underlying177 rfl) <| sP (.int .i64 ((32 * k1 : Nat) : Int)) <| sP (.int .i64 ((32 * k1 : Nat) : Int)) <| sP (.int .i64 ((sz : Nat) : Int)) <| sS (.int .i64 (((32 * k1) + sz : Nat) : Int)) (Quiet.pure (exec_int .add _ _ _ .i64 _ _ _ rfl rfl rfl (int_add _ _ _ _ _ ((wrap_i64 (by omega) (by omega)).trans (by omega))))) <| sP (.int .i64 ((32 * k1 : Nat) : Int)) <| sP (.int .i64 ((sz : Nat) : Int)) ?_
    refine sS (.int .i64 (((32 * k1) + sz : Nat) : Int)) (Quiet.pure (exec_int .add _ _ _ .i64 _ _ _ rfl rfl rfl (int_add _ _ _ _ _ ((wrap_i64 (by omega) (by omega)).trans (by omega))))) <| sS (.slice (some ⟨b, off + (32 * k1) * 13, none⟩) (((32 * k1) + sz) - (32 * k1)) (((32 * k1) + sz) - (32 * k1))) (Quiet.pure (exec_sl3 _ _ _ _ _ b off m cap (32 * k1) ((32 * k1) + sz) ((32 * k1) + sz) 13 .i64 .i64 .i64 rfl rfl rfl rfl rfl kR kF (by have := hs; omega) (by have := hs; omega) (by have := hs; omega) (by have := hs; omega))) ?_
    refine Sy.nil ?_
    refine Sy.yieldX (ro := none) rfl (by rintro ⟨_, _, ⟨_, hv⟩, _⟩; cases hv) kR kR l #[.slice (some ⟨b, off + (32 * k1) * 13, none⟩) (((32 * k1) + sz) - (32 * k1)) (((32 * k1) + sz) - (32 * k1))] kF (fun e W' => (e = .returned (.bool true) ∧ J (pre ++ [⟨k1, hx⟩]) W' ∧ Blk W' Bs 177 #[.slice (some ⟨b, off, none⟩) m cap] ∧ Blk W' Bn 3 #[.int .i64 32]) ∨ (e = .returned (.bool false) ∧ Jx (pre ++ [⟨k1, hx⟩]) W')) (fun w hg => by
            have e : chE b off m ⟨k1, hx⟩ = #[.slice (some ⟨b, off + 32 * k1 * 13, none⟩) (32 * k1 + sz - 32 * k1) (32 * k1 + sz - 32 * k1)] := by unfold chE chV; rw [← hsz, Nat.add_sub_cancel_left]
            have y := hY pre ⟨k1, hx⟩ w (abides_gr hJ hj hg) (by omega)
            rw [e] at y
            exact yield_mono y (fun e w' q => q.imp (fun q => ⟨q.1, q.2.1, q.2.2.2 (Bs, 177, _) (by simp) (hg.blk hS), q.2.2.2 (Bn, 3, _) (by simp) (hg.blk hN)⟩) id)) (fun e w' q => q.elim (fun q => ⟨_, q.1⟩) (fun q => ⟨_, q.1⟩)) rfl (fun w2 b hr => ?_)
    cases b
    · have hx2 := hr.elim (fun q => by cases q.1) (fun q => q.2)
      refine sP (.bool true) ?_
      refine sG <| sT <| Sy.ret <| Sy.in_ret <| Sy.then_ret <| Sy.then_ret <| Sy.in_ret ?_
      exact Sy.retP rfl (fun v w3 hg => ⟨⟨_, rfl⟩, .inr ⟨pre ++ [⟨k1, hx⟩], ⟨k1 + 1, by omega, by rw [List.map_append, hpre, List.range_succ]; rfl⟩, abides_gr hJx hx2 hg⟩⟩) (.inl rfl)
    · clear hS hN hj
      obtain ⟨hj, hS, hN⟩ := hr.elim (fun q => q.2) (fun q => by cases q.1)
      refine sP (.bool false) ?_
      refine sG <| sU <| Sy.skip <| Sy.in_ <| Sy.then_ <| Sy.region ?_
      refine sP (.int .i64 ((32 * k1 : Nat) : Int)) <| sS (.int .i64 ((32 : Nat) : Int)) (Quiet.thereOne Bn 0 3 _ _ rfl kR hN.lt _ (hN.cell 0) Tryz.underlying3 rfl) <| sS (.int .i64 (((32 * k1) + 32 : Nat) : Int)) (Quiet.pure (exec_int .add _ _ _ .i64 _ _ _ rfl rfl rfl (int_add _ _ _ _ _ ((wrap_i64 (by omega) (by omega)).trans (by omega))))) <| sP (.int .i64 (((32 * k1) + 32 : Nat) : Int)) ?_
      refine Sy.nil ?_
      exact Sy.againP (by omega) (all_cons kR (all_cons kR (all_cons kR (all_cons kR all_nil)))) (fun w3 hg => ⟨pre ++ [⟨k1, hx⟩], by rw [List.map_append, hpre, List.range_succ]; rfl, abides_gr hJ hj hg, hg.blk hS, hg.blk hN⟩)
theorem chunk0_in (n l Bs Bn cap : Nat) (A : Option Addr) (J Jx : List (Fin 0) → World → Prop) (W : World) (hJ : AbidesFrom W.heap.size J)
    (hS : Blk W Bs 177 #[.slice A 0 cap]) (hN : Blk W Bn 3 #[.int .i64 32]) (h0 : J [] W) :
    CallsIn Fence.wide n Tryz.prog 197 #[.func (.yield l) #[] #[], .pointer (some ⟨Bs, 0, none⟩), .pointer (some ⟨Bn, 0, none⟩)] W fun e W' => (∃ v, e = .returned v) ∧ ((∃ ys : List (Fin 0), ys.map (·.1) = List.range 0 ∧ J ys W') ∨ (∃ pre : List (Fin 0), (∃ k, k ≤ 0 ∧ pre.map (·.1) = List.range k) ∧ Jx pre W')) := by
  refine Sy.enterP (args := [.func (.yield l) #[] #[], .pointer (some ⟨Bs, 0, none⟩), .pointer (some ⟨Bn, 0, none⟩)]) Tryz.func197 rfl kL ?_
  refine sC ?_
  refine sP (.int .i64 0) ?_
  refine sG <| Sy.block ?_
  refine Sy.loopP 0 (fun k1 => [(0, .func (.yield l) #[] #[]), (1, .pointer (some ⟨Bs, 0, none⟩)), (2, .pointer (some ⟨Bn, 0, none⟩)), (4, .int .i64 ((32 * k1 : Nat) : Int))]) (fun k1 w => J [] w ∧ Blk w Bs 177 #[.slice A 0 cap] ∧ Blk w Bn 3 #[.int .i64 32]) (all_cons kR (all_cons kR (all_cons kR (all_cons kR all_nil)))) (fun w hg => ⟨abides_gr hJ h0 hg, hg.blk hS, hg.blk hN⟩) (fun k1 wr hk1 hz => ?_)
  clear hS hN
  obtain ⟨hj, hS, hN⟩ := hz
  refine Sy.seq <| sC ?_
  refine sP (.int .i64 ((32 * k1 : Nat) : Int)) <| sS (.slice A 0 cap) (Quiet.thereOne Bs 0 177 _ _ rfl kR hS.lt _ (hS.cell 0) Tryz.underlying177 rfl) <| sP (.int .i64 ((0 : Nat) : Int)) ?_
  obtain ⟨b1, hb1⟩ : ∃ z : Bool, z = decide (32 * k1 < 0) := ⟨_, rfl⟩
  refine sS (.bool b1) (Quiet.pure (exec_int .lss _ _ _ .i64 _ _ _ rfl rfl rfl (int_lss _ _ _ _ _ (by rw [hb1]; exact decide_eq_decide.2 (by omega))))) ?_
  refine sG ?_
  cases b1
  · have lb1 : ¬ (32 * k1 < 0) := of_decide_eq_false hb1.symm
    refine sU <| Sy.exit <| Sy.then_exit <| Sy.then_exit ?_
    obtain rfl : k1 = 0 := by omega
    refine Sy.in_exit ?_
    exact Sy.retP rfl (fun v w3 hg => ⟨⟨_, rfl⟩, .inl ⟨[], rfl, abides_gr hJ hj hg⟩⟩) (.inr rfl)
  · have lb1 : 32 * k1 < 0 := of_decide_eq_true hb1.symm
    refine sT <| Sy.skip <| Sy.then_ <| Sy.seq ?_
    exact absurd lb1 (by omega)
def TSrc (w : World) (A : Option Addr) (n : Nat) (T : Nat → Trm) (b o : Nat) : Prop := 0 < n → A = some ⟨b, o, none⟩ ∧ b < w.heap.size ∧ ∀ j, j < n → w.rangeAt b (o + j * 13) (T j).cells
theorem chunk_stops (n Bs Bn n₀ b off m cap N : Nat) (A : Option Addr) (hN0 : N = (m + 31) / 32) (hm : m ≤ cap) (hm2 : m ≤ 4611686018427387904) (hA : 0 < m → A = some ⟨b, off, none⟩) (w : World) (hS : Blk w Bs 177 #[.slice A m cap]) (hN : Blk w Bn 3 #[.int .i64 32]) :
    SeqStopsK Fence.wide n Tryz.prog 197 #[.pointer (some ⟨Bs, 0, none⟩), .pointer (some ⟨Bn, 0, none⟩)] (chE b off m (N := N)) (KpL n₀ [(Bs, 177, #[.slice A m cap]), (Bn, 3, #[.int .i64 32])]) (fun ys => ys.map (·.1) = List.range N) (fun pre => ∃ k, k ≤ N ∧ pre.map (·.1) = List.range k) N w := fun l J Jx W hW hJ hJx hY h0 => by
  have hS' := hS.below hW hS.lt
  have hN' := hN.below hW hN.lt
  rcases Nat.eq_zero_or_pos m with h | h
  · subst h
    obtain rfl : N = 0 := hN0
    exact chunk0_in n l Bs Bn cap A J Jx W hJ hS' hN' h0
  · obtain rfl := hA h
    exact chunk1_in n l Bs Bn n₀ b off m cap N hN0 hm hm2 J Jx W hJ hJx hY hS' hN' h0
end Go.Proofs.YtfhcpdbahbbmaaaGreatDoor.Cu

end
section
namespace Go.Proofs.YtfhcpdbahbbmaaaGreatDoor.Cu
open Go.RowKit Go.Proofs.YtfhcpdbahbbmaaaGreatDoor Go.Proofs.YtfhcpdbahbbmaaaGreatDoor.Sy

theorem rangeN2 {w w' : World} {g o o' : Nat} {vs : List Value} (h : w.rangeAt g o vs) (hb : Below w.heap.size w w') (hg : g < w.heap.size) (e : o' = o) : w'.rangeAt g o' vs := fun j v hj => by
 rw [e]
 exact (Below.cell (p := ⟨g, o + j, none⟩) hb hg).trans (h j v hj)
set_option maxHeartbeats 4000000 in
set_option maxRecDepth 100000 in
theorem multi_any (w : World) (A : Option Addr) (b o n c : Nat) (T : Nat → Trm) (hnc : n ≤ c) (hc : n ≤ 4611686018427387904) (hok : ∀ j, (T j).ok) (hT : TSrc w A n T b o) : Calls Tryz.prog 143 #[.slice A n c] w (Gets w (ptv (Ec.sumL finv (fun t => Ec.nm finv (T t).kn (T t).pt) (List.range n)))) := by
 obtain ⟨N, hN0⟩ : ∃ N, N = (n + 31) / 32 := ⟨_, rfl⟩
 obtain ⟨R, hR⟩ : ∃ R, R = ptJ (chL T n (List.range N)) := ⟨_, rfl⟩
 have hRs : Ec.sumL finv (fun t => Ec.nm finv (T t).kn (T t).pt) (List.range n) = R := by rw [hR, hN0]; exact (ptJ_rep (chL_all T n)).symm
 rw [hRs]
 have hRo : Ec.On R := by rw [← hRs]; exact Ec.On.sumL fld _ fun x _ => (T x).on.nm fld _
 obtain ⟨rx, ry, ri, _, _, eR, _, _⟩ := ptv_raw R hRo
 rw [eR]
 refine Sy.enterM (args := [.slice A n c]) Tryz.func143 rfl kL ?_
 refine sC ?_
 refine sM 71 (pcs 0 0 false) (fun g0 => ?_)
 refine sA ?_
 refine sM 212 (tcs 0 0 0) (fun g1 => ?_)
 refine sG <| Sy.seq <| sC ?_
 refine sP (.slice A n c) ?_
 refine Sy.callN kR 177 #[.slice A n c, .int .i64 32] kF (fun v M => ∃ g1 g2, v = .func (.func 197) #[] #[.pointer (some ⟨g1, 0, none⟩), .pointer (some ⟨g2, 0, none⟩)] ∧ M = [(g1, 177, #[.slice A n c]), (g2, 3, #[.int .i64 32])]) (fun w _ => chunk_any w _ _ _) (fun v M hR0 => ?_)
 obtain ⟨u1, u2, rfl, rfl⟩ := hR0
 refine sG <| Sy.block ?_
 refine Sy.rangeF (α := Fin N) 197 #[.pointer (some ⟨u1, 0, none⟩), .pointer (some ⟨u2, 0, none⟩)] kR kR (enters_of Tryz.func197 kR rfl) (chE b o n) [(u1, 177, (#[.slice A n c])), (u2, 3, (#[.int .i64 32]))] (fun ys => ys.map (·.1) = List.range N) (fun pre => ∃ k, k ≤ N ∧ pre.map (·.1) = List.range k) N (fun _ => rfl) (by decide) [g0, g1, u1, u2] (fun _ => True) (trivial) (fun pre => [(g0, 71, (pcs 0 0 false)), (g1, 212, (tcs ((chL T n (pre.map (·.1))).x.val) ((chL T n (pre.map (·.1))).y.val) ((chL T n (pre.map (·.1))).z.val))), (u1, 177, (#[.slice A n c])), (u2, 3, (#[.int .i64 32]))]) (fun pre => [(g0, 71, (pcs 0 0 false)), (g1, 212, (tcs ((chL T n (pre.map (·.1))).x.val) ((chL T n (pre.map (·.1))).y.val) ((chL T n (pre.map (·.1))).z.val))), (u1, 177, (#[.slice A n c])), (u2, 3, (#[.int .i64 32]))]) (fun _ => False) [true, true, true, true] kR (fun _ => rfl) ?_ ?_ 0 (fun x gs => [(3, .pointer (some ⟨g1, 0, none⟩)), (4, chV b o n x.val)]) (fun x gs => []) (fun x gs h => by cases gs with | nil => rfl | cons _ _ => cases h) ?_ ?_ ?_ ?_
 ·intro w hw
  have hS := hw.get (i := 2) rfl
  have hN := hw.get (i := 3) rfl
  exact ⟨w, Below.refl _ _, chunk_stops 8 u1 u2 _ b o n c N A hN0 hnc hc (fun h => (hT h).1) w hS hN⟩
 ·intro p hp pre
  simp only [List.mem_cons, List.not_mem_nil, or_false] at hp ⊢
  rcases hp with rfl | rfl <;> simp
 ·intro l fz pre x
  refine Sy.regionR (by rintro ⟨_, _, h⟩; exact h) kR ⟨_, rfl⟩ ?_
  refine sP (chV b o n x.val) ?_
  refine Sy.nil ?_
  exact Sy.apN [] rfl (all_cons kR (all_cons kR all_nil)) [true, true, true, true] kR
 ·intro l fz pre x gs hgs hlen hH
  obtain rfl : gs = [] := List.eq_nil_of_length_eq_zero hgs
  have hxN := x.isLt
  have hn0 : 0 < n := by omega
  refine Sy.block ?_
  refine Sy.regionRD (by rintro ⟨_, _, h⟩; exact h) kR ⟨_, rfl⟩ (fun j => j == 4) kR ?_
  refine sD 0 rfl (tv ((chL T n (pre.map (·.1))).x.val) ((chL T n (pre.map (·.1))).y.val) ((chL T n (pre.map (·.1))).z.val)) (qL 1 g1 0 12 212 212 (tcs ((chL T n (pre.map (·.1))).x.val) ((chL T n (pre.map (·.1))).y.val) ((chL T n (pre.map (·.1))).z.val)) rfl Tryz.underlying212) <| sZ 1 rfl (chV b o n x.val) ?_
  obtain ⟨j1, hj1⟩ : ∃ z : J, z = muJ (fun j => T (x.val * 32 + j)) (szC n x.val) 64 := ⟨_, rfl⟩
  refine sD 2 rfl (tv j1.x.val j1.y.val j1.z.val) (qG 179 #[chV b o n x.val] (fun w hw => by rw [hj1]; exact multi_c w b (o + 32 * x.val * 13) (szC n x.val) (szC n x.val) (fun j => T (x.val * 32 + j)) (Nat.lt_of_lt_of_le (hT hn0).2.1 hw.below.size) (by unfold szC; omega) (fun j => hok _) (fun j hj => rangeN2 ((hT hn0).2.2 (x.val * 32 + j) (by unfold szC at hj; omega)) hw.below (hT hn0).2.1 (by omega)))) ?_
  obtain ⟨j2, hj2⟩ : ∃ z : J, z = addJ (chL T n (pre.map (·.1))) j1 := ⟨_, rfl⟩
  refine sD 3 rfl (tv j2.x.val j2.y.val j2.z.val) (qF 178 #[tv ((chL T n (pre.map (·.1))).x.val) ((chL T n (pre.map (·.1))).y.val) ((chL T n (pre.map (·.1))).z.val), tv j1.x.val j1.y.val j1.z.val] (fun w => by rw [hj2]; exact addJ_c w (chL T n (pre.map (·.1))) j1)) <| sX 4 rfl 1 g1 212 (tcs ((chL T n (pre.map (·.1))).x.val) ((chL T n (pre.map (·.1))).y.val) ((chL T n (pre.map (·.1))).z.val)) (tcs j2.x.val j2.y.val j2.z.val) (wS 0 212 (tcs j2.x.val j2.y.val j2.z.val) rfl) ?_
  refine sE ?_
  refine Sy.in_ ?_
  exact Sy.bpN [true, true, true, true] (M := [(g0, 71, (pcs 0 0 false)), (g1, 212, (tcs j2.x.val j2.y.val j2.z.val)), (u1, 177, (#[.slice A n c])), (u2, 3, (#[.int .i64 32]))]) kR (bcons rfl (bcons (beq (by rw [hj2, hj1, List.map_append, List.map_singleton, chL_snoc]; rfl)) (bcons rfl (bcons rfl rfl)))) (trivial)
 ·intro D fz xs hS hH hD hm
  have hS0 : xs.map (·.1) = List.range N := hS
  refine Sy.in_ <| sB ?_
  refine sS (tv ((chL T n (xs.map (·.1))).x.val) ((chL T n (xs.map (·.1))).y.val) ((chL T n (xs.map (·.1))).z.val)) (qL 1 g1 0 12 212 212 (tcs ((chL T n (xs.map (·.1))).x.val) ((chL T n (xs.map (·.1))).y.val) ((chL T n (xs.map (·.1))).z.val)) rfl Tryz.underlying212) <| sS (pv rx ry ri) (qF 180 #[tv ((chL T n (xs.map (·.1))).x.val) ((chL T n (xs.map (·.1))).y.val) ((chL T n (xs.map (·.1))).z.val)] (fun w => by rw [← eR, hR, ← hS0]; exact point_c w _)) <| sW 0 g0 71 (pcs 0 0 false) (pcs rx ry ri) (wS 0 71 (pcs rx ry ri) rfl) ?_
  refine sG <| Sy.ret ?_
  exact Sy.retM1 (v := pv rx ry ri) rfl (.inl (Res.cell (ty' := 71) g0 0 (pcs rx ry ri) _ kR kR Tryz.underlying71 rfl kR kR)) hD hm
 ·intro D fz pre hS hx hD hm
  exact hx.elim
end Go.Proofs.YtfhcpdbahbbmaaaGreatDoor.Cu

end
