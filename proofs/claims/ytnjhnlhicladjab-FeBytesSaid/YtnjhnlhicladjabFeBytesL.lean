/-
  The law on bytes, walked.
-/
import Derived.Test.YtnjhnlhicladjabRefBytes
import Derived.Test.YtnjhnlhicladjabRefNumber
namespace Go.Proofs.Ytnjhnlhicladjab
open Go.RowKit Go.Lib

set_option maxHeartbeats 8000000 in
set_option maxRecDepth 100000 in
theorem law_bytes (w : World) (a : Nat) (l : List UInt8) (ha : a < 115792089237316195423570985008687907853269984665640564039457584007913129639936) (hl : l.length = 32) : Calls Try.prog 7 #[fv a, .agg (l.map bv).toArray] w fun e w' => e = .returned (.bool true) ∧ Below w.heap.size w w' := by
  obtain ⟨n, hn⟩ : ∃ n, n = a % pM := ⟨_, rfl⟩
  have ln : n < 115792089237316195423570985008687907853269984665640564039457584007913129639936 := by rw [hn]; exact mod_lt a
  have np : n < pM := by rw [hn]; exact mod_lt_p a
  obtain ⟨d, hd⟩ : ∃ d, d = bytesS n := ⟨_, rfl⟩
  have ld : d.length = 32 := by rw [hd]; exact bytesS_length n
  obtain ⟨v, hv⟩ : ∃ v, v = valB l := ⟨_, rfl⟩
  have lv : v < 115792089237316195423570985008687907853269984665640564039457584007913129639936 := by rw [hv]; exact valB_lt32 l hl
  obtain ⟨y, b, hS⟩ : ∃ y b, readS l = (y, b) := ⟨_, _, rfl⟩
  have hyb : (b = true → y = v) ∧ (b = false → y = 0) ∧ b = decide (v < pM) := by
    unfold readS at hS
    rw [← hv] at hS
    by_cases h : v < pM
    · rw [if_pos h] at hS
      injection hS with h1 h2
      exact ⟨fun _ => h1.symm, fun e => (by rw [← h2] at e; cases e), by rw [← h2]; simp [h]⟩
    · rw [if_neg h] at hS
      injection hS with h1 h2
      exact ⟨fun e => (by rw [← h2] at e; cases e), fun _ => h1.symm, by rw [← h2]; simp [h]⟩
  have ly : y < 115792089237316195423570985008687907853269984665640564039457584007913129639936 := by
    cases hb : b with
    | true => rw [hyb.1 hb]; exact lv
    | false => rw [hyb.2.1 hb]; omega
  obtain ⟨o, ho⟩ : ∃ o, o = decide (n % 2 = 1) := ⟨_, rfl⟩
  have cP : ∀ w, Calls Try.prog 10 #[] w fun e w' => e = .returned (.agg #[.int .u64 18446744069414583343, .int .u64 18446744073709551615, .int .u64 18446744073709551615, .int .u64 18446744073709551615, .int .u64 4294968273, .int .u64 0, .int .u64 0]) ∧ Below w.heap.size w w' := refP_any
  have cO := fun w => refOf_any w a ha
  have cN : ∀ w, Calls Try.prog 14 #[.agg #[.int .u64 18446744069414583343, .int .u64 18446744073709551615, .int .u64 18446744073709551615, .int .u64 18446744073709551615, .int .u64 4294968273, .int .u64 0, .int .u64 0], fv a] w fun e w' => e = .returned (fv n) ∧ Below w.heap.size w w' := by
    intro w; rw [hn]; exact normR_any w a ha
  have cB : ∀ w, Calls Try.prog 30 #[fv a] w fun e w' => e = .returned (.agg (d.map bv).toArray) ∧ Below w.heap.size w w' := by
    intro w; rw [hd, hn]; exact bytes_any w a ha
  have cW : ∀ w, Calls Try.prog 31 #[fv n] w fun e w' => ∃ g cap, e = .returned (.slice (some ⟨g, 0, none⟩) 32 cap) ∧ OwnB w' (w.heap.size + 1) (.slice (some ⟨g, 0, none⟩) 32 cap) d ∧ g < w'.heap.size ∧ Below w.heap.size w w' := by
    intro w; rw [hd]; exact bytesR_any w n ln
  have cR : ∀ w, Calls Try.prog 32 #[.agg (l.map bv).toArray] w fun e w' => e = .returned (.tuple #[fv y, .bool b]) ∧ Below w.heap.size w w' := by
    intro w
    have h := read_any w l hl
    rw [hS] at h
    exact h
  have cV : ∀ w, Calls Try.prog 34 #[.agg #[.int .u64 18446744069414583343, .int .u64 18446744073709551615, .int .u64 18446744073709551615, .int .u64 18446744073709551615, .int .u64 4294968273, .int .u64 0, .int .u64 0], fv v] w fun e w' => e = .returned (.bool b) ∧ Below w.heap.size w w' := by
    intro w; rw [hyb.2.2]; exact rightR_any w v lv
  have cF := fun w => refFe_any w v lv
  have cD : ∀ w, Calls Try.prog 29 #[fv a] w fun e w' => e = .returned (.bool o) ∧ Below w.heap.size w w' := by
    intro w; rw [ho, hn]; exact odd_any w a ha
  have e1 : b = true → ∀ W, (binOp .neq 24 (fv y) (fv v)).run Try.prog W = .ok (.bool false) W := fun h W => by rw [run_neq_fv W y v ly lv, hyb.1 h]; simp
  have e0 : b = false → ∀ W, (binOp .neq 24 (fv y) (fv 0)).run Try.prog W = .ok (.bool false) W := fun h W => by rw [run_neq_fv W y 0 ly (by omega), hyb.2.1 h]; simp
  obtain ⟨n0, n1, n2, n3, a0, _, _, _, en, fn⟩ := words_of n ln
  have hodd : ((n0 : Int) % 2 == 1) = o := by
    rw [ho]
    rcases (show n % 2 = 0 ∨ n % 2 = 1 by omega) with h | h
    · rw [h]; have : (n0 : Int) % 2 = 0 := by omega
      rw [this]; rfl
    · rw [h]; have : (n0 : Int) % 2 = 1 := by omega
      rw [this]; rfl
  have HO := Lib.hid (And.intro hodd (And.intro a0 fn))
  have HV := Lib.hid hv
  have HL := Lib.hid hl
  have HD := Lib.hid ld
  have LI := Lib.hid (b32_info (l := l) hl)
  have LD := Lib.hid (b32_info (l := d) ld)
  obtain ⟨x0, x1, x2, x3, fa⟩ := words_fv a ha
  have FA := Lib.hid fa
  rw [fa]
  clear fa ha hl hn ln np hd ld hv lv hS hyb ly ho en fn hodd a0
  go_enter Try.func7, Try.ntmps7
  go_wp2_with fail
  refine (cP _).mono ?_
  rintro e w1 ⟨rfl, g1⟩
  have F1a : Blk w1 (w.heap.size) 24 _ := Gr.blk g1 ((Blk.new w _ _).alloc _)
  have t1a := F1a.lt
  have F1b : Blk w1 (w.heap.size + 1) 44 _ := Gr.blk g1 (blk_new2 w _ _ _)
  have t1b := F1b.lt
  have hB1 := Below.gr (below_alloc2 w _ _) g1
  have z1 := hB1.size
  clear g1 cP
  go_wp2
  have Fm : Blk (w1.alloc (.cells #[.int .u64 18446744069414583343, .int .u64 18446744073709551615, .int .u64 18446744073709551615, .int .u64 18446744073709551615, .int .u64 4294968273, .int .u64 0, .int .u64 0] 28)) w1.heap.size 28 _ := Blk.new w1 _ _
  refine wp_region_G (fun j => j == 5) (by kernel_rfl) ?_
  try simp only [Act.put]
  refine wpAnyG_take 0 rfl (by kernel_rfl) (fun _ _ _ h => h) (YieldsG.load (by rfl) _ _ rfl (w1.heap.size) 0 rfl ([.int .u64 18446744069414583343, .int .u64 18446744073709551615, .int .u64 18446744073709551615, .int .u64 18446744073709551615, .int .u64 4294968273, .int .u64 0, .int .u64 0]) _ Fm.lt Fm.range Try.underlying28 rfl (by kernel_rfl)) ?_
  try simp only [Act.put, List.setIfInBounds_toArray, List.set_cons_zero, List.set_cons_succ]
  refine wpAnyG_take 1 rfl (by kernel_rfl) (fun _ _ _ h => h) (YieldsG.loadF (by rfl) _ _ rfl (w.heap.size) rfl (a) _ _ ((F1a).alloc _) (FA.out) Try.underlying24 rfl (by kernel_rfl)) ?_
  try simp only [Act.put, List.setIfInBounds_toArray, List.set_cons_zero, List.set_cons_succ]
  refine wpAnyG_take 2 rfl (by kernel_rfl) (fun _ _ _ h => h) (YieldsG.call (v := fv a) (by rfl) 11 _ (fun w9 => by go_simp; try (first | with_reducible rfl | rfl)) (fun w9 h9 => cO w9)) ?_
  try simp only [Act.put, List.setIfInBounds_toArray, List.set_cons_zero, List.set_cons_succ]
  refine wpAnyG_take 3 rfl (by kernel_rfl) (fun _ _ _ h => h) (YieldsG.call (v := fv n) (by rfl) 14 _ (fun w9 => by go_simp; try (first | with_reducible rfl | rfl)) (fun w9 h9 => cN w9)) ?_
  try simp only [Act.put, List.setIfInBounds_toArray, List.set_cons_zero, List.set_cons_succ]
  refine wpAnyG_sole 4 rfl (by kernel_rfl) (by rfl) (fun w2 h2 K hK => ?_)
  go_simp
  refine hK _ _ (fun _ => gr_alloc _ _) ?_
  clear hK K
  try simp only [Act.put, List.setIfInBounds_toArray, List.set_cons_zero, List.set_cons_succ]
  refine wpAnyG_store 5 rfl (by kernel_rfl) (by rfl) _ _ _ rfl (w2.heap.size) (fcs (n)) rfl rfl _ _ (Blk.new w2 _ _) (by kernel_rfl) (by rfl) (fcs_one _) rfl (fun w6 h6 w3 hB3 hL3 => ?_)
  try simp only [Act.put]
  refine wpAnyG_done (by kernel_rfl) (fun w4 h4 => ?_)
  have zz : w1.heap.size + 1 ≤ w2.heap.size := by have := h2.size; simp at this; omega
  have Ga : Blk w4 (w.heap.size) 24 _ := Gr.blk h4 (Blk.below (B := w2.heap.size) (Gr.blk h6 (Blk.alloc (Gr.blk h2 ((F1a).alloc _)) _)) (hB3 _ (Nat.le_refl _)) (by omega))
  have Gb : Blk w4 (w.heap.size + 1) 44 _ := Gr.blk h4 (Blk.below (B := w2.heap.size) (Gr.blk h6 (Blk.alloc (Gr.blk h2 ((F1b).alloc _)) _)) (hB3 _ (Nat.le_refl _)) (by omega))
  have Gm : Blk w4 w1.heap.size 28 _ := Gr.blk h4 (Blk.below (B := w2.heap.size) (Gr.blk h6 (Blk.alloc (Gr.blk h2 Fm) _)) (hB3 _ (Nat.le_refl _)) (by omega))
  have Gn : Blk w4 w2.heap.size 25 _ := Gr.blk h4 hL3
  have hG : Below w.heap.size w w4 := Below.gr ((Below.gr ((Below.gr ((hB1).alloc (by omega) _) h2).alloc (by omega) _) h6).trans (hB3 _ (by omega))) h4
  have tn := Gn.lt
  clear Fm h2 h4 h6 hB3 hL3 cO cN
  go_wp2_with (first | ((with_reducible refine here_load (d := some 21) ?_); refine wpList_load_fv rfl _ _ rfl (w.heap.size) rfl (a) _ _ _ (Ga) (FA.out) Try.underlying24 rfl (by kernel_rfl) ?_))
  refine (cB _).mono ?_
  rintro e w5 ⟨rfl, g5⟩
  have F2a : Blk w5 (w.heap.size) 24 _ := Gr.blk g5 (Ga)
  have t2a := F2a.lt
  have F2b : Blk w5 (w.heap.size + 1) 44 _ := Gr.blk g5 (Gb)
  have t2b := F2b.lt
  have F2m : Blk w5 (w1.heap.size) 28 _ := Gr.blk g5 (Gm)
  have t2m := F2m.lt
  have F2n : Blk w5 (w2.heap.size) 25 _ := Gr.blk g5 (Gn)
  have t2n := F2n.lt
  have hB2 := Below.gr (hG) g5
  have z2 := hB2.size
  clear g5 cB
  go_wp2_with (first | ((with_reducible refine here_store ?_); refine wpList_store_blk rfl _ _ _ rfl (w5.heap.size) ((d.map bv).toArray) rfl rfl _ _ (Blk.new w5 _ _) LD.out (by simp [HD.out]) (b32_one _) ?_; intro w6 hL3 hq3 hK3; have F3a := hK3 _ (by omega) _ _ ((F2a).alloc _); have F3b := hK3 _ (by omega) _ _ ((F2b).alloc _); have F3m := hK3 _ (by omega) _ _ ((F2m).alloc _); have F3n := hK3 _ (by omega) _ _ ((F2n).alloc _); have hB3 := ((hB2).alloc (by omega) _).trans (hq3 _ (by omega))) | ((with_reducible refine here_load (d := some 23) ?_); refine wpList_load_fv rfl _ _ rfl (w2.heap.size) rfl (n) _ _ _ (F3n) (fv_fcs n) Try.underlying25 rfl (by kernel_rfl) ?_))
  refine (cW _).mono ?_
  rintro e w7 ⟨gw, cw, rfl, hown, lgw, g7⟩
  have F4a : Blk w7 (w.heap.size) 24 _ := Gr.blk g7 (F3a)
  have t4a := F4a.lt
  have F4b : Blk w7 (w.heap.size + 1) 44 _ := Gr.blk g7 (F3b)
  have t4b := F4b.lt
  have F4m : Blk w7 (w1.heap.size) 28 _ := Gr.blk g7 (F3m)
  have t4m := F4m.lt
  have F4n : Blk w7 (w2.heap.size) 25 _ := Gr.blk g7 (F3n)
  have t4n := F4n.lt
  have F4d : Blk w7 (w5.heap.size) 44 _ := Gr.blk g7 (hL3)
  have t4d := F4d.lt
  have hB4 := Below.gr (hB3) g7
  have z4 := hB4.size
  clear g7 cW
  have hwc : ∀ j u, d[j]? = some u → w7.cell? ⟨gw, j, none⟩ = some (bv u) := fun j u hu => hown.cell j u hu
  have HW := Lib.hid hwc
  have hcc := hown.cap
  have c1 : 32 ≤ cw := by have := hcc.1; rw [HD.out] at this; exact this
  have c2 := hcc.2
  clear hown hwc hcc
  go_wp2
  go_loopw [27] (fun i wr => ∃ k : Nat, k ≤ 32 ∧ i = .int .i64 (k : Int) ∧ Gr w7 wr) (fun i _ => 32 - (intOf i).toNat)
  case atStart => exact ⟨0, by omega, rfl, Gr.refl _⟩
  case round =>
    obtain ⟨k, hk, rfl, hg⟩ := hrel
    by_cases hlt : k < 32
    · obtain ⟨u, hu⟩ : ∃ u, d[k]? = some u := ⟨d[k]'(by rw [HD.out]; exact hlt), List.getElem?_eq_getElem _⟩
      obtain ⟨m, hm⟩ : ∃ m, m = u.toNat := ⟨_, rfl⟩
      have r1 : wr.cell? ⟨w5.heap.size, k, none⟩ = some (.int .u8 (m : Int)) := (Below.cell (p := ⟨w5.heap.size, k, none⟩) hg t4d).trans ((F4d.cell k).trans (by simp [hu, hm, bv]))
      have r2 : wr.cell? ⟨gw, k, none⟩ = some (.int .u8 (m : Int)) := (Below.cell (p := ⟨gw, k, none⟩) hg lgw).trans ((HW.out k u hu).trans (by rw [hm]; rfl))
      have l1 : w5.heap.size < wr.heap.size := Nat.lt_of_lt_of_le t4d hg.size
      have l2 : gw < wr.heap.size := Nat.lt_of_lt_of_le lgw hg.size
      have k1 : (0 : Int) ≤ (k : Int) := by omega
      have k2 : (k : Int) < 32 := by omega
      clear hu hm
      go_wp2
      refine wp_region_G (fun _ => false) (by kernel_rfl) ?_
      try simp only [Act.put]
      refine wpAnyG_take 0 rfl (by kernel_rfl) (fun _ _ _ h => h) (YieldsG.pure (by rfl) (fun w9 _ => by go_simp; try with_reducible rfl)) ?_
      try simp only [Act.put, List.setIfInBounds_toArray, List.set_cons_zero, List.set_cons_succ]
      refine wpAnyG_take 1 rfl (by kernel_rfl) (fun _ _ _ h => h) (YieldsG.pure (by rfl) (fun w9 _ => by go_simp; try with_reducible rfl)) ?_
      try simp only [Act.put, List.setIfInBounds_toArray, List.set_cons_zero, List.set_cons_succ]
      refine wpAnyG_take 2 rfl (by kernel_rfl) (fun _ _ _ h => h) (YieldsG.pure (v := .int .u8 (m : Int)) (by rfl) (fun w9 h9 => by have hz := (Below.cell (p := ⟨w5.heap.size, k, none⟩) h9 l1).trans r1; go_simp; first | done | simp [hz])) ?_
      try simp only [Act.put, List.setIfInBounds_toArray, List.set_cons_zero, List.set_cons_succ]
      refine wpAnyG_take 3 rfl (by kernel_rfl) (fun _ _ _ h => h) (YieldsG.pure (by rfl) (fun w9 _ => by go_simp; try with_reducible rfl)) ?_
      try simp only [Act.put, List.setIfInBounds_toArray, List.set_cons_zero, List.set_cons_succ]
      refine wpAnyG_take 4 rfl (by kernel_rfl) (fun _ _ _ h => h) (YieldsG.pure (by rfl) (fun w9 _ => by go_simp; try with_reducible rfl)) ?_
      try simp only [Act.put, List.setIfInBounds_toArray, List.set_cons_zero, List.set_cons_succ]
      refine wpAnyG_take 5 rfl (by kernel_rfl) (fun _ _ _ h => h) (YieldsG.pure (by rfl) (fun w9 _ => by go_simp; try with_reducible rfl)) ?_
      try simp only [Act.put, List.setIfInBounds_toArray, List.set_cons_zero, List.set_cons_succ]
      refine wpAnyG_take 6 rfl (by kernel_rfl) (fun _ _ _ h => h) (YieldsG.pure (v := .int .u8 (m : Int)) (by rfl) (fun w9 h9 => by have hz := (Below.cell (p := ⟨gw, k, none⟩) h9 l2).trans r2; go_simp; first | done | simp [hz])) ?_
      try simp only [Act.put, List.setIfInBounds_toArray, List.set_cons_zero, List.set_cons_succ]
      refine wpAnyG_take 7 rfl (by kernel_rfl) (fun _ _ _ h => h) (YieldsG.pure (v := .bool false) (by rfl) (fun w9 h9 => by go_simp; first | done | simp)) ?_
      try simp only [Act.put, List.setIfInBounds_toArray, List.set_cons_zero, List.set_cons_succ]
      refine wpAnyG_done (by kernel_rfl) (fun u2 hu2 => ?_)
      have hg2 := hg.trans hu2
      go_wp2
      go_roundw
      case rel => exact ⟨k + 1, by omega, by congr 1, hg2⟩
      case measure => simp [intOf]; omega
    · obtain rfl : k = 32 := by omega
      have F5a : Blk wr (w.heap.size) 24 _ := Gr.blk hg (F4a)
      have t5a := F5a.lt
      have F5b : Blk wr (w.heap.size + 1) 44 _ := Gr.blk hg (F4b)
      have t5b := F5b.lt
      have F5m : Blk wr (w1.heap.size) 28 _ := Gr.blk hg (F4m)
      have t5m := F5m.lt
      have F5n : Blk wr (w2.heap.size) 25 _ := Gr.blk hg (F4n)
      have t5n := F5n.lt
      have F5d : Blk wr (w5.heap.size) 44 _ := Gr.blk hg (F4d)
      have t5d := F5d.lt
      have hB5 := Below.gr (hB4) hg
      have z5 := hB5.size
      clear hg hlt hk HW lgw c1 c2 LD HD
      go_wp2_with (first | ((with_reducible refine here_load (d := some 40) ?_); refine wpList_load_blk rfl _ _ rfl (w.heap.size + 1) rfl _ _ _ (F5b) Try.underlying44 rfl LI.out ?_))
      refine (cR _).mono ?_
      rintro e w8 ⟨rfl, g8⟩
      have F6a : Blk w8 (w.heap.size) 24 _ := Gr.blk g8 (F5a)
      have t6a := F6a.lt
      have F6b : Blk w8 (w.heap.size + 1) 44 _ := Gr.blk g8 (F5b)
      have t6b := F6b.lt
      have F6m : Blk w8 (w1.heap.size) 28 _ := Gr.blk g8 (F5m)
      have t6m := F6m.lt
      have F6n : Blk w8 (w2.heap.size) 25 _ := Gr.blk g8 (F5n)
      have t6n := F6n.lt
      have F6d : Blk w8 (w5.heap.size) 44 _ := Gr.blk g8 (F5d)
      have t6d := F6d.lt
      have hB6 := Below.gr (hB5) g8
      have z6 := hB6.size
      clear g8 cR
      go_wp2_with (first | ((with_reducible refine here_store ?_); refine wpList_store_blk rfl _ _ _ rfl (w8.heap.size) (fcs (y)) rfl rfl _ _ (Blk.new w8 _ _) (by kernel_rfl) (by rfl) (fcs_one _) ?_; intro w9' hL7 hq7 hK7; have F7a := hK7 _ (by omega) _ _ ((F6a).alloc _); have F7b := hK7 _ (by omega) _ _ ((F6b).alloc _); have F7m := hK7 _ (by omega) _ _ ((F6m).alloc _); have F7n := hK7 _ (by omega) _ _ ((F6n).alloc _); have F7d := hK7 _ (by omega) _ _ ((F6d).alloc _); have hB7 := ((hB6).alloc (by omega) _).trans (hq7 _ (by omega))))
      have ty := hL7.lt
      go_loopw [12, 44] (fun s i wr => ∃ k : Nat, k ≤ 32 ∧ i = .int .i64 (k : Int) ∧ Gr w9' wr ∧ OwnB wr w9'.heap.size s (l.take k)) (fun _ i _ => 32 - (intOf i).toNat)
      case atStart => exact ⟨0, by omega, rfl, Gr.refl _, OwnB.nil _ _⟩
      case round =>
        obtain ⟨k, hk, rfl, hg, hown⟩ := hrel
        by_cases hlt : k < 32
        · obtain ⟨u, hu⟩ : ∃ u, l[k]? = some u := ⟨l[k]'(by rw [HL.out]; exact hlt), List.getElem?_eq_getElem _⟩
          obtain ⟨m, hm⟩ : ∃ m, m = u.toNat := ⟨_, rfl⟩
          have Fb := Gr.blk hg (F7b)
          have r1 : wr.cell? ⟨w.heap.size + 1, k, none⟩ = some (.int .u8 (m : Int)) := (Fb.cell k).trans (by simp [hu, hm, bv])
          have k1 : (0 : Int) ≤ (k : Int) := by omega
          have k2 : (k : Int) < 32 := by omega
          have hsz := hg.size
          have hstep : l.take k ++ [u] = l.take (k + 1) := by rw [List.take_add_one, hu]; rfl
          have hbm : bv u = .int .u8 (m : Int) := by rw [hm]; rfl
          have HS := Lib.hid (And.intro hstep hbm)
          have hlen : (l.take k).length ≤ 32 := by rw [List.length_take, HL.out]; omega
          have HN := Lib.hid hlen
          clear hu hm Fb hstep hbm hlen
          go_wp2_with (at_builtin
                       refine wpList_append_bytes rfl (.tmp 47) (.tmp 51) rfl w9'.heap.size _ (l.take k) rfl (hown.alloc _) (some ⟨wr.heap.size, 0, none⟩) [u] 1 rfl (Src.of_blk (Blk.eq_ (Blk.new wr 5 _) (by rw [List.map_cons, HS.out.2]; rfl))) (by have := HN.out; simp only [List.length_singleton]; omega) (by simp <;> omega) ?_
                       intro v3 w3' hv3 hg3
                       have hb3 := below_own ((Below.mono hg (Nat.le_refl _)).alloc hsz _) (hown.alloc _) hg3 (Nat.le_refl _) (by simp <;> omega)
                       rw [HS.out.1] at hv3)
          go_roundw
          case rel => exact ⟨k + 1, by omega, by congr 1, hb3, hv3⟩
          case measure => simp [intOf]; omega
        · obtain rfl : k = 32 := by omega
          rw [List.take_of_length_le (by rw [HL.out]; exact Nat.le_refl _)] at hown
          obtain ⟨gl, nl, cl, rfl, hnl, _, lgl⟩ := hown.form' (by rw [HL.out]; omega)
          have hn32 : nl = 32 := by rw [hnl.out, HL.out]
          subst hn32
          have hcc := hown.cap
          have c1 : 32 ≤ cl := by have := hcc.1; rw [HL.out] at this; exact this
          have cNum := fun (w' : World) (h : Below wr.heap.size wr w') => numberR_any w' gl cl l HL.out (Nat.lt_of_lt_of_le lgl h.size) (fun j u hu => (Below.cell (p := ⟨gl, j, none⟩) h lgl).trans (hown.cell j u hu)) c1 hcc.2
          rw [← HV.out] at cNum
          have F8a : Blk wr (w.heap.size) 24 _ := Gr.blk hg (F7a)
          have t8a := F8a.lt
          have F8b : Blk wr (w.heap.size + 1) 44 _ := Gr.blk hg (F7b)
          have t8b := F8b.lt
          have F8m : Blk wr (w1.heap.size) 28 _ := Gr.blk hg (F7m)
          have t8m := F8m.lt
          have F8n : Blk wr (w2.heap.size) 25 _ := Gr.blk hg (F7n)
          have t8n := F8n.lt
          have F8d : Blk wr (w5.heap.size) 44 _ := Gr.blk hg (F7d)
          have t8d := F8d.lt
          have F8y : Blk wr (w8.heap.size) 24 _ := Gr.blk hg (hL7)
          have t8y := F8y.lt
          have hB8 := Below.gr (hB7) hg
          have z8 := hB8.size
          clear hg hlt hk hown hcc c1
          go_wp2_with fail
          refine (cNum _ (Below.refl _ _)).mono ?_
          rintro e w10 ⟨rfl, g10⟩
          have F9a : Blk w10 (w.heap.size) 24 _ := Gr.blk g10 (F8a)
          have t9a := F9a.lt
          have F9b : Blk w10 (w.heap.size + 1) 44 _ := Gr.blk g10 (F8b)
          have t9b := F9b.lt
          have F9m : Blk w10 (w1.heap.size) 28 _ := Gr.blk g10 (F8m)
          have t9m := F9m.lt
          have F9n : Blk w10 (w2.heap.size) 25 _ := Gr.blk g10 (F8n)
          have t9n := F9n.lt
          have F9d : Blk w10 (w5.heap.size) 44 _ := Gr.blk g10 (F8d)
          have t9d := F9d.lt
          have F9y : Blk w10 (w8.heap.size) 24 _ := Gr.blk g10 (F8y)
          have t9y := F9y.lt
          have hB9 := Below.gr (hB8) g10
          have z9 := hB9.size
          clear g10 cNum
          go_wp2_with (first | ((with_reducible refine here_store ?_); refine wpList_store_blk rfl _ _ _ rfl (w10.heap.size) (fcs (v)) rfl rfl _ _ (Blk.new w10 _ _) (by kernel_rfl) (by rfl) (fcs_one _) ?_; intro w11 hL10 hq10 hK10; have F10a := hK10 _ (by omega) _ _ ((F9a).alloc _); have F10b := hK10 _ (by omega) _ _ ((F9b).alloc _); have F10m := hK10 _ (by omega) _ _ ((F9m).alloc _); have F10n := hK10 _ (by omega) _ _ ((F9n).alloc _); have F10d := hK10 _ (by omega) _ _ ((F9d).alloc _); have F10y := hK10 _ (by omega) _ _ ((F9y).alloc _); have hB10 := ((hB9).alloc (by omega) _).trans (hq10 _ (by omega))) | ((with_reducible refine here_load (d := some 56) ?_); refine wpList_load_blk rfl _ _ rfl w1.heap.size rfl _ _ _ (F10m) Try.underlying28 rfl (by kernel_rfl) ?_) | ((with_reducible refine here_load (d := some 57) ?_); refine wpList_load_fv rfl _ _ rfl (w10.heap.size) rfl (v) _ _ _ (hL10) (fv_fcs v) Try.underlying25 rfl (by kernel_rfl) ?_))
          refine (cV _).mono ?_
          rintro e w12 ⟨rfl, g12⟩
          have F11a : Blk w12 (w.heap.size) 24 _ := Gr.blk g12 (F10a)
          have t11a := F11a.lt
          have F11b : Blk w12 (w.heap.size + 1) 44 _ := Gr.blk g12 (F10b)
          have t11b := F11b.lt
          have F11m : Blk w12 (w1.heap.size) 28 _ := Gr.blk g12 (F10m)
          have t11m := F11m.lt
          have F11n : Blk w12 (w2.heap.size) 25 _ := Gr.blk g12 (F10n)
          have t11n := F11n.lt
          have F11d : Blk w12 (w5.heap.size) 44 _ := Gr.blk g12 (F10d)
          have t11d := F11d.lt
          have F11y : Blk w12 (w8.heap.size) 24 _ := Gr.blk g12 (F10y)
          have t11y := F11y.lt
          have F11v : Blk w12 (w10.heap.size) 25 _ := Gr.blk g12 (hL10)
          have t11v := F11v.lt
          have hB11 := Below.gr (hB10) g12
          have z11 := hB11.size
          clear g12 cV
          go_wp2
          cases b
          · have ee := e0 rfl
            clear e0 e1
            refine wp_region_G (fun _ => false) (by kernel_rfl) ?_
            try simp only [Act.put]
            refine wpAnyG_take 0 rfl (by kernel_rfl) (fun _ _ _ h => h) (YieldsG.pure (by rfl) (fun w9 _ => by go_simp; try with_reducible rfl)) ?_
            try simp only [Act.put, List.setIfInBounds_toArray, List.set_cons_zero, List.set_cons_succ]
            refine wpAnyG_take 1 rfl (by kernel_rfl) (fun _ _ _ h => h) (YieldsG.pure (by rfl) (fun w9 _ => by go_simp; try with_reducible rfl)) ?_
            try simp only [Act.put, List.setIfInBounds_toArray, List.set_cons_zero, List.set_cons_succ]
            refine wpAnyG_take 2 rfl (by kernel_rfl) (fun _ _ _ h => h) (YieldsG.pure (v := .bool false) (by rfl) (fun w9 h9 => by go_simp; first | done | simp)) ?_
            try simp only [Act.put, List.setIfInBounds_toArray, List.set_cons_zero, List.set_cons_succ]
            refine wpAnyG_take 3 rfl (by kernel_rfl) (fun _ _ _ h => h) (YieldsG.pure (by rfl) (fun w9 _ => by go_simp; try with_reducible rfl)) ?_
            try simp only [Act.put, List.setIfInBounds_toArray, List.set_cons_zero, List.set_cons_succ]
            refine wpAnyG_take 4 rfl (by kernel_rfl) (fun _ _ _ h => h) (YieldsG.pure (by rfl) (fun w9 _ => by go_simp; try with_reducible rfl)) ?_
            try simp only [Act.put, List.setIfInBounds_toArray, List.set_cons_zero, List.set_cons_succ]
            refine wpAnyG_take 5 rfl (by kernel_rfl) (fun _ _ _ h => h) (YieldsG.pure (by rfl) (fun w9 _ => by go_simp; try with_reducible rfl)) ?_
            try simp only [Act.put, List.setIfInBounds_toArray, List.set_cons_zero, List.set_cons_succ]
            refine wpAnyG_take 6 rfl (by kernel_rfl) (fun _ _ _ h => h) (YieldsG.skip (by rfl)) ?_
            try simp only [Act.put, List.setIfInBounds_toArray, List.set_cons_zero, List.set_cons_succ]
            refine wpAnyG_take 7 rfl (by kernel_rfl) (fun _ _ _ h => h) (YieldsG.skip (by rfl)) ?_
            try simp only [Act.put, List.setIfInBounds_toArray, List.set_cons_zero, List.set_cons_succ]
            refine wpAnyG_take 8 rfl (by kernel_rfl) (fun _ _ _ h => h) (YieldsG.skip (by rfl)) ?_
            try simp only [Act.put, List.setIfInBounds_toArray, List.set_cons_zero, List.set_cons_succ]
            refine wpAnyG_take 9 rfl (by kernel_rfl) (fun _ _ _ h => h) (YieldsG.skip (by rfl)) ?_
            try simp only [Act.put, List.setIfInBounds_toArray, List.set_cons_zero, List.set_cons_succ]
            refine wpAnyG_take 10 rfl (by kernel_rfl) (fun _ _ _ h => h) (YieldsG.pure (by rfl) (fun w9 _ => by go_simp; try with_reducible rfl)) ?_
            try simp only [Act.put, List.setIfInBounds_toArray, List.set_cons_zero, List.set_cons_succ]
            refine wpAnyG_take 11 rfl (by kernel_rfl) (fun _ _ _ h => h) (YieldsG.pure (by rfl) (fun w9 _ => by go_simp; try with_reducible rfl)) ?_
            try simp only [Act.put, List.setIfInBounds_toArray, List.set_cons_zero, List.set_cons_succ]
            refine wpAnyG_take 12 rfl (by kernel_rfl) (fun _ _ _ h => h) (YieldsG.pure (by rfl) (fun w9 _ => by go_simp; try with_reducible rfl)) ?_
            try simp only [Act.put, List.setIfInBounds_toArray, List.set_cons_zero, List.set_cons_succ]
            refine wpAnyG_take 13 rfl (by kernel_rfl) (fun _ _ _ h => h) (YieldsG.pure (by rfl) (fun w9 _ => by go_simp; try with_reducible rfl)) ?_
            try simp only [Act.put, List.setIfInBounds_toArray, List.set_cons_zero, List.set_cons_succ]
            refine wpAnyG_take 14 rfl (by kernel_rfl) (fun _ _ _ h => h) (YieldsG.pure (by rfl) (fun w9 _ => by go_simp; try with_reducible rfl)) ?_
            try simp only [Act.put, List.setIfInBounds_toArray, List.set_cons_zero, List.set_cons_succ]
            refine wpAnyG_take 15 rfl (by kernel_rfl) (fun _ _ _ h => h) (YieldsG.pure (by rfl) (fun w9 _ => by go_simp; try with_reducible rfl)) ?_
            try simp only [Act.put, List.setIfInBounds_toArray, List.set_cons_zero, List.set_cons_succ]
            refine wpAnyG_take 16 rfl (by kernel_rfl) (fun _ _ _ h => h) (YieldsG.loadF (by rfl) _ _ rfl (w8.heap.size) rfl (y) _ _ (F11y) (fv_fcs _) Try.underlying24 rfl (by kernel_rfl)) ?_
            try simp only [Act.put, List.setIfInBounds_toArray, List.set_cons_zero, List.set_cons_succ]
            refine wpAnyG_take 17 rfl (by kernel_rfl) (fun _ _ _ h => h) (YieldsG.pure (v := fv 0) (by rfl) (fun w9 h9 => by go_simp; first | done | rfl)) ?_
            try simp only [Act.put, List.setIfInBounds_toArray, List.set_cons_zero, List.set_cons_succ]
            refine wpAnyG_take 18 rfl (by kernel_rfl) (fun _ _ _ h => h) (YieldsG.pure (v := .bool false) (by rfl) (fun w9 h9 => by go_simp; try rw [run_eqGuard_fv]; try simp only [Result.andThen_ok, ee])) ?_
            try simp only [Act.put, List.setIfInBounds_toArray, List.set_cons_zero, List.set_cons_succ]
            refine wpAnyG_take 19 rfl (by kernel_rfl) (fun _ _ _ h => h) (YieldsG.pure (by rfl) (fun w9 _ => by go_simp; try with_reducible rfl)) ?_
            try simp only [Act.put, List.setIfInBounds_toArray, List.set_cons_zero, List.set_cons_succ]
            refine wpAnyG_take 20 rfl (by kernel_rfl) (fun _ _ _ h => h) (YieldsG.pure (by rfl) (fun w9 _ => by go_simp; try with_reducible rfl)) ?_
            try simp only [Act.put, List.setIfInBounds_toArray, List.set_cons_zero, List.set_cons_succ]
            refine wpAnyG_done (by kernel_rfl) (fun u hu => ?_)
            have hbu := Below.gr hB11 hu
            have Ea := Gr.blk hu F11a
            have En : Blk u w2.heap.size 25 _ := Blk.eq_ (Gr.blk hu F11n) (fcs_words HO.out.2.2)
            have qn : u.cell? ⟨w2.heap.size, 0, none⟩ = some (.int .u64 (n0 : Int)) := En.cell 0
            have tn2 := En.lt
            have hn0 : n0 < 18446744073709551616 := HO.out.2.1
            go_wp2
            refine wp_region_G (fun _ => false) (by kernel_rfl) ?_
            try simp only [Act.put]
            refine wpAnyG_take 0 rfl (by kernel_rfl) (fun _ _ _ h => h) (YieldsG.loadF (by rfl) _ _ rfl (w.heap.size) rfl (a) _ _ (Ea) (FA.out) Try.underlying24 rfl (by kernel_rfl)) ?_
            try simp only [Act.put, List.setIfInBounds_toArray, List.set_cons_zero, List.set_cons_succ]
            refine wpAnyG_take 1 rfl (by kernel_rfl) (fun _ _ _ h => h) (YieldsG.call (v := .bool o) (by rfl) 29 _ (fun w9 => by go_simp; try (first | with_reducible rfl | rfl)) (fun w9 h9 => cD w9)) ?_
            try simp only [Act.put, List.setIfInBounds_toArray, List.set_cons_zero, List.set_cons_succ]
            refine wpAnyG_take 2 rfl (by kernel_rfl) (fun _ _ _ h => h) (YieldsG.pure (by rfl) (fun w9 _ => by go_simp; try with_reducible rfl)) ?_
            try simp only [Act.put, List.setIfInBounds_toArray, List.set_cons_zero, List.set_cons_succ]
            refine wpAnyG_take 3 rfl (by kernel_rfl) (fun _ _ _ h => h) (YieldsG.pure (v := .int .u64 (n0 : Int)) (by rfl) (fun w9 h9 => by have hz := (Below.cell (p := ⟨w2.heap.size, 0, none⟩) h9 tn2).trans qn; go_simp; first | done | simp [hz])) ?_
            try simp only [Act.put, List.setIfInBounds_toArray, List.set_cons_zero, List.set_cons_succ]
            refine wpAnyG_take 4 rfl (by kernel_rfl) (fun _ _ _ h => h) (YieldsG.pure (by rfl) (fun w9 _ => by go_simp; try with_reducible rfl)) ?_
            try simp only [Act.put, List.setIfInBounds_toArray, List.set_cons_zero, List.set_cons_succ]
            refine wpAnyG_take 5 rfl (by kernel_rfl) (fun _ _ _ h => h) (YieldsG.pure (v := .bool o) (by rfl) (fun w9 h9 => by go_simp; congr 3; all_goals (rw [← HO.out.1, Int.tmod_eq_emod_of_nonneg (by omega)]))) ?_
            try simp only [Act.put, List.setIfInBounds_toArray, List.set_cons_zero, List.set_cons_succ]
            refine wpAnyG_take 6 rfl (by kernel_rfl) (fun _ _ _ h => h) (YieldsG.pure (v := .bool true) (by rfl) (fun w9 h9 => by go_simp; first | done | simp)) ?_
            try simp only [Act.put, List.setIfInBounds_toArray, List.set_cons_zero, List.set_cons_succ]
            refine wpAnyG_take 7 rfl (by kernel_rfl) (fun _ _ _ h => h) (YieldsG.pure (by rfl) (fun w9 _ => by go_simp; try with_reducible rfl)) ?_
            try simp only [Act.put, List.setIfInBounds_toArray, List.set_cons_zero, List.set_cons_succ]
            refine wpAnyG_take 8 rfl (by kernel_rfl) (fun _ _ _ h => h) (YieldsG.call (v := .bool true) (by rfl) 21 _ (fun w9 => by go_simp; try (first | with_reducible rfl | rfl)) (fun w9 h9 => alive3_any w9)) ?_
            try simp only [Act.put, List.setIfInBounds_toArray, List.set_cons_zero, List.set_cons_succ]
            refine wpAnyG_take 9 rfl (by kernel_rfl) (fun _ _ _ h => h) (YieldsG.pure (by rfl) (fun w9 _ => by go_simp; try with_reducible rfl)) ?_
            try simp only [Act.put, List.setIfInBounds_toArray, List.set_cons_zero, List.set_cons_succ]
            refine wpAnyG_take 10 rfl (by kernel_rfl) (fun _ _ _ h => h) (YieldsG.pure (by rfl) (fun w9 _ => by go_simp; try with_reducible rfl)) ?_
            try simp only [Act.put, List.setIfInBounds_toArray, List.set_cons_zero, List.set_cons_succ]
            refine wpAnyG_done (by kernel_rfl) (fun uz huz => ?_)
            go_wp2
            go_ret
            exact ⟨rfl, Below.gr hbu huz⟩
          · have ee := e1 rfl
            clear e0 e1
            refine wp_region_G (fun _ => false) (by kernel_rfl) ?_
            try simp only [Act.put]
            refine wpAnyG_take 0 rfl (by kernel_rfl) (fun _ _ _ h => h) (YieldsG.pure (by rfl) (fun w9 _ => by go_simp; try with_reducible rfl)) ?_
            try simp only [Act.put, List.setIfInBounds_toArray, List.set_cons_zero, List.set_cons_succ]
            refine wpAnyG_take 1 rfl (by kernel_rfl) (fun _ _ _ h => h) (YieldsG.pure (by rfl) (fun w9 _ => by go_simp; try with_reducible rfl)) ?_
            try simp only [Act.put, List.setIfInBounds_toArray, List.set_cons_zero, List.set_cons_succ]
            refine wpAnyG_take 2 rfl (by kernel_rfl) (fun _ _ _ h => h) (YieldsG.pure (v := .bool false) (by rfl) (fun w9 h9 => by go_simp; first | done | simp)) ?_
            try simp only [Act.put, List.setIfInBounds_toArray, List.set_cons_zero, List.set_cons_succ]
            refine wpAnyG_take 3 rfl (by kernel_rfl) (fun _ _ _ h => h) (YieldsG.pure (by rfl) (fun w9 _ => by go_simp; try with_reducible rfl)) ?_
            try simp only [Act.put, List.setIfInBounds_toArray, List.set_cons_zero, List.set_cons_succ]
            refine wpAnyG_take 4 rfl (by kernel_rfl) (fun _ _ _ h => h) (YieldsG.pure (by rfl) (fun w9 _ => by go_simp; try with_reducible rfl)) ?_
            try simp only [Act.put, List.setIfInBounds_toArray, List.set_cons_zero, List.set_cons_succ]
            refine wpAnyG_take 5 rfl (by kernel_rfl) (fun _ _ _ h => h) (YieldsG.pure (by rfl) (fun w9 _ => by go_simp; try with_reducible rfl)) ?_
            try simp only [Act.put, List.setIfInBounds_toArray, List.set_cons_zero, List.set_cons_succ]
            refine wpAnyG_take 6 rfl (by kernel_rfl) (fun _ _ _ h => h) (YieldsG.loadF (by rfl) _ _ rfl (w8.heap.size) rfl (y) _ _ (F11y) (fv_fcs _) Try.underlying24 rfl (by kernel_rfl)) ?_
            try simp only [Act.put, List.setIfInBounds_toArray, List.set_cons_zero, List.set_cons_succ]
            refine wpAnyG_take 7 rfl (by kernel_rfl) (fun _ _ _ h => h) (YieldsG.loadF (by rfl) _ _ rfl (w10.heap.size) rfl (v) _ _ (F11v) (fv_fcs _) Try.underlying25 rfl (by kernel_rfl)) ?_
            try simp only [Act.put, List.setIfInBounds_toArray, List.set_cons_zero, List.set_cons_succ]
            refine wpAnyG_take 8 rfl (by kernel_rfl) (fun _ _ _ h => h) (YieldsG.call (v := fv v) (by rfl) 13 _ (fun w9 => by go_simp; try (first | with_reducible rfl | rfl)) (fun w9 h9 => cF w9)) ?_
            try simp only [Act.put, List.setIfInBounds_toArray, List.set_cons_zero, List.set_cons_succ]
            refine wpAnyG_take 9 rfl (by kernel_rfl) (fun _ _ _ h => h) (YieldsG.pure (v := .bool false) (by rfl) (fun w9 h9 => by go_simp; try rw [run_eqGuard_fv]; try simp only [Result.andThen_ok, ee])) ?_
            try simp only [Act.put, List.setIfInBounds_toArray, List.set_cons_zero, List.set_cons_succ]
            refine wpAnyG_take 10 rfl (by kernel_rfl) (fun _ _ _ h => h) (YieldsG.pure (by rfl) (fun w9 _ => by go_simp; try with_reducible rfl)) ?_
            try simp only [Act.put, List.setIfInBounds_toArray, List.set_cons_zero, List.set_cons_succ]
            refine wpAnyG_take 11 rfl (by kernel_rfl) (fun _ _ _ h => h) (YieldsG.pure (by rfl) (fun w9 _ => by go_simp; try with_reducible rfl)) ?_
            try simp only [Act.put, List.setIfInBounds_toArray, List.set_cons_zero, List.set_cons_succ]
            refine wpAnyG_take 12 rfl (by kernel_rfl) (fun _ _ _ h => h) (YieldsG.pure (by rfl) (fun w9 _ => by go_simp; try with_reducible rfl)) ?_
            try simp only [Act.put, List.setIfInBounds_toArray, List.set_cons_zero, List.set_cons_succ]
            refine wpAnyG_take 13 rfl (by kernel_rfl) (fun _ _ _ h => h) (YieldsG.pure (by rfl) (fun w9 _ => by go_simp; try with_reducible rfl)) ?_
            try simp only [Act.put, List.setIfInBounds_toArray, List.set_cons_zero, List.set_cons_succ]
            refine wpAnyG_take 14 rfl (by kernel_rfl) (fun _ _ _ h => h) (YieldsG.pure (by rfl) (fun w9 _ => by go_simp; try with_reducible rfl)) ?_
            try simp only [Act.put, List.setIfInBounds_toArray, List.set_cons_zero, List.set_cons_succ]
            refine wpAnyG_take 15 rfl (by kernel_rfl) (fun _ _ _ h => h) (YieldsG.pure (by rfl) (fun w9 _ => by go_simp; try with_reducible rfl)) ?_
            try simp only [Act.put, List.setIfInBounds_toArray, List.set_cons_zero, List.set_cons_succ]
            refine wpAnyG_take 16 rfl (by kernel_rfl) (fun _ _ _ h => h) (YieldsG.skip (by rfl)) ?_
            try simp only [Act.put, List.setIfInBounds_toArray, List.set_cons_zero, List.set_cons_succ]
            refine wpAnyG_take 17 rfl (by kernel_rfl) (fun _ _ _ h => h) (YieldsG.skip (by rfl)) ?_
            try simp only [Act.put, List.setIfInBounds_toArray, List.set_cons_zero, List.set_cons_succ]
            refine wpAnyG_take 18 rfl (by kernel_rfl) (fun _ _ _ h => h) (YieldsG.skip (by rfl)) ?_
            try simp only [Act.put, List.setIfInBounds_toArray, List.set_cons_zero, List.set_cons_succ]
            refine wpAnyG_take 19 rfl (by kernel_rfl) (fun _ _ _ h => h) (YieldsG.pure (by rfl) (fun w9 _ => by go_simp; try with_reducible rfl)) ?_
            try simp only [Act.put, List.setIfInBounds_toArray, List.set_cons_zero, List.set_cons_succ]
            refine wpAnyG_take 20 rfl (by kernel_rfl) (fun _ _ _ h => h) (YieldsG.pure (by rfl) (fun w9 _ => by go_simp; try with_reducible rfl)) ?_
            try simp only [Act.put, List.setIfInBounds_toArray, List.set_cons_zero, List.set_cons_succ]
            refine wpAnyG_done (by kernel_rfl) (fun u hu => ?_)
            have hbu := Below.gr hB11 hu
            have Ea := Gr.blk hu F11a
            have En : Blk u w2.heap.size 25 _ := Blk.eq_ (Gr.blk hu F11n) (fcs_words HO.out.2.2)
            have qn : u.cell? ⟨w2.heap.size, 0, none⟩ = some (.int .u64 (n0 : Int)) := En.cell 0
            have tn2 := En.lt
            have hn0 : n0 < 18446744073709551616 := HO.out.2.1
            go_wp2
            refine wp_region_G (fun _ => false) (by kernel_rfl) ?_
            try simp only [Act.put]
            refine wpAnyG_take 0 rfl (by kernel_rfl) (fun _ _ _ h => h) (YieldsG.loadF (by rfl) _ _ rfl (w.heap.size) rfl (a) _ _ (Ea) (FA.out) Try.underlying24 rfl (by kernel_rfl)) ?_
            try simp only [Act.put, List.setIfInBounds_toArray, List.set_cons_zero, List.set_cons_succ]
            refine wpAnyG_take 1 rfl (by kernel_rfl) (fun _ _ _ h => h) (YieldsG.call (v := .bool o) (by rfl) 29 _ (fun w9 => by go_simp; try (first | with_reducible rfl | rfl)) (fun w9 h9 => cD w9)) ?_
            try simp only [Act.put, List.setIfInBounds_toArray, List.set_cons_zero, List.set_cons_succ]
            refine wpAnyG_take 2 rfl (by kernel_rfl) (fun _ _ _ h => h) (YieldsG.pure (by rfl) (fun w9 _ => by go_simp; try with_reducible rfl)) ?_
            try simp only [Act.put, List.setIfInBounds_toArray, List.set_cons_zero, List.set_cons_succ]
            refine wpAnyG_take 3 rfl (by kernel_rfl) (fun _ _ _ h => h) (YieldsG.pure (v := .int .u64 (n0 : Int)) (by rfl) (fun w9 h9 => by have hz := (Below.cell (p := ⟨w2.heap.size, 0, none⟩) h9 tn2).trans qn; go_simp; first | done | simp [hz])) ?_
            try simp only [Act.put, List.setIfInBounds_toArray, List.set_cons_zero, List.set_cons_succ]
            refine wpAnyG_take 4 rfl (by kernel_rfl) (fun _ _ _ h => h) (YieldsG.pure (by rfl) (fun w9 _ => by go_simp; try with_reducible rfl)) ?_
            try simp only [Act.put, List.setIfInBounds_toArray, List.set_cons_zero, List.set_cons_succ]
            refine wpAnyG_take 5 rfl (by kernel_rfl) (fun _ _ _ h => h) (YieldsG.pure (v := .bool o) (by rfl) (fun w9 h9 => by go_simp; congr 3; all_goals (rw [← HO.out.1, Int.tmod_eq_emod_of_nonneg (by omega)]))) ?_
            try simp only [Act.put, List.setIfInBounds_toArray, List.set_cons_zero, List.set_cons_succ]
            refine wpAnyG_take 6 rfl (by kernel_rfl) (fun _ _ _ h => h) (YieldsG.pure (v := .bool true) (by rfl) (fun w9 h9 => by go_simp; first | done | simp)) ?_
            try simp only [Act.put, List.setIfInBounds_toArray, List.set_cons_zero, List.set_cons_succ]
            refine wpAnyG_take 7 rfl (by kernel_rfl) (fun _ _ _ h => h) (YieldsG.pure (by rfl) (fun w9 _ => by go_simp; try with_reducible rfl)) ?_
            try simp only [Act.put, List.setIfInBounds_toArray, List.set_cons_zero, List.set_cons_succ]
            refine wpAnyG_take 8 rfl (by kernel_rfl) (fun _ _ _ h => h) (YieldsG.call (v := .bool true) (by rfl) 21 _ (fun w9 => by go_simp; try (first | with_reducible rfl | rfl)) (fun w9 h9 => alive3_any w9)) ?_
            try simp only [Act.put, List.setIfInBounds_toArray, List.set_cons_zero, List.set_cons_succ]
            refine wpAnyG_take 9 rfl (by kernel_rfl) (fun _ _ _ h => h) (YieldsG.pure (by rfl) (fun w9 _ => by go_simp; try with_reducible rfl)) ?_
            try simp only [Act.put, List.setIfInBounds_toArray, List.set_cons_zero, List.set_cons_succ]
            refine wpAnyG_take 10 rfl (by kernel_rfl) (fun _ _ _ h => h) (YieldsG.pure (by rfl) (fun w9 _ => by go_simp; try with_reducible rfl)) ?_
            try simp only [Act.put, List.setIfInBounds_toArray, List.set_cons_zero, List.set_cons_succ]
            refine wpAnyG_done (by kernel_rfl) (fun uz huz => ?_)
            go_wp2
            go_ret
            exact ⟨rfl, Below.gr hbu huz⟩
end Go.Proofs.Ytnjhnlhicladjab
