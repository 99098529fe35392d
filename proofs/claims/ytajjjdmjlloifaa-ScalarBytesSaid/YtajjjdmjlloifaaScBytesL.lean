/-
  The law on bytes modulo n, walked.
-/
import Derived.Test.YtajjjdmjlloifaaRefBytes
import Derived.Test.YtajjjdmjlloifaaRefNumber
import Derived.Test.YtajjjdmjlloifaaScRefN
import Derived.Test.YtajjjdmjlloifaaScB32
import Derived.Test.YtajjjdmjlloifaaScAlive
namespace Go.Proofs.Ytajjjdmjlloifaa.Sc
open Go.RowKit Go.Lib

set_option maxHeartbeats 8000000 in
set_option maxRecDepth 100000 in
theorem law_bytes (w : World) (a : Nat) (l : List UInt8) (ha : a < 115792089237316195423570985008687907853269984665640564039457584007913129639936) (hl : l.length = 32) : Calls Try.prog 8 #[fv a, .agg (l.map bv).toArray] w fun e w' => e = .returned (.bool true) ∧ Below w.heap.size w w' := by
  obtain ⟨n, hn⟩ : ∃ n, n = a % pM := ⟨_, rfl⟩
  have ln : n < 115792089237316195423570985008687907853269984665640564039457584007913129639936 := by rw [hn]; exact mod_lt a
  obtain ⟨d, hd⟩ : ∃ d, d = bytesS n := ⟨_, rfl⟩
  have ld : d.length = 32 := by rw [hd]; exact bytesS_length n
  obtain ⟨v, hv⟩ : ∃ v, v = valB l := ⟨_, rfl⟩
  have lv : v < 115792089237316195423570985008687907853269984665640564039457584007913129639936 := by rw [hv]; exact valB_lt32 l hl
  obtain ⟨q, hq⟩ : ∃ q, q = v % pM := ⟨_, rfl⟩
  have lq : q < 115792089237316195423570985008687907853269984665640564039457584007913129639936 := by rw [hq]; exact mod_lt v
  obtain ⟨y, b, hS⟩ : ∃ y b, readS l = (y, b) := ⟨_, _, rfl⟩
  have hyb : (b = true → y = v) ∧ (b = false → y = 0) ∧ b = decide (v < pM) := by
    unfold readS at hS
    rw [← hv] at hS
    by_cases h : v < pM
    · rw [if_pos h] at hS
      injection hS with h1 h2
      exact ⟨fun _ => h1.symm, fun e => (by rw [← h2] at e; cases e), by rw [← h2]; simp [h]⟩
    · rw [if_neg h] at hS
      injection hS with h1 h2
      exact ⟨fun e => (by rw [← h2] at e; cases e), fun _ => h1.symm, by rw [← h2]; simp [h]⟩
  have ly : y < 115792089237316195423570985008687907853269984665640564039457584007913129639936 := by
    cases hb : b with
    | true => rw [hyb.1 hb]; exact lv
    | false => rw [hyb.2.1 hb]; omega
  have cP : ∀ w, Calls Try.prog 20 #[] w fun e w' => e = .returned (.agg #[.int .u64 13822214165235122497, .int .u64 13451932020343611451, .int .u64 18446744073709551614, .int .u64 18446744073709551615, .int .u64 4624529908474429119, .int .u64 4994812053365940164, .int .u64 1]) ∧ Below w.heap.size w w' := refN_any
  have cO := fun w => refOf_any w a ha
  have cN : ∀ w, Calls Try.prog 24 #[.agg #[.int .u64 13822214165235122497, .int .u64 13451932020343611451, .int .u64 18446744073709551614, .int .u64 18446744073709551615, .int .u64 4624529908474429119, .int .u64 4994812053365940164, .int .u64 1], fv a] w fun e w' => e = .returned (fv n) ∧ Below w.heap.size w w' := by
    intro w; rw [hn]; exact normR_any w a ha
  have cQ : ∀ w, Calls Try.prog 24 #[.agg #[.int .u64 13822214165235122497, .int .u64 13451932020343611451, .int .u64 18446744073709551614, .int .u64 18446744073709551615, .int .u64 4624529908474429119, .int .u64 4994812053365940164, .int .u64 1], fv v] w fun e w' => e = .returned (fv q) ∧ Below w.heap.size w w' := by
    intro w; rw [hq]; exact normR_any w v lv
  have cB : ∀ w, Calls Try.prog 38 #[fv a] w fun e w' => e = .returned (.agg (d.map bv).toArray) ∧ Below w.heap.size w w' := by
    intro w; rw [hd, hn]; exact bytes_any w a ha
  have cW : ∀ w, Calls Try.prog 39 #[fv n] w fun e w' => ∃ g cap, e = .returned (.slice (some ⟨g, 0, none⟩) 32 cap) ∧ OwnB w' (w.heap.size + 1) (.slice (some ⟨g, 0, none⟩) 32 cap) d ∧ g < w'.heap.size ∧ Below w.heap.size w w' := by
    intro w; rw [hd]; exact bytesR_any w n ln
  have cR : ∀ w, Calls Try.prog 42 #[.agg (l.map bv).toArray] w fun e w' => e = .returned (.tuple #[fv y, .bool b]) ∧ Below w.heap.size w w' := by
    intro w
    have h := read_any w l hl
    rw [hS] at h
    exact h
  have cE : ∀ w, Calls Try.prog 43 #[.agg (l.map bv).toArray] w fun e w' => e = .returned (fv q) ∧ Below w.heap.size w w' := by
    intro w; rw [hq, hv]; exact reduceB_any w l hl
  have cV : ∀ w, Calls Try.prog 41 #[.agg #[.int .u64 13822214165235122497, .int .u64 13451932020343611451, .int .u64 18446744073709551614, .int .u64 18446744073709551615, .int .u64 4624529908474429119, .int .u64 4994812053365940164, .int .u64 1], fv v] w fun e w' => e = .returned (.bool b) ∧ Below w.heap.size w w' := by
    intro w; rw [hyb.2.2]; exact rightR_any w v lv
  have cF := fun w => refSc_any w v lv
  have cG := fun w => refSc_any w q lq
  have e1 : b = true → ∀ W, (binOp .neq 36 (fv y) (fv v)).run Try.prog W = .ok (.bool false) W := fun h W => by rw [run_neq_fv W y v ly lv, hyb.1 h]; simp
  have e0 : b = false → ∀ W, (binOp .neq 36 (fv y) (fv 0)).run Try.prog W = .ok (.bool false) W := fun h W => by rw [run_neq_fv W y 0 ly (by omega), hyb.2.1 h]; simp
  have eq : ∀ W, (binOp .eql 36 (fv q) (fv q)).run Try.prog W = .ok (.bool true) W := fun W => by rw [run_eql_fv W q q lq lq]; simp
  have HV := Lib.hid hv
  have HL := Lib.hid hl
  have HD := Lib.hid ld
  have LI := Lib.hid (b32_info (l := l) hl)
  have LD := Lib.hid (b32_info (l := d) ld)
  obtain ⟨x0, x1, x2, x3, fa⟩ := words_fv a ha
  have FA := Lib.hid fa
  rw [fa]
  clear fa ha hl hn ln hd ld hv lv hq lq hS hyb ly
  go_enter Try.func8, Try.ntmps8
  go_wp2_with fail
  refine (cP _).mono ?_
  rintro e w1 ⟨rfl, g1⟩
  have F1a : Blk w1 (w.heap.size) 36 _ := Gr.blk g1 ((Blk.new w _ _).alloc _)
  have t1a := F1a.lt
  have F1b : Blk w1 (w.heap.size + 1) 53 _ := Gr.blk g1 (blk_new2 w _ _ _)
  have t1b := F1b.lt
  have hB1 := Below.gr (below_alloc2 w _ _) g1
  have z1 := hB1.size
  clear g1 cP
  go_wp2_with (first | ((with_reducible refine here_load (d := some 16) ?_); refine wpList_load_fv rfl _ _ rfl (w.heap.size) rfl (a) _ _ _ ((F1a).alloc _) (FA.out) Try.underlying36 rfl (by kernel_rfl) ?_))
  refine (cB _).mono ?_
  rintro e w5 ⟨rfl, g5⟩
  have F2a : Blk w5 (w.heap.size) 36 _ := Gr.blk g5 ((F1a).alloc _)
  have t2a := F2a.lt
  have F2b : Blk w5 (w.heap.size + 1) 53 _ := Gr.blk g5 ((F1b).alloc _)
  have t2b := F2b.lt
  have F2m : Blk w5 (w1.heap.size) 39 _ := Gr.blk g5 (Blk.new w1 _ _)
  have t2m := F2m.lt
  have hB2 := Below.gr ((hB1).alloc (by omega) _) g5
  have z2 := hB2.size
  clear g5 cB
  go_wp2_with (first | ((with_reducible refine here_store ?_); refine wpList_store_blk rfl _ _ _ rfl (w5.heap.size) ((d.map bv).toArray) rfl rfl _ _ (Blk.new w5 _ _) LD.out (by simp [HD.out]) (b32_one _) ?_; intro w6 hL3 hq3 hK3; have F3a := hK3 _ (by omega) _ _ ((F2a).alloc _); have F3b := hK3 _ (by omega) _ _ ((F2b).alloc _); have F3m := hK3 _ (by omega) _ _ ((F2m).alloc _); have hB3 := ((hB2).alloc (by omega) _).trans (hq3 _ (by omega))))
  have td := hL3.lt
  refine wp_region_G (fun _ => false) (by kernel_rfl) ?_
  try simp only [Act.put]
  refine wpAnyG_take 0 rfl (by kernel_rfl) (fun _ _ _ h => h) (YieldsG.load (by rfl) _ _ rfl (w1.heap.size) 0 rfl ([.int .u64 13822214165235122497, .int .u64 13451932020343611451, .int .u64 18446744073709551614, .int .u64 18446744073709551615, .int .u64 4624529908474429119, .int .u64 4994812053365940164, .int .u64 1]) _ (Blk.lt (F3m)) (Blk.range (F3m)) Try.underlying39 rfl (by kernel_rfl)) ?_
  try simp only [Act.put, List.setIfInBounds_toArray, List.set_cons_zero, List.set_cons_succ]
  refine wpAnyG_take 1 rfl (by kernel_rfl) (fun _ _ _ h => h) (YieldsG.loadF (by rfl) _ _ rfl (w.heap.size) rfl (a) _ _ (F3a) (FA.out) Try.underlying36 rfl (by kernel_rfl)) ?_
  try simp only [Act.put, List.setIfInBounds_toArray, List.set_cons_zero, List.set_cons_succ]
  refine wpAnyG_take 2 rfl (by kernel_rfl) (fun _ _ _ h => h) (YieldsG.call (v := fv a) (by rfl) 21 _ (fun w9 => by go_simp; try (first | with_reducible rfl | rfl)) (fun w9 h9 => cO w9)) ?_
  try simp only [Act.put, List.setIfInBounds_toArray, List.set_cons_zero, List.set_cons_succ]
  refine wpAnyG_take 3 rfl (by kernel_rfl) (fun _ _ _ h => h) (YieldsG.call (v := fv n) (by rfl) 24 _ (fun w9 => by go_simp; try (first | with_reducible rfl | rfl)) (fun w9 h9 => cN w9)) ?_
  try simp only [Act.put, List.setIfInBounds_toArray, List.set_cons_zero, List.set_cons_succ]
  refine wpAnyG_sole 4 rfl (by kernel_rfl) (by rfl) (fun wq hq K hK => ?_)
  go_simp
  refine (cW wq).mono ?_
  rintro e w7a ⟨gw, cw, rfl, hown0, lgw0, g7⟩
  refine hK _ _ (fun _ => g7) ?_
  clear hK K
  try simp only [Act.put, List.setIfInBounds_toArray, List.set_cons_zero, List.set_cons_succ]
  refine wpAnyG_takeA 5 rfl (by kernel_rfl) (fun _ _ _ h => h) (fun _ => YieldsG.pure (by rfl) (fun w9 _ => by go_simp; try with_reducible rfl)) ?_
  try simp only [Act.put, List.setIfInBounds_toArray, List.set_cons_zero, List.set_cons_succ]
  refine wpAnyG_done (by kernel_rfl) (fun w7 hd7 => ?_)
  have g7' : Gr w6 w7 := (hq.trans g7).trans hd7
  have hwc : ∀ j u, d[j]? = some u → w7.cell? ⟨gw, j, none⟩ = some (bv u) := fun j u hu => (Below.cell (p := ⟨gw, j, none⟩) hd7 lgw0).trans (hown0.cell j u hu)
  have lgw : gw < w7.heap.size := Nat.lt_of_lt_of_le lgw0 hd7.size
  have hcc := hown0.cap
  clear hown0 lgw0 hq g7 hd7 cO cN cW
  have F4a : Blk w7 (w.heap.size) 36 _ := Gr.blk g7' (F3a)
  have t4a := F4a.lt
  have F4b : Blk w7 (w.heap.size + 1) 53 _ := Gr.blk g7' (F3b)
  have t4b := F4b.lt
  have F4m : Blk w7 (w1.heap.size) 39 _ := Gr.blk g7' (F3m)
  have t4m := F4m.lt
  have F4d : Blk w7 (w5.heap.size) 53 _ := Gr.blk g7' (hL3)
  have t4d := F4d.lt
  have hB4 := Below.gr (hB3) g7'
  have z4 := hB4.size
  clear g7'
  have HW := Lib.hid hwc
  have c1 : 32 ≤ cw := by have := hcc.1; rw [HD.out] at this; exact this
  have c2 := hcc.2
  clear hwc hcc
  go_wp2
  go_loopw [25] (fun i wr => ∃ k : Nat, k ≤ 32 ∧ i = .int .i64 (k : Int) ∧ Gr w7 wr) (fun i _ => 32 - (intOf i).toNat)
  case atStart => exact ⟨0, by omega, rfl, Gr.refl _⟩
  case round =>
    obtain ⟨k, hk, rfl, hg⟩ := hrel
    by_cases hlt : k < 32
    · obtain ⟨u, hu⟩ : ∃ u, d[k]? = some u := ⟨d[k]'(by rw [HD.out]; exact hlt), List.getElem?_eq_getElem _⟩
      obtain ⟨m, hm⟩ : ∃ m, m = u.toNat := ⟨_, rfl⟩
      have r1 : wr.cell? ⟨w5.heap.size, k, none⟩ = some (.int .u8 (m : Int)) := (Below.cell (p := ⟨w5.heap.size, k, none⟩) hg t4d).trans ((F4d.cell k).trans (by simp [hu, hm, bv]))
      have r2 : wr.cell? ⟨gw, k, none⟩ = some (.int .u8 (m : Int)) := (Below.cell (p := ⟨gw, k, none⟩) hg lgw).trans ((HW.out k u hu).trans (by rw [hm]; rfl))
      have l1 : w5.heap.size < wr.heap.size := Nat.lt_of_lt_of_le t4d hg.size
      have l2 : gw < wr.heap.size := Nat.lt_of_lt_of_le lgw hg.size
      have k1 : (0 : Int) ≤ (k : Int) := by omega
      have k2 : (k : Int) < 32 := by omega
      clear hu hm
      go_wp2
      refine wp_region_G (fun _ => false) (by kernel_rfl) ?_
      try simp only [Act.put]
      refine wpAnyG_take 0 rfl (by kernel_rfl) (fun _ _ _ h => h) (YieldsG.pure (by rfl) (fun w9 _ => by go_simp; try with_reducible rfl)) ?_
      try simp only [Act.put, List.setIfInBounds_toArray, List.set_cons_zero, List.set_cons_succ]
      refine wpAnyG_take 1 rfl (by kernel_rfl) (fun _ _ _ h => h) (YieldsG.pure (by rfl) (fun w9 _ => by go_simp; try with_reducible rfl)) ?_
      try simp only [Act.put, List.setIfInBounds_toArray, List.set_cons_zero, List.set_cons_succ]
      refine wpAnyG_take 2 rfl (by kernel_rfl) (fun _ _ _ h => h) (YieldsG.pure (v := .int .u8 (m : Int)) (by rfl) (fun w9 h9 => by have hz := (Below.cell (p := ⟨w5.heap.size, k, none⟩) h9 l1).trans r1; go_simp; first | done | simp [hz])) ?_
      try simp only [Act.put, List.setIfInBounds_toArray, List.set_cons_zero, List.set_cons_succ]
      refine wpAnyG_take 3 rfl (by kernel_rfl) (fun _ _ _ h => h) (YieldsG.pure (by rfl) (fun w9 _ => by go_simp; try with_reducible rfl)) ?_
      try simp only [Act.put, List.setIfInBounds_toArray, List.set_cons_zero, List.set_cons_succ]
      refine wpAnyG_take 4 rfl (by kernel_rfl) (fun _ _ _ h => h) (YieldsG.pure (by rfl) (fun w9 _ => by go_simp; try with_reducible rfl)) ?_
      try simp only [Act.put, List.setIfInBounds_toArray, List.set_cons_zero, List.set_cons_succ]
      refine wpAnyG_take 5 rfl (by kernel_rfl) (fun _ _ _ h => h) (YieldsG.pure (by rfl) (fun w9 _ => by go_simp; try with_reducible rfl)) ?_
      try simp only [Act.put, List.setIfInBounds_toArray, List.set_cons_zero, List.set_cons_succ]
      refine wpAnyG_take 6 rfl (by kernel_rfl) (fun _ _ _ h => h) (YieldsG.pure (v := .int .u8 (m : Int)) (by rfl) (fun w9 h9 => by have hz := (Below.cell (p := ⟨gw, k, none⟩) h9 l2).trans r2; go_simp; first | done | simp [hz])) ?_
      try simp only [Act.put, List.setIfInBounds_toArray, List.set_cons_zero, List.set_cons_succ]
      refine wpAnyG_take 7 rfl (by kernel_rfl) (fun _ _ _ h => h) (YieldsG.pure (v := .bool false) (by rfl) (fun w9 h9 => by go_simp; first | done | simp)) ?_
      try simp only [Act.put, List.setIfInBounds_toArray, List.set_cons_zero, List.set_cons_succ]
      refine wpAnyG_done (by kernel_rfl) (fun u2 hu2 => ?_)
      have hg2 := hg.trans hu2
      go_wp2
      go_roundw
      case rel => exact ⟨k + 1, by omega, by congr 1, hg2⟩
      case measure => simp [intOf]; omega
    · obtain rfl : k = 32 := by omega
      have F5a : Blk wr (w.heap.size) 36 _ := Gr.blk hg (F4a)
      have t5a := F5a.lt
      have F5b : Blk wr (w.heap.size + 1) 53 _ := Gr.blk hg (F4b)
      have t5b := F5b.lt
      have F5m : Blk wr (w1.heap.size) 39 _ := Gr.blk hg (F4m)
      have t5m := F5m.lt
      have F5d : Blk wr (w5.heap.size) 53 _ := Gr.blk hg (F4d)
      have t5d := F5d.lt
      have hB5 := Below.gr (hB4) hg
      have z5 := hB5.size
      clear hg hlt hk HW lgw c1 c2 LD HD
      obtain ⟨w9', hw9⟩ : ∃ x : World, x = wr := ⟨wr, rfl⟩
      subst hw9
      go_wp2_with fail
      go_loopw [9, 37] (fun s i wr => ∃ k : Nat, k ≤ 32 ∧ i = .int .i64 (k : Int) ∧ Gr w9' wr ∧ OwnB wr w9'.heap.size s (l.take k)) (fun _ i _ => 32 - (intOf i).toNat)
      case atStart => exact ⟨0, by omega, rfl, Gr.refl _, OwnB.nil _ _⟩
      case round =>
        obtain ⟨k, hk, rfl, hg, hown⟩ := hrel
        by_cases hlt : k < 32
        · obtain ⟨u, hu⟩ : ∃ u, l[k]? = some u := ⟨l[k]'(by rw [HL.out]; exact hlt), List.getElem?_eq_getElem _⟩
          obtain ⟨m, hm⟩ : ∃ m, m = u.toNat := ⟨_, rfl⟩
          have Fb := Gr.blk hg (F5b)
          have r1 : wr.cell? ⟨w.heap.size + 1, k, none⟩ = some (.int .u8 (m : Int)) := (Fb.cell k).trans (by simp [hu, hm, bv])
          have k1 : (0 : Int) ≤ (k : Int) := by omega
          have k2 : (k : Int) < 32 := by omega
          have hsz := hg.size
          have hstep : l.take k ++ [u] = l.take (k + 1) := by rw [List.take_add_one, hu]; rfl
          have hbm : bv u = .int .u8 (m : Int) := by rw [hm]; rfl
          have HS := Lib.hid (And.intro hstep hbm)
          have hlen : (l.take k).length ≤ 32 := by rw [List.length_take, HL.out]; omega
          have HN := Lib.hid hlen
          clear hu hm Fb hstep hbm hlen
          go_wp2_with (at_builtin
                       refine wpList_append_bytes rfl (.tmp 40) (.tmp 44) rfl w9'.heap.size _ (l.take k) rfl (hown.alloc _) (some ⟨wr.heap.size, 0, none⟩) [u] 1 rfl (Src.of_blk (Blk.eq_ (Blk.new wr 5 _) (by rw [List.map_cons, HS.out.2]; rfl))) (by have := HN.out; simp only [List.length_singleton]; omega) (by simp <;> omega) ?_
                       intro v3 w3' hv3 hg3
                       have hb3 := below_own ((Below.mono hg (Nat.le_refl _)).alloc hsz _) (hown.alloc _) hg3 (Nat.le_refl _) (by simp <;> omega)
                       rw [HS.out.1] at hv3)
          go_roundw
          case rel => exact ⟨_, _, _, _, _, _, _, _, _, _, _, _, ⟨k + 1, by omega, rfl, hb3, hv3⟩, rfl⟩
          case measure => simp [intOf]; omega
        · obtain rfl : k = 32 := by omega
          rw [List.take_of_length_le (by rw [HL.out]; exact Nat.le_refl _)] at hown
          obtain ⟨gl, nl, cl, rfl, hnl, _, lgl⟩ := hown.form' (by rw [HL.out]; omega)
          have hn32 : nl = 32 := by rw [hnl.out, HL.out]
          subst hn32
          have hcc := hown.cap
          have c1 : 32 ≤ cl := by have := hcc.1; rw [HL.out] at this; exact this
          have cNum := fun (w' : World) (h : Below wr.heap.size wr w') => numberR_any w' gl cl l HL.out (Nat.lt_of_lt_of_le lgl h.size) (fun j u hu => (Below.cell (p := ⟨gl, j, none⟩) h lgl).trans (hown.cell j u hu)) c1 hcc.2
          rw [← HV.out] at cNum
          have F6a : Blk wr (w.heap.size) 36 _ := Gr.blk hg (F5a)
          have t6a := F6a.lt
          have F6b : Blk wr (w.heap.size + 1) 53 _ := Gr.blk hg (F5b)
          have t6b := F6b.lt
          have F6m : Blk wr (w1.heap.size) 39 _ := Gr.blk hg (F5m)
          have t6m := F6m.lt
          have F6d : Blk wr (w5.heap.size) 53 _ := Gr.blk hg (F5d)
          have t6d := F6d.lt
          have hB6 := Below.gr (hB5) hg
          have z6 := hB6.size
          clear hg hlt hk hown hcc c1
          go_wp2_with fail
          refine (cNum _ (Below.refl _ _)).mono ?_
          rintro e w10 ⟨rfl, g10⟩
          have F7a : Blk w10 (w.heap.size) 36 _ := Gr.blk g10 (F6a)
          have t7a := F7a.lt
          have F7b : Blk w10 (w.heap.size + 1) 53 _ := Gr.blk g10 (F6b)
          have t7b := F7b.lt
          have F7m : Blk w10 (w1.heap.size) 39 _ := Gr.blk g10 (F6m)
          have t7m := F7m.lt
          have F7d : Blk w10 (w5.heap.size) 53 _ := Gr.blk g10 (F6d)
          have t7d := F7d.lt
          have hB7 := Below.gr (hB6) g10
          have z7 := hB7.size
          clear g10 cNum
          go_wp2_with (first | ((with_reducible refine here_store ?_); refine wpList_store_blk rfl _ _ _ rfl (w10.heap.size) (fcs (v)) rfl rfl _ _ (Blk.new w10 _ _) (by kernel_rfl) (by rfl) (fcs_one _) ?_; intro w11 hL8 hq8 hK8; have F8a := hK8 _ (by omega) _ _ ((F7a).alloc _); have F8b := hK8 _ (by omega) _ _ ((F7b).alloc _); have F8m := hK8 _ (by omega) _ _ ((F7m).alloc _); have F8d := hK8 _ (by omega) _ _ ((F7d).alloc _); have hB8 := ((hB7).alloc (by omega) _).trans (hq8 _ (by omega))) | ((with_reducible refine here_load (d := some 49) ?_); refine wpList_load_blk rfl _ _ rfl w1.heap.size rfl _ _ _ (F8m) Try.underlying39 rfl (by kernel_rfl) ?_) | ((with_reducible refine here_load (d := some 50) ?_); refine wpList_load_fv rfl _ _ rfl (w10.heap.size) rfl (v) _ _ _ (hL8) (fv_fcs v) Try.underlying27 rfl (by kernel_rfl) ?_))
          refine (cV _).mono ?_
          rintro e w12 ⟨rfl, g12⟩
          have F9a : Blk w12 (w.heap.size) 36 _ := Gr.blk g12 (F8a)
          have t9a := F9a.lt
          have F9b : Blk w12 (w.heap.size + 1) 53 _ := Gr.blk g12 (F8b)
          have t9b := F9b.lt
          have F9m : Blk w12 (w1.heap.size) 39 _ := Gr.blk g12 (F8m)
          have t9m := F9m.lt
          have F9d : Blk w12 (w5.heap.size) 53 _ := Gr.blk g12 (F8d)
          have t9d := F9d.lt
          have F9v : Blk w12 (w10.heap.size) 27 _ := Gr.blk g12 (hL8)
          have t9v := F9v.lt
          have hB9 := Below.gr (hB8) g12
          have z9 := hB9.size
          clear g12 cV
          go_wp2_with (first | ((with_reducible refine here_load (d := some 53) ?_); refine wpList_load_blk rfl _ _ rfl (w.heap.size + 1) rfl _ _ _ (F9b) Try.underlying53 rfl LI.out ?_))
          refine (cR _).mono ?_
          rintro e w8 ⟨rfl, g8⟩
          have F10a : Blk w8 (w.heap.size) 36 _ := Gr.blk g8 (F9a)
          have t10a := F10a.lt
          have F10b : Blk w8 (w.heap.size + 1) 53 _ := Gr.blk g8 (F9b)
          have t10b := F10b.lt
          have F10m : Blk w8 (w1.heap.size) 39 _ := Gr.blk g8 (F9m)
          have t10m := F10m.lt
          have F10d : Blk w8 (w5.heap.size) 53 _ := Gr.blk g8 (F9d)
          have t10d := F10d.lt
          have F10v : Blk w8 (w10.heap.size) 27 _ := Gr.blk g8 (F9v)
          have t10v := F10v.lt
          have hB10 := Below.gr (hB9) g8
          have z10 := hB10.size
          clear g8 cR
          go_wp2_with (first | ((with_reducible refine here_store ?_); refine wpList_store_blk rfl _ _ _ rfl (w8.heap.size) (fcs (y)) rfl rfl _ _ (Blk.new w8 _ _) (by kernel_rfl) (by rfl) (fcs_one _) ?_; intro w13 hL11 hq11 hK11; have F11a := hK11 _ (by omega) _ _ ((F10a).alloc _); have F11b := hK11 _ (by omega) _ _ ((F10b).alloc _); have F11m := hK11 _ (by omega) _ _ ((F10m).alloc _); have F11d := hK11 _ (by omega) _ _ ((F10d).alloc _); have F11v := hK11 _ (by omega) _ _ ((F10v).alloc _); have hB11 := ((hB10).alloc (by omega) _).trans (hq11 _ (by omega))))
          cases b
          · have ee := e0 rfl
            clear e0 e1
            refine wp_region_G (fun _ => false) (by kernel_rfl) ?_
            try simp only [Act.put]
            refine wpAnyG_take 0 rfl (by kernel_rfl) (fun _ _ _ h => h) (YieldsG.pure (by rfl) (fun w9 _ => by go_simp; try with_reducible rfl)) ?_
            try simp only [Act.put, List.setIfInBounds_toArray, List.set_cons_zero, List.set_cons_succ]
            refine wpAnyG_take 1 rfl (by kernel_rfl) (fun _ _ _ h => h) (YieldsG.pure (by rfl) (fun w9 _ => by go_simp; try with_reducible rfl)) ?_
            try simp only [Act.put, List.setIfInBounds_toArray, List.set_cons_zero, List.set_cons_succ]
            refine wpAnyG_take 2 rfl (by kernel_rfl) (fun _ _ _ h => h) (YieldsG.pure (v := .bool false) (by rfl) (fun w9 h9 => by go_simp; first | done | simp)) ?_
            try simp only [Act.put, List.setIfInBounds_toArray, List.set_cons_zero, List.set_cons_succ]
            refine wpAnyG_take 3 rfl (by kernel_rfl) (fun _ _ _ h => h) (YieldsG.pure (by rfl) (fun w9 _ => by go_simp; try with_reducible rfl)) ?_
            try simp only [Act.put, List.setIfInBounds_toArray, List.set_cons_zero, List.set_cons_succ]
            refine wpAnyG_take 4 rfl (by kernel_rfl) (fun _ _ _ h => h) (YieldsG.pure (by rfl) (fun w9 _ => by go_simp; try with_reducible rfl)) ?_
            try simp only [Act.put, List.setIfInBounds_toArray, List.set_cons_zero, List.set_cons_succ]
            refine wpAnyG_take 5 rfl (by kernel_rfl) (fun _ _ _ h => h) (YieldsG.pure (by rfl) (fun w9 _ => by go_simp; try with_reducible rfl)) ?_
            try simp only [Act.put, List.setIfInBounds_toArray, List.set_cons_zero, List.set_cons_succ]
            refine wpAnyG_take 6 rfl (by kernel_rfl) (fun _ _ _ h => h) (YieldsG.skip (by rfl)) ?_
            try simp only [Act.put, List.setIfInBounds_toArray, List.set_cons_zero, List.set_cons_succ]
            refine wpAnyG_take 7 rfl (by kernel_rfl) (fun _ _ _ h => h) (YieldsG.skip (by rfl)) ?_
            try simp only [Act.put, List.setIfInBounds_toArray, List.set_cons_zero, List.set_cons_succ]
            refine wpAnyG_take 8 rfl (by kernel_rfl) (fun _ _ _ h => h) (YieldsG.skip (by rfl)) ?_
            try simp only [Act.put, List.setIfInBounds_toArray, List.set_cons_zero, List.set_cons_succ]
            refine wpAnyG_take 9 rfl (by kernel_rfl) (fun _ _ _ h => h) (YieldsG.skip (by rfl)) ?_
            try simp only [Act.put, List.setIfInBounds_toArray, List.set_cons_zero, List.set_cons_succ]
            refine wpAnyG_take 10 rfl (by kernel_rfl) (fun _ _ _ h => h) (YieldsG.pure (by rfl) (fun w9 _ => by go_simp; try with_reducible rfl)) ?_
            try simp only [Act.put, List.setIfInBounds_toArray, List.set_cons_zero, List.set_cons_succ]
            refine wpAnyG_take 11 rfl (by kernel_rfl) (fun _ _ _ h => h) (YieldsG.pure (by rfl) (fun w9 _ => by go_simp; try with_reducible rfl)) ?_
            try simp only [Act.put, List.setIfInBounds_toArray, List.set_cons_zero, List.set_cons_succ]
            refine wpAnyG_take 12 rfl (by kernel_rfl) (fun _ _ _ h => h) (YieldsG.pure (by rfl) (fun w9 _ => by go_simp; try with_reducible rfl)) ?_
            try simp only [Act.put, List.setIfInBounds_toArray, List.set_cons_zero, List.set_cons_succ]
            refine wpAnyG_take 13 rfl (by kernel_rfl) (fun _ _ _ h => h) (YieldsG.pure (by rfl) (fun w9 _ => by go_simp; try with_reducible rfl)) ?_
            try simp only [Act.put, List.setIfInBounds_toArray, List.set_cons_zero, List.set_cons_succ]
            refine wpAnyG_take 14 rfl (by kernel_rfl) (fun _ _ _ h => h) (YieldsG.pure (by rfl) (fun w9 _ => by go_simp; try with_reducible rfl)) ?_
            try simp only [Act.put, List.setIfInBounds_toArray, List.set_cons_zero, List.set_cons_succ]
            refine wpAnyG_take 15 rfl (by kernel_rfl) (fun _ _ _ h => h) (YieldsG.pure (by rfl) (fun w9 _ => by go_simp; try with_reducible rfl)) ?_
            try simp only [Act.put, List.setIfInBounds_toArray, List.set_cons_zero, List.set_cons_succ]
            refine wpAnyG_take 16 rfl (by kernel_rfl) (fun _ _ _ h => h) (YieldsG.loadF (by rfl) _ _ rfl (w8.heap.size) rfl (y) _ _ (hL11) (fv_fcs _) Try.underlying36 rfl (by kernel_rfl)) ?_
            try simp only [Act.put, List.setIfInBounds_toArray, List.set_cons_zero, List.set_cons_succ]
            refine wpAnyG_take 17 rfl (by kernel_rfl) (fun _ _ _ h => h) (YieldsG.pure (v := fv 0) (by rfl) (fun w9 h9 => by go_simp; first | done | rfl)) ?_
            try simp only [Act.put, List.setIfInBounds_toArray, List.set_cons_zero, List.set_cons_succ]
            refine wpAnyG_take 18 rfl (by kernel_rfl) (fun _ _ _ h => h) (YieldsG.pure (v := .bool false) (by rfl) (fun w9 h9 => by go_simp; try rw [run_eqGuard_fv]; try simp only [Result.andThen_ok])) ?_
            try simp only [Act.put, List.setIfInBounds_toArray, List.set_cons_zero, List.set_cons_succ]
            refine wpAnyG_take 19 rfl (by kernel_rfl) (fun _ _ _ h => h) (YieldsG.pure (by rfl) (fun w9 _ => by go_simp; try with_reducible rfl)) ?_
            try simp only [Act.put, List.setIfInBounds_toArray, List.set_cons_zero, List.set_cons_succ]
            refine wpAnyG_take 20 rfl (by kernel_rfl) (fun _ _ _ h => h) (YieldsG.pure (by rfl) (fun w9 _ => by go_simp; try with_reducible rfl)) ?_
            try simp only [Act.put, List.setIfInBounds_toArray, List.set_cons_zero, List.set_cons_succ]
            refine wpAnyG_done (by kernel_rfl) (fun u hu => ?_)
            have hbu := Below.gr (hB11) hu
            have Eb := Gr.blk hu (F11b)
            have Em := Gr.blk hu (F11m)
            have Ev := Gr.blk hu (F11v)
            clear ee
            go_wp2
            refine wp_region_G (fun _ => false) (by kernel_rfl) ?_
            try simp only [Act.put]
            refine wpAnyG_take 0 rfl (by kernel_rfl) (fun _ _ _ h => h) (YieldsG.load (by rfl) _ _ rfl (w.heap.size + 1) 0 rfl (l.map bv) _ Eb.lt Eb.range Try.underlying53 rfl LI.out) ?_
            try simp only [Act.put, List.setIfInBounds_toArray, List.set_cons_zero, List.set_cons_succ]
            refine wpAnyG_take 1 rfl (by kernel_rfl) (fun _ _ _ h => h) (YieldsG.call (v := fv q) (by rfl) 43 _ (fun w9 => by go_simp; try (first | with_reducible rfl | rfl)) (fun w9 h9 => cE w9)) ?_
            try simp only [Act.put, List.setIfInBounds_toArray, List.set_cons_zero, List.set_cons_succ]
            refine wpAnyG_take 2 rfl (by kernel_rfl) (fun _ _ _ h => h) (YieldsG.load (by rfl) _ _ rfl (w1.heap.size) 0 rfl ([.int .u64 13822214165235122497, .int .u64 13451932020343611451, .int .u64 18446744073709551614, .int .u64 18446744073709551615, .int .u64 4624529908474429119, .int .u64 4994812053365940164, .int .u64 1]) _ (Blk.lt (Em)) (Blk.range (Em)) Try.underlying39 rfl (by kernel_rfl)) ?_
            try simp only [Act.put, List.setIfInBounds_toArray, List.set_cons_zero, List.set_cons_succ]
            refine wpAnyG_take 3 rfl (by kernel_rfl) (fun _ _ _ h => h) (YieldsG.loadF (by rfl) _ _ rfl (w10.heap.size) rfl (v) _ _ (Ev) (fv_fcs _) Try.underlying27 rfl (by kernel_rfl)) ?_
            try simp only [Act.put, List.setIfInBounds_toArray, List.set_cons_zero, List.set_cons_succ]
            refine wpAnyG_take 4 rfl (by kernel_rfl) (fun _ _ _ h => h) (YieldsG.call (v := fv q) (by rfl) 24 _ (fun w9 => by go_simp; try (first | with_reducible rfl | rfl)) (fun w9 h9 => cQ w9)) ?_
            try simp only [Act.put, List.setIfInBounds_toArray, List.set_cons_zero, List.set_cons_succ]
            refine wpAnyG_take 5 rfl (by kernel_rfl) (fun _ _ _ h => h) (YieldsG.call (v := fv q) (by rfl) 23 _ (fun w9 => by go_simp; try (first | with_reducible rfl | rfl)) (fun w9 h9 => cG w9)) ?_
            try simp only [Act.put, List.setIfInBounds_toArray, List.set_cons_zero, List.set_cons_succ]
            refine wpAnyG_take 6 rfl (by kernel_rfl) (fun _ _ _ h => h) (YieldsG.pure (v := .bool true) (by rfl) (fun w9 h9 => by go_simp; try rw [run_eqGuard_fv]; try simp only [Result.andThen_ok])) ?_
            try simp only [Act.put, List.setIfInBounds_toArray, List.set_cons_zero, List.set_cons_succ]
            refine wpAnyG_take 7 rfl (by kernel_rfl) (fun _ _ _ h => h) (YieldsG.pure (by rfl) (fun w9 _ => by go_simp; try with_reducible rfl)) ?_
            try simp only [Act.put, List.setIfInBounds_toArray, List.set_cons_zero, List.set_cons_succ]
            refine wpAnyG_take 8 rfl (by kernel_rfl) (fun _ _ _ h => h) (YieldsG.call (v := .bool true) (by rfl) 31 _ (fun w9 => by go_simp; try (first | with_reducible rfl | rfl)) (fun w9 h9 => alive4_any w9)) ?_
            try simp only [Act.put, List.setIfInBounds_toArray, List.set_cons_zero, List.set_cons_succ]
            refine wpAnyG_take 9 rfl (by kernel_rfl) (fun _ _ _ h => h) (YieldsG.pure (by rfl) (fun w9 _ => by go_simp; try with_reducible rfl)) ?_
            try simp only [Act.put, List.setIfInBounds_toArray, List.set_cons_zero, List.set_cons_succ]
            refine wpAnyG_takeA 10 rfl (by kernel_rfl) (fun _ _ _ h => h) (fun _ => YieldsG.pure (by rfl) (fun w9 _ => by go_simp; try with_reducible rfl)) ?_
            try simp only [Act.put, List.setIfInBounds_toArray, List.set_cons_zero, List.set_cons_succ]
            refine wpAnyG_done (by kernel_rfl) (fun uz huz => ?_)
            go_wp2
            go_ret
            exact ⟨rfl, Below.gr hbu huz⟩
          · have ee := e1 rfl
            clear e0 e1
            refine wp_region_G (fun _ => false) (by kernel_rfl) ?_
            try simp only [Act.put]
            refine wpAnyG_take 0 rfl (by kernel_rfl) (fun _ _ _ h => h) (YieldsG.pure (by rfl) (fun w9 _ => by go_simp; try with_reducible rfl)) ?_
            try simp only [Act.put, List.setIfInBounds_toArray, List.set_cons_zero, List.set_cons_succ]
            refine wpAnyG_take 1 rfl (by kernel_rfl) (fun _ _ _ h => h) (YieldsG.pure (by rfl) (fun w9 _ => by go_simp; try with_reducible rfl)) ?_
            try simp only [Act.put, List.setIfInBounds_toArray, List.set_cons_zero, List.set_cons_succ]
            refine wpAnyG_take 2 rfl (by kernel_rfl) (fun _ _ _ h => h) (YieldsG.pure (v := .bool false) (by rfl) (fun w9 h9 => by go_simp; first | done | simp)) ?_
            try simp only [Act.put, List.setIfInBounds_toArray, List.set_cons_zero, List.set_cons_succ]
            refine wpAnyG_take 3 rfl (by kernel_rfl) (fun _ _ _ h => h) (YieldsG.pure (by rfl) (fun w9 _ => by go_simp; try with_reducible rfl)) ?_
            try simp only [Act.put, List.setIfInBounds_toArray, List.set_cons_zero, List.set_cons_succ]
            refine wpAnyG_take 4 rfl (by kernel_rfl) (fun _ _ _ h => h) (YieldsG.pure (by rfl) (fun w9 _ => by go_simp; try with_reducible rfl)) ?_
            try simp only [Act.put, List.setIfInBounds_toArray, List.set_cons_zero, List.set_cons_succ]
            refine wpAnyG_take 5 rfl (by kernel_rfl) (fun _ _ _ h => h) (YieldsG.pure (by rfl) (fun w9 _ => by go_simp; try with_reducible rfl)) ?_
            try simp only [Act.put, List.setIfInBounds_toArray, List.set_cons_zero, List.set_cons_succ]
            refine wpAnyG_take 6 rfl (by kernel_rfl) (fun _ _ _ h => h) (YieldsG.loadF (by rfl) _ _ rfl (w8.heap.size) rfl (y) _ _ (hL11) (fv_fcs _) Try.underlying36 rfl (by kernel_rfl)) ?_
            try simp only [Act.put, List.setIfInBounds_toArray, List.set_cons_zero, List.set_cons_succ]
            refine wpAnyG_take 7 rfl (by kernel_rfl) (fun _ _ _ h => h) (YieldsG.loadF (by rfl) _ _ rfl (w10.heap.size) rfl (v) _ _ (F11v) (fv_fcs _) Try.underlying27 rfl (by kernel_rfl)) ?_
            try simp only [Act.put, List.setIfInBounds_toArray, List.set_cons_zero, List.set_cons_succ]
            refine wpAnyG_take 8 rfl (by kernel_rfl) (fun _ _ _ h => h) (YieldsG.call (v := fv v) (by rfl) 23 _ (fun w9 => by go_simp; try (first | with_reducible rfl | rfl)) (fun w9 h9 => cF w9)) ?_
            try simp only [Act.put, List.setIfInBounds_toArray, List.set_cons_zero, List.set_cons_succ]
            refine wpAnyG_take 9 rfl (by kernel_rfl) (fun _ _ _ h => h) (YieldsG.pure (v := .bool false) (by rfl) (fun w9 h9 => by go_simp; try rw [run_eqGuard_fv]; try simp only [Result.andThen_ok])) ?_
            try simp only [Act.put, List.setIfInBounds_toArray, List.set_cons_zero, List.set_cons_succ]
            refine wpAnyG_take 10 rfl (by kernel_rfl) (fun _ _ _ h => h) (YieldsG.pure (by rfl) (fun w9 _ => by go_simp; try with_reducible rfl)) ?_
            try simp only [Act.put, List.setIfInBounds_toArray, List.set_cons_zero, List.set_cons_succ]
            refine wpAnyG_take 11 rfl (by kernel_rfl) (fun _ _ _ h => h) (YieldsG.pure (by rfl) (fun w9 _ => by go_simp; try with_reducible rfl)) ?_
            try simp only [Act.put, List.setIfInBounds_toArray, List.set_cons_zero, List.set_cons_succ]
            refine wpAnyG_take 12 rfl (by kernel_rfl) (fun _ _ _ h => h) (YieldsG.pure (by rfl) (fun w9 _ => by go_simp; try with_reducible rfl)) ?_
            try simp only [Act.put, List.setIfInBounds_toArray, List.set_cons_zero, List.set_cons_succ]
            refine wpAnyG_take 13 rfl (by kernel_rfl) (fun _ _ _ h => h) (YieldsG.pure (by rfl) (fun w9 _ => by go_simp; try with_reducible rfl)) ?_
            try simp only [Act.put, List.setIfInBounds_toArray, List.set_cons_zero, List.set_cons_succ]
            refine wpAnyG_take 14 rfl (by kernel_rfl) (fun _ _ _ h => h) (YieldsG.pure (by rfl) (fun w9 _ => by go_simp; try with_reducible rfl)) ?_
            try simp only [Act.put, List.setIfInBounds_toArray, List.set_cons_zero, List.set_cons_succ]
            refine wpAnyG_take 15 rfl (by kernel_rfl) (fun _ _ _ h => h) (YieldsG.pure (by rfl) (fun w9 _ => by go_simp; try with_reducible rfl)) ?_
            try simp only [Act.put, List.setIfInBounds_toArray, List.set_cons_zero, List.set_cons_succ]
            refine wpAnyG_take 16 rfl (by kernel_rfl) (fun _ _ _ h => h) (YieldsG.skip (by rfl)) ?_
            try simp only [Act.put, List.setIfInBounds_toArray, List.set_cons_zero, List.set_cons_succ]
            refine wpAnyG_take 17 rfl (by kernel_rfl) (fun _ _ _ h => h) (YieldsG.skip (by rfl)) ?_
            try simp only [Act.put, List.setIfInBounds_toArray, List.set_cons_zero, List.set_cons_succ]
            refine wpAnyG_take 18 rfl (by kernel_rfl) (fun _ _ _ h => h) (YieldsG.skip (by rfl)) ?_
            try simp only [Act.put, List.setIfInBounds_toArray, List.set_cons_zero, List.set_cons_succ]
            refine wpAnyG_take 19 rfl (by kernel_rfl) (fun _ _ _ h => h) (YieldsG.pure (by rfl) (fun w9 _ => by go_simp; try with_reducible rfl)) ?_
            try simp only [Act.put, List.setIfInBounds_toArray, List.set_cons_zero, List.set_cons_succ]
            refine wpAnyG_take 20 rfl (by kernel_rfl) (fun _ _ _ h => h) (YieldsG.pure (by rfl) (fun w9 _ => by go_simp; try with_reducible rfl)) ?_
            try simp only [Act.put, List.setIfInBounds_toArray, List.set_cons_zero, List.set_cons_succ]
            refine wpAnyG_done (by kernel_rfl) (fun u hu => ?_)
            have hbu := Below.gr (hB11) hu
            have Eb := Gr.blk hu (F11b)
            have Em := Gr.blk hu (F11m)
            have Ev := Gr.blk hu (F11v)
            clear ee
            go_wp2
            refine wp_region_G (fun _ => false) (by kernel_rfl) ?_
            try simp only [Act.put]
            refine wpAnyG_take 0 rfl (by kernel_rfl) (fun _ _ _ h => h) (YieldsG.load (by rfl) _ _ rfl (w.heap.size + 1) 0 rfl (l.map bv) _ Eb.lt Eb.range Try.underlying53 rfl LI.out) ?_
            try simp only [Act.put, List.setIfInBounds_toArray, List.set_cons_zero, List.set_cons_succ]
            refine wpAnyG_take 1 rfl (by kernel_rfl) (fun _ _ _ h => h) (YieldsG.call (v := fv q) (by rfl) 43 _ (fun w9 => by go_simp; try (first | with_reducible rfl | rfl)) (fun w9 h9 => cE w9)) ?_
            try simp only [Act.put, List.setIfInBounds_toArray, List.set_cons_zero, List.set_cons_succ]
            refine wpAnyG_take 2 rfl (by kernel_rfl) (fun _ _ _ h => h) (YieldsG.load (by rfl) _ _ rfl (w1.heap.size) 0 rfl ([.int .u64 13822214165235122497, .int .u64 13451932020343611451, .int .u64 18446744073709551614, .int .u64 18446744073709551615, .int .u64 4624529908474429119, .int .u64 4994812053365940164, .int .u64 1]) _ (Blk.lt (Em)) (Blk.range (Em)) Try.underlying39 rfl (by kernel_rfl)) ?_
            try simp only [Act.put, List.setIfInBounds_toArray, List.set_cons_zero, List.set_cons_succ]
            refine wpAnyG_take 3 rfl (by kernel_rfl) (fun _ _ _ h => h) (YieldsG.loadF (by rfl) _ _ rfl (w10.heap.size) rfl (v) _ _ (Ev) (fv_fcs _) Try.underlying27 rfl (by kernel_rfl)) ?_
            try simp only [Act.put, List.setIfInBounds_toArray, List.set_cons_zero, List.set_cons_succ]
            refine wpAnyG_take 4 rfl (by kernel_rfl) (fun _ _ _ h => h) (YieldsG.call (v := fv q) (by rfl) 24 _ (fun w9 => by go_simp; try (first | with_reducible rfl | rfl)) (fun w9 h9 => cQ w9)) ?_
            try simp only [Act.put, List.setIfInBounds_toArray, List.set_cons_zero, List.set_cons_succ]
            refine wpAnyG_take 5 rfl (by kernel_rfl) (fun _ _ _ h => h) (YieldsG.call (v := fv q) (by rfl) 23 _ (fun w9 => by go_simp; try (first | with_reducible rfl | rfl)) (fun w9 h9 => cG w9)) ?_
            try simp only [Act.put, List.setIfInBounds_toArray, List.set_cons_zero, List.set_cons_succ]
            refine wpAnyG_take 6 rfl (by kernel_rfl) (fun _ _ _ h => h) (YieldsG.pure (v := .bool true) (by rfl) (fun w9 h9 => by go_simp; try rw [run_eqGuard_fv]; try simp only [Result.andThen_ok])) ?_
            try simp only [Act.put, List.setIfInBounds_toArray, List.set_cons_zero, List.set_cons_succ]
            refine wpAnyG_take 7 rfl (by kernel_rfl) (fun _ _ _ h => h) (YieldsG.pure (by rfl) (fun w9 _ => by go_simp; try with_reducible rfl)) ?_
            try simp only [Act.put, List.setIfInBounds_toArray, List.set_cons_zero, List.set_cons_succ]
            refine wpAnyG_take 8 rfl (by kernel_rfl) (fun _ _ _ h => h) (YieldsG.call (v := .bool true) (by rfl) 31 _ (fun w9 => by go_simp; try (first | with_reducible rfl | rfl)) (fun w9 h9 => alive4_any w9)) ?_
            try simp only [Act.put, List.setIfInBounds_toArray, List.set_cons_zero, List.set_cons_succ]
            refine wpAnyG_take 9 rfl (by kernel_rfl) (fun _ _ _ h => h) (YieldsG.pure (by rfl) (fun w9 _ => by go_simp; try with_reducible rfl)) ?_
            try simp only [Act.put, List.setIfInBounds_toArray, List.set_cons_zero, List.set_cons_succ]
            refine wpAnyG_takeA 10 rfl (by kernel_rfl) (fun _ _ _ h => h) (fun _ => YieldsG.pure (by rfl) (fun w9 _ => by go_simp; try with_reducible rfl)) ?_
            try simp only [Act.put, List.setIfInBounds_toArray, List.set_cons_zero, List.set_cons_succ]
            refine wpAnyG_done (by kernel_rfl) (fun uz huz => ?_)
            go_wp2
            go_ret
            exact ⟨rfl, Below.gr hbu huz⟩
end Go.Proofs.Ytajjjdmjlloifaa.Sc
