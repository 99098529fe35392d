/-
  The law on Sum, walked.
-/
import Derived.Test.YtajjjdmjlloifaaScAlive
namespace Go.Proofs.Ytajjjdmjlloifaa.Sc
open Go.RowKit Go.Lib

theorem sumL_mod (ds : List Nat) : sumL ds = ds.sum % pM := by
  have h : ∀ (l : List Nat) (s : Nat), l.foldl addP s % pM = (s + l.sum) % pM := by
    intro l
    induction l with
    | nil => intro s; simp
    | cons x r ih =>
      intro s
      rw [List.foldl_cons, ih, List.sum_cons, addP, Nat.mod_add_mod, Nat.add_assoc]
  have h2 : sumL ds % pM = sumL ds := by
    rcases List.eq_nil_or_concat ds with rfl | ⟨l, x, rfl⟩
    · decide
    · rw [List.concat_eq_append, sumL_snoc, addP, Nat.mod_mod]
  rw [← h2, sumL, h, Nat.zero_add]
theorem sum_rev (ds : List Nat) : ds.reverse.sum = ds.sum := by
  induction ds with
  | nil => rfl
  | cons x r ih => rw [List.reverse_cons, List.sum_append, ih]; simp; omega
theorem sumL_rev (ds : List Nat) : sumL ds.reverse = sumL ds := by rw [sumL_mod, sumL_mod, sum_rev]
theorem OwnE.blks {e : TypeId} {size base : Nat} {w w' : World} {v : Value} {xs : List (List Value)} (h : OwnE e size w base v xs) (hk : ∀ k, base ≤ k → ∀ t cs, Blk w k t cs → Blk w' k t cs) : OwnE e size w' base v xs :=
  ⟨h.1, h.2.1, h.2.2.elim Or.inl (fun ⟨g, cap, cur, hv, hg, hh, r⟩ => Or.inr ⟨g, cap, cur, hv, hg, hk g hg _ _ hh, r⟩)⟩
theorem OwnN.one (w : World) (e : TypeId) (x base : Nat) (hb : base ≤ w.heap.size) : OwnE e 4 (w.alloc (.cells (nvals [x]).flatten.toArray e)) base (.slice (some ⟨w.heap.size, 0, none⟩) 1 1) (nvals [x]) :=
  ⟨elems_nvals _, by
    have h := World.ownsRow_lit (e := e) (size := 4) w (nvals [x]).flatten.toArray 1 hb (by unfold maxLen; omega) rfl
    exact h⟩

set_option maxHeartbeats 4000000 in
set_option maxRecDepth 100000 in
theorem law_sum (w : World) (A : Option Addr) (ds : List Nat) (n c : Nat) (hn : ds.length = n) (hs : NSrc w A ds) (hds : ∀ x ∈ ds, x < 115792089237316195423570985008687907853269984665640564039457584007913129639936) (hmax : n * 32 ≤ 140737488351232) : Calls Try.prog 7 #[.slice A n c] w fun e w' => e = .returned (.bool true) ∧ Below w.heap.size w w' := by
  obtain ⟨z, hz⟩ : ∃ z, z = 0 := ⟨_, rfl⟩
  have c0 : ∀ w, Calls Try.prog 36 #[.int .u64 0] w fun e w' => e = .returned (fv z) ∧ Below w.heap.size w w' := fun w => of_at w z 0 (by rw [hz]; rfl) (by omega)
  have HS := Lib.hid (And.intro hs (And.intro hds hn))
  have HM := Lib.hid hmax
  have HZ := Lib.hid hz
  have hm' : (n : Int) ≤ 9223372036854775807 := by omega
  clear hs hds hn hmax hz
  go_enter Try.func7, Try.ntmps7
  go_wp2_with fail
  refine (c0 _).mono ?_
  rintro e w1 ⟨rfl, k1⟩
  have hB1 : Below w.heap.size w w1 := k1
  have sz1 := k1.size
  clear k1 c0
  go_wp2_with (first | ((with_reducible refine here_store ?_); refine wpList_store_blk rfl _ _ _ rfl (w1.heap.size) (fcs (z)) rfl rfl _ _ (Blk.new w1 _ _) (by kernel_rfl) (by rfl) (fcs_one _) ?_; intro w2 hL2 hq2 hK2; have hB2 := (hB1.alloc (by omega) _).trans (hq2 _ (by omega))))
  go_loopw [4, 9] (fun tv i wr => ∃ (k s : Nat) (v0 : Value), k ≤ n ∧ v0 = tv ∧ i = .int .i64 (k : Int) ∧ Hid (s = sumL (ds.take k)) ∧ Below w.heap.size w wr ∧ Blk wr w1.heap.size 36 (fcs s) ∧ OwnN 36 wr (w1.heap.size + 1) v0 (ds.take k).reverse) (fun _ i _ => n - (intOf i).toNat)
  case atStart => exact ⟨0, z, _, Nat.zero_le _, rfl, rfl, Lib.hid HZ.out, hB2, hL2, OwnE.nil _ _ _ _⟩
  case round =>
    clear hL2 hB2
    obtain ⟨k, s, v0, hk, rfl, rfl, HV, hb, BS, hown⟩ := hrel
    have lS := BS.lt
    have ls : s < 115792089237316195423570985008687907853269984665640564039457584007913129639936 := by rw [HV.out]; exact sumL_lt _
    by_cases hlt : k < n
    · obtain ⟨x, hx⟩ : ∃ x, ds[k]? = some x := ⟨ds[k]'(by rw [HS.out.2.2]; exact hlt), List.getElem?_eq_getElem _⟩
      have lx : x < 115792089237316195423570985008687907853269984665640564039457584007913129639936 := HS.out.2.1 x (List.mem_of_getElem? hx)
      obtain ⟨b, o, rfl, hbl, hr⟩ := NSrc.at HS.out.1 k x hx
      obtain ⟨y, hy⟩ : ∃ y, y = addP s x := ⟨_, rfl⟩
      have cA : ∀ w, Calls Try.prog 25 #[fv s, fv x] w fun e w' => e = .returned (fv y) ∧ Below w.heap.size w w' := by
        intro w; rw [hy]; exact addF_any w s x ls lx
      have HY : Hid (y = sumL (ds.take (k + 1))) := Lib.hid (by rw [hy, take_snocN ds k x hx, sumL_snoc, ← HV.out])
      have HT : Hid ((ds.take (k + 1)).reverse = [x] ++ (ds.take k).reverse) := Lib.hid (by rw [take_snocN ds k x hx, List.reverse_append]; rfl)
      have hrw := rangeN hr (hb.mono (Nat.le_refl _)) hbl
      have hbw : b < wr.heap.size := Nat.lt_of_lt_of_le hbl hb.size
      obtain ⟨rv, hrv⟩ : ∃ rv, rv = (ds.take k).reverse := ⟨_, rfl⟩
      have hrl : rv.length = k := by rw [hrv, List.length_reverse, List.length_take, HS.out.2.2]; omega
      rw [← hrv] at hown HT
      obtain ⟨A', cp, rfl, hsrc, hcp, hcm⟩ := hown.any
      obtain ⟨m, hmr⟩ : ∃ m, m = rv.length := ⟨_, rfl⟩
      rw [← hmr] at hown ⊢
      have HO := Lib.hid hown
      have HR := Lib.hid (And.intro hrw hbl)
      have HMR : Hid (m = rv.length ∧ m = k ∧ k < n) := Lib.hid ⟨hmr, by rw [hmr, hrl], hlt⟩
      have k1 : (0 : Int) ≤ (k : Int) := by omega
      have k2 : (k : Int) < (n : Int) := by omega
      have hcp' : (m : Int) ≤ (cp : Int) := by omega
      have hcm' : (cp : Int) ≤ 9223372036854775807 := by omega
      clear hx lx ls hbl hr hy hrv hrl hsrc hown hcp hcm hmr hk
      go_wp2
      refine wp_region_G (fun j => j == 6) (by kernel_rfl) ?_
      try simp only [Act.put]
      refine wpAnyG_take 0 rfl (by kernel_rfl) (fun _ _ _ h => h) (YieldsG.loadF (by rfl) _ _ rfl (w1.heap.size) rfl (s) _ _ (BS) (fv_fcs _) Try.underlying36 rfl (by kernel_rfl)) ?_
      try simp only [Act.put, List.setIfInBounds_toArray, List.set_cons_zero, List.set_cons_succ]
      refine wpAnyG_take 1 rfl (by kernel_rfl) (fun _ _ _ h => h) (YieldsG.pure (by rfl) (fun w9 _ => by go_simp; try with_reducible rfl)) ?_
      try simp only [Act.put, List.setIfInBounds_toArray, List.set_cons_zero, List.set_cons_succ]
      refine wpAnyG_take 2 rfl (by kernel_rfl) (fun _ _ _ h => h) (YieldsG.pure (by rfl) (fun w9 _ => by go_simp; try with_reducible rfl)) ?_
      try simp only [Act.put, List.setIfInBounds_toArray, List.set_cons_zero, List.set_cons_succ]
      refine wpAnyG_take 3 rfl (by kernel_rfl) (fun _ _ _ h => h) (YieldsG.pure (by rfl) (fun w9 _ => by go_simp; try with_reducible rfl)) ?_
      try simp only [Act.put, List.setIfInBounds_toArray, List.set_cons_zero, List.set_cons_succ]
      refine wpAnyG_take 4 rfl (by kernel_rfl) (fun _ _ _ h => h) (YieldsG.loadM (by rfl) _ _ rfl b (o + k * 4) rfl x hbw HR.out.1 Try.underlying36 rfl (by kernel_rfl)) ?_
      try simp only [Act.put, List.setIfInBounds_toArray, List.set_cons_zero, List.set_cons_succ]
      refine wpAnyG_take 5 rfl (by kernel_rfl) (fun _ _ _ h => h) (YieldsG.call (v := fv y) (by rfl) 25 _ (fun w9 => by go_simp; try (first | with_reducible rfl | rfl)) (fun w9 h9 => cA w9)) ?_
      try simp only [Act.put, List.setIfInBounds_toArray, List.set_cons_zero, List.set_cons_succ]
      refine wpAnyG_storeK 6 rfl (by kernel_rfl) (by rfl) _ _ _ rfl (w1.heap.size) (fcs y) rfl rfl _ _ (BS) (by kernel_rfl) (by rfl) (fcs_one _) rfl (fun w6 h6 w7 hB7 hK7 hL7 => ?_)
      try simp only [Act.put]
      refine wpAnyG_done (by kernel_rfl) (fun w8 h8 => ?_)
      have CS := Gr.blk h8 hL7
      have hb8 : Below w.heap.size w w8 := Below.gr ((Below.gr hb h6).trans (hB7 _ (by omega))) h8
      have g8 : Below w1.heap.size wr w8 := (Below.mono h6 (by omega)).trans ((hB7 _ (by omega)).trans (Below.mono h8 (by have := hL7.lt; omega)))
      have sz8 : w1.heap.size < w8.heap.size := CS.lt
      have o8 : OwnN 36 w8 (w1.heap.size + 1) (.slice A' m cp) rv := OwnE.below (OwnE.blks (OwnE.below HO.out h6) (fun j hj t cs hbj => hK7 j (by omega) t cs hbj)) h8
      obtain ⟨A2, cp2, e2, hsrc8, _, _⟩ := OwnN.any o8
      injection e2 with e2a e2b e2c
      subst e2a
      have HSRC := Lib.hid hsrc8
      have r8 : w8.rangeAt b (o + k * 4) (fcs x).toList := fun j v hj => (g8.cell (p := ⟨b, o + k * 4 + j, none⟩) (by have := HR.out.2; show b < _; omega)).trans (HR.out.1 j v hj)
      have HR8 := Lib.hid r8
      clear h6 h8 hB7 hK7 hL7 hb BS o8 hsrc8 r8 e2b e2c g8 hrw cA HO
      go_wp2_with (first
        | ((with_reducible refine here_load (d := some 21) ?_); refine wpList_load_fvm rfl _ _ rfl b (o + k * 4) rfl x _ HR8.out Try.underlying36 rfl (by kernel_rfl) ?_)
        | ((with_reducible refine here_slice ?_); refine wpList_build_elems Try.underlying50 infoSc (by omega) rfl 1 _ rfl (nvals [x]) (elems_nvals _) rfl (by omega) (by decide) (by simp [nvals]; rfl) w8.heap.size rfl ?_)
        | (at_builtin
           refine wpList_append_elems Try.underlying50 infoSc rfl (by omega) rfl (.tmp 22) (.tmp 23) rfl (w1.heap.size + 1) _ (nvals [x]) rfl (OwnN.one w8 36 x (w1.heap.size + 1) (by omega)) A' (nvals rv) m cp (by rw [nvals_length]; exact HMR.out.1) rfl (ESrc.below HSRC.out (gr_alloc _ _)) (by rw [nvals_length, nvals_length, ← HMR.out.1]; have := HMR.out.2; have := HM.out; simp only [List.length_singleton]; omega) (by rw [nvals_length, nvals_length, ← HMR.out.1]; have := HMR.out.2; have := HM.out; simp only [List.length_singleton]; omega) (by simp; omega) ?_
           intro v3 w3' hv3 hg3 hx3
           have hb3 : Below (w1.heap.size + 1) w8 w3' := below_ownE ((Below.refl _ _).alloc (by omega) _) (OwnN.one w8 36 x (w1.heap.size + 1) (by omega)) hg3 (Nat.le_refl _) (by simp; omega)))
      have BS3 := Blk.below (B := w1.heap.size + 1) CS hb3 (by omega)
      have hv4 : OwnN 36 w3' (w1.heap.size + 1) v3 (ds.take (k + 1)).reverse := by
        unfold OwnN
        rw [HT.out, nvals_append]
        exact hv3
      have hbz := hb8.trans (hb3.mono (by omega))
      have HKN := HMR.out.2.2
      clear hv3 hg3 hx3 hb3 CS hb8
      go_roundw
      case rel => first | exact ⟨k + 1, y, v3, by omega, rfl, by simp, HY, hbz, BS3, hv4⟩ | exact ⟨_, _, _, _, _, _, _, _, _, _, _, _, _, ⟨k + 1, y, v3, by omega, rfl, rfl, HY, hbz, BS3, hv4⟩, rfl⟩
      case measure => simp [intOf]; omega
    · have p1 : ¬ (k : Int) < (n : Int) := by omega
      obtain rfl : k = n := by omega
      have htk : ds.take k = ds := List.take_of_length_le (by rw [HS.out.2.2]; omega)
      rw [htk] at hown HV
      obtain ⟨A', cp, rfl, hsrc, hcp, hcm⟩ := hown.any
      have hrl : ds.reverse.length = k := by rw [List.length_reverse, HS.out.2.2]
      rw [hrl]
      have cS1 : ∀ w9, Gr wr w9 → Calls Try.prog 37 #[.slice A k c] w9 fun e w' => e = .returned (fv s) ∧ Below w9.heap.size w9 w' := fun w9 h9 => by
        rw [HV.out]; exact sum_any w9 A ds k c HS.out.2.2 (ESrc.below HS.out.1 ((hb.trans (Below.mono h9 hb.size)).mono (Nat.le_refl _))) HS.out.2.1 (by omega)
      have cS2 : ∀ w9, Gr wr w9 → Calls Try.prog 37 #[.slice A' k cp] w9 fun e w' => e = .returned (fv s) ∧ Below w9.heap.size w9 w' := fun w9 h9 => by
        rw [HV.out, ← sumL_rev]; exact sum_any w9 A' ds.reverse k cp hrl (ESrc.below hsrc h9) (fun x hx => HS.out.2.1 x (List.mem_reverse.1 hx)) (by omega)
      have es : ∀ W, (binOp .eql 36 (fv s) (fv s)).run Try.prog W = .ok (.bool true) W := fun W => by rw [run_eql_fv W s s ls ls]; simp
      clear htk hown hsrc hcp hcm hrl hlt ls hk HV HS
      go_wp2
      refine wp_region_G (fun _ => false) (by kernel_rfl) ?_
      try simp only [Act.put]
      refine wpAnyG_take 0 rfl (by kernel_rfl) (fun _ _ _ h => h) (YieldsG.call (v := .bool true) (by rfl) 31 _ (fun w9 => by go_simp; try (first | with_reducible rfl | rfl)) (fun w9 h9 => alive4_any w9)) ?_
      try simp only [Act.put, List.setIfInBounds_toArray, List.set_cons_zero, List.set_cons_succ]
      refine wpAnyG_take 1 rfl (by kernel_rfl) (fun _ _ _ h => h) (YieldsG.pure (by rfl) (fun w9 _ => by go_simp; try with_reducible rfl)) ?_
      try simp only [Act.put, List.setIfInBounds_toArray, List.set_cons_zero, List.set_cons_succ]
      refine wpAnyG_take 2 rfl (by kernel_rfl) (fun _ _ _ h => h) (YieldsG.pure (by rfl) (fun w9 _ => by go_simp; try with_reducible rfl)) ?_
      try simp only [Act.put, List.setIfInBounds_toArray, List.set_cons_zero, List.set_cons_succ]
      refine wpAnyG_take 3 rfl (by kernel_rfl) (fun _ _ _ h => h) (YieldsG.call (v := fv s) (by rfl) 37 _ (fun w9 => by go_simp; try (first | with_reducible rfl | rfl)) (fun w9 h9 => cS1 w9 h9)) ?_
      try simp only [Act.put, List.setIfInBounds_toArray, List.set_cons_zero, List.set_cons_succ]
      refine wpAnyG_take 4 rfl (by kernel_rfl) (fun _ _ _ h => h) (YieldsG.loadF (by rfl) _ _ rfl (w1.heap.size) rfl (s) _ _ (BS) (fv_fcs _) Try.underlying36 rfl (by kernel_rfl)) ?_
      try simp only [Act.put, List.setIfInBounds_toArray, List.set_cons_zero, List.set_cons_succ]
      refine wpAnyG_take 5 rfl (by kernel_rfl) (fun _ _ _ h => h) (YieldsG.pure (v := .bool true) (by rfl) (fun w9 h9 => by go_simp; rw [run_eqGuard_fv]; simp only [Result.andThen_ok])) ?_
      try simp only [Act.put, List.setIfInBounds_toArray, List.set_cons_zero, List.set_cons_succ]
      refine wpAnyG_take 6 rfl (by kernel_rfl) (fun _ _ _ h => h) (YieldsG.pure (by rfl) (fun w9 _ => by go_simp; try with_reducible rfl)) ?_
      try simp only [Act.put, List.setIfInBounds_toArray, List.set_cons_zero, List.set_cons_succ]
      refine wpAnyG_take 7 rfl (by kernel_rfl) (fun _ _ _ h => h) (YieldsG.pure (by rfl) (fun w9 _ => by go_simp; try with_reducible rfl)) ?_
      try simp only [Act.put, List.setIfInBounds_toArray, List.set_cons_zero, List.set_cons_succ]
      refine wpAnyG_take 8 rfl (by kernel_rfl) (fun _ _ _ h => h) (YieldsG.pure (by rfl) (fun w9 _ => by go_simp; try with_reducible rfl)) ?_
      try simp only [Act.put, List.setIfInBounds_toArray, List.set_cons_zero, List.set_cons_succ]
      refine wpAnyG_take 9 rfl (by kernel_rfl) (fun _ _ _ h => h) (YieldsG.call (v := fv s) (by rfl) 37 _ (fun w9 => by go_simp; try (first | with_reducible rfl | rfl)) (fun w9 h9 => cS2 w9 h9)) ?_
      try simp only [Act.put, List.setIfInBounds_toArray, List.set_cons_zero, List.set_cons_succ]
      refine wpAnyG_take 10 rfl (by kernel_rfl) (fun _ _ _ h => h) (YieldsG.loadF (by rfl) _ _ rfl (w1.heap.size) rfl (s) _ _ (BS) (fv_fcs _) Try.underlying36 rfl (by kernel_rfl)) ?_
      try simp only [Act.put, List.setIfInBounds_toArray, List.set_cons_zero, List.set_cons_succ]
      refine wpAnyG_take 11 rfl (by kernel_rfl) (fun _ _ _ h => h) (YieldsG.pure (v := .bool true) (by rfl) (fun w9 h9 => by go_simp; rw [run_eqGuard_fv]; simp only [Result.andThen_ok])) ?_
      try simp only [Act.put, List.setIfInBounds_toArray, List.set_cons_zero, List.set_cons_succ]
      refine wpAnyG_take 12 rfl (by kernel_rfl) (fun _ _ _ h => h) (YieldsG.pure (by rfl) (fun w9 _ => by go_simp; try with_reducible rfl)) ?_
      try simp only [Act.put, List.setIfInBounds_toArray, List.set_cons_zero, List.set_cons_succ]
      refine wpAnyG_takeA 13 rfl (by kernel_rfl) (fun _ _ _ h => h) (fun _ => YieldsG.pure (by rfl) (fun w9 _ => by go_simp; try with_reducible rfl)) ?_
      try simp only [Act.put, List.setIfInBounds_toArray, List.set_cons_zero, List.set_cons_succ]
      refine wpAnyG_done (by kernel_rfl) (fun u hu => ?_)
      have hbu := Below.gr hb hu
      go_wp2
      go_ret
      exact ⟨rfl, hbu⟩
end Go.Proofs.Ytajjjdmjlloifaa.Sc
