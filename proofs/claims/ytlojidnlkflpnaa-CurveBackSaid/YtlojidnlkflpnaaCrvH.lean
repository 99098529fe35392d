/-
  curve.Decode.
-/
import Derived.Test.YtlojidnlkflpnaaCrvG
namespace Go.Proofs.Ytlojidnlkflpnaa.Cu
open Go.RowKit Go.Proofs.Ytlojidnlkflpnaa Go.Proofs.Ytlojidnlkflpnaa.Sy

set_option maxHeartbeats 4000000 in
set_option maxRecDepth 100000 in
theorem dec_len (w : World) (A : Option Addr) (n c : Nat) (hn : n ≠ 33) : Calls Try.prog 28 #[.slice A n c] w (Gets w (.tuple #[pv 0 0 true, .bool false])) := by
  refine Sy.enter (args := [.slice A n c]) Try.func28 rfl (Nat.le_of_ble_eq_true (by kernel_rfl)) ?_
  refine Sy.seq ?_
  refine Sy.region ?_
  refine Sy.make (by kernel_rfl) 26 (pcs 0 0 false) ptr (fun _ => by kernel_rfl) (fun g0 => ?_)
  refine Sy.step (by kernel_rfl) (.bool false) (Quiet.pure (fun _ => by kernel_rfl)) ?_
  refine Sy.nil ?_
  refine Sy.then_ ?_
  refine Sy.seq ?_
  refine Sy.seq ?_
  refine Sy.region ?_
  refine Sy.step (by kernel_rfl) (.slice A n c) (Quiet.pure (fun _ => by kernel_rfl)) ?_
  refine Sy.step (by kernel_rfl) (.int .i64 (n : Int)) (Quiet.pure (fun _ => by kernel_rfl)) ?_
  refine Sy.step (by kernel_rfl) (.bool true) (Quiet.pure (fun w => neq_len w _ _ _ _ n hn rfl rfl rfl)) ?_
  refine Sy.nil ?_
  refine Sy.then_ ?_
  refine Sy.cond_t (by kernel_rfl) (by kernel_rfl) ?_
  refine Sy.seq ?_
  refine Sy.region ?_
  refine Sy.step (by kernel_rfl) (pv 0 0 true) (Quiet.call 31 #[] (fun _ => by kernel_rfl) (zero_c)) ?_
  refine Sy.write (by kernel_rfl) 0 g0 26 (pcs 0 0 false) (pcs 0 0 true) (by kernel_rfl) (Writes.store 0 26 (pcs 0 0 true) _ _ rfl (by kernel_rfl) (by kernel_rfl) (by kernel_rfl) (Nat.le_of_ble_eq_true (by kernel_rfl)) (by kernel_rfl) (by kernel_rfl)) ?_
  refine Sy.step (by kernel_rfl) (.bool false) (Quiet.pure (fun _ => by kernel_rfl)) ?_
  refine Sy.nil ?_
  refine Sy.then_ ?_
  refine Sy.ret ?_
  refine Sy.then_ret ?_
  exact Sy.ret2 (v := pv 0 0 true) (u := .bool false) rfl (.inl (Res.cell (ty' := 26) g0 0 (pcs 0 0 true) _ (by kernel_rfl) (by kernel_rfl) Try.underlying26 rfl (by kernel_rfl) (by kernel_rfl))) (.inl (show _ = _ by kernel_rfl))
set_option maxHeartbeats 4000000 in
set_option maxRecDepth 100000 in
theorem dec_33 (w : World) (ga oa cb : Nat) (o0 o1 o2 o3 o4 o5 o6 o7 o8 o9 o10 o11 o12 o13 o14 o15 o16 o17 o18 o19 o20 o21 o22 o23 o24 o25 o26 o27 o28 o29 o30 o31 o32 : UInt8) (hs : SrcL w ga oa (o0 :: o1 :: o2 :: [o3, o4, o5, o6, o7, o8, o9, o10, o11, o12, o13, o14, o15, o16, o17, o18, o19, o20, o21, o22, o23, o24, o25, o26, o27, o28, o29, o30, o31, o32])) (hcap : 33 ≤ cb) : Calls Try.prog 28 #[.slice (some ⟨ga, oa, none⟩) 33 cb] w (Gets w (.tuple #[ptv (decP (o0 :: o1 :: o2 :: [o3, o4, o5, o6, o7, o8, o9, o10, o11, o12, o13, o14, o15, o16, o17, o18, o19, o20, o21, o22, o23, o24, o25, o26, o27, o28, o29, o30, o31, o32])), .bool (decOk (o0 :: o1 :: o2 :: [o3, o4, o5, o6, o7, o8, o9, o10, o11, o12, o13, o14, o15, o16, o17, o18, o19, o20, o21, o22, o23, o24, o25, o26, o27, o28, o29, o30, o31, o32]))])) := by
  have hl : List.length ((o1 :: o2 :: [o3, o4, o5, o6, o7, o8, o9, o10, o11, o12, o13, o14, o15, o16, o17, o18, o19, o20, o21, o22, o23, o24, o25, o26, o27, o28, o29, o30, o31, o32]) : List UInt8) = 32 := rfl
  obtain ⟨tl, htl⟩ : ∃ t : List UInt8, t = (o1 :: o2 :: [o3, o4, o5, o6, o7, o8, o9, o10, o11, o12, o13, o14, o15, o16, o17, o18, o19, o20, o21, o22, o23, o24, o25, o26, o27, o28, o29, o30, o31, o32]) := ⟨_, rfl⟩
  obtain ⟨px, py, pi, lpx, lpy, ep, dp, rp⟩ := ptv_raw (liftP tl) (liftP_on tl)
  obtain ⟨nx, ny, ni, lnx, lny, en, dn, rn⟩ := ptv_raw (Ec.neg (liftP tl)) (Ec.On.neg (liftP_on tl))
  obtain ⟨kb, hkb⟩ : ∃ k, k = liftB tl := ⟨_, rfl⟩
  have cL : ∀ w, Calls Try.prog 32 #[.agg ((o1 :: o2 :: [o3, o4, o5, o6, o7, o8, o9, o10, o11, o12, o13, o14, o15, o16, o17, o18, o19, o20, o21, o22, o23, o24, o25, o26, o27, o28, o29, o30, o31, o32]).map bv).toArray] w (Gets w (.tuple #[pv px py pi, .bool kb])) := fun w => by
    have h := lift_any w _ hl
    rw [← htl, ep, ← hkb] at h
    rw [← htl]
    exact h
  have cN : ∀ w, Calls Try.prog 15 #[pv px py pi] w (Gets w (pv nx ny ni)) := fun w => by
    have h := neg_any w px py pi lpx lpy
    rw [dp, en] at h
    exact h
  have cE : ∀ w, Calls Try.prog 26 #[pv px py pi] w (Gets w (.agg ((encS (liftP tl)).map bv).toArray)) := fun w => by
    have h := enc_any w px py pi lpx lpy
    rw [dp] at h
    exact h
  have cF : ∀ w, Calls Try.prog 26 #[pv nx ny ni] w (Gets w (.agg ((encS (Ec.neg (liftP tl))).map bv).toArray)) := fun w => by
    have h := enc_any w nx ny ni lnx lny
    rw [dn] at h
    exact h
  refine Sy.enter (args := [.slice (some ⟨ga, oa, none⟩) 33 cb]) Try.func28 rfl (Nat.le_of_ble_eq_true (by kernel_rfl)) ?_
  refine Sy.seq ?_
  refine Sy.region ?_
  refine Sy.make (by kernel_rfl) 26 (pcs 0 0 false) ptr (fun _ => by kernel_rfl) (fun g0 => ?_)
  refine Sy.step (by kernel_rfl) (.bool false) (Quiet.pure (fun _ => by kernel_rfl)) ?_
  refine Sy.nil ?_
  refine Sy.then_ ?_
  refine Sy.seq ?_
  refine Sy.seq ?_
  refine Sy.region ?_
  refine Sy.step (by kernel_rfl) (.slice (some ⟨ga, oa, none⟩) 33 cb) (Quiet.pure (fun _ => by kernel_rfl)) ?_
  refine Sy.step (by kernel_rfl) (.int .i64 33) (Quiet.pure (fun _ => by kernel_rfl)) ?_
  refine Sy.step (by kernel_rfl) (.bool false) (Quiet.pure (fun _ => by kernel_rfl)) ?_
  refine Sy.nil ?_
  refine Sy.then_ ?_
  refine Sy.cond_f (by kernel_rfl) (by kernel_rfl) ?_
  refine Sy.skip ?_
  refine Sy.then_ ?_
  refine Sy.seq ?_
  refine Sy.region ?_
  refine Sy.step (by kernel_rfl) (.slice (some ⟨ga, oa, none⟩) 33 cb) (Quiet.pure (fun _ => by kernel_rfl)) ?_
  refine Sy.step (by kernel_rfl) (.slice (some ⟨ga, oa + 1, none⟩) 32 (cb - 1)) (Quiet.pure (fun w => exec_from 44 _ _ ga (oa) 33 cb 1 rfl (by kernel_rfl) (by kernel_rfl) (by kernel_rfl) (fun _ => by kernel_rfl) (by decide) hcap w)) ?_
  refine Sy.step (by kernel_rfl) (.pointer (some ⟨ga, oa + 1, none⟩)) (Quiet.pure (fun w => exec_array 53 _ _ (some ⟨ga, oa + 1, none⟩) 32 32 (cb - 1) rfl (by kernel_rfl) Try.underlying53 (by decide) w)) ?_
  refine Sy.step (by kernel_rfl) (.agg ((o1 :: o2 :: [o3, o4, o5, o6, o7, o8, o9, o10, o11, o12, o13, o14, o15, o16, o17, o18, o19, o20, o21, o22, o23, o24, o25, o26, o27, o28, o29, o30, o31, o32]).map bv).toArray) (Quiet.there ga (oa + 1) 32 53 (bv o1 :: bv o2 :: [bv o3, bv o4, bv o5, bv o6, bv o7, bv o8, bv o9, bv o10, bv o11, bv o12, bv o13, bv o14, bv o15, bv o16, bv o17, bv o18, bv o19, bv o20, bv o21, bv o22, bv o23, bv o24, bv o25, bv o26, bv o27, bv o28, bv o29, bv o30, bv o31, bv o32]) _ _ rfl (by kernel_rfl) hs.1 (hs.2 1 _ (by kernel_rfl)) Try.underlying53 rfl (by kernel_rfl) rfl _ (by kernel_rfl)) ?_
  refine Sy.step (by kernel_rfl) (.tuple #[pv px py pi, .bool kb]) (Quiet.call 32 #[.agg ((o1 :: o2 :: [o3, o4, o5, o6, o7, o8, o9, o10, o11, o12, o13, o14, o15, o16, o17, o18, o19, o20, o21, o22, o23, o24, o25, o26, o27, o28, o29, o30, o31, o32]).map bv).toArray] (fun _ => by kernel_rfl) (cL)) ?_
  refine Sy.step (by kernel_rfl) (.tuple #[pv px py pi, .bool kb]) (Quiet.pure (fun _ => by kernel_rfl)) ?_
  refine Sy.step (by kernel_rfl) (pv px py pi) (Quiet.pure (fun _ => by kernel_rfl)) ?_
  refine Sy.step (by kernel_rfl) (.bool kb) (Quiet.pure (fun _ => by kernel_rfl)) ?_
  refine Sy.make (by kernel_rfl) 26 (pcs 0 0 false) ptr (fun _ => by kernel_rfl) (fun g1 => ?_)
  refine Sy.write (by kernel_rfl) 1 g1 26 (pcs 0 0 false) (pcs px py pi) (by kernel_rfl) (Writes.store 0 26 (pcs px py pi) _ _ rfl (by kernel_rfl) (by kernel_rfl) (by kernel_rfl) (Nat.le_of_ble_eq_true (by kernel_rfl)) (by kernel_rfl) (by kernel_rfl)) ?_
  refine Sy.step (by kernel_rfl) (.bool kb) (Quiet.pure (fun _ => by kernel_rfl)) ?_
  refine Sy.nil ?_
  refine Sy.then_ ?_
  refine Sy.seq ?_
  refine Sy.seq ?_
  refine Sy.region ?_
  refine Sy.step (by kernel_rfl) (.slice (some ⟨ga, oa, none⟩) 33 cb) (Quiet.pure (fun _ => by kernel_rfl)) ?_
  refine Sy.step (by kernel_rfl) (.pointer (some ⟨ga, oa, none⟩)) (Quiet.pure (fun w => exec_index 44 _ _ ga (oa) 33 (cb) 0 rfl (by kernel_rfl) (by kernel_rfl) (by kernel_rfl) (fun _ => by kernel_rfl) (by decide) w)) ?_
  refine Sy.step (by kernel_rfl) (bv o0) (Quiet.thereOne ga (oa + 0) 5 _ _ rfl (by kernel_rfl) hs.1 _ (src_one hs 0 _ (by kernel_rfl)) Try.underlying5 rfl) ?_
  obtain ⟨b1, hb1⟩ : ∃ z : Bool, z = decide (o0 = UInt8.ofNat 3) := ⟨_, rfl⟩
  refine Sy.step (by kernel_rfl) (.bool b1) (Quiet.pure (fun w => by rw [hb1]; exact eql_u8 w _ _ _ _ _ 3 (by decide) rfl rfl rfl)) ?_
  refine Sy.nil ?_
  refine Sy.then_ ?_
  cases b1
  · refine Sy.cond_f (by kernel_rfl) (by kernel_rfl) ?_
    refine Sy.skip ?_
    refine Sy.then_ ?_
    refine Sy.seq ?_
    refine Sy.seq ?_
    refine Sy.regionD (fun j => false) (by kernel_rfl) ?_
    refine Sy.stepD 0 rfl (by kernel_rfl) (fun _ _ _ _ h => h) (by kernel_rfl) (pv px py pi) (Quiet.load 1 g1 0 9 26 26 (pcs px py pi) _ _ rfl (by kernel_rfl) (by kernel_rfl) Try.underlying26 rfl (by kernel_rfl) _ (by kernel_rfl) (Nat.le_of_ble_eq_true (by kernel_rfl))) ?_
    refine Sy.stepD 1 rfl (by kernel_rfl) (fun _ _ _ _ h => h) (by kernel_rfl) (.agg ((encS (liftP tl)).map bv).toArray) (Quiet.call 26 #[pv px py pi] (fun _ => by kernel_rfl) (cE)) ?_
    refine Sy.stepD 2 rfl (by kernel_rfl) (fun _ _ _ _ h => h) (by kernel_rfl) (.slice (some ⟨ga, oa, none⟩) 33 cb) (Quiet.pure (fun _ => by kernel_rfl)) ?_
    refine Sy.stepD 3 rfl (by kernel_rfl) (fun _ _ _ _ h => h) (by kernel_rfl) (.pointer (some ⟨ga, oa, none⟩)) (Quiet.pure (fun w => exec_array 45 _ _ (some ⟨ga, oa, none⟩) 33 33 (cb) rfl (by kernel_rfl) Try.underlying45 (by decide) w)) ?_
    refine Sy.stepD 4 rfl (by kernel_rfl) (fun _ _ _ _ h => h) (by kernel_rfl) (.agg ((o0 :: o1 :: o2 :: [o3, o4, o5, o6, o7, o8, o9, o10, o11, o12, o13, o14, o15, o16, o17, o18, o19, o20, o21, o22, o23, o24, o25, o26, o27, o28, o29, o30, o31, o32]).map bv).toArray) (Quiet.there ga (oa) 33 45 (bv o0 :: bv o1 :: bv o2 :: [bv o3, bv o4, bv o5, bv o6, bv o7, bv o8, bv o9, bv o10, bv o11, bv o12, bv o13, bv o14, bv o15, bv o16, bv o17, bv o18, bv o19, bv o20, bv o21, bv o22, bv o23, bv o24, bv o25, bv o26, bv o27, bv o28, bv o29, bv o30, bv o31, bv o32]) _ _ rfl (by kernel_rfl) hs.1 (hs.2 0 _ (by kernel_rfl)) Try.underlying45 rfl (by kernel_rfl) rfl _ (by kernel_rfl)) ?_
    obtain ⟨b2, hb2⟩ : ∃ z : Bool, z = decide ((encS (liftP tl)) ≠ (o0 :: o1 :: o2 :: [o3, o4, o5, o6, o7, o8, o9, o10, o11, o12, o13, o14, o15, o16, o17, o18, o19, o20, o21, o22, o23, o24, o25, o26, o27, o28, o29, o30, o31, o32])) := ⟨_, rfl⟩
    refine Sy.stepD 5 rfl (by kernel_rfl) (fun _ _ _ _ h => h) (by kernel_rfl) (.bool b2) (Quiet.pure (fun w => by rw [hb2]; exact neq_33 w _ _ _ _ (encS (liftP tl)) (o0 :: o1 :: o2 :: [o3, o4, o5, o6, o7, o8, o9, o10, o11, o12, o13, o14, o15, o16, o17, o18, o19, o20, o21, o22, o23, o24, o25, o26, o27, o28, o29, o30, o31, o32]) (encS_length _) rfl rfl rfl rfl)) ?_
    refine Sy.doneD (by kernel_rfl) ?_
    refine Sy.then_ ?_
    cases b2
    · refine Sy.cond_f (by kernel_rfl) (by kernel_rfl) ?_
      refine Sy.skip ?_
      refine Sy.then_ ?_
      refine Sy.seq ?_
      refine Sy.region ?_
      refine Sy.step (by kernel_rfl) (pv px py pi) (Quiet.load 1 g1 0 9 26 26 (pcs px py pi) _ _ rfl (by kernel_rfl) (by kernel_rfl) Try.underlying26 rfl (by kernel_rfl) _ (by kernel_rfl) (Nat.le_of_ble_eq_true (by kernel_rfl))) ?_
      refine Sy.write (by kernel_rfl) 0 g0 26 (pcs 0 0 false) (pcs px py pi) (by kernel_rfl) (Writes.store 0 26 (pcs px py pi) _ _ rfl (by kernel_rfl) (by kernel_rfl) (by kernel_rfl) (Nat.le_of_ble_eq_true (by kernel_rfl)) (by kernel_rfl) (by kernel_rfl)) ?_
      refine Sy.step (by kernel_rfl) (.bool true) (Quiet.pure (fun _ => by kernel_rfl)) ?_
      refine Sy.nil ?_
      refine Sy.then_ ?_
      refine Sy.ret ?_
      rw [show (.tuple #[ptv (decP (o0 :: o1 :: o2 :: [o3, o4, o5, o6, o7, o8, o9, o10, o11, o12, o13, o14, o15, o16, o17, o18, o19, o20, o21, o22, o23, o24, o25, o26, o27, o28, o29, o30, o31, o32])), .bool (decOk (o0 :: o1 :: o2 :: [o3, o4, o5, o6, o7, o8, o9, o10, o11, o12, o13, o14, o15, o16, o17, o18, o19, o20, o21, o22, o23, o24, o25, o26, o27, o28, o29, o30, o31, o32]))] : Value) = .tuple #[pv px py pi, .bool true] from by
        have hc : candS (o0 :: o1 :: o2 :: [o3, o4, o5, o6, o7, o8, o9, o10, o11, o12, o13, o14, o15, o16, o17, o18, o19, o20, o21, o22, o23, o24, o25, o26, o27, o28, o29, o30, o31, o32]) = liftP tl := by
          rw [htl]; exact cand_ne _ _ (of_decide_eq_false hb1.symm)
        have hd : decOk (o0 :: o1 :: o2 :: [o3, o4, o5, o6, o7, o8, o9, o10, o11, o12, o13, o14, o15, o16, o17, o18, o19, o20, o21, o22, o23, o24, o25, o26, o27, o28, o29, o30, o31, o32]) = true := by unfold decOk; rw [hc]; exact decide_eq_true ⟨rfl, Decidable.of_not_not (of_decide_eq_false hb2.symm)⟩
        rw [hd, (decP_ok hd).1, hc, ep]]
      exact Sy.ret2 (v := pv px py pi) (u := .bool true) rfl (.inl (Res.cell (ty' := 26) g0 0 (pcs px py pi) _ (by kernel_rfl) (by kernel_rfl) Try.underlying26 rfl (by kernel_rfl) (by kernel_rfl))) (.inl (show _ = _ by kernel_rfl))
    · refine Sy.cond_t (by kernel_rfl) (by kernel_rfl) ?_
      refine Sy.seq ?_
      refine Sy.region ?_
      refine Sy.step (by kernel_rfl) (pv 0 0 true) (Quiet.call 31 #[] (fun _ => by kernel_rfl) (zero_c)) ?_
      refine Sy.write (by kernel_rfl) 0 g0 26 (pcs 0 0 false) (pcs 0 0 true) (by kernel_rfl) (Writes.store 0 26 (pcs 0 0 true) _ _ rfl (by kernel_rfl) (by kernel_rfl) (by kernel_rfl) (Nat.le_of_ble_eq_true (by kernel_rfl)) (by kernel_rfl) (by kernel_rfl)) ?_
      refine Sy.step (by kernel_rfl) (.bool false) (Quiet.pure (fun _ => by kernel_rfl)) ?_
      refine Sy.nil ?_
      refine Sy.then_ ?_
      refine Sy.ret ?_
      refine Sy.then_ret ?_
      rw [show (.tuple #[ptv (decP (o0 :: o1 :: o2 :: [o3, o4, o5, o6, o7, o8, o9, o10, o11, o12, o13, o14, o15, o16, o17, o18, o19, o20, o21, o22, o23, o24, o25, o26, o27, o28, o29, o30, o31, o32])), .bool (decOk (o0 :: o1 :: o2 :: [o3, o4, o5, o6, o7, o8, o9, o10, o11, o12, o13, o14, o15, o16, o17, o18, o19, o20, o21, o22, o23, o24, o25, o26, o27, o28, o29, o30, o31, o32]))] : Value) = .tuple #[pv 0 0 true, .bool false] from by
        have hc : candS (o0 :: o1 :: o2 :: [o3, o4, o5, o6, o7, o8, o9, o10, o11, o12, o13, o14, o15, o16, o17, o18, o19, o20, o21, o22, o23, o24, o25, o26, o27, o28, o29, o30, o31, o32]) = liftP tl := by
          rw [htl]; exact cand_ne _ _ (of_decide_eq_false hb1.symm)
        have hd : decOk (o0 :: o1 :: o2 :: [o3, o4, o5, o6, o7, o8, o9, o10, o11, o12, o13, o14, o15, o16, o17, o18, o19, o20, o21, o22, o23, o24, o25, o26, o27, o28, o29, o30, o31, o32]) = false := by unfold decOk; rw [hc]; exact decide_eq_false (fun k => of_decide_eq_true hb2.symm k.2)
        rw [hd, decP_no hd]; rfl]
      exact Sy.ret2 (v := pv 0 0 true) (u := .bool false) rfl (.inl (Res.cell (ty' := 26) g0 0 (pcs 0 0 true) _ (by kernel_rfl) (by kernel_rfl) Try.underlying26 rfl (by kernel_rfl) (by kernel_rfl))) (.inl (show _ = _ by kernel_rfl))
  · refine Sy.cond_t (by kernel_rfl) (by kernel_rfl) ?_
    refine Sy.region ?_
    refine Sy.step (by kernel_rfl) (pv px py pi) (Quiet.load 1 g1 0 9 26 26 (pcs px py pi) _ _ rfl (by kernel_rfl) (by kernel_rfl) Try.underlying26 rfl (by kernel_rfl) _ (by kernel_rfl) (Nat.le_of_ble_eq_true (by kernel_rfl))) ?_
    refine Sy.step (by kernel_rfl) (pv nx ny ni) (Quiet.call 15 #[pv px py pi] (fun _ => by kernel_rfl) (cN)) ?_
    refine Sy.write (by kernel_rfl) 1 g1 26 (pcs px py pi) (pcs nx ny ni) (by kernel_rfl) (Writes.store 0 26 (pcs nx ny ni) _ _ rfl (by kernel_rfl) (by kernel_rfl) (by kernel_rfl) (Nat.le_of_ble_eq_true (by kernel_rfl)) (by kernel_rfl) (by kernel_rfl)) ?_
    refine Sy.nil ?_
    refine Sy.then_ ?_
    refine Sy.seq ?_
    refine Sy.seq ?_
    refine Sy.regionD (fun j => false) (by kernel_rfl) ?_
    refine Sy.stepD 0 rfl (by kernel_rfl) (fun _ _ _ _ h => h) (by kernel_rfl) (pv nx ny ni) (Quiet.load 1 g1 0 9 26 26 (pcs nx ny ni) _ _ rfl (by kernel_rfl) (by kernel_rfl) Try.underlying26 rfl (by kernel_rfl) _ (by kernel_rfl) (Nat.le_of_ble_eq_true (by kernel_rfl))) ?_
    refine Sy.stepD 1 rfl (by kernel_rfl) (fun _ _ _ _ h => h) (by kernel_rfl) (.agg ((encS (Ec.neg (liftP tl))).map bv).toArray) (Quiet.call 26 #[pv nx ny ni] (fun _ => by kernel_rfl) (cF)) ?_
    refine Sy.stepD 2 rfl (by kernel_rfl) (fun _ _ _ _ h => h) (by kernel_rfl) (.slice (some ⟨ga, oa, none⟩) 33 cb) (Quiet.pure (fun _ => by kernel_rfl)) ?_
    refine Sy.stepD 3 rfl (by kernel_rfl) (fun _ _ _ _ h => h) (by kernel_rfl) (.pointer (some ⟨ga, oa, none⟩)) (Quiet.pure (fun w => exec_array 45 _ _ (some ⟨ga, oa, none⟩) 33 33 (cb) rfl (by kernel_rfl) Try.underlying45 (by decide) w)) ?_
    refine Sy.stepD 4 rfl (by kernel_rfl) (fun _ _ _ _ h => h) (by kernel_rfl) (.agg ((o0 :: o1 :: o2 :: [o3, o4, o5, o6, o7, o8, o9, o10, o11, o12, o13, o14, o15, o16, o17, o18, o19, o20, o21, o22, o23, o24, o25, o26, o27, o28, o29, o30, o31, o32]).map bv).toArray) (Quiet.there ga (oa) 33 45 (bv o0 :: bv o1 :: bv o2 :: [bv o3, bv o4, bv o5, bv o6, bv o7, bv o8, bv o9, bv o10, bv o11, bv o12, bv o13, bv o14, bv o15, bv o16, bv o17, bv o18, bv o19, bv o20, bv o21, bv o22, bv o23, bv o24, bv o25, bv o26, bv o27, bv o28, bv o29, bv o30, bv o31, bv o32]) _ _ rfl (by kernel_rfl) hs.1 (hs.2 0 _ (by kernel_rfl)) Try.underlying45 rfl (by kernel_rfl) rfl _ (by kernel_rfl)) ?_
    obtain ⟨b3, hb3⟩ : ∃ z : Bool, z = decide ((encS (Ec.neg (liftP tl))) ≠ (o0 :: o1 :: o2 :: [o3, o4, o5, o6, o7, o8, o9, o10, o11, o12, o13, o14, o15, o16, o17, o18, o19, o20, o21, o22, o23, o24, o25, o26, o27, o28, o29, o30, o31, o32])) := ⟨_, rfl⟩
    refine Sy.stepD 5 rfl (by kernel_rfl) (fun _ _ _ _ h => h) (by kernel_rfl) (.bool b3) (Quiet.pure (fun w => by rw [hb3]; exact neq_33 w _ _ _ _ (encS (Ec.neg (liftP tl))) (o0 :: o1 :: o2 :: [o3, o4, o5, o6, o7, o8, o9, o10, o11, o12, o13, o14, o15, o16, o17, o18, o19, o20, o21, o22, o23, o24, o25, o26, o27, o28, o29, o30, o31, o32]) (encS_length _) rfl rfl rfl rfl)) ?_
    refine Sy.doneD (by kernel_rfl) ?_
    refine Sy.then_ ?_
    cases b3
    · refine Sy.cond_f (by kernel_rfl) (by kernel_rfl) ?_
      refine Sy.skip ?_
      refine Sy.then_ ?_
      refine Sy.seq ?_
      refine Sy.region ?_
      refine Sy.step (by kernel_rfl) (pv nx ny ni) (Quiet.load 1 g1 0 9 26 26 (pcs nx ny ni) _ _ rfl (by kernel_rfl) (by kernel_rfl) Try.underlying26 rfl (by kernel_rfl) _ (by kernel_rfl) (Nat.le_of_ble_eq_true (by kernel_rfl))) ?_
      refine Sy.write (by kernel_rfl) 0 g0 26 (pcs 0 0 false) (pcs nx ny ni) (by kernel_rfl) (Writes.store 0 26 (pcs nx ny ni) _ _ rfl (by kernel_rfl) (by kernel_rfl) (by kernel_rfl) (Nat.le_of_ble_eq_true (by kernel_rfl)) (by kernel_rfl) (by kernel_rfl)) ?_
      refine Sy.step (by kernel_rfl) (.bool true) (Quiet.pure (fun _ => by kernel_rfl)) ?_
      refine Sy.nil ?_
      refine Sy.then_ ?_
      refine Sy.ret ?_
      rw [show (.tuple #[ptv (decP (o0 :: o1 :: o2 :: [o3, o4, o5, o6, o7, o8, o9, o10, o11, o12, o13, o14, o15, o16, o17, o18, o19, o20, o21, o22, o23, o24, o25, o26, o27, o28, o29, o30, o31, o32])), .bool (decOk (o0 :: o1 :: o2 :: [o3, o4, o5, o6, o7, o8, o9, o10, o11, o12, o13, o14, o15, o16, o17, o18, o19, o20, o21, o22, o23, o24, o25, o26, o27, o28, o29, o30, o31, o32]))] : Value) = .tuple #[pv nx ny ni, .bool true] from by
        have hc : candS (o0 :: o1 :: o2 :: [o3, o4, o5, o6, o7, o8, o9, o10, o11, o12, o13, o14, o15, o16, o17, o18, o19, o20, o21, o22, o23, o24, o25, o26, o27, o28, o29, o30, o31, o32]) = Ec.neg (liftP tl) := by
          rw [htl, show o0 = 3 from of_decide_eq_true hb1.symm]; exact cand_3 _
        have hd : decOk (o0 :: o1 :: o2 :: [o3, o4, o5, o6, o7, o8, o9, o10, o11, o12, o13, o14, o15, o16, o17, o18, o19, o20, o21, o22, o23, o24, o25, o26, o27, o28, o29, o30, o31, o32]) = true := by unfold decOk; rw [hc]; exact decide_eq_true ⟨rfl, Decidable.of_not_not (of_decide_eq_false hb3.symm)⟩
        rw [hd, (decP_ok hd).1, hc, en]]
      exact Sy.ret2 (v := pv nx ny ni) (u := .bool true) rfl (.inl (Res.cell (ty' := 26) g0 0 (pcs nx ny ni) _ (by kernel_rfl) (by kernel_rfl) Try.underlying26 rfl (by kernel_rfl) (by kernel_rfl))) (.inl (show _ = _ by kernel_rfl))
    · refine Sy.cond_t (by kernel_rfl) (by kernel_rfl) ?_
      refine Sy.seq ?_
      refine Sy.region ?_
      refine Sy.step (by kernel_rfl) (pv 0 0 true) (Quiet.call 31 #[] (fun _ => by kernel_rfl) (zero_c)) ?_
      refine Sy.write (by kernel_rfl) 0 g0 26 (pcs 0 0 false) (pcs 0 0 true) (by kernel_rfl) (Writes.store 0 26 (pcs 0 0 true) _ _ rfl (by kernel_rfl) (by kernel_rfl) (by kernel_rfl) (Nat.le_of_ble_eq_true (by kernel_rfl)) (by kernel_rfl) (by kernel_rfl)) ?_
      refine Sy.step (by kernel_rfl) (.bool false) (Quiet.pure (fun _ => by kernel_rfl)) ?_
      refine Sy.nil ?_
      refine Sy.then_ ?_
      refine Sy.ret ?_
      refine Sy.then_ret ?_
      rw [show (.tuple #[ptv (decP (o0 :: o1 :: o2 :: [o3, o4, o5, o6, o7, o8, o9, o10, o11, o12, o13, o14, o15, o16, o17, o18, o19, o20, o21, o22, o23, o24, o25, o26, o27, o28, o29, o30, o31, o32])), .bool (decOk (o0 :: o1 :: o2 :: [o3, o4, o5, o6, o7, o8, o9, o10, o11, o12, o13, o14, o15, o16, o17, o18, o19, o20, o21, o22, o23, o24, o25, o26, o27, o28, o29, o30, o31, o32]))] : Value) = .tuple #[pv 0 0 true, .bool false] from by
        have hc : candS (o0 :: o1 :: o2 :: [o3, o4, o5, o6, o7, o8, o9, o10, o11, o12, o13, o14, o15, o16, o17, o18, o19, o20, o21, o22, o23, o24, o25, o26, o27, o28, o29, o30, o31, o32]) = Ec.neg (liftP tl) := by
          rw [htl, show o0 = 3 from of_decide_eq_true hb1.symm]; exact cand_3 _
        have hd : decOk (o0 :: o1 :: o2 :: [o3, o4, o5, o6, o7, o8, o9, o10, o11, o12, o13, o14, o15, o16, o17, o18, o19, o20, o21, o22, o23, o24, o25, o26, o27, o28, o29, o30, o31, o32]) = false := by unfold decOk; rw [hc]; exact decide_eq_false (fun k => of_decide_eq_true hb3.symm k.2)
        rw [hd, decP_no hd]; rfl]
      exact Sy.ret2 (v := pv 0 0 true) (u := .bool false) rfl (.inl (Res.cell (ty' := 26) g0 0 (pcs 0 0 true) _ (by kernel_rfl) (by kernel_rfl) Try.underlying26 rfl (by kernel_rfl) (by kernel_rfl))) (.inl (show _ = _ by kernel_rfl))
/-- every Decode -/
theorem decode_any (w : World) (A : Option Addr) (b : List UInt8) (n c : Nat) (hn : b.length = n) (hs : Src w A b) (hc : n ≤ c) : Calls Try.prog 28 #[.slice A n c] w (Gets w (.tuple #[ptv (decP b), .bool (decOk b)])) := by
  by_cases h : n = 33
  · subst h
    obtain ⟨ga, oa, rfl, hl, hcell⟩ := hs (by intro e; rw [e] at hn; cases hn)
    obtain ⟨o0, o1, o2, o3, o4, o5, o6, o7, o8, o9, o10, o11, o12, o13, o14, o15, o16, o17, o18, o19, o20, o21, o22, o23, o24, o25, o26, o27, o28, o29, o30, o31, o32, rfl⟩ := list33 b hn
    exact dec_33 w ga oa c o0 o1 o2 o3 o4 o5 o6 o7 o8 o9 o10 o11 o12 o13 o14 o15 o16 o17 o18 o19 o20 o21 o22 o23 o24 o25 o26 o27 o28 o29 o30 o31 o32 (SrcL.of hl hcell) hc
  · have hd : decOk b = false := by unfold decOk; exact decide_eq_false (fun k => h (hn ▸ k.1))
    rw [hd, decP_no hd]
    exact dec_len w A n c h
end Go.Proofs.Ytlojidnlkflpnaa.Cu
