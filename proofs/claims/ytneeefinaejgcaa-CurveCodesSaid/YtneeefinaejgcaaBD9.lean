/-
  Texts of ours, put together: CrvZ.
-/
import Derived.Test.YtneeefinaejgcaaBD8
set_option linter.unusedVariables false
set_option linter.unusedSimpArgs false
section
namespace Go.Proofs.Ytneeefinaejgcaa.Cu
open Go.RowKit Go.Proofs.Ytneeefinaejgcaa Go.Proofs.Ytneeefinaejgcaa.Sy

def pwr (x y : Nat) (i : Bool) : List Value := fws x ++ (fws y ++ [Value.bool i])
section
variable {P : Program} {w0 : Base} {F : Slots} {L : Blocks} {o : Oper}
theorem Quiet.read {v : Value} (h : ∀ w, St w0 w L → (execOp (evF F) o).run P w = .ok (.value v) w) : Quiet P w0 F L o v := fun w hw => by
  unfold Gives; rw [h w hw]; exact ⟨rfl, Gr.refl _⟩
end
theorem str_of {w : World} {A : Option Addr} {m : List UInt8} {c : Nat} (h : Src w A m) (hm : m ≠ []) :
    (convert 41 9 (.slice A m.length c)).run Try.prog w = .ok (.string ⟨m.toArray⟩) w := by
  obtain ⟨b, o, rfl, _, hc⟩ := h hm
  refine run_convert_bytes_back w 41 9 5 _ c m Try.underlying41 Try.underlying5 Try.underlying9 (fun j hj => ?_)
  rw [addr_off]
  exact hc j _ (List.getElem?_eq_getElem hj)
theorem str_src {w0 : Base} {F : Slots} {L : Blocks} {o : Oper} (A : Option Addr) (m : List UInt8) (k c : Nat) (x : Operand) (ho : o.op = .convert 41 9 x) (hx : evF F x = .slice A k c) (hm : m.length = k) (hk : k ≠ 0) (hs : Src w0.world A m) : Quiet Try.prog w0 F L o (.string ⟨m.toArray⟩) := Quiet.read fun w hw => by
  have h := str_of (c := c) (hs.below hw.below) (by intro e; rw [e] at hm; exact hk hm.symm)
  rw [hm] at h
  unfold execOp
  simp only [ho, hx, Sem.run_bind, h, Result.andThen_ok, Sem.run_pure]
theorem str_own {w0 : Base} {F : Slots} {L : Blocks} {o : Oper} (i g : Nat) (t : TypeId) (m : List UInt8) (sp : List Value) (k c : Nat) (x : Operand) (ho : o.op = .convert 41 9 x) (hx : evF F x = .slice (some ⟨g, 0, none⟩) k c) (hL : L[i]? = some (g, t, (m.map bv ++ sp).toArray)) (hm : m.length = k) (hk : k ≠ 0) : Quiet Try.prog w0 F L o (.string ⟨m.toArray⟩) := Quiet.read fun w hw => by
  have hb := hw.get hL
  have hs : Src w (some ⟨g, 0, none⟩) m := fun _ => ⟨g, 0, rfl, hb.lt, fun j u hj => by
    rw [Nat.zero_add]
    refine (hb.cell j).trans ?_
    have hl := (List.getElem?_eq_some_iff.1 hj).1
    rw [List.getElem?_toArray, List.getElem?_append_left (by rw [List.length_map]; exact hl), List.getElem?_map, hj]
    rfl⟩
  have h := str_of (c := c) hs (by intro e; rw [e] at hm; exact hk hm.symm)
  rw [hm] at h
  unfold execOp
  simp only [ho, hx, Sem.run_bind, h, Result.andThen_ok, Sem.run_pure]
theorem eql_str (w : World) (F : Slots) (o : Oper) (x y : Operand) (a b : List UInt8) {yt : TypeId} (ho : o.op = .binOp .eql 9 x y yt) (hx : evF F x = .string ⟨a.toArray⟩) (hy : evF F y = .string ⟨b.toArray⟩) : (execOp (evF F) o).run Try.prog w = .ok (.value (.bool (decide (a = b)))) w := by
  have h1 : (eqGuard .eql 9 x y (.string ⟨a.toArray⟩) (.string ⟨b.toArray⟩)).run Try.prog w = .ok () w := by go_simp
  have h2 : (binOp .eql 9 (.string ⟨a.toArray⟩) (.string ⟨b.toArray⟩)).run Try.prog w = .ok (.bool (decide (a = b))) w := by
    by_cases e : a = b <;> simp [go_sem, ByteArray.toList_eq, e]
  unfold execOp
  simp only [ho, hx, hy, Sem.run_bind, h1, h2, Result.andThen_ok, Sem.run_pure]
theorem cand_or (b : UInt8) (t : List UInt8) : candS (b :: t) = Ec.neg (liftP t) ∨ candS (b :: t) = liftP t := by
  unfold candS
  split
  · exact .inl rfl
  · exact .inr rfl
set_option maxHeartbeats 4000000 in
set_option maxRecDepth 100000 in
theorem decR_len (w : World) (A : Option Addr) (n c : Nat) (hn : n ≠ 33) : Calls Try.prog 19 #[.slice A n c] w (Gets w (.tuple #[pv 0 0 true, .bool false])) := by
  refine Sy.enter (args := [.slice A n c]) Try.func19 rfl (Nat.le_of_ble_eq_true (by kernel_rfl)) ?_
  refine Sy.seq ?_
  refine Sy.region ?_
  refine Sy.make (by kernel_rfl) 27 (pcs 0 0 false) ptr (fun _ => by kernel_rfl) (fun g0 => ?_)
  refine Sy.step (by kernel_rfl) (.bool false) (Quiet.pure (fun _ => by kernel_rfl)) ?_
  refine Sy.nil ?_
  refine Sy.then_ ?_
  refine Sy.seq ?_
  refine Sy.seq ?_
  refine Sy.region ?_
  refine Sy.step (by kernel_rfl) (.slice A n c) (Quiet.pure (fun _ => by kernel_rfl)) ?_
  refine Sy.step (by kernel_rfl) (.int .i64 (n : Int)) (Quiet.pure (fun _ => by kernel_rfl)) ?_
  refine Sy.step (by kernel_rfl) (.bool true) (Quiet.pure (fun w => neq_len w _ _ _ _ n hn rfl rfl rfl)) ?_
  refine Sy.nil ?_
  refine Sy.then_ ?_
  refine Sy.cond_t (by kernel_rfl) (by kernel_rfl) ?_
  refine Sy.seq ?_
  refine Sy.region ?_
  refine Sy.step (by kernel_rfl) (pv 0 0 true) (Quiet.call 34 #[] (fun _ => by kernel_rfl) (zeroR_c)) ?_
  refine Sy.write (by kernel_rfl) 0 g0 27 (pcs 0 0 false) (pcs 0 0 true) (by kernel_rfl) (Writes.store 0 27 (pcs 0 0 true) _ _ rfl (by kernel_rfl) (by kernel_rfl) (by kernel_rfl) (Nat.le_of_ble_eq_true (by kernel_rfl)) (by kernel_rfl) (by kernel_rfl)) ?_
  refine Sy.step (by kernel_rfl) (.bool false) (Quiet.pure (fun _ => by kernel_rfl)) ?_
  refine Sy.nil ?_
  refine Sy.then_ ?_
  refine Sy.ret ?_
  refine Sy.then_ret ?_
  exact Sy.ret2 (v := pv 0 0 true) (u := .bool false) rfl (.inl (Res.cell (ty' := 27) g0 0 (pcs 0 0 true) _ (by kernel_rfl) (by kernel_rfl) Try.underlying27 rfl (by kernel_rfl) (by kernel_rfl))) (.inl (show _ = _ by kernel_rfl))
set_option maxHeartbeats 4000000 in
set_option maxRecDepth 100000 in
theorem decR_33 (w : World) (ga oa cb : Nat) (o0 o1 o2 o3 o4 o5 o6 o7 o8 o9 o10 o11 o12 o13 o14 o15 o16 o17 o18 o19 o20 o21 o22 o23 o24 o25 o26 o27 o28 o29 o30 o31 o32 : UInt8) (hs : SrcL w ga oa (o0 :: o1 :: o2 :: [o3, o4, o5, o6, o7, o8, o9, o10, o11, o12, o13, o14, o15, o16, o17, o18, o19, o20, o21, o22, o23, o24, o25, o26, o27, o28, o29, o30, o31, o32])) (hsr : Src w (some ⟨ga, oa, none⟩) (o0 :: o1 :: o2 :: [o3, o4, o5, o6, o7, o8, o9, o10, o11, o12, o13, o14, o15, o16, o17, o18, o19, o20, o21, o22, o23, o24, o25, o26, o27, o28, o29, o30, o31, o32])) (hcap : 33 ≤ cb) : Calls Try.prog 19 #[.slice (some ⟨ga, oa, none⟩) 33 cb] w (Gets w (.tuple #[ptv (decP (o0 :: o1 :: o2 :: [o3, o4, o5, o6, o7, o8, o9, o10, o11, o12, o13, o14, o15, o16, o17, o18, o19, o20, o21, o22, o23, o24, o25, o26, o27, o28, o29, o30, o31, o32])), .bool (decOk (o0 :: o1 :: o2 :: [o3, o4, o5, o6, o7, o8, o9, o10, o11, o12, o13, o14, o15, o16, o17, o18, o19, o20, o21, o22, o23, o24, o25, o26, o27, o28, o29, o30, o31, o32]))])) := by
  have hl : List.length ((o1 :: o2 :: [o3, o4, o5, o6, o7, o8, o9, o10, o11, o12, o13, o14, o15, o16, o17, o18, o19, o20, o21, o22, o23, o24, o25, o26, o27, o28, o29, o30, o31, o32]) : List UInt8) = 32 := rfl
  obtain ⟨tl, htl⟩ : ∃ t : List UInt8, t = (o1 :: o2 :: [o3, o4, o5, o6, o7, o8, o9, o10, o11, o12, o13, o14, o15, o16, o17, o18, o19, o20, o21, o22, o23, o24, o25, o26, o27, o28, o29, o30, o31, o32]) := ⟨_, rfl⟩
  obtain ⟨px, py, pi, lpx, lpy, ep, dp, rp⟩ := ptv_raw (liftP tl) (liftP_on tl)
  obtain ⟨nx, ny, ni, lnx, lny, en, dn, rn⟩ := ptv_raw (Ec.neg (liftP tl)) (Ec.On.neg (liftP_on tl))
  obtain ⟨kb, hkb⟩ : ∃ k, k = liftB tl := ⟨_, rfl⟩
  have cL : ∀ w, Calls Try.prog 53 #[.agg ((o1 :: o2 :: [o3, o4, o5, o6, o7, o8, o9, o10, o11, o12, o13, o14, o15, o16, o17, o18, o19, o20, o21, o22, o23, o24, o25, o26, o27, o28, o29, o30, o31, o32]).map bv).toArray] w (Gets w (.tuple #[pv px py pi, .bool kb])) := fun w => by
    have h := liftR_any w _ hl
    rw [← htl, ep, ← hkb] at h
    rw [← htl]
    exact h
  have cN : ∀ w, Calls Try.prog 54 #[pv px py pi] w (Gets w (pv nx ny ni)) := fun w => by
    have h := negRe_any w px py pi lpx lpy
    rw [dp, en] at h
    exact h
  have cE0 : ∀ w, Calls Try.prog 17 #[pv 0 0 true] w (GetsN w (fun vq Mq => ∃ (g : Nat) (sp : List Value) (cap : Nat), vq = .slice (some ⟨g, 0, none⟩) 33 cap ∧ Mq = [(g, 5, ((encS none).map bv ++ sp).toArray)])) := fun w => by
    have h := encR_any w 0 0 true (by decide) (by decide)
    rw [dec_zero] at h
    exact h
  have cE1 : ∀ w, Calls Try.prog 17 #[pv px py pi] w (GetsN w (fun vq Mq => ∃ (g : Nat) (sp : List Value) (cap : Nat), vq = .slice (some ⟨g, 0, none⟩) 33 cap ∧ Mq = [(g, 5, ((encS (liftP tl)).map bv ++ sp).toArray)])) := fun w => by
    have h := encR_any w px py pi lpx lpy
    rw [dp] at h
    exact h
  have cE2 : ∀ w, Calls Try.prog 17 #[pv nx ny ni] w (GetsN w (fun vq Mq => ∃ (g : Nat) (sp : List Value) (cap : Nat), vq = .slice (some ⟨g, 0, none⟩) 33 cap ∧ Mq = [(g, 5, ((encS (Ec.neg (liftP tl))).map bv ++ sp).toArray)])) := fun w => by
    have h := encR_any w nx ny ni lnx lny
    rw [dn] at h
    exact h
  refine Sy.enter (args := [.slice (some ⟨ga, oa, none⟩) 33 cb]) Try.func19 rfl (Nat.le_of_ble_eq_true (by kernel_rfl)) ?_
  refine Sy.seq ?_
  refine Sy.region ?_
  refine Sy.make (by kernel_rfl) 27 (pcs 0 0 false) ptr (fun _ => by kernel_rfl) (fun g0 => ?_)
  refine Sy.step (by kernel_rfl) (.bool false) (Quiet.pure (fun _ => by kernel_rfl)) ?_
  refine Sy.nil ?_
  refine Sy.then_ ?_
  refine Sy.seq ?_
  refine Sy.seq ?_
  refine Sy.region ?_
  refine Sy.step (by kernel_rfl) (.slice (some ⟨ga, oa, none⟩) 33 cb) (Quiet.pure (fun _ => by kernel_rfl)) ?_
  refine Sy.step (by kernel_rfl) (.int .i64 33) (Quiet.pure (fun _ => by kernel_rfl)) ?_
  refine Sy.step (by kernel_rfl) (.bool false) (Quiet.pure (fun _ => by kernel_rfl)) ?_
  refine Sy.nil ?_
  refine Sy.then_ ?_
  refine Sy.cond_f (by kernel_rfl) (by kernel_rfl) ?_
  refine Sy.skip ?_
  refine Sy.then_ ?_
  refine Sy.seq ?_
  refine Sy.region ?_
  refine Sy.make (by kernel_rfl) 85 (.int .u8 0 :: .int .u8 0 :: [.int .u8 0, .int .u8 0, .int .u8 0, .int .u8 0, .int .u8 0, .int .u8 0, .int .u8 0, .int .u8 0, .int .u8 0, .int .u8 0, .int .u8 0, .int .u8 0, .int .u8 0, .int .u8 0, .int .u8 0, .int .u8 0, .int .u8 0, .int .u8 0, .int .u8 0, .int .u8 0, .int .u8 0, .int .u8 0, .int .u8 0, .int .u8 0, .int .u8 0, .int .u8 0, .int .u8 0, .int .u8 0, .int .u8 0, .int .u8 0]).toArray ptr (fun _ => by kernel_rfl) (fun g1 => ?_)
  refine Sy.nil ?_
  refine Sy.then_ ?_
  refine Sy.seq ?_
  refine Sy.seq ?_
  refine Sy.region ?_
  refine Sy.step (by kernel_rfl) (.int .i64 0) (Quiet.pure (fun _ => by kernel_rfl)) ?_
  refine Sy.nil ?_
  refine Sy.then_ ?_
  refine Sy.block ?_
  refine Sy.loopN 33 ?_
  refine Sy.tidyR (G := [(0, .slice (some ⟨ga, oa, none⟩) 33 cb), (2, .pointer (some ⟨g0, 0, none⟩)), (4, .pointer (some ⟨g1, 0, none⟩)), (5, .int .i64 0)]) (M := [(g0, 27, (pcs 0 0 false)), (g1, 85, (.int .u8 0 :: .int .u8 0 :: [.int .u8 0, .int .u8 0, .int .u8 0, .int .u8 0, .int .u8 0, .int .u8 0, .int .u8 0, .int .u8 0, .int .u8 0, .int .u8 0, .int .u8 0, .int .u8 0, .int .u8 0, .int .u8 0, .int .u8 0, .int .u8 0, .int .u8 0, .int .u8 0, .int .u8 0, .int .u8 0, .int .u8 0, .int .u8 0, .int .u8 0, .int .u8 0, .int .u8 0, .int .u8 0, .int .u8 0, .int .u8 0, .int .u8 0, .int .u8 0]).toArray)]) [true, true] (by kernel_rfl) (all_cons (by kernel_rfl) (all_cons (by kernel_rfl) (all_cons (by kernel_rfl) (all_cons (by kernel_rfl) all_nil)))) ?_
  refine Sy.round ?_
  refine Sy.seq ?_
  refine Sy.seq ?_
  refine Sy.region ?_
  refine Sy.step (by kernel_rfl) (.int .i64 0) (Quiet.pure (fun _ => by kernel_rfl)) ?_
  refine Sy.step (by kernel_rfl) (.bool true) (Quiet.pure (fun _ => by kernel_rfl)) ?_
  refine Sy.nil ?_
  refine Sy.then_ ?_
  refine Sy.cond_t (by kernel_rfl) (by kernel_rfl) ?_
  refine Sy.skip ?_
  refine Sy.then_ ?_
  refine Sy.seq ?_
  refine Sy.block ?_
  refine Sy.region ?_
  refine Sy.step (by kernel_rfl) (.int .i64 0) (Quiet.pure (fun _ => by kernel_rfl)) ?_
  refine Sy.step (by kernel_rfl) (.slice (some ⟨ga, oa, none⟩) 33 cb) (Quiet.pure (fun _ => by kernel_rfl)) ?_
  refine Sy.step (by kernel_rfl) (.int .i64 0) (Quiet.pure (fun _ => by kernel_rfl)) ?_
  refine Sy.step (by kernel_rfl) (.int .i64 1) (Quiet.pure (fun _ => by kernel_rfl)) ?_
  refine Sy.step (by kernel_rfl) (.pointer (some ⟨ga, oa + 1, none⟩)) (Quiet.pure (fun w => exec_index 41 _ _ ga (oa) 33 (cb) 1 rfl (by kernel_rfl) (by kernel_rfl) (by kernel_rfl) (fun _ => by kernel_rfl) (by decide) w)) ?_
  refine Sy.step (by kernel_rfl) (bv o1) (Quiet.thereOne ga (oa + 1) 5 _ _ rfl (by kernel_rfl) hs.1 _ (src_one hs 1 _ (by kernel_rfl)) Try.underlying5 rfl) ?_
  refine Sy.step (by kernel_rfl) (.pointer (some ⟨g1, 0, none⟩)) (Quiet.pure (fun _ => by kernel_rfl)) ?_
  refine Sy.write (by kernel_rfl) 1 g1 85 (.int .u8 0 :: .int .u8 0 :: [.int .u8 0, .int .u8 0, .int .u8 0, .int .u8 0, .int .u8 0, .int .u8 0, .int .u8 0, .int .u8 0, .int .u8 0, .int .u8 0, .int .u8 0, .int .u8 0, .int .u8 0, .int .u8 0, .int .u8 0, .int .u8 0, .int .u8 0, .int .u8 0, .int .u8 0, .int .u8 0, .int .u8 0, .int .u8 0, .int .u8 0, .int .u8 0, .int .u8 0, .int .u8 0, .int .u8 0, .int .u8 0, .int .u8 0, .int .u8 0]).toArray (bv o1 :: .int .u8 0 :: [.int .u8 0, .int .u8 0, .int .u8 0, .int .u8 0, .int .u8 0, .int .u8 0, .int .u8 0, .int .u8 0, .int .u8 0, .int .u8 0, .int .u8 0, .int .u8 0, .int .u8 0, .int .u8 0, .int .u8 0, .int .u8 0, .int .u8 0, .int .u8 0, .int .u8 0, .int .u8 0, .int .u8 0, .int .u8 0, .int .u8 0, .int .u8 0, .int .u8 0, .int .u8 0, .int .u8 0, .int .u8 0, .int .u8 0, .int .u8 0]).toArray (by kernel_rfl) (Writes.one 0 5 (bv o1) _ _ rfl (by kernel_rfl) (by kernel_rfl) (by kernel_rfl) rfl rfl (Nat.lt_of_lt_of_le (Nat.lt_succ_self _) (Nat.le_of_ble_eq_true (by kernel_rfl))) (by kernel_rfl)) ?_
  refine Sy.nil ?_
  refine Sy.in_ ?_
  refine Sy.then_ ?_
  refine Sy.region ?_
  refine Sy.step (by kernel_rfl) (.int .i64 0) (Quiet.pure (fun _ => by kernel_rfl)) ?_
  refine Sy.step (by kernel_rfl) (.int .i64 1) (Quiet.pure (fun _ => by kernel_rfl)) ?_
  refine Sy.step (by kernel_rfl) (.int .i64 1) (Quiet.pure (fun _ => by kernel_rfl)) ?_
  refine Sy.nil ?_
  refine Sy.again ?_
  refine Sy.tidyR (G := [(0, .slice (some ⟨ga, oa, none⟩) 33 cb), (2, .pointer (some ⟨g0, 0, none⟩)), (4, .pointer (some ⟨g1, 0, none⟩)), (5, .int .i64 1)]) (M := [(g0, 27, (pcs 0 0 false)), (g1, 85, (bv o1 :: .int .u8 0 :: [.int .u8 0, .int .u8 0, .int .u8 0, .int .u8 0, .int .u8 0, .int .u8 0, .int .u8 0, .int .u8 0, .int .u8 0, .int .u8 0, .int .u8 0, .int .u8 0, .int .u8 0, .int .u8 0, .int .u8 0, .int .u8 0, .int .u8 0, .int .u8 0, .int .u8 0, .int .u8 0, .int .u8 0, .int .u8 0, .int .u8 0, .int .u8 0, .int .u8 0, .int .u8 0, .int .u8 0, .int .u8 0, .int .u8 0, .int .u8 0]).toArray)]) [true, true] (by kernel_rfl) (all_cons (by kernel_rfl) (all_cons (by kernel_rfl) (all_cons (by kernel_rfl) (all_cons (by kernel_rfl) all_nil)))) ?_
  refine Sy.round ?_
  refine Sy.seq ?_
  refine Sy.seq ?_
  refine Sy.region ?_
  refine Sy.step (by kernel_rfl) (.int .i64 1) (Quiet.pure (fun _ => by kernel_rfl)) ?_
  refine Sy.step (by kernel_rfl) (.bool true) (Quiet.pure (fun _ => by kernel_rfl)) ?_
  refine Sy.nil ?_
  refine Sy.then_ ?_
  refine Sy.cond_t (by kernel_rfl) (by kernel_rfl) ?_
  refine Sy.skip ?_
  refine Sy.then_ ?_
  refine Sy.seq ?_
  refine Sy.block ?_
  refine Sy.region ?_
  refine Sy.step (by kernel_rfl) (.int .i64 1) (Quiet.pure (fun _ => by kernel_rfl)) ?_
  refine Sy.step (by kernel_rfl) (.slice (some ⟨ga, oa, none⟩) 33 cb) (Quiet.pure (fun _ => by kernel_rfl)) ?_
  refine Sy.step (by kernel_rfl) (.int .i64 1) (Quiet.pure (fun _ => by kernel_rfl)) ?_
  refine Sy.step (by kernel_rfl) (.int .i64 2) (Quiet.pure (fun _ => by kernel_rfl)) ?_
  refine Sy.step (by kernel_rfl) (.pointer (some ⟨ga, oa + 2, none⟩)) (Quiet.pure (fun w => exec_index 41 _ _ ga (oa) 33 (cb) 2 rfl (by kernel_rfl) (by kernel_rfl) (by kernel_rfl) (fun _ => by kernel_rfl) (by decide) w)) ?_
  refine Sy.step (by kernel_rfl) (bv o2) (Quiet.thereOne ga (oa + 2) 5 _ _ rfl (by kernel_rfl) hs.1 _ (src_one hs 2 _ (by kernel_rfl)) Try.underlying5 rfl) ?_
  refine Sy.step (by kernel_rfl) (.pointer (some ⟨g1, 1, none⟩)) (Quiet.pure (fun _ => by kernel_rfl)) ?_
  refine Sy.write (by kernel_rfl) 1 g1 85 (bv o1 :: .int .u8 0 :: [.int .u8 0, .int .u8 0, .int .u8 0, .int .u8 0, .int .u8 0, .int .u8 0, .int .u8 0, .int .u8 0, .int .u8 0, .int .u8 0, .int .u8 0, .int .u8 0, .int .u8 0, .int .u8 0, .int .u8 0, .int .u8 0, .int .u8 0, .int .u8 0, .int .u8 0, .int .u8 0, .int .u8 0, .int .u8 0, .int .u8 0, .int .u8 0, .int .u8 0, .int .u8 0, .int .u8 0, .int .u8 0, .int .u8 0, .int .u8 0]).toArray (bv o1 :: bv o2 :: [.int .u8 0, .int .u8 0, .int .u8 0, .int .u8 0, .int .u8 0, .int .u8 0, .int .u8 0, .int .u8 0, .int .u8 0, .int .u8 0, .int .u8 0, .int .u8 0, .int .u8 0, .int .u8 0, .int .u8 0, .int .u8 0, .int .u8 0, .int .u8 0, .int .u8 0, .int .u8 0, .int .u8 0, .int .u8 0, .int .u8 0, .int .u8 0, .int .u8 0, .int .u8 0, .int .u8 0, .int .u8 0, .int .u8 0, .int .u8 0]).toArray (by kernel_rfl) (Writes.one 1 5 (bv o2) _ _ rfl (by kernel_rfl) (by kernel_rfl) (by kernel_rfl) rfl rfl (Nat.lt_of_lt_of_le (Nat.lt_succ_self _) (Nat.le_of_ble_eq_true (by kernel_rfl))) (by kernel_rfl)) ?_
  refine Sy.nil ?_
  refine Sy.in_ ?_
  refine Sy.then_ ?_
  refine Sy.region ?_
  refine Sy.step (by kernel_rfl) (.int .i64 1) (Quiet.pure (fun _ => by kernel_rfl)) ?_
  refine Sy.step (by kernel_rfl) (.int .i64 2) (Quiet.pure (fun _ => by kernel_rfl)) ?_
  refine Sy.step (by kernel_rfl) (.int .i64 2) (Quiet.pure (fun _ => by kernel_rfl)) ?_
  refine Sy.nil ?_
  refine Sy.again ?_
  refine Sy.tidyR (G := [(0, .slice (some ⟨ga, oa, none⟩) 33 cb), (2, .pointer (some ⟨g0, 0, none⟩)), (4, .pointer (some ⟨g1, 0, none⟩)), (5, .int .i64 2)]) (M := [(g0, 27, (pcs 0 0 false)), (g1, 85, (bv o1 :: bv o2 :: [.int .u8 0, .int .u8 0, .int .u8 0, .int .u8 0, .int .u8 0, .int .u8 0, .int .u8 0, .int .u8 0, .int .u8 0, .int .u8 0, .int .u8 0, .int .u8 0, .int .u8 0, .int .u8 0, .int .u8 0, .int .u8 0, .int .u8 0, .int .u8 0, .int .u8 0, .int .u8 0, .int .u8 0, .int .u8 0, .int .u8 0, .int .u8 0, .int .u8 0, .int .u8 0, .int .u8 0, .int .u8 0, .int .u8 0, .int .u8 0]).toArray)]) [true, true] (by kernel_rfl) (all_cons (by kernel_rfl) (all_cons (by kernel_rfl) (all_cons (by kernel_rfl) (all_cons (by kernel_rfl) all_nil)))) ?_
  refine Sy.round ?_
  refine Sy.seq ?_
  refine Sy.seq ?_
  refine Sy.region ?_
  refine Sy.step (by kernel_rfl) (.int .i64 2) (Quiet.pure (fun _ => by kernel_rfl)) ?_
  refine Sy.step (by kernel_rfl) (.bool true) (Quiet.pure (fun _ => by kernel_rfl)) ?_
  refine Sy.nil ?_
  refine Sy.then_ ?_
  refine Sy.cond_t (by kernel_rfl) (by kernel_rfl) ?_
  refine Sy.skip ?_
  refine Sy.then_ ?_
  refine Sy.seq ?_
  refine Sy.block ?_
  refine Sy.region ?_
  refine Sy.step (by kernel_rfl) (.int .i64 2) (Quiet.pure (fun _ => by kernel_rfl)) ?_
  refine Sy.step (by kernel_rfl) (.slice (some ⟨ga, oa, none⟩) 33 cb) (Quiet.pure (fun _ => by kernel_rfl)) ?_
  refine Sy.step (by kernel_rfl) (.int .i64 2) (Quiet.pure (fun _ => by kernel_rfl)) ?_
  refine Sy.step (by kernel_rfl) (.int .i64 3) (Quiet.pure (fun _ => by kernel_rfl)) ?_
  refine Sy.step (by kernel_rfl) (.pointer (some ⟨ga, oa + 3, none⟩)) (Quiet.pure (fun w => exec_index 41 _ _ ga (oa) 33 (cb) 3 rfl (by kernel_rfl) (by kernel_rfl) (by kernel_rfl) (fun _ => by kernel_rfl) (by decide) w)) ?_
  refine Sy.step (by kernel_rfl) (bv o3) (Quiet.thereOne ga (oa + 3) 5 _ _ rfl (by kernel_rfl) hs.1 _ (src_one hs 3 _ (by kernel_rfl)) Try.underlying5 rfl) ?_
  refine Sy.step (by kernel_rfl) (.pointer (some ⟨g1, 2, none⟩)) (Quiet.pure (fun _ => by kernel_rfl)) ?_
  refine Sy.write (by kernel_rfl) 1 g1 85 (bv o1 :: bv o2 :: [.int .u8 0, .int .u8 0, .int .u8 0, .int .u8 0, .int .u8 0, .int .u8 0, .int .u8 0, .int .u8 0, .int .u8 0, .int .u8 0, .int .u8 0, .int .u8 0, .int .u8 0, .int .u8 0, .int .u8 0, .int .u8 0, .int .u8 0, .int .u8 0, .int .u8 0, .int .u8 0, .int .u8 0, .int .u8 0, .int .u8 0, .int .u8 0, .int .u8 0, .int .u8 0, .int .u8 0, .int .u8 0, .int .u8 0, .int .u8 0]).toArray (bv o1 :: bv o2 :: [bv o3, .int .u8 0, .int .u8 0, .int .u8 0, .int .u8 0, .int .u8 0, .int .u8 0, .int .u8 0, .int .u8 0, .int .u8 0, .int .u8 0, .int .u8 0, .int .u8 0, .int .u8 0, .int .u8 0, .int .u8 0, .int .u8 0, .int .u8 0, .int .u8 0, .int .u8 0, .int .u8 0, .int .u8 0, .int .u8 0, .int .u8 0, .int .u8 0, .int .u8 0, .int .u8 0, .int .u8 0, .int .u8 0, .int .u8 0]).toArray (by kernel_rfl) (Writes.one 2 5 (bv o3) _ _ rfl (by kernel_rfl) (by kernel_rfl) (by kernel_rfl) rfl rfl (Nat.lt_of_lt_of_le (Nat.lt_succ_self _) (Nat.le_of_ble_eq_true (by kernel_rfl))) (by kernel_rfl)) ?_
  refine Sy.nil ?_
  refine Sy.in_ ?_
  refine Sy.then_ ?_
  refine Sy.region ?_
  refine Sy.step (by kernel_rfl) (.int .i64 2) (Quiet.pure (fun _ => by kernel_rfl)) ?_
  refine Sy.step (by kernel_rfl) (.int .i64 3) (Quiet.pure (fun _ => by kernel_rfl)) ?_
  refine Sy.step (by kernel_rfl) (.int .i64 3) (Quiet.pure (fun _ => by kernel_rfl)) ?_
  refine Sy.nil ?_
  refine Sy.again ?_
  refine Sy.tidyR (G := [(0, .slice (some ⟨ga, oa, none⟩) 33 cb), (2, .pointer (some ⟨g0, 0, none⟩)), (4, .pointer (some ⟨g1, 0, none⟩)), (5, .int .i64 3)]) (M := [(g0, 27, (pcs 0 0 false)), (g1, 85, (bv o1 :: bv o2 :: [bv o3, .int .u8 0, .int .u8 0, .int .u8 0, .int .u8 0, .int .u8 0, .int .u8 0, .int .u8 0, .int .u8 0, .int .u8 0, .int .u8 0, .int .u8 0, .int .u8 0, .int .u8 0, .int .u8 0, .int .u8 0, .int .u8 0, .int .u8 0, .int .u8 0, .int .u8 0, .int .u8 0, .int .u8 0, .int .u8 0, .int .u8 0, .int .u8 0, .int .u8 0, .int .u8 0, .int .u8 0, .int .u8 0, .int .u8 0]).toArray)]) [true, true] (by kernel_rfl) (all_cons (by kernel_rfl) (all_cons (by kernel_rfl) (all_cons (by kernel_rfl) (all_cons (by kernel_rfl) all_nil)))) ?_
  refine Sy.round ?_
  refine Sy.seq ?_
  refine Sy.seq ?_
  refine Sy.region ?_
  refine Sy.step (by kernel_rfl) (.int .i64 3) (Quiet.pure (fun _ => by kernel_rfl)) ?_
  refine Sy.step (by kernel_rfl) (.bool true) (Quiet.pure (fun _ => by kernel_rfl)) ?_
  refine Sy.nil ?_
  refine Sy.then_ ?_
  refine Sy.cond_t (by kernel_rfl) (by kernel_rfl) ?_
  refine Sy.skip ?_
  refine Sy.then_ ?_
  refine Sy.seq ?_
  refine Sy.block ?_
  refine Sy.region ?_
  refine Sy.step (by kernel_rfl) (.int .i64 3) (Quiet.pure (fun _ => by kernel_rfl)) ?_
  refine Sy.step (by kernel_rfl) (.slice (some ⟨ga, oa, none⟩) 33 cb) (Quiet.pure (fun _ => by kernel_rfl)) ?_
  refine Sy.step (by kernel_rfl) (.int .i64 3) (Quiet.pure (fun _ => by kernel_rfl)) ?_
  refine Sy.step (by kernel_rfl) (.int .i64 4) (Quiet.pure (fun _ => by kernel_rfl)) ?_
  refine Sy.step (by kernel_rfl) (.pointer (some ⟨ga, oa + 4, none⟩)) (Quiet.pure (fun w => exec_index 41 _ _ ga (oa) 33 (cb) 4 rfl (by kernel_rfl) (by kernel_rfl) (by kernel_rfl) (fun _ => by kernel_rfl) (by decide) w)) ?_
  refine Sy.step (by kernel_rfl) (bv o4) (Quiet.thereOne ga (oa + 4) 5 _ _ rfl (by kernel_rfl) hs.1 _ (src_one hs 4 _ (by kernel_rfl)) Try.underlying5 rfl) ?_
  refine Sy.step (by kernel_rfl) (.pointer (some ⟨g1, 3, none⟩)) (Quiet.pure (fun _ => by kernel_rfl)) ?_
  refine Sy.write (by kernel_rfl) 1 g1 85 (bv o1 :: bv o2 :: [bv o3, .int .u8 0, .int .u8 0, .int .u8 0, .int .u8 0, .int .u8 0, .int .u8 0, .int .u8 0, .int .u8 0, .int .u8 0, .int .u8 0, .int .u8 0, .int .u8 0, .int .u8 0, .int .u8 0, .int .u8 0, .int .u8 0, .int .u8 0, .int .u8 0, .int .u8 0, .int .u8 0, .int .u8 0, .int .u8 0, .int .u8 0, .int .u8 0, .int .u8 0, .int .u8 0, .int .u8 0, .int .u8 0, .int .u8 0]).toArray (bv o1 :: bv o2 :: [bv o3, bv o4, .int .u8 0, .int .u8 0, .int .u8 0, .int .u8 0, .int .u8 0, .int .u8 0, .int .u8 0, .int .u8 0, .int .u8 0, .int .u8 0, .int .u8 0, .int .u8 0, .int .u8 0, .int .u8 0, .int .u8 0, .int .u8 0, .int .u8 0, .int .u8 0, .int .u8 0, .int .u8 0, .int .u8 0, .int .u8 0, .int .u8 0, .int .u8 0, .int .u8 0, .int .u8 0, .int .u8 0, .int .u8 0]).toArray (by kernel_rfl) (Writes.one 3 5 (bv o4) _ _ rfl (by kernel_rfl) (by kernel_rfl) (by kernel_rfl) rfl rfl (Nat.lt_of_lt_of_le (Nat.lt_succ_self _) (Nat.le_of_ble_eq_true (by kernel_rfl))) (by kernel_rfl)) ?_
  refine Sy.nil ?_
  refine Sy.in_ ?_
  refine Sy.then_ ?_
  refine Sy.region ?_
  refine Sy.step (by kernel_rfl) (.int .i64 3) (Quiet.pure (fun _ => by kernel_rfl)) ?_
  refine Sy.step (by kernel_rfl) (.int .i64 4) (Quiet.pure (fun _ => by kernel_rfl)) ?_
  refine Sy.step (by kernel_rfl) (.int .i64 4) (Quiet.pure (fun _ => by kernel_rfl)) ?_
  refine Sy.nil ?_
  refine Sy.again ?_
  refine Sy.tidyR (G := [(0, .slice (some ⟨ga, oa, none⟩) 33 cb), (2, .pointer (some ⟨g0, 0, none⟩)), (4, .pointer (some ⟨g1, 0, none⟩)), (5, .int .i64 4)]) (M := [(g0, 27, (pcs 0 0 false)), (g1, 85, (bv o1 :: bv o2 :: [bv o3, bv o4, .int .u8 0, .int .u8 0, .int .u8 0, .int .u8 0, .int .u8 0, .int .u8 0, .int .u8 0, .int .u8 0, .int .u8 0, .int .u8 0, .int .u8 0, .int .u8 0, .int .u8 0, .int .u8 0, .int .u8 0, .int .u8 0, .int .u8 0, .int .u8 0, .int .u8 0, .int .u8 0, .int .u8 0, .int .u8 0, .int .u8 0, .int .u8 0, .int .u8 0, .int .u8 0, .int .u8 0, .int .u8 0]).toArray)]) [true, true] (by kernel_rfl) (all_cons (by kernel_rfl) (all_cons (by kernel_rfl) (all_cons (by kernel_rfl) (all_cons (by kernel_rfl) all_nil)))) ?_
  refine Sy.round ?_
  refine Sy.seq ?_
  refine Sy.seq ?_
  refine Sy.region ?_
  refine Sy.step (by kernel_rfl) (.int .i64 4) (Quiet.pure (fun _ => by kernel_rfl)) ?_
  refine Sy.step (by kernel_rfl) (.bool true) (Quiet.pure (fun _ => by kernel_rfl)) ?_
  refine Sy.nil ?_
  refine Sy.then_ ?_
  refine Sy.cond_t (by kernel_rfl) (by kernel_rfl) ?_
  refine Sy.skip ?_
  refine Sy.then_ ?_
  refine Sy.seq ?_
  refine Sy.block ?_
  refine Sy.region ?_
  refine Sy.step (by kernel_rfl) (.int .i64 4) (Quiet.pure (fun _ => by kernel_rfl)) ?_
  refine Sy.step (by kernel_rfl) (.slice (some ⟨ga, oa, none⟩) 33 cb) (Quiet.pure (fun _ => by kernel_rfl)) ?_
  refine Sy.step (by kernel_rfl) (.int .i64 4) (Quiet.pure (fun _ => by kernel_rfl)) ?_
  refine Sy.step (by kernel_rfl) (.int .i64 5) (Quiet.pure (fun _ => by kernel_rfl)) ?_
  refine Sy.step (by kernel_rfl) (.pointer (some ⟨ga, oa + 5, none⟩)) (Quiet.pure (fun w => exec_index 41 _ _ ga (oa) 33 (cb) 5 rfl (by kernel_rfl) (by kernel_rfl) (by kernel_rfl) (fun _ => by kernel_rfl) (by decide) w)) ?_
  refine Sy.step (by kernel_rfl) (bv o5) (Quiet.thereOne ga (oa + 5) 5 _ _ rfl (by kernel_rfl) hs.1 _ (src_one hs 5 _ (by kernel_rfl)) Try.underlying5 rfl) ?_
  refine Sy.step (by kernel_rfl) (.pointer (some ⟨g1, 4, none⟩)) (Quiet.pure (fun _ => by kernel_rfl)) ?_
  refine Sy.write (by kernel_rfl) 1 g1 85 (bv o1 :: bv o2 :: [bv o3, bv o4, .int .u8 0, .int .u8 0, .int .u8 0, .int .u8 0, .int .u8 0, .int .u8 0, .int .u8 0, .int .u8 0, .int .u8 0, .int .u8 0, .int .u8 0, .int .u8 0, .int .u8 0, .int .u8 0, .int .u8 0, .int .u8 0, .int .u8 0, .int .u8 0, .int .u8 0, .int .u8 0, .int .u8 0, .int .u8 0, .int .u8 0, .int .u8 0, .int .u8 0, .int .u8 0, .int .u8 0, .int .u8 0]).toArray (bv o1 :: bv o2 :: [bv o3, bv o4, bv o5, .int .u8 0, .int .u8 0, .int .u8 0, .int .u8 0, .int .u8 0, .int .u8 0, .int .u8 0, .int .u8 0, .int .u8 0, .int .u8 0, .int .u8 0, .int .u8 0, .int .u8 0, .int .u8 0, .int .u8 0, .int .u8 0, .int .u8 0, .int .u8 0, .int .u8 0, .int .u8 0, .int .u8 0, .int .u8 0, .int .u8 0, .int .u8 0, .int .u8 0, .int .u8 0, .int .u8 0]).toArray (by kernel_rfl) (Writes.one 4 5 (bv o5) _ _ rfl (by kernel_rfl) (by kernel_rfl) (by kernel_rfl) rfl rfl (Nat.lt_of_lt_of_le (Nat.lt_succ_self _) (Nat.le_of_ble_eq_true (by kernel_rfl))) (by kernel_rfl)) ?_
  refine Sy.nil ?_
  refine Sy.in_ ?_
  refine Sy.then_ ?_
  refine Sy.region ?_
  refine Sy.step (by kernel_rfl) (.int .i64 4) (Quiet.pure (fun _ => by kernel_rfl)) ?_
  refine Sy.step (by kernel_rfl) (.int .i64 5) (Quiet.pure (fun _ => by kernel_rfl)) ?_
  refine Sy.step (by kernel_rfl) (.int .i64 5) (Quiet.pure (fun _ => by kernel_rfl)) ?_
  refine Sy.nil ?_
  refine Sy.again ?_
  refine Sy.tidyR (G := [(0, .slice (some ⟨ga, oa, none⟩) 33 cb), (2, .pointer (some ⟨g0, 0, none⟩)), (4, .pointer (some ⟨g1, 0, none⟩)), (5, .int .i64 5)]) (M := [(g0, 27, (pcs 0 0 false)), (g1, 85, (bv o1 :: bv o2 :: [bv o3, bv o4, bv o5, .int .u8 0, .int .u8 0, .int .u8 0, .int .u8 0, .int .u8 0, .int .u8 0, .int .u8 0, .int .u8 0, .int .u8 0, .int .u8 0, .int .u8 0, .int .u8 0, .int .u8 0, .int .u8 0, .int .u8 0, .int .u8 0, .int .u8 0, .int .u8 0, .int .u8 0, .int .u8 0, .int .u8 0, .int .u8 0, .int .u8 0, .int .u8 0, .int .u8 0, .int .u8 0, .int .u8 0]).toArray)]) [true, true] (by kernel_rfl) (all_cons (by kernel_rfl) (all_cons (by kernel_rfl) (all_cons (by kernel_rfl) (all_cons (by kernel_rfl) all_nil)))) ?_
  refine Sy.round ?_
  refine Sy.seq ?_
  refine Sy.seq ?_
  refine Sy.region ?_
  refine Sy.step (by kernel_rfl) (.int .i64 5) (Quiet.pure (fun _ => by kernel_rfl)) ?_
  refine Sy.step (by kernel_rfl) (.bool true) (Quiet.pure (fun _ => by kernel_rfl)) ?_
  refine Sy.nil ?_
  refine Sy.then_ ?_
  refine Sy.cond_t (by kernel_rfl) (by kernel_rfl) ?_
  refine Sy.skip ?_
  refine Sy.then_ ?_
  refine Sy.seq ?_
  refine Sy.block ?_
  refine Sy.region ?_
  refine Sy.step (by kernel_rfl) (.int .i64 5) (Quiet.pure (fun _ => by kernel_rfl)) ?_
  refine Sy.step (by kernel_rfl) (.slice (some ⟨ga, oa, none⟩) 33 cb) (Quiet.pure (fun _ => by kernel_rfl)) ?_
  refine Sy.step (by kernel_rfl) (.int .i64 5) (Quiet.pure (fun _ => by kernel_rfl)) ?_
  refine Sy.step (by kernel_rfl) (.int .i64 6) (Quiet.pure (fun _ => by kernel_rfl)) ?_
  refine Sy.step (by kernel_rfl) (.pointer (some ⟨ga, oa + 6, none⟩)) (Quiet.pure (fun w => exec_index 41 _ _ ga (oa) 33 (cb) 6 rfl (by kernel_rfl) (by kernel_rfl) (by kernel_rfl) (fun _ => by kernel_rfl) (by decide) w)) ?_
  refine Sy.step (by kernel_rfl) (bv o6) (Quiet.thereOne ga (oa + 6) 5 _ _ rfl (by kernel_rfl) hs.1 _ (src_one hs 6 _ (by kernel_rfl)) Try.underlying5 rfl) ?_
  refine Sy.step (by kernel_rfl) (.pointer (some ⟨g1, 5, none⟩)) (Quiet.pure (fun _ => by kernel_rfl)) ?_
  refine Sy.write (by kernel_rfl) 1 g1 85 (bv o1 :: bv o2 :: [bv o3, bv o4, bv o5, .int .u8 0, .int .u8 0, .int .u8 0, .int .u8 0, .int .u8 0, .int .u8 0, .int .u8 0, .int .u8 0, .int .u8 0, .int .u8 0, .int .u8 0, .int .u8 0, .int .u8 0, .int .u8 0, .int .u8 0, .int .u8 0, .int .u8 0, .int .u8 0, .int .u8 0, .int .u8 0, .int .u8 0, .int .u8 0, .int .u8 0, .int .u8 0, .int .u8 0, .int .u8 0, .int .u8 0]).toArray (bv o1 :: bv o2 :: [bv o3, bv o4, bv o5, bv o6, .int .u8 0, .int .u8 0, .int .u8 0, .int .u8 0, .int .u8 0, .int .u8 0, .int .u8 0, .int .u8 0, .int .u8 0, .int .u8 0, .int .u8 0, .int .u8 0, .int .u8 0, .int .u8 0, .int .u8 0, .int .u8 0, .int .u8 0, .int .u8 0, .int .u8 0, .int .u8 0, .int .u8 0, .int .u8 0, .int .u8 0, .int .u8 0, .int .u8 0, .int .u8 0]).toArray (by kernel_rfl) (Writes.one 5 5 (bv o6) _ _ rfl (by kernel_rfl) (by kernel_rfl) (by kernel_rfl) rfl rfl (Nat.lt_of_lt_of_le (Nat.lt_succ_self _) (Nat.le_of_ble_eq_true (by kernel_rfl))) (by kernel_rfl)) ?_
  refine Sy.nil ?_
  refine Sy.in_ ?_
  refine Sy.then_ ?_
  refine Sy.region ?_
  refine Sy.step (by kernel_rfl) (.int .i64 5) (Quiet.pure (fun _ => by kernel_rfl)) ?_
  refine Sy.step (by kernel_rfl) (.int .i64 6) (Quiet.pure (fun _ => by kernel_rfl)) ?_
  refine Sy.step (by kernel_rfl) (.int .i64 6) (Quiet.pure (fun _ => by kernel_rfl)) ?_
  refine Sy.nil ?_
  refine Sy.again ?_
  refine Sy.tidyR (G := [(0, .slice (some ⟨ga, oa, none⟩) 33 cb), (2, .pointer (some ⟨g0, 0, none⟩)), (4, .pointer (some ⟨g1, 0, none⟩)), (5, .int .i64 6)]) (M := [(g0, 27, (pcs 0 0 false)), (g1, 85, (bv o1 :: bv o2 :: [bv o3, bv o4, bv o5, bv o6, .int .u8 0, .int .u8 0, .int .u8 0, .int .u8 0, .int .u8 0, .int .u8 0, .int .u8 0, .int .u8 0, .int .u8 0, .int .u8 0, .int .u8 0, .int .u8 0, .int .u8 0, .int .u8 0, .int .u8 0, .int .u8 0, .int .u8 0, .int .u8 0, .int .u8 0, .int .u8 0, .int .u8 0, .int .u8 0, .int .u8 0, .int .u8 0, .int .u8 0, .int .u8 0]).toArray)]) [true, true] (by kernel_rfl) (all_cons (by kernel_rfl) (all_cons (by kernel_rfl) (all_cons (by kernel_rfl) (all_cons (by kernel_rfl) all_nil)))) ?_
  refine Sy.round ?_
  refine Sy.seq ?_
  refine Sy.seq ?_
  refine Sy.region ?_
  refine Sy.step (by kernel_rfl) (.int .i64 6) (Quiet.pure (fun _ => by kernel_rfl)) ?_
  refine Sy.step (by kernel_rfl) (.bool true) (Quiet.pure (fun _ => by kernel_rfl)) ?_
  refine Sy.nil ?_
  refine Sy.then_ ?_
  refine Sy.cond_t (by kernel_rfl) (by kernel_rfl) ?_
  refine Sy.skip ?_
  refine Sy.then_ ?_
  refine Sy.seq ?_
  refine Sy.block ?_
  refine Sy.region ?_
  refine Sy.step (by kernel_rfl) (.int .i64 6) (Quiet.pure (fun _ => by kernel_rfl)) ?_
  refine Sy.step (by kernel_rfl) (.slice (some ⟨ga, oa, none⟩) 33 cb) (Quiet.pure (fun _ => by kernel_rfl)) ?_
  refine Sy.step (by kernel_rfl) (.int .i64 6) (Quiet.pure (fun _ => by kernel_rfl)) ?_
  refine Sy.step (by kernel_rfl) (.int .i64 7) (Quiet.pure (fun _ => by kernel_rfl)) ?_
  refine Sy.step (by kernel_rfl) (.pointer (some ⟨ga, oa + 7, none⟩)) (Quiet.pure (fun w => exec_index 41 _ _ ga (oa) 33 (cb) 7 rfl (by kernel_rfl) (by kernel_rfl) (by kernel_rfl) (fun _ => by kernel_rfl) (by decide) w)) ?_
  refine Sy.step (by kernel_rfl) (bv o7) (Quiet.thereOne ga (oa + 7) 5 _ _ rfl (by kernel_rfl) hs.1 _ (src_one hs 7 _ (by kernel_rfl)) Try.underlying5 rfl) ?_
  refine Sy.step (by kernel_rfl) (.pointer (some ⟨g1, 6, none⟩)) (Quiet.pure (fun _ => by kernel_rfl)) ?_
  refine Sy.write (by kernel_rfl) 1 g1 85 (bv o1 :: bv o2 :: [bv o3, bv o4, bv o5, bv o6, .int .u8 0, .int .u8 0, .int .u8 0, .int .u8 0, .int .u8 0, .int .u8 0, .int .u8 0, .int .u8 0, .int .u8 0, .int .u8 0, .int .u8 0, .int .u8 0, .int .u8 0, .int .u8 0, .int .u8 0, .int .u8 0, .int .u8 0, .int .u8 0, .int .u8 0, .int .u8 0, .int .u8 0, .int .u8 0, .int .u8 0, .int .u8 0, .int .u8 0, .int .u8 0]).toArray (bv o1 :: bv o2 :: [bv o3, bv o4, bv o5, bv o6, bv o7, .int .u8 0, .int .u8 0, .int .u8 0, .int .u8 0, .int .u8 0, .int .u8 0, .int .u8 0, .int .u8 0, .int .u8 0, .int .u8 0, .int .u8 0, .int .u8 0, .int .u8 0, .int .u8 0, .int .u8 0, .int .u8 0, .int .u8 0, .int .u8 0, .int .u8 0, .int .u8 0, .int .u8 0, .int .u8 0, .int .u8 0, .int .u8 0, .int .u8 0]).toArray (by kernel_rfl) (Writes.one 6 5 (bv o7) _ _ rfl (by kernel_rfl) (by kernel_rfl) (by kernel_rfl) rfl rfl (Nat.lt_of_lt_of_le (Nat.lt_succ_self _) (Nat.le_of_ble_eq_true (by kernel_rfl))) (by kernel_rfl)) ?_
  refine Sy.nil ?_
  refine Sy.in_ ?_
  refine Sy.then_ ?_
  refine Sy.region ?_
  refine Sy.step (by kernel_rfl) (.int .i64 6) (Quiet.pure (fun _ => by kernel_rfl)) ?_
  refine Sy.step (by kernel_rfl) (.int .i64 7) (Quiet.pure (fun _ => by kernel_rfl)) ?_
  refine Sy.step (by kernel_rfl) (.int .i64 7) (Quiet.pure (fun _ => by kernel_rfl)) ?_
  refine Sy.nil ?_
  refine Sy.again ?_
  refine Sy.tidyR (G := [(0, .slice (some ⟨ga, oa, none⟩) 33 cb), (2, .pointer (some ⟨g0, 0, none⟩)), (4, .pointer (some ⟨g1, 0, none⟩)), (5, .int .i64 7)]) (M := [(g0, 27, (pcs 0 0 false)), (g1, 85, (bv o1 :: bv o2 :: [bv o3, bv o4, bv o5, bv o6, bv o7, .int .u8 0, .int .u8 0, .int .u8 0, .int .u8 0, .int .u8 0, .int .u8 0, .int .u8 0, .int .u8 0, .int .u8 0, .int .u8 0, .int .u8 0, .int .u8 0, .int .u8 0, .int .u8 0, .int .u8 0, .int .u8 0, .int .u8 0, .int .u8 0, .int .u8 0, .int .u8 0, .int .u8 0, .int .u8 0, .int .u8 0, .int .u8 0, .int .u8 0]).toArray)]) [true, true] (by kernel_rfl) (all_cons (by kernel_rfl) (all_cons (by kernel_rfl) (all_cons (by kernel_rfl) (all_cons (by kernel_rfl) all_nil)))) ?_
  refine Sy.round ?_
  refine Sy.seq ?_
  refine Sy.seq ?_
  refine Sy.region ?_
  refine Sy.step (by kernel_rfl) (.int .i64 7) (Quiet.pure (fun _ => by kernel_rfl)) ?_
  refine Sy.step (by kernel_rfl) (.bool true) (Quiet.pure (fun _ => by kernel_rfl)) ?_
  refine Sy.nil ?_
  refine Sy.then_ ?_
  refine Sy.cond_t (by kernel_rfl) (by kernel_rfl) ?_
  refine Sy.skip ?_
  refine Sy.then_ ?_
  refine Sy.seq ?_
  refine Sy.block ?_
  refine Sy.region ?_
  refine Sy.step (by kernel_rfl) (.int .i64 7) (Quiet.pure (fun _ => by kernel_rfl)) ?_
  refine Sy.step (by kernel_rfl) (.slice (some ⟨ga, oa, none⟩) 33 cb) (Quiet.pure (fun _ => by kernel_rfl)) ?_
  refine Sy.step (by kernel_rfl) (.int .i64 7) (Quiet.pure (fun _ => by kernel_rfl)) ?_
  refine Sy.step (by kernel_rfl) (.int .i64 8) (Quiet.pure (fun _ => by kernel_rfl)) ?_
  refine Sy.step (by kernel_rfl) (.pointer (some ⟨ga, oa + 8, none⟩)) (Quiet.pure (fun w => exec_index 41 _ _ ga (oa) 33 (cb) 8 rfl (by kernel_rfl) (by kernel_rfl) (by kernel_rfl) (fun _ => by kernel_rfl) (by decide) w)) ?_
  refine Sy.step (by kernel_rfl) (bv o8) (Quiet.thereOne ga (oa + 8) 5 _ _ rfl (by kernel_rfl) hs.1 _ (src_one hs 8 _ (by kernel_rfl)) Try.underlying5 rfl) ?_
  refine Sy.step (by kernel_rfl) (.pointer (some ⟨g1, 7, none⟩)) (Quiet.pure (fun _ => by kernel_rfl)) ?_
  refine Sy.write (by kernel_rfl) 1 g1 85 (bv o1 :: bv o2 :: [bv o3, bv o4, bv o5, bv o6, bv o7, .int .u8 0, .int .u8 0, .int .u8 0, .int .u8 0, .int .u8 0, .int .u8 0, .int .u8 0, .int .u8 0, .int .u8 0, .int .u8 0, .int .u8 0, .int .u8 0, .int .u8 0, .int .u8 0, .int .u8 0, .int .u8 0, .int .u8 0, .int .u8 0, .int .u8 0, .int .u8 0, .int .u8 0, .int .u8 0, .int .u8 0, .int .u8 0, .int .u8 0]).toArray (bv o1 :: bv o2 :: [bv o3, bv o4, bv o5, bv o6, bv o7, bv o8, .int .u8 0, .int .u8 0, .int .u8 0, .int .u8 0, .int .u8 0, .int .u8 0, .int .u8 0, .int .u8 0, .int .u8 0, .int .u8 0, .int .u8 0, .int .u8 0, .int .u8 0, .int .u8 0, .int .u8 0, .int .u8 0, .int .u8 0, .int .u8 0, .int .u8 0, .int .u8 0, .int .u8 0, .int .u8 0, .int .u8 0, .int .u8 0]).toArray (by kernel_rfl) (Writes.one 7 5 (bv o8) _ _ rfl (by kernel_rfl) (by kernel_rfl) (by kernel_rfl) rfl rfl (Nat.lt_of_lt_of_le (Nat.lt_succ_self _) (Nat.le_of_ble_eq_true (by kernel_rfl))) (by kernel_rfl)) ?_
  refine Sy.nil ?_
  refine Sy.in_ ?_
  refine Sy.then_ ?_
  refine Sy.region ?_
  refine Sy.step (by kernel_rfl) (.int .i64 7) (Quiet.pure (fun _ => by kernel_rfl)) ?_
  refine Sy.step (by kernel_rfl) (.int .i64 8) (Quiet.pure (fun _ => by kernel_rfl)) ?_
  refine Sy.step (by kernel_rfl) (.int .i64 8) (Quiet.pure (fun _ => by kernel_rfl)) ?_
  refine Sy.nil ?_
  refine Sy.again ?_
  refine Sy.tidyR (G := [(0, .slice (some ⟨ga, oa, none⟩) 33 cb), (2, .pointer (some ⟨g0, 0, none⟩)), (4, .pointer (some ⟨g1, 0, none⟩)), (5, .int .i64 8)]) (M := [(g0, 27, (pcs 0 0 false)), (g1, 85, (bv o1 :: bv o2 :: [bv o3, bv o4, bv o5, bv o6, bv o7, bv o8, .int .u8 0, .int .u8 0, .int .u8 0, .int .u8 0, .int .u8 0, .int .u8 0, .int .u8 0, .int .u8 0, .int .u8 0, .int .u8 0, .int .u8 0, .int .u8 0, .int .u8 0, .int .u8 0, .int .u8 0, .int .u8 0, .int .u8 0, .int .u8 0, .int .u8 0, .int .u8 0, .int .u8 0, .int .u8 0, .int .u8 0, .int .u8 0]).toArray)]) [true, true] (by kernel_rfl) (all_cons (by kernel_rfl) (all_cons (by kernel_rfl) (all_cons (by kernel_rfl) (all_cons (by kernel_rfl) all_nil)))) ?_
  refine Sy.round ?_
  refine Sy.seq ?_
  refine Sy.seq ?_
  refine Sy.region ?_
  refine Sy.step (by kernel_rfl) (.int .i64 8) (Quiet.pure (fun _ => by kernel_rfl)) ?_
  refine Sy.step (by kernel_rfl) (.bool true) (Quiet.pure (fun _ => by kernel_rfl)) ?_
  refine Sy.nil ?_
  refine Sy.then_ ?_
  refine Sy.cond_t (by kernel_rfl) (by kernel_rfl) ?_
  refine Sy.skip ?_
  refine Sy.then_ ?_
  refine Sy.seq ?_
  refine Sy.block ?_
  refine Sy.region ?_
  refine Sy.step (by kernel_rfl) (.int .i64 8) (Quiet.pure (fun _ => by kernel_rfl)) ?_
  refine Sy.step (by kernel_rfl) (.slice (some ⟨ga, oa, none⟩) 33 cb) (Quiet.pure (fun _ => by kernel_rfl)) ?_
  refine Sy.step (by kernel_rfl) (.int .i64 8) (Quiet.pure (fun _ => by kernel_rfl)) ?_
  refine Sy.step (by kernel_rfl) (.int .i64 9) (Quiet.pure (fun _ => by kernel_rfl)) ?_
  refine Sy.step (by kernel_rfl) (.pointer (some ⟨ga, oa + 9, none⟩)) (Quiet.pure (fun w => exec_index 41 _ _ ga (oa) 33 (cb) 9 rfl (by kernel_rfl) (by kernel_rfl) (by kernel_rfl) (fun _ => by kernel_rfl) (by decide) w)) ?_
  refine Sy.step (by kernel_rfl) (bv o9) (Quiet.thereOne ga (oa + 9) 5 _ _ rfl (by kernel_rfl) hs.1 _ (src_one hs 9 _ (by kernel_rfl)) Try.underlying5 rfl) ?_
  refine Sy.step (by kernel_rfl) (.pointer (some ⟨g1, 8, none⟩)) (Quiet.pure (fun _ => by kernel_rfl)) ?_
  refine Sy.write (by kernel_rfl) 1 g1 85 (bv o1 :: bv o2 :: [bv o3, bv o4, bv o5, bv o6, bv o7, bv o8, .int .u8 0, .int .u8 0, .int .u8 0, .int .u8 0, .int .u8 0, .int .u8 0, .int .u8 0, .int .u8 0, .int .u8 0, .int .u8 0, .int .u8 0, .int .u8 0, .int .u8 0, .int .u8 0, .int .u8 0, .int .u8 0, .int .u8 0, .int .u8 0, .int .u8 0, .int .u8 0, .int .u8 0, .int .u8 0, .int .u8 0, .int .u8 0]).toArray (bv o1 :: bv o2 :: [bv o3, bv o4, bv o5, bv o6, bv o7, bv o8, bv o9, .int .u8 0, .int .u8 0, .int .u8 0, .int .u8 0, .int .u8 0, .int .u8 0, .int .u8 0, .int .u8 0, .int .u8 0, .int .u8 0, .int .u8 0, .int .u8 0, .int .u8 0, .int .u8 0, .int .u8 0, .int .u8 0, .int .u8 0, .int .u8 0, .int .u8 0, .int .u8 0, .int .u8 0, .int .u8 0, .int .u8 0]).toArray (by kernel_rfl) (Writes.one 8 5 (bv o9) _ _ rfl (by kernel_rfl) (by kernel_rfl) (by kernel_rfl) rfl rfl (Nat.lt_of_lt_of_le (Nat.lt_succ_self _) (Nat.le_of_ble_eq_true (by kernel_rfl))) (by kernel_rfl)) ?_
  refine Sy.nil ?_
  refine Sy.in_ ?_
  refine Sy.then_ ?_
  refine Sy.region ?_
  refine Sy.step (by kernel_rfl) (.int .i64 8) (Quiet.pure (fun _ => by kernel_rfl)) ?_
  refine Sy.step (by kernel_rfl) (.int .i64 9) (Quiet.pure (fun _ => by kernel_rfl)) ?_
  refine Sy.step (by kernel_rfl) (.int .i64 9) (Quiet.pure (fun _ => by kernel_rfl)) ?_
  refine Sy.nil ?_
  refine Sy.again ?_
  refine Sy.tidyR (G := [(0, .slice (some ⟨ga, oa, none⟩) 33 cb), (2, .pointer (some ⟨g0, 0, none⟩)), (4, .pointer (some ⟨g1, 0, none⟩)), (5, .int .i64 9)]) (M := [(g0, 27, (pcs 0 0 false)), (g1, 85, (bv o1 :: bv o2 :: [bv o3, bv o4, bv o5, bv o6, bv o7, bv o8, bv o9, .int .u8 0, .int .u8 0, .int .u8 0, .int .u8 0, .int .u8 0, .int .u8 0, .int .u8 0, .int .u8 0, .int .u8 0, .int .u8 0, .int .u8 0, .int .u8 0, .int .u8 0, .int .u8 0, .int .u8 0, .int .u8 0, .int .u8 0, .int .u8 0, .int .u8 0, .int .u8 0, .int .u8 0, .int .u8 0, .int .u8 0]).toArray)]) [true, true] (by kernel_rfl) (all_cons (by kernel_rfl) (all_cons (by kernel_rfl) (all_cons (by kernel_rfl) (all_cons (by kernel_rfl) all_nil)))) ?_
  refine Sy.round ?_
  refine Sy.seq ?_
  refine Sy.seq ?_
  refine Sy.region ?_
  refine Sy.step (by kernel_rfl) (.int .i64 9) (Quiet.pure (fun _ => by kernel_rfl)) ?_
  refine Sy.step (by kernel_rfl) (.bool true) (Quiet.pure (fun _ => by kernel_rfl)) ?_
  refine Sy.nil ?_
  refine Sy.then_ ?_
  refine Sy.cond_t (by kernel_rfl) (by kernel_rfl) ?_
  refine Sy.skip ?_
  refine Sy.then_ ?_
  refine Sy.seq ?_
  refine Sy.block ?_
  refine Sy.region ?_
  refine Sy.step (by kernel_rfl) (.int .i64 9) (Quiet.pure (fun _ => by kernel_rfl)) ?_
  refine Sy.step (by kernel_rfl) (.slice (some ⟨ga, oa, none⟩) 33 cb) (Quiet.pure (fun _ => by kernel_rfl)) ?_
  refine Sy.step (by kernel_rfl) (.int .i64 9) (Quiet.pure (fun _ => by kernel_rfl)) ?_
  refine Sy.step (by kernel_rfl) (.int .i64 10) (Quiet.pure (fun _ => by kernel_rfl)) ?_
  refine Sy.step (by kernel_rfl) (.pointer (some ⟨ga, oa + 10, none⟩)) (Quiet.pure (fun w => exec_index 41 _ _ ga (oa) 33 (cb) 10 rfl (by kernel_rfl) (by kernel_rfl) (by kernel_rfl) (fun _ => by kernel_rfl) (by decide) w)) ?_
  refine Sy.step (by kernel_rfl) (bv o10) (Quiet.thereOne ga (oa + 10) 5 _ _ rfl (by kernel_rfl) hs.1 _ (src_one hs 10 _ (by kernel_rfl)) Try.underlying5 rfl) ?_
  refine Sy.step (by kernel_rfl) (.pointer (some ⟨g1, 9, none⟩)) (Quiet.pure (fun _ => by kernel_rfl)) ?_
  refine Sy.write (by kernel_rfl) 1 g1 85 (bv o1 :: bv o2 :: [bv o3, bv o4, bv o5, bv o6, bv o7, bv o8, bv o9, .int .u8 0, .int .u8 0, .int .u8 0, .int .u8 0, .int .u8 0, .int .u8 0, .int .u8 0, .int .u8 0, .int .u8 0, .int .u8 0, .int .u8 0, .int .u8 0, .int .u8 0, .int .u8 0, .int .u8 0, .int .u8 0, .int .u8 0, .int .u8 0, .int .u8 0, .int .u8 0, .int .u8 0, .int .u8 0, .int .u8 0]).toArray (bv o1 :: bv o2 :: [bv o3, bv o4, bv o5, bv o6, bv o7, bv o8, bv o9, bv o10, .int .u8 0, .int .u8 0, .int .u8 0, .int .u8 0, .int .u8 0, .int .u8 0, .int .u8 0, .int .u8 0, .int .u8 0, .int .u8 0, .int .u8 0, .int .u8 0, .int .u8 0, .int .u8 0, .int .u8 0, .int .u8 0, .int .u8 0, .int .u8 0, .int .u8 0, .int .u8 0, .int .u8 0, .int .u8 0]).toArray (by kernel_rfl) (Writes.one 9 5 (bv o10) _ _ rfl (by kernel_rfl) (by kernel_rfl) (by kernel_rfl) rfl rfl (Nat.lt_of_lt_of_le (Nat.lt_succ_self _) (Nat.le_of_ble_eq_true (by kernel_rfl))) (by kernel_rfl)) ?_
  refine Sy.nil ?_
  refine Sy.in_ ?_
  refine Sy.then_ ?_
  refine Sy.region ?_
  refine Sy.step (by kernel_rfl) (.int .i64 9) (Quiet.pure (fun _ => by kernel_rfl)) ?_
  refine Sy.step (by kernel_rfl) (.int .i64 10) (Quiet.pure (fun _ => by kernel_rfl)) ?_
  refine Sy.step (by kernel_rfl) (.int .i64 10) (Quiet.pure (fun _ => by kernel_rfl)) ?_
  refine Sy.nil ?_
  refine Sy.again ?_
  refine Sy.tidyR (G := [(0, .slice (some ⟨ga, oa, none⟩) 33 cb), (2, .pointer (some ⟨g0, 0, none⟩)), (4, .pointer (some ⟨g1, 0, none⟩)), (5, .int .i64 10)]) (M := [(g0, 27, (pcs 0 0 false)), (g1, 85, (bv o1 :: bv o2 :: [bv o3, bv o4, bv o5, bv o6, bv o7, bv o8, bv o9, bv o10, .int .u8 0, .int .u8 0, .int .u8 0, .int .u8 0, .int .u8 0, .int .u8 0, .int .u8 0, .int .u8 0, .int .u8 0, .int .u8 0, .int .u8 0, .int .u8 0, .int .u8 0, .int .u8 0, .int .u8 0, .int .u8 0, .int .u8 0, .int .u8 0, .int .u8 0, .int .u8 0, .int .u8 0, .int .u8 0]).toArray)]) [true, true] (by kernel_rfl) (all_cons (by kernel_rfl) (all_cons (by kernel_rfl) (all_cons (by kernel_rfl) (all_cons (by kernel_rfl) all_nil)))) ?_
  refine Sy.round ?_
  refine Sy.seq ?_
  refine Sy.seq ?_
  refine Sy.region ?_
  refine Sy.step (by kernel_rfl) (.int .i64 10) (Quiet.pure (fun _ => by kernel_rfl)) ?_
  refine Sy.step (by kernel_rfl) (.bool true) (Quiet.pure (fun _ => by kernel_rfl)) ?_
  refine Sy.nil ?_
  refine Sy.then_ ?_
  refine Sy.cond_t (by kernel_rfl) (by kernel_rfl) ?_
  refine Sy.skip ?_
  refine Sy.then_ ?_
  refine Sy.seq ?_
  refine Sy.block ?_
  refine Sy.region ?_
  refine Sy.step (by kernel_rfl) (.int .i64 10) (Quiet.pure (fun _ => by kernel_rfl)) ?_
  refine Sy.step (by kernel_rfl) (.slice (some ⟨ga, oa, none⟩) 33 cb) (Quiet.pure (fun _ => by kernel_rfl)) ?_
  refine Sy.step (by kernel_rfl) (.int .i64 10) (Quiet.pure (fun _ => by kernel_rfl)) ?_
  refine Sy.step (by kernel_rfl) (.int .i64 11) (Quiet.pure (fun _ => by kernel_rfl)) ?_
  refine Sy.step (by kernel_rfl) (.pointer (some ⟨ga, oa + 11, none⟩)) (Quiet.pure (fun w => exec_index 41 _ _ ga (oa) 33 (cb) 11 rfl (by kernel_rfl) (by kernel_rfl) (by kernel_rfl) (fun _ => by kernel_rfl) (by decide) w)) ?_
  refine Sy.step (by kernel_rfl) (bv o11) (Quiet.thereOne ga (oa + 11) 5 _ _ rfl (by kernel_rfl) hs.1 _ (src_one hs 11 _ (by kernel_rfl)) Try.underlying5 rfl) ?_
  refine Sy.step (by kernel_rfl) (.pointer (some ⟨g1, 10, none⟩)) (Quiet.pure (fun _ => by kernel_rfl)) ?_
  refine Sy.write (by kernel_rfl) 1 g1 85 (bv o1 :: bv o2 :: [bv o3, bv o4, bv o5, bv o6, bv o7, bv o8, bv o9, bv o10, .int .u8 0, .int .u8 0, .int .u8 0, .int .u8 0, .int .u8 0, .int .u8 0, .int .u8 0, .int .u8 0, .int .u8 0, .int .u8 0, .int .u8 0, .int .u8 0, .int .u8 0, .int .u8 0, .int .u8 0, .int .u8 0, .int .u8 0, .int .u8 0, .int .u8 0, .int .u8 0, .int .u8 0, .int .u8 0]).toArray (bv o1 :: bv o2 :: [bv o3, bv o4, bv o5, bv o6, bv o7, bv o8, bv o9, bv o10, bv o11, .int .u8 0, .int .u8 0, .int .u8 0, .int .u8 0, .int .u8 0, .int .u8 0, .int .u8 0, .int .u8 0, .int .u8 0, .int .u8 0, .int .u8 0, .int .u8 0, .int .u8 0, .int .u8 0, .int .u8 0, .int .u8 0, .int .u8 0, .int .u8 0, .int .u8 0, .int .u8 0, .int .u8 0]).toArray (by kernel_rfl) (Writes.one 10 5 (bv o11) _ _ rfl (by kernel_rfl) (by kernel_rfl) (by kernel_rfl) rfl rfl (Nat.lt_of_lt_of_le (Nat.lt_succ_self _) (Nat.le_of_ble_eq_true (by kernel_rfl))) (by kernel_rfl)) ?_
  refine Sy.nil ?_
  refine Sy.in_ ?_
  refine Sy.then_ ?_
  refine Sy.region ?_
  refine Sy.step (by kernel_rfl) (.int .i64 10) (Quiet.pure (fun _ => by kernel_rfl)) ?_
  refine Sy.step (by kernel_rfl) (.int .i64 11) (Quiet.pure (fun _ => by kernel_rfl)) ?_
  refine Sy.step (by kernel_rfl) (.int .i64 11) (Quiet.pure (fun _ => by kernel_rfl)) ?_
  refine Sy.nil ?_
  refine Sy.again ?_
  refine Sy.tidyR (G := [(0, .slice (some ⟨ga, oa, none⟩) 33 cb), (2, .pointer (some ⟨g0, 0, none⟩)), (4, .pointer (some ⟨g1, 0, none⟩)), (5, .int .i64 11)]) (M := [(g0, 27, (pcs 0 0 false)), (g1, 85, (bv o1 :: bv o2 :: [bv o3, bv o4, bv o5, bv o6, bv o7, bv o8, bv o9, bv o10, bv o11, .int .u8 0, .int .u8 0, .int .u8 0, .int .u8 0, .int .u8 0, .int .u8 0, .int .u8 0, .int .u8 0, .int .u8 0, .int .u8 0, .int .u8 0, .int .u8 0, .int .u8 0, .int .u8 0, .int .u8 0, .int .u8 0, .int .u8 0, .int .u8 0, .int .u8 0, .int .u8 0, .int .u8 0]).toArray)]) [true, true] (by kernel_rfl) (all_cons (by kernel_rfl) (all_cons (by kernel_rfl) (all_cons (by kernel_rfl) (all_cons (by kernel_rfl) all_nil)))) ?_
  refine Sy.round ?_
  refine Sy.seq ?_
  refine Sy.seq ?_
  refine Sy.region ?_
  refine Sy.step (by kernel_rfl) (.int .i64 11) (Quiet.pure (fun _ => by kernel_rfl)) ?_
  refine Sy.step (by kernel_rfl) (.bool true) (Quiet.pure (fun _ => by kernel_rfl)) ?_
  refine Sy.nil ?_
  refine Sy.then_ ?_
  refine Sy.cond_t (by kernel_rfl) (by kernel_rfl) ?_
  refine Sy.skip ?_
  refine Sy.then_ ?_
  refine Sy.seq ?_
  refine Sy.block ?_
  refine Sy.region ?_
  refine Sy.step (by kernel_rfl) (.int .i64 11) (Quiet.pure (fun _ => by kernel_rfl)) ?_
  refine Sy.step (by kernel_rfl) (.slice (some ⟨ga, oa, none⟩) 33 cb) (Quiet.pure (fun _ => by kernel_rfl)) ?_
  refine Sy.step (by kernel_rfl) (.int .i64 11) (Quiet.pure (fun _ => by kernel_rfl)) ?_
  refine Sy.step (by kernel_rfl) (.int .i64 12) (Quiet.pure (fun _ => by kernel_rfl)) ?_
  refine Sy.step (by kernel_rfl) (.pointer (some ⟨ga, oa + 12, none⟩)) (Quiet.pure (fun w => exec_index 41 _ _ ga (oa) 33 (cb) 12 rfl (by kernel_rfl) (by kernel_rfl) (by kernel_rfl) (fun _ => by kernel_rfl) (by decide) w)) ?_
  refine Sy.step (by kernel_rfl) (bv o12) (Quiet.thereOne ga (oa + 12) 5 _ _ rfl (by kernel_rfl) hs.1 _ (src_one hs 12 _ (by kernel_rfl)) Try.underlying5 rfl) ?_
  refine Sy.step (by kernel_rfl) (.pointer (some ⟨g1, 11, none⟩)) (Quiet.pure (fun _ => by kernel_rfl)) ?_
  refine Sy.write (by kernel_rfl) 1 g1 85 (bv o1 :: bv o2 :: [bv o3, bv o4, bv o5, bv o6, bv o7, bv o8, bv o9, bv o10, bv o11, .int .u8 0, .int .u8 0, .int .u8 0, .int .u8 0, .int .u8 0, .int .u8 0, .int .u8 0, .int .u8 0, .int .u8 0, .int .u8 0, .int .u8 0, .int .u8 0, .int .u8 0, .int .u8 0, .int .u8 0, .int .u8 0, .int .u8 0, .int .u8 0, .int .u8 0, .int .u8 0, .int .u8 0]).toArray (bv o1 :: bv o2 :: [bv o3, bv o4, bv o5, bv o6, bv o7, bv o8, bv o9, bv o10, bv o11, bv o12, .int .u8 0, .int .u8 0, .int .u8 0, .int .u8 0, .int .u8 0, .int .u8 0, .int .u8 0, .int .u8 0, .int .u8 0, .int .u8 0, .int .u8 0, .int .u8 0, .int .u8 0, .int .u8 0, .int .u8 0, .int .u8 0, .int .u8 0, .int .u8 0, .int .u8 0, .int .u8 0]).toArray (by kernel_rfl) (Writes.one 11 5 (bv o12) _ _ rfl (by kernel_rfl) (by kernel_rfl) (by kernel_rfl) rfl rfl (Nat.lt_of_lt_of_le (Nat.lt_succ_self _) (Nat.le_of_ble_eq_true (by kernel_rfl))) (by kernel_rfl)) ?_
  refine Sy.nil ?_
  refine Sy.in_ ?_
  refine Sy.then_ ?_
  refine Sy.region ?_
  refine Sy.step (by kernel_rfl) (.int .i64 11) (Quiet.pure (fun _ => by kernel_rfl)) ?_
  refine Sy.step (by kernel_rfl) (.int .i64 12) (Quiet.pure (fun _ => by kernel_rfl)) ?_
  refine Sy.step (by kernel_rfl) (.int .i64 12) (Quiet.pure (fun _ => by kernel_rfl)) ?_
  refine Sy.nil ?_
  refine Sy.again ?_
  refine Sy.tidyR (G := [(0, .slice (some ⟨ga, oa, none⟩) 33 cb), (2, .pointer (some ⟨g0, 0, none⟩)), (4, .pointer (some ⟨g1, 0, none⟩)), (5, .int .i64 12)]) (M := [(g0, 27, (pcs 0 0 false)), (g1, 85, (bv o1 :: bv o2 :: [bv o3, bv o4, bv o5, bv o6, bv o7, bv o8, bv o9, bv o10, bv o11, bv o12, .int .u8 0, .int .u8 0, .int .u8 0, .int .u8 0, .int .u8 0, .int .u8 0, .int .u8 0, .int .u8 0, .int .u8 0, .int .u8 0, .int .u8 0, .int .u8 0, .int .u8 0, .int .u8 0, .int .u8 0, .int .u8 0, .int .u8 0, .int .u8 0, .int .u8 0, .int .u8 0]).toArray)]) [true, true] (by kernel_rfl) (all_cons (by kernel_rfl) (all_cons (by kernel_rfl) (all_cons (by kernel_rfl) (all_cons (by kernel_rfl) all_nil)))) ?_
  refine Sy.round ?_
  refine Sy.seq ?_
  refine Sy.seq ?_
  refine Sy.region ?_
  refine Sy.step (by kernel_rfl) (.int .i64 12) (Quiet.pure (fun _ => by kernel_rfl)) ?_
  refine Sy.step (by kernel_rfl) (.bool true) (Quiet.pure (fun _ => by kernel_rfl)) ?_
  refine Sy.nil ?_
  refine Sy.then_ ?_
  refine Sy.cond_t (by kernel_rfl) (by kernel_rfl) ?_
  refine Sy.skip ?_
  refine Sy.then_ ?_
  refine Sy.seq ?_
  refine Sy.block ?_
  refine Sy.region ?_
  refine Sy.step (by kernel_rfl) (.int .i64 12) (Quiet.pure (fun _ => by kernel_rfl)) ?_
  refine Sy.step (by kernel_rfl) (.slice (some ⟨ga, oa, none⟩) 33 cb) (Quiet.pure (fun _ => by kernel_rfl)) ?_
  refine Sy.step (by kernel_rfl) (.int .i64 12) (Quiet.pure (fun _ => by kernel_rfl)) ?_
  refine Sy.step (by kernel_rfl) (.int .i64 13) (Quiet.pure (fun _ => by kernel_rfl)) ?_
  refine Sy.step (by kernel_rfl) (.pointer (some ⟨ga, oa + 13, none⟩)) (Quiet.pure (fun w => exec_index 41 _ _ ga (oa) 33 (cb) 13 rfl (by kernel_rfl) (by kernel_rfl) (by kernel_rfl) (fun _ => by kernel_rfl) (by decide) w)) ?_
  refine Sy.step (by kernel_rfl) (bv o13) (Quiet.thereOne ga (oa + 13) 5 _ _ rfl (by kernel_rfl) hs.1 _ (src_one hs 13 _ (by kernel_rfl)) Try.underlying5 rfl) ?_
  refine Sy.step (by kernel_rfl) (.pointer (some ⟨g1, 12, none⟩)) (Quiet.pure (fun _ => by kernel_rfl)) ?_
  refine Sy.write (by kernel_rfl) 1 g1 85 (bv o1 :: bv o2 :: [bv o3, bv o4, bv o5, bv o6, bv o7, bv o8, bv o9, bv o10, bv o11, bv o12, .int .u8 0, .int .u8 0, .int .u8 0, .int .u8 0, .int .u8 0, .int .u8 0, .int .u8 0, .int .u8 0, .int .u8 0, .int .u8 0, .int .u8 0, .int .u8 0, .int .u8 0, .int .u8 0, .int .u8 0, .int .u8 0, .int .u8 0, .int .u8 0, .int .u8 0, .int .u8 0]).toArray (bv o1 :: bv o2 :: [bv o3, bv o4, bv o5, bv o6, bv o7, bv o8, bv o9, bv o10, bv o11, bv o12, bv o13, .int .u8 0, .int .u8 0, .int .u8 0, .int .u8 0, .int .u8 0, .int .u8 0, .int .u8 0, .int .u8 0, .int .u8 0, .int .u8 0, .int .u8 0, .int .u8 0, .int .u8 0, .int .u8 0, .int .u8 0, .int .u8 0, .int .u8 0, .int .u8 0, .int .u8 0]).toArray (by kernel_rfl) (Writes.one 12 5 (bv o13) _ _ rfl (by kernel_rfl) (by kernel_rfl) (by kernel_rfl) rfl rfl (Nat.lt_of_lt_of_le (Nat.lt_succ_self _) (Nat.le_of_ble_eq_true (by kernel_rfl))) (by kernel_rfl)) ?_
  refine Sy.nil ?_
  refine Sy.in_ ?_
  refine Sy.then_ ?_
  refine Sy.region ?_
  refine Sy.step (by kernel_rfl) (.int .i64 12) (Quiet.pure (fun _ => by kernel_rfl)) ?_
  refine Sy.step (by kernel_rfl) (.int .i64 13) (Quiet.pure (fun _ => by kernel_rfl)) ?_
  refine Sy.step (by kernel_rfl) (.int .i64 13) (Quiet.pure (fun _ => by kernel_rfl)) ?_
  refine Sy.nil ?_
  refine Sy.again ?_
  refine Sy.tidyR (G := [(0, .slice (some ⟨ga, oa, none⟩) 33 cb), (2, .pointer (some ⟨g0, 0, none⟩)), (4, .pointer (some ⟨g1, 0, none⟩)), (5, .int .i64 13)]) (M := [(g0, 27, (pcs 0 0 false)), (g1, 85, (bv o1 :: bv o2 :: [bv o3, bv o4, bv o5, bv o6, bv o7, bv o8, bv o9, bv o10, bv o11, bv o12, bv o13, .int .u8 0, .int .u8 0, .int .u8 0, .int .u8 0, .int .u8 0, .int .u8 0, .int .u8 0, .int .u8 0, .int .u8 0, .int .u8 0, .int .u8 0, .int .u8 0, .int .u8 0, .int .u8 0, .int .u8 0, .int .u8 0, .int .u8 0, .int .u8 0, .int .u8 0]).toArray)]) [true, true] (by kernel_rfl) (all_cons (by kernel_rfl) (all_cons (by kernel_rfl) (all_cons (by kernel_rfl) (all_cons (by kernel_rfl) all_nil)))) ?_
  refine Sy.round ?_
  refine Sy.seq ?_
  refine Sy.seq ?_
  refine Sy.region ?_
  refine Sy.step (by kernel_rfl) (.int .i64 13) (Quiet.pure (fun _ => by kernel_rfl)) ?_
  refine Sy.step (by kernel_rfl) (.bool true) (Quiet.pure (fun _ => by kernel_rfl)) ?_
  refine Sy.nil ?_
  refine Sy.then_ ?_
  refine Sy.cond_t (by kernel_rfl) (by kernel_rfl) ?_
  refine Sy.skip ?_
  refine Sy.then_ ?_
  refine Sy.seq ?_
  refine Sy.block ?_
  refine Sy.region ?_
  refine Sy.step (by kernel_rfl) (.int .i64 13) (Quiet.pure (fun _ => by kernel_rfl)) ?_
  refine Sy.step (by kernel_rfl) (.slice (some ⟨ga, oa, none⟩) 33 cb) (Quiet.pure (fun _ => by kernel_rfl)) ?_
  refine Sy.step (by kernel_rfl) (.int .i64 13) (Quiet.pure (fun _ => by kernel_rfl)) ?_
  refine Sy.step (by kernel_rfl) (.int .i64 14) (Quiet.pure (fun _ => by kernel_rfl)) ?_
  refine Sy.step (by kernel_rfl) (.pointer (some ⟨ga, oa + 14, none⟩)) (Quiet.pure (fun w => exec_index 41 _ _ ga (oa) 33 (cb) 14 rfl (by kernel_rfl) (by kernel_rfl) (by kernel_rfl) (fun _ => by kernel_rfl) (by decide) w)) ?_
  refine Sy.step (by kernel_rfl) (bv o14) (Quiet.thereOne ga (oa + 14) 5 _ _ rfl (by kernel_rfl) hs.1 _ (src_one hs 14 _ (by kernel_rfl)) Try.underlying5 rfl) ?_
  refine Sy.step (by kernel_rfl) (.pointer (some ⟨g1, 13, none⟩)) (Quiet.pure (fun _ => by kernel_rfl)) ?_
  refine Sy.write (by kernel_rfl) 1 g1 85 (bv o1 :: bv o2 :: [bv o3, bv o4, bv o5, bv o6, bv o7, bv o8, bv o9, bv o10, bv o11, bv o12, bv o13, .int .u8 0, .int .u8 0, .int .u8 0, .int .u8 0, .int .u8 0, .int .u8 0, .int .u8 0, .int .u8 0, .int .u8 0, .int .u8 0, .int .u8 0, .int .u8 0, .int .u8 0, .int .u8 0, .int .u8 0, .int .u8 0, .int .u8 0, .int .u8 0, .int .u8 0]).toArray (bv o1 :: bv o2 :: [bv o3, bv o4, bv o5, bv o6, bv o7, bv o8, bv o9, bv o10, bv o11, bv o12, bv o13, bv o14, .int .u8 0, .int .u8 0, .int .u8 0, .int .u8 0, .int .u8 0, .int .u8 0, .int .u8 0, .int .u8 0, .int .u8 0, .int .u8 0, .int .u8 0, .int .u8 0, .int .u8 0, .int .u8 0, .int .u8 0, .int .u8 0, .int .u8 0, .int .u8 0]).toArray (by kernel_rfl) (Writes.one 13 5 (bv o14) _ _ rfl (by kernel_rfl) (by kernel_rfl) (by kernel_rfl) rfl rfl (Nat.lt_of_lt_of_le (Nat.lt_succ_self _) (Nat.le_of_ble_eq_true (by kernel_rfl))) (by kernel_rfl)) ?_
  refine Sy.nil ?_
  refine Sy.in_ ?_
  refine Sy.then_ ?_
  refine Sy.region ?_
  refine Sy.step (by kernel_rfl) (.int .i64 13) (Quiet.pure (fun _ => by kernel_rfl)) ?_
  refine Sy.step (by kernel_rfl) (.int .i64 14) (Quiet.pure (fun _ => by kernel_rfl)) ?_
  refine Sy.step (by kernel_rfl) (.int .i64 14) (Quiet.pure (fun _ => by kernel_rfl)) ?_
  refine Sy.nil ?_
  refine Sy.again ?_
  refine Sy.tidyR (G := [(0, .slice (some ⟨ga, oa, none⟩) 33 cb), (2, .pointer (some ⟨g0, 0, none⟩)), (4, .pointer (some ⟨g1, 0, none⟩)), (5, .int .i64 14)]) (M := [(g0, 27, (pcs 0 0 false)), (g1, 85, (bv o1 :: bv o2 :: [bv o3, bv o4, bv o5, bv o6, bv o7, bv o8, bv o9, bv o10, bv o11, bv o12, bv o13, bv o14, .int .u8 0, .int .u8 0, .int .u8 0, .int .u8 0, .int .u8 0, .int .u8 0, .int .u8 0, .int .u8 0, .int .u8 0, .int .u8 0, .int .u8 0, .int .u8 0, .int .u8 0, .int .u8 0, .int .u8 0, .int .u8 0, .int .u8 0, .int .u8 0]).toArray)]) [true, true] (by kernel_rfl) (all_cons (by kernel_rfl) (all_cons (by kernel_rfl) (all_cons (by kernel_rfl) (all_cons (by kernel_rfl) all_nil)))) ?_
  refine Sy.round ?_
  refine Sy.seq ?_
  refine Sy.seq ?_
  refine Sy.region ?_
  refine Sy.step (by kernel_rfl) (.int .i64 14) (Quiet.pure (fun _ => by kernel_rfl)) ?_
  refine Sy.step (by kernel_rfl) (.bool true) (Quiet.pure (fun _ => by kernel_rfl)) ?_
  refine Sy.nil ?_
  refine Sy.then_ ?_
  refine Sy.cond_t (by kernel_rfl) (by kernel_rfl) ?_
  refine Sy.skip ?_
  refine Sy.then_ ?_
  refine Sy.seq ?_
  refine Sy.block ?_
  refine Sy.region ?_
  refine Sy.step (by kernel_rfl) (.int .i64 14) (Quiet.pure (fun _ => by kernel_rfl)) ?_
  refine Sy.step (by kernel_rfl) (.slice (some ⟨ga, oa, none⟩) 33 cb) (Quiet.pure (fun _ => by kernel_rfl)) ?_
  refine Sy.step (by kernel_rfl) (.int .i64 14) (Quiet.pure (fun _ => by kernel_rfl)) ?_
  refine Sy.step (by kernel_rfl) (.int .i64 15) (Quiet.pure (fun _ => by kernel_rfl)) ?_
  refine Sy.step (by kernel_rfl) (.pointer (some ⟨ga, oa + 15, none⟩)) (Quiet.pure (fun w => exec_index 41 _ _ ga (oa) 33 (cb) 15 rfl (by kernel_rfl) (by kernel_rfl) (by kernel_rfl) (fun _ => by kernel_rfl) (by decide) w)) ?_
  refine Sy.step (by kernel_rfl) (bv o15) (Quiet.thereOne ga (oa + 15) 5 _ _ rfl (by kernel_rfl) hs.1 _ (src_one hs 15 _ (by kernel_rfl)) Try.underlying5 rfl) ?_
  refine Sy.step (by kernel_rfl) (.pointer (some ⟨g1, 14, none⟩)) (Quiet.pure (fun _ => by kernel_rfl)) ?_
  refine Sy.write (by kernel_rfl) 1 g1 85 (bv o1 :: bv o2 :: [bv o3, bv o4, bv o5, bv o6, bv o7, bv o8, bv o9, bv o10, bv o11, bv o12, bv o13, bv o14, .int .u8 0, .int .u8 0, .int .u8 0, .int .u8 0, .int .u8 0, .int .u8 0, .int .u8 0, .int .u8 0, .int .u8 0, .int .u8 0, .int .u8 0, .int .u8 0, .int .u8 0, .int .u8 0, .int .u8 0, .int .u8 0, .int .u8 0, .int .u8 0]).toArray (bv o1 :: bv o2 :: [bv o3, bv o4, bv o5, bv o6, bv o7, bv o8, bv o9, bv o10, bv o11, bv o12, bv o13, bv o14, bv o15, .int .u8 0, .int .u8 0, .int .u8 0, .int .u8 0, .int .u8 0, .int .u8 0, .int .u8 0, .int .u8 0, .int .u8 0, .int .u8 0, .int .u8 0, .int .u8 0, .int .u8 0, .int .u8 0, .int .u8 0, .int .u8 0, .int .u8 0]).toArray (by kernel_rfl) (Writes.one 14 5 (bv o15) _ _ rfl (by kernel_rfl) (by kernel_rfl) (by kernel_rfl) rfl rfl (Nat.lt_of_lt_of_le (Nat.lt_succ_self _) (Nat.le_of_ble_eq_true (by kernel_rfl))) (by kernel_rfl)) ?_
  refine Sy.nil ?_
  refine Sy.in_ ?_
  refine Sy.then_ ?_
  refine Sy.region ?_
  refine Sy.step (by kernel_rfl) (.int .i64 14) (Quiet.pure (fun _ => by kernel_rfl)) ?_
  refine Sy.step (by kernel_rfl) (.int .i64 15) (Quiet.pure (fun _ => by kernel_rfl)) ?_
  refine Sy.step (by kernel_rfl) (.int .i64 15) (Quiet.pure (fun _ => by kernel_rfl)) ?_
  refine Sy.nil ?_
  refine Sy.again ?_
  refine Sy.tidyR (G := [(0, .slice (some ⟨ga, oa, none⟩) 33 cb), (2, .pointer (some ⟨g0, 0, none⟩)), (4, .pointer (some ⟨g1, 0, none⟩)), (5, .int .i64 15)]) (M := [(g0, 27, (pcs 0 0 false)), (g1, 85, (bv o1 :: bv o2 :: [bv o3, bv o4, bv o5, bv o6, bv o7, bv o8, bv o9, bv o10, bv o11, bv o12, bv o13, bv o14, bv o15, .int .u8 0, .int .u8 0, .int .u8 0, .int .u8 0, .int .u8 0, .int .u8 0, .int .u8 0, .int .u8 0, .int .u8 0, .int .u8 0, .int .u8 0, .int .u8 0, .int .u8 0, .int .u8 0, .int .u8 0, .int .u8 0, .int .u8 0]).toArray)]) [true, true] (by kernel_rfl) (all_cons (by kernel_rfl) (all_cons (by kernel_rfl) (all_cons (by kernel_rfl) (all_cons (by kernel_rfl) all_nil)))) ?_
  refine Sy.round ?_
  refine Sy.seq ?_
  refine Sy.seq ?_
  refine Sy.region ?_
  refine Sy.step (by kernel_rfl) (.int .i64 15) (Quiet.pure (fun _ => by kernel_rfl)) ?_
  refine Sy.step (by kernel_rfl) (.bool true) (Quiet.pure (fun _ => by kernel_rfl)) ?_
  refine Sy.nil ?_
  refine Sy.then_ ?_
  refine Sy.cond_t (by kernel_rfl) (by kernel_rfl) ?_
  refine Sy.skip ?_
  refine Sy.then_ ?_
  refine Sy.seq ?_
  refine Sy.block ?_
  refine Sy.region ?_
  refine Sy.step (by kernel_rfl) (.int .i64 15) (Quiet.pure (fun _ => by kernel_rfl)) ?_
  refine Sy.step (by kernel_rfl) (.slice (some ⟨ga, oa, none⟩) 33 cb) (Quiet.pure (fun _ => by kernel_rfl)) ?_
  refine Sy.step (by kernel_rfl) (.int .i64 15) (Quiet.pure (fun _ => by kernel_rfl)) ?_
  refine Sy.step (by kernel_rfl) (.int .i64 16) (Quiet.pure (fun _ => by kernel_rfl)) ?_
  refine Sy.step (by kernel_rfl) (.pointer (some ⟨ga, oa + 16, none⟩)) (Quiet.pure (fun w => exec_index 41 _ _ ga (oa) 33 (cb) 16 rfl (by kernel_rfl) (by kernel_rfl) (by kernel_rfl) (fun _ => by kernel_rfl) (by decide) w)) ?_
  refine Sy.step (by kernel_rfl) (bv o16) (Quiet.thereOne ga (oa + 16) 5 _ _ rfl (by kernel_rfl) hs.1 _ (src_one hs 16 _ (by kernel_rfl)) Try.underlying5 rfl) ?_
  refine Sy.step (by kernel_rfl) (.pointer (some ⟨g1, 15, none⟩)) (Quiet.pure (fun _ => by kernel_rfl)) ?_
  refine Sy.write (by kernel_rfl) 1 g1 85 (bv o1 :: bv o2 :: [bv o3, bv o4, bv o5, bv o6, bv o7, bv o8, bv o9, bv o10, bv o11, bv o12, bv o13, bv o14, bv o15, .int .u8 0, .int .u8 0, .int .u8 0, .int .u8 0, .int .u8 0, .int .u8 0, .int .u8 0, .int .u8 0, .int .u8 0, .int .u8 0, .int .u8 0, .int .u8 0, .int .u8 0, .int .u8 0, .int .u8 0, .int .u8 0, .int .u8 0]).toArray (bv o1 :: bv o2 :: [bv o3, bv o4, bv o5, bv o6, bv o7, bv o8, bv o9, bv o10, bv o11, bv o12, bv o13, bv o14, bv o15, bv o16, .int .u8 0, .int .u8 0, .int .u8 0, .int .u8 0, .int .u8 0, .int .u8 0, .int .u8 0, .int .u8 0, .int .u8 0, .int .u8 0, .int .u8 0, .int .u8 0, .int .u8 0, .int .u8 0, .int .u8 0, .int .u8 0]).toArray (by kernel_rfl) (Writes.one 15 5 (bv o16) _ _ rfl (by kernel_rfl) (by kernel_rfl) (by kernel_rfl) rfl rfl (Nat.lt_of_lt_of_le (Nat.lt_succ_self _) (Nat.le_of_ble_eq_true (by kernel_rfl))) (by kernel_rfl)) ?_
  refine Sy.nil ?_
  refine Sy.in_ ?_
  refine Sy.then_ ?_
  refine Sy.region ?_
  refine Sy.step (by kernel_rfl) (.int .i64 15) (Quiet.pure (fun _ => by kernel_rfl)) ?_
  refine Sy.step (by kernel_rfl) (.int .i64 16) (Quiet.pure (fun _ => by kernel_rfl)) ?_
  refine Sy.step (by kernel_rfl) (.int .i64 16) (Quiet.pure (fun _ => by kernel_rfl)) ?_
  refine Sy.nil ?_
  refine Sy.again ?_
  refine Sy.tidyR (G := [(0, .slice (some ⟨ga, oa, none⟩) 33 cb), (2, .pointer (some ⟨g0, 0, none⟩)), (4, .pointer (some ⟨g1, 0, none⟩)), (5, .int .i64 16)]) (M := [(g0, 27, (pcs 0 0 false)), (g1, 85, (bv o1 :: bv o2 :: [bv o3, bv o4, bv o5, bv o6, bv o7, bv o8, bv o9, bv o10, bv o11, bv o12, bv o13, bv o14, bv o15, bv o16, .int .u8 0, .int .u8 0, .int .u8 0, .int .u8 0, .int .u8 0, .int .u8 0, .int .u8 0, .int .u8 0, .int .u8 0, .int .u8 0, .int .u8 0, .int .u8 0, .int .u8 0, .int .u8 0, .int .u8 0, .int .u8 0]).toArray)]) [true, true] (by kernel_rfl) (all_cons (by kernel_rfl) (all_cons (by kernel_rfl) (all_cons (by kernel_rfl) (all_cons (by kernel_rfl) all_nil)))) ?_
  refine Sy.round ?_
  refine Sy.seq ?_
  refine Sy.seq ?_
  refine Sy.region ?_
  refine Sy.step (by kernel_rfl) (.int .i64 16) (Quiet.pure (fun _ => by kernel_rfl)) ?_
  refine Sy.step (by kernel_rfl) (.bool true) (Quiet.pure (fun _ => by kernel_rfl)) ?_
  refine Sy.nil ?_
  refine Sy.then_ ?_
  refine Sy.cond_t (by kernel_rfl) (by kernel_rfl) ?_
  refine Sy.skip ?_
  refine Sy.then_ ?_
  refine Sy.seq ?_
  refine Sy.block ?_
  refine Sy.region ?_
  refine Sy.step (by kernel_rfl) (.int .i64 16) (Quiet.pure (fun _ => by kernel_rfl)) ?_
  refine Sy.step (by kernel_rfl) (.slice (some ⟨ga, oa, none⟩) 33 cb) (Quiet.pure (fun _ => by kernel_rfl)) ?_
  refine Sy.step (by kernel_rfl) (.int .i64 16) (Quiet.pure (fun _ => by kernel_rfl)) ?_
  refine Sy.step (by kernel_rfl) (.int .i64 17) (Quiet.pure (fun _ => by kernel_rfl)) ?_
  refine Sy.step (by kernel_rfl) (.pointer (some ⟨ga, oa + 17, none⟩)) (Quiet.pure (fun w => exec_index 41 _ _ ga (oa) 33 (cb) 17 rfl (by kernel_rfl) (by kernel_rfl) (by kernel_rfl) (fun _ => by kernel_rfl) (by decide) w)) ?_
  refine Sy.step (by kernel_rfl) (bv o17) (Quiet.thereOne ga (oa + 17) 5 _ _ rfl (by kernel_rfl) hs.1 _ (src_one hs 17 _ (by kernel_rfl)) Try.underlying5 rfl) ?_
  refine Sy.step (by kernel_rfl) (.pointer (some ⟨g1, 16, none⟩)) (Quiet.pure (fun _ => by kernel_rfl)) ?_
  refine Sy.write (by kernel_rfl) 1 g1 85 (bv o1 :: bv o2 :: [bv o3, bv o4, bv o5, bv o6, bv o7, bv o8, bv o9, bv o10, bv o11, bv o12, bv o13, bv o14, bv o15, bv o16, .int .u8 0, .int .u8 0, .int .u8 0, .int .u8 0, .int .u8 0, .int .u8 0, .int .u8 0, .int .u8 0, .int .u8 0, .int .u8 0, .int .u8 0, .int .u8 0, .int .u8 0, .int .u8 0, .int .u8 0, .int .u8 0]).toArray (bv o1 :: bv o2 :: [bv o3, bv o4, bv o5, bv o6, bv o7, bv o8, bv o9, bv o10, bv o11, bv o12, bv o13, bv o14, bv o15, bv o16, bv o17, .int .u8 0, .int .u8 0, .int .u8 0, .int .u8 0, .int .u8 0, .int .u8 0, .int .u8 0, .int .u8 0, .int .u8 0, .int .u8 0, .int .u8 0, .int .u8 0, .int .u8 0, .int .u8 0, .int .u8 0]).toArray (by kernel_rfl) (Writes.one 16 5 (bv o17) _ _ rfl (by kernel_rfl) (by kernel_rfl) (by kernel_rfl) rfl rfl (Nat.lt_of_lt_of_le (Nat.lt_succ_self _) (Nat.le_of_ble_eq_true (by kernel_rfl))) (by kernel_rfl)) ?_
  refine Sy.nil ?_
  refine Sy.in_ ?_
  refine Sy.then_ ?_
  refine Sy.region ?_
  refine Sy.step (by kernel_rfl) (.int .i64 16) (Quiet.pure (fun _ => by kernel_rfl)) ?_
  refine Sy.step (by kernel_rfl) (.int .i64 17) (Quiet.pure (fun _ => by kernel_rfl)) ?_
  refine Sy.step (by kernel_rfl) (.int .i64 17) (Quiet.pure (fun _ => by kernel_rfl)) ?_
  refine Sy.nil ?_
  refine Sy.again ?_
  refine Sy.tidyR (G := [(0, .slice (some ⟨ga, oa, none⟩) 33 cb), (2, .pointer (some ⟨g0, 0, none⟩)), (4, .pointer (some ⟨g1, 0, none⟩)), (5, .int .i64 17)]) (M := [(g0, 27, (pcs 0 0 false)), (g1, 85, (bv o1 :: bv o2 :: [bv o3, bv o4, bv o5, bv o6, bv o7, bv o8, bv o9, bv o10, bv o11, bv o12, bv o13, bv o14, bv o15, bv o16, bv o17, .int .u8 0, .int .u8 0, .int .u8 0, .int .u8 0, .int .u8 0, .int .u8 0, .int .u8 0, .int .u8 0, .int .u8 0, .int .u8 0, .int .u8 0, .int .u8 0, .int .u8 0, .int .u8 0, .int .u8 0]).toArray)]) [true, true] (by kernel_rfl) (all_cons (by kernel_rfl) (all_cons (by kernel_rfl) (all_cons (by kernel_rfl) (all_cons (by kernel_rfl) all_nil)))) ?_
  refine Sy.round ?_
  refine Sy.seq ?_
  refine Sy.seq ?_
  refine Sy.region ?_
  refine Sy.step (by kernel_rfl) (.int .i64 17) (Quiet.pure (fun _ => by kernel_rfl)) ?_
  refine Sy.step (by kernel_rfl) (.bool true) (Quiet.pure (fun _ => by kernel_rfl)) ?_
  refine Sy.nil ?_
  refine Sy.then_ ?_
  refine Sy.cond_t (by kernel_rfl) (by kernel_rfl) ?_
  refine Sy.skip ?_
  refine Sy.then_ ?_
  refine Sy.seq ?_
  refine Sy.block ?_
  refine Sy.region ?_
  refine Sy.step (by kernel_rfl) (.int .i64 17) (Quiet.pure (fun _ => by kernel_rfl)) ?_
  refine Sy.step (by kernel_rfl) (.slice (some ⟨ga, oa, none⟩) 33 cb) (Quiet.pure (fun _ => by kernel_rfl)) ?_
  refine Sy.step (by kernel_rfl) (.int .i64 17) (Quiet.pure (fun _ => by kernel_rfl)) ?_
  refine Sy.step (by kernel_rfl) (.int .i64 18) (Quiet.pure (fun _ => by kernel_rfl)) ?_
  refine Sy.step (by kernel_rfl) (.pointer (some ⟨ga, oa + 18, none⟩)) (Quiet.pure (fun w => exec_index 41 _ _ ga (oa) 33 (cb) 18 rfl (by kernel_rfl) (by kernel_rfl) (by kernel_rfl) (fun _ => by kernel_rfl) (by decide) w)) ?_
  refine Sy.step (by kernel_rfl) (bv o18) (Quiet.thereOne ga (oa + 18) 5 _ _ rfl (by kernel_rfl) hs.1 _ (src_one hs 18 _ (by kernel_rfl)) Try.underlying5 rfl) ?_
  refine Sy.step (by kernel_rfl) (.pointer (some ⟨g1, 17, none⟩)) (Quiet.pure (fun _ => by kernel_rfl)) ?_
  refine Sy.write (by kernel_rfl) 1 g1 85 (bv o1 :: bv o2 :: [bv o3, bv o4, bv o5, bv o6, bv o7, bv o8, bv o9, bv o10, bv o11, bv o12, bv o13, bv o14, bv o15, bv o16, bv o17, .int .u8 0, .int .u8 0, .int .u8 0, .int .u8 0, .int .u8 0, .int .u8 0, .int .u8 0, .int .u8 0, .int .u8 0, .int .u8 0, .int .u8 0, .int .u8 0, .int .u8 0, .int .u8 0, .int .u8 0]).toArray (bv o1 :: bv o2 :: [bv o3, bv o4, bv o5, bv o6, bv o7, bv o8, bv o9, bv o10, bv o11, bv o12, bv o13, bv o14, bv o15, bv o16, bv o17, bv o18, .int .u8 0, .int .u8 0, .int .u8 0, .int .u8 0, .int .u8 0, .int .u8 0, .int .u8 0, .int .u8 0, .int .u8 0, .int .u8 0, .int .u8 0, .int .u8 0, .int .u8 0, .int .u8 0]).toArray (by kernel_rfl) (Writes.one 17 5 (bv o18) _ _ rfl (by kernel_rfl) (by kernel_rfl) (by kernel_rfl) rfl rfl (Nat.lt_of_lt_of_le (Nat.lt_succ_self _) (Nat.le_of_ble_eq_true (by kernel_rfl))) (by kernel_rfl)) ?_
  refine Sy.nil ?_
  refine Sy.in_ ?_
  refine Sy.then_ ?_
  refine Sy.region ?_
  refine Sy.step (by kernel_rfl) (.int .i64 17) (Quiet.pure (fun _ => by kernel_rfl)) ?_
  refine Sy.step (by kernel_rfl) (.int .i64 18) (Quiet.pure (fun _ => by kernel_rfl)) ?_
  refine Sy.step (by kernel_rfl) (.int .i64 18) (Quiet.pure (fun _ => by kernel_rfl)) ?_
  refine Sy.nil ?_
  refine Sy.again ?_
  refine Sy.tidyR (G := [(0, .slice (some ⟨ga, oa, none⟩) 33 cb), (2, .pointer (some ⟨g0, 0, none⟩)), (4, .pointer (some ⟨g1, 0, none⟩)), (5, .int .i64 18)]) (M := [(g0, 27, (pcs 0 0 false)), (g1, 85, (bv o1 :: bv o2 :: [bv o3, bv o4, bv o5, bv o6, bv o7, bv o8, bv o9, bv o10, bv o11, bv o12, bv o13, bv o14, bv o15, bv o16, bv o17, bv o18, .int .u8 0, .int .u8 0, .int .u8 0, .int .u8 0, .int .u8 0, .int .u8 0, .int .u8 0, .int .u8 0, .int .u8 0, .int .u8 0, .int .u8 0, .int .u8 0, .int .u8 0, .int .u8 0]).toArray)]) [true, true] (by kernel_rfl) (all_cons (by kernel_rfl) (all_cons (by kernel_rfl) (all_cons (by kernel_rfl) (all_cons (by kernel_rfl) all_nil)))) ?_
  refine Sy.round ?_
  refine Sy.seq ?_
  refine Sy.seq ?_
  refine Sy.region ?_
  refine Sy.step (by kernel_rfl) (.int .i64 18) (Quiet.pure (fun _ => by kernel_rfl)) ?_
  refine Sy.step (by kernel_rfl) (.bool true) (Quiet.pure (fun _ => by kernel_rfl)) ?_
  refine Sy.nil ?_
  refine Sy.then_ ?_
  refine Sy.cond_t (by kernel_rfl) (by kernel_rfl) ?_
  refine Sy.skip ?_
  refine Sy.then_ ?_
  refine Sy.seq ?_
  refine Sy.block ?_
  refine Sy.region ?_
  refine Sy.step (by kernel_rfl) (.int .i64 18) (Quiet.pure (fun _ => by kernel_rfl)) ?_
  refine Sy.step (by kernel_rfl) (.slice (some ⟨ga, oa, none⟩) 33 cb) (Quiet.pure (fun _ => by kernel_rfl)) ?_
  refine Sy.step (by kernel_rfl) (.int .i64 18) (Quiet.pure (fun _ => by kernel_rfl)) ?_
  refine Sy.step (by kernel_rfl) (.int .i64 19) (Quiet.pure (fun _ => by kernel_rfl)) ?_
  refine Sy.step (by kernel_rfl) (.pointer (some ⟨ga, oa + 19, none⟩)) (Quiet.pure (fun w => exec_index 41 _ _ ga (oa) 33 (cb) 19 rfl (by kernel_rfl) (by kernel_rfl) (by kernel_rfl) (fun _ => by kernel_rfl) (by decide) w)) ?_
  refine Sy.step (by kernel_rfl) (bv o19) (Quiet.thereOne ga (oa + 19) 5 _ _ rfl (by kernel_rfl) hs.1 _ (src_one hs 19 _ (by kernel_rfl)) Try.underlying5 rfl) ?_
  refine Sy.step (by kernel_rfl) (.pointer (some ⟨g1, 18, none⟩)) (Quiet.pure (fun _ => by kernel_rfl)) ?_
  refine Sy.write (by kernel_rfl) 1 g1 85 (bv o1 :: bv o2 :: [bv o3, bv o4, bv o5, bv o6, bv o7, bv o8, bv o9, bv o10, bv o11, bv o12, bv o13, bv o14, bv o15, bv o16, bv o17, bv o18, .int .u8 0, .int .u8 0, .int .u8 0, .int .u8 0, .int .u8 0, .int .u8 0, .int .u8 0, .int .u8 0, .int .u8 0, .int .u8 0, .int .u8 0, .int .u8 0, .int .u8 0, .int .u8 0]).toArray (bv o1 :: bv o2 :: [bv o3, bv o4, bv o5, bv o6, bv o7, bv o8, bv o9, bv o10, bv o11, bv o12, bv o13, bv o14, bv o15, bv o16, bv o17, bv o18, bv o19, .int .u8 0, .int .u8 0, .int .u8 0, .int .u8 0, .int .u8 0, .int .u8 0, .int .u8 0, .int .u8 0, .int .u8 0, .int .u8 0, .int .u8 0, .int .u8 0, .int .u8 0]).toArray (by kernel_rfl) (Writes.one 18 5 (bv o19) _ _ rfl (by kernel_rfl) (by kernel_rfl) (by kernel_rfl) rfl rfl (Nat.lt_of_lt_of_le (Nat.lt_succ_self _) (Nat.le_of_ble_eq_true (by kernel_rfl))) (by kernel_rfl)) ?_
  refine Sy.nil ?_
  refine Sy.in_ ?_
  refine Sy.then_ ?_
  refine Sy.region ?_
  refine Sy.step (by kernel_rfl) (.int .i64 18) (Quiet.pure (fun _ => by kernel_rfl)) ?_
  refine Sy.step (by kernel_rfl) (.int .i64 19) (Quiet.pure (fun _ => by kernel_rfl)) ?_
  refine Sy.step (by kernel_rfl) (.int .i64 19) (Quiet.pure (fun _ => by kernel_rfl)) ?_
  refine Sy.nil ?_
  refine Sy.again ?_
  refine Sy.tidyR (G := [(0, .slice (some ⟨ga, oa, none⟩) 33 cb), (2, .pointer (some ⟨g0, 0, none⟩)), (4, .pointer (some ⟨g1, 0, none⟩)), (5, .int .i64 19)]) (M := [(g0, 27, (pcs 0 0 false)), (g1, 85, (bv o1 :: bv o2 :: [bv o3, bv o4, bv o5, bv o6, bv o7, bv o8, bv o9, bv o10, bv o11, bv o12, bv o13, bv o14, bv o15, bv o16, bv o17, bv o18, bv o19, .int .u8 0, .int .u8 0, .int .u8 0, .int .u8 0, .int .u8 0, .int .u8 0, .int .u8 0, .int .u8 0, .int .u8 0, .int .u8 0, .int .u8 0, .int .u8 0, .int .u8 0]).toArray)]) [true, true] (by kernel_rfl) (all_cons (by kernel_rfl) (all_cons (by kernel_rfl) (all_cons (by kernel_rfl) (all_cons (by kernel_rfl) all_nil)))) ?_
  refine Sy.round ?_
  refine Sy.seq ?_
  refine Sy.seq ?_
  refine Sy.region ?_
  refine Sy.step (by kernel_rfl) (.int .i64 19) (Quiet.pure (fun _ => by kernel_rfl)) ?_
  refine Sy.step (by kernel_rfl) (.bool true) (Quiet.pure (fun _ => by kernel_rfl)) ?_
  refine Sy.nil ?_
  refine Sy.then_ ?_
  refine Sy.cond_t (by kernel_rfl) (by kernel_rfl) ?_
  refine Sy.skip ?_
  refine Sy.then_ ?_
  refine Sy.seq ?_
  refine Sy.block ?_
  refine Sy.region ?_
  refine Sy.step (by kernel_rfl) (.int .i64 19) (Quiet.pure (fun _ => by kernel_rfl)) ?_
  refine Sy.step (by kernel_rfl) (.slice (some ⟨ga, oa, none⟩) 33 cb) (Quiet.pure (fun _ => by kernel_rfl)) ?_
  refine Sy.step (by kernel_rfl) (.int .i64 19) (Quiet.pure (fun _ => by kernel_rfl)) ?_
  refine Sy.step (by kernel_rfl) (.int .i64 20) (Quiet.pure (fun _ => by kernel_rfl)) ?_
  refine Sy.step (by kernel_rfl) (.pointer (some ⟨ga, oa + 20, none⟩)) (Quiet.pure (fun w => exec_index 41 _ _ ga (oa) 33 (cb) 20 rfl (by kernel_rfl) (by kernel_rfl) (by kernel_rfl) (fun _ => by kernel_rfl) (by decide) w)) ?_
  refine Sy.step (by kernel_rfl) (bv o20) (Quiet.thereOne ga (oa + 20) 5 _ _ rfl (by kernel_rfl) hs.1 _ (src_one hs 20 _ (by kernel_rfl)) Try.underlying5 rfl) ?_
  refine Sy.step (by kernel_rfl) (.pointer (some ⟨g1, 19, none⟩)) (Quiet.pure (fun _ => by kernel_rfl)) ?_
  refine Sy.write (by kernel_rfl) 1 g1 85 (bv o1 :: bv o2 :: [bv o3, bv o4, bv o5, bv o6, bv o7, bv o8, bv o9, bv o10, bv o11, bv o12, bv o13, bv o14, bv o15, bv o16, bv o17, bv o18, bv o19, .int .u8 0, .int .u8 0, .int .u8 0, .int .u8 0, .int .u8 0, .int .u8 0, .int .u8 0, .int .u8 0, .int .u8 0, .int .u8 0, .int .u8 0, .int .u8 0, .int .u8 0]).toArray (bv o1 :: bv o2 :: [bv o3, bv o4, bv o5, bv o6, bv o7, bv o8, bv o9, bv o10, bv o11, bv o12, bv o13, bv o14, bv o15, bv o16, bv o17, bv o18, bv o19, bv o20, .int .u8 0, .int .u8 0, .int .u8 0, .int .u8 0, .int .u8 0, .int .u8 0, .int .u8 0, .int .u8 0, .int .u8 0, .int .u8 0, .int .u8 0, .int .u8 0]).toArray (by kernel_rfl) (Writes.one 19 5 (bv o20) _ _ rfl (by kernel_rfl) (by kernel_rfl) (by kernel_rfl) rfl rfl (Nat.lt_of_lt_of_le (Nat.lt_succ_self _) (Nat.le_of_ble_eq_true (by kernel_rfl))) (by kernel_rfl)) ?_
  refine Sy.nil ?_
  refine Sy.in_ ?_
  refine Sy.then_ ?_
  refine Sy.region ?_
  refine Sy.step (by kernel_rfl) (.int .i64 19) (Quiet.pure (fun _ => by kernel_rfl)) ?_
  refine Sy.step (by kernel_rfl) (.int .i64 20) (Quiet.pure (fun _ => by kernel_rfl)) ?_
  refine Sy.step (by kernel_rfl) (.int .i64 20) (Quiet.pure (fun _ => by kernel_rfl)) ?_
  refine Sy.nil ?_
  refine Sy.again ?_
  refine Sy.tidyR (G := [(0, .slice (some ⟨ga, oa, none⟩) 33 cb), (2, .pointer (some ⟨g0, 0, none⟩)), (4, .pointer (some ⟨g1, 0, none⟩)), (5, .int .i64 20)]) (M := [(g0, 27, (pcs 0 0 false)), (g1, 85, (bv o1 :: bv o2 :: [bv o3, bv o4, bv o5, bv o6, bv o7, bv o8, bv o9, bv o10, bv o11, bv o12, bv o13, bv o14, bv o15, bv o16, bv o17, bv o18, bv o19, bv o20, .int .u8 0, .int .u8 0, .int .u8 0, .int .u8 0, .int .u8 0, .int .u8 0, .int .u8 0, .int .u8 0, .int .u8 0, .int .u8 0, .int .u8 0, .int .u8 0]).toArray)]) [true, true] (by kernel_rfl) (all_cons (by kernel_rfl) (all_cons (by kernel_rfl) (all_cons (by kernel_rfl) (all_cons (by kernel_rfl) all_nil)))) ?_
  refine Sy.round ?_
  refine Sy.seq ?_
  refine Sy.seq ?_
  refine Sy.region ?_
  refine Sy.step (by kernel_rfl) (.int .i64 20) (Quiet.pure (fun _ => by kernel_rfl)) ?_
  refine Sy.step (by kernel_rfl) (.bool true) (Quiet.pure (fun _ => by kernel_rfl)) ?_
  refine Sy.nil ?_
  refine Sy.then_ ?_
  refine Sy.cond_t (by kernel_rfl) (by kernel_rfl) ?_
  refine Sy.skip ?_
  refine Sy.then_ ?_
  refine Sy.seq ?_
  refine Sy.block ?_
  refine Sy.region ?_
  refine Sy.step (by kernel_rfl) (.int .i64 20) (Quiet.pure (fun _ => by kernel_rfl)) ?_
  refine Sy.step (by kernel_rfl) (.slice (some ⟨ga, oa, none⟩) 33 cb) (Quiet.pure (fun _ => by kernel_rfl)) ?_
  refine Sy.step (by kernel_rfl) (.int .i64 20) (Quiet.pure (fun _ => by kernel_rfl)) ?_
  refine Sy.step (by kernel_rfl) (.int .i64 21) (Quiet.pure (fun _ => by kernel_rfl)) ?_
  refine Sy.step (by kernel_rfl) (.pointer (some ⟨ga, oa + 21, none⟩)) (Quiet.pure (fun w => exec_index 41 _ _ ga (oa) 33 (cb) 21 rfl (by kernel_rfl) (by kernel_rfl) (by kernel_rfl) (fun _ => by kernel_rfl) (by decide) w)) ?_
  refine Sy.step (by kernel_rfl) (bv o21) (Quiet.thereOne ga (oa + 21) 5 _ _ rfl (by kernel_rfl) hs.1 _ (src_one hs 21 _ (by kernel_rfl)) Try.underlying5 rfl) ?_
  refine Sy.step (by kernel_rfl) (.pointer (some ⟨g1, 20, none⟩)) (Quiet.pure (fun _ => by kernel_rfl)) ?_
  refine Sy.write (by kernel_rfl) 1 g1 85 (bv o1 :: bv o2 :: [bv o3, bv o4, bv o5, bv o6, bv o7, bv o8, bv o9, bv o10, bv o11, bv o12, bv o13, bv o14, bv o15, bv o16, bv o17, bv o18, bv o19, bv o20, .int .u8 0, .int .u8 0, .int .u8 0, .int .u8 0, .int .u8 0, .int .u8 0, .int .u8 0, .int .u8 0, .int .u8 0, .int .u8 0, .int .u8 0, .int .u8 0]).toArray (bv o1 :: bv o2 :: [bv o3, bv o4, bv o5, bv o6, bv o7, bv o8, bv o9, bv o10, bv o11, bv o12, bv o13, bv o14, bv o15, bv o16, bv o17, bv o18, bv o19, bv o20, bv o21, .int .u8 0, .int .u8 0, .int .u8 0, .int .u8 0, .int .u8 0, .int .u8 0, .int .u8 0, .int .u8 0, .int .u8 0, .int .u8 0, .int .u8 0]).toArray (by kernel_rfl) (Writes.one 20 5 (bv o21) _ _ rfl (by kernel_rfl) (by kernel_rfl) (by kernel_rfl) rfl rfl (Nat.lt_of_lt_of_le (Nat.lt_succ_self _) (Nat.le_of_ble_eq_true (by kernel_rfl))) (by kernel_rfl)) ?_
  refine Sy.nil ?_
  refine Sy.in_ ?_
  refine Sy.then_ ?_
  refine Sy.region ?_
  refine Sy.step (by kernel_rfl) (.int .i64 20) (Quiet.pure (fun _ => by kernel_rfl)) ?_
  refine Sy.step (by kernel_rfl) (.int .i64 21) (Quiet.pure (fun _ => by kernel_rfl)) ?_
  refine Sy.step (by kernel_rfl) (.int .i64 21) (Quiet.pure (fun _ => by kernel_rfl)) ?_
  refine Sy.nil ?_
  refine Sy.again ?_
  refine Sy.tidyR (G := [(0, .slice (some ⟨ga, oa, none⟩) 33 cb), (2, .pointer (some ⟨g0, 0, none⟩)), (4, .pointer (some ⟨g1, 0, none⟩)), (5, .int .i64 21)]) (M := [(g0, 27, (pcs 0 0 false)), (g1, 85, (bv o1 :: bv o2 :: [bv o3, bv o4, bv o5, bv o6, bv o7, bv o8, bv o9, bv o10, bv o11, bv o12, bv o13, bv o14, bv o15, bv o16, bv o17, bv o18, bv o19, bv o20, bv o21, .int .u8 0, .int .u8 0, .int .u8 0, .int .u8 0, .int .u8 0, .int .u8 0, .int .u8 0, .int .u8 0, .int .u8 0, .int .u8 0, .int .u8 0]).toArray)]) [true, true] (by kernel_rfl) (all_cons (by kernel_rfl) (all_cons (by kernel_rfl) (all_cons (by kernel_rfl) (all_cons (by kernel_rfl) all_nil)))) ?_
  refine Sy.round ?_
  refine Sy.seq ?_
  refine Sy.seq ?_
  refine Sy.region ?_
  refine Sy.step (by kernel_rfl) (.int .i64 21) (Quiet.pure (fun _ => by kernel_rfl)) ?_
  refine Sy.step (by kernel_rfl) (.bool true) (Quiet.pure (fun _ => by kernel_rfl)) ?_
  refine Sy.nil ?_
  refine Sy.then_ ?_
  refine Sy.cond_t (by kernel_rfl) (by kernel_rfl) ?_
  refine Sy.skip ?_
  refine Sy.then_ ?_
  refine Sy.seq ?_
  refine Sy.block ?_
  refine Sy.region ?_
  refine Sy.step (by kernel_rfl) (.int .i64 21) (Quiet.pure (fun _ => by kernel_rfl)) ?_
  refine Sy.step (by kernel_rfl) (.slice (some ⟨ga, oa, none⟩) 33 cb) (Quiet.pure (fun _ => by kernel_rfl)) ?_
  refine Sy.step (by kernel_rfl) (.int .i64 21) (Quiet.pure (fun _ => by kernel_rfl)) ?_
  refine Sy.step (by kernel_rfl) (.int .i64 22) (Quiet.pure (fun _ => by kernel_rfl)) ?_
  refine Sy.step (by kernel_rfl) (.pointer (some ⟨ga, oa + 22, none⟩)) (Quiet.pure (fun w => exec_index 41 _ _ ga (oa) 33 (cb) 22 rfl (by kernel_rfl) (by kernel_rfl) (by kernel_rfl) (fun _ => by kernel_rfl) (by decide) w)) ?_
  refine Sy.step (by kernel_rfl) (bv o22) (Quiet.thereOne ga (oa + 22) 5 _ _ rfl (by kernel_rfl) hs.1 _ (src_one hs 22 _ (by kernel_rfl)) Try.underlying5 rfl) ?_
  refine Sy.step (by kernel_rfl) (.pointer (some ⟨g1, 21, none⟩)) (Quiet.pure (fun _ => by kernel_rfl)) ?_
  refine Sy.write (by kernel_rfl) 1 g1 85 (bv o1 :: bv o2 :: [bv o3, bv o4, bv o5, bv o6, bv o7, bv o8, bv o9, bv o10, bv o11, bv o12, bv o13, bv o14, bv o15, bv o16, bv o17, bv o18, bv o19, bv o20, bv o21, .int .u8 0, .int .u8 0, .int .u8 0, .int .u8 0, .int .u8 0, .int .u8 0, .int .u8 0, .int .u8 0, .int .u8 0, .int .u8 0, .int .u8 0]).toArray (bv o1 :: bv o2 :: [bv o3, bv o4, bv o5, bv o6, bv o7, bv o8, bv o9, bv o10, bv o11, bv o12, bv o13, bv o14, bv o15, bv o16, bv o17, bv o18, bv o19, bv o20, bv o21, bv o22, .int .u8 0, .int .u8 0, .int .u8 0, .int .u8 0, .int .u8 0, .int .u8 0, .int .u8 0, .int .u8 0, .int .u8 0, .int .u8 0]).toArray (by kernel_rfl) (Writes.one 21 5 (bv o22) _ _ rfl (by kernel_rfl) (by kernel_rfl) (by kernel_rfl) rfl rfl (Nat.lt_of_lt_of_le (Nat.lt_succ_self _) (Nat.le_of_ble_eq_true (by kernel_rfl))) (by kernel_rfl)) ?_
  refine Sy.nil ?_
  refine Sy.in_ ?_
  refine Sy.then_ ?_
  refine Sy.region ?_
  refine Sy.step (by kernel_rfl) (.int .i64 21) (Quiet.pure (fun _ => by kernel_rfl)) ?_
  refine Sy.step (by kernel_rfl) (.int .i64 22) (Quiet.pure (fun _ => by kernel_rfl)) ?_
  refine Sy.step (by kernel_rfl) (.int .i64 22) (Quiet.pure (fun _ => by kernel_rfl)) ?_
  refine Sy.nil ?_
  refine Sy.again ?_
  refine Sy.tidyR (G := [(0, .slice (some ⟨ga, oa, none⟩) 33 cb), (2, .pointer (some ⟨g0, 0, none⟩)), (4, .pointer (some ⟨g1, 0, none⟩)), (5, .int .i64 22)]) (M := [(g0, 27, (pcs 0 0 false)), (g1, 85, (bv o1 :: bv o2 :: [bv o3, bv o4, bv o5, bv o6, bv o7, bv o8, bv o9, bv o10, bv o11, bv o12, bv o13, bv o14, bv o15, bv o16, bv o17, bv o18, bv o19, bv o20, bv o21, bv o22, .int .u8 0, .int .u8 0, .int .u8 0, .int .u8 0, .int .u8 0, .int .u8 0, .int .u8 0, .int .u8 0, .int .u8 0, .int .u8 0]).toArray)]) [true, true] (by kernel_rfl) (all_cons (by kernel_rfl) (all_cons (by kernel_rfl) (all_cons (by kernel_rfl) (all_cons (by kernel_rfl) all_nil)))) ?_
  refine Sy.round ?_
  refine Sy.seq ?_
  refine Sy.seq ?_
  refine Sy.region ?_
  refine Sy.step (by kernel_rfl) (.int .i64 22) (Quiet.pure (fun _ => by kernel_rfl)) ?_
  refine Sy.step (by kernel_rfl) (.bool true) (Quiet.pure (fun _ => by kernel_rfl)) ?_
  refine Sy.nil ?_
  refine Sy.then_ ?_
  refine Sy.cond_t (by kernel_rfl) (by kernel_rfl) ?_
  refine Sy.skip ?_
  refine Sy.then_ ?_
  refine Sy.seq ?_
  refine Sy.block ?_
  refine Sy.region ?_
  refine Sy.step (by kernel_rfl) (.int .i64 22) (Quiet.pure (fun _ => by kernel_rfl)) ?_
  refine Sy.step (by kernel_rfl) (.slice (some ⟨ga, oa, none⟩) 33 cb) (Quiet.pure (fun _ => by kernel_rfl)) ?_
  refine Sy.step (by kernel_rfl) (.int .i64 22) (Quiet.pure (fun _ => by kernel_rfl)) ?_
  refine Sy.step (by kernel_rfl) (.int .i64 23) (Quiet.pure (fun _ => by kernel_rfl)) ?_
  refine Sy.step (by kernel_rfl) (.pointer (some ⟨ga, oa + 23, none⟩)) (Quiet.pure (fun w => exec_index 41 _ _ ga (oa) 33 (cb) 23 rfl (by kernel_rfl) (by kernel_rfl) (by kernel_rfl) (fun _ => by kernel_rfl) (by decide) w)) ?_
  refine Sy.step (by kernel_rfl) (bv o23) (Quiet.thereOne ga (oa + 23) 5 _ _ rfl (by kernel_rfl) hs.1 _ (src_one hs 23 _ (by kernel_rfl)) Try.underlying5 rfl) ?_
  refine Sy.step (by kernel_rfl) (.pointer (some ⟨g1, 22, none⟩)) (Quiet.pure (fun _ => by kernel_rfl)) ?_
  refine Sy.write (by kernel_rfl) 1 g1 85 (bv o1 :: bv o2 :: [bv o3, bv o4, bv o5, bv o6, bv o7, bv o8, bv o9, bv o10, bv o11, bv o12, bv o13, bv o14, bv o15, bv o16, bv o17, bv o18, bv o19, bv o20, bv o21, bv o22, .int .u8 0, .int .u8 0, .int .u8 0, .int .u8 0, .int .u8 0, .int .u8 0, .int .u8 0, .int .u8 0, .int .u8 0, .int .u8 0]).toArray (bv o1 :: bv o2 :: [bv o3, bv o4, bv o5, bv o6, bv o7, bv o8, bv o9, bv o10, bv o11, bv o12, bv o13, bv o14, bv o15, bv o16, bv o17, bv o18, bv o19, bv o20, bv o21, bv o22, bv o23, .int .u8 0, .int .u8 0, .int .u8 0, .int .u8 0, .int .u8 0, .int .u8 0, .int .u8 0, .int .u8 0, .int .u8 0]).toArray (by kernel_rfl) (Writes.one 22 5 (bv o23) _ _ rfl (by kernel_rfl) (by kernel_rfl) (by kernel_rfl) rfl rfl (Nat.lt_of_lt_of_le (Nat.lt_succ_self _) (Nat.le_of_ble_eq_true (by kernel_rfl))) (by kernel_rfl)) ?_
  refine Sy.nil ?_
  refine Sy.in_ ?_
  refine Sy.then_ ?_
  refine Sy.region ?_
  refine Sy.step (by kernel_rfl) (.int .i64 22) (Quiet.pure (fun _ => by kernel_rfl)) ?_
  refine Sy.step (by kernel_rfl) (.int .i64 23) (Quiet.pure (fun _ => by kernel_rfl)) ?_
  refine Sy.step (by kernel_rfl) (.int .i64 23) (Quiet.pure (fun _ => by kernel_rfl)) ?_
  refine Sy.nil ?_
  refine Sy.again ?_
  refine Sy.tidyR (G := [(0, .slice (some ⟨ga, oa, none⟩) 33 cb), (2, .pointer (some ⟨g0, 0, none⟩)), (4, .pointer (some ⟨g1, 0, none⟩)), (5, .int .i64 23)]) (M := [(g0, 27, (pcs 0 0 false)), (g1, 85, (bv o1 :: bv o2 :: [bv o3, bv o4, bv o5, bv o6, bv o7, bv o8, bv o9, bv o10, bv o11, bv o12, bv o13, bv o14, bv o15, bv o16, bv o17, bv o18, bv o19, bv o20, bv o21, bv o22, bv o23, .int .u8 0, .int .u8 0, .int .u8 0, .int .u8 0, .int .u8 0, .int .u8 0, .int .u8 0, .int .u8 0, .int .u8 0]).toArray)]) [true, true] (by kernel_rfl) (all_cons (by kernel_rfl) (all_cons (by kernel_rfl) (all_cons (by kernel_rfl) (all_cons (by kernel_rfl) all_nil)))) ?_
  refine Sy.round ?_
  refine Sy.seq ?_
  refine Sy.seq ?_
  refine Sy.region ?_
  refine Sy.step (by kernel_rfl) (.int .i64 23) (Quiet.pure (fun _ => by kernel_rfl)) ?_
  refine Sy.step (by kernel_rfl) (.bool true) (Quiet.pure (fun _ => by kernel_rfl)) ?_
  refine Sy.nil ?_
  refine Sy.then_ ?_
  refine Sy.cond_t (by kernel_rfl) (by kernel_rfl) ?_
  refine Sy.skip ?_
  refine Sy.then_ ?_
  refine Sy.seq ?_
  refine Sy.block ?_
  refine Sy.region ?_
  refine Sy.step (by kernel_rfl) (.int .i64 23) (Quiet.pure (fun _ => by kernel_rfl)) ?_
  refine Sy.step (by kernel_rfl) (.slice (some ⟨ga, oa, none⟩) 33 cb) (Quiet.pure (fun _ => by kernel_rfl)) ?_
  refine Sy.step (by kernel_rfl) (.int .i64 23) (Quiet.pure (fun _ => by kernel_rfl)) ?_
  refine Sy.step (by kernel_rfl) (.int .i64 24) (Quiet.pure (fun _ => by kernel_rfl)) ?_
  refine Sy.step (by kernel_rfl) (.pointer (some ⟨ga, oa + 24, none⟩)) (Quiet.pure (fun w => exec_index 41 _ _ ga (oa) 33 (cb) 24 rfl (by kernel_rfl) (by kernel_rfl) (by kernel_rfl) (fun _ => by kernel_rfl) (by decide) w)) ?_
  refine Sy.step (by kernel_rfl) (bv o24) (Quiet.thereOne ga (oa + 24) 5 _ _ rfl (by kernel_rfl) hs.1 _ (src_one hs 24 _ (by kernel_rfl)) Try.underlying5 rfl) ?_
  refine Sy.step (by kernel_rfl) (.pointer (some ⟨g1, 23, none⟩)) (Quiet.pure (fun _ => by kernel_rfl)) ?_
  refine Sy.write (by kernel_rfl) 1 g1 85 (bv o1 :: bv o2 :: [bv o3, bv o4, bv o5, bv o6, bv o7, bv o8, bv o9, bv o10, bv o11, bv o12, bv o13, bv o14, bv o15, bv o16, bv o17, bv o18, bv o19, bv o20, bv o21, bv o22, bv o23, .int .u8 0, .int .u8 0, .int .u8 0, .int .u8 0, .int .u8 0, .int .u8 0, .int .u8 0, .int .u8 0, .int .u8 0]).toArray (bv o1 :: bv o2 :: [bv o3, bv o4, bv o5, bv o6, bv o7, bv o8, bv o9, bv o10, bv o11, bv o12, bv o13, bv o14, bv o15, bv o16, bv o17, bv o18, bv o19, bv o20, bv o21, bv o22, bv o23, bv o24, .int .u8 0, .int .u8 0, .int .u8 0, .int .u8 0, .int .u8 0, .int .u8 0, .int .u8 0, .int .u8 0]).toArray (by kernel_rfl) (Writes.one 23 5 (bv o24) _ _ rfl (by kernel_rfl) (by kernel_rfl) (by kernel_rfl) rfl rfl (Nat.lt_of_lt_of_le (Nat.lt_succ_self _) (Nat.le_of_ble_eq_true (by kernel_rfl))) (by kernel_rfl)) ?_
  refine Sy.nil ?_
  refine Sy.in_ ?_
  refine Sy.then_ ?_
  refine Sy.region ?_
  refine Sy.step (by kernel_rfl) (.int .i64 23) (Quiet.pure (fun _ => by kernel_rfl)) ?_
  refine Sy.step (by kernel_rfl) (.int .i64 24) (Quiet.pure (fun _ => by kernel_rfl)) ?_
  refine Sy.step (by kernel_rfl) (.int .i64 24) (Quiet.pure (fun _ => by kernel_rfl)) ?_
  refine Sy.nil ?_
  refine Sy.again ?_
  refine Sy.tidyR (G := [(0, .slice (some ⟨ga, oa, none⟩) 33 cb), (2, .pointer (some ⟨g0, 0, none⟩)), (4, .pointer (some ⟨g1, 0, none⟩)), (5, .int .i64 24)]) (M := [(g0, 27, (pcs 0 0 false)), (g1, 85, (bv o1 :: bv o2 :: [bv o3, bv o4, bv o5, bv o6, bv o7, bv o8, bv o9, bv o10, bv o11, bv o12, bv o13, bv o14, bv o15, bv o16, bv o17, bv o18, bv o19, bv o20, bv o21, bv o22, bv o23, bv o24, .int .u8 0, .int .u8 0, .int .u8 0, .int .u8 0, .int .u8 0, .int .u8 0, .int .u8 0, .int .u8 0]).toArray)]) [true, true] (by kernel_rfl) (all_cons (by kernel_rfl) (all_cons (by kernel_rfl) (all_cons (by kernel_rfl) (all_cons (by kernel_rfl) all_nil)))) ?_
  refine Sy.round ?_
  refine Sy.seq ?_
  refine Sy.seq ?_
  refine Sy.region ?_
  refine Sy.step (by kernel_rfl) (.int .i64 24) (Quiet.pure (fun _ => by kernel_rfl)) ?_
  refine Sy.step (by kernel_rfl) (.bool true) (Quiet.pure (fun _ => by kernel_rfl)) ?_
  refine Sy.nil ?_
  refine Sy.then_ ?_
  refine Sy.cond_t (by kernel_rfl) (by kernel_rfl) ?_
  refine Sy.skip ?_
  refine Sy.then_ ?_
  refine Sy.seq ?_
  refine Sy.block ?_
  refine Sy.region ?_
  refine Sy.step (by kernel_rfl) (.int .i64 24) (Quiet.pure (fun _ => by kernel_rfl)) ?_
  refine Sy.step (by kernel_rfl) (.slice (some ⟨ga, oa, none⟩) 33 cb) (Quiet.pure (fun _ => by kernel_rfl)) ?_
  refine Sy.step (by kernel_rfl) (.int .i64 24) (Quiet.pure (fun _ => by kernel_rfl)) ?_
  refine Sy.step (by kernel_rfl) (.int .i64 25) (Quiet.pure (fun _ => by kernel_rfl)) ?_
  refine Sy.step (by kernel_rfl) (.pointer (some ⟨ga, oa + 25, none⟩)) (Quiet.pure (fun w => exec_index 41 _ _ ga (oa) 33 (cb) 25 rfl (by kernel_rfl) (by kernel_rfl) (by kernel_rfl) (fun _ => by kernel_rfl) (by decide) w)) ?_
  refine Sy.step (by kernel_rfl) (bv o25) (Quiet.thereOne ga (oa + 25) 5 _ _ rfl (by kernel_rfl) hs.1 _ (src_one hs 25 _ (by kernel_rfl)) Try.underlying5 rfl) ?_
  refine Sy.step (by kernel_rfl) (.pointer (some ⟨g1, 24, none⟩)) (Quiet.pure (fun _ => by kernel_rfl)) ?_
  refine Sy.write (by kernel_rfl) 1 g1 85 (bv o1 :: bv o2 :: [bv o3, bv o4, bv o5, bv o6, bv o7, bv o8, bv o9, bv o10, bv o11, bv o12, bv o13, bv o14, bv o15, bv o16, bv o17, bv o18, bv o19, bv o20, bv o21, bv o22, bv o23, bv o24, .int .u8 0, .int .u8 0, .int .u8 0, .int .u8 0, .int .u8 0, .int .u8 0, .int .u8 0, .int .u8 0]).toArray (bv o1 :: bv o2 :: [bv o3, bv o4, bv o5, bv o6, bv o7, bv o8, bv o9, bv o10, bv o11, bv o12, bv o13, bv o14, bv o15, bv o16, bv o17, bv o18, bv o19, bv o20, bv o21, bv o22, bv o23, bv o24, bv o25, .int .u8 0, .int .u8 0, .int .u8 0, .int .u8 0, .int .u8 0, .int .u8 0, .int .u8 0]).toArray (by kernel_rfl) (Writes.one 24 5 (bv o25) _ _ rfl (by kernel_rfl) (by kernel_rfl) (by kernel_rfl) rfl rfl (Nat.lt_of_lt_of_le (Nat.lt_succ_self _) (Nat.le_of_ble_eq_true (by kernel_rfl))) (by kernel_rfl)) ?_
  refine Sy.nil ?_
  refine Sy.in_ ?_
  refine Sy.then_ ?_
  refine Sy.region ?_
  refine Sy.step (by kernel_rfl) (.int .i64 24) (Quiet.pure (fun _ => by kernel_rfl)) ?_
  refine Sy.step (by kernel_rfl) (.int .i64 25) (Quiet.pure (fun _ => by kernel_rfl)) ?_
  refine Sy.step (by kernel_rfl) (.int .i64 25) (Quiet.pure (fun _ => by kernel_rfl)) ?_
  refine Sy.nil ?_
  refine Sy.again ?_
  refine Sy.tidyR (G := [(0, .slice (some ⟨ga, oa, none⟩) 33 cb), (2, .pointer (some ⟨g0, 0, none⟩)), (4, .pointer (some ⟨g1, 0, none⟩)), (5, .int .i64 25)]) (M := [(g0, 27, (pcs 0 0 false)), (g1, 85, (bv o1 :: bv o2 :: [bv o3, bv o4, bv o5, bv o6, bv o7, bv o8, bv o9, bv o10, bv o11, bv o12, bv o13, bv o14, bv o15, bv o16, bv o17, bv o18, bv o19, bv o20, bv o21, bv o22, bv o23, bv o24, bv o25, .int .u8 0, .int .u8 0, .int .u8 0, .int .u8 0, .int .u8 0, .int .u8 0, .int .u8 0]).toArray)]) [true, true] (by kernel_rfl) (all_cons (by kernel_rfl) (all_cons (by kernel_rfl) (all_cons (by kernel_rfl) (all_cons (by kernel_rfl) all_nil)))) ?_
  refine Sy.round ?_
  refine Sy.seq ?_
  refine Sy.seq ?_
  refine Sy.region ?_
  refine Sy.step (by kernel_rfl) (.int .i64 25) (Quiet.pure (fun _ => by kernel_rfl)) ?_
  refine Sy.step (by kernel_rfl) (.bool true) (Quiet.pure (fun _ => by kernel_rfl)) ?_
  refine Sy.nil ?_
  refine Sy.then_ ?_
  refine Sy.cond_t (by kernel_rfl) (by kernel_rfl) ?_
  refine Sy.skip ?_
  refine Sy.then_ ?_
  refine Sy.seq ?_
  refine Sy.block ?_
  refine Sy.region ?_
  refine Sy.step (by kernel_rfl) (.int .i64 25) (Quiet.pure (fun _ => by kernel_rfl)) ?_
  refine Sy.step (by kernel_rfl) (.slice (some ⟨ga, oa, none⟩) 33 cb) (Quiet.pure (fun _ => by kernel_rfl)) ?_
  refine Sy.step (by kernel_rfl) (.int .i64 25) (Quiet.pure (fun _ => by kernel_rfl)) ?_
  refine Sy.step (by kernel_rfl) (.int .i64 26) (Quiet.pure (fun _ => by kernel_rfl)) ?_
  refine Sy.step (by kernel_rfl) (.pointer (some ⟨ga, oa + 26, none⟩)) (Quiet.pure (fun w => exec_index 41 _ _ ga (oa) 33 (cb) 26 rfl (by kernel_rfl) (by kernel_rfl) (by kernel_rfl) (fun _ => by kernel_rfl) (by decide) w)) ?_
  refine Sy.step (by kernel_rfl) (bv o26) (Quiet.thereOne ga (oa + 26) 5 _ _ rfl (by kernel_rfl) hs.1 _ (src_one hs 26 _ (by kernel_rfl)) Try.underlying5 rfl) ?_
  refine Sy.step (by kernel_rfl) (.pointer (some ⟨g1, 25, none⟩)) (Quiet.pure (fun _ => by kernel_rfl)) ?_
  refine Sy.write (by kernel_rfl) 1 g1 85 (bv o1 :: bv o2 :: [bv o3, bv o4, bv o5, bv o6, bv o7, bv o8, bv o9, bv o10, bv o11, bv o12, bv o13, bv o14, bv o15, bv o16, bv o17, bv o18, bv o19, bv o20, bv o21, bv o22, bv o23, bv o24, bv o25, .int .u8 0, .int .u8 0, .int .u8 0, .int .u8 0, .int .u8 0, .int .u8 0, .int .u8 0]).toArray (bv o1 :: bv o2 :: [bv o3, bv o4, bv o5, bv o6, bv o7, bv o8, bv o9, bv o10, bv o11, bv o12, bv o13, bv o14, bv o15, bv o16, bv o17, bv o18, bv o19, bv o20, bv o21, bv o22, bv o23, bv o24, bv o25, bv o26, .int .u8 0, .int .u8 0, .int .u8 0, .int .u8 0, .int .u8 0, .int .u8 0]).toArray (by kernel_rfl) (Writes.one 25 5 (bv o26) _ _ rfl (by kernel_rfl) (by kernel_rfl) (by kernel_rfl) rfl rfl (Nat.lt_of_lt_of_le (Nat.lt_succ_self _) (Nat.le_of_ble_eq_true (by kernel_rfl))) (by kernel_rfl)) ?_
  refine Sy.nil ?_
  refine Sy.in_ ?_
  refine Sy.then_ ?_
  refine Sy.region ?_
  refine Sy.step (by kernel_rfl) (.int .i64 25) (Quiet.pure (fun _ => by kernel_rfl)) ?_
  refine Sy.step (by kernel_rfl) (.int .i64 26) (Quiet.pure (fun _ => by kernel_rfl)) ?_
  refine Sy.step (by kernel_rfl) (.int .i64 26) (Quiet.pure (fun _ => by kernel_rfl)) ?_
  refine Sy.nil ?_
  refine Sy.again ?_
  refine Sy.tidyR (G := [(0, .slice (some ⟨ga, oa, none⟩) 33 cb), (2, .pointer (some ⟨g0, 0, none⟩)), (4, .pointer (some ⟨g1, 0, none⟩)), (5, .int .i64 26)]) (M := [(g0, 27, (pcs 0 0 false)), (g1, 85, (bv o1 :: bv o2 :: [bv o3, bv o4, bv o5, bv o6, bv o7, bv o8, bv o9, bv o10, bv o11, bv o12, bv o13, bv o14, bv o15, bv o16, bv o17, bv o18, bv o19, bv o20, bv o21, bv o22, bv o23, bv o24, bv o25, bv o26, .int .u8 0, .int .u8 0, .int .u8 0, .int .u8 0, .int .u8 0, .int .u8 0]).toArray)]) [true, true] (by kernel_rfl) (all_cons (by kernel_rfl) (all_cons (by kernel_rfl) (all_cons (by kernel_rfl) (all_cons (by kernel_rfl) all_nil)))) ?_
  refine Sy.round ?_
  refine Sy.seq ?_
  refine Sy.seq ?_
  refine Sy.region ?_
  refine Sy.step (by kernel_rfl) (.int .i64 26) (Quiet.pure (fun _ => by kernel_rfl)) ?_
  refine Sy.step (by kernel_rfl) (.bool true) (Quiet.pure (fun _ => by kernel_rfl)) ?_
  refine Sy.nil ?_
  refine Sy.then_ ?_
  refine Sy.cond_t (by kernel_rfl) (by kernel_rfl) ?_
  refine Sy.skip ?_
  refine Sy.then_ ?_
  refine Sy.seq ?_
  refine Sy.block ?_
  refine Sy.region ?_
  refine Sy.step (by kernel_rfl) (.int .i64 26) (Quiet.pure (fun _ => by kernel_rfl)) ?_
  refine Sy.step (by kernel_rfl) (.slice (some ⟨ga, oa, none⟩) 33 cb) (Quiet.pure (fun _ => by kernel_rfl)) ?_
  refine Sy.step (by kernel_rfl) (.int .i64 26) (Quiet.pure (fun _ => by kernel_rfl)) ?_
  refine Sy.step (by kernel_rfl) (.int .i64 27) (Quiet.pure (fun _ => by kernel_rfl)) ?_
  refine Sy.step (by kernel_rfl) (.pointer (some ⟨ga, oa + 27, none⟩)) (Quiet.pure (fun w => exec_index 41 _ _ ga (oa) 33 (cb) 27 rfl (by kernel_rfl) (by kernel_rfl) (by kernel_rfl) (fun _ => by kernel_rfl) (by decide) w)) ?_
  refine Sy.step (by kernel_rfl) (bv o27) (Quiet.thereOne ga (oa + 27) 5 _ _ rfl (by kernel_rfl) hs.1 _ (src_one hs 27 _ (by kernel_rfl)) Try.underlying5 rfl) ?_
  refine Sy.step (by kernel_rfl) (.pointer (some ⟨g1, 26, none⟩)) (Quiet.pure (fun _ => by kernel_rfl)) ?_
  refine Sy.write (by kernel_rfl) 1 g1 85 (bv o1 :: bv o2 :: [bv o3, bv o4, bv o5, bv o6, bv o7, bv o8, bv o9, bv o10, bv o11, bv o12, bv o13, bv o14, bv o15, bv o16, bv o17, bv o18, bv o19, bv o20, bv o21, bv o22, bv o23, bv o24, bv o25, bv o26, .int .u8 0, .int .u8 0, .int .u8 0, .int .u8 0, .int .u8 0, .int .u8 0]).toArray (bv o1 :: bv o2 :: [bv o3, bv o4, bv o5, bv o6, bv o7, bv o8, bv o9, bv o10, bv o11, bv o12, bv o13, bv o14, bv o15, bv o16, bv o17, bv o18, bv o19, bv o20, bv o21, bv o22, bv o23, bv o24, bv o25, bv o26, bv o27, .int .u8 0, .int .u8 0, .int .u8 0, .int .u8 0, .int .u8 0]).toArray (by kernel_rfl) (Writes.one 26 5 (bv o27) _ _ rfl (by kernel_rfl) (by kernel_rfl) (by kernel_rfl) rfl rfl (Nat.lt_of_lt_of_le (Nat.lt_succ_self _) (Nat.le_of_ble_eq_true (by kernel_rfl))) (by kernel_rfl)) ?_
  refine Sy.nil ?_
  refine Sy.in_ ?_
  refine Sy.then_ ?_
  refine Sy.region ?_
  refine Sy.step (by kernel_rfl) (.int .i64 26) (Quiet.pure (fun _ => by kernel_rfl)) ?_
  refine Sy.step (by kernel_rfl) (.int .i64 27) (Quiet.pure (fun _ => by kernel_rfl)) ?_
  refine Sy.step (by kernel_rfl) (.int .i64 27) (Quiet.pure (fun _ => by kernel_rfl)) ?_
  refine Sy.nil ?_
  refine Sy.again ?_
  refine Sy.tidyR (G := [(0, .slice (some ⟨ga, oa, none⟩) 33 cb), (2, .pointer (some ⟨g0, 0, none⟩)), (4, .pointer (some ⟨g1, 0, none⟩)), (5, .int .i64 27)]) (M := [(g0, 27, (pcs 0 0 false)), (g1, 85, (bv o1 :: bv o2 :: [bv o3, bv o4, bv o5, bv o6, bv o7, bv o8, bv o9, bv o10, bv o11, bv o12, bv o13, bv o14, bv o15, bv o16, bv o17, bv o18, bv o19, bv o20, bv o21, bv o22, bv o23, bv o24, bv o25, bv o26, bv o27, .int .u8 0, .int .u8 0, .int .u8 0, .int .u8 0, .int .u8 0]).toArray)]) [true, true] (by kernel_rfl) (all_cons (by kernel_rfl) (all_cons (by kernel_rfl) (all_cons (by kernel_rfl) (all_cons (by kernel_rfl) all_nil)))) ?_
  refine Sy.round ?_
  refine Sy.seq ?_
  refine Sy.seq ?_
  refine Sy.region ?_
  refine Sy.step (by kernel_rfl) (.int .i64 27) (Quiet.pure (fun _ => by kernel_rfl)) ?_
  refine Sy.step (by kernel_rfl) (.bool true) (Quiet.pure (fun _ => by kernel_rfl)) ?_
  refine Sy.nil ?_
  refine Sy.then_ ?_
  refine Sy.cond_t (by kernel_rfl) (by kernel_rfl) ?_
  refine Sy.skip ?_
  refine Sy.then_ ?_
  refine Sy.seq ?_
  refine Sy.block ?_
  refine Sy.region ?_
  refine Sy.step (by kernel_rfl) (.int .i64 27) (Quiet.pure (fun _ => by kernel_rfl)) ?_
  refine Sy.step (by kernel_rfl) (.slice (some ⟨ga, oa, none⟩) 33 cb) (Quiet.pure (fun _ => by kernel_rfl)) ?_
  refine Sy.step (by kernel_rfl) (.int .i64 27) (Quiet.pure (fun _ => by kernel_rfl)) ?_
  refine Sy.step (by kernel_rfl) (.int .i64 28) (Quiet.pure (fun _ => by kernel_rfl)) ?_
  refine Sy.step (by kernel_rfl) (.pointer (some ⟨ga, oa + 28, none⟩)) (Quiet.pure (fun w => exec_index 41 _ _ ga (oa) 33 (cb) 28 rfl (by kernel_rfl) (by kernel_rfl) (by kernel_rfl) (fun _ => by kernel_rfl) (by decide) w)) ?_
  refine Sy.step (by kernel_rfl) (bv o28) (Quiet.thereOne ga (oa + 28) 5 _ _ rfl (by kernel_rfl) hs.1 _ (src_one hs 28 _ (by kernel_rfl)) Try.underlying5 rfl) ?_
  refine Sy.step (by kernel_rfl) (.pointer (some ⟨g1, 27, none⟩)) (Quiet.pure (fun _ => by kernel_rfl)) ?_
  refine Sy.write (by kernel_rfl) 1 g1 85 (bv o1 :: bv o2 :: [bv o3, bv o4, bv o5, bv o6, bv o7, bv o8, bv o9, bv o10, bv o11, bv o12, bv o13, bv o14, bv o15, bv o16, bv o17, bv o18, bv o19, bv o20, bv o21, bv o22, bv o23, bv o24, bv o25, bv o26, bv o27, .int .u8 0, .int .u8 0, .int .u8 0, .int .u8 0, .int .u8 0]).toArray (bv o1 :: bv o2 :: [bv o3, bv o4, bv o5, bv o6, bv o7, bv o8, bv o9, bv o10, bv o11, bv o12, bv o13, bv o14, bv o15, bv o16, bv o17, bv o18, bv o19, bv o20, bv o21, bv o22, bv o23, bv o24, bv o25, bv o26, bv o27, bv o28, .int .u8 0, .int .u8 0, .int .u8 0, .int .u8 0]).toArray (by kernel_rfl) (Writes.one 27 5 (bv o28) _ _ rfl (by kernel_rfl) (by kernel_rfl) (by kernel_rfl) rfl rfl (Nat.lt_of_lt_of_le (Nat.lt_succ_self _) (Nat.le_of_ble_eq_true (by kernel_rfl))) (by kernel_rfl)) ?_
  refine Sy.nil ?_
  refine Sy.in_ ?_
  refine Sy.then_ ?_
  refine Sy.region ?_
  refine Sy.step (by kernel_rfl) (.int .i64 27) (Quiet.pure (fun _ => by kernel_rfl)) ?_
  refine Sy.step (by kernel_rfl) (.int .i64 28) (Quiet.pure (fun _ => by kernel_rfl)) ?_
  refine Sy.step (by kernel_rfl) (.int .i64 28) (Quiet.pure (fun _ => by kernel_rfl)) ?_
  refine Sy.nil ?_
  refine Sy.again ?_
  refine Sy.tidyR (G := [(0, .slice (some ⟨ga, oa, none⟩) 33 cb), (2, .pointer (some ⟨g0, 0, none⟩)), (4, .pointer (some ⟨g1, 0, none⟩)), (5, .int .i64 28)]) (M := [(g0, 27, (pcs 0 0 false)), (g1, 85, (bv o1 :: bv o2 :: [bv o3, bv o4, bv o5, bv o6, bv o7, bv o8, bv o9, bv o10, bv o11, bv o12, bv o13, bv o14, bv o15, bv o16, bv o17, bv o18, bv o19, bv o20, bv o21, bv o22, bv o23, bv o24, bv o25, bv o26, bv o27, bv o28, .int .u8 0, .int .u8 0, .int .u8 0, .int .u8 0]).toArray)]) [true, true] (by kernel_rfl) (all_cons (by kernel_rfl) (all_cons (by kernel_rfl) (all_cons (by kernel_rfl) (all_cons (by kernel_rfl) all_nil)))) ?_
  refine Sy.round ?_
  refine Sy.seq ?_
  refine Sy.seq ?_
  refine Sy.region ?_
  refine Sy.step (by kernel_rfl) (.int .i64 28) (Quiet.pure (fun _ => by kernel_rfl)) ?_
  refine Sy.step (by kernel_rfl) (.bool true) (Quiet.pure (fun _ => by kernel_rfl)) ?_
  refine Sy.nil ?_
  refine Sy.then_ ?_
  refine Sy.cond_t (by kernel_rfl) (by kernel_rfl) ?_
  refine Sy.skip ?_
  refine Sy.then_ ?_
  refine Sy.seq ?_
  refine Sy.block ?_
  refine Sy.region ?_
  refine Sy.step (by kernel_rfl) (.int .i64 28) (Quiet.pure (fun _ => by kernel_rfl)) ?_
  refine Sy.step (by kernel_rfl) (.slice (some ⟨ga, oa, none⟩) 33 cb) (Quiet.pure (fun _ => by kernel_rfl)) ?_
  refine Sy.step (by kernel_rfl) (.int .i64 28) (Quiet.pure (fun _ => by kernel_rfl)) ?_
  refine Sy.step (by kernel_rfl) (.int .i64 29) (Quiet.pure (fun _ => by kernel_rfl)) ?_
  refine Sy.step (by kernel_rfl) (.pointer (some ⟨ga, oa + 29, none⟩)) (Quiet.pure (fun w => exec_index 41 _ _ ga (oa) 33 (cb) 29 rfl (by kernel_rfl) (by kernel_rfl) (by kernel_rfl) (fun _ => by kernel_rfl) (by decide) w)) ?_
  refine Sy.step (by kernel_rfl) (bv o29) (Quiet.thereOne ga (oa + 29) 5 _ _ rfl (by kernel_rfl) hs.1 _ (src_one hs 29 _ (by kernel_rfl)) Try.underlying5 rfl) ?_
  refine Sy.step (by kernel_rfl) (.pointer (some ⟨g1, 28, none⟩)) (Quiet.pure (fun _ => by kernel_rfl)) ?_
  refine Sy.write (by kernel_rfl) 1 g1 85 (bv o1 :: bv o2 :: [bv o3, bv o4, bv o5, bv o6, bv o7, bv o8, bv o9, bv o10, bv o11, bv o12, bv o13, bv o14, bv o15, bv o16, bv o17, bv o18, bv o19, bv o20, bv o21, bv o22, bv o23, bv o24, bv o25, bv o26, bv o27, bv o28, .int .u8 0, .int .u8 0, .int .u8 0, .int .u8 0]).toArray (bv o1 :: bv o2 :: [bv o3, bv o4, bv o5, bv o6, bv o7, bv o8, bv o9, bv o10, bv o11, bv o12, bv o13, bv o14, bv o15, bv o16, bv o17, bv o18, bv o19, bv o20, bv o21, bv o22, bv o23, bv o24, bv o25, bv o26, bv o27, bv o28, bv o29, .int .u8 0, .int .u8 0, .int .u8 0]).toArray (by kernel_rfl) (Writes.one 28 5 (bv o29) _ _ rfl (by kernel_rfl) (by kernel_rfl) (by kernel_rfl) rfl rfl (Nat.lt_of_lt_of_le (Nat.lt_succ_self _) (Nat.le_of_ble_eq_true (by kernel_rfl))) (by kernel_rfl)) ?_
  refine Sy.nil ?_
  refine Sy.in_ ?_
  refine Sy.then_ ?_
  refine Sy.region ?_
  refine Sy.step (by kernel_rfl) (.int .i64 28) (Quiet.pure (fun _ => by kernel_rfl)) ?_
  refine Sy.step (by kernel_rfl) (.int .i64 29) (Quiet.pure (fun _ => by kernel_rfl)) ?_
  refine Sy.step (by kernel_rfl) (.int .i64 29) (Quiet.pure (fun _ => by kernel_rfl)) ?_
  refine Sy.nil ?_
  refine Sy.again ?_
  refine Sy.tidyR (G := [(0, .slice (some ⟨ga, oa, none⟩) 33 cb), (2, .pointer (some ⟨g0, 0, none⟩)), (4, .pointer (some ⟨g1, 0, none⟩)), (5, .int .i64 29)]) (M := [(g0, 27, (pcs 0 0 false)), (g1, 85, (bv o1 :: bv o2 :: [bv o3, bv o4, bv o5, bv o6, bv o7, bv o8, bv o9, bv o10, bv o11, bv o12, bv o13, bv o14, bv o15, bv o16, bv o17, bv o18, bv o19, bv o20, bv o21, bv o22, bv o23, bv o24, bv o25, bv o26, bv o27, bv o28, bv o29, .int .u8 0, .int .u8 0, .int .u8 0]).toArray)]) [true, true] (by kernel_rfl) (all_cons (by kernel_rfl) (all_cons (by kernel_rfl) (all_cons (by kernel_rfl) (all_cons (by kernel_rfl) all_nil)))) ?_
  refine Sy.round ?_
  refine Sy.seq ?_
  refine Sy.seq ?_
  refine Sy.region ?_
  refine Sy.step (by kernel_rfl) (.int .i64 29) (Quiet.pure (fun _ => by kernel_rfl)) ?_
  refine Sy.step (by kernel_rfl) (.bool true) (Quiet.pure (fun _ => by kernel_rfl)) ?_
  refine Sy.nil ?_
  refine Sy.then_ ?_
  refine Sy.cond_t (by kernel_rfl) (by kernel_rfl) ?_
  refine Sy.skip ?_
  refine Sy.then_ ?_
  refine Sy.seq ?_
  refine Sy.block ?_
  refine Sy.region ?_
  refine Sy.step (by kernel_rfl) (.int .i64 29) (Quiet.pure (fun _ => by kernel_rfl)) ?_
  refine Sy.step (by kernel_rfl) (.slice (some ⟨ga, oa, none⟩) 33 cb) (Quiet.pure (fun _ => by kernel_rfl)) ?_
  refine Sy.step (by kernel_rfl) (.int .i64 29) (Quiet.pure (fun _ => by kernel_rfl)) ?_
  refine Sy.step (by kernel_rfl) (.int .i64 30) (Quiet.pure (fun _ => by kernel_rfl)) ?_
  refine Sy.step (by kernel_rfl) (.pointer (some ⟨ga, oa + 30, none⟩)) (Quiet.pure (fun w => exec_index 41 _ _ ga (oa) 33 (cb) 30 rfl (by kernel_rfl) (by kernel_rfl) (by kernel_rfl) (fun _ => by kernel_rfl) (by decide) w)) ?_
  refine Sy.step (by kernel_rfl) (bv o30) (Quiet.thereOne ga (oa + 30) 5 _ _ rfl (by kernel_rfl) hs.1 _ (src_one hs 30 _ (by kernel_rfl)) Try.underlying5 rfl) ?_
  refine Sy.step (by kernel_rfl) (.pointer (some ⟨g1, 29, none⟩)) (Quiet.pure (fun _ => by kernel_rfl)) ?_
  refine Sy.write (by kernel_rfl) 1 g1 85 (bv o1 :: bv o2 :: [bv o3, bv o4, bv o5, bv o6, bv o7, bv o8, bv o9, bv o10, bv o11, bv o12, bv o13, bv o14, bv o15, bv o16, bv o17, bv o18, bv o19, bv o20, bv o21, bv o22, bv o23, bv o24, bv o25, bv o26, bv o27, bv o28, bv o29, .int .u8 0, .int .u8 0, .int .u8 0]).toArray (bv o1 :: bv o2 :: [bv o3, bv o4, bv o5, bv o6, bv o7, bv o8, bv o9, bv o10, bv o11, bv o12, bv o13, bv o14, bv o15, bv o16, bv o17, bv o18, bv o19, bv o20, bv o21, bv o22, bv o23, bv o24, bv o25, bv o26, bv o27, bv o28, bv o29, bv o30, .int .u8 0, .int .u8 0]).toArray (by kernel_rfl) (Writes.one 29 5 (bv o30) _ _ rfl (by kernel_rfl) (by kernel_rfl) (by kernel_rfl) rfl rfl (Nat.lt_of_lt_of_le (Nat.lt_succ_self _) (Nat.le_of_ble_eq_true (by kernel_rfl))) (by kernel_rfl)) ?_
  refine Sy.nil ?_
  refine Sy.in_ ?_
  refine Sy.then_ ?_
  refine Sy.region ?_
  refine Sy.step (by kernel_rfl) (.int .i64 29) (Quiet.pure (fun _ => by kernel_rfl)) ?_
  refine Sy.step (by kernel_rfl) (.int .i64 30) (Quiet.pure (fun _ => by kernel_rfl)) ?_
  refine Sy.step (by kernel_rfl) (.int .i64 30) (Quiet.pure (fun _ => by kernel_rfl)) ?_
  refine Sy.nil ?_
  refine Sy.again ?_
  refine Sy.tidyR (G := [(0, .slice (some ⟨ga, oa, none⟩) 33 cb), (2, .pointer (some ⟨g0, 0, none⟩)), (4, .pointer (some ⟨g1, 0, none⟩)), (5, .int .i64 30)]) (M := [(g0, 27, (pcs 0 0 false)), (g1, 85, (bv o1 :: bv o2 :: [bv o3, bv o4, bv o5, bv o6, bv o7, bv o8, bv o9, bv o10, bv o11, bv o12, bv o13, bv o14, bv o15, bv o16, bv o17, bv o18, bv o19, bv o20, bv o21, bv o22, bv o23, bv o24, bv o25, bv o26, bv o27, bv o28, bv o29, bv o30, .int .u8 0, .int .u8 0]).toArray)]) [true, true] (by kernel_rfl) (all_cons (by kernel_rfl) (all_cons (by kernel_rfl) (all_cons (by kernel_rfl) (all_cons (by kernel_rfl) all_nil)))) ?_
  refine Sy.round ?_
  refine Sy.seq ?_
  refine Sy.seq ?_
  refine Sy.region ?_
  refine Sy.step (by kernel_rfl) (.int .i64 30) (Quiet.pure (fun _ => by kernel_rfl)) ?_
  refine Sy.step (by kernel_rfl) (.bool true) (Quiet.pure (fun _ => by kernel_rfl)) ?_
  refine Sy.nil ?_
  refine Sy.then_ ?_
  refine Sy.cond_t (by kernel_rfl) (by kernel_rfl) ?_
  refine Sy.skip ?_
  refine Sy.then_ ?_
  refine Sy.seq ?_
  refine Sy.block ?_
  refine Sy.region ?_
  refine Sy.step (by kernel_rfl) (.int .i64 30) (Quiet.pure (fun _ => by kernel_rfl)) ?_
  refine Sy.step (by kernel_rfl) (.slice (some ⟨ga, oa, none⟩) 33 cb) (Quiet.pure (fun _ => by kernel_rfl)) ?_
  refine Sy.step (by kernel_rfl) (.int .i64 30) (Quiet.pure (fun _ => by kernel_rfl)) ?_
  refine Sy.step (by kernel_rfl) (.int .i64 31) (Quiet.pure (fun _ => by kernel_rfl)) ?_
  refine Sy.step (by kernel_rfl) (.pointer (some ⟨ga, oa + 31, none⟩)) (Quiet.pure (fun w => exec_index 41 _ _ ga (oa) 33 (cb) 31 rfl (by kernel_rfl) (by kernel_rfl) (by kernel_rfl) (fun _ => by kernel_rfl) (by decide) w)) ?_
  refine Sy.step (by kernel_rfl) (bv o31) (Quiet.thereOne ga (oa + 31) 5 _ _ rfl (by kernel_rfl) hs.1 _ (src_one hs 31 _ (by kernel_rfl)) Try.underlying5 rfl) ?_
  refine Sy.step (by kernel_rfl) (.pointer (some ⟨g1, 30, none⟩)) (Quiet.pure (fun _ => by kernel_rfl)) ?_
  refine Sy.write (by kernel_rfl) 1 g1 85 (bv o1 :: bv o2 :: [bv o3, bv o4, bv o5, bv o6, bv o7, bv o8, bv o9, bv o10, bv o11, bv o12, bv o13, bv o14, bv o15, bv o16, bv o17, bv o18, bv o19, bv o20, bv o21, bv o22, bv o23, bv o24, bv o25, bv o26, bv o27, bv o28, bv o29, bv o30, .int .u8 0, .int .u8 0]).toArray (bv o1 :: bv o2 :: [bv o3, bv o4, bv o5, bv o6, bv o7, bv o8, bv o9, bv o10, bv o11, bv o12, bv o13, bv o14, bv o15, bv o16, bv o17, bv o18, bv o19, bv o20, bv o21, bv o22, bv o23, bv o24, bv o25, bv o26, bv o27, bv o28, bv o29, bv o30, bv o31, .int .u8 0]).toArray (by kernel_rfl) (Writes.one 30 5 (bv o31) _ _ rfl (by kernel_rfl) (by kernel_rfl) (by kernel_rfl) rfl rfl (Nat.lt_of_lt_of_le (Nat.lt_succ_self _) (Nat.le_of_ble_eq_true (by kernel_rfl))) (by kernel_rfl)) ?_
  refine Sy.nil ?_
  refine Sy.in_ ?_
  refine Sy.then_ ?_
  refine Sy.region ?_
  refine Sy.step (by kernel_rfl) (.int .i64 30) (Quiet.pure (fun _ => by kernel_rfl)) ?_
  refine Sy.step (by kernel_rfl) (.int .i64 31) (Quiet.pure (fun _ => by kernel_rfl)) ?_
  refine Sy.step (by kernel_rfl) (.int .i64 31) (Quiet.pure (fun _ => by kernel_rfl)) ?_
  refine Sy.nil ?_
  refine Sy.again ?_
  refine Sy.tidyR (G := [(0, .slice (some ⟨ga, oa, none⟩) 33 cb), (2, .pointer (some ⟨g0, 0, none⟩)), (4, .pointer (some ⟨g1, 0, none⟩)), (5, .int .i64 31)]) (M := [(g0, 27, (pcs 0 0 false)), (g1, 85, (bv o1 :: bv o2 :: [bv o3, bv o4, bv o5, bv o6, bv o7, bv o8, bv o9, bv o10, bv o11, bv o12, bv o13, bv o14, bv o15, bv o16, bv o17, bv o18, bv o19, bv o20, bv o21, bv o22, bv o23, bv o24, bv o25, bv o26, bv o27, bv o28, bv o29, bv o30, bv o31, .int .u8 0]).toArray)]) [true, true] (by kernel_rfl) (all_cons (by kernel_rfl) (all_cons (by kernel_rfl) (all_cons (by kernel_rfl) (all_cons (by kernel_rfl) all_nil)))) ?_
  refine Sy.round ?_
  refine Sy.seq ?_
  refine Sy.seq ?_
  refine Sy.region ?_
  refine Sy.step (by kernel_rfl) (.int .i64 31) (Quiet.pure (fun _ => by kernel_rfl)) ?_
  refine Sy.step (by kernel_rfl) (.bool true) (Quiet.pure (fun _ => by kernel_rfl)) ?_
  refine Sy.nil ?_
  refine Sy.then_ ?_
  refine Sy.cond_t (by kernel_rfl) (by kernel_rfl) ?_
  refine Sy.skip ?_
  refine Sy.then_ ?_
  refine Sy.seq ?_
  refine Sy.block ?_
  refine Sy.region ?_
  refine Sy.step (by kernel_rfl) (.int .i64 31) (Quiet.pure (fun _ => by kernel_rfl)) ?_
  refine Sy.step (by kernel_rfl) (.slice (some ⟨ga, oa, none⟩) 33 cb) (Quiet.pure (fun _ => by kernel_rfl)) ?_
  refine Sy.step (by kernel_rfl) (.int .i64 31) (Quiet.pure (fun _ => by kernel_rfl)) ?_
  refine Sy.step (by kernel_rfl) (.int .i64 32) (Quiet.pure (fun _ => by kernel_rfl)) ?_
  refine Sy.step (by kernel_rfl) (.pointer (some ⟨ga, oa + 32, none⟩)) (Quiet.pure (fun w => exec_index 41 _ _ ga (oa) 33 (cb) 32 rfl (by kernel_rfl) (by kernel_rfl) (by kernel_rfl) (fun _ => by kernel_rfl) (by decide) w)) ?_
  refine Sy.step (by kernel_rfl) (bv o32) (Quiet.thereOne ga (oa + 32) 5 _ _ rfl (by kernel_rfl) hs.1 _ (src_one hs 32 _ (by kernel_rfl)) Try.underlying5 rfl) ?_
  refine Sy.step (by kernel_rfl) (.pointer (some ⟨g1, 31, none⟩)) (Quiet.pure (fun _ => by kernel_rfl)) ?_
  refine Sy.write (by kernel_rfl) 1 g1 85 (bv o1 :: bv o2 :: [bv o3, bv o4, bv o5, bv o6, bv o7, bv o8, bv o9, bv o10, bv o11, bv o12, bv o13, bv o14, bv o15, bv o16, bv o17, bv o18, bv o19, bv o20, bv o21, bv o22, bv o23, bv o24, bv o25, bv o26, bv o27, bv o28, bv o29, bv o30, bv o31, .int .u8 0]).toArray (bv o1 :: bv o2 :: [bv o3, bv o4, bv o5, bv o6, bv o7, bv o8, bv o9, bv o10, bv o11, bv o12, bv o13, bv o14, bv o15, bv o16, bv o17, bv o18, bv o19, bv o20, bv o21, bv o22, bv o23, bv o24, bv o25, bv o26, bv o27, bv o28, bv o29, bv o30, bv o31, bv o32]).toArray (by kernel_rfl) (Writes.one 31 5 (bv o32) _ _ rfl (by kernel_rfl) (by kernel_rfl) (by kernel_rfl) rfl rfl (Nat.lt_of_lt_of_le (Nat.lt_succ_self _) (Nat.le_of_ble_eq_true (by kernel_rfl))) (by kernel_rfl)) ?_
  refine Sy.nil ?_
  refine Sy.in_ ?_
  refine Sy.then_ ?_
  refine Sy.region ?_
  refine Sy.step (by kernel_rfl) (.int .i64 31) (Quiet.pure (fun _ => by kernel_rfl)) ?_
  refine Sy.step (by kernel_rfl) (.int .i64 32) (Quiet.pure (fun _ => by kernel_rfl)) ?_
  refine Sy.step (by kernel_rfl) (.int .i64 32) (Quiet.pure (fun _ => by kernel_rfl)) ?_
  refine Sy.nil ?_
  refine Sy.again ?_
  refine Sy.tidyR (G := [(0, .slice (some ⟨ga, oa, none⟩) 33 cb), (2, .pointer (some ⟨g0, 0, none⟩)), (4, .pointer (some ⟨g1, 0, none⟩)), (5, .int .i64 32)]) (M := [(g0, 27, (pcs 0 0 false)), (g1, 85, (bv o1 :: bv o2 :: [bv o3, bv o4, bv o5, bv o6, bv o7, bv o8, bv o9, bv o10, bv o11, bv o12, bv o13, bv o14, bv o15, bv o16, bv o17, bv o18, bv o19, bv o20, bv o21, bv o22, bv o23, bv o24, bv o25, bv o26, bv o27, bv o28, bv o29, bv o30, bv o31, bv o32]).toArray)]) [true, true] (by kernel_rfl) (all_cons (by kernel_rfl) (all_cons (by kernel_rfl) (all_cons (by kernel_rfl) (all_cons (by kernel_rfl) all_nil)))) ?_
  refine Sy.round ?_
  refine Sy.seq ?_
  refine Sy.seq ?_
  refine Sy.region ?_
  refine Sy.step (by kernel_rfl) (.int .i64 32) (Quiet.pure (fun _ => by kernel_rfl)) ?_
  refine Sy.step (by kernel_rfl) (.bool false) (Quiet.pure (fun _ => by kernel_rfl)) ?_
  refine Sy.nil ?_
  refine Sy.then_ ?_
  refine Sy.cond_f (by kernel_rfl) (by kernel_rfl) ?_
  refine Sy.exit ?_
  refine Sy.then_exit ?_
  refine Sy.then_exit ?_
  refine Sy.in_exit ?_
  refine Sy.then_ ?_
  refine Sy.seq ?_
  refine Sy.region ?_
  refine Sy.step (by kernel_rfl) (.agg ((bv o1 :: bv o2 :: [bv o3, bv o4, bv o5, bv o6, bv o7, bv o8, bv o9, bv o10, bv o11, bv o12, bv o13, bv o14, bv o15, bv o16, bv o17, bv o18, bv o19, bv o20, bv o21, bv o22, bv o23, bv o24, bv o25, bv o26, bv o27, bv o28, bv o29, bv o30, bv o31, bv o32]) : List Value).toArray) (Quiet.load 1 g1 0 32 85 85 (bv o1 :: bv o2 :: [bv o3, bv o4, bv o5, bv o6, bv o7, bv o8, bv o9, bv o10, bv o11, bv o12, bv o13, bv o14, bv o15, bv o16, bv o17, bv o18, bv o19, bv o20, bv o21, bv o22, bv o23, bv o24, bv o25, bv o26, bv o27, bv o28, bv o29, bv o30, bv o31, bv o32]).toArray _ _ rfl (by kernel_rfl) (by kernel_rfl) Try.underlying85 rfl (by kernel_rfl) _ (by kernel_rfl) (Nat.le_of_ble_eq_true (by kernel_rfl))) ?_
  refine Sy.step (by kernel_rfl) (.tuple #[pv px py pi, .bool kb]) (Quiet.call 53 #[.agg ((bv o1 :: bv o2 :: [bv o3, bv o4, bv o5, bv o6, bv o7, bv o8, bv o9, bv o10, bv o11, bv o12, bv o13, bv o14, bv o15, bv o16, bv o17, bv o18, bv o19, bv o20, bv o21, bv o22, bv o23, bv o24, bv o25, bv o26, bv o27, bv o28, bv o29, bv o30, bv o31, bv o32]) : List Value).toArray] (fun _ => by kernel_rfl) (cL)) ?_
  refine Sy.step (by kernel_rfl) (.tuple #[pv px py pi, .bool kb]) (Quiet.pure (fun _ => by kernel_rfl)) ?_
  refine Sy.step (by kernel_rfl) (pv px py pi) (Quiet.pure (fun _ => by kernel_rfl)) ?_
  refine Sy.step (by kernel_rfl) (.bool kb) (Quiet.pure (fun _ => by kernel_rfl)) ?_
  refine Sy.make (by kernel_rfl) 27 (pcs 0 0 false) ptr (fun _ => by kernel_rfl) (fun g2 => ?_)
  refine Sy.write (by kernel_rfl) 2 g2 27 (pcs 0 0 false) (pcs px py pi) (by kernel_rfl) (Writes.store 0 27 (pcs px py pi) _ _ rfl (by kernel_rfl) (by kernel_rfl) (by kernel_rfl) (Nat.le_of_ble_eq_true (by kernel_rfl)) (by kernel_rfl) (by kernel_rfl)) ?_
  refine Sy.step (by kernel_rfl) (.bool kb) (Quiet.pure (fun _ => by kernel_rfl)) ?_
  refine Sy.nil ?_
  refine Sy.then_ ?_
  refine Sy.seq ?_
  refine Sy.regionD (fun j => false) (by kernel_rfl) ?_
  refine Sy.stepD 0 rfl (by kernel_rfl) (fun _ _ _ _ h => h) (by kernel_rfl) (pv 0 0 true) (Quiet.call 34 #[] (fun _ => by kernel_rfl) (zeroR_c)) ?_
  refine Sy.stepD 1 rfl (by kernel_rfl) (fun _ _ _ _ h => h) (by kernel_rfl) (pv px py pi) (Quiet.load 2 g2 0 9 27 27 (pcs px py pi) _ _ rfl (by kernel_rfl) (by kernel_rfl) Try.underlying27 rfl (by kernel_rfl) _ (by kernel_rfl) (Nat.le_of_ble_eq_true (by kernel_rfl))) ?_
  refine Sy.stepD 2 rfl (by kernel_rfl) (fun _ _ _ _ h => h) (by kernel_rfl) (pv px py pi) (Quiet.load 2 g2 0 9 27 27 (pcs px py pi) _ _ rfl (by kernel_rfl) (by kernel_rfl) Try.underlying27 rfl (by kernel_rfl) _ (by kernel_rfl) (Nat.le_of_ble_eq_true (by kernel_rfl))) ?_
  refine Sy.stepD 3 rfl (by kernel_rfl) (fun _ _ _ _ h => h) (by kernel_rfl) (pv nx ny ni) (Quiet.call 54 #[pv px py pi] (fun _ => by kernel_rfl) (cN)) ?_
  refine Sy.makeD 4 rfl (by kernel_rfl) (by kernel_rfl) 27 (pwr 0 0 true ++ (pwr px py pi ++ (pwr nx ny ni))).toArray (fun g => .slice (some ⟨g, 0, none⟩) 3 3) (fun _ => by kernel_rfl) (fun g3 => ?_)
  refine Sy.stepD 5 rfl (by kernel_rfl) (fun _ _ _ _ h => h) (by kernel_rfl) (.slice (some ⟨g3, 0, none⟩) 3 3) (Quiet.pure (fun _ => by kernel_rfl)) ?_
  refine Sy.doneD (by kernel_rfl) ?_
  refine Sy.then_ ?_
  refine Sy.seq ?_
  refine Sy.seq ?_
  refine Sy.region ?_
  refine Sy.step (by kernel_rfl) (.int .i64 0) (Quiet.pure (fun _ => by kernel_rfl)) ?_
  refine Sy.nil ?_
  refine Sy.then_ ?_
  refine Sy.block ?_
  refine Sy.loopN 4 ?_
  refine Sy.tidyR (G := [(0, .slice (some ⟨ga, oa, none⟩) 33 cb), (2, .pointer (some ⟨g0, 0, none⟩)), (8, .slice (some ⟨g3, 0, none⟩) 3 3), (9, .int .i64 0)]) (M := [(g0, 27, (pcs 0 0 false)), (g3, 27, (pwr 0 0 true ++ (pwr px py pi ++ (pwr nx ny ni))).toArray)]) [true, false, false, true] (by kernel_rfl) (all_cons (by kernel_rfl) (all_cons (by kernel_rfl) (all_cons (by kernel_rfl) (all_cons (by kernel_rfl) all_nil)))) ?_
  refine Sy.round ?_
  refine Sy.seq ?_
  refine Sy.seq ?_
  refine Sy.region ?_
  refine Sy.step (by kernel_rfl) (.int .i64 0) (Quiet.pure (fun _ => by kernel_rfl)) ?_
  refine Sy.step (by kernel_rfl) (.bool true) (Quiet.pure (fun _ => by kernel_rfl)) ?_
  refine Sy.nil ?_
  refine Sy.then_ ?_
  refine Sy.cond_t (by kernel_rfl) (by kernel_rfl) ?_
  refine Sy.skip ?_
  refine Sy.then_ ?_
  refine Sy.seq ?_
  refine Sy.block ?_
  refine Sy.seq ?_
  refine Sy.regionD (fun j => false) (by kernel_rfl) ?_
  refine Sy.stepD 0 rfl (by kernel_rfl) (fun _ _ _ _ h => h) (by kernel_rfl) (.slice (some ⟨g3, 0, none⟩) 3 3) (Quiet.pure (fun _ => by kernel_rfl)) ?_
  refine Sy.stepD 1 rfl (by kernel_rfl) (fun _ _ _ _ h => h) (by kernel_rfl) (.int .i64 0) (Quiet.pure (fun _ => by kernel_rfl)) ?_
  refine Sy.stepD 2 rfl (by kernel_rfl) (fun _ _ _ _ h => h) (by kernel_rfl) (.pointer (some ⟨g3, 0, none⟩)) (Quiet.pure (fun _ => by kernel_rfl)) ?_
  refine Sy.stepD 3 rfl (by kernel_rfl) (fun _ _ _ _ h => h) (by kernel_rfl) (pv 0 0 true) (Quiet.load 1 g3 0 9 27 27 (pwr 0 0 true ++ (pwr px py pi ++ (pwr nx ny ni))).toArray _ _ rfl (by kernel_rfl) (by kernel_rfl) Try.underlying27 rfl (by kernel_rfl) _ (by kernel_rfl) (Nat.le_of_ble_eq_true (by kernel_rfl))) ?_
  refine Sy.stepD 6 rfl (by kernel_rfl) (fun _ _ _ _ h => h) (by kernel_rfl) (.slice (some ⟨ga, oa, none⟩) 33 cb) (Quiet.pure (fun _ => by kernel_rfl)) ?_
  refine Sy.stepD 7 rfl (by kernel_rfl) (fun _ _ _ _ h => h) (by kernel_rfl) (.string ⟨((o0 :: o1 :: o2 :: [o3, o4, o5, o6, o7, o8, o9, o10, o11, o12, o13, o14, o15, o16, o17, o18, o19, o20, o21, o22, o23, o24, o25, o26, o27, o28, o29, o30, o31, o32])).toArray⟩) (str_src (some ⟨ga, oa, none⟩) (o0 :: o1 :: o2 :: [o3, o4, o5, o6, o7, o8, o9, o10, o11, o12, o13, o14, o15, o16, o17, o18, o19, o20, o21, o22, o23, o24, o25, o26, o27, o28, o29, o30, o31, o32]) 33 cb _ rfl rfl rfl (by decide) hsr) ?_
  refine Sy.callND 4 rfl (by kernel_rfl) (by kernel_rfl) 17 #[pv 0 0 true] (fun _ => by kernel_rfl) (fun vq Mq => ∃ (g : Nat) (sp : List Value) (cap : Nat), vq = .slice (some ⟨g, 0, none⟩) 33 cap ∧ Mq = [(g, 5, ((encS none).map bv ++ sp).toArray)]) (fun w _ => cE0 w) (fun vq Mq hR0 => ?_)
  obtain ⟨gq1, spq1, cpq1, rfl, rfl⟩ := hR0
  refine Sy.stepD 5 rfl (by kernel_rfl) (fun _ _ _ _ h => h) (by kernel_rfl) (.string ⟨((encS none)).toArray⟩) (str_own 2 gq1 5 (encS none) spq1 33 cpq1 _ rfl rfl (by kernel_rfl) (encS_length _) (by decide)) ?_
  obtain ⟨b1, hb1⟩ : ∃ z : Bool, z = decide ((encS none) = (o0 :: o1 :: o2 :: [o3, o4, o5, o6, o7, o8, o9, o10, o11, o12, o13, o14, o15, o16, o17, o18, o19, o20, o21, o22, o23, o24, o25, o26, o27, o28, o29, o30, o31, o32])) := ⟨_, rfl⟩
  refine Sy.stepD 8 rfl (by kernel_rfl) (fun _ _ _ _ h => h) (by kernel_rfl) (.bool b1) (Quiet.pure (fun w => by rw [hb1]; exact eql_str w _ _ _ _ _ _ rfl rfl rfl)) ?_
  refine Sy.doneD (by kernel_rfl) ?_
  refine Sy.then_ ?_
  cases b1
  · refine Sy.cond_f (by kernel_rfl) (by kernel_rfl) ?_
    refine Sy.skip ?_
    refine Sy.in_ ?_
    refine Sy.then_ ?_
    refine Sy.region ?_
    refine Sy.step (by kernel_rfl) (.int .i64 0) (Quiet.pure (fun _ => by kernel_rfl)) ?_
    refine Sy.step (by kernel_rfl) (.int .i64 1) (Quiet.pure (fun _ => by kernel_rfl)) ?_
    refine Sy.step (by kernel_rfl) (.int .i64 1) (Quiet.pure (fun _ => by kernel_rfl)) ?_
    refine Sy.nil ?_
    refine Sy.again ?_
    refine Sy.tidyR (G := [(0, .slice (some ⟨ga, oa, none⟩) 33 cb), (2, .pointer (some ⟨g0, 0, none⟩)), (8, .slice (some ⟨g3, 0, none⟩) 3 3), (9, .int .i64 1)]) (M := [(g0, 27, (pcs 0 0 false)), (g3, 27, (pwr 0 0 true ++ (pwr px py pi ++ (pwr nx ny ni))).toArray)]) [true, true, false] (by kernel_rfl) (all_cons (by kernel_rfl) (all_cons (by kernel_rfl) (all_cons (by kernel_rfl) (all_cons (by kernel_rfl) all_nil)))) ?_
    refine Sy.round ?_
    refine Sy.seq ?_
    refine Sy.seq ?_
    refine Sy.region ?_
    refine Sy.step (by kernel_rfl) (.int .i64 1) (Quiet.pure (fun _ => by kernel_rfl)) ?_
    refine Sy.step (by kernel_rfl) (.bool true) (Quiet.pure (fun _ => by kernel_rfl)) ?_
    refine Sy.nil ?_
    refine Sy.then_ ?_
    refine Sy.cond_t (by kernel_rfl) (by kernel_rfl) ?_
    refine Sy.skip ?_
    refine Sy.then_ ?_
    refine Sy.seq ?_
    refine Sy.block ?_
    refine Sy.seq ?_
    refine Sy.regionD (fun j => false) (by kernel_rfl) ?_
    refine Sy.stepD 0 rfl (by kernel_rfl) (fun _ _ _ _ h => h) (by kernel_rfl) (.slice (some ⟨g3, 0, none⟩) 3 3) (Quiet.pure (fun _ => by kernel_rfl)) ?_
    refine Sy.stepD 1 rfl (by kernel_rfl) (fun _ _ _ _ h => h) (by kernel_rfl) (.int .i64 1) (Quiet.pure (fun _ => by kernel_rfl)) ?_
    refine Sy.stepD 2 rfl (by kernel_rfl) (fun _ _ _ _ h => h) (by kernel_rfl) (.pointer (some ⟨g3, 9, none⟩)) (Quiet.pure (fun _ => by kernel_rfl)) ?_
    refine Sy.stepD 3 rfl (by kernel_rfl) (fun _ _ _ _ h => h) (by kernel_rfl) (pv px py pi) (Quiet.load 1 g3 9 9 27 27 (pwr 0 0 true ++ (pwr px py pi ++ (pwr nx ny ni))).toArray _ _ rfl (by kernel_rfl) (by kernel_rfl) Try.underlying27 rfl (by kernel_rfl) _ (by kernel_rfl) (Nat.le_of_ble_eq_true (by kernel_rfl))) ?_
    refine Sy.stepD 6 rfl (by kernel_rfl) (fun _ _ _ _ h => h) (by kernel_rfl) (.slice (some ⟨ga, oa, none⟩) 33 cb) (Quiet.pure (fun _ => by kernel_rfl)) ?_
    refine Sy.stepD 7 rfl (by kernel_rfl) (fun _ _ _ _ h => h) (by kernel_rfl) (.string ⟨((o0 :: o1 :: o2 :: [o3, o4, o5, o6, o7, o8, o9, o10, o11, o12, o13, o14, o15, o16, o17, o18, o19, o20, o21, o22, o23, o24, o25, o26, o27, o28, o29, o30, o31, o32])).toArray⟩) (str_src (some ⟨ga, oa, none⟩) (o0 :: o1 :: o2 :: [o3, o4, o5, o6, o7, o8, o9, o10, o11, o12, o13, o14, o15, o16, o17, o18, o19, o20, o21, o22, o23, o24, o25, o26, o27, o28, o29, o30, o31, o32]) 33 cb _ rfl rfl rfl (by decide) hsr) ?_
    refine Sy.callND 4 rfl (by kernel_rfl) (by kernel_rfl) 17 #[pv px py pi] (fun _ => by kernel_rfl) (fun vq Mq => ∃ (g : Nat) (sp : List Value) (cap : Nat), vq = .slice (some ⟨g, 0, none⟩) 33 cap ∧ Mq = [(g, 5, ((encS (liftP tl)).map bv ++ sp).toArray)]) (fun w _ => cE1 w) (fun vq Mq hR0 => ?_)
    obtain ⟨gq2, spq2, cpq2, rfl, rfl⟩ := hR0
    refine Sy.stepD 5 rfl (by kernel_rfl) (fun _ _ _ _ h => h) (by kernel_rfl) (.string ⟨((encS (liftP tl))).toArray⟩) (str_own 2 gq2 5 (encS (liftP tl)) spq2 33 cpq2 _ rfl rfl (by kernel_rfl) (encS_length _) (by decide)) ?_
    obtain ⟨b2, hb2⟩ : ∃ z : Bool, z = decide ((encS (liftP tl)) = (o0 :: o1 :: o2 :: [o3, o4, o5, o6, o7, o8, o9, o10, o11, o12, o13, o14, o15, o16, o17, o18, o19, o20, o21, o22, o23, o24, o25, o26, o27, o28, o29, o30, o31, o32])) := ⟨_, rfl⟩
    refine Sy.stepD 8 rfl (by kernel_rfl) (fun _ _ _ _ h => h) (by kernel_rfl) (.bool b2) (Quiet.pure (fun w => by rw [hb2]; exact eql_str w _ _ _ _ _ _ rfl rfl rfl)) ?_
    refine Sy.doneD (by kernel_rfl) ?_
    refine Sy.then_ ?_
    cases b2
    · refine Sy.cond_f (by kernel_rfl) (by kernel_rfl) ?_
      refine Sy.skip ?_
      refine Sy.in_ ?_
      refine Sy.then_ ?_
      refine Sy.region ?_
      refine Sy.step (by kernel_rfl) (.int .i64 1) (Quiet.pure (fun _ => by kernel_rfl)) ?_
      refine Sy.step (by kernel_rfl) (.int .i64 2) (Quiet.pure (fun _ => by kernel_rfl)) ?_
      refine Sy.step (by kernel_rfl) (.int .i64 2) (Quiet.pure (fun _ => by kernel_rfl)) ?_
      refine Sy.nil ?_
      refine Sy.again ?_
      refine Sy.tidyR (G := [(0, .slice (some ⟨ga, oa, none⟩) 33 cb), (2, .pointer (some ⟨g0, 0, none⟩)), (8, .slice (some ⟨g3, 0, none⟩) 3 3), (9, .int .i64 2)]) (M := [(g0, 27, (pcs 0 0 false)), (g3, 27, (pwr 0 0 true ++ (pwr px py pi ++ (pwr nx ny ni))).toArray)]) [true, true, false] (by kernel_rfl) (all_cons (by kernel_rfl) (all_cons (by kernel_rfl) (all_cons (by kernel_rfl) (all_cons (by kernel_rfl) all_nil)))) ?_
      refine Sy.round ?_
      refine Sy.seq ?_
      refine Sy.seq ?_
      refine Sy.region ?_
      refine Sy.step (by kernel_rfl) (.int .i64 2) (Quiet.pure (fun _ => by kernel_rfl)) ?_
      refine Sy.step (by kernel_rfl) (.bool true) (Quiet.pure (fun _ => by kernel_rfl)) ?_
      refine Sy.nil ?_
      refine Sy.then_ ?_
      refine Sy.cond_t (by kernel_rfl) (by kernel_rfl) ?_
      refine Sy.skip ?_
      refine Sy.then_ ?_
      refine Sy.seq ?_
      refine Sy.block ?_
      refine Sy.seq ?_
      refine Sy.regionD (fun j => false) (by kernel_rfl) ?_
      refine Sy.stepD 0 rfl (by kernel_rfl) (fun _ _ _ _ h => h) (by kernel_rfl) (.slice (some ⟨g3, 0, none⟩) 3 3) (Quiet.pure (fun _ => by kernel_rfl)) ?_
      refine Sy.stepD 1 rfl (by kernel_rfl) (fun _ _ _ _ h => h) (by kernel_rfl) (.int .i64 2) (Quiet.pure (fun _ => by kernel_rfl)) ?_
      refine Sy.stepD 2 rfl (by kernel_rfl) (fun _ _ _ _ h => h) (by kernel_rfl) (.pointer (some ⟨g3, 18, none⟩)) (Quiet.pure (fun _ => by kernel_rfl)) ?_
      refine Sy.stepD 3 rfl (by kernel_rfl) (fun _ _ _ _ h => h) (by kernel_rfl) (pv nx ny ni) (Quiet.load 1 g3 18 9 27 27 (pwr 0 0 true ++ (pwr px py pi ++ (pwr nx ny ni))).toArray _ _ rfl (by kernel_rfl) (by kernel_rfl) Try.underlying27 rfl (by kernel_rfl) _ (by kernel_rfl) (Nat.le_of_ble_eq_true (by kernel_rfl))) ?_
      refine Sy.stepD 6 rfl (by kernel_rfl) (fun _ _ _ _ h => h) (by kernel_rfl) (.slice (some ⟨ga, oa, none⟩) 33 cb) (Quiet.pure (fun _ => by kernel_rfl)) ?_
      refine Sy.stepD 7 rfl (by kernel_rfl) (fun _ _ _ _ h => h) (by kernel_rfl) (.string ⟨((o0 :: o1 :: o2 :: [o3, o4, o5, o6, o7, o8, o9, o10, o11, o12, o13, o14, o15, o16, o17, o18, o19, o20, o21, o22, o23, o24, o25, o26, o27, o28, o29, o30, o31, o32])).toArray⟩) (str_src (some ⟨ga, oa, none⟩) (o0 :: o1 :: o2 :: [o3, o4, o5, o6, o7, o8, o9, o10, o11, o12, o13, o14, o15, o16, o17, o18, o19, o20, o21, o22, o23, o24, o25, o26, o27, o28, o29, o30, o31, o32]) 33 cb _ rfl rfl rfl (by decide) hsr) ?_
      refine Sy.callND 4 rfl (by kernel_rfl) (by kernel_rfl) 17 #[pv nx ny ni] (fun _ => by kernel_rfl) (fun vq Mq => ∃ (g : Nat) (sp : List Value) (cap : Nat), vq = .slice (some ⟨g, 0, none⟩) 33 cap ∧ Mq = [(g, 5, ((encS (Ec.neg (liftP tl))).map bv ++ sp).toArray)]) (fun w _ => cE2 w) (fun vq Mq hR0 => ?_)
      obtain ⟨gq3, spq3, cpq3, rfl, rfl⟩ := hR0
      refine Sy.stepD 5 rfl (by kernel_rfl) (fun _ _ _ _ h => h) (by kernel_rfl) (.string ⟨((encS (Ec.neg (liftP tl)))).toArray⟩) (str_own 2 gq3 5 (encS (Ec.neg (liftP tl))) spq3 33 cpq3 _ rfl rfl (by kernel_rfl) (encS_length _) (by decide)) ?_
      obtain ⟨b3, hb3⟩ : ∃ z : Bool, z = decide ((encS (Ec.neg (liftP tl))) = (o0 :: o1 :: o2 :: [o3, o4, o5, o6, o7, o8, o9, o10, o11, o12, o13, o14, o15, o16, o17, o18, o19, o20, o21, o22, o23, o24, o25, o26, o27, o28, o29, o30, o31, o32])) := ⟨_, rfl⟩
      refine Sy.stepD 8 rfl (by kernel_rfl) (fun _ _ _ _ h => h) (by kernel_rfl) (.bool b3) (Quiet.pure (fun w => by rw [hb3]; exact eql_str w _ _ _ _ _ _ rfl rfl rfl)) ?_
      refine Sy.doneD (by kernel_rfl) ?_
      refine Sy.then_ ?_
      cases b3
      · refine Sy.cond_f (by kernel_rfl) (by kernel_rfl) ?_
        refine Sy.skip ?_
        refine Sy.in_ ?_
        refine Sy.then_ ?_
        refine Sy.region ?_
        refine Sy.step (by kernel_rfl) (.int .i64 2) (Quiet.pure (fun _ => by kernel_rfl)) ?_
        refine Sy.step (by kernel_rfl) (.int .i64 3) (Quiet.pure (fun _ => by kernel_rfl)) ?_
        refine Sy.step (by kernel_rfl) (.int .i64 3) (Quiet.pure (fun _ => by kernel_rfl)) ?_
        refine Sy.nil ?_
        refine Sy.again ?_
        refine Sy.tidyR (G := [(0, .slice (some ⟨ga, oa, none⟩) 33 cb), (2, .pointer (some ⟨g0, 0, none⟩)), (8, .slice (some ⟨g3, 0, none⟩) 3 3), (9, .int .i64 3)]) (M := [(g0, 27, (pcs 0 0 false)), (g3, 27, (pwr 0 0 true ++ (pwr px py pi ++ (pwr nx ny ni))).toArray)]) [true, true, false] (by kernel_rfl) (all_cons (by kernel_rfl) (all_cons (by kernel_rfl) (all_cons (by kernel_rfl) (all_cons (by kernel_rfl) all_nil)))) ?_
        refine Sy.round ?_
        refine Sy.seq ?_
        refine Sy.seq ?_
        refine Sy.region ?_
        refine Sy.step (by kernel_rfl) (.int .i64 3) (Quiet.pure (fun _ => by kernel_rfl)) ?_
        refine Sy.step (by kernel_rfl) (.bool false) (Quiet.pure (fun _ => by kernel_rfl)) ?_
        refine Sy.nil ?_
        refine Sy.then_ ?_
        refine Sy.cond_f (by kernel_rfl) (by kernel_rfl) ?_
        refine Sy.exit ?_
        refine Sy.then_exit ?_
        refine Sy.then_exit ?_
        refine Sy.in_exit ?_
        refine Sy.then_ ?_
        refine Sy.seq ?_
        refine Sy.region ?_
        refine Sy.step (by kernel_rfl) (pv 0 0 true) (Quiet.call 34 #[] (fun _ => by kernel_rfl) (zeroR_c)) ?_
        refine Sy.write (by kernel_rfl) 0 g0 27 (pcs 0 0 false) (pcs 0 0 true) (by kernel_rfl) (Writes.store 0 27 (pcs 0 0 true) _ _ rfl (by kernel_rfl) (by kernel_rfl) (by kernel_rfl) (Nat.le_of_ble_eq_true (by kernel_rfl)) (by kernel_rfl) (by kernel_rfl)) ?_
        refine Sy.step (by kernel_rfl) (.bool false) (Quiet.pure (fun _ => by kernel_rfl)) ?_
        refine Sy.nil ?_
        refine Sy.then_ ?_
        refine Sy.ret ?_
        rw [show (.tuple #[ptv (decP (o0 :: o1 :: o2 :: [o3, o4, o5, o6, o7, o8, o9, o10, o11, o12, o13, o14, o15, o16, o17, o18, o19, o20, o21, o22, o23, o24, o25, o26, o27, o28, o29, o30, o31, o32])), .bool (decOk (o0 :: o1 :: o2 :: [o3, o4, o5, o6, o7, o8, o9, o10, o11, o12, o13, o14, o15, o16, o17, o18, o19, o20, o21, o22, o23, o24, o25, o26, o27, o28, o29, o30, o31, o32]))] : Value) = .tuple #[pv 0 0 true, .bool false] from by
          have hd : decOk (o0 :: o1 :: o2 :: [o3, o4, o5, o6, o7, o8, o9, o10, o11, o12, o13, o14, o15, o16, o17, o18, o19, o20, o21, o22, o23, o24, o25, o26, o27, o28, o29, o30, o31, o32]) = false := by
            unfold decOk
            refine decide_eq_false (fun k => ?_)
            rcases cand_or o0 (o1 :: o2 :: [o3, o4, o5, o6, o7, o8, o9, o10, o11, o12, o13, o14, o15, o16, o17, o18, o19, o20, o21, o22, o23, o24, o25, o26, o27, o28, o29, o30, o31, o32]) with hc | hc
            · rw [hc, ← htl] at k
              exact of_decide_eq_false hb3.symm (k.2.trans (by rw [htl]))
            · rw [hc, ← htl] at k
              exact of_decide_eq_false hb2.symm (k.2.trans (by rw [htl]))
          rw [hd, decP_no hd]; rfl]
        exact Sy.ret2 (v := pv 0 0 true) (u := .bool false) rfl (.inl (Res.cell (ty' := 27) g0 0 (pcs 0 0 true) _ (by kernel_rfl) (by kernel_rfl) Try.underlying27 rfl (by kernel_rfl) (by kernel_rfl))) (.inl (show _ = _ by kernel_rfl))
      · refine Sy.cond_t (by kernel_rfl) (by kernel_rfl) ?_
        refine Sy.seq ?_
        refine Sy.region ?_
        refine Sy.step (by kernel_rfl) (.slice (some ⟨g3, 0, none⟩) 3 3) (Quiet.pure (fun _ => by kernel_rfl)) ?_
        refine Sy.step (by kernel_rfl) (.int .i64 2) (Quiet.pure (fun _ => by kernel_rfl)) ?_
        refine Sy.step (by kernel_rfl) (.pointer (some ⟨g3, 18, none⟩)) (Quiet.pure (fun _ => by kernel_rfl)) ?_
        refine Sy.step (by kernel_rfl) (pv nx ny ni) (Quiet.load 1 g3 18 9 27 27 (pwr 0 0 true ++ (pwr px py pi ++ (pwr nx ny ni))).toArray _ _ rfl (by kernel_rfl) (by kernel_rfl) Try.underlying27 rfl (by kernel_rfl) _ (by kernel_rfl) (Nat.le_of_ble_eq_true (by kernel_rfl))) ?_
        refine Sy.write (by kernel_rfl) 0 g0 27 (pcs 0 0 false) (pcs nx ny ni) (by kernel_rfl) (Writes.store 0 27 (pcs nx ny ni) _ _ rfl (by kernel_rfl) (by kernel_rfl) (by kernel_rfl) (Nat.le_of_ble_eq_true (by kernel_rfl)) (by kernel_rfl) (by kernel_rfl)) ?_
        refine Sy.step (by kernel_rfl) (.bool true) (Quiet.pure (fun _ => by kernel_rfl)) ?_
        refine Sy.nil ?_
        refine Sy.then_ ?_
        refine Sy.ret ?_
        refine Sy.in_ret ?_
        refine Sy.then_ret ?_
        refine Sy.then_ret ?_
        refine Sy.in_ret ?_
        refine Sy.then_ret ?_
        rw [show (.tuple #[ptv (decP (o0 :: o1 :: o2 :: [o3, o4, o5, o6, o7, o8, o9, o10, o11, o12, o13, o14, o15, o16, o17, o18, o19, o20, o21, o22, o23, o24, o25, o26, o27, o28, o29, o30, o31, o32])), .bool (decOk (o0 :: o1 :: o2 :: [o3, o4, o5, o6, o7, o8, o9, o10, o11, o12, o13, o14, o15, o16, o17, o18, o19, o20, o21, o22, o23, o24, o25, o26, o27, o28, o29, o30, o31, o32]))] : Value) = .tuple #[pv nx ny ni, .bool true] from by
          have hd := dec_enc (P := (Ec.neg (liftP tl))) (Ec.On.neg (liftP_on tl))
          rw [of_decide_eq_true hb3.symm] at hd
          rw [hd.1, hd.2, en]]
        exact Sy.ret2 (v := pv nx ny ni) (u := .bool true) rfl (.inl (Res.cell (ty' := 27) g0 0 (pcs nx ny ni) _ (by kernel_rfl) (by kernel_rfl) Try.underlying27 rfl (by kernel_rfl) (by kernel_rfl))) (.inl (show _ = _ by kernel_rfl))
    · refine Sy.cond_t (by kernel_rfl) (by kernel_rfl) ?_
      refine Sy.seq ?_
      refine Sy.region ?_
      refine Sy.step (by kernel_rfl) (.slice (some ⟨g3, 0, none⟩) 3 3) (Quiet.pure (fun _ => by kernel_rfl)) ?_
      refine Sy.step (by kernel_rfl) (.int .i64 1) (Quiet.pure (fun _ => by kernel_rfl)) ?_
      refine Sy.step (by kernel_rfl) (.pointer (some ⟨g3, 9, none⟩)) (Quiet.pure (fun _ => by kernel_rfl)) ?_
      refine Sy.step (by kernel_rfl) (pv px py pi) (Quiet.load 1 g3 9 9 27 27 (pwr 0 0 true ++ (pwr px py pi ++ (pwr nx ny ni))).toArray _ _ rfl (by kernel_rfl) (by kernel_rfl) Try.underlying27 rfl (by kernel_rfl) _ (by kernel_rfl) (Nat.le_of_ble_eq_true (by kernel_rfl))) ?_
      refine Sy.write (by kernel_rfl) 0 g0 27 (pcs 0 0 false) (pcs px py pi) (by kernel_rfl) (Writes.store 0 27 (pcs px py pi) _ _ rfl (by kernel_rfl) (by kernel_rfl) (by kernel_rfl) (Nat.le_of_ble_eq_true (by kernel_rfl)) (by kernel_rfl) (by kernel_rfl)) ?_
      refine Sy.step (by kernel_rfl) (.bool true) (Quiet.pure (fun _ => by kernel_rfl)) ?_
      refine Sy.nil ?_
      refine Sy.then_ ?_
      refine Sy.ret ?_
      refine Sy.in_ret ?_
      refine Sy.then_ret ?_
      refine Sy.then_ret ?_
      refine Sy.in_ret ?_
      refine Sy.then_ret ?_
      rw [show (.tuple #[ptv (decP (o0 :: o1 :: o2 :: [o3, o4, o5, o6, o7, o8, o9, o10, o11, o12, o13, o14, o15, o16, o17, o18, o19, o20, o21, o22, o23, o24, o25, o26, o27, o28, o29, o30, o31, o32])), .bool (decOk (o0 :: o1 :: o2 :: [o3, o4, o5, o6, o7, o8, o9, o10, o11, o12, o13, o14, o15, o16, o17, o18, o19, o20, o21, o22, o23, o24, o25, o26, o27, o28, o29, o30, o31, o32]))] : Value) = .tuple #[pv px py pi, .bool true] from by
        have hd := dec_enc (P := (liftP tl)) (liftP_on tl)
        rw [of_decide_eq_true hb2.symm] at hd
        rw [hd.1, hd.2, ep]]
      exact Sy.ret2 (v := pv px py pi) (u := .bool true) rfl (.inl (Res.cell (ty' := 27) g0 0 (pcs px py pi) _ (by kernel_rfl) (by kernel_rfl) Try.underlying27 rfl (by kernel_rfl) (by kernel_rfl))) (.inl (show _ = _ by kernel_rfl))
  · refine Sy.cond_t (by kernel_rfl) (by kernel_rfl) ?_
    refine Sy.seq ?_
    refine Sy.region ?_
    refine Sy.step (by kernel_rfl) (.slice (some ⟨g3, 0, none⟩) 3 3) (Quiet.pure (fun _ => by kernel_rfl)) ?_
    refine Sy.step (by kernel_rfl) (.int .i64 0) (Quiet.pure (fun _ => by kernel_rfl)) ?_
    refine Sy.step (by kernel_rfl) (.pointer (some ⟨g3, 0, none⟩)) (Quiet.pure (fun _ => by kernel_rfl)) ?_
    refine Sy.step (by kernel_rfl) (pv 0 0 true) (Quiet.load 1 g3 0 9 27 27 (pwr 0 0 true ++ (pwr px py pi ++ (pwr nx ny ni))).toArray _ _ rfl (by kernel_rfl) (by kernel_rfl) Try.underlying27 rfl (by kernel_rfl) _ (by kernel_rfl) (Nat.le_of_ble_eq_true (by kernel_rfl))) ?_
    refine Sy.write (by kernel_rfl) 0 g0 27 (pcs 0 0 false) (pcs 0 0 true) (by kernel_rfl) (Writes.store 0 27 (pcs 0 0 true) _ _ rfl (by kernel_rfl) (by kernel_rfl) (by kernel_rfl) (Nat.le_of_ble_eq_true (by kernel_rfl)) (by kernel_rfl) (by kernel_rfl)) ?_
    refine Sy.step (by kernel_rfl) (.bool true) (Quiet.pure (fun _ => by kernel_rfl)) ?_
    refine Sy.nil ?_
    refine Sy.then_ ?_
    refine Sy.ret ?_
    refine Sy.in_ret ?_
    refine Sy.then_ret ?_
    refine Sy.then_ret ?_
    refine Sy.in_ret ?_
    refine Sy.then_ret ?_
    rw [show (.tuple #[ptv (decP (o0 :: o1 :: o2 :: [o3, o4, o5, o6, o7, o8, o9, o10, o11, o12, o13, o14, o15, o16, o17, o18, o19, o20, o21, o22, o23, o24, o25, o26, o27, o28, o29, o30, o31, o32])), .bool (decOk (o0 :: o1 :: o2 :: [o3, o4, o5, o6, o7, o8, o9, o10, o11, o12, o13, o14, o15, o16, o17, o18, o19, o20, o21, o22, o23, o24, o25, o26, o27, o28, o29, o30, o31, o32]))] : Value) = .tuple #[pv 0 0 true, .bool true] from by
      have hd := dec_enc (P := none) (show Ec.On none from trivial)
      rw [of_decide_eq_true hb1.symm] at hd
      rw [hd.1, hd.2]; rfl]
    exact Sy.ret2 (v := pv 0 0 true) (u := .bool true) rfl (.inl (Res.cell (ty' := 27) g0 0 (pcs 0 0 true) _ (by kernel_rfl) (by kernel_rfl) Try.underlying27 rfl (by kernel_rfl) (by kernel_rfl))) (.inl (show _ = _ by kernel_rfl))
/-- the document's Decode -/
theorem decodeR_any (w : World) (A : Option Addr) (b : List UInt8) (n c : Nat) (hn : b.length = n) (hs : Src w A b) (hc : n ≤ c) : Calls Try.prog 19 #[.slice A n c] w (Gets w (.tuple #[ptv (decP b), .bool (decOk b)])) := by
  by_cases h : n = 33
  · subst h
    have hs' := hs
    obtain ⟨ga, oa, rfl, hl, hcell⟩ := hs (by intro e; rw [e] at hn; cases hn)
    obtain ⟨o0, o1, o2, o3, o4, o5, o6, o7, o8, o9, o10, o11, o12, o13, o14, o15, o16, o17, o18, o19, o20, o21, o22, o23, o24, o25, o26, o27, o28, o29, o30, o31, o32, rfl⟩ := list33 b hn
    exact decR_33 w ga oa c o0 o1 o2 o3 o4 o5 o6 o7 o8 o9 o10 o11 o12 o13 o14 o15 o16 o17 o18 o19 o20 o21 o22 o23 o24 o25 o26 o27 o28 o29 o30 o31 o32 (SrcL.of hl hcell) hs' hc
  · have hd : decOk b = false := by unfold decOk; exact decide_eq_false (fun k => h (hn ▸ k.1))
    rw [hd, decP_no hd]
    exact decR_len w A n c h
end Go.Proofs.Ytneeefinaejgcaa.Cu

end
