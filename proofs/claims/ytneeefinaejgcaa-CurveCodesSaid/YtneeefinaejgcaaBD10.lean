/-
  Texts of ours, put together: CurveCodesL.
-/
import Derived.Test.YtneeefinaejgcaaBD9
set_option linter.unusedVariables false
set_option linter.unusedSimpArgs false
section
namespace Go.Proofs.Ytneeefinaejgcaa.Cu
open Go.RowKit Go.Proofs.Ytneeefinaejgcaa Go.Proofs.Ytneeefinaejgcaa.Sy

theorem neq_same (w : World) (F : Slots) (o : Oper) (x y : Operand) (a : UInt8) {yt : TypeId} (ho : o.op = .binOp .neq 5 x y yt) (hx : evF F x = bv a) (hy : evF F y = bv a) : (execOp (evF F) o).run Try.prog w = .ok (.value (.bool false)) w := by
  have h1 : (eqGuard .neq 5 x y (bv a) (bv a)).run Try.prog w = .ok () w := by
    unfold bv
    go_simp
  have h2 : (binOp .neq 5 (bv a) (bv a)).run Try.prog w = .ok (.bool false) w := by
    unfold bv
    go_simp
  unfold execOp
  simp only [ho, hx, hy, Sem.run_bind, h1, h2, Result.andThen_ok, Sem.run_pure]
set_option maxHeartbeats 4000000 in
set_option maxRecDepth 100000 in
theorem law_codes (w : World) (x0 y0 : Nat) (i0 : Bool) (hx0 : x0 < K4) (hy0 : y0 < K4) (A : Option Addr) (b : List UInt8) (n c : Nat) (hn : b.length = n) (hs : Src w A b) (hc : n ≤ c) : Calls Try.prog 5 #[pv x0 y0 i0, .slice A n c] w (Gets w (.bool true)) := by
  obtain ⟨e0, e1, e2, e3, e4, e5, e6, e7, e8, e9, e10, e11, e12, e13, e14, e15, e16, e17, e18, e19, e20, e21, e22, e23, e24, e25, e26, e27, e28, e29, e30, e31, e32, he⟩ := list33 (encS (dec x0 y0 i0)) (encS_length _)
  obtain ⟨dx, dy, di, ldx, ldy, ed, dd, rd⟩ := ptv_raw (decP b) (decP_on b)
  obtain ⟨kb, hkb⟩ : ∃ k, k = decOk b := ⟨_, rfl⟩
  have cE : ∀ w, Calls Try.prog 16 #[pv x0 y0 i0] w (Gets w (.agg ((bv e0 :: bv e1 :: bv e2 :: [bv e3, bv e4, bv e5, bv e6, bv e7, bv e8, bv e9, bv e10, bv e11, bv e12, bv e13, bv e14, bv e15, bv e16, bv e17, bv e18, bv e19, bv e20, bv e21, bv e22, bv e23, bv e24, bv e25, bv e26, bv e27, bv e28, bv e29, bv e30, bv e31, bv e32]) : List Value).toArray)) := fun w => by
    have h := enc_any w x0 y0 i0 hx0 hy0
    rw [he] at h
    exact h
  have cR : ∀ w, Calls Try.prog 17 #[pv x0 y0 i0] w (GetsN w (fun vq Mq => ∃ (g : Nat) (sp : List Value) (cap : Nat), vq = .slice (some ⟨g, 0, none⟩) 33 cap ∧ Mq = [(g, 5, ((bv e0 :: bv e1 :: bv e2 :: [bv e3, bv e4, bv e5, bv e6, bv e7, bv e8, bv e9, bv e10, bv e11, bv e12, bv e13, bv e14, bv e15, bv e16, bv e17, bv e18, bv e19, bv e20, bv e21, bv e22, bv e23, bv e24, bv e25, bv e26, bv e27, bv e28, bv e29, bv e30, bv e31, bv e32]) ++ sp).toArray)])) := fun w => by
    have h := encR_any w x0 y0 i0 hx0 hy0
    rw [he] at h
    exact h
  have cD : ∀ w1, Below w.heap.size w w1 → Calls Try.prog 18 #[.slice A n c] w1 (Gets w1 (.tuple #[pv dx dy di, .bool kb])) := fun w1 hb => by
    have h := decode_any w1 A b n c hn (hs.below hb) hc
    rw [ed, ← hkb] at h
    exact h
  have cS : ∀ w1, Below w.heap.size w w1 → Calls Try.prog 19 #[.slice A n c] w1 (Gets w1 (.tuple #[pv dx dy di, .bool kb])) := fun w1 hb => by
    have h := decodeR_any w1 A b n c hn (hs.below hb) hc
    rw [ed, ← hkb] at h
    exact h
  refine Sy.enter (args := [pv x0 y0 i0, .slice A n c]) Try.func5 rfl (Nat.le_of_ble_eq_true (by kernel_rfl)) ?_
  refine Sy.seq ?_
  refine Sy.region ?_
  refine Sy.make (by kernel_rfl) 27 (pcs x0 y0 i0) ptr (fun _ => by kernel_rfl) (fun g0 => ?_)
  refine Sy.step (by kernel_rfl) (.bool false) (Quiet.pure (fun _ => by kernel_rfl)) ?_
  refine Sy.nil ?_
  refine Sy.then_ ?_
  refine Sy.seq ?_
  refine Sy.region ?_
  refine Sy.step (by kernel_rfl) (pv x0 y0 i0) (Quiet.load 0 g0 0 9 27 27 (pcs x0 y0 i0) _ _ rfl (by kernel_rfl) (by kernel_rfl) Try.underlying27 rfl (by kernel_rfl) _ (by kernel_rfl) (Nat.le_of_ble_eq_true (by kernel_rfl))) ?_
  refine Sy.step (by kernel_rfl) (.agg ((bv e0 :: bv e1 :: bv e2 :: [bv e3, bv e4, bv e5, bv e6, bv e7, bv e8, bv e9, bv e10, bv e11, bv e12, bv e13, bv e14, bv e15, bv e16, bv e17, bv e18, bv e19, bv e20, bv e21, bv e22, bv e23, bv e24, bv e25, bv e26, bv e27, bv e28, bv e29, bv e30, bv e31, bv e32]) : List Value).toArray) (Quiet.call 16 #[pv x0 y0 i0] (fun _ => by kernel_rfl) (cE)) ?_
  refine Sy.make (by kernel_rfl) 42 (.int .u8 0 :: .int .u8 0 :: .int .u8 0 :: [.int .u8 0, .int .u8 0, .int .u8 0, .int .u8 0, .int .u8 0, .int .u8 0, .int .u8 0, .int .u8 0, .int .u8 0, .int .u8 0, .int .u8 0, .int .u8 0, .int .u8 0, .int .u8 0, .int .u8 0, .int .u8 0, .int .u8 0, .int .u8 0, .int .u8 0, .int .u8 0, .int .u8 0, .int .u8 0, .int .u8 0, .int .u8 0, .int .u8 0, .int .u8 0, .int .u8 0, .int .u8 0, .int .u8 0, .int .u8 0]).toArray ptr (fun _ => by kernel_rfl) (fun g1 => ?_)
  refine Sy.write (by kernel_rfl) 1 g1 42 (.int .u8 0 :: .int .u8 0 :: .int .u8 0 :: [.int .u8 0, .int .u8 0, .int .u8 0, .int .u8 0, .int .u8 0, .int .u8 0, .int .u8 0, .int .u8 0, .int .u8 0, .int .u8 0, .int .u8 0, .int .u8 0, .int .u8 0, .int .u8 0, .int .u8 0, .int .u8 0, .int .u8 0, .int .u8 0, .int .u8 0, .int .u8 0, .int .u8 0, .int .u8 0, .int .u8 0, .int .u8 0, .int .u8 0, .int .u8 0, .int .u8 0, .int .u8 0, .int .u8 0, .int .u8 0]).toArray (bv e0 :: bv e1 :: bv e2 :: [bv e3, bv e4, bv e5, bv e6, bv e7, bv e8, bv e9, bv e10, bv e11, bv e12, bv e13, bv e14, bv e15, bv e16, bv e17, bv e18, bv e19, bv e20, bv e21, bv e22, bv e23, bv e24, bv e25, bv e26, bv e27, bv e28, bv e29, bv e30, bv e31, bv e32]).toArray (by kernel_rfl) (Writes.store 0 42 (bv e0 :: bv e1 :: bv e2 :: [bv e3, bv e4, bv e5, bv e6, bv e7, bv e8, bv e9, bv e10, bv e11, bv e12, bv e13, bv e14, bv e15, bv e16, bv e17, bv e18, bv e19, bv e20, bv e21, bv e22, bv e23, bv e24, bv e25, bv e26, bv e27, bv e28, bv e29, bv e30, bv e31, bv e32]).toArray _ _ rfl (by kernel_rfl) (by kernel_rfl) (by kernel_rfl) (Nat.le_of_ble_eq_true (by kernel_rfl)) (by kernel_rfl) (by kernel_rfl)) ?_
  generalize hD1 : ((bv e0 :: bv e1 :: bv e2 :: [bv e3, bv e4, bv e5, bv e6, bv e7, bv e8, bv e9, bv e10, bv e11, bv e12, bv e13, bv e14, bv e15, bv e16, bv e17, bv e18, bv e19, bv e20, bv e21, bv e22, bv e23, bv e24, bv e25, bv e26, bv e27, bv e28, bv e29, bv e30, bv e31, bv e32]).toArray : Array Value) = D1
  refine Sy.nil ?_
  refine Sy.then_ ?_
  refine Sy.seq ?_
  refine Sy.region ?_
  refine Sy.step (by kernel_rfl) (pv x0 y0 i0) (Quiet.load 0 g0 0 9 27 27 (pcs x0 y0 i0) _ _ rfl (by kernel_rfl) (by kernel_rfl) Try.underlying27 rfl (by kernel_rfl) _ (by kernel_rfl) (Nat.le_of_ble_eq_true (by kernel_rfl))) ?_
  refine Sy.callN (by kernel_rfl) 17 #[pv x0 y0 i0] (fun _ => by kernel_rfl) (fun vq Mq => ∃ (g : Nat) (sp : List Value) (cap : Nat), vq = .slice (some ⟨g, 0, none⟩) 33 cap ∧ Mq = [(g, 5, ((bv e0 :: bv e1 :: bv e2 :: [bv e3, bv e4, bv e5, bv e6, bv e7, bv e8, bv e9, bv e10, bv e11, bv e12, bv e13, bv e14, bv e15, bv e16, bv e17, bv e18, bv e19, bv e20, bv e21, bv e22, bv e23, bv e24, bv e25, bv e26, bv e27, bv e28, bv e29, bv e30, bv e31, bv e32]) ++ sp).toArray)]) (fun w _ => cR w) (fun vq Mq hR0 => ?_)
  obtain ⟨g9, sp9, cp9, rfl, rfl⟩ := hR0
  generalize hD2 : (((bv e0 :: bv e1 :: bv e2 :: [bv e3, bv e4, bv e5, bv e6, bv e7, bv e8, bv e9, bv e10, bv e11, bv e12, bv e13, bv e14, bv e15, bv e16, bv e17, bv e18, bv e19, bv e20, bv e21, bv e22, bv e23, bv e24, bv e25, bv e26, bv e27, bv e28, bv e29, bv e30, bv e31, bv e32]) ++ sp9).toArray : Array Value) = D2
  refine Sy.step (by kernel_rfl) (.slice (some ⟨g9, 0, none⟩) 33 cp9) (Quiet.pure (fun _ => by kernel_rfl)) ?_
  refine Sy.nil ?_
  refine Sy.then_ ?_
  refine Sy.seq ?_
  refine Sy.seq ?_
  refine Sy.region ?_
  refine Sy.step (by kernel_rfl) (.int .i64 0) (Quiet.pure (fun _ => by kernel_rfl)) ?_
  refine Sy.nil ?_
  refine Sy.then_ ?_
  refine Sy.block ?_
  refine Sy.loopN 34 ?_
  refine Sy.tidyR (G := [(1, .slice A n c), (5, .pointer (some ⟨g1, 0, none⟩)), (6, .slice (some ⟨g9, 0, none⟩) 33 cp9), (16, .int .i64 0)]) (M := [(g1, 42, D1), (g9, 5, D2)]) [false, true, true] (by kernel_rfl) (all_cons (by kernel_rfl) (all_cons (by kernel_rfl) (all_cons (by kernel_rfl) (all_cons (by kernel_rfl) all_nil)))) ?_
  refine Sy.round ?_
  refine Sy.seq ?_
  refine Sy.region ?_
  refine Sy.step (by kernel_rfl) (.bool true) (Quiet.pure (fun _ => by kernel_rfl)) ?_
  refine Sy.nil ?_
  refine Sy.then_ ?_
  refine Sy.seq ?_
  refine Sy.cond_t (by kernel_rfl) (by kernel_rfl) ?_
  refine Sy.skip ?_
  refine Sy.then_ ?_
  refine Sy.seq ?_
  refine Sy.block ?_
  refine Sy.seq ?_
  refine Sy.region ?_
  refine Sy.step (by kernel_rfl) (.int .i64 0) (Quiet.pure (fun _ => by kernel_rfl)) ?_
  refine Sy.step (by kernel_rfl) (.int .i64 0) (Quiet.pure (fun _ => by kernel_rfl)) ?_
  refine Sy.nil ?_
  refine Sy.then_ ?_
  refine Sy.seq ?_
  refine Sy.regionD (fun j => false) (by kernel_rfl) ?_
  refine Sy.stepD 0 rfl (by kernel_rfl) (fun _ _ _ _ h => h) (by kernel_rfl) (.int .i64 0) (Quiet.pure (fun _ => by kernel_rfl)) ?_
  refine Sy.stepD 1 rfl (by kernel_rfl) (fun _ _ _ _ h => h) (by kernel_rfl) (.pointer (some ⟨g1, 0, none⟩)) (Quiet.pure (fun _ => by kernel_rfl)) ?_
  refine Sy.stepD 2 rfl (by kernel_rfl) (fun _ _ _ _ h => h) (by kernel_rfl) (bv e0) (Quiet.cell 0 g1 0 42 5 D1 _ _ rfl (by kernel_rfl) (by kernel_rfl) Try.underlying5 rfl _ (by rw [← hD1]; rfl)) ?_
  refine Sy.stepD 3 rfl (by kernel_rfl) (fun _ _ _ _ h => h) (by kernel_rfl) (.slice (some ⟨g9, 0, none⟩) 33 cp9) (Quiet.pure (fun _ => by kernel_rfl)) ?_
  refine Sy.stepD 4 rfl (by kernel_rfl) (fun _ _ _ _ h => h) (by kernel_rfl) (.int .i64 0) (Quiet.pure (fun _ => by kernel_rfl)) ?_
  refine Sy.stepD 5 rfl (by kernel_rfl) (fun _ _ _ _ h => h) (by kernel_rfl) (.pointer (some ⟨g9, 0, none⟩)) (Quiet.pure (fun _ => by kernel_rfl)) ?_
  refine Sy.stepD 6 rfl (by kernel_rfl) (fun _ _ _ _ h => h) (by kernel_rfl) (bv e0) (Quiet.cell 1 g9 0 5 5 D2 _ _ rfl (by kernel_rfl) (by kernel_rfl) Try.underlying5 rfl _ (by rw [← hD2]; rfl)) ?_
  refine Sy.stepD 7 rfl (by kernel_rfl) (fun _ _ _ _ h => h) (by kernel_rfl) (.bool false) (Quiet.pure (fun w => neq_same w _ _ _ _ e0 rfl rfl rfl)) ?_
  refine Sy.doneD (by kernel_rfl) ?_
  refine Sy.then_ ?_
  refine Sy.cond_f (by kernel_rfl) (by kernel_rfl) ?_
  refine Sy.skip ?_
  refine Sy.in_ ?_
  refine Sy.then_ ?_
  refine Sy.region ?_
  refine Sy.step (by kernel_rfl) (.int .i64 1) (Quiet.pure (fun _ => by kernel_rfl)) ?_
  refine Sy.step (by kernel_rfl) (.int .i64 1) (Quiet.pure (fun _ => by kernel_rfl)) ?_
  refine Sy.nil ?_
  refine Sy.again ?_
  refine Sy.tidyR (G := [(1, .slice A n c), (5, .pointer (some ⟨g1, 0, none⟩)), (6, .slice (some ⟨g9, 0, none⟩) 33 cp9), (16, .int .i64 1)]) (M := [(g1, 42, D1), (g9, 5, D2)]) [true, true] (by kernel_rfl) (all_cons (by kernel_rfl) (all_cons (by kernel_rfl) (all_cons (by kernel_rfl) (all_cons (by kernel_rfl) all_nil)))) ?_
  refine Sy.round ?_
  refine Sy.seq ?_
  refine Sy.region ?_
  refine Sy.step (by kernel_rfl) (.bool true) (Quiet.pure (fun _ => by kernel_rfl)) ?_
  refine Sy.nil ?_
  refine Sy.then_ ?_
  refine Sy.seq ?_
  refine Sy.cond_t (by kernel_rfl) (by kernel_rfl) ?_
  refine Sy.skip ?_
  refine Sy.then_ ?_
  refine Sy.seq ?_
  refine Sy.block ?_
  refine Sy.seq ?_
  refine Sy.region ?_
  refine Sy.step (by kernel_rfl) (.int .i64 1) (Quiet.pure (fun _ => by kernel_rfl)) ?_
  refine Sy.step (by kernel_rfl) (.int .i64 1) (Quiet.pure (fun _ => by kernel_rfl)) ?_
  refine Sy.nil ?_
  refine Sy.then_ ?_
  refine Sy.seq ?_
  refine Sy.regionD (fun j => false) (by kernel_rfl) ?_
  refine Sy.stepD 0 rfl (by kernel_rfl) (fun _ _ _ _ h => h) (by kernel_rfl) (.int .i64 1) (Quiet.pure (fun _ => by kernel_rfl)) ?_
  refine Sy.stepD 1 rfl (by kernel_rfl) (fun _ _ _ _ h => h) (by kernel_rfl) (.pointer (some ⟨g1, 1, none⟩)) (Quiet.pure (fun _ => by kernel_rfl)) ?_
  refine Sy.stepD 2 rfl (by kernel_rfl) (fun _ _ _ _ h => h) (by kernel_rfl) (bv e1) (Quiet.cell 0 g1 1 42 5 D1 _ _ rfl (by kernel_rfl) (by kernel_rfl) Try.underlying5 rfl _ (by rw [← hD1]; rfl)) ?_
  refine Sy.stepD 3 rfl (by kernel_rfl) (fun _ _ _ _ h => h) (by kernel_rfl) (.slice (some ⟨g9, 0, none⟩) 33 cp9) (Quiet.pure (fun _ => by kernel_rfl)) ?_
  refine Sy.stepD 4 rfl (by kernel_rfl) (fun _ _ _ _ h => h) (by kernel_rfl) (.int .i64 1) (Quiet.pure (fun _ => by kernel_rfl)) ?_
  refine Sy.stepD 5 rfl (by kernel_rfl) (fun _ _ _ _ h => h) (by kernel_rfl) (.pointer (some ⟨g9, 1, none⟩)) (Quiet.pure (fun _ => by kernel_rfl)) ?_
  refine Sy.stepD 6 rfl (by kernel_rfl) (fun _ _ _ _ h => h) (by kernel_rfl) (bv e1) (Quiet.cell 1 g9 1 5 5 D2 _ _ rfl (by kernel_rfl) (by kernel_rfl) Try.underlying5 rfl _ (by rw [← hD2]; rfl)) ?_
  refine Sy.stepD 7 rfl (by kernel_rfl) (fun _ _ _ _ h => h) (by kernel_rfl) (.bool false) (Quiet.pure (fun w => neq_same w _ _ _ _ e1 rfl rfl rfl)) ?_
  refine Sy.doneD (by kernel_rfl) ?_
  refine Sy.then_ ?_
  refine Sy.cond_f (by kernel_rfl) (by kernel_rfl) ?_
  refine Sy.skip ?_
  refine Sy.in_ ?_
  refine Sy.then_ ?_
  refine Sy.region ?_
  refine Sy.step (by kernel_rfl) (.int .i64 2) (Quiet.pure (fun _ => by kernel_rfl)) ?_
  refine Sy.step (by kernel_rfl) (.int .i64 2) (Quiet.pure (fun _ => by kernel_rfl)) ?_
  refine Sy.nil ?_
  refine Sy.again ?_
  refine Sy.tidyR (G := [(1, .slice A n c), (5, .pointer (some ⟨g1, 0, none⟩)), (6, .slice (some ⟨g9, 0, none⟩) 33 cp9), (16, .int .i64 2)]) (M := [(g1, 42, D1), (g9, 5, D2)]) [true, true] (by kernel_rfl) (all_cons (by kernel_rfl) (all_cons (by kernel_rfl) (all_cons (by kernel_rfl) (all_cons (by kernel_rfl) all_nil)))) ?_
  refine Sy.round ?_
  refine Sy.seq ?_
  refine Sy.region ?_
  refine Sy.step (by kernel_rfl) (.bool true) (Quiet.pure (fun _ => by kernel_rfl)) ?_
  refine Sy.nil ?_
  refine Sy.then_ ?_
  refine Sy.seq ?_
  refine Sy.cond_t (by kernel_rfl) (by kernel_rfl) ?_
  refine Sy.skip ?_
  refine Sy.then_ ?_
  refine Sy.seq ?_
  refine Sy.block ?_
  refine Sy.seq ?_
  refine Sy.region ?_
  refine Sy.step (by kernel_rfl) (.int .i64 2) (Quiet.pure (fun _ => by kernel_rfl)) ?_
  refine Sy.step (by kernel_rfl) (.int .i64 2) (Quiet.pure (fun _ => by kernel_rfl)) ?_
  refine Sy.nil ?_
  refine Sy.then_ ?_
  refine Sy.seq ?_
  refine Sy.regionD (fun j => false) (by kernel_rfl) ?_
  refine Sy.stepD 0 rfl (by kernel_rfl) (fun _ _ _ _ h => h) (by kernel_rfl) (.int .i64 2) (Quiet.pure (fun _ => by kernel_rfl)) ?_
  refine Sy.stepD 1 rfl (by kernel_rfl) (fun _ _ _ _ h => h) (by kernel_rfl) (.pointer (some ⟨g1, 2, none⟩)) (Quiet.pure (fun _ => by kernel_rfl)) ?_
  refine Sy.stepD 2 rfl (by kernel_rfl) (fun _ _ _ _ h => h) (by kernel_rfl) (bv e2) (Quiet.cell 0 g1 2 42 5 D1 _ _ rfl (by kernel_rfl) (by kernel_rfl) Try.underlying5 rfl _ (by rw [← hD1]; rfl)) ?_
  refine Sy.stepD 3 rfl (by kernel_rfl) (fun _ _ _ _ h => h) (by kernel_rfl) (.slice (some ⟨g9, 0, none⟩) 33 cp9) (Quiet.pure (fun _ => by kernel_rfl)) ?_
  refine Sy.stepD 4 rfl (by kernel_rfl) (fun _ _ _ _ h => h) (by kernel_rfl) (.int .i64 2) (Quiet.pure (fun _ => by kernel_rfl)) ?_
  refine Sy.stepD 5 rfl (by kernel_rfl) (fun _ _ _ _ h => h) (by kernel_rfl) (.pointer (some ⟨g9, 2, none⟩)) (Quiet.pure (fun _ => by kernel_rfl)) ?_
  refine Sy.stepD 6 rfl (by kernel_rfl) (fun _ _ _ _ h => h) (by kernel_rfl) (bv e2) (Quiet.cell 1 g9 2 5 5 D2 _ _ rfl (by kernel_rfl) (by kernel_rfl) Try.underlying5 rfl _ (by rw [← hD2]; rfl)) ?_
  refine Sy.stepD 7 rfl (by kernel_rfl) (fun _ _ _ _ h => h) (by kernel_rfl) (.bool false) (Quiet.pure (fun w => neq_same w _ _ _ _ e2 rfl rfl rfl)) ?_
  refine Sy.doneD (by kernel_rfl) ?_
  refine Sy.then_ ?_
  refine Sy.cond_f (by kernel_rfl) (by kernel_rfl) ?_
  refine Sy.skip ?_
  refine Sy.in_ ?_
  refine Sy.then_ ?_
  refine Sy.region ?_
  refine Sy.step (by kernel_rfl) (.int .i64 3) (Quiet.pure (fun _ => by kernel_rfl)) ?_
  refine Sy.step (by kernel_rfl) (.int .i64 3) (Quiet.pure (fun _ => by kernel_rfl)) ?_
  refine Sy.nil ?_
  refine Sy.again ?_
  refine Sy.tidyR (G := [(1, .slice A n c), (5, .pointer (some ⟨g1, 0, none⟩)), (6, .slice (some ⟨g9, 0, none⟩) 33 cp9), (16, .int .i64 3)]) (M := [(g1, 42, D1), (g9, 5, D2)]) [true, true] (by kernel_rfl) (all_cons (by kernel_rfl) (all_cons (by kernel_rfl) (all_cons (by kernel_rfl) (all_cons (by kernel_rfl) all_nil)))) ?_
  refine Sy.round ?_
  refine Sy.seq ?_
  refine Sy.region ?_
  refine Sy.step (by kernel_rfl) (.bool true) (Quiet.pure (fun _ => by kernel_rfl)) ?_
  refine Sy.nil ?_
  refine Sy.then_ ?_
  refine Sy.seq ?_
  refine Sy.cond_t (by kernel_rfl) (by kernel_rfl) ?_
  refine Sy.skip ?_
  refine Sy.then_ ?_
  refine Sy.seq ?_
  refine Sy.block ?_
  refine Sy.seq ?_
  refine Sy.region ?_
  refine Sy.step (by kernel_rfl) (.int .i64 3) (Quiet.pure (fun _ => by kernel_rfl)) ?_
  refine Sy.step (by kernel_rfl) (.int .i64 3) (Quiet.pure (fun _ => by kernel_rfl)) ?_
  refine Sy.nil ?_
  refine Sy.then_ ?_
  refine Sy.seq ?_
  refine Sy.regionD (fun j => false) (by kernel_rfl) ?_
  refine Sy.stepD 0 rfl (by kernel_rfl) (fun _ _ _ _ h => h) (by kernel_rfl) (.int .i64 3) (Quiet.pure (fun _ => by kernel_rfl)) ?_
  refine Sy.stepD 1 rfl (by kernel_rfl) (fun _ _ _ _ h => h) (by kernel_rfl) (.pointer (some ⟨g1, 3, none⟩)) (Quiet.pure (fun _ => by kernel_rfl)) ?_
  refine Sy.stepD 2 rfl (by kernel_rfl) (fun _ _ _ _ h => h) (by kernel_rfl) (bv e3) (Quiet.cell 0 g1 3 42 5 D1 _ _ rfl (by kernel_rfl) (by kernel_rfl) Try.underlying5 rfl _ (by rw [← hD1]; rfl)) ?_
  refine Sy.stepD 3 rfl (by kernel_rfl) (fun _ _ _ _ h => h) (by kernel_rfl) (.slice (some ⟨g9, 0, none⟩) 33 cp9) (Quiet.pure (fun _ => by kernel_rfl)) ?_
  refine Sy.stepD 4 rfl (by kernel_rfl) (fun _ _ _ _ h => h) (by kernel_rfl) (.int .i64 3) (Quiet.pure (fun _ => by kernel_rfl)) ?_
  refine Sy.stepD 5 rfl (by kernel_rfl) (fun _ _ _ _ h => h) (by kernel_rfl) (.pointer (some ⟨g9, 3, none⟩)) (Quiet.pure (fun _ => by kernel_rfl)) ?_
  refine Sy.stepD 6 rfl (by kernel_rfl) (fun _ _ _ _ h => h) (by kernel_rfl) (bv e3) (Quiet.cell 1 g9 3 5 5 D2 _ _ rfl (by kernel_rfl) (by kernel_rfl) Try.underlying5 rfl _ (by rw [← hD2]; rfl)) ?_
  refine Sy.stepD 7 rfl (by kernel_rfl) (fun _ _ _ _ h => h) (by kernel_rfl) (.bool false) (Quiet.pure (fun w => neq_same w _ _ _ _ e3 rfl rfl rfl)) ?_
  refine Sy.doneD (by kernel_rfl) ?_
  refine Sy.then_ ?_
  refine Sy.cond_f (by kernel_rfl) (by kernel_rfl) ?_
  refine Sy.skip ?_
  refine Sy.in_ ?_
  refine Sy.then_ ?_
  refine Sy.region ?_
  refine Sy.step (by kernel_rfl) (.int .i64 4) (Quiet.pure (fun _ => by kernel_rfl)) ?_
  refine Sy.step (by kernel_rfl) (.int .i64 4) (Quiet.pure (fun _ => by kernel_rfl)) ?_
  refine Sy.nil ?_
  refine Sy.again ?_
  refine Sy.tidyR (G := [(1, .slice A n c), (5, .pointer (some ⟨g1, 0, none⟩)), (6, .slice (some ⟨g9, 0, none⟩) 33 cp9), (16, .int .i64 4)]) (M := [(g1, 42, D1), (g9, 5, D2)]) [true, true] (by kernel_rfl) (all_cons (by kernel_rfl) (all_cons (by kernel_rfl) (all_cons (by kernel_rfl) (all_cons (by kernel_rfl) all_nil)))) ?_
  refine Sy.round ?_
  refine Sy.seq ?_
  refine Sy.region ?_
  refine Sy.step (by kernel_rfl) (.bool true) (Quiet.pure (fun _ => by kernel_rfl)) ?_
  refine Sy.nil ?_
  refine Sy.then_ ?_
  refine Sy.seq ?_
  refine Sy.cond_t (by kernel_rfl) (by kernel_rfl) ?_
  refine Sy.skip ?_
  refine Sy.then_ ?_
  refine Sy.seq ?_
  refine Sy.block ?_
  refine Sy.seq ?_
  refine Sy.region ?_
  refine Sy.step (by kernel_rfl) (.int .i64 4) (Quiet.pure (fun _ => by kernel_rfl)) ?_
  refine Sy.step (by kernel_rfl) (.int .i64 4) (Quiet.pure (fun _ => by kernel_rfl)) ?_
  refine Sy.nil ?_
  refine Sy.then_ ?_
  refine Sy.seq ?_
  refine Sy.regionD (fun j => false) (by kernel_rfl) ?_
  refine Sy.stepD 0 rfl (by kernel_rfl) (fun _ _ _ _ h => h) (by kernel_rfl) (.int .i64 4) (Quiet.pure (fun _ => by kernel_rfl)) ?_
  refine Sy.stepD 1 rfl (by kernel_rfl) (fun _ _ _ _ h => h) (by kernel_rfl) (.pointer (some ⟨g1, 4, none⟩)) (Quiet.pure (fun _ => by kernel_rfl)) ?_
  refine Sy.stepD 2 rfl (by kernel_rfl) (fun _ _ _ _ h => h) (by kernel_rfl) (bv e4) (Quiet.cell 0 g1 4 42 5 D1 _ _ rfl (by kernel_rfl) (by kernel_rfl) Try.underlying5 rfl _ (by rw [← hD1]; rfl)) ?_
  refine Sy.stepD 3 rfl (by kernel_rfl) (fun _ _ _ _ h => h) (by kernel_rfl) (.slice (some ⟨g9, 0, none⟩) 33 cp9) (Quiet.pure (fun _ => by kernel_rfl)) ?_
  refine Sy.stepD 4 rfl (by kernel_rfl) (fun _ _ _ _ h => h) (by kernel_rfl) (.int .i64 4) (Quiet.pure (fun _ => by kernel_rfl)) ?_
  refine Sy.stepD 5 rfl (by kernel_rfl) (fun _ _ _ _ h => h) (by kernel_rfl) (.pointer (some ⟨g9, 4, none⟩)) (Quiet.pure (fun _ => by kernel_rfl)) ?_
  refine Sy.stepD 6 rfl (by kernel_rfl) (fun _ _ _ _ h => h) (by kernel_rfl) (bv e4) (Quiet.cell 1 g9 4 5 5 D2 _ _ rfl (by kernel_rfl) (by kernel_rfl) Try.underlying5 rfl _ (by rw [← hD2]; rfl)) ?_
  refine Sy.stepD 7 rfl (by kernel_rfl) (fun _ _ _ _ h => h) (by kernel_rfl) (.bool false) (Quiet.pure (fun w => neq_same w _ _ _ _ e4 rfl rfl rfl)) ?_
  refine Sy.doneD (by kernel_rfl) ?_
  refine Sy.then_ ?_
  refine Sy.cond_f (by kernel_rfl) (by kernel_rfl) ?_
  refine Sy.skip ?_
  refine Sy.in_ ?_
  refine Sy.then_ ?_
  refine Sy.region ?_
  refine Sy.step (by kernel_rfl) (.int .i64 5) (Quiet.pure (fun _ => by kernel_rfl)) ?_
  refine Sy.step (by kernel_rfl) (.int .i64 5) (Quiet.pure (fun _ => by kernel_rfl)) ?_
  refine Sy.nil ?_
  refine Sy.again ?_
  refine Sy.tidyR (G := [(1, .slice A n c), (5, .pointer (some ⟨g1, 0, none⟩)), (6, .slice (some ⟨g9, 0, none⟩) 33 cp9), (16, .int .i64 5)]) (M := [(g1, 42, D1), (g9, 5, D2)]) [true, true] (by kernel_rfl) (all_cons (by kernel_rfl) (all_cons (by kernel_rfl) (all_cons (by kernel_rfl) (all_cons (by kernel_rfl) all_nil)))) ?_
  refine Sy.round ?_
  refine Sy.seq ?_
  refine Sy.region ?_
  refine Sy.step (by kernel_rfl) (.bool true) (Quiet.pure (fun _ => by kernel_rfl)) ?_
  refine Sy.nil ?_
  refine Sy.then_ ?_
  refine Sy.seq ?_
  refine Sy.cond_t (by kernel_rfl) (by kernel_rfl) ?_
  refine Sy.skip ?_
  refine Sy.then_ ?_
  refine Sy.seq ?_
  refine Sy.block ?_
  refine Sy.seq ?_
  refine Sy.region ?_
  refine Sy.step (by kernel_rfl) (.int .i64 5) (Quiet.pure (fun _ => by kernel_rfl)) ?_
  refine Sy.step (by kernel_rfl) (.int .i64 5) (Quiet.pure (fun _ => by kernel_rfl)) ?_
  refine Sy.nil ?_
  refine Sy.then_ ?_
  refine Sy.seq ?_
  refine Sy.regionD (fun j => false) (by kernel_rfl) ?_
  refine Sy.stepD 0 rfl (by kernel_rfl) (fun _ _ _ _ h => h) (by kernel_rfl) (.int .i64 5) (Quiet.pure (fun _ => by kernel_rfl)) ?_
  refine Sy.stepD 1 rfl (by kernel_rfl) (fun _ _ _ _ h => h) (by kernel_rfl) (.pointer (some ⟨g1, 5, none⟩)) (Quiet.pure (fun _ => by kernel_rfl)) ?_
  refine Sy.stepD 2 rfl (by kernel_rfl) (fun _ _ _ _ h => h) (by kernel_rfl) (bv e5) (Quiet.cell 0 g1 5 42 5 D1 _ _ rfl (by kernel_rfl) (by kernel_rfl) Try.underlying5 rfl _ (by rw [← hD1]; rfl)) ?_
  refine Sy.stepD 3 rfl (by kernel_rfl) (fun _ _ _ _ h => h) (by kernel_rfl) (.slice (some ⟨g9, 0, none⟩) 33 cp9) (Quiet.pure (fun _ => by kernel_rfl)) ?_
  refine Sy.stepD 4 rfl (by kernel_rfl) (fun _ _ _ _ h => h) (by kernel_rfl) (.int .i64 5) (Quiet.pure (fun _ => by kernel_rfl)) ?_
  refine Sy.stepD 5 rfl (by kernel_rfl) (fun _ _ _ _ h => h) (by kernel_rfl) (.pointer (some ⟨g9, 5, none⟩)) (Quiet.pure (fun _ => by kernel_rfl)) ?_
  refine Sy.stepD 6 rfl (by kernel_rfl) (fun _ _ _ _ h => h) (by kernel_rfl) (bv e5) (Quiet.cell 1 g9 5 5 5 D2 _ _ rfl (by kernel_rfl) (by kernel_rfl) Try.underlying5 rfl _ (by rw [← hD2]; rfl)) ?_
  refine Sy.stepD 7 rfl (by kernel_rfl) (fun _ _ _ _ h => h) (by kernel_rfl) (.bool false) (Quiet.pure (fun w => neq_same w _ _ _ _ e5 rfl rfl rfl)) ?_
  refine Sy.doneD (by kernel_rfl) ?_
  refine Sy.then_ ?_
  refine Sy.cond_f (by kernel_rfl) (by kernel_rfl) ?_
  refine Sy.skip ?_
  refine Sy.in_ ?_
  refine Sy.then_ ?_
  refine Sy.region ?_
  refine Sy.step (by kernel_rfl) (.int .i64 6) (Quiet.pure (fun _ => by kernel_rfl)) ?_
  refine Sy.step (by kernel_rfl) (.int .i64 6) (Quiet.pure (fun _ => by kernel_rfl)) ?_
  refine Sy.nil ?_
  refine Sy.again ?_
  refine Sy.tidyR (G := [(1, .slice A n c), (5, .pointer (some ⟨g1, 0, none⟩)), (6, .slice (some ⟨g9, 0, none⟩) 33 cp9), (16, .int .i64 6)]) (M := [(g1, 42, D1), (g9, 5, D2)]) [true, true] (by kernel_rfl) (all_cons (by kernel_rfl) (all_cons (by kernel_rfl) (all_cons (by kernel_rfl) (all_cons (by kernel_rfl) all_nil)))) ?_
  refine Sy.round ?_
  refine Sy.seq ?_
  refine Sy.region ?_
  refine Sy.step (by kernel_rfl) (.bool true) (Quiet.pure (fun _ => by kernel_rfl)) ?_
  refine Sy.nil ?_
  refine Sy.then_ ?_
  refine Sy.seq ?_
  refine Sy.cond_t (by kernel_rfl) (by kernel_rfl) ?_
  refine Sy.skip ?_
  refine Sy.then_ ?_
  refine Sy.seq ?_
  refine Sy.block ?_
  refine Sy.seq ?_
  refine Sy.region ?_
  refine Sy.step (by kernel_rfl) (.int .i64 6) (Quiet.pure (fun _ => by kernel_rfl)) ?_
  refine Sy.step (by kernel_rfl) (.int .i64 6) (Quiet.pure (fun _ => by kernel_rfl)) ?_
  refine Sy.nil ?_
  refine Sy.then_ ?_
  refine Sy.seq ?_
  refine Sy.regionD (fun j => false) (by kernel_rfl) ?_
  refine Sy.stepD 0 rfl (by kernel_rfl) (fun _ _ _ _ h => h) (by kernel_rfl) (.int .i64 6) (Quiet.pure (fun _ => by kernel_rfl)) ?_
  refine Sy.stepD 1 rfl (by kernel_rfl) (fun _ _ _ _ h => h) (by kernel_rfl) (.pointer (some ⟨g1, 6, none⟩)) (Quiet.pure (fun _ => by kernel_rfl)) ?_
  refine Sy.stepD 2 rfl (by kernel_rfl) (fun _ _ _ _ h => h) (by kernel_rfl) (bv e6) (Quiet.cell 0 g1 6 42 5 D1 _ _ rfl (by kernel_rfl) (by kernel_rfl) Try.underlying5 rfl _ (by rw [← hD1]; rfl)) ?_
  refine Sy.stepD 3 rfl (by kernel_rfl) (fun _ _ _ _ h => h) (by kernel_rfl) (.slice (some ⟨g9, 0, none⟩) 33 cp9) (Quiet.pure (fun _ => by kernel_rfl)) ?_
  refine Sy.stepD 4 rfl (by kernel_rfl) (fun _ _ _ _ h => h) (by kernel_rfl) (.int .i64 6) (Quiet.pure (fun _ => by kernel_rfl)) ?_
  refine Sy.stepD 5 rfl (by kernel_rfl) (fun _ _ _ _ h => h) (by kernel_rfl) (.pointer (some ⟨g9, 6, none⟩)) (Quiet.pure (fun _ => by kernel_rfl)) ?_
  refine Sy.stepD 6 rfl (by kernel_rfl) (fun _ _ _ _ h => h) (by kernel_rfl) (bv e6) (Quiet.cell 1 g9 6 5 5 D2 _ _ rfl (by kernel_rfl) (by kernel_rfl) Try.underlying5 rfl _ (by rw [← hD2]; rfl)) ?_
  refine Sy.stepD 7 rfl (by kernel_rfl) (fun _ _ _ _ h => h) (by kernel_rfl) (.bool false) (Quiet.pure (fun w => neq_same w _ _ _ _ e6 rfl rfl rfl)) ?_
  refine Sy.doneD (by kernel_rfl) ?_
  refine Sy.then_ ?_
  refine Sy.cond_f (by kernel_rfl) (by kernel_rfl) ?_
  refine Sy.skip ?_
  refine Sy.in_ ?_
  refine Sy.then_ ?_
  refine Sy.region ?_
  refine Sy.step (by kernel_rfl) (.int .i64 7) (Quiet.pure (fun _ => by kernel_rfl)) ?_
  refine Sy.step (by kernel_rfl) (.int .i64 7) (Quiet.pure (fun _ => by kernel_rfl)) ?_
  refine Sy.nil ?_
  refine Sy.again ?_
  refine Sy.tidyR (G := [(1, .slice A n c), (5, .pointer (some ⟨g1, 0, none⟩)), (6, .slice (some ⟨g9, 0, none⟩) 33 cp9), (16, .int .i64 7)]) (M := [(g1, 42, D1), (g9, 5, D2)]) [true, true] (by kernel_rfl) (all_cons (by kernel_rfl) (all_cons (by kernel_rfl) (all_cons (by kernel_rfl) (all_cons (by kernel_rfl) all_nil)))) ?_
  refine Sy.round ?_
  refine Sy.seq ?_
  refine Sy.region ?_
  refine Sy.step (by kernel_rfl) (.bool true) (Quiet.pure (fun _ => by kernel_rfl)) ?_
  refine Sy.nil ?_
  refine Sy.then_ ?_
  refine Sy.seq ?_
  refine Sy.cond_t (by kernel_rfl) (by kernel_rfl) ?_
  refine Sy.skip ?_
  refine Sy.then_ ?_
  refine Sy.seq ?_
  refine Sy.block ?_
  refine Sy.seq ?_
  refine Sy.region ?_
  refine Sy.step (by kernel_rfl) (.int .i64 7) (Quiet.pure (fun _ => by kernel_rfl)) ?_
  refine Sy.step (by kernel_rfl) (.int .i64 7) (Quiet.pure (fun _ => by kernel_rfl)) ?_
  refine Sy.nil ?_
  refine Sy.then_ ?_
  refine Sy.seq ?_
  refine Sy.regionD (fun j => false) (by kernel_rfl) ?_
  refine Sy.stepD 0 rfl (by kernel_rfl) (fun _ _ _ _ h => h) (by kernel_rfl) (.int .i64 7) (Quiet.pure (fun _ => by kernel_rfl)) ?_
  refine Sy.stepD 1 rfl (by kernel_rfl) (fun _ _ _ _ h => h) (by kernel_rfl) (.pointer (some ⟨g1, 7, none⟩)) (Quiet.pure (fun _ => by kernel_rfl)) ?_
  refine Sy.stepD 2 rfl (by kernel_rfl) (fun _ _ _ _ h => h) (by kernel_rfl) (bv e7) (Quiet.cell 0 g1 7 42 5 D1 _ _ rfl (by kernel_rfl) (by kernel_rfl) Try.underlying5 rfl _ (by rw [← hD1]; rfl)) ?_
  refine Sy.stepD 3 rfl (by kernel_rfl) (fun _ _ _ _ h => h) (by kernel_rfl) (.slice (some ⟨g9, 0, none⟩) 33 cp9) (Quiet.pure (fun _ => by kernel_rfl)) ?_
  refine Sy.stepD 4 rfl (by kernel_rfl) (fun _ _ _ _ h => h) (by kernel_rfl) (.int .i64 7) (Quiet.pure (fun _ => by kernel_rfl)) ?_
  refine Sy.stepD 5 rfl (by kernel_rfl) (fun _ _ _ _ h => h) (by kernel_rfl) (.pointer (some ⟨g9, 7, none⟩)) (Quiet.pure (fun _ => by kernel_rfl)) ?_
  refine Sy.stepD 6 rfl (by kernel_rfl) (fun _ _ _ _ h => h) (by kernel_rfl) (bv e7) (Quiet.cell 1 g9 7 5 5 D2 _ _ rfl (by kernel_rfl) (by kernel_rfl) Try.underlying5 rfl _ (by rw [← hD2]; rfl)) ?_
  refine Sy.stepD 7 rfl (by kernel_rfl) (fun _ _ _ _ h => h) (by kernel_rfl) (.bool false) (Quiet.pure (fun w => neq_same w _ _ _ _ e7 rfl rfl rfl)) ?_
  refine Sy.doneD (by kernel_rfl) ?_
  refine Sy.then_ ?_
  refine Sy.cond_f (by kernel_rfl) (by kernel_rfl) ?_
  refine Sy.skip ?_
  refine Sy.in_ ?_
  refine Sy.then_ ?_
  refine Sy.region ?_
  refine Sy.step (by kernel_rfl) (.int .i64 8) (Quiet.pure (fun _ => by kernel_rfl)) ?_
  refine Sy.step (by kernel_rfl) (.int .i64 8) (Quiet.pure (fun _ => by kernel_rfl)) ?_
  refine Sy.nil ?_
  refine Sy.again ?_
  refine Sy.tidyR (G := [(1, .slice A n c), (5, .pointer (some ⟨g1, 0, none⟩)), (6, .slice (some ⟨g9, 0, none⟩) 33 cp9), (16, .int .i64 8)]) (M := [(g1, 42, D1), (g9, 5, D2)]) [true, true] (by kernel_rfl) (all_cons (by kernel_rfl) (all_cons (by kernel_rfl) (all_cons (by kernel_rfl) (all_cons (by kernel_rfl) all_nil)))) ?_
  refine Sy.round ?_
  refine Sy.seq ?_
  refine Sy.region ?_
  refine Sy.step (by kernel_rfl) (.bool true) (Quiet.pure (fun _ => by kernel_rfl)) ?_
  refine Sy.nil ?_
  refine Sy.then_ ?_
  refine Sy.seq ?_
  refine Sy.cond_t (by kernel_rfl) (by kernel_rfl) ?_
  refine Sy.skip ?_
  refine Sy.then_ ?_
  refine Sy.seq ?_
  refine Sy.block ?_
  refine Sy.seq ?_
  refine Sy.region ?_
  refine Sy.step (by kernel_rfl) (.int .i64 8) (Quiet.pure (fun _ => by kernel_rfl)) ?_
  refine Sy.step (by kernel_rfl) (.int .i64 8) (Quiet.pure (fun _ => by kernel_rfl)) ?_
  refine Sy.nil ?_
  refine Sy.then_ ?_
  refine Sy.seq ?_
  refine Sy.regionD (fun j => false) (by kernel_rfl) ?_
  refine Sy.stepD 0 rfl (by kernel_rfl) (fun _ _ _ _ h => h) (by kernel_rfl) (.int .i64 8) (Quiet.pure (fun _ => by kernel_rfl)) ?_
  refine Sy.stepD 1 rfl (by kernel_rfl) (fun _ _ _ _ h => h) (by kernel_rfl) (.pointer (some ⟨g1, 8, none⟩)) (Quiet.pure (fun _ => by kernel_rfl)) ?_
  refine Sy.stepD 2 rfl (by kernel_rfl) (fun _ _ _ _ h => h) (by kernel_rfl) (bv e8) (Quiet.cell 0 g1 8 42 5 D1 _ _ rfl (by kernel_rfl) (by kernel_rfl) Try.underlying5 rfl _ (by rw [← hD1]; rfl)) ?_
  refine Sy.stepD 3 rfl (by kernel_rfl) (fun _ _ _ _ h => h) (by kernel_rfl) (.slice (some ⟨g9, 0, none⟩) 33 cp9) (Quiet.pure (fun _ => by kernel_rfl)) ?_
  refine Sy.stepD 4 rfl (by kernel_rfl) (fun _ _ _ _ h => h) (by kernel_rfl) (.int .i64 8) (Quiet.pure (fun _ => by kernel_rfl)) ?_
  refine Sy.stepD 5 rfl (by kernel_rfl) (fun _ _ _ _ h => h) (by kernel_rfl) (.pointer (some ⟨g9, 8, none⟩)) (Quiet.pure (fun _ => by kernel_rfl)) ?_
  refine Sy.stepD 6 rfl (by kernel_rfl) (fun _ _ _ _ h => h) (by kernel_rfl) (bv e8) (Quiet.cell 1 g9 8 5 5 D2 _ _ rfl (by kernel_rfl) (by kernel_rfl) Try.underlying5 rfl _ (by rw [← hD2]; rfl)) ?_
  refine Sy.stepD 7 rfl (by kernel_rfl) (fun _ _ _ _ h => h) (by kernel_rfl) (.bool false) (Quiet.pure (fun w => neq_same w _ _ _ _ e8 rfl rfl rfl)) ?_
  refine Sy.doneD (by kernel_rfl) ?_
  refine Sy.then_ ?_
  refine Sy.cond_f (by kernel_rfl) (by kernel_rfl) ?_
  refine Sy.skip ?_
  refine Sy.in_ ?_
  refine Sy.then_ ?_
  refine Sy.region ?_
  refine Sy.step (by kernel_rfl) (.int .i64 9) (Quiet.pure (fun _ => by kernel_rfl)) ?_
  refine Sy.step (by kernel_rfl) (.int .i64 9) (Quiet.pure (fun _ => by kernel_rfl)) ?_
  refine Sy.nil ?_
  refine Sy.again ?_
  refine Sy.tidyR (G := [(1, .slice A n c), (5, .pointer (some ⟨g1, 0, none⟩)), (6, .slice (some ⟨g9, 0, none⟩) 33 cp9), (16, .int .i64 9)]) (M := [(g1, 42, D1), (g9, 5, D2)]) [true, true] (by kernel_rfl) (all_cons (by kernel_rfl) (all_cons (by kernel_rfl) (all_cons (by kernel_rfl) (all_cons (by kernel_rfl) all_nil)))) ?_
  refine Sy.round ?_
  refine Sy.seq ?_
  refine Sy.region ?_
  refine Sy.step (by kernel_rfl) (.bool true) (Quiet.pure (fun _ => by kernel_rfl)) ?_
  refine Sy.nil ?_
  refine Sy.then_ ?_
  refine Sy.seq ?_
  refine Sy.cond_t (by kernel_rfl) (by kernel_rfl) ?_
  refine Sy.skip ?_
  refine Sy.then_ ?_
  refine Sy.seq ?_
  refine Sy.block ?_
  refine Sy.seq ?_
  refine Sy.region ?_
  refine Sy.step (by kernel_rfl) (.int .i64 9) (Quiet.pure (fun _ => by kernel_rfl)) ?_
  refine Sy.step (by kernel_rfl) (.int .i64 9) (Quiet.pure (fun _ => by kernel_rfl)) ?_
  refine Sy.nil ?_
  refine Sy.then_ ?_
  refine Sy.seq ?_
  refine Sy.regionD (fun j => false) (by kernel_rfl) ?_
  refine Sy.stepD 0 rfl (by kernel_rfl) (fun _ _ _ _ h => h) (by kernel_rfl) (.int .i64 9) (Quiet.pure (fun _ => by kernel_rfl)) ?_
  refine Sy.stepD 1 rfl (by kernel_rfl) (fun _ _ _ _ h => h) (by kernel_rfl) (.pointer (some ⟨g1, 9, none⟩)) (Quiet.pure (fun _ => by kernel_rfl)) ?_
  refine Sy.stepD 2 rfl (by kernel_rfl) (fun _ _ _ _ h => h) (by kernel_rfl) (bv e9) (Quiet.cell 0 g1 9 42 5 D1 _ _ rfl (by kernel_rfl) (by kernel_rfl) Try.underlying5 rfl _ (by rw [← hD1]; rfl)) ?_
  refine Sy.stepD 3 rfl (by kernel_rfl) (fun _ _ _ _ h => h) (by kernel_rfl) (.slice (some ⟨g9, 0, none⟩) 33 cp9) (Quiet.pure (fun _ => by kernel_rfl)) ?_
  refine Sy.stepD 4 rfl (by kernel_rfl) (fun _ _ _ _ h => h) (by kernel_rfl) (.int .i64 9) (Quiet.pure (fun _ => by kernel_rfl)) ?_
  refine Sy.stepD 5 rfl (by kernel_rfl) (fun _ _ _ _ h => h) (by kernel_rfl) (.pointer (some ⟨g9, 9, none⟩)) (Quiet.pure (fun _ => by kernel_rfl)) ?_
  refine Sy.stepD 6 rfl (by kernel_rfl) (fun _ _ _ _ h => h) (by kernel_rfl) (bv e9) (Quiet.cell 1 g9 9 5 5 D2 _ _ rfl (by kernel_rfl) (by kernel_rfl) Try.underlying5 rfl _ (by rw [← hD2]; rfl)) ?_
  refine Sy.stepD 7 rfl (by kernel_rfl) (fun _ _ _ _ h => h) (by kernel_rfl) (.bool false) (Quiet.pure (fun w => neq_same w _ _ _ _ e9 rfl rfl rfl)) ?_
  refine Sy.doneD (by kernel_rfl) ?_
  refine Sy.then_ ?_
  refine Sy.cond_f (by kernel_rfl) (by kernel_rfl) ?_
  refine Sy.skip ?_
  refine Sy.in_ ?_
  refine Sy.then_ ?_
  refine Sy.region ?_
  refine Sy.step (by kernel_rfl) (.int .i64 10) (Quiet.pure (fun _ => by kernel_rfl)) ?_
  refine Sy.step (by kernel_rfl) (.int .i64 10) (Quiet.pure (fun _ => by kernel_rfl)) ?_
  refine Sy.nil ?_
  refine Sy.again ?_
  refine Sy.tidyR (G := [(1, .slice A n c), (5, .pointer (some ⟨g1, 0, none⟩)), (6, .slice (some ⟨g9, 0, none⟩) 33 cp9), (16, .int .i64 10)]) (M := [(g1, 42, D1), (g9, 5, D2)]) [true, true] (by kernel_rfl) (all_cons (by kernel_rfl) (all_cons (by kernel_rfl) (all_cons (by kernel_rfl) (all_cons (by kernel_rfl) all_nil)))) ?_
  refine Sy.round ?_
  refine Sy.seq ?_
  refine Sy.region ?_
  refine Sy.step (by kernel_rfl) (.bool true) (Quiet.pure (fun _ => by kernel_rfl)) ?_
  refine Sy.nil ?_
  refine Sy.then_ ?_
  refine Sy.seq ?_
  refine Sy.cond_t (by kernel_rfl) (by kernel_rfl) ?_
  refine Sy.skip ?_
  refine Sy.then_ ?_
  refine Sy.seq ?_
  refine Sy.block ?_
  refine Sy.seq ?_
  refine Sy.region ?_
  refine Sy.step (by kernel_rfl) (.int .i64 10) (Quiet.pure (fun _ => by kernel_rfl)) ?_
  refine Sy.step (by kernel_rfl) (.int .i64 10) (Quiet.pure (fun _ => by kernel_rfl)) ?_
  refine Sy.nil ?_
  refine Sy.then_ ?_
  refine Sy.seq ?_
  refine Sy.regionD (fun j => false) (by kernel_rfl) ?_
  refine Sy.stepD 0 rfl (by kernel_rfl) (fun _ _ _ _ h => h) (by kernel_rfl) (.int .i64 10) (Quiet.pure (fun _ => by kernel_rfl)) ?_
  refine Sy.stepD 1 rfl (by kernel_rfl) (fun _ _ _ _ h => h) (by kernel_rfl) (.pointer (some ⟨g1, 10, none⟩)) (Quiet.pure (fun _ => by kernel_rfl)) ?_
  refine Sy.stepD 2 rfl (by kernel_rfl) (fun _ _ _ _ h => h) (by kernel_rfl) (bv e10) (Quiet.cell 0 g1 10 42 5 D1 _ _ rfl (by kernel_rfl) (by kernel_rfl) Try.underlying5 rfl _ (by rw [← hD1]; rfl)) ?_
  refine Sy.stepD 3 rfl (by kernel_rfl) (fun _ _ _ _ h => h) (by kernel_rfl) (.slice (some ⟨g9, 0, none⟩) 33 cp9) (Quiet.pure (fun _ => by kernel_rfl)) ?_
  refine Sy.stepD 4 rfl (by kernel_rfl) (fun _ _ _ _ h => h) (by kernel_rfl) (.int .i64 10) (Quiet.pure (fun _ => by kernel_rfl)) ?_
  refine Sy.stepD 5 rfl (by kernel_rfl) (fun _ _ _ _ h => h) (by kernel_rfl) (.pointer (some ⟨g9, 10, none⟩)) (Quiet.pure (fun _ => by kernel_rfl)) ?_
  refine Sy.stepD 6 rfl (by kernel_rfl) (fun _ _ _ _ h => h) (by kernel_rfl) (bv e10) (Quiet.cell 1 g9 10 5 5 D2 _ _ rfl (by kernel_rfl) (by kernel_rfl) Try.underlying5 rfl _ (by rw [← hD2]; rfl)) ?_
  refine Sy.stepD 7 rfl (by kernel_rfl) (fun _ _ _ _ h => h) (by kernel_rfl) (.bool false) (Quiet.pure (fun w => neq_same w _ _ _ _ e10 rfl rfl rfl)) ?_
  refine Sy.doneD (by kernel_rfl) ?_
  refine Sy.then_ ?_
  refine Sy.cond_f (by kernel_rfl) (by kernel_rfl) ?_
  refine Sy.skip ?_
  refine Sy.in_ ?_
  refine Sy.then_ ?_
  refine Sy.region ?_
  refine Sy.step (by kernel_rfl) (.int .i64 11) (Quiet.pure (fun _ => by kernel_rfl)) ?_
  refine Sy.step (by kernel_rfl) (.int .i64 11) (Quiet.pure (fun _ => by kernel_rfl)) ?_
  refine Sy.nil ?_
  refine Sy.again ?_
  refine Sy.tidyR (G := [(1, .slice A n c), (5, .pointer (some ⟨g1, 0, none⟩)), (6, .slice (some ⟨g9, 0, none⟩) 33 cp9), (16, .int .i64 11)]) (M := [(g1, 42, D1), (g9, 5, D2)]) [true, true] (by kernel_rfl) (all_cons (by kernel_rfl) (all_cons (by kernel_rfl) (all_cons (by kernel_rfl) (all_cons (by kernel_rfl) all_nil)))) ?_
  refine Sy.round ?_
  refine Sy.seq ?_
  refine Sy.region ?_
  refine Sy.step (by kernel_rfl) (.bool true) (Quiet.pure (fun _ => by kernel_rfl)) ?_
  refine Sy.nil ?_
  refine Sy.then_ ?_
  refine Sy.seq ?_
  refine Sy.cond_t (by kernel_rfl) (by kernel_rfl) ?_
  refine Sy.skip ?_
  refine Sy.then_ ?_
  refine Sy.seq ?_
  refine Sy.block ?_
  refine Sy.seq ?_
  refine Sy.region ?_
  refine Sy.step (by kernel_rfl) (.int .i64 11) (Quiet.pure (fun _ => by kernel_rfl)) ?_
  refine Sy.step (by kernel_rfl) (.int .i64 11) (Quiet.pure (fun _ => by kernel_rfl)) ?_
  refine Sy.nil ?_
  refine Sy.then_ ?_
  refine Sy.seq ?_
  refine Sy.regionD (fun j => false) (by kernel_rfl) ?_
  refine Sy.stepD 0 rfl (by kernel_rfl) (fun _ _ _ _ h => h) (by kernel_rfl) (.int .i64 11) (Quiet.pure (fun _ => by kernel_rfl)) ?_
  refine Sy.stepD 1 rfl (by kernel_rfl) (fun _ _ _ _ h => h) (by kernel_rfl) (.pointer (some ⟨g1, 11, none⟩)) (Quiet.pure (fun _ => by kernel_rfl)) ?_
  refine Sy.stepD 2 rfl (by kernel_rfl) (fun _ _ _ _ h => h) (by kernel_rfl) (bv e11) (Quiet.cell 0 g1 11 42 5 D1 _ _ rfl (by kernel_rfl) (by kernel_rfl) Try.underlying5 rfl _ (by rw [← hD1]; rfl)) ?_
  refine Sy.stepD 3 rfl (by kernel_rfl) (fun _ _ _ _ h => h) (by kernel_rfl) (.slice (some ⟨g9, 0, none⟩) 33 cp9) (Quiet.pure (fun _ => by kernel_rfl)) ?_
  refine Sy.stepD 4 rfl (by kernel_rfl) (fun _ _ _ _ h => h) (by kernel_rfl) (.int .i64 11) (Quiet.pure (fun _ => by kernel_rfl)) ?_
  refine Sy.stepD 5 rfl (by kernel_rfl) (fun _ _ _ _ h => h) (by kernel_rfl) (.pointer (some ⟨g9, 11, none⟩)) (Quiet.pure (fun _ => by kernel_rfl)) ?_
  refine Sy.stepD 6 rfl (by kernel_rfl) (fun _ _ _ _ h => h) (by kernel_rfl) (bv e11) (Quiet.cell 1 g9 11 5 5 D2 _ _ rfl (by kernel_rfl) (by kernel_rfl) Try.underlying5 rfl _ (by rw [← hD2]; rfl)) ?_
  refine Sy.stepD 7 rfl (by kernel_rfl) (fun _ _ _ _ h => h) (by kernel_rfl) (.bool false) (Quiet.pure (fun w => neq_same w _ _ _ _ e11 rfl rfl rfl)) ?_
  refine Sy.doneD (by kernel_rfl) ?_
  refine Sy.then_ ?_
  refine Sy.cond_f (by kernel_rfl) (by kernel_rfl) ?_
  refine Sy.skip ?_
  refine Sy.in_ ?_
  refine Sy.then_ ?_
  refine Sy.region ?_
  refine Sy.step (by kernel_rfl) (.int .i64 12) (Quiet.pure (fun _ => by kernel_rfl)) ?_
  refine Sy.step (by kernel_rfl) (.int .i64 12) (Quiet.pure (fun _ => by kernel_rfl)) ?_
  refine Sy.nil ?_
  refine Sy.again ?_
  refine Sy.tidyR (G := [(1, .slice A n c), (5, .pointer (some ⟨g1, 0, none⟩)), (6, .slice (some ⟨g9, 0, none⟩) 33 cp9), (16, .int .i64 12)]) (M := [(g1, 42, D1), (g9, 5, D2)]) [true, true] (by kernel_rfl) (all_cons (by kernel_rfl) (all_cons (by kernel_rfl) (all_cons (by kernel_rfl) (all_cons (by kernel_rfl) all_nil)))) ?_
  refine Sy.round ?_
  refine Sy.seq ?_
  refine Sy.region ?_
  refine Sy.step (by kernel_rfl) (.bool true) (Quiet.pure (fun _ => by kernel_rfl)) ?_
  refine Sy.nil ?_
  refine Sy.then_ ?_
  refine Sy.seq ?_
  refine Sy.cond_t (by kernel_rfl) (by kernel_rfl) ?_
  refine Sy.skip ?_
  refine Sy.then_ ?_
  refine Sy.seq ?_
  refine Sy.block ?_
  refine Sy.seq ?_
  refine Sy.region ?_
  refine Sy.step (by kernel_rfl) (.int .i64 12) (Quiet.pure (fun _ => by kernel_rfl)) ?_
  refine Sy.step (by kernel_rfl) (.int .i64 12) (Quiet.pure (fun _ => by kernel_rfl)) ?_
  refine Sy.nil ?_
  refine Sy.then_ ?_
  refine Sy.seq ?_
  refine Sy.regionD (fun j => false) (by kernel_rfl) ?_
  refine Sy.stepD 0 rfl (by kernel_rfl) (fun _ _ _ _ h => h) (by kernel_rfl) (.int .i64 12) (Quiet.pure (fun _ => by kernel_rfl)) ?_
  refine Sy.stepD 1 rfl (by kernel_rfl) (fun _ _ _ _ h => h) (by kernel_rfl) (.pointer (some ⟨g1, 12, none⟩)) (Quiet.pure (fun _ => by kernel_rfl)) ?_
  refine Sy.stepD 2 rfl (by kernel_rfl) (fun _ _ _ _ h => h) (by kernel_rfl) (bv e12) (Quiet.cell 0 g1 12 42 5 D1 _ _ rfl (by kernel_rfl) (by kernel_rfl) Try.underlying5 rfl _ (by rw [← hD1]; rfl)) ?_
  refine Sy.stepD 3 rfl (by kernel_rfl) (fun _ _ _ _ h => h) (by kernel_rfl) (.slice (some ⟨g9, 0, none⟩) 33 cp9) (Quiet.pure (fun _ => by kernel_rfl)) ?_
  refine Sy.stepD 4 rfl (by kernel_rfl) (fun _ _ _ _ h => h) (by kernel_rfl) (.int .i64 12) (Quiet.pure (fun _ => by kernel_rfl)) ?_
  refine Sy.stepD 5 rfl (by kernel_rfl) (fun _ _ _ _ h => h) (by kernel_rfl) (.pointer (some ⟨g9, 12, none⟩)) (Quiet.pure (fun _ => by kernel_rfl)) ?_
  refine Sy.stepD 6 rfl (by kernel_rfl) (fun _ _ _ _ h => h) (by kernel_rfl) (bv e12) (Quiet.cell 1 g9 12 5 5 D2 _ _ rfl (by kernel_rfl) (by kernel_rfl) Try.underlying5 rfl _ (by rw [← hD2]; rfl)) ?_
  refine Sy.stepD 7 rfl (by kernel_rfl) (fun _ _ _ _ h => h) (by kernel_rfl) (.bool false) (Quiet.pure (fun w => neq_same w _ _ _ _ e12 rfl rfl rfl)) ?_
  refine Sy.doneD (by kernel_rfl) ?_
  refine Sy.then_ ?_
  refine Sy.cond_f (by kernel_rfl) (by kernel_rfl) ?_
  refine Sy.skip ?_
  refine Sy.in_ ?_
  refine Sy.then_ ?_
  refine Sy.region ?_
  refine Sy.step (by kernel_rfl) (.int .i64 13) (Quiet.pure (fun _ => by kernel_rfl)) ?_
  refine Sy.step (by kernel_rfl) (.int .i64 13) (Quiet.pure (fun _ => by kernel_rfl)) ?_
  refine Sy.nil ?_
  refine Sy.again ?_
  refine Sy.tidyR (G := [(1, .slice A n c), (5, .pointer (some ⟨g1, 0, none⟩)), (6, .slice (some ⟨g9, 0, none⟩) 33 cp9), (16, .int .i64 13)]) (M := [(g1, 42, D1), (g9, 5, D2)]) [true, true] (by kernel_rfl) (all_cons (by kernel_rfl) (all_cons (by kernel_rfl) (all_cons (by kernel_rfl) (all_cons (by kernel_rfl) all_nil)))) ?_
  refine Sy.round ?_
  refine Sy.seq ?_
  refine Sy.region ?_
  refine Sy.step (by kernel_rfl) (.bool true) (Quiet.pure (fun _ => by kernel_rfl)) ?_
  refine Sy.nil ?_
  refine Sy.then_ ?_
  refine Sy.seq ?_
  refine Sy.cond_t (by kernel_rfl) (by kernel_rfl) ?_
  refine Sy.skip ?_
  refine Sy.then_ ?_
  refine Sy.seq ?_
  refine Sy.block ?_
  refine Sy.seq ?_
  refine Sy.region ?_
  refine Sy.step (by kernel_rfl) (.int .i64 13) (Quiet.pure (fun _ => by kernel_rfl)) ?_
  refine Sy.step (by kernel_rfl) (.int .i64 13) (Quiet.pure (fun _ => by kernel_rfl)) ?_
  refine Sy.nil ?_
  refine Sy.then_ ?_
  refine Sy.seq ?_
  refine Sy.regionD (fun j => false) (by kernel_rfl) ?_
  refine Sy.stepD 0 rfl (by kernel_rfl) (fun _ _ _ _ h => h) (by kernel_rfl) (.int .i64 13) (Quiet.pure (fun _ => by kernel_rfl)) ?_
  refine Sy.stepD 1 rfl (by kernel_rfl) (fun _ _ _ _ h => h) (by kernel_rfl) (.pointer (some ⟨g1, 13, none⟩)) (Quiet.pure (fun _ => by kernel_rfl)) ?_
  refine Sy.stepD 2 rfl (by kernel_rfl) (fun _ _ _ _ h => h) (by kernel_rfl) (bv e13) (Quiet.cell 0 g1 13 42 5 D1 _ _ rfl (by kernel_rfl) (by kernel_rfl) Try.underlying5 rfl _ (by rw [← hD1]; rfl)) ?_
  refine Sy.stepD 3 rfl (by kernel_rfl) (fun _ _ _ _ h => h) (by kernel_rfl) (.slice (some ⟨g9, 0, none⟩) 33 cp9) (Quiet.pure (fun _ => by kernel_rfl)) ?_
  refine Sy.stepD 4 rfl (by kernel_rfl) (fun _ _ _ _ h => h) (by kernel_rfl) (.int .i64 13) (Quiet.pure (fun _ => by kernel_rfl)) ?_
  refine Sy.stepD 5 rfl (by kernel_rfl) (fun _ _ _ _ h => h) (by kernel_rfl) (.pointer (some ⟨g9, 13, none⟩)) (Quiet.pure (fun _ => by kernel_rfl)) ?_
  refine Sy.stepD 6 rfl (by kernel_rfl) (fun _ _ _ _ h => h) (by kernel_rfl) (bv e13) (Quiet.cell 1 g9 13 5 5 D2 _ _ rfl (by kernel_rfl) (by kernel_rfl) Try.underlying5 rfl _ (by rw [← hD2]; rfl)) ?_
  refine Sy.stepD 7 rfl (by kernel_rfl) (fun _ _ _ _ h => h) (by kernel_rfl) (.bool false) (Quiet.pure (fun w => neq_same w _ _ _ _ e13 rfl rfl rfl)) ?_
  refine Sy.doneD (by kernel_rfl) ?_
  refine Sy.then_ ?_
  refine Sy.cond_f (by kernel_rfl) (by kernel_rfl) ?_
  refine Sy.skip ?_
  refine Sy.in_ ?_
  refine Sy.then_ ?_
  refine Sy.region ?_
  refine Sy.step (by kernel_rfl) (.int .i64 14) (Quiet.pure (fun _ => by kernel_rfl)) ?_
  refine Sy.step (by kernel_rfl) (.int .i64 14) (Quiet.pure (fun _ => by kernel_rfl)) ?_
  refine Sy.nil ?_
  refine Sy.again ?_
  refine Sy.tidyR (G := [(1, .slice A n c), (5, .pointer (some ⟨g1, 0, none⟩)), (6, .slice (some ⟨g9, 0, none⟩) 33 cp9), (16, .int .i64 14)]) (M := [(g1, 42, D1), (g9, 5, D2)]) [true, true] (by kernel_rfl) (all_cons (by kernel_rfl) (all_cons (by kernel_rfl) (all_cons (by kernel_rfl) (all_cons (by kernel_rfl) all_nil)))) ?_
  refine Sy.round ?_
  refine Sy.seq ?_
  refine Sy.region ?_
  refine Sy.step (by kernel_rfl) (.bool true) (Quiet.pure (fun _ => by kernel_rfl)) ?_
  refine Sy.nil ?_
  refine Sy.then_ ?_
  refine Sy.seq ?_
  refine Sy.cond_t (by kernel_rfl) (by kernel_rfl) ?_
  refine Sy.skip ?_
  refine Sy.then_ ?_
  refine Sy.seq ?_
  refine Sy.block ?_
  refine Sy.seq ?_
  refine Sy.region ?_
  refine Sy.step (by kernel_rfl) (.int .i64 14) (Quiet.pure (fun _ => by kernel_rfl)) ?_
  refine Sy.step (by kernel_rfl) (.int .i64 14) (Quiet.pure (fun _ => by kernel_rfl)) ?_
  refine Sy.nil ?_
  refine Sy.then_ ?_
  refine Sy.seq ?_
  refine Sy.regionD (fun j => false) (by kernel_rfl) ?_
  refine Sy.stepD 0 rfl (by kernel_rfl) (fun _ _ _ _ h => h) (by kernel_rfl) (.int .i64 14) (Quiet.pure (fun _ => by kernel_rfl)) ?_
  refine Sy.stepD 1 rfl (by kernel_rfl) (fun _ _ _ _ h => h) (by kernel_rfl) (.pointer (some ⟨g1, 14, none⟩)) (Quiet.pure (fun _ => by kernel_rfl)) ?_
  refine Sy.stepD 2 rfl (by kernel_rfl) (fun _ _ _ _ h => h) (by kernel_rfl) (bv e14) (Quiet.cell 0 g1 14 42 5 D1 _ _ rfl (by kernel_rfl) (by kernel_rfl) Try.underlying5 rfl _ (by rw [← hD1]; rfl)) ?_
  refine Sy.stepD 3 rfl (by kernel_rfl) (fun _ _ _ _ h => h) (by kernel_rfl) (.slice (some ⟨g9, 0, none⟩) 33 cp9) (Quiet.pure (fun _ => by kernel_rfl)) ?_
  refine Sy.stepD 4 rfl (by kernel_rfl) (fun _ _ _ _ h => h) (by kernel_rfl) (.int .i64 14) (Quiet.pure (fun _ => by kernel_rfl)) ?_
  refine Sy.stepD 5 rfl (by kernel_rfl) (fun _ _ _ _ h => h) (by kernel_rfl) (.pointer (some ⟨g9, 14, none⟩)) (Quiet.pure (fun _ => by kernel_rfl)) ?_
  refine Sy.stepD 6 rfl (by kernel_rfl) (fun _ _ _ _ h => h) (by kernel_rfl) (bv e14) (Quiet.cell 1 g9 14 5 5 D2 _ _ rfl (by kernel_rfl) (by kernel_rfl) Try.underlying5 rfl _ (by rw [← hD2]; rfl)) ?_
  refine Sy.stepD 7 rfl (by kernel_rfl) (fun _ _ _ _ h => h) (by kernel_rfl) (.bool false) (Quiet.pure (fun w => neq_same w _ _ _ _ e14 rfl rfl rfl)) ?_
  refine Sy.doneD (by kernel_rfl) ?_
  refine Sy.then_ ?_
  refine Sy.cond_f (by kernel_rfl) (by kernel_rfl) ?_
  refine Sy.skip ?_
  refine Sy.in_ ?_
  refine Sy.then_ ?_
  refine Sy.region ?_
  refine Sy.step (by kernel_rfl) (.int .i64 15) (Quiet.pure (fun _ => by kernel_rfl)) ?_
  refine Sy.step (by kernel_rfl) (.int .i64 15) (Quiet.pure (fun _ => by kernel_rfl)) ?_
  refine Sy.nil ?_
  refine Sy.again ?_
  refine Sy.tidyR (G := [(1, .slice A n c), (5, .pointer (some ⟨g1, 0, none⟩)), (6, .slice (some ⟨g9, 0, none⟩) 33 cp9), (16, .int .i64 15)]) (M := [(g1, 42, D1), (g9, 5, D2)]) [true, true] (by kernel_rfl) (all_cons (by kernel_rfl) (all_cons (by kernel_rfl) (all_cons (by kernel_rfl) (all_cons (by kernel_rfl) all_nil)))) ?_
  refine Sy.round ?_
  refine Sy.seq ?_
  refine Sy.region ?_
  refine Sy.step (by kernel_rfl) (.bool true) (Quiet.pure (fun _ => by kernel_rfl)) ?_
  refine Sy.nil ?_
  refine Sy.then_ ?_
  refine Sy.seq ?_
  refine Sy.cond_t (by kernel_rfl) (by kernel_rfl) ?_
  refine Sy.skip ?_
  refine Sy.then_ ?_
  refine Sy.seq ?_
  refine Sy.block ?_
  refine Sy.seq ?_
  refine Sy.region ?_
  refine Sy.step (by kernel_rfl) (.int .i64 15) (Quiet.pure (fun _ => by kernel_rfl)) ?_
  refine Sy.step (by kernel_rfl) (.int .i64 15) (Quiet.pure (fun _ => by kernel_rfl)) ?_
  refine Sy.nil ?_
  refine Sy.then_ ?_
  refine Sy.seq ?_
  refine Sy.regionD (fun j => false) (by kernel_rfl) ?_
  refine Sy.stepD 0 rfl (by kernel_rfl) (fun _ _ _ _ h => h) (by kernel_rfl) (.int .i64 15) (Quiet.pure (fun _ => by kernel_rfl)) ?_
  refine Sy.stepD 1 rfl (by kernel_rfl) (fun _ _ _ _ h => h) (by kernel_rfl) (.pointer (some ⟨g1, 15, none⟩)) (Quiet.pure (fun _ => by kernel_rfl)) ?_
  refine Sy.stepD 2 rfl (by kernel_rfl) (fun _ _ _ _ h => h) (by kernel_rfl) (bv e15) (Quiet.cell 0 g1 15 42 5 D1 _ _ rfl (by kernel_rfl) (by kernel_rfl) Try.underlying5 rfl _ (by rw [← hD1]; rfl)) ?_
  refine Sy.stepD 3 rfl (by kernel_rfl) (fun _ _ _ _ h => h) (by kernel_rfl) (.slice (some ⟨g9, 0, none⟩) 33 cp9) (Quiet.pure (fun _ => by kernel_rfl)) ?_
  refine Sy.stepD 4 rfl (by kernel_rfl) (fun _ _ _ _ h => h) (by kernel_rfl) (.int .i64 15) (Quiet.pure (fun _ => by kernel_rfl)) ?_
  refine Sy.stepD 5 rfl (by kernel_rfl) (fun _ _ _ _ h => h) (by kernel_rfl) (.pointer (some ⟨g9, 15, none⟩)) (Quiet.pure (fun _ => by kernel_rfl)) ?_
  refine Sy.stepD 6 rfl (by kernel_rfl) (fun _ _ _ _ h => h) (by kernel_rfl) (bv e15) (Quiet.cell 1 g9 15 5 5 D2 _ _ rfl (by kernel_rfl) (by kernel_rfl) Try.underlying5 rfl _ (by rw [← hD2]; rfl)) ?_
  refine Sy.stepD 7 rfl (by kernel_rfl) (fun _ _ _ _ h => h) (by kernel_rfl) (.bool false) (Quiet.pure (fun w => neq_same w _ _ _ _ e15 rfl rfl rfl)) ?_
  refine Sy.doneD (by kernel_rfl) ?_
  refine Sy.then_ ?_
  refine Sy.cond_f (by kernel_rfl) (by kernel_rfl) ?_
  refine Sy.skip ?_
  refine Sy.in_ ?_
  refine Sy.then_ ?_
  refine Sy.region ?_
  refine Sy.step (by kernel_rfl) (.int .i64 16) (Quiet.pure (fun _ => by kernel_rfl)) ?_
  refine Sy.step (by kernel_rfl) (.int .i64 16) (Quiet.pure (fun _ => by kernel_rfl)) ?_
  refine Sy.nil ?_
  refine Sy.again ?_
  refine Sy.tidyR (G := [(1, .slice A n c), (5, .pointer (some ⟨g1, 0, none⟩)), (6, .slice (some ⟨g9, 0, none⟩) 33 cp9), (16, .int .i64 16)]) (M := [(g1, 42, D1), (g9, 5, D2)]) [true, true] (by kernel_rfl) (all_cons (by kernel_rfl) (all_cons (by kernel_rfl) (all_cons (by kernel_rfl) (all_cons (by kernel_rfl) all_nil)))) ?_
  refine Sy.round ?_
  refine Sy.seq ?_
  refine Sy.region ?_
  refine Sy.step (by kernel_rfl) (.bool true) (Quiet.pure (fun _ => by kernel_rfl)) ?_
  refine Sy.nil ?_
  refine Sy.then_ ?_
  refine Sy.seq ?_
  refine Sy.cond_t (by kernel_rfl) (by kernel_rfl) ?_
  refine Sy.skip ?_
  refine Sy.then_ ?_
  refine Sy.seq ?_
  refine Sy.block ?_
  refine Sy.seq ?_
  refine Sy.region ?_
  refine Sy.step (by kernel_rfl) (.int .i64 16) (Quiet.pure (fun _ => by kernel_rfl)) ?_
  refine Sy.step (by kernel_rfl) (.int .i64 16) (Quiet.pure (fun _ => by kernel_rfl)) ?_
  refine Sy.nil ?_
  refine Sy.then_ ?_
  refine Sy.seq ?_
  refine Sy.regionD (fun j => false) (by kernel_rfl) ?_
  refine Sy.stepD 0 rfl (by kernel_rfl) (fun _ _ _ _ h => h) (by kernel_rfl) (.int .i64 16) (Quiet.pure (fun _ => by kernel_rfl)) ?_
  refine Sy.stepD 1 rfl (by kernel_rfl) (fun _ _ _ _ h => h) (by kernel_rfl) (.pointer (some ⟨g1, 16, none⟩)) (Quiet.pure (fun _ => by kernel_rfl)) ?_
  refine Sy.stepD 2 rfl (by kernel_rfl) (fun _ _ _ _ h => h) (by kernel_rfl) (bv e16) (Quiet.cell 0 g1 16 42 5 D1 _ _ rfl (by kernel_rfl) (by kernel_rfl) Try.underlying5 rfl _ (by rw [← hD1]; rfl)) ?_
  refine Sy.stepD 3 rfl (by kernel_rfl) (fun _ _ _ _ h => h) (by kernel_rfl) (.slice (some ⟨g9, 0, none⟩) 33 cp9) (Quiet.pure (fun _ => by kernel_rfl)) ?_
  refine Sy.stepD 4 rfl (by kernel_rfl) (fun _ _ _ _ h => h) (by kernel_rfl) (.int .i64 16) (Quiet.pure (fun _ => by kernel_rfl)) ?_
  refine Sy.stepD 5 rfl (by kernel_rfl) (fun _ _ _ _ h => h) (by kernel_rfl) (.pointer (some ⟨g9, 16, none⟩)) (Quiet.pure (fun _ => by kernel_rfl)) ?_
  refine Sy.stepD 6 rfl (by kernel_rfl) (fun _ _ _ _ h => h) (by kernel_rfl) (bv e16) (Quiet.cell 1 g9 16 5 5 D2 _ _ rfl (by kernel_rfl) (by kernel_rfl) Try.underlying5 rfl _ (by rw [← hD2]; rfl)) ?_
  refine Sy.stepD 7 rfl (by kernel_rfl) (fun _ _ _ _ h => h) (by kernel_rfl) (.bool false) (Quiet.pure (fun w => neq_same w _ _ _ _ e16 rfl rfl rfl)) ?_
  refine Sy.doneD (by kernel_rfl) ?_
  refine Sy.then_ ?_
  refine Sy.cond_f (by kernel_rfl) (by kernel_rfl) ?_
  refine Sy.skip ?_
  refine Sy.in_ ?_
  refine Sy.then_ ?_
  refine Sy.region ?_
  refine Sy.step (by kernel_rfl) (.int .i64 17) (Quiet.pure (fun _ => by kernel_rfl)) ?_
  refine Sy.step (by kernel_rfl) (.int .i64 17) (Quiet.pure (fun _ => by kernel_rfl)) ?_
  refine Sy.nil ?_
  refine Sy.again ?_
  refine Sy.tidyR (G := [(1, .slice A n c), (5, .pointer (some ⟨g1, 0, none⟩)), (6, .slice (some ⟨g9, 0, none⟩) 33 cp9), (16, .int .i64 17)]) (M := [(g1, 42, D1), (g9, 5, D2)]) [true, true] (by kernel_rfl) (all_cons (by kernel_rfl) (all_cons (by kernel_rfl) (all_cons (by kernel_rfl) (all_cons (by kernel_rfl) all_nil)))) ?_
  refine Sy.round ?_
  refine Sy.seq ?_
  refine Sy.region ?_
  refine Sy.step (by kernel_rfl) (.bool true) (Quiet.pure (fun _ => by kernel_rfl)) ?_
  refine Sy.nil ?_
  refine Sy.then_ ?_
  refine Sy.seq ?_
  refine Sy.cond_t (by kernel_rfl) (by kernel_rfl) ?_
  refine Sy.skip ?_
  refine Sy.then_ ?_
  refine Sy.seq ?_
  refine Sy.block ?_
  refine Sy.seq ?_
  refine Sy.region ?_
  refine Sy.step (by kernel_rfl) (.int .i64 17) (Quiet.pure (fun _ => by kernel_rfl)) ?_
  refine Sy.step (by kernel_rfl) (.int .i64 17) (Quiet.pure (fun _ => by kernel_rfl)) ?_
  refine Sy.nil ?_
  refine Sy.then_ ?_
  refine Sy.seq ?_
  refine Sy.regionD (fun j => false) (by kernel_rfl) ?_
  refine Sy.stepD 0 rfl (by kernel_rfl) (fun _ _ _ _ h => h) (by kernel_rfl) (.int .i64 17) (Quiet.pure (fun _ => by kernel_rfl)) ?_
  refine Sy.stepD 1 rfl (by kernel_rfl) (fun _ _ _ _ h => h) (by kernel_rfl) (.pointer (some ⟨g1, 17, none⟩)) (Quiet.pure (fun _ => by kernel_rfl)) ?_
  refine Sy.stepD 2 rfl (by kernel_rfl) (fun _ _ _ _ h => h) (by kernel_rfl) (bv e17) (Quiet.cell 0 g1 17 42 5 D1 _ _ rfl (by kernel_rfl) (by kernel_rfl) Try.underlying5 rfl _ (by rw [← hD1]; rfl)) ?_
  refine Sy.stepD 3 rfl (by kernel_rfl) (fun _ _ _ _ h => h) (by kernel_rfl) (.slice (some ⟨g9, 0, none⟩) 33 cp9) (Quiet.pure (fun _ => by kernel_rfl)) ?_
  refine Sy.stepD 4 rfl (by kernel_rfl) (fun _ _ _ _ h => h) (by kernel_rfl) (.int .i64 17) (Quiet.pure (fun _ => by kernel_rfl)) ?_
  refine Sy.stepD 5 rfl (by kernel_rfl) (fun _ _ _ _ h => h) (by kernel_rfl) (.pointer (some ⟨g9, 17, none⟩)) (Quiet.pure (fun _ => by kernel_rfl)) ?_
  refine Sy.stepD 6 rfl (by kernel_rfl) (fun _ _ _ _ h => h) (by kernel_rfl) (bv e17) (Quiet.cell 1 g9 17 5 5 D2 _ _ rfl (by kernel_rfl) (by kernel_rfl) Try.underlying5 rfl _ (by rw [← hD2]; rfl)) ?_
  refine Sy.stepD 7 rfl (by kernel_rfl) (fun _ _ _ _ h => h) (by kernel_rfl) (.bool false) (Quiet.pure (fun w => neq_same w _ _ _ _ e17 rfl rfl rfl)) ?_
  refine Sy.doneD (by kernel_rfl) ?_
  refine Sy.then_ ?_
  refine Sy.cond_f (by kernel_rfl) (by kernel_rfl) ?_
  refine Sy.skip ?_
  refine Sy.in_ ?_
  refine Sy.then_ ?_
  refine Sy.region ?_
  refine Sy.step (by kernel_rfl) (.int .i64 18) (Quiet.pure (fun _ => by kernel_rfl)) ?_
  refine Sy.step (by kernel_rfl) (.int .i64 18) (Quiet.pure (fun _ => by kernel_rfl)) ?_
  refine Sy.nil ?_
  refine Sy.again ?_
  refine Sy.tidyR (G := [(1, .slice A n c), (5, .pointer (some ⟨g1, 0, none⟩)), (6, .slice (some ⟨g9, 0, none⟩) 33 cp9), (16, .int .i64 18)]) (M := [(g1, 42, D1), (g9, 5, D2)]) [true, true] (by kernel_rfl) (all_cons (by kernel_rfl) (all_cons (by kernel_rfl) (all_cons (by kernel_rfl) (all_cons (by kernel_rfl) all_nil)))) ?_
  refine Sy.round ?_
  refine Sy.seq ?_
  refine Sy.region ?_
  refine Sy.step (by kernel_rfl) (.bool true) (Quiet.pure (fun _ => by kernel_rfl)) ?_
  refine Sy.nil ?_
  refine Sy.then_ ?_
  refine Sy.seq ?_
  refine Sy.cond_t (by kernel_rfl) (by kernel_rfl) ?_
  refine Sy.skip ?_
  refine Sy.then_ ?_
  refine Sy.seq ?_
  refine Sy.block ?_
  refine Sy.seq ?_
  refine Sy.region ?_
  refine Sy.step (by kernel_rfl) (.int .i64 18) (Quiet.pure (fun _ => by kernel_rfl)) ?_
  refine Sy.step (by kernel_rfl) (.int .i64 18) (Quiet.pure (fun _ => by kernel_rfl)) ?_
  refine Sy.nil ?_
  refine Sy.then_ ?_
  refine Sy.seq ?_
  refine Sy.regionD (fun j => false) (by kernel_rfl) ?_
  refine Sy.stepD 0 rfl (by kernel_rfl) (fun _ _ _ _ h => h) (by kernel_rfl) (.int .i64 18) (Quiet.pure (fun _ => by kernel_rfl)) ?_
  refine Sy.stepD 1 rfl (by kernel_rfl) (fun _ _ _ _ h => h) (by kernel_rfl) (.pointer (some ⟨g1, 18, none⟩)) (Quiet.pure (fun _ => by kernel_rfl)) ?_
  refine Sy.stepD 2 rfl (by kernel_rfl) (fun _ _ _ _ h => h) (by kernel_rfl) (bv e18) (Quiet.cell 0 g1 18 42 5 D1 _ _ rfl (by kernel_rfl) (by kernel_rfl) Try.underlying5 rfl _ (by rw [← hD1]; rfl)) ?_
  refine Sy.stepD 3 rfl (by kernel_rfl) (fun _ _ _ _ h => h) (by kernel_rfl) (.slice (some ⟨g9, 0, none⟩) 33 cp9) (Quiet.pure (fun _ => by kernel_rfl)) ?_
  refine Sy.stepD 4 rfl (by kernel_rfl) (fun _ _ _ _ h => h) (by kernel_rfl) (.int .i64 18) (Quiet.pure (fun _ => by kernel_rfl)) ?_
  refine Sy.stepD 5 rfl (by kernel_rfl) (fun _ _ _ _ h => h) (by kernel_rfl) (.pointer (some ⟨g9, 18, none⟩)) (Quiet.pure (fun _ => by kernel_rfl)) ?_
  refine Sy.stepD 6 rfl (by kernel_rfl) (fun _ _ _ _ h => h) (by kernel_rfl) (bv e18) (Quiet.cell 1 g9 18 5 5 D2 _ _ rfl (by kernel_rfl) (by kernel_rfl) Try.underlying5 rfl _ (by rw [← hD2]; rfl)) ?_
  refine Sy.stepD 7 rfl (by kernel_rfl) (fun _ _ _ _ h => h) (by kernel_rfl) (.bool false) (Quiet.pure (fun w => neq_same w _ _ _ _ e18 rfl rfl rfl)) ?_
  refine Sy.doneD (by kernel_rfl) ?_
  refine Sy.then_ ?_
  refine Sy.cond_f (by kernel_rfl) (by kernel_rfl) ?_
  refine Sy.skip ?_
  refine Sy.in_ ?_
  refine Sy.then_ ?_
  refine Sy.region ?_
  refine Sy.step (by kernel_rfl) (.int .i64 19) (Quiet.pure (fun _ => by kernel_rfl)) ?_
  refine Sy.step (by kernel_rfl) (.int .i64 19) (Quiet.pure (fun _ => by kernel_rfl)) ?_
  refine Sy.nil ?_
  refine Sy.again ?_
  refine Sy.tidyR (G := [(1, .slice A n c), (5, .pointer (some ⟨g1, 0, none⟩)), (6, .slice (some ⟨g9, 0, none⟩) 33 cp9), (16, .int .i64 19)]) (M := [(g1, 42, D1), (g9, 5, D2)]) [true, true] (by kernel_rfl) (all_cons (by kernel_rfl) (all_cons (by kernel_rfl) (all_cons (by kernel_rfl) (all_cons (by kernel_rfl) all_nil)))) ?_
  refine Sy.round ?_
  refine Sy.seq ?_
  refine Sy.region ?_
  refine Sy.step (by kernel_rfl) (.bool true) (Quiet.pure (fun _ => by kernel_rfl)) ?_
  refine Sy.nil ?_
  refine Sy.then_ ?_
  refine Sy.seq ?_
  refine Sy.cond_t (by kernel_rfl) (by kernel_rfl) ?_
  refine Sy.skip ?_
  refine Sy.then_ ?_
  refine Sy.seq ?_
  refine Sy.block ?_
  refine Sy.seq ?_
  refine Sy.region ?_
  refine Sy.step (by kernel_rfl) (.int .i64 19) (Quiet.pure (fun _ => by kernel_rfl)) ?_
  refine Sy.step (by kernel_rfl) (.int .i64 19) (Quiet.pure (fun _ => by kernel_rfl)) ?_
  refine Sy.nil ?_
  refine Sy.then_ ?_
  refine Sy.seq ?_
  refine Sy.regionD (fun j => false) (by kernel_rfl) ?_
  refine Sy.stepD 0 rfl (by kernel_rfl) (fun _ _ _ _ h => h) (by kernel_rfl) (.int .i64 19) (Quiet.pure (fun _ => by kernel_rfl)) ?_
  refine Sy.stepD 1 rfl (by kernel_rfl) (fun _ _ _ _ h => h) (by kernel_rfl) (.pointer (some ⟨g1, 19, none⟩)) (Quiet.pure (fun _ => by kernel_rfl)) ?_
  refine Sy.stepD 2 rfl (by kernel_rfl) (fun _ _ _ _ h => h) (by kernel_rfl) (bv e19) (Quiet.cell 0 g1 19 42 5 D1 _ _ rfl (by kernel_rfl) (by kernel_rfl) Try.underlying5 rfl _ (by rw [← hD1]; rfl)) ?_
  refine Sy.stepD 3 rfl (by kernel_rfl) (fun _ _ _ _ h => h) (by kernel_rfl) (.slice (some ⟨g9, 0, none⟩) 33 cp9) (Quiet.pure (fun _ => by kernel_rfl)) ?_
  refine Sy.stepD 4 rfl (by kernel_rfl) (fun _ _ _ _ h => h) (by kernel_rfl) (.int .i64 19) (Quiet.pure (fun _ => by kernel_rfl)) ?_
  refine Sy.stepD 5 rfl (by kernel_rfl) (fun _ _ _ _ h => h) (by kernel_rfl) (.pointer (some ⟨g9, 19, none⟩)) (Quiet.pure (fun _ => by kernel_rfl)) ?_
  refine Sy.stepD 6 rfl (by kernel_rfl) (fun _ _ _ _ h => h) (by kernel_rfl) (bv e19) (Quiet.cell 1 g9 19 5 5 D2 _ _ rfl (by kernel_rfl) (by kernel_rfl) Try.underlying5 rfl _ (by rw [← hD2]; rfl)) ?_
  refine Sy.stepD 7 rfl (by kernel_rfl) (fun _ _ _ _ h => h) (by kernel_rfl) (.bool false) (Quiet.pure (fun w => neq_same w _ _ _ _ e19 rfl rfl rfl)) ?_
  refine Sy.doneD (by kernel_rfl) ?_
  refine Sy.then_ ?_
  refine Sy.cond_f (by kernel_rfl) (by kernel_rfl) ?_
  refine Sy.skip ?_
  refine Sy.in_ ?_
  refine Sy.then_ ?_
  refine Sy.region ?_
  refine Sy.step (by kernel_rfl) (.int .i64 20) (Quiet.pure (fun _ => by kernel_rfl)) ?_
  refine Sy.step (by kernel_rfl) (.int .i64 20) (Quiet.pure (fun _ => by kernel_rfl)) ?_
  refine Sy.nil ?_
  refine Sy.again ?_
  refine Sy.tidyR (G := [(1, .slice A n c), (5, .pointer (some ⟨g1, 0, none⟩)), (6, .slice (some ⟨g9, 0, none⟩) 33 cp9), (16, .int .i64 20)]) (M := [(g1, 42, D1), (g9, 5, D2)]) [true, true] (by kernel_rfl) (all_cons (by kernel_rfl) (all_cons (by kernel_rfl) (all_cons (by kernel_rfl) (all_cons (by kernel_rfl) all_nil)))) ?_
  refine Sy.round ?_
  refine Sy.seq ?_
  refine Sy.region ?_
  refine Sy.step (by kernel_rfl) (.bool true) (Quiet.pure (fun _ => by kernel_rfl)) ?_
  refine Sy.nil ?_
  refine Sy.then_ ?_
  refine Sy.seq ?_
  refine Sy.cond_t (by kernel_rfl) (by kernel_rfl) ?_
  refine Sy.skip ?_
  refine Sy.then_ ?_
  refine Sy.seq ?_
  refine Sy.block ?_
  refine Sy.seq ?_
  refine Sy.region ?_
  refine Sy.step (by kernel_rfl) (.int .i64 20) (Quiet.pure (fun _ => by kernel_rfl)) ?_
  refine Sy.step (by kernel_rfl) (.int .i64 20) (Quiet.pure (fun _ => by kernel_rfl)) ?_
  refine Sy.nil ?_
  refine Sy.then_ ?_
  refine Sy.seq ?_
  refine Sy.regionD (fun j => false) (by kernel_rfl) ?_
  refine Sy.stepD 0 rfl (by kernel_rfl) (fun _ _ _ _ h => h) (by kernel_rfl) (.int .i64 20) (Quiet.pure (fun _ => by kernel_rfl)) ?_
  refine Sy.stepD 1 rfl (by kernel_rfl) (fun _ _ _ _ h => h) (by kernel_rfl) (.pointer (some ⟨g1, 20, none⟩)) (Quiet.pure (fun _ => by kernel_rfl)) ?_
  refine Sy.stepD 2 rfl (by kernel_rfl) (fun _ _ _ _ h => h) (by kernel_rfl) (bv e20) (Quiet.cell 0 g1 20 42 5 D1 _ _ rfl (by kernel_rfl) (by kernel_rfl) Try.underlying5 rfl _ (by rw [← hD1]; rfl)) ?_
  refine Sy.stepD 3 rfl (by kernel_rfl) (fun _ _ _ _ h => h) (by kernel_rfl) (.slice (some ⟨g9, 0, none⟩) 33 cp9) (Quiet.pure (fun _ => by kernel_rfl)) ?_
  refine Sy.stepD 4 rfl (by kernel_rfl) (fun _ _ _ _ h => h) (by kernel_rfl) (.int .i64 20) (Quiet.pure (fun _ => by kernel_rfl)) ?_
  refine Sy.stepD 5 rfl (by kernel_rfl) (fun _ _ _ _ h => h) (by kernel_rfl) (.pointer (some ⟨g9, 20, none⟩)) (Quiet.pure (fun _ => by kernel_rfl)) ?_
  refine Sy.stepD 6 rfl (by kernel_rfl) (fun _ _ _ _ h => h) (by kernel_rfl) (bv e20) (Quiet.cell 1 g9 20 5 5 D2 _ _ rfl (by kernel_rfl) (by kernel_rfl) Try.underlying5 rfl _ (by rw [← hD2]; rfl)) ?_
  refine Sy.stepD 7 rfl (by kernel_rfl) (fun _ _ _ _ h => h) (by kernel_rfl) (.bool false) (Quiet.pure (fun w => neq_same w _ _ _ _ e20 rfl rfl rfl)) ?_
  refine Sy.doneD (by kernel_rfl) ?_
  refine Sy.then_ ?_
  refine Sy.cond_f (by kernel_rfl) (by kernel_rfl) ?_
  refine Sy.skip ?_
  refine Sy.in_ ?_
  refine Sy.then_ ?_
  refine Sy.region ?_
  refine Sy.step (by kernel_rfl) (.int .i64 21) (Quiet.pure (fun _ => by kernel_rfl)) ?_
  refine Sy.step (by kernel_rfl) (.int .i64 21) (Quiet.pure (fun _ => by kernel_rfl)) ?_
  refine Sy.nil ?_
  refine Sy.again ?_
  refine Sy.tidyR (G := [(1, .slice A n c), (5, .pointer (some ⟨g1, 0, none⟩)), (6, .slice (some ⟨g9, 0, none⟩) 33 cp9), (16, .int .i64 21)]) (M := [(g1, 42, D1), (g9, 5, D2)]) [true, true] (by kernel_rfl) (all_cons (by kernel_rfl) (all_cons (by kernel_rfl) (all_cons (by kernel_rfl) (all_cons (by kernel_rfl) all_nil)))) ?_
  refine Sy.round ?_
  refine Sy.seq ?_
  refine Sy.region ?_
  refine Sy.step (by kernel_rfl) (.bool true) (Quiet.pure (fun _ => by kernel_rfl)) ?_
  refine Sy.nil ?_
  refine Sy.then_ ?_
  refine Sy.seq ?_
  refine Sy.cond_t (by kernel_rfl) (by kernel_rfl) ?_
  refine Sy.skip ?_
  refine Sy.then_ ?_
  refine Sy.seq ?_
  refine Sy.block ?_
  refine Sy.seq ?_
  refine Sy.region ?_
  refine Sy.step (by kernel_rfl) (.int .i64 21) (Quiet.pure (fun _ => by kernel_rfl)) ?_
  refine Sy.step (by kernel_rfl) (.int .i64 21) (Quiet.pure (fun _ => by kernel_rfl)) ?_
  refine Sy.nil ?_
  refine Sy.then_ ?_
  refine Sy.seq ?_
  refine Sy.regionD (fun j => false) (by kernel_rfl) ?_
  refine Sy.stepD 0 rfl (by kernel_rfl) (fun _ _ _ _ h => h) (by kernel_rfl) (.int .i64 21) (Quiet.pure (fun _ => by kernel_rfl)) ?_
  refine Sy.stepD 1 rfl (by kernel_rfl) (fun _ _ _ _ h => h) (by kernel_rfl) (.pointer (some ⟨g1, 21, none⟩)) (Quiet.pure (fun _ => by kernel_rfl)) ?_
  refine Sy.stepD 2 rfl (by kernel_rfl) (fun _ _ _ _ h => h) (by kernel_rfl) (bv e21) (Quiet.cell 0 g1 21 42 5 D1 _ _ rfl (by kernel_rfl) (by kernel_rfl) Try.underlying5 rfl _ (by rw [← hD1]; rfl)) ?_
  refine Sy.stepD 3 rfl (by kernel_rfl) (fun _ _ _ _ h => h) (by kernel_rfl) (.slice (some ⟨g9, 0, none⟩) 33 cp9) (Quiet.pure (fun _ => by kernel_rfl)) ?_
  refine Sy.stepD 4 rfl (by kernel_rfl) (fun _ _ _ _ h => h) (by kernel_rfl) (.int .i64 21) (Quiet.pure (fun _ => by kernel_rfl)) ?_
  refine Sy.stepD 5 rfl (by kernel_rfl) (fun _ _ _ _ h => h) (by kernel_rfl) (.pointer (some ⟨g9, 21, none⟩)) (Quiet.pure (fun _ => by kernel_rfl)) ?_
  refine Sy.stepD 6 rfl (by kernel_rfl) (fun _ _ _ _ h => h) (by kernel_rfl) (bv e21) (Quiet.cell 1 g9 21 5 5 D2 _ _ rfl (by kernel_rfl) (by kernel_rfl) Try.underlying5 rfl _ (by rw [← hD2]; rfl)) ?_
  refine Sy.stepD 7 rfl (by kernel_rfl) (fun _ _ _ _ h => h) (by kernel_rfl) (.bool false) (Quiet.pure (fun w => neq_same w _ _ _ _ e21 rfl rfl rfl)) ?_
  refine Sy.doneD (by kernel_rfl) ?_
  refine Sy.then_ ?_
  refine Sy.cond_f (by kernel_rfl) (by kernel_rfl) ?_
  refine Sy.skip ?_
  refine Sy.in_ ?_
  refine Sy.then_ ?_
  refine Sy.region ?_
  refine Sy.step (by kernel_rfl) (.int .i64 22) (Quiet.pure (fun _ => by kernel_rfl)) ?_
  refine Sy.step (by kernel_rfl) (.int .i64 22) (Quiet.pure (fun _ => by kernel_rfl)) ?_
  refine Sy.nil ?_
  refine Sy.again ?_
  refine Sy.tidyR (G := [(1, .slice A n c), (5, .pointer (some ⟨g1, 0, none⟩)), (6, .slice (some ⟨g9, 0, none⟩) 33 cp9), (16, .int .i64 22)]) (M := [(g1, 42, D1), (g9, 5, D2)]) [true, true] (by kernel_rfl) (all_cons (by kernel_rfl) (all_cons (by kernel_rfl) (all_cons (by kernel_rfl) (all_cons (by kernel_rfl) all_nil)))) ?_
  refine Sy.round ?_
  refine Sy.seq ?_
  refine Sy.region ?_
  refine Sy.step (by kernel_rfl) (.bool true) (Quiet.pure (fun _ => by kernel_rfl)) ?_
  refine Sy.nil ?_
  refine Sy.then_ ?_
  refine Sy.seq ?_
  refine Sy.cond_t (by kernel_rfl) (by kernel_rfl) ?_
  refine Sy.skip ?_
  refine Sy.then_ ?_
  refine Sy.seq ?_
  refine Sy.block ?_
  refine Sy.seq ?_
  refine Sy.region ?_
  refine Sy.step (by kernel_rfl) (.int .i64 22) (Quiet.pure (fun _ => by kernel_rfl)) ?_
  refine Sy.step (by kernel_rfl) (.int .i64 22) (Quiet.pure (fun _ => by kernel_rfl)) ?_
  refine Sy.nil ?_
  refine Sy.then_ ?_
  refine Sy.seq ?_
  refine Sy.regionD (fun j => false) (by kernel_rfl) ?_
  refine Sy.stepD 0 rfl (by kernel_rfl) (fun _ _ _ _ h => h) (by kernel_rfl) (.int .i64 22) (Quiet.pure (fun _ => by kernel_rfl)) ?_
  refine Sy.stepD 1 rfl (by kernel_rfl) (fun _ _ _ _ h => h) (by kernel_rfl) (.pointer (some ⟨g1, 22, none⟩)) (Quiet.pure (fun _ => by kernel_rfl)) ?_
  refine Sy.stepD 2 rfl (by kernel_rfl) (fun _ _ _ _ h => h) (by kernel_rfl) (bv e22) (Quiet.cell 0 g1 22 42 5 D1 _ _ rfl (by kernel_rfl) (by kernel_rfl) Try.underlying5 rfl _ (by rw [← hD1]; rfl)) ?_
  refine Sy.stepD 3 rfl (by kernel_rfl) (fun _ _ _ _ h => h) (by kernel_rfl) (.slice (some ⟨g9, 0, none⟩) 33 cp9) (Quiet.pure (fun _ => by kernel_rfl)) ?_
  refine Sy.stepD 4 rfl (by kernel_rfl) (fun _ _ _ _ h => h) (by kernel_rfl) (.int .i64 22) (Quiet.pure (fun _ => by kernel_rfl)) ?_
  refine Sy.stepD 5 rfl (by kernel_rfl) (fun _ _ _ _ h => h) (by kernel_rfl) (.pointer (some ⟨g9, 22, none⟩)) (Quiet.pure (fun _ => by kernel_rfl)) ?_
  refine Sy.stepD 6 rfl (by kernel_rfl) (fun _ _ _ _ h => h) (by kernel_rfl) (bv e22) (Quiet.cell 1 g9 22 5 5 D2 _ _ rfl (by kernel_rfl) (by kernel_rfl) Try.underlying5 rfl _ (by rw [← hD2]; rfl)) ?_
  refine Sy.stepD 7 rfl (by kernel_rfl) (fun _ _ _ _ h => h) (by kernel_rfl) (.bool false) (Quiet.pure (fun w => neq_same w _ _ _ _ e22 rfl rfl rfl)) ?_
  refine Sy.doneD (by kernel_rfl) ?_
  refine Sy.then_ ?_
  refine Sy.cond_f (by kernel_rfl) (by kernel_rfl) ?_
  refine Sy.skip ?_
  refine Sy.in_ ?_
  refine Sy.then_ ?_
  refine Sy.region ?_
  refine Sy.step (by kernel_rfl) (.int .i64 23) (Quiet.pure (fun _ => by kernel_rfl)) ?_
  refine Sy.step (by kernel_rfl) (.int .i64 23) (Quiet.pure (fun _ => by kernel_rfl)) ?_
  refine Sy.nil ?_
  refine Sy.again ?_
  refine Sy.tidyR (G := [(1, .slice A n c), (5, .pointer (some ⟨g1, 0, none⟩)), (6, .slice (some ⟨g9, 0, none⟩) 33 cp9), (16, .int .i64 23)]) (M := [(g1, 42, D1), (g9, 5, D2)]) [true, true] (by kernel_rfl) (all_cons (by kernel_rfl) (all_cons (by kernel_rfl) (all_cons (by kernel_rfl) (all_cons (by kernel_rfl) all_nil)))) ?_
  refine Sy.round ?_
  refine Sy.seq ?_
  refine Sy.region ?_
  refine Sy.step (by kernel_rfl) (.bool true) (Quiet.pure (fun _ => by kernel_rfl)) ?_
  refine Sy.nil ?_
  refine Sy.then_ ?_
  refine Sy.seq ?_
  refine Sy.cond_t (by kernel_rfl) (by kernel_rfl) ?_
  refine Sy.skip ?_
  refine Sy.then_ ?_
  refine Sy.seq ?_
  refine Sy.block ?_
  refine Sy.seq ?_
  refine Sy.region ?_
  refine Sy.step (by kernel_rfl) (.int .i64 23) (Quiet.pure (fun _ => by kernel_rfl)) ?_
  refine Sy.step (by kernel_rfl) (.int .i64 23) (Quiet.pure (fun _ => by kernel_rfl)) ?_
  refine Sy.nil ?_
  refine Sy.then_ ?_
  refine Sy.seq ?_
  refine Sy.regionD (fun j => false) (by kernel_rfl) ?_
  refine Sy.stepD 0 rfl (by kernel_rfl) (fun _ _ _ _ h => h) (by kernel_rfl) (.int .i64 23) (Quiet.pure (fun _ => by kernel_rfl)) ?_
  refine Sy.stepD 1 rfl (by kernel_rfl) (fun _ _ _ _ h => h) (by kernel_rfl) (.pointer (some ⟨g1, 23, none⟩)) (Quiet.pure (fun _ => by kernel_rfl)) ?_
  refine Sy.stepD 2 rfl (by kernel_rfl) (fun _ _ _ _ h => h) (by kernel_rfl) (bv e23) (Quiet.cell 0 g1 23 42 5 D1 _ _ rfl (by kernel_rfl) (by kernel_rfl) Try.underlying5 rfl _ (by rw [← hD1]; rfl)) ?_
  refine Sy.stepD 3 rfl (by kernel_rfl) (fun _ _ _ _ h => h) (by kernel_rfl) (.slice (some ⟨g9, 0, none⟩) 33 cp9) (Quiet.pure (fun _ => by kernel_rfl)) ?_
  refine Sy.stepD 4 rfl (by kernel_rfl) (fun _ _ _ _ h => h) (by kernel_rfl) (.int .i64 23) (Quiet.pure (fun _ => by kernel_rfl)) ?_
  refine Sy.stepD 5 rfl (by kernel_rfl) (fun _ _ _ _ h => h) (by kernel_rfl) (.pointer (some ⟨g9, 23, none⟩)) (Quiet.pure (fun _ => by kernel_rfl)) ?_
  refine Sy.stepD 6 rfl (by kernel_rfl) (fun _ _ _ _ h => h) (by kernel_rfl) (bv e23) (Quiet.cell 1 g9 23 5 5 D2 _ _ rfl (by kernel_rfl) (by kernel_rfl) Try.underlying5 rfl _ (by rw [← hD2]; rfl)) ?_
  refine Sy.stepD 7 rfl (by kernel_rfl) (fun _ _ _ _ h => h) (by kernel_rfl) (.bool false) (Quiet.pure (fun w => neq_same w _ _ _ _ e23 rfl rfl rfl)) ?_
  refine Sy.doneD (by kernel_rfl) ?_
  refine Sy.then_ ?_
  refine Sy.cond_f (by kernel_rfl) (by kernel_rfl) ?_
  refine Sy.skip ?_
  refine Sy.in_ ?_
  refine Sy.then_ ?_
  refine Sy.region ?_
  refine Sy.step (by kernel_rfl) (.int .i64 24) (Quiet.pure (fun _ => by kernel_rfl)) ?_
  refine Sy.step (by kernel_rfl) (.int .i64 24) (Quiet.pure (fun _ => by kernel_rfl)) ?_
  refine Sy.nil ?_
  refine Sy.again ?_
  refine Sy.tidyR (G := [(1, .slice A n c), (5, .pointer (some ⟨g1, 0, none⟩)), (6, .slice (some ⟨g9, 0, none⟩) 33 cp9), (16, .int .i64 24)]) (M := [(g1, 42, D1), (g9, 5, D2)]) [true, true] (by kernel_rfl) (all_cons (by kernel_rfl) (all_cons (by kernel_rfl) (all_cons (by kernel_rfl) (all_cons (by kernel_rfl) all_nil)))) ?_
  refine Sy.round ?_
  refine Sy.seq ?_
  refine Sy.region ?_
  refine Sy.step (by kernel_rfl) (.bool true) (Quiet.pure (fun _ => by kernel_rfl)) ?_
  refine Sy.nil ?_
  refine Sy.then_ ?_
  refine Sy.seq ?_
  refine Sy.cond_t (by kernel_rfl) (by kernel_rfl) ?_
  refine Sy.skip ?_
  refine Sy.then_ ?_
  refine Sy.seq ?_
  refine Sy.block ?_
  refine Sy.seq ?_
  refine Sy.region ?_
  refine Sy.step (by kernel_rfl) (.int .i64 24) (Quiet.pure (fun _ => by kernel_rfl)) ?_
  refine Sy.step (by kernel_rfl) (.int .i64 24) (Quiet.pure (fun _ => by kernel_rfl)) ?_
  refine Sy.nil ?_
  refine Sy.then_ ?_
  refine Sy.seq ?_
  refine Sy.regionD (fun j => false) (by kernel_rfl) ?_
  refine Sy.stepD 0 rfl (by kernel_rfl) (fun _ _ _ _ h => h) (by kernel_rfl) (.int .i64 24) (Quiet.pure (fun _ => by kernel_rfl)) ?_
  refine Sy.stepD 1 rfl (by kernel_rfl) (fun _ _ _ _ h => h) (by kernel_rfl) (.pointer (some ⟨g1, 24, none⟩)) (Quiet.pure (fun _ => by kernel_rfl)) ?_
  refine Sy.stepD 2 rfl (by kernel_rfl) (fun _ _ _ _ h => h) (by kernel_rfl) (bv e24) (Quiet.cell 0 g1 24 42 5 D1 _ _ rfl (by kernel_rfl) (by kernel_rfl) Try.underlying5 rfl _ (by rw [← hD1]; rfl)) ?_
  refine Sy.stepD 3 rfl (by kernel_rfl) (fun _ _ _ _ h => h) (by kernel_rfl) (.slice (some ⟨g9, 0, none⟩) 33 cp9) (Quiet.pure (fun _ => by kernel_rfl)) ?_
  refine Sy.stepD 4 rfl (by kernel_rfl) (fun _ _ _ _ h => h) (by kernel_rfl) (.int .i64 24) (Quiet.pure (fun _ => by kernel_rfl)) ?_
  refine Sy.stepD 5 rfl (by kernel_rfl) (fun _ _ _ _ h => h) (by kernel_rfl) (.pointer (some ⟨g9, 24, none⟩)) (Quiet.pure (fun _ => by kernel_rfl)) ?_
  refine Sy.stepD 6 rfl (by kernel_rfl) (fun _ _ _ _ h => h) (by kernel_rfl) (bv e24) (Quiet.cell 1 g9 24 5 5 D2 _ _ rfl (by kernel_rfl) (by kernel_rfl) Try.underlying5 rfl _ (by rw [← hD2]; rfl)) ?_
  refine Sy.stepD 7 rfl (by kernel_rfl) (fun _ _ _ _ h => h) (by kernel_rfl) (.bool false) (Quiet.pure (fun w => neq_same w _ _ _ _ e24 rfl rfl rfl)) ?_
  refine Sy.doneD (by kernel_rfl) ?_
  refine Sy.then_ ?_
  refine Sy.cond_f (by kernel_rfl) (by kernel_rfl) ?_
  refine Sy.skip ?_
  refine Sy.in_ ?_
  refine Sy.then_ ?_
  refine Sy.region ?_
  refine Sy.step (by kernel_rfl) (.int .i64 25) (Quiet.pure (fun _ => by kernel_rfl)) ?_
  refine Sy.step (by kernel_rfl) (.int .i64 25) (Quiet.pure (fun _ => by kernel_rfl)) ?_
  refine Sy.nil ?_
  refine Sy.again ?_
  refine Sy.tidyR (G := [(1, .slice A n c), (5, .pointer (some ⟨g1, 0, none⟩)), (6, .slice (some ⟨g9, 0, none⟩) 33 cp9), (16, .int .i64 25)]) (M := [(g1, 42, D1), (g9, 5, D2)]) [true, true] (by kernel_rfl) (all_cons (by kernel_rfl) (all_cons (by kernel_rfl) (all_cons (by kernel_rfl) (all_cons (by kernel_rfl) all_nil)))) ?_
  refine Sy.round ?_
  refine Sy.seq ?_
  refine Sy.region ?_
  refine Sy.step (by kernel_rfl) (.bool true) (Quiet.pure (fun _ => by kernel_rfl)) ?_
  refine Sy.nil ?_
  refine Sy.then_ ?_
  refine Sy.seq ?_
  refine Sy.cond_t (by kernel_rfl) (by kernel_rfl) ?_
  refine Sy.skip ?_
  refine Sy.then_ ?_
  refine Sy.seq ?_
  refine Sy.block ?_
  refine Sy.seq ?_
  refine Sy.region ?_
  refine Sy.step (by kernel_rfl) (.int .i64 25) (Quiet.pure (fun _ => by kernel_rfl)) ?_
  refine Sy.step (by kernel_rfl) (.int .i64 25) (Quiet.pure (fun _ => by kernel_rfl)) ?_
  refine Sy.nil ?_
  refine Sy.then_ ?_
  refine Sy.seq ?_
  refine Sy.regionD (fun j => false) (by kernel_rfl) ?_
  refine Sy.stepD 0 rfl (by kernel_rfl) (fun _ _ _ _ h => h) (by kernel_rfl) (.int .i64 25) (Quiet.pure (fun _ => by kernel_rfl)) ?_
  refine Sy.stepD 1 rfl (by kernel_rfl) (fun _ _ _ _ h => h) (by kernel_rfl) (.pointer (some ⟨g1, 25, none⟩)) (Quiet.pure (fun _ => by kernel_rfl)) ?_
  refine Sy.stepD 2 rfl (by kernel_rfl) (fun _ _ _ _ h => h) (by kernel_rfl) (bv e25) (Quiet.cell 0 g1 25 42 5 D1 _ _ rfl (by kernel_rfl) (by kernel_rfl) Try.underlying5 rfl _ (by rw [← hD1]; rfl)) ?_
  refine Sy.stepD 3 rfl (by kernel_rfl) (fun _ _ _ _ h => h) (by kernel_rfl) (.slice (some ⟨g9, 0, none⟩) 33 cp9) (Quiet.pure (fun _ => by kernel_rfl)) ?_
  refine Sy.stepD 4 rfl (by kernel_rfl) (fun _ _ _ _ h => h) (by kernel_rfl) (.int .i64 25) (Quiet.pure (fun _ => by kernel_rfl)) ?_
  refine Sy.stepD 5 rfl (by kernel_rfl) (fun _ _ _ _ h => h) (by kernel_rfl) (.pointer (some ⟨g9, 25, none⟩)) (Quiet.pure (fun _ => by kernel_rfl)) ?_
  refine Sy.stepD 6 rfl (by kernel_rfl) (fun _ _ _ _ h => h) (by kernel_rfl) (bv e25) (Quiet.cell 1 g9 25 5 5 D2 _ _ rfl (by kernel_rfl) (by kernel_rfl) Try.underlying5 rfl _ (by rw [← hD2]; rfl)) ?_
  refine Sy.stepD 7 rfl (by kernel_rfl) (fun _ _ _ _ h => h) (by kernel_rfl) (.bool false) (Quiet.pure (fun w => neq_same w _ _ _ _ e25 rfl rfl rfl)) ?_
  refine Sy.doneD (by kernel_rfl) ?_
  refine Sy.then_ ?_
  refine Sy.cond_f (by kernel_rfl) (by kernel_rfl) ?_
  refine Sy.skip ?_
  refine Sy.in_ ?_
  refine Sy.then_ ?_
  refine Sy.region ?_
  refine Sy.step (by kernel_rfl) (.int .i64 26) (Quiet.pure (fun _ => by kernel_rfl)) ?_
  refine Sy.step (by kernel_rfl) (.int .i64 26) (Quiet.pure (fun _ => by kernel_rfl)) ?_
  refine Sy.nil ?_
  refine Sy.again ?_
  refine Sy.tidyR (G := [(1, .slice A n c), (5, .pointer (some ⟨g1, 0, none⟩)), (6, .slice (some ⟨g9, 0, none⟩) 33 cp9), (16, .int .i64 26)]) (M := [(g1, 42, D1), (g9, 5, D2)]) [true, true] (by kernel_rfl) (all_cons (by kernel_rfl) (all_cons (by kernel_rfl) (all_cons (by kernel_rfl) (all_cons (by kernel_rfl) all_nil)))) ?_
  refine Sy.round ?_
  refine Sy.seq ?_
  refine Sy.region ?_
  refine Sy.step (by kernel_rfl) (.bool true) (Quiet.pure (fun _ => by kernel_rfl)) ?_
  refine Sy.nil ?_
  refine Sy.then_ ?_
  refine Sy.seq ?_
  refine Sy.cond_t (by kernel_rfl) (by kernel_rfl) ?_
  refine Sy.skip ?_
  refine Sy.then_ ?_
  refine Sy.seq ?_
  refine Sy.block ?_
  refine Sy.seq ?_
  refine Sy.region ?_
  refine Sy.step (by kernel_rfl) (.int .i64 26) (Quiet.pure (fun _ => by kernel_rfl)) ?_
  refine Sy.step (by kernel_rfl) (.int .i64 26) (Quiet.pure (fun _ => by kernel_rfl)) ?_
  refine Sy.nil ?_
  refine Sy.then_ ?_
  refine Sy.seq ?_
  refine Sy.regionD (fun j => false) (by kernel_rfl) ?_
  refine Sy.stepD 0 rfl (by kernel_rfl) (fun _ _ _ _ h => h) (by kernel_rfl) (.int .i64 26) (Quiet.pure (fun _ => by kernel_rfl)) ?_
  refine Sy.stepD 1 rfl (by kernel_rfl) (fun _ _ _ _ h => h) (by kernel_rfl) (.pointer (some ⟨g1, 26, none⟩)) (Quiet.pure (fun _ => by kernel_rfl)) ?_
  refine Sy.stepD 2 rfl (by kernel_rfl) (fun _ _ _ _ h => h) (by kernel_rfl) (bv e26) (Quiet.cell 0 g1 26 42 5 D1 _ _ rfl (by kernel_rfl) (by kernel_rfl) Try.underlying5 rfl _ (by rw [← hD1]; rfl)) ?_
  refine Sy.stepD 3 rfl (by kernel_rfl) (fun _ _ _ _ h => h) (by kernel_rfl) (.slice (some ⟨g9, 0, none⟩) 33 cp9) (Quiet.pure (fun _ => by kernel_rfl)) ?_
  refine Sy.stepD 4 rfl (by kernel_rfl) (fun _ _ _ _ h => h) (by kernel_rfl) (.int .i64 26) (Quiet.pure (fun _ => by kernel_rfl)) ?_
  refine Sy.stepD 5 rfl (by kernel_rfl) (fun _ _ _ _ h => h) (by kernel_rfl) (.pointer (some ⟨g9, 26, none⟩)) (Quiet.pure (fun _ => by kernel_rfl)) ?_
  refine Sy.stepD 6 rfl (by kernel_rfl) (fun _ _ _ _ h => h) (by kernel_rfl) (bv e26) (Quiet.cell 1 g9 26 5 5 D2 _ _ rfl (by kernel_rfl) (by kernel_rfl) Try.underlying5 rfl _ (by rw [← hD2]; rfl)) ?_
  refine Sy.stepD 7 rfl (by kernel_rfl) (fun _ _ _ _ h => h) (by kernel_rfl) (.bool false) (Quiet.pure (fun w => neq_same w _ _ _ _ e26 rfl rfl rfl)) ?_
  refine Sy.doneD (by kernel_rfl) ?_
  refine Sy.then_ ?_
  refine Sy.cond_f (by kernel_rfl) (by kernel_rfl) ?_
  refine Sy.skip ?_
  refine Sy.in_ ?_
  refine Sy.then_ ?_
  refine Sy.region ?_
  refine Sy.step (by kernel_rfl) (.int .i64 27) (Quiet.pure (fun _ => by kernel_rfl)) ?_
  refine Sy.step (by kernel_rfl) (.int .i64 27) (Quiet.pure (fun _ => by kernel_rfl)) ?_
  refine Sy.nil ?_
  refine Sy.again ?_
  refine Sy.tidyR (G := [(1, .slice A n c), (5, .pointer (some ⟨g1, 0, none⟩)), (6, .slice (some ⟨g9, 0, none⟩) 33 cp9), (16, .int .i64 27)]) (M := [(g1, 42, D1), (g9, 5, D2)]) [true, true] (by kernel_rfl) (all_cons (by kernel_rfl) (all_cons (by kernel_rfl) (all_cons (by kernel_rfl) (all_cons (by kernel_rfl) all_nil)))) ?_
  refine Sy.round ?_
  refine Sy.seq ?_
  refine Sy.region ?_
  refine Sy.step (by kernel_rfl) (.bool true) (Quiet.pure (fun _ => by kernel_rfl)) ?_
  refine Sy.nil ?_
  refine Sy.then_ ?_
  refine Sy.seq ?_
  refine Sy.cond_t (by kernel_rfl) (by kernel_rfl) ?_
  refine Sy.skip ?_
  refine Sy.then_ ?_
  refine Sy.seq ?_
  refine Sy.block ?_
  refine Sy.seq ?_
  refine Sy.region ?_
  refine Sy.step (by kernel_rfl) (.int .i64 27) (Quiet.pure (fun _ => by kernel_rfl)) ?_
  refine Sy.step (by kernel_rfl) (.int .i64 27) (Quiet.pure (fun _ => by kernel_rfl)) ?_
  refine Sy.nil ?_
  refine Sy.then_ ?_
  refine Sy.seq ?_
  refine Sy.regionD (fun j => false) (by kernel_rfl) ?_
  refine Sy.stepD 0 rfl (by kernel_rfl) (fun _ _ _ _ h => h) (by kernel_rfl) (.int .i64 27) (Quiet.pure (fun _ => by kernel_rfl)) ?_
  refine Sy.stepD 1 rfl (by kernel_rfl) (fun _ _ _ _ h => h) (by kernel_rfl) (.pointer (some ⟨g1, 27, none⟩)) (Quiet.pure (fun _ => by kernel_rfl)) ?_
  refine Sy.stepD 2 rfl (by kernel_rfl) (fun _ _ _ _ h => h) (by kernel_rfl) (bv e27) (Quiet.cell 0 g1 27 42 5 D1 _ _ rfl (by kernel_rfl) (by kernel_rfl) Try.underlying5 rfl _ (by rw [← hD1]; rfl)) ?_
  refine Sy.stepD 3 rfl (by kernel_rfl) (fun _ _ _ _ h => h) (by kernel_rfl) (.slice (some ⟨g9, 0, none⟩) 33 cp9) (Quiet.pure (fun _ => by kernel_rfl)) ?_
  refine Sy.stepD 4 rfl (by kernel_rfl) (fun _ _ _ _ h => h) (by kernel_rfl) (.int .i64 27) (Quiet.pure (fun _ => by kernel_rfl)) ?_
  refine Sy.stepD 5 rfl (by kernel_rfl) (fun _ _ _ _ h => h) (by kernel_rfl) (.pointer (some ⟨g9, 27, none⟩)) (Quiet.pure (fun _ => by kernel_rfl)) ?_
  refine Sy.stepD 6 rfl (by kernel_rfl) (fun _ _ _ _ h => h) (by kernel_rfl) (bv e27) (Quiet.cell 1 g9 27 5 5 D2 _ _ rfl (by kernel_rfl) (by kernel_rfl) Try.underlying5 rfl _ (by rw [← hD2]; rfl)) ?_
  refine Sy.stepD 7 rfl (by kernel_rfl) (fun _ _ _ _ h => h) (by kernel_rfl) (.bool false) (Quiet.pure (fun w => neq_same w _ _ _ _ e27 rfl rfl rfl)) ?_
  refine Sy.doneD (by kernel_rfl) ?_
  refine Sy.then_ ?_
  refine Sy.cond_f (by kernel_rfl) (by kernel_rfl) ?_
  refine Sy.skip ?_
  refine Sy.in_ ?_
  refine Sy.then_ ?_
  refine Sy.region ?_
  refine Sy.step (by kernel_rfl) (.int .i64 28) (Quiet.pure (fun _ => by kernel_rfl)) ?_
  refine Sy.step (by kernel_rfl) (.int .i64 28) (Quiet.pure (fun _ => by kernel_rfl)) ?_
  refine Sy.nil ?_
  refine Sy.again ?_
  refine Sy.tidyR (G := [(1, .slice A n c), (5, .pointer (some ⟨g1, 0, none⟩)), (6, .slice (some ⟨g9, 0, none⟩) 33 cp9), (16, .int .i64 28)]) (M := [(g1, 42, D1), (g9, 5, D2)]) [true, true] (by kernel_rfl) (all_cons (by kernel_rfl) (all_cons (by kernel_rfl) (all_cons (by kernel_rfl) (all_cons (by kernel_rfl) all_nil)))) ?_
  refine Sy.round ?_
  refine Sy.seq ?_
  refine Sy.region ?_
  refine Sy.step (by kernel_rfl) (.bool true) (Quiet.pure (fun _ => by kernel_rfl)) ?_
  refine Sy.nil ?_
  refine Sy.then_ ?_
  refine Sy.seq ?_
  refine Sy.cond_t (by kernel_rfl) (by kernel_rfl) ?_
  refine Sy.skip ?_
  refine Sy.then_ ?_
  refine Sy.seq ?_
  refine Sy.block ?_
  refine Sy.seq ?_
  refine Sy.region ?_
  refine Sy.step (by kernel_rfl) (.int .i64 28) (Quiet.pure (fun _ => by kernel_rfl)) ?_
  refine Sy.step (by kernel_rfl) (.int .i64 28) (Quiet.pure (fun _ => by kernel_rfl)) ?_
  refine Sy.nil ?_
  refine Sy.then_ ?_
  refine Sy.seq ?_
  refine Sy.regionD (fun j => false) (by kernel_rfl) ?_
  refine Sy.stepD 0 rfl (by kernel_rfl) (fun _ _ _ _ h => h) (by kernel_rfl) (.int .i64 28) (Quiet.pure (fun _ => by kernel_rfl)) ?_
  refine Sy.stepD 1 rfl (by kernel_rfl) (fun _ _ _ _ h => h) (by kernel_rfl) (.pointer (some ⟨g1, 28, none⟩)) (Quiet.pure (fun _ => by kernel_rfl)) ?_
  refine Sy.stepD 2 rfl (by kernel_rfl) (fun _ _ _ _ h => h) (by kernel_rfl) (bv e28) (Quiet.cell 0 g1 28 42 5 D1 _ _ rfl (by kernel_rfl) (by kernel_rfl) Try.underlying5 rfl _ (by rw [← hD1]; rfl)) ?_
  refine Sy.stepD 3 rfl (by kernel_rfl) (fun _ _ _ _ h => h) (by kernel_rfl) (.slice (some ⟨g9, 0, none⟩) 33 cp9) (Quiet.pure (fun _ => by kernel_rfl)) ?_
  refine Sy.stepD 4 rfl (by kernel_rfl) (fun _ _ _ _ h => h) (by kernel_rfl) (.int .i64 28) (Quiet.pure (fun _ => by kernel_rfl)) ?_
  refine Sy.stepD 5 rfl (by kernel_rfl) (fun _ _ _ _ h => h) (by kernel_rfl) (.pointer (some ⟨g9, 28, none⟩)) (Quiet.pure (fun _ => by kernel_rfl)) ?_
  refine Sy.stepD 6 rfl (by kernel_rfl) (fun _ _ _ _ h => h) (by kernel_rfl) (bv e28) (Quiet.cell 1 g9 28 5 5 D2 _ _ rfl (by kernel_rfl) (by kernel_rfl) Try.underlying5 rfl _ (by rw [← hD2]; rfl)) ?_
  refine Sy.stepD 7 rfl (by kernel_rfl) (fun _ _ _ _ h => h) (by kernel_rfl) (.bool false) (Quiet.pure (fun w => neq_same w _ _ _ _ e28 rfl rfl rfl)) ?_
  refine Sy.doneD (by kernel_rfl) ?_
  refine Sy.then_ ?_
  refine Sy.cond_f (by kernel_rfl) (by kernel_rfl) ?_
  refine Sy.skip ?_
  refine Sy.in_ ?_
  refine Sy.then_ ?_
  refine Sy.region ?_
  refine Sy.step (by kernel_rfl) (.int .i64 29) (Quiet.pure (fun _ => by kernel_rfl)) ?_
  refine Sy.step (by kernel_rfl) (.int .i64 29) (Quiet.pure (fun _ => by kernel_rfl)) ?_
  refine Sy.nil ?_
  refine Sy.again ?_
  refine Sy.tidyR (G := [(1, .slice A n c), (5, .pointer (some ⟨g1, 0, none⟩)), (6, .slice (some ⟨g9, 0, none⟩) 33 cp9), (16, .int .i64 29)]) (M := [(g1, 42, D1), (g9, 5, D2)]) [true, true] (by kernel_rfl) (all_cons (by kernel_rfl) (all_cons (by kernel_rfl) (all_cons (by kernel_rfl) (all_cons (by kernel_rfl) all_nil)))) ?_
  refine Sy.round ?_
  refine Sy.seq ?_
  refine Sy.region ?_
  refine Sy.step (by kernel_rfl) (.bool true) (Quiet.pure (fun _ => by kernel_rfl)) ?_
  refine Sy.nil ?_
  refine Sy.then_ ?_
  refine Sy.seq ?_
  refine Sy.cond_t (by kernel_rfl) (by kernel_rfl) ?_
  refine Sy.skip ?_
  refine Sy.then_ ?_
  refine Sy.seq ?_
  refine Sy.block ?_
  refine Sy.seq ?_
  refine Sy.region ?_
  refine Sy.step (by kernel_rfl) (.int .i64 29) (Quiet.pure (fun _ => by kernel_rfl)) ?_
  refine Sy.step (by kernel_rfl) (.int .i64 29) (Quiet.pure (fun _ => by kernel_rfl)) ?_
  refine Sy.nil ?_
  refine Sy.then_ ?_
  refine Sy.seq ?_
  refine Sy.regionD (fun j => false) (by kernel_rfl) ?_
  refine Sy.stepD 0 rfl (by kernel_rfl) (fun _ _ _ _ h => h) (by kernel_rfl) (.int .i64 29) (Quiet.pure (fun _ => by kernel_rfl)) ?_
  refine Sy.stepD 1 rfl (by kernel_rfl) (fun _ _ _ _ h => h) (by kernel_rfl) (.pointer (some ⟨g1, 29, none⟩)) (Quiet.pure (fun _ => by kernel_rfl)) ?_
  refine Sy.stepD 2 rfl (by kernel_rfl) (fun _ _ _ _ h => h) (by kernel_rfl) (bv e29) (Quiet.cell 0 g1 29 42 5 D1 _ _ rfl (by kernel_rfl) (by kernel_rfl) Try.underlying5 rfl _ (by rw [← hD1]; rfl)) ?_
  refine Sy.stepD 3 rfl (by kernel_rfl) (fun _ _ _ _ h => h) (by kernel_rfl) (.slice (some ⟨g9, 0, none⟩) 33 cp9) (Quiet.pure (fun _ => by kernel_rfl)) ?_
  refine Sy.stepD 4 rfl (by kernel_rfl) (fun _ _ _ _ h => h) (by kernel_rfl) (.int .i64 29) (Quiet.pure (fun _ => by kernel_rfl)) ?_
  refine Sy.stepD 5 rfl (by kernel_rfl) (fun _ _ _ _ h => h) (by kernel_rfl) (.pointer (some ⟨g9, 29, none⟩)) (Quiet.pure (fun _ => by kernel_rfl)) ?_
  refine Sy.stepD 6 rfl (by kernel_rfl) (fun _ _ _ _ h => h) (by kernel_rfl) (bv e29) (Quiet.cell 1 g9 29 5 5 D2 _ _ rfl (by kernel_rfl) (by kernel_rfl) Try.underlying5 rfl _ (by rw [← hD2]; rfl)) ?_
  refine Sy.stepD 7 rfl (by kernel_rfl) (fun _ _ _ _ h => h) (by kernel_rfl) (.bool false) (Quiet.pure (fun w => neq_same w _ _ _ _ e29 rfl rfl rfl)) ?_
  refine Sy.doneD (by kernel_rfl) ?_
  refine Sy.then_ ?_
  refine Sy.cond_f (by kernel_rfl) (by kernel_rfl) ?_
  refine Sy.skip ?_
  refine Sy.in_ ?_
  refine Sy.then_ ?_
  refine Sy.region ?_
  refine Sy.step (by kernel_rfl) (.int .i64 30) (Quiet.pure (fun _ => by kernel_rfl)) ?_
  refine Sy.step (by kernel_rfl) (.int .i64 30) (Quiet.pure (fun _ => by kernel_rfl)) ?_
  refine Sy.nil ?_
  refine Sy.again ?_
  refine Sy.tidyR (G := [(1, .slice A n c), (5, .pointer (some ⟨g1, 0, none⟩)), (6, .slice (some ⟨g9, 0, none⟩) 33 cp9), (16, .int .i64 30)]) (M := [(g1, 42, D1), (g9, 5, D2)]) [true, true] (by kernel_rfl) (all_cons (by kernel_rfl) (all_cons (by kernel_rfl) (all_cons (by kernel_rfl) (all_cons (by kernel_rfl) all_nil)))) ?_
  refine Sy.round ?_
  refine Sy.seq ?_
  refine Sy.region ?_
  refine Sy.step (by kernel_rfl) (.bool true) (Quiet.pure (fun _ => by kernel_rfl)) ?_
  refine Sy.nil ?_
  refine Sy.then_ ?_
  refine Sy.seq ?_
  refine Sy.cond_t (by kernel_rfl) (by kernel_rfl) ?_
  refine Sy.skip ?_
  refine Sy.then_ ?_
  refine Sy.seq ?_
  refine Sy.block ?_
  refine Sy.seq ?_
  refine Sy.region ?_
  refine Sy.step (by kernel_rfl) (.int .i64 30) (Quiet.pure (fun _ => by kernel_rfl)) ?_
  refine Sy.step (by kernel_rfl) (.int .i64 30) (Quiet.pure (fun _ => by kernel_rfl)) ?_
  refine Sy.nil ?_
  refine Sy.then_ ?_
  refine Sy.seq ?_
  refine Sy.regionD (fun j => false) (by kernel_rfl) ?_
  refine Sy.stepD 0 rfl (by kernel_rfl) (fun _ _ _ _ h => h) (by kernel_rfl) (.int .i64 30) (Quiet.pure (fun _ => by kernel_rfl)) ?_
  refine Sy.stepD 1 rfl (by kernel_rfl) (fun _ _ _ _ h => h) (by kernel_rfl) (.pointer (some ⟨g1, 30, none⟩)) (Quiet.pure (fun _ => by kernel_rfl)) ?_
  refine Sy.stepD 2 rfl (by kernel_rfl) (fun _ _ _ _ h => h) (by kernel_rfl) (bv e30) (Quiet.cell 0 g1 30 42 5 D1 _ _ rfl (by kernel_rfl) (by kernel_rfl) Try.underlying5 rfl _ (by rw [← hD1]; rfl)) ?_
  refine Sy.stepD 3 rfl (by kernel_rfl) (fun _ _ _ _ h => h) (by kernel_rfl) (.slice (some ⟨g9, 0, none⟩) 33 cp9) (Quiet.pure (fun _ => by kernel_rfl)) ?_
  refine Sy.stepD 4 rfl (by kernel_rfl) (fun _ _ _ _ h => h) (by kernel_rfl) (.int .i64 30) (Quiet.pure (fun _ => by kernel_rfl)) ?_
  refine Sy.stepD 5 rfl (by kernel_rfl) (fun _ _ _ _ h => h) (by kernel_rfl) (.pointer (some ⟨g9, 30, none⟩)) (Quiet.pure (fun _ => by kernel_rfl)) ?_
  refine Sy.stepD 6 rfl (by kernel_rfl) (fun _ _ _ _ h => h) (by kernel_rfl) (bv e30) (Quiet.cell 1 g9 30 5 5 D2 _ _ rfl (by kernel_rfl) (by kernel_rfl) Try.underlying5 rfl _ (by rw [← hD2]; rfl)) ?_
  refine Sy.stepD 7 rfl (by kernel_rfl) (fun _ _ _ _ h => h) (by kernel_rfl) (.bool false) (Quiet.pure (fun w => neq_same w _ _ _ _ e30 rfl rfl rfl)) ?_
  refine Sy.doneD (by kernel_rfl) ?_
  refine Sy.then_ ?_
  refine Sy.cond_f (by kernel_rfl) (by kernel_rfl) ?_
  refine Sy.skip ?_
  refine Sy.in_ ?_
  refine Sy.then_ ?_
  refine Sy.region ?_
  refine Sy.step (by kernel_rfl) (.int .i64 31) (Quiet.pure (fun _ => by kernel_rfl)) ?_
  refine Sy.step (by kernel_rfl) (.int .i64 31) (Quiet.pure (fun _ => by kernel_rfl)) ?_
  refine Sy.nil ?_
  refine Sy.again ?_
  refine Sy.tidyR (G := [(1, .slice A n c), (5, .pointer (some ⟨g1, 0, none⟩)), (6, .slice (some ⟨g9, 0, none⟩) 33 cp9), (16, .int .i64 31)]) (M := [(g1, 42, D1), (g9, 5, D2)]) [true, true] (by kernel_rfl) (all_cons (by kernel_rfl) (all_cons (by kernel_rfl) (all_cons (by kernel_rfl) (all_cons (by kernel_rfl) all_nil)))) ?_
  refine Sy.round ?_
  refine Sy.seq ?_
  refine Sy.region ?_
  refine Sy.step (by kernel_rfl) (.bool true) (Quiet.pure (fun _ => by kernel_rfl)) ?_
  refine Sy.nil ?_
  refine Sy.then_ ?_
  refine Sy.seq ?_
  refine Sy.cond_t (by kernel_rfl) (by kernel_rfl) ?_
  refine Sy.skip ?_
  refine Sy.then_ ?_
  refine Sy.seq ?_
  refine Sy.block ?_
  refine Sy.seq ?_
  refine Sy.region ?_
  refine Sy.step (by kernel_rfl) (.int .i64 31) (Quiet.pure (fun _ => by kernel_rfl)) ?_
  refine Sy.step (by kernel_rfl) (.int .i64 31) (Quiet.pure (fun _ => by kernel_rfl)) ?_
  refine Sy.nil ?_
  refine Sy.then_ ?_
  refine Sy.seq ?_
  refine Sy.regionD (fun j => false) (by kernel_rfl) ?_
  refine Sy.stepD 0 rfl (by kernel_rfl) (fun _ _ _ _ h => h) (by kernel_rfl) (.int .i64 31) (Quiet.pure (fun _ => by kernel_rfl)) ?_
  refine Sy.stepD 1 rfl (by kernel_rfl) (fun _ _ _ _ h => h) (by kernel_rfl) (.pointer (some ⟨g1, 31, none⟩)) (Quiet.pure (fun _ => by kernel_rfl)) ?_
  refine Sy.stepD 2 rfl (by kernel_rfl) (fun _ _ _ _ h => h) (by kernel_rfl) (bv e31) (Quiet.cell 0 g1 31 42 5 D1 _ _ rfl (by kernel_rfl) (by kernel_rfl) Try.underlying5 rfl _ (by rw [← hD1]; rfl)) ?_
  refine Sy.stepD 3 rfl (by kernel_rfl) (fun _ _ _ _ h => h) (by kernel_rfl) (.slice (some ⟨g9, 0, none⟩) 33 cp9) (Quiet.pure (fun _ => by kernel_rfl)) ?_
  refine Sy.stepD 4 rfl (by kernel_rfl) (fun _ _ _ _ h => h) (by kernel_rfl) (.int .i64 31) (Quiet.pure (fun _ => by kernel_rfl)) ?_
  refine Sy.stepD 5 rfl (by kernel_rfl) (fun _ _ _ _ h => h) (by kernel_rfl) (.pointer (some ⟨g9, 31, none⟩)) (Quiet.pure (fun _ => by kernel_rfl)) ?_
  refine Sy.stepD 6 rfl (by kernel_rfl) (fun _ _ _ _ h => h) (by kernel_rfl) (bv e31) (Quiet.cell 1 g9 31 5 5 D2 _ _ rfl (by kernel_rfl) (by kernel_rfl) Try.underlying5 rfl _ (by rw [← hD2]; rfl)) ?_
  refine Sy.stepD 7 rfl (by kernel_rfl) (fun _ _ _ _ h => h) (by kernel_rfl) (.bool false) (Quiet.pure (fun w => neq_same w _ _ _ _ e31 rfl rfl rfl)) ?_
  refine Sy.doneD (by kernel_rfl) ?_
  refine Sy.then_ ?_
  refine Sy.cond_f (by kernel_rfl) (by kernel_rfl) ?_
  refine Sy.skip ?_
  refine Sy.in_ ?_
  refine Sy.then_ ?_
  refine Sy.region ?_
  refine Sy.step (by kernel_rfl) (.int .i64 32) (Quiet.pure (fun _ => by kernel_rfl)) ?_
  refine Sy.step (by kernel_rfl) (.int .i64 32) (Quiet.pure (fun _ => by kernel_rfl)) ?_
  refine Sy.nil ?_
  refine Sy.again ?_
  refine Sy.tidyR (G := [(1, .slice A n c), (5, .pointer (some ⟨g1, 0, none⟩)), (6, .slice (some ⟨g9, 0, none⟩) 33 cp9), (16, .int .i64 32)]) (M := [(g1, 42, D1), (g9, 5, D2)]) [true, true] (by kernel_rfl) (all_cons (by kernel_rfl) (all_cons (by kernel_rfl) (all_cons (by kernel_rfl) (all_cons (by kernel_rfl) all_nil)))) ?_
  refine Sy.round ?_
  refine Sy.seq ?_
  refine Sy.region ?_
  refine Sy.step (by kernel_rfl) (.bool true) (Quiet.pure (fun _ => by kernel_rfl)) ?_
  refine Sy.nil ?_
  refine Sy.then_ ?_
  refine Sy.seq ?_
  refine Sy.cond_t (by kernel_rfl) (by kernel_rfl) ?_
  refine Sy.skip ?_
  refine Sy.then_ ?_
  refine Sy.seq ?_
  refine Sy.block ?_
  refine Sy.seq ?_
  refine Sy.region ?_
  refine Sy.step (by kernel_rfl) (.int .i64 32) (Quiet.pure (fun _ => by kernel_rfl)) ?_
  refine Sy.step (by kernel_rfl) (.int .i64 32) (Quiet.pure (fun _ => by kernel_rfl)) ?_
  refine Sy.nil ?_
  refine Sy.then_ ?_
  refine Sy.seq ?_
  refine Sy.regionD (fun j => false) (by kernel_rfl) ?_
  refine Sy.stepD 0 rfl (by kernel_rfl) (fun _ _ _ _ h => h) (by kernel_rfl) (.int .i64 32) (Quiet.pure (fun _ => by kernel_rfl)) ?_
  refine Sy.stepD 1 rfl (by kernel_rfl) (fun _ _ _ _ h => h) (by kernel_rfl) (.pointer (some ⟨g1, 32, none⟩)) (Quiet.pure (fun _ => by kernel_rfl)) ?_
  refine Sy.stepD 2 rfl (by kernel_rfl) (fun _ _ _ _ h => h) (by kernel_rfl) (bv e32) (Quiet.cell 0 g1 32 42 5 D1 _ _ rfl (by kernel_rfl) (by kernel_rfl) Try.underlying5 rfl _ (by rw [← hD1]; rfl)) ?_
  refine Sy.stepD 3 rfl (by kernel_rfl) (fun _ _ _ _ h => h) (by kernel_rfl) (.slice (some ⟨g9, 0, none⟩) 33 cp9) (Quiet.pure (fun _ => by kernel_rfl)) ?_
  refine Sy.stepD 4 rfl (by kernel_rfl) (fun _ _ _ _ h => h) (by kernel_rfl) (.int .i64 32) (Quiet.pure (fun _ => by kernel_rfl)) ?_
  refine Sy.stepD 5 rfl (by kernel_rfl) (fun _ _ _ _ h => h) (by kernel_rfl) (.pointer (some ⟨g9, 32, none⟩)) (Quiet.pure (fun _ => by kernel_rfl)) ?_
  refine Sy.stepD 6 rfl (by kernel_rfl) (fun _ _ _ _ h => h) (by kernel_rfl) (bv e32) (Quiet.cell 1 g9 32 5 5 D2 _ _ rfl (by kernel_rfl) (by kernel_rfl) Try.underlying5 rfl _ (by rw [← hD2]; rfl)) ?_
  refine Sy.stepD 7 rfl (by kernel_rfl) (fun _ _ _ _ h => h) (by kernel_rfl) (.bool false) (Quiet.pure (fun w => neq_same w _ _ _ _ e32 rfl rfl rfl)) ?_
  refine Sy.doneD (by kernel_rfl) ?_
  refine Sy.then_ ?_
  refine Sy.cond_f (by kernel_rfl) (by kernel_rfl) ?_
  refine Sy.skip ?_
  refine Sy.in_ ?_
  refine Sy.then_ ?_
  refine Sy.region ?_
  refine Sy.step (by kernel_rfl) (.int .i64 33) (Quiet.pure (fun _ => by kernel_rfl)) ?_
  refine Sy.step (by kernel_rfl) (.int .i64 33) (Quiet.pure (fun _ => by kernel_rfl)) ?_
  refine Sy.nil ?_
  refine Sy.again ?_
  refine Sy.tidyR (G := [(1, .slice A n c), (5, .pointer (some ⟨g1, 0, none⟩)), (6, .slice (some ⟨g9, 0, none⟩) 33 cp9), (16, .int .i64 33)]) (M := [(g1, 42, D1), (g9, 5, D2)]) [true, true] (by kernel_rfl) (all_cons (by kernel_rfl) (all_cons (by kernel_rfl) (all_cons (by kernel_rfl) (all_cons (by kernel_rfl) all_nil)))) ?_
  refine Sy.round ?_
  refine Sy.seq ?_
  refine Sy.region ?_
  refine Sy.step (by kernel_rfl) (.bool false) (Quiet.pure (fun _ => by kernel_rfl)) ?_
  refine Sy.nil ?_
  refine Sy.then_ ?_
  refine Sy.seq ?_
  refine Sy.cond_f (by kernel_rfl) (by kernel_rfl) ?_
  refine Sy.exit ?_
  refine Sy.then_exit ?_
  refine Sy.then_exit ?_
  refine Sy.in_exit ?_
  refine Sy.then_ ?_
  refine Sy.seq ?_
  refine Sy.region ?_
  refine Sy.step (by kernel_rfl) (.slice A n c) (Quiet.pure (fun _ => by kernel_rfl)) ?_
  refine Sy.step (by kernel_rfl) (.tuple #[pv dx dy di, .bool kb]) (Quiet.callS 18 #[.slice A n c] (fun _ => by kernel_rfl) (fun w hw => cD w hw.below)) ?_
  refine Sy.step (by kernel_rfl) (.tuple #[pv dx dy di, .bool kb]) (Quiet.pure (fun _ => by kernel_rfl)) ?_
  refine Sy.step (by kernel_rfl) (pv dx dy di) (Quiet.pure (fun _ => by kernel_rfl)) ?_
  refine Sy.step (by kernel_rfl) (.bool kb) (Quiet.pure (fun _ => by kernel_rfl)) ?_
  refine Sy.make (by kernel_rfl) 27 (pcs 0 0 false) ptr (fun _ => by kernel_rfl) (fun g2 => ?_)
  refine Sy.write (by kernel_rfl) 2 g2 27 (pcs 0 0 false) (pcs dx dy di) (by kernel_rfl) (Writes.store 0 27 (pcs dx dy di) _ _ rfl (by kernel_rfl) (by kernel_rfl) (by kernel_rfl) (Nat.le_of_ble_eq_true (by kernel_rfl)) (by kernel_rfl) (by kernel_rfl)) ?_
  refine Sy.step (by kernel_rfl) (.bool kb) (Quiet.pure (fun _ => by kernel_rfl)) ?_
  refine Sy.nil ?_
  refine Sy.then_ ?_
  refine Sy.seq ?_
  refine Sy.region ?_
  refine Sy.step (by kernel_rfl) (.slice A n c) (Quiet.pure (fun _ => by kernel_rfl)) ?_
  refine Sy.step (by kernel_rfl) (.tuple #[pv dx dy di, .bool kb]) (Quiet.callS 19 #[.slice A n c] (fun _ => by kernel_rfl) (fun w hw => cS w hw.below)) ?_
  refine Sy.step (by kernel_rfl) (.tuple #[pv dx dy di, .bool kb]) (Quiet.pure (fun _ => by kernel_rfl)) ?_
  refine Sy.step (by kernel_rfl) (pv dx dy di) (Quiet.pure (fun _ => by kernel_rfl)) ?_
  refine Sy.step (by kernel_rfl) (.bool kb) (Quiet.pure (fun _ => by kernel_rfl)) ?_
  refine Sy.make (by kernel_rfl) 27 (pcs 0 0 false) ptr (fun _ => by kernel_rfl) (fun g3 => ?_)
  refine Sy.write (by kernel_rfl) 3 g3 27 (pcs 0 0 false) (pcs dx dy di) (by kernel_rfl) (Writes.store 0 27 (pcs dx dy di) _ _ rfl (by kernel_rfl) (by kernel_rfl) (by kernel_rfl) (Nat.le_of_ble_eq_true (by kernel_rfl)) (by kernel_rfl) (by kernel_rfl)) ?_
  refine Sy.step (by kernel_rfl) (.bool kb) (Quiet.pure (fun _ => by kernel_rfl)) ?_
  refine Sy.nil ?_
  refine Sy.then_ ?_
  refine Sy.seq ?_
  refine Sy.region ?_
  refine Sy.step (by kernel_rfl) (.bool true) (Quiet.call 8 #[] (fun _ => by kernel_rfl) (alive5)) ?_
  refine Sy.step (by kernel_rfl) (.bool true) (Quiet.pure (fun _ => by kernel_rfl)) ?_
  refine Sy.step (by kernel_rfl) (pv dx dy di) (Quiet.load 2 g2 0 9 27 27 (pcs dx dy di) _ _ rfl (by kernel_rfl) (by kernel_rfl) Try.underlying27 rfl (by kernel_rfl) _ (by kernel_rfl) (Nat.le_of_ble_eq_true (by kernel_rfl))) ?_
  refine Sy.step (by kernel_rfl) (pv dx dy di) (Quiet.load 3 g3 0 9 27 27 (pcs dx dy di) _ _ rfl (by kernel_rfl) (by kernel_rfl) Try.underlying27 rfl (by kernel_rfl) _ (by kernel_rfl) (Nat.le_of_ble_eq_true (by kernel_rfl))) ?_
  refine Sy.step (by kernel_rfl) (.bool true) (Quiet.pure (fun w => eql_pt_same w _ _ _ _ _ _ _ rfl rfl rfl (by first | assumption | exact lt4 _ | decide +kernel) (by first | assumption | exact lt4 _ | decide +kernel))) ?_
  refine Sy.step (by kernel_rfl) (.bool true) (Quiet.pure (fun _ => by kernel_rfl)) ?_
  refine Sy.step (by kernel_rfl) (.bool true) (Quiet.pure (fun _ => by kernel_rfl)) ?_
  refine Sy.step (by kernel_rfl) (.bool kb) (Quiet.pure (fun _ => by kernel_rfl)) ?_
  refine Sy.step (by kernel_rfl) (.bool kb) (Quiet.pure (fun _ => by kernel_rfl)) ?_
  refine Sy.step (by kernel_rfl) (.bool true) (Quiet.pure (fun w => eql_bool_same w _ _ _ _ kb rfl rfl rfl)) ?_
  refine Sy.step (by kernel_rfl) (.bool true) (Quiet.pure (fun _ => by kernel_rfl)) ?_
  refine Sy.step (by kernel_rfl) (.bool true) (Quiet.pure (fun _ => by kernel_rfl)) ?_
  refine Sy.nil ?_
  refine Sy.then_ ?_
  refine Sy.ret ?_
  exact Sy.ret1 (v := .bool true) rfl (.inl (show _ = _ by kernel_rfl))
end Go.Proofs.Ytneeefinaejgcaa.Cu

end
