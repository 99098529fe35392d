/-
  Texts of ours, put together: CrvW, CrvX, PLiftL, CurveSumsL.
-/
import Derived.Test.YtneeefinaejgcaaBC8
set_option linter.unusedVariables false
set_option linter.unusedSimpArgs false
section
namespace Go.Proofs.Ytneeefinaejgcaa.Cu
open Go.RowKit Go.Proofs.Ytneeefinaejgcaa Go.Proofs.Ytneeefinaejgcaa.Sy

/-- a point that came in, whatever its words -/
structure Pr where
  x : Nat
  y : Nat
  i : Bool
def Pr.cells (t : Pr) : List Value := fws t.x ++ (fws t.y ++ [Value.bool t.i])
def Pr.ok (t : Pr) : Prop := t.x < K4 ∧ t.y < K4
def Pr.pt (t : Pr) : Pt := dec t.x t.y t.i
def Pr.v (t : Pr) : Value := pv t.x t.y t.i
theorem Pr.on (t : Pr) : Ec.On t.pt := dec_on t.x t.y t.i
def vaE (T : Nat → Pr) {N : Nat} (x : Fin N) : Array Value := #[(T x.val).v]
/-- the points that a list names, added one behind the other -/
def sumP (T : Nat → Pr) (l : List Nat) : Pt := Ec.sumL finv (fun j => (T j).pt) l
theorem sumP_on (T : Nat → Pr) (l : List Nat) : Ec.On (sumP T l) := Ec.On.sumL fld _ fun x _ => (T x).on
theorem sumP_snoc (T : Nat → Pr) (l : List Nat) (c : Nat) : sumP T (l ++ [c]) = Ec.add finv (sumP T l) (T c).pt := sumL_snoc _ _ _
theorem add_pts (w : World) {S : Pt} (hS : Ec.On S) (t : Pr) (ht : t.ok) {R : Pt} (hR : R = Ec.add finv S t.pt) : Calls Try.prog 22 #[pv (pX S) (pY S) (pI S), pv t.x t.y t.i] w (Gets w (pv (pX R) (pY R) (pI R))) := by
  have h := add_any w (pX S) (pY S) (pI S) t.x t.y t.i (pX_lt S) (pY_lt S) ht.1 ht.2
  rw [dec_parts hS] at h
  rw [hR, ← ptv_parts (Ec.add finv S t.pt)]
  exact h
theorem rangeB {w w' : World} {g o n₀ : Nat} {vs : List Value} (h : w.rangeAt g o vs) (hb : Below n₀ w w') (hg : g < n₀) : w'.rangeAt g o vs := fun j v hj => (Below.cell (p := ⟨g, o + j, none⟩) hb hg).trans (h j v hj)
set_option maxHeartbeats 400000 in
set_option maxRecDepth 100000 in
theorem values1_in (n l Bs n₀ b off m cap : Nat) (T : Nat → Pr) (hc : m ≤ 4611686018427387904) (hb : b < n₀) (J Jx : List (Fin m) → World → Prop) (W : World) (hnW : n₀ ≤ W.heap.size) (hT : ∀ j, j < m → W.rangeAt b (off + j * 9) (T j).cells) (hJ : AbidesFrom W.heap.size J) (hJx : AbidesFrom W.heap.size Jx)
    (hY : ∀ pre x W1, J pre W1 → pre.length < m → YieldAt Fence.wide (n - 1) Try.prog l (vaE T x) W1 fun e W' => (e = .returned (.bool true) ∧ J (pre ++ [x]) W' ∧ KpL n₀ [] W1 W') ∨ (e = .returned (.bool false) ∧ Jx (pre ++ [x]) W'))
    (hS : Blk W Bs 32 #[.slice (some ⟨b, off, none⟩) m cap]) (h0 : J [] W) :
    CallsIn Fence.wide n Try.prog 42 #[.func (.yield l) #[] #[], .pointer (some ⟨Bs, 0, none⟩)] W fun e W' => (∃ v, e = .returned v) ∧ ((∃ ys : List (Fin m), ys.map (·.1) = List.range m ∧ J ys W') ∨ (∃ pre : List (Fin m), (∃ k, k ≤ m ∧ pre.map (·.1) = List.range k) ∧ Jx pre W')) := by
  refine Sy.enterP (args := [.func (.yield l) #[] #[], .pointer (some ⟨Bs, 0, none⟩)]) Try.func42 rfl (Nat.le_of_ble_eq_true (by kernel_rfl)) ?_
  refine Sy.seq ?_
  refine Sy.region ?_
  refine Sy.step (by kernel_rfl) (.slice (some ⟨b, off, none⟩) m cap) (Quiet.thereOne Bs 0 32 _ _ rfl (by kernel_rfl) hS.lt _ (hS.cell 0) Try.underlying32 rfl) ?_
  refine Sy.step (by kernel_rfl) (.int .i64 ((m : Nat) : Int)) (Quiet.pure (fun _ => by kernel_rfl)) ?_
  refine Sy.step (by kernel_rfl) (.int .i64 0) (Quiet.pure (fun _ => by kernel_rfl)) ?_
  refine Sy.nil ?_
  refine Sy.then_ ?_
  refine Sy.block ?_
  refine Sy.loopP m (fun k1 => [(0, .func (.yield l) #[] #[]), (5, .slice (some ⟨b, off, none⟩) m cap), (6, .int .i64 ((m : Nat) : Int)), (7, .int .i64 ((k1 : Nat) : Int))]) (fun k1 w => ∃ pre : List (Fin m), pre.map (·.1) = List.range k1 ∧ J pre w ∧ Below n₀ W w) (all_cons (by kernel_rfl) (all_cons (by kernel_rfl) (all_cons (by kernel_rfl) (all_cons (by kernel_rfl) all_nil)))) (fun w hg => ⟨[], rfl, abides_gr hJ h0 hg, Below.mono hg hnW⟩) (fun k1 wr hk1 hz => ?_)
  obtain ⟨pre, hpre, hj, hbw⟩ := hz
  have hlen : pre.length = k1 := by have := congrArg List.length hpre; rwa [List.length_map, List.length_range] at this
  refine Sy.seq ?_
  refine Sy.region ?_
  obtain ⟨b1, hb1⟩ : ∃ z : Bool, z = decide (k1 < m) := ⟨_, rfl⟩
  refine Sy.step (by kernel_rfl) (.bool b1) (Quiet.pure (exec_int .lss _ _ _ .i64 _ _ _ rfl rfl rfl (int_lss _ _ _ _ _ (by rw [hb1]; exact decide_eq_decide.2 (by omega))))) ?_
  refine Sy.nil ?_
  refine Sy.then_ ?_
  refine Sy.seq ?_
  cases b1
  · have lb1 : ¬ (k1 < m) := of_decide_eq_false hb1.symm
    refine Sy.cond_f (by kernel_rfl) (by kernel_rfl) ?_
    refine Sy.exit ?_
    refine Sy.then_exit ?_
    refine Sy.then_exit ?_
    obtain rfl : m = k1 := by omega
    refine Sy.in_exit ?_
    exact Sy.retP rfl (fun v w3 hg => ⟨⟨_, rfl⟩, .inl ⟨pre, hpre, abides_gr hJ hj hg⟩⟩) (.inr rfl)
  · have lb1 : k1 < m := of_decide_eq_true hb1.symm
    refine Sy.cond_t (by kernel_rfl) (by kernel_rfl) ?_
    refine Sy.skip ?_
    refine Sy.then_ ?_
    refine Sy.seq ?_
    refine Sy.block ?_
    refine Sy.seq ?_
    refine Sy.region ?_
    refine Sy.step (by kernel_rfl) (.pointer (some ⟨b, off + k1 * 9, none⟩)) (Quiet.pure (exec_at 32 _ _ _ b off m cap k1 9 .i64 rfl rfl rfl Try.underlying32 (fun _ => by kernel_rfl) (by omega))) ?_
    refine Sy.step (by kernel_rfl) (pv ((T k1).x) ((T k1).y) ((T k1).i)) (Quiet.there b (off + k1 * 9) 9 27 (T k1).cells _ _ rfl (by kernel_rfl) (Nat.lt_of_lt_of_le hb (Nat.le_trans hnW hbw.size)) (rangeB (hT k1 (by omega)) hbw hb) Try.underlying27 rfl (by kernel_rfl) rfl _ (by kernel_rfl)) ?_
    refine Sy.make (by kernel_rfl) 27 (pcs 0 0 false) ptr (fun _ => by kernel_rfl) (fun g0 => ?_)
    refine Sy.write (by kernel_rfl) 0 g0 27 (pcs 0 0 false) (pcs ((T k1).x) ((T k1).y) ((T k1).i)) (by kernel_rfl) (Writes.store 0 27 (pcs ((T k1).x) ((T k1).y) ((T k1).i)) _ _ rfl (by kernel_rfl) (by kernel_rfl) (by kernel_rfl) (Nat.le_of_ble_eq_true (by kernel_rfl)) (by kernel_rfl) (by kernel_rfl)) ?_
    refine Sy.nil ?_
    refine Sy.then_ ?_
    refine Sy.seq ?_
    have hx : k1 < m := by omega
    refine Sy.regionY 2 (by rintro ⟨_, _, ⟨_, hv⟩, _⟩; cases hv) (by kernel_rfl) ?_
    refine Sy.step (by kernel_rfl) (.func (.yield l) #[] #[]) (Quiet.pure (fun _ => by kernel_rfl)) ?_
    refine Sy.step (by kernel_rfl) (pv ((T k1).x) ((T k1).y) ((T k1).i)) (Quiet.load 0 g0 0 9 27 27 (pcs ((T k1).x) ((T k1).y) ((T k1).i)) _ _ rfl (by kernel_rfl) (by kernel_rfl) Try.underlying27 rfl (by kernel_rfl) _ (by kernel_rfl) (Nat.le_of_ble_eq_true (by kernel_rfl))) ?_
    refine Sy.nil ?_
    refine Sy.yieldX (ro := none) rfl (by rintro ⟨_, _, ⟨_, hv⟩, _⟩; cases hv) (by kernel_rfl) (by kernel_rfl) l #[pv ((T k1).x) ((T k1).y) ((T k1).i)] (fun _ => by kernel_rfl) (fun e W' => (e = .returned (.bool true) ∧ J (pre ++ [⟨k1, hx⟩]) W' ∧ Below n₀ W W') ∨ (e = .returned (.bool false) ∧ Jx (pre ++ [⟨k1, hx⟩]) W')) (fun w hg => yield_mono (hY pre ⟨k1, hx⟩ w (abides_gr hJ hj hg) (by omega)) (fun e w' q => q.imp (fun q => ⟨q.1, q.2.1, (hbw.trans (Below.mono hg (Nat.le_trans hnW hbw.size))).trans q.2.2.1⟩) id)) (fun e w' q => q.elim (fun q => ⟨_, q.1⟩) (fun q => ⟨_, q.1⟩)) rfl (fun w2 b hr => ?_)
    cases b
    · have hx2 := hr.elim (fun q => by cases q.1) (fun q => q.2)
      refine Sy.step (by kernel_rfl) (.bool true) (Quiet.pure (fun _ => by kernel_rfl)) ?_
      refine Sy.nil ?_
      refine Sy.then_ ?_
      refine Sy.cond_t (by kernel_rfl) (by kernel_rfl) ?_
      refine Sy.ret ?_
      refine Sy.in_ret ?_
      refine Sy.then_ret ?_
      refine Sy.then_ret ?_
      refine Sy.in_ret ?_
      exact Sy.retP rfl (fun v w3 hg => ⟨⟨_, rfl⟩, .inr ⟨pre ++ [⟨k1, hx⟩], ⟨k1 + 1, by omega, by rw [List.map_append, hpre, List.range_succ]; rfl⟩, abides_gr hJx hx2 hg⟩⟩) (.inl rfl)
    · clear hbw hj
      obtain ⟨hj, hbw⟩ := hr.elim (fun q => q.2) (fun q => by cases q.1)
      refine Sy.step (by kernel_rfl) (.bool false) (Quiet.pure (fun _ => by kernel_rfl)) ?_
      refine Sy.nil ?_
      refine Sy.then_ ?_
      refine Sy.cond_f (by kernel_rfl) (by kernel_rfl) ?_
      refine Sy.skip ?_
      refine Sy.in_ ?_
      refine Sy.then_ ?_
      refine Sy.region ?_
      refine Sy.step (by kernel_rfl) (.int .i64 ((k1 + 1 : Nat) : Int)) (Quiet.pure (exec_int .add _ _ _ .i64 _ _ _ rfl rfl rfl (int_add _ _ _ _ _ ((wrap_i64 (by omega) (by omega)).trans (by omega))))) ?_
      refine Sy.step (by kernel_rfl) (.int .i64 ((k1 + 1 : Nat) : Int)) (Quiet.pure (fun _ => by kernel_rfl)) ?_
      refine Sy.nil ?_
      exact Sy.againP (by omega) (all_cons (by kernel_rfl) (all_cons (by kernel_rfl) (all_cons (by kernel_rfl) (all_cons (by kernel_rfl) all_nil)))) (fun w3 hg => ⟨pre ++ [⟨k1, hx⟩], by rw [List.map_append, hpre, List.range_succ]; rfl, abides_gr hJ hj hg, hbw.trans (Below.mono hg (Nat.le_trans hnW hbw.size))⟩)
set_option maxHeartbeats 400000 in
set_option maxRecDepth 100000 in
theorem values0_in (n l Bs cap : Nat) (A : Option Addr) (J Jx : List (Fin 0) → World → Prop) (W : World) (hJ : AbidesFrom W.heap.size J)
    (hS : Blk W Bs 32 #[.slice A 0 cap]) (h0 : J [] W) :
    CallsIn Fence.wide n Try.prog 42 #[.func (.yield l) #[] #[], .pointer (some ⟨Bs, 0, none⟩)] W fun e W' => (∃ v, e = .returned v) ∧ ((∃ ys : List (Fin 0), ys.map (·.1) = List.range 0 ∧ J ys W') ∨ (∃ pre : List (Fin 0), (∃ k, k ≤ 0 ∧ pre.map (·.1) = List.range k) ∧ Jx pre W')) := by
  refine Sy.enterP (args := [.func (.yield l) #[] #[], .pointer (some ⟨Bs, 0, none⟩)]) Try.func42 rfl (Nat.le_of_ble_eq_true (by kernel_rfl)) ?_
  refine Sy.seq ?_
  refine Sy.region ?_
  refine Sy.step (by kernel_rfl) (.slice A 0 cap) (Quiet.thereOne Bs 0 32 _ _ rfl (by kernel_rfl) hS.lt _ (hS.cell 0) Try.underlying32 rfl) ?_
  refine Sy.step (by kernel_rfl) (.int .i64 ((0 : Nat) : Int)) (Quiet.pure (fun _ => by kernel_rfl)) ?_
  refine Sy.step (by kernel_rfl) (.int .i64 0) (Quiet.pure (fun _ => by kernel_rfl)) ?_
  refine Sy.nil ?_
  refine Sy.then_ ?_
  refine Sy.block ?_
  refine Sy.loopP 0 (fun k1 => [(0, .func (.yield l) #[] #[]), (5, .slice A 0 cap), (6, .int .i64 ((0 : Nat) : Int)), (7, .int .i64 ((0 : Nat) : Int))]) (fun k1 w => J [] w) (all_cons (by kernel_rfl) (all_cons (by kernel_rfl) (all_cons (by kernel_rfl) (all_cons (by kernel_rfl) all_nil)))) (fun w hg => abides_gr hJ h0 hg) (fun k1 wr hk1 hz => ?_)
  have hj := hz
  refine Sy.seq ?_
  refine Sy.region ?_
  obtain ⟨b1, hb1⟩ : ∃ z : Bool, z = decide (0 < 0) := ⟨_, rfl⟩
  refine Sy.step (by kernel_rfl) (.bool b1) (Quiet.pure (exec_int .lss _ _ _ .i64 _ _ _ rfl rfl rfl (int_lss _ _ _ _ _ (by rw [hb1]; exact decide_eq_decide.2 (by omega))))) ?_
  refine Sy.nil ?_
  refine Sy.then_ ?_
  refine Sy.seq ?_
  cases b1
  · have lb1 : ¬ (0 < 0) := of_decide_eq_false hb1.symm
    refine Sy.cond_f (by kernel_rfl) (by kernel_rfl) ?_
    refine Sy.exit ?_
    refine Sy.then_exit ?_
    refine Sy.then_exit ?_
    obtain rfl : k1 = 0 := by omega
    refine Sy.in_exit ?_
    exact Sy.retP rfl (fun v w3 hg => ⟨⟨_, rfl⟩, .inl ⟨[], rfl, abides_gr hJ hj hg⟩⟩) (.inr rfl)
  · have lb1 : 0 < 0 := of_decide_eq_true hb1.symm
    refine Sy.cond_t (by kernel_rfl) (by kernel_rfl) ?_
    refine Sy.skip ?_
    refine Sy.then_ ?_
    refine Sy.seq ?_
    exact absurd lb1 (by omega)
/-- the points lie at A -/
def PSrc (w : World) (A : Option Addr) (m : Nat) (T : Nat → Pr) : Prop := 0 < m → ∃ b off, A = some ⟨b, off, none⟩ ∧ b < w.heap.size ∧ ∀ j, j < m → w.rangeAt b (off + j * 9) (T j).cells
theorem values_stops (n Bs m cap : Nat) (A : Option Addr) (T : Nat → Pr) (hc : m ≤ 4611686018427387904) (w0 w : World) (hb : Below w0.heap.size w0 w) (hsrc : PSrc w0 A m T) (hS : Blk w Bs 32 #[.slice A m cap]) :
    SeqStopsK Fence.wide n Try.prog 42 #[.pointer (some ⟨Bs, 0, none⟩)] (vaE T (N := m)) (KpL w0.heap.size []) (fun ys => ys.map (·.1) = List.range m) (fun pre => ∃ k, k ≤ m ∧ pre.map (·.1) = List.range k) m w := fun l J Jx W hW hJ hJx hY h0 => by
  have hS' := hS.below hW hS.lt
  rcases Nat.eq_zero_or_pos m with h | h
  · subst h
    exact values0_in n l Bs cap A J Jx W hJ hS' h0
  · obtain ⟨b, off, rfl, hbl, hT⟩ := hsrc h
    exact values1_in n l Bs w0.heap.size b off m cap T hc hbl J Jx W (Nat.le_trans hb.size hW.size) (fun j hj => rangeB (rangeB (hT j hj) hb hbl) hW (Nat.lt_of_lt_of_le hbl hb.size)) hJ hJx hY hS' h0
set_option maxHeartbeats 400000 in
set_option maxRecDepth 100000 in
theorem sum_any (w : World) (Bs m cap : Nat) (A : Option Addr) (T : Nat → Pr) (hc : m ≤ 4611686018427387904) (hok : ∀ j, (T j).ok) (hsrc : PSrc w A m T) (hS : Blk w Bs 32 #[.slice A m cap]) : Calls Try.prog 11 #[.func (.func 42) #[] #[.pointer (some ⟨Bs, 0, none⟩)]] w (Gets w (ptv (sumP T (List.range m)))) := by
  refine Sy.enterM (args := [.func (.func 42) #[] #[.pointer (some ⟨Bs, 0, none⟩)]]) Try.func11 rfl (Nat.le_of_ble_eq_true (by kernel_rfl)) ?_
  refine Sy.seq ?_
  refine Sy.region ?_
  refine Sy.make (by kernel_rfl) 27 (pcs 0 0 false) ptr (fun _ => by kernel_rfl) (fun g0 => ?_)
  refine Sy.nil ?_
  refine Sy.then_ ?_
  refine Sy.seq ?_
  refine Sy.region ?_
  refine Sy.step (by kernel_rfl) (pv (pX (sumP T [])) (pY (sumP T [])) (pI (sumP T []))) (Quiet.call 25 #[] (fun _ => by kernel_rfl) (zero_c)) ?_
  refine Sy.make (by kernel_rfl) 27 (pcs 0 0 false) ptr (fun _ => by kernel_rfl) (fun g1 => ?_)
  refine Sy.write (by kernel_rfl) 1 g1 27 (pcs 0 0 false) (pcs (pX (sumP T [])) (pY (sumP T [])) (pI (sumP T []))) (by kernel_rfl) (Writes.store 0 27 (pcs (pX (sumP T [])) (pY (sumP T [])) (pI (sumP T []))) _ _ rfl (by kernel_rfl) (by kernel_rfl) (by kernel_rfl) (Nat.le_of_ble_eq_true (by kernel_rfl)) (by kernel_rfl) (by kernel_rfl)) ?_
  refine Sy.nil ?_
  refine Sy.then_ ?_
  refine Sy.seq ?_
  refine Sy.seq ?_
  refine Sy.region ?_
  refine Sy.step (by kernel_rfl) (.func (.func 42) #[] #[.pointer (some ⟨Bs, 0, none⟩)]) (Quiet.pure (fun _ => by kernel_rfl)) ?_
  refine Sy.nil ?_
  refine Sy.then_ ?_
  refine Sy.block ?_
  refine Sy.rangeF (α := Fin m) 42 #[.pointer (some ⟨Bs, 0, none⟩)] (by kernel_rfl) (by kernel_rfl) (enters_of Try.func42 (by kernel_rfl) rfl) (vaE T) [] (fun ys => ys.map (·.1) = List.range m) (fun pre => ∃ k, k ≤ m ∧ pre.map (·.1) = List.range k) m (fun _ => rfl) (by decide) [g0, g1] (fun pre => [(g0, 27, (pcs 0 0 false)), (g1, 27, (pcs (pX (sumP T (pre.map (·.1)))) (pY (sumP T (pre.map (·.1)))) (pI (sumP T (pre.map (·.1))))))]) (fun pre => [(g0, 27, (pcs 0 0 false)), (g1, 27, (pcs (pX (sumP T (pre.map (·.1)))) (pY (sumP T (pre.map (·.1)))) (pI (sumP T (pre.map (·.1))))))]) (fun _ => False) [true, true] (by kernel_rfl) (fun _ => rfl) ?_ ?_ 1 (fun x gs => [(3, .pointer (some ⟨g1, 0, none⟩)), (4, .pointer (some ⟨(gs.getD 0 0), 0, none⟩))]) (fun x gs => [(gs.getD 0 0, 27, (pcs ((T x.val).x) ((T x.val).y) ((T x.val).i)))]) (fun x gs h => by match gs, h with | [_], _ => rfl) ?_ ?_ ?_ ?_
  · intro w hw
    exact ⟨w, Below.refl _ _, values_stops 8 Bs m cap A T hc _ w hw.below hsrc (hS.below hw.below hS.lt)⟩
  · intro p hp pre
    cases hp
  · intro l fz pre x
    refine Sy.regionR (by rintro ⟨_, _, h⟩; exact h) (by kernel_rfl) ⟨_, rfl⟩ ?_
    refine Sy.make (by kernel_rfl) 27 (pcs 0 0 false) ptr (fun _ => by kernel_rfl) (fun g2 => ?_)
    refine Sy.write (by kernel_rfl) 2 g2 27 (pcs 0 0 false) (pcs ((T x.val).x) ((T x.val).y) ((T x.val).i)) (by kernel_rfl) (Writes.store 0 27 (pcs ((T x.val).x) ((T x.val).y) ((T x.val).i)) _ _ rfl (by kernel_rfl) (by kernel_rfl) (by kernel_rfl) (Nat.le_of_ble_eq_true (by kernel_rfl)) (by kernel_rfl) (by kernel_rfl)) ?_
    refine Sy.nil ?_
    exact Sy.apN [g2] rfl (all_cons (by kernel_rfl) (all_cons (by kernel_rfl) all_nil)) [true, true, true] (by kernel_rfl)
  · intro l fz pre x gs hgs hlen
    obtain ⟨y0, rfl⟩ : ∃ y, gs = [y] := by match gs, hgs with | [y], _ => exact ⟨y, rfl⟩
    refine Sy.block ?_
    refine Sy.regionR (by rintro ⟨_, _, h⟩; exact h) (by kernel_rfl) ⟨_, rfl⟩ ?_
    refine Sy.step (by kernel_rfl) (pv (pX (sumP T (pre.map (·.1)))) (pY (sumP T (pre.map (·.1)))) (pI (sumP T (pre.map (·.1))))) (Quiet.load 1 g1 0 9 27 27 (pcs (pX (sumP T (pre.map (·.1)))) (pY (sumP T (pre.map (·.1)))) (pI (sumP T (pre.map (·.1))))) _ _ rfl (by kernel_rfl) (by kernel_rfl) Try.underlying27 rfl (by kernel_rfl) _ (by kernel_rfl) (Nat.le_of_ble_eq_true (by kernel_rfl))) ?_
    refine Sy.step (by kernel_rfl) (pv ((T x.val).x) ((T x.val).y) ((T x.val).i)) (Quiet.load 2 y0 0 9 27 27 (pcs ((T x.val).x) ((T x.val).y) ((T x.val).i)) _ _ rfl (by kernel_rfl) (by kernel_rfl) Try.underlying27 rfl (by kernel_rfl) _ (by kernel_rfl) (Nat.le_of_ble_eq_true (by kernel_rfl))) ?_
    obtain ⟨R1, hR1⟩ : ∃ z : Pt, z = Ec.add finv (sumP T (pre.map (·.1))) (T x.val).pt := ⟨_, rfl⟩
    refine Sy.step (by kernel_rfl) (pv (pX R1) (pY R1) (pI R1)) (Quiet.call 22 #[pv (pX (sumP T (pre.map (·.1)))) (pY (sumP T (pre.map (·.1)))) (pI (sumP T (pre.map (·.1)))), pv ((T x.val).x) ((T x.val).y) ((T x.val).i)] (fun _ => by kernel_rfl) (fun w => by have q := add_pts w (sumP_on T (pre.map (·.1))) (T x.val) (hok _) hR1; exact q)) ?_
    refine Sy.write (by kernel_rfl) 1 g1 27 (pcs (pX (sumP T (pre.map (·.1)))) (pY (sumP T (pre.map (·.1)))) (pI (sumP T (pre.map (·.1))))) (pcs (pX R1) (pY R1) (pI R1)) (by kernel_rfl) (Writes.store 0 27 (pcs (pX R1) (pY R1) (pI R1)) _ _ rfl (by kernel_rfl) (by kernel_rfl) (by kernel_rfl) (Nat.le_of_ble_eq_true (by kernel_rfl)) (by kernel_rfl) (by kernel_rfl)) ?_
    refine Sy.nil ?_
    refine Sy.in_ ?_
    exact Sy.bpN [true, true, false] (M := [(g0, 27, (pcs 0 0 false)), (g1, 27, (pcs (pX R1) (pY R1) (pI R1)))]) (by kernel_rfl) (bcons rfl (bcons (beq (by rw [List.map_append, List.map_singleton, sumP_snoc, ← hR1])) rfl))
  · intro D fz xs hS hD hm
    have hS0 : xs.map (·.1) = List.range m := hS
    rw [hS0]
    refine Sy.in_ ?_
    refine Sy.then_ ?_
    refine Sy.seq ?_
    refine Sy.region ?_
    refine Sy.step (by kernel_rfl) (pv (pX (sumP T (List.range m))) (pY (sumP T (List.range m))) (pI (sumP T (List.range m)))) (Quiet.load 1 g1 0 9 27 27 (pcs (pX (sumP T (List.range m))) (pY (sumP T (List.range m))) (pI (sumP T (List.range m)))) _ _ rfl (by kernel_rfl) (by kernel_rfl) Try.underlying27 rfl (by kernel_rfl) _ (by kernel_rfl) (Nat.le_of_ble_eq_true (by kernel_rfl))) ?_
    refine Sy.write (by kernel_rfl) 0 g0 27 (pcs 0 0 false) (pcs (pX (sumP T (List.range m))) (pY (sumP T (List.range m))) (pI (sumP T (List.range m)))) (by kernel_rfl) (Writes.store 0 27 (pcs (pX (sumP T (List.range m))) (pY (sumP T (List.range m))) (pI (sumP T (List.range m)))) _ _ rfl (by kernel_rfl) (by kernel_rfl) (by kernel_rfl) (Nat.le_of_ble_eq_true (by kernel_rfl)) (by kernel_rfl) (by kernel_rfl)) ?_
    refine Sy.nil ?_
    refine Sy.then_ ?_
    refine Sy.ret ?_
    rw [show (ptv (sumP T (List.range m)) : Value) = pv (pX (sumP T (List.range m))) (pY (sumP T (List.range m))) (pI (sumP T (List.range m))) from ptv_parts _]
    exact Sy.retM1 (v := pv (pX (sumP T (List.range m))) (pY (sumP T (List.range m))) (pI (sumP T (List.range m)))) rfl (.inl (Res.cell (ty' := 27) g0 0 (pcs (pX (sumP T (List.range m))) (pY (sumP T (List.range m))) (pI (sumP T (List.range m)))) _ (by kernel_rfl) (by kernel_rfl) Try.underlying27 rfl (by kernel_rfl) (by kernel_rfl))) hD hm
  · intro D fz pre hS hx hD hm
    exact hx.elim
end Go.Proofs.Ytneeefinaejgcaa.Cu

end
section
namespace Go.Proofs.Ytneeefinaejgcaa.Cu
open Go.RowKit Go.Proofs.Ytneeefinaejgcaa Go.Proofs.Ytneeefinaejgcaa.Sy

theorem sl_some {F : Slots} {x : Operand} {A : Option Addr} {a : Addr} {n c : Nat} (hA : A = some a) (h : evF F x = .slice A n c) : evF F x = .slice (some a) n c := by rw [h, hA]
theorem addRe_pts (w : World) {S : Pt} (hS : Ec.On S) (t : Pr) (ht : t.ok) {R : Pt} (hR : R = Ec.add finv S t.pt) : Calls Try.prog 43 #[pv (pX S) (pY S) (pI S), pv t.x t.y t.i] w (Gets w (pv (pX R) (pY R) (pI R))) := by
  have h := addRe_any w (pX S) (pY S) (pI S) t.x t.y t.i (pX_lt S) (pY_lt S) ht.1 ht.2
  rw [dec_parts hS] at h
  rw [hR, ← ptv_parts (Ec.add finv S t.pt)]
  exact h
set_option maxHeartbeats 400000 in
set_option maxRecDepth 100000 in
theorem sumR_any (w : World) (m c : Nat) (A : Option Addr) (T : Nat → Pr) (hc : m ≤ 4611686018427387904) (hok : ∀ j, (T j).ok) (hsrc : PSrc w A m T) : Calls Try.prog 13 #[.slice A m c] w (Gets w (ptv (sumP T (List.range m)))) := by
  refine Sy.enter (args := [.slice A m c]) Try.func13 rfl (Nat.le_of_ble_eq_true (by kernel_rfl)) ?_
  refine Sy.seq ?_
  refine Sy.region ?_
  refine Sy.make (by kernel_rfl) 27 (pcs 0 0 false) ptr (fun _ => by kernel_rfl) (fun g0 => ?_)
  refine Sy.nil ?_
  refine Sy.then_ ?_
  refine Sy.seq ?_
  refine Sy.region ?_
  refine Sy.step (by kernel_rfl) (pv (pX (sumP T (List.range 0))) (pY (sumP T (List.range 0))) (pI (sumP T (List.range 0)))) (Quiet.call 34 #[] (fun _ => by kernel_rfl) (zeroR_c)) ?_
  refine Sy.make (by kernel_rfl) 27 (pcs 0 0 false) ptr (fun _ => by kernel_rfl) (fun g1 => ?_)
  refine Sy.write (by kernel_rfl) 1 g1 27 (pcs 0 0 false) (pcs (pX (sumP T (List.range 0))) (pY (sumP T (List.range 0))) (pI (sumP T (List.range 0)))) (by kernel_rfl) (Writes.store 0 27 (pcs (pX (sumP T (List.range 0))) (pY (sumP T (List.range 0))) (pI (sumP T (List.range 0)))) _ _ rfl (by kernel_rfl) (by kernel_rfl) (by kernel_rfl) (Nat.le_of_ble_eq_true (by kernel_rfl)) (by kernel_rfl) (by kernel_rfl)) ?_
  refine Sy.nil ?_
  refine Sy.then_ ?_
  refine Sy.seq ?_
  refine Sy.seq ?_
  refine Sy.region ?_
  refine Sy.step (by kernel_rfl) (.int .i64 0) (Quiet.pure (fun _ => by kernel_rfl)) ?_
  refine Sy.nil ?_
  refine Sy.then_ ?_
  refine Sy.block ?_
  refine Sy.loopK m (fun k1 => [(0, .slice A m c), (2, .pointer (some ⟨g0, 0, none⟩)), (3, .pointer (some ⟨g1, 0, none⟩)), (4, .int .i64 ((k1 : Nat) : Int))]) (fun k1 => [(g0, 27, (pcs 0 0 false)), (g1, 27, (pcs (pX (sumP T (List.range k1))) (pY (sumP T (List.range k1))) (pI (sumP T (List.range k1)))))]) [true, true] (M := [(g0, 27, (pcs 0 0 false)), (g1, 27, (pcs (pX (sumP T (List.range 0))) (pY (sumP T (List.range 0))) (pI (sumP T (List.range 0)))))]) (all_cons (by kernel_rfl) (all_cons (by kernel_rfl) (all_cons (by kernel_rfl) (all_cons (by kernel_rfl) all_nil)))) (by kernel_rfl) (bcons rfl (bcons rfl rfl)) (fun k1 hk1 => ?_)
  refine Sy.seq ?_
  refine Sy.seq ?_
  refine Sy.region ?_
  refine Sy.step (by kernel_rfl) (.int .i64 ((k1 : Nat) : Int)) (Quiet.pure (fun _ => by kernel_rfl)) ?_
  refine Sy.step (by kernel_rfl) (.slice A m c) (Quiet.pure (fun _ => by kernel_rfl)) ?_
  refine Sy.step (by kernel_rfl) (.int .i64 ((m : Nat) : Int)) (Quiet.pure (fun _ => by kernel_rfl)) ?_
  obtain ⟨b1, hb1⟩ : ∃ z : Bool, z = decide (k1 < m) := ⟨_, rfl⟩
  refine Sy.step (by kernel_rfl) (.bool b1) (Quiet.pure (exec_int .lss _ _ _ .i64 _ _ _ rfl rfl rfl (int_lss _ _ _ _ _ (by rw [hb1]; exact decide_eq_decide.2 (by omega))))) ?_
  refine Sy.nil ?_
  refine Sy.then_ ?_
  cases b1
  · have lb1 : ¬ (k1 < m) := of_decide_eq_false hb1.symm
    refine Sy.cond_f (by kernel_rfl) (by kernel_rfl) ?_
    refine Sy.exit ?_
    refine Sy.then_exit ?_
    refine Sy.then_exit ?_
    obtain rfl : m = k1 := by omega
    refine Sy.in_exit ?_
    refine Sy.then_ ?_
    refine Sy.seq ?_
    refine Sy.region ?_
    refine Sy.step (by kernel_rfl) (pv (pX (sumP T (List.range m))) (pY (sumP T (List.range m))) (pI (sumP T (List.range m)))) (Quiet.load 1 g1 0 9 27 27 (pcs (pX (sumP T (List.range m))) (pY (sumP T (List.range m))) (pI (sumP T (List.range m)))) _ _ rfl (by kernel_rfl) (by kernel_rfl) Try.underlying27 rfl (by kernel_rfl) _ (by kernel_rfl) (Nat.le_of_ble_eq_true (by kernel_rfl))) ?_
    refine Sy.write (by kernel_rfl) 0 g0 27 (pcs 0 0 false) (pcs (pX (sumP T (List.range m))) (pY (sumP T (List.range m))) (pI (sumP T (List.range m)))) (by kernel_rfl) (Writes.store 0 27 (pcs (pX (sumP T (List.range m))) (pY (sumP T (List.range m))) (pI (sumP T (List.range m)))) _ _ rfl (by kernel_rfl) (by kernel_rfl) (by kernel_rfl) (Nat.le_of_ble_eq_true (by kernel_rfl)) (by kernel_rfl) (by kernel_rfl)) ?_
    refine Sy.nil ?_
    refine Sy.then_ ?_
    refine Sy.ret ?_
    rw [show (ptv (sumP T (List.range m)) : Value) = pv (pX (sumP T (List.range m))) (pY (sumP T (List.range m))) (pI (sumP T (List.range m))) from ptv_parts _]
    exact Sy.ret1 (v := pv (pX (sumP T (List.range m))) (pY (sumP T (List.range m))) (pI (sumP T (List.range m)))) rfl (.inl (Res.cell (ty' := 27) g0 0 (pcs (pX (sumP T (List.range m))) (pY (sumP T (List.range m))) (pI (sumP T (List.range m)))) _ (by kernel_rfl) (by kernel_rfl) Try.underlying27 rfl (by kernel_rfl) (by kernel_rfl)))
  · have lb1 : k1 < m := of_decide_eq_true hb1.symm
    refine Sy.cond_t (by kernel_rfl) (by kernel_rfl) ?_
    refine Sy.skip ?_
    refine Sy.then_ ?_
    refine Sy.seq ?_
    obtain ⟨b, o, hA, hbl, hT⟩ := hsrc (by omega)
    refine Sy.block ?_
    refine Sy.regionD (fun j => j == 6) (by kernel_rfl) ?_
    refine Sy.stepD 0 rfl (by kernel_rfl) (fun _ _ _ _ h => h) (by kernel_rfl) (pv (pX (sumP T (List.range k1))) (pY (sumP T (List.range k1))) (pI (sumP T (List.range k1)))) (Quiet.load 1 g1 0 9 27 27 (pcs (pX (sumP T (List.range k1))) (pY (sumP T (List.range k1))) (pI (sumP T (List.range k1)))) _ _ rfl (by kernel_rfl) (by kernel_rfl) Try.underlying27 rfl (by kernel_rfl) _ (by kernel_rfl) (Nat.le_of_ble_eq_true (by kernel_rfl))) ?_
    refine Sy.stepD 1 rfl (by kernel_rfl) (fun _ _ _ _ h => h) (by kernel_rfl) (.slice A m c) (Quiet.pure (fun _ => by kernel_rfl)) ?_
    refine Sy.stepD 2 rfl (by kernel_rfl) (fun _ _ _ _ h => h) (by kernel_rfl) (.int .i64 ((k1 : Nat) : Int)) (Quiet.pure (fun _ => by kernel_rfl)) ?_
    refine Sy.stepD 3 rfl (by kernel_rfl) (fun _ _ _ _ h => h) (by kernel_rfl) (.pointer (some ⟨b, o + k1 * 9, none⟩)) (Quiet.pure (exec_at 32 _ _ _ b o m c k1 9 .i64 rfl (sl_some hA rfl) rfl Try.underlying32 (fun _ => by kernel_rfl) (by omega))) ?_
    refine Sy.stepD 4 rfl (by kernel_rfl) (fun _ _ _ _ h => h) (by kernel_rfl) (pv ((T k1).x) ((T k1).y) ((T k1).i)) (Quiet.there b (o + k1 * 9) 9 27 (T k1).cells _ _ rfl (by kernel_rfl) hbl (hT k1 (by omega)) Try.underlying27 rfl (by kernel_rfl) rfl _ (by kernel_rfl)) ?_
    obtain ⟨R1, hR1⟩ : ∃ z : Pt, z = Ec.add finv (sumP T (List.range k1)) (T k1).pt := ⟨_, rfl⟩
    refine Sy.stepD 5 rfl (by kernel_rfl) (fun _ _ _ _ h => h) (by kernel_rfl) (pv (pX R1) (pY R1) (pI R1)) (Quiet.call 43 #[pv (pX (sumP T (List.range k1))) (pY (sumP T (List.range k1))) (pI (sumP T (List.range k1))), pv ((T k1).x) ((T k1).y) ((T k1).i)] (fun _ => by kernel_rfl) (fun w => by have q := addRe_pts w (sumP_on T (List.range k1)) (T k1) (hok _) hR1; exact q)) ?_
    refine Sy.writeD 6 rfl (by kernel_rfl) (by rfl) (by kernel_rfl) 1 g1 27 (pcs (pX (sumP T (List.range k1))) (pY (sumP T (List.range k1))) (pI (sumP T (List.range k1)))) (pcs (pX R1) (pY R1) (pI R1)) (by kernel_rfl) (Writes.store 0 27 (pcs (pX R1) (pY R1) (pI R1)) _ _ rfl (by kernel_rfl) (by kernel_rfl) (by kernel_rfl) (Nat.le_of_ble_eq_true (by kernel_rfl)) (by kernel_rfl) (by kernel_rfl)) ?_
    refine Sy.doneD (by kernel_rfl) ?_
    refine Sy.in_ ?_
    refine Sy.then_ ?_
    refine Sy.region ?_
    refine Sy.step (by kernel_rfl) (.int .i64 ((k1 : Nat) : Int)) (Quiet.pure (fun _ => by kernel_rfl)) ?_
    refine Sy.step (by kernel_rfl) (.int .i64 ((k1 + 1 : Nat) : Int)) (Quiet.pure (exec_int .add _ _ _ .i64 _ _ _ rfl rfl rfl (int_add _ _ _ _ _ ((wrap_i64 (by omega) (by omega)).trans (by omega))))) ?_
    refine Sy.step (by kernel_rfl) (.int .i64 ((k1 + 1 : Nat) : Int)) (Quiet.pure (fun _ => by kernel_rfl)) ?_
    refine Sy.nil ?_
    exact Sy.againK [true, true] (M := [(g0, 27, (pcs 0 0 false)), (g1, 27, (pcs (pX R1) (pY R1) (pI R1)))]) (by omega) (all_cons (by kernel_rfl) (all_cons (by kernel_rfl) (all_cons (by kernel_rfl) (all_cons (by kernel_rfl) all_nil)))) (by kernel_rfl) (bcons rfl (bcons (beq (by rw [List.range_succ, sumP_snoc, ← hR1])) rfl))
/-- the multiples that a list names, added one behind the other -/
def sumT (T : Nat → Trm) (l : List Nat) : Pt := Ec.sumL finv (fun j => Ec.nm finv (T j).kn (T j).pt) l
theorem sumT_on (T : Nat → Trm) (l : List Nat) : Ec.On (sumT T l) := Ec.On.sumL fld _ fun x _ => (T x).on.nm fld _
theorem sumT_snoc (T : Nat → Trm) (l : List Nat) (c : Nat) : sumT T (l ++ [c]) = Ec.add finv (sumT T l) (Ec.nm finv (T c).kn (T c).pt) := sumL_snoc _ _ _
theorem addRe_of (w : World) {S U R : Pt} (hS : Ec.On S) (hU : Ec.On U) (hR : R = Ec.add finv S U) : Calls Try.prog 43 #[pv (pX S) (pY S) (pI S), pv (pX U) (pY U) (pI U)] w (Gets w (pv (pX R) (pY R) (pI R))) := by
  have h := addRe_any w (pX S) (pY S) (pI S) (pX U) (pY U) (pI U) (pX_lt S) (pY_lt S) (pX_lt U) (pY_lt U)
  rw [dec_parts hS, dec_parts hU] at h
  rw [hR, ← ptv_parts (Ec.add finv S U)]
  exact h
set_option maxHeartbeats 400000 in
set_option maxRecDepth 100000 in
theorem multiR_any (w : World) (m c b o : Nat) (A : Option Addr) (T : Nat → Trm) (hc : m ≤ 4611686018427387904) (hok : ∀ j, (T j).ok) (hsrc0 : TSrc w A m T b o) : Calls Try.prog 15 #[.slice A m c] w (Gets w (ptv (sumT T (List.range m)))) := by
  have hsrc : 0 < m → ∃ b o, A = some ⟨b, o, none⟩ ∧ b < w.heap.size ∧ ∀ j, j < m → w.rangeAt b (o + j * 13) (T j).cells := fun h => ⟨b, o, hsrc0 h⟩
  clear hsrc0
  refine Sy.enter (args := [.slice A m c]) Try.func15 rfl (Nat.le_of_ble_eq_true (by kernel_rfl)) ?_
  refine Sy.seq ?_
  refine Sy.region ?_
  refine Sy.make (by kernel_rfl) 27 (pcs 0 0 false) ptr (fun _ => by kernel_rfl) (fun g0 => ?_)
  refine Sy.nil ?_
  refine Sy.then_ ?_
  refine Sy.seq ?_
  refine Sy.region ?_
  refine Sy.step (by kernel_rfl) (pv (pX (sumT T (List.range 0))) (pY (sumT T (List.range 0))) (pI (sumT T (List.range 0)))) (Quiet.call 34 #[] (fun _ => by kernel_rfl) (zeroR_c)) ?_
  refine Sy.make (by kernel_rfl) 27 (pcs 0 0 false) ptr (fun _ => by kernel_rfl) (fun g1 => ?_)
  refine Sy.write (by kernel_rfl) 1 g1 27 (pcs 0 0 false) (pcs (pX (sumT T (List.range 0))) (pY (sumT T (List.range 0))) (pI (sumT T (List.range 0)))) (by kernel_rfl) (Writes.store 0 27 (pcs (pX (sumT T (List.range 0))) (pY (sumT T (List.range 0))) (pI (sumT T (List.range 0)))) _ _ rfl (by kernel_rfl) (by kernel_rfl) (by kernel_rfl) (Nat.le_of_ble_eq_true (by kernel_rfl)) (by kernel_rfl) (by kernel_rfl)) ?_
  refine Sy.nil ?_
  refine Sy.then_ ?_
  refine Sy.seq ?_
  refine Sy.seq ?_
  refine Sy.region ?_
  refine Sy.step (by kernel_rfl) (.int .i64 0) (Quiet.pure (fun _ => by kernel_rfl)) ?_
  refine Sy.nil ?_
  refine Sy.then_ ?_
  refine Sy.block ?_
  refine Sy.loopK m (fun k1 => [(0, .slice A m c), (2, .pointer (some ⟨g0, 0, none⟩)), (3, .pointer (some ⟨g1, 0, none⟩)), (4, .int .i64 ((k1 : Nat) : Int))]) (fun k1 => [(g0, 27, (pcs 0 0 false)), (g1, 27, (pcs (pX (sumT T (List.range k1))) (pY (sumT T (List.range k1))) (pI (sumT T (List.range k1)))))]) [true, true] (M := [(g0, 27, (pcs 0 0 false)), (g1, 27, (pcs (pX (sumT T (List.range 0))) (pY (sumT T (List.range 0))) (pI (sumT T (List.range 0)))))]) (all_cons (by kernel_rfl) (all_cons (by kernel_rfl) (all_cons (by kernel_rfl) (all_cons (by kernel_rfl) all_nil)))) (by kernel_rfl) (bcons rfl (bcons rfl rfl)) (fun k1 hk1 => ?_)
  refine Sy.seq ?_
  refine Sy.seq ?_
  refine Sy.region ?_
  refine Sy.step (by kernel_rfl) (.int .i64 ((k1 : Nat) : Int)) (Quiet.pure (fun _ => by kernel_rfl)) ?_
  refine Sy.step (by kernel_rfl) (.slice A m c) (Quiet.pure (fun _ => by kernel_rfl)) ?_
  refine Sy.step (by kernel_rfl) (.int .i64 ((m : Nat) : Int)) (Quiet.pure (fun _ => by kernel_rfl)) ?_
  obtain ⟨b1, hb1⟩ : ∃ z : Bool, z = decide (k1 < m) := ⟨_, rfl⟩
  refine Sy.step (by kernel_rfl) (.bool b1) (Quiet.pure (exec_int .lss _ _ _ .i64 _ _ _ rfl rfl rfl (int_lss _ _ _ _ _ (by rw [hb1]; exact decide_eq_decide.2 (by omega))))) ?_
  refine Sy.nil ?_
  refine Sy.then_ ?_
  cases b1
  · have lb1 : ¬ (k1 < m) := of_decide_eq_false hb1.symm
    refine Sy.cond_f (by kernel_rfl) (by kernel_rfl) ?_
    refine Sy.exit ?_
    refine Sy.then_exit ?_
    refine Sy.then_exit ?_
    obtain rfl : m = k1 := by omega
    refine Sy.in_exit ?_
    refine Sy.then_ ?_
    refine Sy.seq ?_
    refine Sy.region ?_
    refine Sy.step (by kernel_rfl) (pv (pX (sumT T (List.range m))) (pY (sumT T (List.range m))) (pI (sumT T (List.range m)))) (Quiet.load 1 g1 0 9 27 27 (pcs (pX (sumT T (List.range m))) (pY (sumT T (List.range m))) (pI (sumT T (List.range m)))) _ _ rfl (by kernel_rfl) (by kernel_rfl) Try.underlying27 rfl (by kernel_rfl) _ (by kernel_rfl) (Nat.le_of_ble_eq_true (by kernel_rfl))) ?_
    refine Sy.write (by kernel_rfl) 0 g0 27 (pcs 0 0 false) (pcs (pX (sumT T (List.range m))) (pY (sumT T (List.range m))) (pI (sumT T (List.range m)))) (by kernel_rfl) (Writes.store 0 27 (pcs (pX (sumT T (List.range m))) (pY (sumT T (List.range m))) (pI (sumT T (List.range m)))) _ _ rfl (by kernel_rfl) (by kernel_rfl) (by kernel_rfl) (Nat.le_of_ble_eq_true (by kernel_rfl)) (by kernel_rfl) (by kernel_rfl)) ?_
    refine Sy.nil ?_
    refine Sy.then_ ?_
    refine Sy.ret ?_
    rw [show (ptv (sumT T (List.range m)) : Value) = pv (pX (sumT T (List.range m))) (pY (sumT T (List.range m))) (pI (sumT T (List.range m))) from ptv_parts _]
    exact Sy.ret1 (v := pv (pX (sumT T (List.range m))) (pY (sumT T (List.range m))) (pI (sumT T (List.range m)))) rfl (.inl (Res.cell (ty' := 27) g0 0 (pcs (pX (sumT T (List.range m))) (pY (sumT T (List.range m))) (pI (sumT T (List.range m)))) _ (by kernel_rfl) (by kernel_rfl) Try.underlying27 rfl (by kernel_rfl) (by kernel_rfl)))
  · have lb1 : k1 < m := of_decide_eq_true hb1.symm
    refine Sy.cond_t (by kernel_rfl) (by kernel_rfl) ?_
    refine Sy.skip ?_
    refine Sy.then_ ?_
    refine Sy.seq ?_
    obtain ⟨b, o, hA, hbl, hT⟩ := hsrc (by omega)
    refine Sy.block ?_
    refine Sy.regionD (fun j => j == 13) (by kernel_rfl) ?_
    refine Sy.stepD 0 rfl (by kernel_rfl) (fun _ _ _ _ h => h) (by kernel_rfl) (pv (pX (sumT T (List.range k1))) (pY (sumT T (List.range k1))) (pI (sumT T (List.range k1)))) (Quiet.load 1 g1 0 9 27 27 (pcs (pX (sumT T (List.range k1))) (pY (sumT T (List.range k1))) (pI (sumT T (List.range k1)))) _ _ rfl (by kernel_rfl) (by kernel_rfl) Try.underlying27 rfl (by kernel_rfl) _ (by kernel_rfl) (Nat.le_of_ble_eq_true (by kernel_rfl))) ?_
    refine Sy.stepD 1 rfl (by kernel_rfl) (fun _ _ _ _ h => h) (by kernel_rfl) (.slice A m c) (Quiet.pure (fun _ => by kernel_rfl)) ?_
    refine Sy.stepD 2 rfl (by kernel_rfl) (fun _ _ _ _ h => h) (by kernel_rfl) (.int .i64 ((k1 : Nat) : Int)) (Quiet.pure (fun _ => by kernel_rfl)) ?_
    refine Sy.stepD 3 rfl (by kernel_rfl) (fun _ _ _ _ h => h) (by kernel_rfl) (.pointer (some ⟨b, o + k1 * 13, none⟩)) (Quiet.pure (exec_at 33 _ _ _ b o m c k1 13 .i64 rfl (sl_some hA rfl) rfl Try.underlying33 (fun _ => by kernel_rfl) (by omega))) ?_
    refine Sy.stepD 4 rfl (by kernel_rfl) (fun _ _ _ _ h => h) (by kernel_rfl) (.pointer (some ⟨b, o + k1 * 13, none⟩)) (Quiet.pure (fun _ => by kernel_rfl)) ?_
    refine Sy.stepD 5 rfl (by kernel_rfl) (fun _ _ _ _ h => h) (by kernel_rfl) (fv ((T k1).k)) (Quiet.there b (o + k1 * 13) 4 24 (fws (T k1).k) _ _ rfl (by kernel_rfl) hbl (range_left (hT k1 (by omega))) Try.underlying24 rfl (by kernel_rfl) rfl _ (by kernel_rfl)) ?_
    refine Sy.stepD 6 rfl (by kernel_rfl) (fun _ _ _ _ h => h) (by kernel_rfl) (.slice A m c) (Quiet.pure (fun _ => by kernel_rfl)) ?_
    refine Sy.stepD 7 rfl (by kernel_rfl) (fun _ _ _ _ h => h) (by kernel_rfl) (.int .i64 ((k1 : Nat) : Int)) (Quiet.pure (fun _ => by kernel_rfl)) ?_
    refine Sy.stepD 8 rfl (by kernel_rfl) (fun _ _ _ _ h => h) (by kernel_rfl) (.pointer (some ⟨b, o + k1 * 13, none⟩)) (Quiet.pure (exec_at 33 _ _ _ b o m c k1 13 .i64 rfl (sl_some hA rfl) rfl Try.underlying33 (fun _ => by kernel_rfl) (by omega))) ?_
    refine Sy.stepD 9 rfl (by kernel_rfl) (fun _ _ _ _ h => h) (by kernel_rfl) (.pointer (some ⟨b, o + k1 * 13 + 4, none⟩)) (Quiet.pure (fun _ => by kernel_rfl)) ?_
    refine Sy.stepD 10 rfl (by kernel_rfl) (fun _ _ _ _ h => h) (by kernel_rfl) (pv ((T k1).x) ((T k1).y) ((T k1).i)) (Quiet.there b (o + k1 * 13 + 4) 9 27 (fws (T k1).x ++ (fws (T k1).y ++ [Value.bool (T k1).i])) _ _ rfl (by kernel_rfl) hbl (range_right (hT k1 (by omega)) rfl) Try.underlying27 rfl (by kernel_rfl) rfl _ (by kernel_rfl)) ?_
    obtain ⟨M1, hM1⟩ : ∃ z : Pt, z = Ec.nm finv (T k1).kn (T k1).pt := ⟨_, rfl⟩
    refine Sy.stepD 11 rfl (by kernel_rfl) (fun _ _ _ _ h => h) (by kernel_rfl) (pv (pX M1) (pY M1) (pI M1)) (Quiet.call 9 #[fv ((T k1).k), pv ((T k1).x) ((T k1).y) ((T k1).i)] (fun _ => by kernel_rfl) (fun w => by rw [← ptv_parts, hM1]; exact mulRe_any w (T k1).k (T k1).x (T k1).y (T k1).i (hok k1).1 (hok k1).2.1 (hok k1).2.2)) ?_
    obtain ⟨R1, hR1⟩ : ∃ z : Pt, z = Ec.add finv (sumT T (List.range k1)) M1 := ⟨_, rfl⟩
    refine Sy.stepD 12 rfl (by kernel_rfl) (fun _ _ _ _ h => h) (by kernel_rfl) (pv (pX R1) (pY R1) (pI R1)) (Quiet.call 43 #[pv (pX (sumT T (List.range k1))) (pY (sumT T (List.range k1))) (pI (sumT T (List.range k1))), pv (pX M1) (pY M1) (pI M1)] (fun _ => by kernel_rfl) (fun w => by have q := addRe_of w (sumT_on T (List.range k1)) (by rw [hM1]; exact (T k1).on.nm fld _) hR1; exact q)) ?_
    refine Sy.writeD 13 rfl (by kernel_rfl) (by rfl) (by kernel_rfl) 1 g1 27 (pcs (pX (sumT T (List.range k1))) (pY (sumT T (List.range k1))) (pI (sumT T (List.range k1)))) (pcs (pX R1) (pY R1) (pI R1)) (by kernel_rfl) (Writes.store 0 27 (pcs (pX R1) (pY R1) (pI R1)) _ _ rfl (by kernel_rfl) (by kernel_rfl) (by kernel_rfl) (Nat.le_of_ble_eq_true (by kernel_rfl)) (by kernel_rfl) (by kernel_rfl)) ?_
    refine Sy.doneD (by kernel_rfl) ?_
    refine Sy.in_ ?_
    refine Sy.then_ ?_
    refine Sy.region ?_
    refine Sy.step (by kernel_rfl) (.int .i64 ((k1 : Nat) : Int)) (Quiet.pure (fun _ => by kernel_rfl)) ?_
    refine Sy.step (by kernel_rfl) (.int .i64 ((k1 + 1 : Nat) : Int)) (Quiet.pure (exec_int .add _ _ _ .i64 _ _ _ rfl rfl rfl (int_add _ _ _ _ _ ((wrap_i64 (by omega) (by omega)).trans (by omega))))) ?_
    refine Sy.step (by kernel_rfl) (.int .i64 ((k1 + 1 : Nat) : Int)) (Quiet.pure (fun _ => by kernel_rfl)) ?_
    refine Sy.nil ?_
    exact Sy.againK [true, true] (M := [(g0, 27, (pcs 0 0 false)), (g1, 27, (pcs (pX R1) (pY R1) (pI R1)))]) (by omega) (all_cons (by kernel_rfl) (all_cons (by kernel_rfl) (all_cons (by kernel_rfl) (all_cons (by kernel_rfl) all_nil)))) (by kernel_rfl) (bcons rfl (bcons (beq (by rw [List.range_succ, sumT_snoc, ← hM1, ← hR1])) rfl))
end Go.Proofs.Ytneeefinaejgcaa.Cu

end
section
namespace Go.Proofs.Ytneeefinaejgcaa.Cu
open Go.ChangeShapes Go.WideShapes Go.ChangeAt Go.RowKit Go.Proofs.Ytneeefinaejgcaa Go.Deep

theorem cells_eachL {W : World} {base : Nat} {a : Addr} {n : Nat} {cs : List Value} (h : W.cells? base a n = some cs) : ∀ (j : Nat) (v : Value), cs[j]? = some v → W.cell? (a.add j) = some v := fun j v hj => by
  unfold World.cells? at h
  split at h
  · have hl := Lib.mapM_length h
    have hjl : j < n := by
      have := (List.getElem?_eq_some_iff.1 hj).1
      simp at hl
      omega
    obtain ⟨b, hb, hf⟩ := Lib.mapM_at h j j (by simp [hjl])
    rw [hb] at hj
    injection hj with hj
    rw [hf, hj]
  · cases h
theorem cells_lenL {W : World} {base : Nat} {a : Addr} {n : Nat} {cs : List Value} (h : W.cells? base a n = some cs) : cs.length = n := by
  unfold World.cells? at h
  split at h
  · have hl := Lib.mapM_length h
    simpa using hl
  · cases h
theorem choose_ltL {α : Type} [Inhabited α] {n : Nat} {p : Nat → α → Prop} (h : ∀ i, i < n → ∃ x, p i x) (q : α → Prop) (hq : q default) (hpq : ∀ i x, p i x → q x) : ∃ f : Nat → α, (∀ i, q (f i)) ∧ ∀ i, i < n → p i (f i) :=
  ⟨fun i => if hi : i < n then Classical.choose (h i hi) else default, fun i => by
    by_cases hi : i < n
    · simp only [hi, dif_pos]; exact hpq i _ (Classical.choose_spec (h i hi))
    · simp only [hi, dif_neg, not_false_iff]; exact hq, fun i hi => by simp only [hi, dif_pos]; exact Classical.choose_spec (h i hi)⟩
theorem cell_spotL {w : World} {a : Addr} {v : Value} (h : w.cell? a = some v) : ∃ b o, a = ⟨b, o, none⟩ ∧ b < w.heap.size := by
  obtain ⟨b, o, k⟩ := a
  unfold World.cell? at h
  cases k with
  | none =>
    refine ⟨b, o, rfl, ?_⟩
    rcases Nat.lt_or_ge b w.heap.size with hl | hl
    · exact hl
    · simp [Array.getElem?_eq_none hl] at h
  | some k => exfalso; cases hw : w.heap[b]? with
    | none => simp [hw] at h
    | some ob => cases ob <;> simp [hw] at h
theorem add_midL (b o n : Nat) : (⟨b, o, none⟩ : Addr).add n = ⟨b, o + n, none⟩ := by unfold Addr.add; split <;> simp_all
/-- a slice of parts of s cells, each of them a thing of α -/
theorem open_list {α : Type} [Inhabited α] (cells : α → List Value) (ok : α → Prop) (s : Nat) (hs : 0 < s) (hc : ∀ x, (cells x).length = s) (h0 : ok default) {H : Type} {enc : TypeId × Value → H} {P : Program} {W : World} {r : Reach} {b0 : Nat} {t e : TypeId} {v : Value} {d : DataW H} {ps : List MemPlace}
    (ht : P.underlying t = some (.slice e)) (hce : P.cellsOf e = s) (hel : ∀ (fuel : Nat) (cs : List Value) (x : DataW H × List MemPlace), cs.length = s → DataW.trod enc P W 0 (fun _ => true) true fuel e cs = some x → ∃ y, ok y ∧ cs = cells y)
    (hval : Value.okWide P W r b0 t v) (h : DataW.Trod enc P W 0 (fun _ => true) true t v d ps) :
    ∃ (A : Option Addr) (m c : Nat) (T : Nat → α), v = .slice A m c ∧ m ≤ c ∧ (∀ j, ok (T j)) ∧ (0 < m → ∃ b o, A = some ⟨b, o, none⟩ ∧ b < W.heap.size ∧ ∀ j, j < m → W.rangeAt b (o + j * s) (cells (T j))) ∧ (m = 0 ∨ ∃ elems spare, d = .slice elems spare ∧ elems.length = m) := by
  obtain ⟨a0, len, cap, rfl⟩ := okWide_slice ht hval
  obtain ⟨fuel, hf⟩ := h
  rcases open_slice ht hf with ⟨hcs, hx⟩ | ⟨a, len', cap', m, n, D, Pl, hcs, _, hl, hm, hme, hx, hall⟩
  · simp [Value.cells] at hcs
    obtain ⟨rfl, rfl, rfl⟩ := hcs
    exact ⟨none, 0, 0, fun _ => default, rfl, Nat.le_refl _, fun _ => h0, fun hn => absurd hn (Nat.lt_irrefl _), .inl rfl⟩
  · simp [Value.cells] at hcs
    obtain ⟨rfl, rfl, rfl⟩ := hcs
    simp only [if_true] at hme
    subst hme
    rw [hce] at hall
    obtain ⟨X, hX0, hX⟩ := choose_ltL (α := α) (n := len) (p := fun i x => ok x ∧ W.cells? 0 (a.add (i * s)) s = some (cells x)) (fun i hi => by
      obtain ⟨cs', h1, h2⟩ := hall i (by omega)
      obtain ⟨y, hy, rfl⟩ := hel _ _ _ (cells_lenL h1) h2
      exact ⟨y, hy, h1⟩) ok h0 (fun _ _ hp => hp.1)
    refine ⟨some a, len, m, X, rfl, hl, hX0, fun hpos => ?_, .inr ?_⟩
    · obtain ⟨_, hc0⟩ := hX 0 hpos
      obtain ⟨v0, hv0⟩ : ∃ v0, (cells (X 0))[0]? = some v0 := ⟨(cells (X 0))[0]'(by rw [hc]; exact hs), List.getElem?_eq_getElem _⟩
      have hcell : W.cell? a = some v0 := by
        have := cells_eachL hc0 0 v0 hv0
        simpa [Addr.add] using this
      obtain ⟨b, o, rfl, hlt⟩ := cell_spotL hcell
      refine ⟨b, o, rfl, hlt, fun j hj i v hi => ?_⟩
      have := cells_eachL (hX j hj).2 i v hi
      rwa [add_midL, add_midL] at this
    · simp only [Prod.mk.injEq] at hx
      obtain ⟨rfl, _⟩ := hx
      exact ⟨_, _, rfl, by simp⟩
theorem pt_trod {H : Type} {enc : TypeId × Value → H} {P : Program} {W : World} {t q : TypeId} {f0 f1 f2 : Field} (ht : P.underlying t = some (.struct #[f0, f1, f2]))
    (h0 : P.underlying f0.type = some (.array 4 q)) (h1 : P.underlying f1.type = some (.array 4 q)) (h2 : P.underlying f2.type = some .bool) (hq : P.underlying q = some (.int .u64))
    (hcq : P.cellsOf q = 1) (c0 : P.cellsOf f0.type = 4) (c1 : P.cellsOf f1.type = 4) (c2 : P.cellsOf f2.type = 1) (o0 : f0.offset = 0) (o1 : f1.offset = 4) (o2 : f2.offset = 8)
    (fuel : Nat) (cs : List Value) (x : DataW H × List MemPlace) (hl : cs.length = 9) (hf : DataW.trod enc P W 0 (fun _ => true) true fuel t cs = some x) : ∃ y : Pr, y.ok ∧ cs = y.cells := by
  obtain ⟨y0, y1, y2, m, hx, _, g0, g1, g2⟩ := trod_struct3 ht hf
  obtain ⟨a0, a1, a2, a3, b0', b1, b2, b3, z, rfl⟩ : ∃ a0 a1 a2 a3 b0 b1 b2 b3 z, cs = [a0, a1, a2, a3, b0, b1, b2, b3, z] := by
    match cs, hl with
    | [a0, a1, a2, a3, b0, b1, b2, b3, z], _ => exact ⟨a0, a1, a2, a3, b0, b1, b2, b3, z, rfl⟩
  rw [c0, o0] at g0
  rw [c1, o1] at g1
  rw [c2, o2] at g2
  obtain ⟨x, hx4, ex⟩ := words_trod h0 hq hcq (c0 := a0) (c1 := a1) (c2 := a2) (c3 := a3) (by simpa using g0)
  obtain ⟨y, hy4, ey⟩ := words_trod h1 hq hcq (c0 := b0') (c1 := b1) (c2 := b2) (c3 := b3) (by simpa using g1)
  obtain ⟨i, ei⟩ : ∃ i, z = .bool i := by
    have g2' : DataW.trod enc P W 0 (fun _ => true) true m f2.type [z] = some y2 := by simpa using g2
    obtain ⟨b, e, _⟩ := DataW.trod_bool h2 g2'
    simp only [List.cons.injEq, and_true] at e
    exact ⟨b, e⟩
  subst ei
  refine ⟨⟨x, y, i⟩, ⟨hx4, hy4⟩, ?_⟩
  unfold Pr.cells
  rw [← ex, ← ey]
  rfl
instance : Inhabited Pr := ⟨⟨0, 0, false⟩⟩
instance : Inhabited Trm := ⟨⟨0, 0, 0, false⟩⟩
theorem K4_pos : 0 < K4 := by decide
set_option maxRecDepth 100000 in
theorem open_points {H : Type} {enc : TypeId × Value → H} {W : World} {r : Reach} {b0 : Nat} {v : Value} {d : DataW H} {ps : List MemPlace}
    (hval : Value.okWide Try.prog W r b0 32 v) (h : DataW.Trod enc Try.prog W 0 (fun _ => true) true 32 v d ps) :
    ∃ (A : Option Addr) (m c : Nat) (T : Nat → Pr), v = .slice A m c ∧ m ≤ c ∧ (∀ j, (T j).ok) ∧ PSrc W A m T ∧ (m = 0 ∨ ∃ elems spare, d = .slice elems spare ∧ elems.length = m) :=
  open_list Pr.cells Pr.ok 9 (by decide) (fun _ => rfl) ⟨K4_pos, K4_pos⟩ Try.underlying32 (by kernel_rfl)
    (pt_trod Try.underlying27 Try.underlying25 Try.underlying25 Try.underlying4 Try.underlying22 (by kernel_rfl) (by kernel_rfl) (by kernel_rfl) (by kernel_rfl) rfl rfl rfl) hval h
set_option maxRecDepth 100000 in
theorem pt_trod' {H : Type} {enc : TypeId × Value → H} {W : World} (fuel : Nat) (cs : List Value) (x : DataW H × List MemPlace) (hl : cs.length = 9) (hf : DataW.trod enc Try.prog W 0 (fun _ => true) true fuel 27 cs = some x) : ∃ y : Pr, y.ok ∧ cs = y.cells :=
  pt_trod Try.underlying27 Try.underlying25 Try.underlying25 Try.underlying4 Try.underlying22 (by kernel_rfl) (by kernel_rfl) (by kernel_rfl) (by kernel_rfl) rfl rfl rfl fuel cs x hl hf
theorem tr_trod {H : Type} {enc : TypeId × Value → H} {P : Program} {W : World} {t q : TypeId} {f0 f1 : Field} (ht : P.underlying t = some (.struct #[f0, f1])) (h0 : P.underlying f0.type = some (.array 4 q)) (hq : P.underlying q = some (.int .u64)) (hcq : P.cellsOf q = 1) (c0 : P.cellsOf f0.type = 4) (c1 : P.cellsOf f1.type = 9) (o0 : f0.offset = 0) (o1 : f1.offset = 4)
    (h1 : ∀ (fuel : Nat) (cs : List Value) (x : DataW H × List MemPlace), cs.length = 9 → DataW.trod enc P W 0 (fun _ => true) true fuel f1.type cs = some x → ∃ y : Pr, y.ok ∧ cs = y.cells)
    (fuel : Nat) (cs : List Value) (x : DataW H × List MemPlace) (hl : cs.length = 13) (hf : DataW.trod enc P W 0 (fun _ => true) true fuel t cs = some x) : ∃ y : Trm, y.ok ∧ cs = y.cells := by
  obtain ⟨y0, y1, m, hx, _, g0, g1⟩ := trod_struct2 ht hf
  rw [c0, o0, List.drop_zero] at g0
  rw [c1, o1] at g1
  obtain ⟨y, ⟨hy1, hy2⟩, ey⟩ := h1 _ _ _ (by rw [List.length_take, List.length_drop, hl]; rfl) g1
  have e0 : ∃ a0 a1 a2 a3 r, cs = a0 :: a1 :: a2 :: a3 :: r ∧ r.length = 9 := by
    match cs, hl with
    | a0 :: a1 :: a2 :: a3 :: r, h => exact ⟨a0, a1, a2, a3, r, rfl, by simpa using h⟩
  obtain ⟨a0, a1, a2, a3, r, rfl, hr⟩ := e0
  obtain ⟨k, hk, ek⟩ := words_trod h0 hq hcq (c0 := a0) (c1 := a1) (c2 := a2) (c3 := a3) (by simpa using g0)
  have er : r = y.cells := by
    rw [← ey]
    show r = r.take 9
    rw [List.take_of_length_le (by omega)]
  refine ⟨⟨k, y.x, y.y, y.i⟩, ⟨hk, hy1, hy2⟩, ?_⟩
  show a0 :: a1 :: a2 :: a3 :: r = fws k ++ y.cells
  rw [← ek, er]
  rfl
set_option maxRecDepth 100000 in
theorem open_terms {H : Type} {enc : TypeId × Value → H} {W : World} {r : Reach} {b0 : Nat} {v : Value} {d : DataW H} {ps : List MemPlace}
    (hval : Value.okWide Try.prog W r b0 33 v) (h : DataW.Trod enc Try.prog W 0 (fun _ => true) true 33 v d ps) :
    ∃ (A : Option Addr) (m c b o : Nat) (T : Nat → Trm), v = .slice A m c ∧ m ≤ c ∧ (∀ j, (T j).ok) ∧ TSrc W A m T b o ∧ (m = 0 ∨ ∃ elems spare, d = .slice elems spare ∧ elems.length = m) := by
  obtain ⟨A, m, c, T, hv, hc, hT, hs, hd⟩ := open_list Trm.cells Trm.ok 13 (by decide) (fun _ => rfl) ⟨K4_pos, K4_pos, K4_pos⟩ Try.underlying33 (by kernel_rfl)
    (tr_trod Try.underlying53 Try.underlying24 Try.underlying22 (by kernel_rfl) (by kernel_rfl) (by kernel_rfl) rfl rfl pt_trod') hval h
  by_cases hm : 0 < m
  · obtain ⟨b, o, hA, hb, hr⟩ := hs hm
    exact ⟨A, m, c, b, o, T, hv, hc, hT, fun _ => ⟨hA, hb, hr⟩, hd⟩
  · exact ⟨A, m, c, 0, 0, T, hv, hc, hT, fun h => absurd h hm, hd⟩
end Go.Proofs.Ytneeefinaejgcaa.Cu

end
section
namespace Go.Proofs.Ytneeefinaejgcaa.Cu
open Go.RowKit Go.Proofs.Ytneeefinaejgcaa Go.Proofs.Ytneeefinaejgcaa.Sy

theorem PSrc.below {w w' : World} {A : Option Addr} {m : Nat} {T : Nat → Pr} (h : PSrc w A m T) (hb : Below w.heap.size w w') : PSrc w' A m T := fun hm => by
  obtain ⟨b, o, hA, hl, hT⟩ := h hm
  exact ⟨b, o, hA, Nat.lt_of_lt_of_le hl hb.size, fun j hj => rangeB (hT j hj) hb hl⟩
theorem TSrc.below {w w' : World} {A : Option Addr} {m : Nat} {T : Nat → Trm} {b o : Nat} (h : TSrc w A m T b o) (hb : Below w.heap.size w w') : TSrc w' A m T b o := fun hm => by
  obtain ⟨hA, hl, hT⟩ := h hm
  exact ⟨hA, Nat.lt_of_lt_of_le hl hb.size, fun j hj => rangeB (hT j hj) hb hl⟩
set_option maxHeartbeats 1000000 in
set_option maxRecDepth 100000 in
theorem values_any (w : World) (A : Option Addr) (m cap : Nat) :
    Calls Try.prog 12 #[.slice A m cap] w (GetsN w fun v M => ∃ g1, v = .func (.func 42) #[] #[.pointer (some ⟨g1, 0, none⟩)] ∧ M = [(g1, 32, #[.slice A m cap])]) := by
  go_enter Try.func12, Try.ntmps12
  go_wp2
  go_ret
  refine ⟨_, _, rfl, ⟨_, rfl, rfl⟩, (Below.refl _ _).alloc (Nat.le_refl _) _, fun g t cs hm => ?_, by simp⟩
  simp only [List.mem_singleton, Prod.mk.injEq] at hm
  obtain ⟨rfl, rfl, rfl⟩ := hm
  exact ⟨Nat.le_refl _, Blk.new w _ _⟩
set_option maxHeartbeats 1000000 in
set_option maxRecDepth 100000 in
theorem law_sums (w : World) (A : Option Addr) (m c : Nat) (T : Nat → Pr) (A2 : Option Addr) (m2 c2 b2 o2 : Nat) (U : Nat → Trm) (hm : m ≤ 4611686018427387904) (hT : ∀ j, (T j).ok) (hs : PSrc w A m T) (hm2 : m2 ≤ 4611686018427387904) (hmc : m2 ≤ c2) (hU : ∀ j, (U j).ok) (hs2 : TSrc w A2 m2 U b2 o2) : Calls Try.prog 4 #[.slice A m c, .slice A2 m2 c2] w (Gets w (.bool true)) := by
  have sp1 := lt4 (0 : Fp)
  have x1 := pX_lt (sumP T (List.range m))
  have x2 := pY_lt (sumP T (List.range m))
  have x3 := pX_lt (sumT U (List.range m2))
  have x4 := pY_lt (sumT U (List.range m2))
  refine Sy.enter (args := [.slice A m c, .slice A2 m2 c2]) Try.func4 rfl (Nat.le_of_ble_eq_true (by kernel_rfl)) ?_
  refine Sy.seq ?_
  refine Sy.region ?_
  refine Sy.step (by kernel_rfl) (.bool false) (Quiet.pure (fun _ => by kernel_rfl)) ?_
  refine Sy.nil ?_
  refine Sy.then_ ?_
  refine Sy.seq ?_
  refine Sy.region ?_
  refine Sy.step (by kernel_rfl) (.bool true) (Quiet.call 8 #[] (fun _ => by kernel_rfl) (alive5)) ?_
  refine Sy.step (by kernel_rfl) (.bool true) (Quiet.pure (fun _ => by kernel_rfl)) ?_
  refine Sy.step (by kernel_rfl) (.slice A m c) (Quiet.pure (fun _ => by kernel_rfl)) ?_
  refine Sy.callN (by kernel_rfl) 12 #[.slice A m c] (fun _ => by kernel_rfl) (fun v M => ∃ g1, v = .func (.func 42) #[] #[.pointer (some ⟨g1, 0, none⟩)] ∧ M = [(g1, 32, #[.slice A m c])]) (fun w _ => values_any w _ _ _) (fun v M hR0 => ?_)
  obtain ⟨u1, rfl, rfl⟩ := hR0
  refine Sy.step (by kernel_rfl) (pv (pX (sumP T (List.range m))) (pY (sumP T (List.range m))) (pI (sumP T (List.range m)))) (Quiet.callS 11 #[.func (.func 42) #[] #[.pointer (some ⟨u1, 0, none⟩)]] (fun _ => by kernel_rfl) (fun w hw => by rw [← ptv_parts]; exact sum_any w u1 m c A T hm hT (PSrc.below hs hw.below) (hw.get (i := 0) rfl))) ?_
  refine Sy.step (by kernel_rfl) (.slice A m c) (Quiet.pure (fun _ => by kernel_rfl)) ?_
  refine Sy.step (by kernel_rfl) (pv (pX (sumP T (List.range m))) (pY (sumP T (List.range m))) (pI (sumP T (List.range m)))) (Quiet.callS 13 #[.slice A m c] (fun _ => by kernel_rfl) (fun w hw => by rw [← ptv_parts]; exact sumR_any w m c A T hm hT (PSrc.below hs hw.below))) ?_
  refine Sy.step (by kernel_rfl) (.bool true) (Quiet.pure (fun w => eql_pt_same w _ _ _ _ _ _ _ rfl rfl rfl (by first | assumption | exact lt4 _ | decide +kernel) (by first | assumption | exact lt4 _ | decide +kernel))) ?_
  refine Sy.step (by kernel_rfl) (.bool true) (Quiet.pure (fun _ => by kernel_rfl)) ?_
  refine Sy.step (by kernel_rfl) (.bool true) (Quiet.pure (fun _ => by kernel_rfl)) ?_
  refine Sy.step (by kernel_rfl) (.slice A2 m2 c2) (Quiet.pure (fun _ => by kernel_rfl)) ?_
  refine Sy.step (by kernel_rfl) (pv (pX (sumT U (List.range m2))) (pY (sumT U (List.range m2))) (pI (sumT U (List.range m2)))) (Quiet.callS 14 #[.slice A2 m2 c2] (fun _ => by kernel_rfl) (fun w hw => by rw [← ptv_parts]; exact multi_any w A2 b2 o2 m2 c2 U hmc hm2 hU (TSrc.below hs2 hw.below))) ?_
  refine Sy.step (by kernel_rfl) (.slice A2 m2 c2) (Quiet.pure (fun _ => by kernel_rfl)) ?_
  refine Sy.step (by kernel_rfl) (pv (pX (sumT U (List.range m2))) (pY (sumT U (List.range m2))) (pI (sumT U (List.range m2)))) (Quiet.callS 15 #[.slice A2 m2 c2] (fun _ => by kernel_rfl) (fun w hw => by rw [← ptv_parts]; exact multiR_any w m2 c2 b2 o2 A2 U hm2 hU (TSrc.below hs2 hw.below))) ?_
  refine Sy.step (by kernel_rfl) (.bool true) (Quiet.pure (fun w => eql_pt_same w _ _ _ _ _ _ _ rfl rfl rfl (by first | assumption | exact lt4 _ | decide +kernel) (by first | assumption | exact lt4 _ | decide +kernel))) ?_
  refine Sy.step (by kernel_rfl) (.bool true) (Quiet.pure (fun _ => by kernel_rfl)) ?_
  refine Sy.step (by kernel_rfl) (.bool true) (Quiet.pure (fun _ => by kernel_rfl)) ?_
  refine Sy.nil ?_
  refine Sy.then_ ?_
  refine Sy.ret ?_
  exact Sy.ret1 (v := .bool true) rfl (.inl (show _ = _ by kernel_rfl))
end Go.Proofs.Ytneeefinaejgcaa.Cu

end
