/-
  Texts of ours, put together: CrvC, CurveAlive, FeB32, FeRead, RefSqrt, RootNum, CrvD, CrvF, CrvG, CrvH, CurveBackL, SymT, SymQ, SymW, SymU, WirA, WirB.
-/
import Derived.Test.YtgemfpnlnipfnaaGreatWO3
set_option linter.unusedVariables false
set_option linter.unusedSimpArgs false
section
namespace Go.Proofs.YtgemfpnlnipfnaaGreat.Cu
open Go.RowKit Go.Proofs.YtgemfpnlnipfnaaGreat Go.Proofs.YtgemfpnlnipfnaaGreat.Sy
set_option maxRecDepth 100000
set_option maxHeartbeats 4000000

def modcs : Array Value := #[.int .u64 18446744069414583343, .int .u64 18446744073709551615, .int .u64 18446744073709551615, .int .u64 18446744073709551615, .int .u64 4294968273, .int .u64 0, .int .u64 0]
def mod0 : Array Value := #[.int .u64 0, .int .u64 0, .int .u64 0, .int .u64 0, .int .u64 0, .int .u64 0, .int .u64 0]
theorem refmul_c (w : World) (a b : Fp) : Calls Tryz.prog 287 #[.agg modcs, fv a.val, fv b.val] w (Gets w (fv (a * b).val)) := mulR_any w a.val b.val (lt4 a) (lt4 b)
theorem refadd_c (w : World) (a b : Fp) : Calls Tryz.prog 305 #[.agg modcs, fv a.val, fv b.val] w (Gets w (fv (a + b).val)) := addR_any w a.val b.val (lt4 a) (lt4 b)
theorem refneg_c (w : World) (a : Fp) : Calls Tryz.prog 292 #[.agg modcs, fv a.val] w (Gets w (fv (-a).val)) := by rw [← val_neg]; exact negR_any w a.val (lt4 a)
theorem eql_num (w : World) (F : Slots) (o : Oper) (x y : Operand) (n m : Nat) {yt : TypeId} (ho : o.op = .binOp .eql 374 x y yt) (hx : evF F x = fv n) (hy : evF F y = fv m) (hn : n < K4) (hm : m < K4) : (execOp (evF F) o).run Tryz.prog w = .ok (.value (.bool (decide (n = m)))) w := by
  have h1 := Nm.run_eqGuard_fv .eql x y n m w
  have h2 := Nm.run_eql_fv w n m hn hm
  unfold execOp
  simp only [ho, hx, hy, Sem.run_bind, h1, h2, Result.andThen_ok, Sem.run_pure]
theorem small_c (w : World) (k : Nat) (hk : k < 18446744073709551616) : Calls Tryz.prog 289 #[.int .u64 (k : Int)] w (Gets w (fv k)) := by
  rw [fv_small k hk]
  refine Sy.enter (args := [.int .u64 (k : Int)]) Tryz.func289 rfl kL ?_
  refine sC ?_
  refine sM 374 (fcs 0) (fun g0 => ?_)
  refine sA ?_
  refine sP (.int .u64 (k : Int)) <| sP (.agg #[.int .u64 (k : Int), .int .u64 0, .int .u64 0, .int .u64 0]) <| sW 0 g0 374 (fcs 0) #[.int .u64 (k : Int), .int .u64 0, .int .u64 0, .int .u64 0] (wS 0 374 #[.int .u64 (k : Int), .int .u64 0, .int .u64 0, .int .u64 0] rfl) ?_
  refine sG ?_
  refine Sy.ret ?_
  exact Sy.ret1 rfl (.inl (Res.cell (ty' := 374) g0 0 #[.int .u64 (k : Int), .int .u64 0, .int .u64 0, .int .u64 0] _ kR kR Tryz.underlying374 rfl kR kR))
theorem mulR_c (w : World) (a b : Fp) : Calls Tryz.prog 260 #[fv a.val, fv b.val] w (Gets w (fv (a * b).val)) := by
  refine Sy.enter (args := [fv a.val, fv b.val]) Tryz.func260 rfl kL ?_
  refine sC ?_
  refine sM 374 (fcs a.val) (fun g0 => ?_)
  refine sM 374 (fcs b.val) (fun g1 => ?_)
  refine sM 374 (fcs 0) (fun g2 => ?_)
  refine sH (fun j => j == 4) ?_
  refine sD 0 rfl (.agg modcs) (qF 259 #[] (refP_any)) <| sD 1 rfl (fv a.val) (qL 0 g0 0 4 374 374 (fcs a.val) rfl Tryz.underlying374) <| sD 2 rfl (fv b.val) (qL 1 g1 0 4 374 374 (fcs b.val) rfl Tryz.underlying374) ?_
  obtain ⟨z1, hz1⟩ : ∃ z : Fp, z = a * b := ⟨_, rfl⟩
  refine sD 3 rfl (fv z1.val) (qF 287 #[.agg modcs, fv a.val, fv b.val] (fun w => by rw [hz1]; exact refmul_c w a b)) <| sX 4 rfl 2 g2 374 (fcs 0) (fcs z1.val) (wS 0 374 (fcs z1.val) rfl) ?_
  refine sI ?_
  refine Sy.ret ?_
  rw [show (fv (a * b).val : Value) = fv z1.val from by rw [hz1]]
  exact rC (v := fv z1.val) 374 g2 2 (fcs z1.val) rfl Tryz.underlying374
theorem addR_c (w : World) (a b : Fp) : Calls Tryz.prog 288 #[fv a.val, fv b.val] w (Gets w (fv (a + b).val)) := by
  refine Sy.enter (args := [fv a.val, fv b.val]) Tryz.func288 rfl kL ?_
  refine sC ?_
  refine sM 374 (fcs a.val) (fun g0 => ?_)
  refine sM 374 (fcs b.val) (fun g1 => ?_)
  refine sM 374 (fcs 0) (fun g2 => ?_)
  refine sH (fun j => j == 4) ?_
  refine sD 0 rfl (.agg modcs) (qF 259 #[] (refP_any)) <| sD 1 rfl (fv a.val) (qL 0 g0 0 4 374 374 (fcs a.val) rfl Tryz.underlying374) <| sD 2 rfl (fv b.val) (qL 1 g1 0 4 374 374 (fcs b.val) rfl Tryz.underlying374) ?_
  obtain ⟨z1, hz1⟩ : ∃ z : Fp, z = a + b := ⟨_, rfl⟩
  refine sD 3 rfl (fv z1.val) (qF 305 #[.agg modcs, fv a.val, fv b.val] (fun w => by rw [hz1]; exact refadd_c w a b)) <| sX 4 rfl 2 g2 374 (fcs 0) (fcs z1.val) (wS 0 374 (fcs z1.val) rfl) ?_
  refine sI ?_
  refine Sy.ret ?_
  rw [show (fv (a + b).val : Value) = fv z1.val from by rw [hz1]]
  exact rC (v := fv z1.val) 374 g2 2 (fcs z1.val) rfl Tryz.underlying374
theorem zeroR_c (w : World)  : Calls Tryz.prog 258 #[] w (Gets w (pv 0 0 true)) := by
  refine Sy.enter (args := []) Tryz.func258 rfl kL ?_
  refine sC ?_
  refine sM 58 (pcs 0 0 false) (fun g0 => ?_)
  refine sA ?_
  refine sP (pv 0 0 true) <| sW 0 g0 58 (pcs 0 0 false) (pcs 0 0 true) (wS 0 58 (pcs 0 0 true) rfl) ?_
  refine sG ?_
  refine Sy.ret ?_
  exact rC (v := pv 0 0 true) 58 g0 0 (pcs 0 0 true) rfl Tryz.underlying58
theorem cubeR_c (w : World) (x : Fp) : Calls Tryz.prog 261 #[fv x.val] w (Gets w (fv (x * x * x + 7).val)) := by
  refine Sy.enter (args := [fv x.val]) Tryz.func261 rfl kL ?_
  refine sC ?_
  refine sM 374 (fcs x.val) (fun g0 => ?_)
  refine sM 374 (fcs 0) (fun g1 => ?_)
  refine sH (fun j => j == 7) ?_
  refine sD 0 rfl (fv x.val) (qL 0 g0 0 4 374 374 (fcs x.val) rfl Tryz.underlying374) <| sD 1 rfl (fv x.val) (qL 0 g0 0 4 374 374 (fcs x.val) rfl Tryz.underlying374) <| sD 2 rfl (fv x.val) (qL 0 g0 0 4 374 374 (fcs x.val) rfl Tryz.underlying374) ?_
  obtain ⟨z1, hz1⟩ : ∃ z : Fp, z = x * x := ⟨_, rfl⟩
  refine sD 3 rfl (fv z1.val) (qF 260 #[fv x.val, fv x.val] (fun w => by rw [hz1]; exact mulR_c w x x)) ?_
  obtain ⟨z2, hz2⟩ : ∃ z : Fp, z = x * z1 := ⟨_, rfl⟩
  refine sD 4 rfl (fv z2.val) (qF 260 #[fv x.val, fv z1.val] (fun w => by rw [hz2]; exact mulR_c w x z1)) ?_
  obtain ⟨z3, hz3⟩ : ∃ z : Fp, z = (7 : Fp) := ⟨_, rfl⟩
  refine sD 5 rfl (fv z3.val) (qF 289 #[.int .u64 7] (fun w => by rw [hz3]; exact small_c w 7 (by decide))) ?_
  obtain ⟨z4, hz4⟩ : ∃ z : Fp, z = z2 + z3 := ⟨_, rfl⟩
  refine sD 6 rfl (fv z4.val) (qF 288 #[fv z2.val, fv z3.val] (fun w => by rw [hz4]; exact addR_c w z2 z3)) <| sX 7 rfl 1 g1 374 (fcs 0) (fcs z4.val) (wS 0 374 (fcs z4.val) rfl) ?_
  refine sI ?_
  refine Sy.ret ?_
  rw [show (fv (x * x * x + 7).val : Value) = fv z4.val from by
    refine congrArg (fun t : Fp => fv t.val) ?_
    grobner]
  exact rC (v := fv z4.val) 374 g1 1 (fcs z4.val) rfl Tryz.underlying374
theorem pointR_c (w : World) (x y : Nat) (hx : x < K4) (hy : y < K4) : Calls Tryz.prog 291 #[fv x, fv y] w (Gets w (pv x y false)) := by
  refine Sy.enter (args := [fv x, fv y]) Tryz.func291 rfl kL ?_
  refine sC ?_
  refine sM 374 (fcs x) (fun g0 => ?_)
  refine sM 374 (fcs y) (fun g1 => ?_)
  refine sM 58 (pcs 0 0 false) (fun g2 => ?_)
  refine sH (fun j => j == 5) ?_
  refine sD 0 rfl (fv x) (qL 0 g0 0 4 374 374 (fcs x) rfl Tryz.underlying374) <| sD 1 rfl (fv x) (qF 308 #[fv x] (fun w => refFe_any w x lK)) <| sD 2 rfl (fv y) (qL 1 g1 0 4 374 374 (fcs y) rfl Tryz.underlying374) <| sD 3 rfl (fv y) (qF 308 #[fv y] (fun w => refFe_any w y lK)) <| sZ 4 rfl (pv x y false) <| sX 5 rfl 2 g2 58 (pcs 0 0 false) (pcs x y false) (wS 0 58 (pcs x y false) rfl) ?_
  refine sI ?_
  refine Sy.ret ?_
  exact rC (v := pv x y false) 58 g2 2 (pcs x y false) rfl Tryz.underlying58
theorem rightR_b (w : World) (x y : Nat) (i : Bool) (hx : x < K4) (hy : y < K4) : Calls Tryz.prog 221 #[pv x y i] w (Gets w (.bool (rightB x y i))) := by
  refine Sy.enter (args := [pv x y i]) Tryz.func221 rfl kL ?_
  refine sC ?_
  refine sM 58 (pcs x y i) (fun g0 => ?_)
  refine sP (.bool false) ?_
  refine sG ?_
  refine Sy.seq ?_
  refine sC ?_
  refine sP (.pointer (some ⟨g0, 8, none⟩)) <| sS (.bool i) (qC 0 g0 8 58 4 (pcs x y i) rfl Tryz.underlying4) ?_
  refine sG ?_
  cases i
  · refine sU ?_
    refine Sy.skip ?_
    refine sB ?_
    refine sP (.pointer (some ⟨g0, 0, none⟩)) <| sS (fv x) (qL 0 g0 0 4 58 56 (pcs x y false) rfl Tryz.underlying56) <| sS (fv x) (qF 242 #[fv x] (fun w => refOf_any w x lK)) ?_
    refine sM 374 (fcs 0) (fun g1 => ?_)
    refine sW 1 g1 374 (fcs 0) (fcs x) (wS 0 374 (fcs x) rfl) ?_
    refine sA ?_
    refine sP (.pointer (some ⟨g0, 4, none⟩)) <| sS (fv y) (qL 0 g0 4 4 58 56 (pcs x y false) rfl Tryz.underlying56) <| sS (fv y) (qF 242 #[fv y] (fun w => refOf_any w y lK)) ?_
    refine sM 374 (fcs 0) (fun g2 => ?_)
    refine sW 2 g2 374 (fcs 0) (fcs y) (wS 0 374 (fcs y) rfl) ?_
    refine sA ?_
    refine sS (.agg modcs) (qF 259 #[] (refP_any)) ?_
    refine sM 380 mod0 (fun g3 => ?_)
    refine sW 3 g3 380 mod0 modcs (wS 0 380 modcs rfl) ?_
    refine sA ?_
    refine sS (.agg modcs) (qL 3 g3 0 7 380 380 modcs rfl Tryz.underlying380) <| sS (fv x) (qL 1 g1 0 4 374 374 (fcs x) rfl Tryz.underlying374) ?_
    obtain ⟨b1, hb1⟩ : ∃ z : Bool, z = decide (x < pM) := ⟨_, rfl⟩
    refine sS (.bool b1) (qF 244 #[.agg modcs, fv x] (fun w => by rw [hb1]; exact rightR_any w x lK)) <| sP (.bool b1) ?_
    refine sA ?_
    refine sS (.agg modcs) (qL 3 g3 0 7 380 380 modcs rfl Tryz.underlying380) <| sS (fv y) (qL 2 g2 0 4 374 374 (fcs y) rfl Tryz.underlying374) ?_
    obtain ⟨b2, hb2⟩ : ∃ z : Bool, z = decide (y < pM) := ⟨_, rfl⟩
    refine sS (.bool b2) (qF 244 #[.agg modcs, fv y] (fun w => by rw [hb2]; exact rightR_any w y lK)) <| sP (.bool b2) ?_
    refine sH (fun j => false) ?_
    refine sZ 0 rfl (.bool b1) <| sZ 1 rfl (.bool b1) ?_
    cases b1
    · refine sQ 2 rfl <| sZ 3 rfl (.bool false) <| sZ 4 rfl (.bool false) <| sQ 5 rfl <| sQ 6 rfl <| sQ 7 rfl <| sQ 8 rfl <| sQ 9 rfl ?_
      refine sQ 10 rfl <| sZ 11 rfl (.bool false) <| sZ 12 rfl (.bool false) ?_
      refine sI ?_
      refine Sy.ret ?_
      rw [show (.bool (rightB x y false) : Value) = .bool false from by rw [rb_x (of_decide_eq_false hb1.symm)]]
      exact rV (.bool false) rfl
    · obtain ⟨ux, rfl⟩ : ∃ u : Fp, x = u.val := ⟨⟨x, of_decide_eq_true hb1.symm⟩, rfl⟩
      refine sZ 2 rfl (.bool b2) <| sZ 3 rfl (.bool b2) <| sZ 4 rfl (.bool b2) ?_
      cases b2
      · refine sQ 5 rfl <| sQ 6 rfl <| sQ 7 rfl <| sQ 8 rfl <| sQ 9 rfl <| sQ 10 rfl <| sZ 11 rfl (.bool false) <| sZ 12 rfl (.bool false) ?_
        refine sI ?_
        refine Sy.ret ?_
        rw [show (.bool (rightB ux.val y false) : Value) = .bool false from by rw [rb_y (of_decide_eq_false hb2.symm)]]
        exact rV (.bool false) rfl
      · obtain ⟨uy, rfl⟩ : ∃ u : Fp, y = u.val := ⟨⟨y, of_decide_eq_true hb2.symm⟩, rfl⟩
        refine sD 5 rfl (fv uy.val) (qL 2 g2 0 4 374 374 (fcs uy.val) rfl Tryz.underlying374) <| sD 6 rfl (fv uy.val) (qL 2 g2 0 4 374 374 (fcs uy.val) rfl Tryz.underlying374) ?_
        obtain ⟨z1, hz1⟩ : ∃ z : Fp, z = uy * uy := ⟨_, rfl⟩
        refine sD 7 rfl (fv z1.val) (qF 260 #[fv uy.val, fv uy.val] (fun w => by rw [hz1]; exact mulR_c w uy uy)) <| sD 8 rfl (fv ux.val) (qL 1 g1 0 4 374 374 (fcs ux.val) rfl Tryz.underlying374) ?_
        obtain ⟨z2, hz2⟩ : ∃ z : Fp, z = ux * ux * ux + 7 := ⟨_, rfl⟩
        refine sD 9 rfl (fv z2.val) (qF 261 #[fv ux.val] (fun w => by rw [hz2]; exact cubeR_c w ux)) ?_
        obtain ⟨b3, hb3⟩ : ∃ z : Bool, z = decide (z1.val = z2.val) := ⟨_, rfl⟩
        refine sD 10 rfl (.bool b3) (Quiet.pure (fun w => by rw [hb3]; exact eql_num w _ _ _ _ _ _ rfl rfl rfl lK lK)) <| sZ 11 rfl (.bool b3) <| sZ 12 rfl (.bool b3) ?_
        refine sI ?_
        refine Sy.ret ?_
        rw [show (.bool (rightB ux.val uy.val false) : Value) = .bool b3 from by rw [hb3, rb_xy]; simp only [hz2, hz1]]
        exact rV (.bool b3) rfl
  · refine sT ?_
    refine Sy.seq ?_
    refine Sy.regionD (fun j => false) kR ?_
    refine sD 0 rfl (pv x y true) (qL 0 g0 0 9 58 58 (pcs x y true) rfl Tryz.underlying58) <| sD 1 rfl (pv 0 0 true) (qF 258 #[] (zeroR_c)) ?_
    obtain ⟨b4, hb4⟩ : ∃ z : Bool, z = sameB x y true 0 0 true := ⟨_, rfl⟩
    refine sD 2 rfl (.bool b4) (Quiet.pure (fun w => by rw [hb4]; exact eql_pt w _ _ _ _ _ _ _ _ _ _ rfl rfl rfl lK lK lK lK)) <| sZ 3 rfl (.bool b4) ?_
    refine sI ?_
    refine Sy.ret ?_
    refine Sy.then_ret ?_
    rw [show (.bool (rightB x y true) : Value) = .bool b4 from by rw [hb4, rightB_inf]]
    exact rV (.bool b4) rfl
theorem taken_c (w : World) (x y : Nat) (i : Bool) (hx : x < K4) (hy : y < K4) : Calls Tryz.prog 262 #[pv x y i] w (Gets w (ptv (dec x y i))) := by
  refine Sy.enter (args := [pv x y i]) Tryz.func262 rfl kL ?_
  refine sC ?_
  refine sM 58 (pcs x y i) (fun g0 => ?_)
  refine sM 58 (pcs 0 0 false) (fun g1 => ?_)
  refine sA ?_
  refine sS (pv x y i) (qL 0 g0 0 9 58 58 (pcs x y i) rfl Tryz.underlying58) ?_
  obtain ⟨b1, hb1⟩ : ∃ z : Bool, z = rightB x y i := ⟨_, rfl⟩
  refine sS (.bool b1) (qF 221 #[pv x y i] (by rw [hb1]; exact fun w => rightR_b w x y i lK lK)) <| sP (.bool b1) ?_
  refine sG ?_
  refine Sy.seq ?_
  refine sC ?_
  refine sP (.bool b1) ?_
  cases b1
  · refine sP (.bool true) ?_
    refine sG ?_
    refine sT ?_
    refine sC ?_
    refine sS (pv 0 0 true) (qF 258 #[] (zeroR_c)) <| sW 1 g1 58 (pcs 0 0 false) (pcs 0 0 true) (wS 0 58 (pcs 0 0 true) rfl) ?_
    refine sG ?_
    refine Sy.ret ?_
    refine Sy.then_ret ?_
    rw [show (ptv (dec x y i) : Value) = pv 0 0 true from ptv_wrong x y i hb1.symm]
    exact rC (v := pv 0 0 true) 58 g1 1 (pcs 0 0 true) rfl Tryz.underlying58
  · refine sP (.bool false) ?_
    refine sG ?_
    refine sU ?_
    refine Sy.skip ?_
    refine sB ?_
    refine sS (pv x y i) (qL 0 g0 0 9 58 58 (pcs x y i) rfl Tryz.underlying58) <| sW 1 g1 58 (pcs 0 0 false) (pcs x y i) (wS 0 58 (pcs x y i) rfl) ?_
    refine sG ?_
    refine Sy.ret ?_
    rw [show (ptv (dec x y i) : Value) = pv x y i from ptv_right x y i hb1.symm]
    exact rC (v := pv x y i) 58 g1 1 (pcs x y i) rfl Tryz.underlying58
theorem negRe_none (w : World) (x y : Nat) (i : Bool) (hx : x < K4) (hy : y < K4) (h : dec x y i = none) : Calls Tryz.prog 264 #[pv x y i] w (Gets w (ptv (Ec.neg none))) := by
  refine Sy.enter (args := [pv x y i]) Tryz.func264 rfl kL ?_
  refine sC ?_
  refine sM 58 (pcs x y i) (fun g0 => ?_)
  refine sM 58 (pcs 0 0 false) (fun g1 => ?_)
  refine sA ?_
  refine sS (pv x y i) (qL 0 g0 0 9 58 58 (pcs x y i) rfl Tryz.underlying58) <| sS (pv 0 0 true) (qF 262 #[pv x y i] (fun w => by have hrr := taken_c w x y i lK lK; rw [h] at hrr; exact hrr)) <| sW 0 g0 58 (pcs x y i) (pcs 0 0 true) (wS 0 58 (pcs 0 0 true) rfl) ?_
  refine sG ?_
  refine Sy.seq ?_
  refine sC ?_
  refine sP (.pointer (some ⟨g0, 8, none⟩)) <| sS (.bool true) (qC 0 g0 8 58 4 (pcs 0 0 true) rfl Tryz.underlying4) ?_
  refine sG ?_
  refine sT ?_
  refine sC ?_
  refine sS (pv 0 0 true) (qL 0 g0 0 9 58 58 (pcs 0 0 true) rfl Tryz.underlying58) <| sW 1 g1 58 (pcs 0 0 false) (pcs 0 0 true) (wS 0 58 (pcs 0 0 true) rfl) ?_
  refine sG ?_
  refine Sy.ret ?_
  refine Sy.then_ret ?_
  rw [show (ptv (Ec.neg none) : Value) = pv 0 0 true from rfl]
  exact rC (v := pv 0 0 true) 58 g1 1 (pcs 0 0 true) rfl Tryz.underlying58
theorem negRe_some (w : World) (x y : Nat) (i : Bool) (hx : x < K4) (hy : y < K4) (u v : Fp) (h : dec x y i = some (u, v)) : Calls Tryz.prog 264 #[pv x y i] w (Gets w (ptv (Ec.neg (some (u, v))))) := by
  refine Sy.enter (args := [pv x y i]) Tryz.func264 rfl kL ?_
  refine sC ?_
  refine sM 58 (pcs x y i) (fun g0 => ?_)
  refine sM 58 (pcs 0 0 false) (fun g1 => ?_)
  refine sA ?_
  refine sS (pv x y i) (qL 0 g0 0 9 58 58 (pcs x y i) rfl Tryz.underlying58) <| sS (pv u.val v.val false) (qF 262 #[pv x y i] (fun w => by have hrr := taken_c w x y i lK lK; rw [h] at hrr; exact hrr)) <| sW 0 g0 58 (pcs x y i) (pcs u.val v.val false) (wS 0 58 (pcs u.val v.val false) rfl) ?_
  refine sG ?_
  refine Sy.seq ?_
  refine sC ?_
  refine sP (.pointer (some ⟨g0, 8, none⟩)) <| sS (.bool false) (qC 0 g0 8 58 4 (pcs u.val v.val false) rfl Tryz.underlying4) ?_
  refine sG ?_
  refine sU ?_
  refine Sy.skip ?_
  refine sR (fun j => j == 9) ?_
  refine sZ 0 rfl (.pointer (some ⟨g0, 0, none⟩)) <| sD 1 rfl (fv u.val) (qL 0 g0 0 4 58 56 (pcs u.val v.val false) rfl Tryz.underlying56) <| sD 2 rfl (fv u.val) (qF 242 #[fv u.val] (fun w => refOf_any w u.val lK)) <| sD 3 rfl (.agg modcs) (qF 259 #[] (refP_any)) <| sZ 4 rfl (.pointer (some ⟨g0, 4, none⟩)) <| sD 5 rfl (fv v.val) (qL 0 g0 4 4 58 56 (pcs u.val v.val false) rfl Tryz.underlying56) <| sD 6 rfl (fv v.val) (qF 242 #[fv v.val] (fun w => refOf_any w v.val lK)) ?_
  obtain ⟨z1, hz1⟩ : ∃ z : Fp, z = -v := ⟨_, rfl⟩
  refine sD 7 rfl (fv z1.val) (qF 292 #[.agg modcs, fv v.val] (fun w => by rw [hz1]; exact refneg_c w v)) <| sD 8 rfl (pv u.val z1.val false) (qF 291 #[fv u.val, fv z1.val] (fun w => pointR_c w u.val z1.val lK lK)) <| sX 9 rfl 1 g1 58 (pcs 0 0 false) (pcs u.val z1.val false) (wS 0 58 (pcs u.val z1.val false) rfl) ?_
  refine sI ?_
  refine Sy.ret ?_
  rw [show (ptv (Ec.neg (some (u, v))) : Value) = pv u.val z1.val false from by rw [hz1]; rfl]
  exact rC (v := pv u.val z1.val false) 58 g1 1 (pcs u.val z1.val false) rfl Tryz.underlying58
theorem negRe_any (w : World) (x y : Nat) (i : Bool) (hx : x < K4) (hy : y < K4) : Calls Tryz.prog 264 #[pv x y i] w (Gets w (ptv (Ec.neg (dec x y i)))) := by
  rcases h : dec x y i with _ | ⟨u, v⟩
  · exact negRe_none w x y i hx hy h
  · exact negRe_some w x y i hx hy u v h
end Go.Proofs.YtgemfpnlnipfnaaGreat.Cu

end
section
namespace Go.Proofs.YtgemfpnlnipfnaaGreat.Cu
open Go.RowKit Go.Proofs.YtgemfpnlnipfnaaGreat Go.Proofs.YtgemfpnlnipfnaaGreat.Sy

end Go.Proofs.YtgemfpnlnipfnaaGreat.Cu

end
section
namespace Go.Proofs.YtgemfpnlnipfnaaGreat
open Go.RowKit Go.Lib

set_option maxHeartbeats 8000000 in
set_option maxRecDepth 100000 in
theorem bytes_any (w : World) (x : Nat) (hx : x < 115792089237316195423570985008687907853269984665640564039457584007913129639936) : Calls Tryz.prog 252 #[fv x] w fun e w' => e = .returned (.agg ((bytesS (x % pM)).map bv).toArray) ∧ Below w.heap.size w w' := by
  obtain ⟨z, hz⟩ : ∃ z, z = x % pM := ⟨_, rfl⟩
  have hzl : z < 115792089237316195423570985008687907853269984665640564039457584007913129639936 := by rw [hz]; exact mod_lt x
  have cn : ∀ w, Calls Tryz.prog 255 #[fv x] w fun e w' => e = .returned (fv z) ∧ Below w.heap.size w w' := by
    intro w; rw [hz]; exact norm_any w x hx
  rw [← hz]
  obtain ⟨z0, z1, z2, z3, a0, a1, a2, a3, ez, fz⟩ := words_of z hzl
  have HZ := Lib.hid (And.intro a0 (And.intro a1 (And.intro a2 (And.intro a3 ez))))
  have FZ := Lib.hid fz
  obtain ⟨x0, x1, x2, x3, fx⟩ := words_fv x hx
  rw [fx] at cn ⊢
  clear fx fz hz hzl a0 a1 a2 a3 ez hx
  have hZB : Hid ((List.replicate 32 (Value.int .u8 0)).toArray = ((partB z 0).map bv).toArray) := Lib.hid (by simp [partB, lowB, bv])
  go_enter Tryz.func252, Tryz.ntmps252
  go_wp2_with fail
  refine (cn _).mono ?_
  rintro e w1 ⟨rfl, hb⟩
  have BR : Blk w1 (w.heap.size + 1) 36 _ := Gr.blk hb (Blk.alloc (blk_new2 w _ _ _) _)
  have BB : Blk w1 (w.heap.size + 2) 36 ((partB z 0).map bv).toArray := Blk.eq_ (Gr.blk hb (blk_new3 w _ _ _ _)) hZB.out
  have hB := Below.gr (below_alloc3 w _ _ _) hb
  have sz := BB.lt
  clear hb cn
  go_wp2_with (first | ((with_reducible refine here_store ?_); refine wpList_store_blk rfl _ _ _ rfl (w1.heap.size) (fcs (z)) rfl rfl _ _ (Blk.new w1 _ _) (by kernel_rfl) (by rfl) (fcs_one _) ?_; intro w2 hL2 hB2 hK2; have CR := hK2 _ (by omega) _ _ (BR.alloc _); have CB := hK2 _ (by omega) _ _ (BB.alloc _); have hC := (hB.alloc (by omega) _).trans (hB2 _ (by omega))))
  go_loopw [8] (fun i wr => ∃ k : Nat, k ≤ 32 ∧ i = .int .i64 (k : Int) ∧ Below w.heap.size w wr ∧ Blk wr (w.heap.size + 2) 36 ((partB z k).map bv).toArray ∧ Blk wr w1.heap.size 56 #[.int .u64 (z0 : Int), .int .u64 (z1 : Int), .int .u64 (z2 : Int), .int .u64 (z3 : Int)] ∧ Blk wr (w.heap.size + 1) 36 (List.replicate 32 (Value.int .u8 0)).toArray) (fun i _ => 32 - (intOf i).toNat)
  case atStart => exact ⟨0, by omega, rfl, hC, CB, hL2.eq_ (fcs_words FZ.out), CR⟩
  case round =>
    obtain ⟨k, hk, rfl, hb, hP, hN, hR⟩ := hrel
    by_cases hlt : k < 32
    · have ce : ∀ j, j < 32 → ∃ v, wr.cell? ⟨w.heap.size + 1 + 1, j, none⟩ = some v := fun j hj => ⟨_, (hP.cell j).trans (Array.getElem?_eq_getElem (by simp [partB_length z k hk]; exact hj))⟩
      obtain ⟨v, hv⟩ := ce (31 - k) (by omega)
      have ff := hP.frozen (31 - k)
      have q0 : wr.cell? ⟨w1.heap.size, 0, none⟩ = some (.int .u64 (z0 : Int)) := hN.cell 0
      have q1 : wr.cell? ⟨w1.heap.size, 1, none⟩ = some (.int .u64 (z1 : Int)) := hN.cell 1
      have q2 : wr.cell? ⟨w1.heap.size, 2, none⟩ = some (.int .u64 (z2 : Int)) := hN.cell 2
      have q3 : wr.cell? ⟨w1.heap.size, 3, none⟩ = some (.int .u64 (z3 : Int)) := hN.cell 3
      have hPn := hP.set_ (31 - k) (bv (byteN z k))
      rw [partB_set z k hlt] at hPn
      have HP := Lib.hid hPn
      clear hPn ce
      have HR := Lib.hid (And.intro hb (And.intro hN hR))
      clear hb hP hN hR hk
      have hsz : w.heap.size + 2 < w1.heap.size := sz
      rcases (show k = 0 ∨ k = 1 ∨ k = 2 ∨ k = 3 ∨ k = 4 ∨ k = 5 ∨ k = 6 ∨ k = 7 ∨ k = 8 ∨ k = 9 ∨ k = 10 ∨ k = 11 ∨ k = 12 ∨ k = 13 ∨ k = 14 ∨ k = 15 ∨ k = 16 ∨ k = 17 ∨ k = 18 ∨ k = 19 ∨ k = 20 ∨ k = 21 ∨ k = 22 ∨ k = 23 ∨ k = 24 ∨ k = 25 ∨ k = 26 ∨ k = 27 ∨ k = 28 ∨ k = 29 ∨ k = 30 ∨ k = 31 by omega) with rfl | rfl | rfl | rfl | rfl | rfl | rfl | rfl | rfl | rfl | rfl | rfl | rfl | rfl | rfl | rfl | rfl | rfl | rfl | rfl | rfl | rfl | rfl | rfl | rfl | rfl | rfl | rfl | rfl | rfl | rfl | rfl
      all_goals
        go_wp2
        obtain ⟨a0, a1, a2, a3, ez⟩ := HZ.out
        refine ⟨⟨_, by decide, rfl, HR.out.1.setCell (by show w.heap.size ≤ w.heap.size + 1 + 1; omega) _, HP.out.val (by rw [bv_byteN]; congr 1; omega), HR.out.2.1.far (by show w1.heap.size ≠ w.heap.size + 1 + 1; omega) _, HR.out.2.2.far (by show w.heap.size + 1 ≠ w.heap.size + 1 + 1; omega) _⟩, by simp [intOf]⟩
    · have p1 : ¬ (k : Int) < 32 := by omega
      obtain rfl : k = 32 := by omega
      rw [partB_full] at hP
      have HI := Lib.hid (bytesS_length z)
      have HL := Lib.hid hP
      have HR := Lib.hid hR
      clear hN hP hR
      go_wp2_with (first | ((with_reducible refine here_load (d := some 24) ?_); refine wpList_load_blk rfl _ _ rfl (w.heap.size + 2) rfl _ _ _ HL.out Tryz.underlying36 rfl (b32_info HI.out) ?_) | ((with_reducible refine here_store ?_); refine wpList_store_blk rfl _ _ _ rfl (w.heap.size + 1) ((bytesS z).map bv).toArray rfl rfl _ _ HR.out (b32_info HI.out) (by simp [HI.out]) (b32_one _) ?_; intro w9 hL9 hB9 hK9))
      exact bodyPost_ret (results_cell_row rfl _ _ (w.heap.size + 1) _ _ (0, 0) _ rfl hL9 Tryz.underlying36 rfl (b32_info HI.out)) rfl ⟨rfl, hb.trans (hB9 _ (by omega))⟩
end Go.Proofs.YtgemfpnlnipfnaaGreat

end
section
namespace Go.Proofs.YtgemfpnlnipfnaaGreat
open Go.RowKit Go.Lib

def readS (l : List UInt8) : Nat × Bool := if valB l < pM then (valB l, true) else (0, false)

set_option maxHeartbeats 8000000 in
set_option maxRecDepth 100000 in
theorem read_any (w : World) (l : List UInt8) (hl : l.length = 32) : Calls Tryz.prog 275 #[.agg (l.map bv).toArray] w fun e w' => e = .returned (.tuple #[fv (readS l).1, .bool (readS l).2]) ∧ Below w.heap.size w w' := by
  have HL := Lib.hid hl
  clear hl
  go_enter Tryz.func275, Tryz.ntmps275
  go_wp2_with (first | ((with_reducible refine here_load (d := some 7) ?_); refine wpList_load_blk rfl _ _ rfl w.heap.size rfl _ _ _ (((Blk.new w _ _).alloc _).alloc _) Tryz.underlying36 rfl (b32_info HL.out) ?_))
  go_loopw [8] (fun i wr => ∃ k y0 y1 y2 y3 : Nat, k ≤ 32 ∧ i = .int .i64 (k : Int) ∧ Hid (y0 = wdB l k 0 ∧ y1 = wdB l k 1 ∧ y2 = wdB l k 2 ∧ y3 = wdB l k 3) ∧ Below w.heap.size w wr ∧ Blk wr (w.heap.size + 2) 56 #[.int .u64 (y3 : Int), .int .u64 (y2 : Int), .int .u64 (y1 : Int), .int .u64 (y0 : Int)] ∧ Blk wr (w.heap.size + 1) 56 #[.int .u64 0, .int .u64 0, .int .u64 0, .int .u64 0]) (fun i _ => 32 - (intOf i).toNat)
  case atStart => exact ⟨0, 0, 0, 0, 0, by omega, rfl, Lib.hid ⟨(wdB_zero l 0).symm, (wdB_zero l 1).symm, (wdB_zero l 2).symm, (wdB_zero l 3).symm⟩, below_alloc3 w _ _ _, blk_new3 w _ _ _ _, (blk_new2 w _ _ _).alloc _⟩
  case round =>
    obtain ⟨k, y0, y1, y2, y3, hk, rfl, HY, hb, hP, hR⟩ := hrel
    have q3 : wr.cell? ⟨w.heap.size + 1 + 1, 0, none⟩ = some (.int .u64 (y3 : Int)) := hP.cell 0
    have q2 : wr.cell? ⟨w.heap.size + 1 + 1, 1, none⟩ = some (.int .u64 (y2 : Int)) := hP.cell 1
    have q1 : wr.cell? ⟨w.heap.size + 1 + 1, 2, none⟩ = some (.int .u64 (y1 : Int)) := hP.cell 2
    have q0 : wr.cell? ⟨w.heap.size + 1 + 1, 3, none⟩ = some (.int .u64 (y0 : Int)) := hP.cell 3
    have ff : ∀ j, wr.frozen? ⟨w.heap.size + 1 + 1, j, none⟩ = false := fun j => hP.frozen j
    by_cases hlt : k < 32
    · obtain ⟨c, hc⟩ : ∃ c, l[k]? = some c := ⟨l[k]'(by rw [HL.out]; exact hlt), List.getElem?_eq_getElem _⟩
      have HC := Lib.hid hc
      obtain ⟨m, hm⟩ : ∃ m, m = c.toNat := ⟨_, rfl⟩
      have hm8 : m < 256 := by rw [hm]; exact c.toNat_lt
      have hI : ∀ W, (Instr.index 36 (.agg (l.map bv).toArray) (.int .i64 (k : Int))).run Tryz.prog W = .ok (.int .u8 (m : Int)) W := fun W => by
        rw [run_index_b32 W l k c hc hlt, hm]; rfl
      have HM := Lib.hid hm
      have HR := Lib.hid (And.intro hb (And.intro hP hR))
      clear hb hP hR hc hk hm
      rcases (show k = 0 ∨ k = 1 ∨ k = 2 ∨ k = 3 ∨ k = 4 ∨ k = 5 ∨ k = 6 ∨ k = 7 ∨ k = 8 ∨ k = 9 ∨ k = 10 ∨ k = 11 ∨ k = 12 ∨ k = 13 ∨ k = 14 ∨ k = 15 ∨ k = 16 ∨ k = 17 ∨ k = 18 ∨ k = 19 ∨ k = 20 ∨ k = 21 ∨ k = 22 ∨ k = 23 ∨ k = 24 ∨ k = 25 ∨ k = 26 ∨ k = 27 ∨ k = 28 ∨ k = 29 ∨ k = 30 ∨ k = 31 by omega) with rfl | rfl | rfl | rfl | rfl | rfl | rfl | rfl | rfl | rfl | rfl | rfl | rfl | rfl | rfl | rfl | rfl | rfl | rfl | rfl | rfl | rfl | rfl | rfl | rfl | rfl | rfl | rfl | rfl | rfl | rfl | rfl
      all_goals
        simp only [Int.cast_ofNat_Int] at hI
      all_goals
        first
        | ((have hy : y0 < 72057594037927936 := by rw [HY.out.1]; exact wdB_lt l _ 0 (by decide)); (have ho := or_add y0 m hy hm8); go_wp2; (refine ⟨⟨_, y0 * 256 + m, y1, y2, y3, by decide, rfl, Lib.hid ⟨by rw [HY.out.1, HM.out]; exact (wdB_step l _ 0 c HC.out (by decide)).symm, by rw [HY.out.2.1]; exact (wdB_same l _ 1 (by decide)).symm, by rw [HY.out.2.2.1]; exact (wdB_same l _ 2 (by decide)).symm, by rw [HY.out.2.2.2]; exact (wdB_same l _ 3 (by decide)).symm⟩, HR.out.1.setCell (by show w.heap.size ≤ w.heap.size + 1 + 1; omega) _, Blk.eq_ (HR.out.2.1.set_ 3 _) (by rw [show ((y0 * 256 + m : Nat) : Int) = (y0 : Int) * 256 + (m : Int) by omega]; rfl), HR.out.2.2.far (by show w.heap.size + 1 ≠ w.heap.size + 1 + 1; omega) _⟩, by simp [intOf]⟩))
        | ((have hy : y1 < 72057594037927936 := by rw [HY.out.2.1]; exact wdB_lt l _ 1 (by decide)); (have ho := or_add y1 m hy hm8); go_wp2; (refine ⟨⟨_, y0, y1 * 256 + m, y2, y3, by decide, rfl, Lib.hid ⟨by rw [HY.out.1]; exact (wdB_same l _ 0 (by decide)).symm, by rw [HY.out.2.1, HM.out]; exact (wdB_step l _ 1 c HC.out (by decide)).symm, by rw [HY.out.2.2.1]; exact (wdB_same l _ 2 (by decide)).symm, by rw [HY.out.2.2.2]; exact (wdB_same l _ 3 (by decide)).symm⟩, HR.out.1.setCell (by show w.heap.size ≤ w.heap.size + 1 + 1; omega) _, Blk.eq_ (HR.out.2.1.set_ 2 _) (by rw [show ((y1 * 256 + m : Nat) : Int) = (y1 : Int) * 256 + (m : Int) by omega]; rfl), HR.out.2.2.far (by show w.heap.size + 1 ≠ w.heap.size + 1 + 1; omega) _⟩, by simp [intOf]⟩))
        | ((have hy : y2 < 72057594037927936 := by rw [HY.out.2.2.1]; exact wdB_lt l _ 2 (by decide)); (have ho := or_add y2 m hy hm8); go_wp2; (refine ⟨⟨_, y0, y1, y2 * 256 + m, y3, by decide, rfl, Lib.hid ⟨by rw [HY.out.1]; exact (wdB_same l _ 0 (by decide)).symm, by rw [HY.out.2.1]; exact (wdB_same l _ 1 (by decide)).symm, by rw [HY.out.2.2.1, HM.out]; exact (wdB_step l _ 2 c HC.out (by decide)).symm, by rw [HY.out.2.2.2]; exact (wdB_same l _ 3 (by decide)).symm⟩, HR.out.1.setCell (by show w.heap.size ≤ w.heap.size + 1 + 1; omega) _, Blk.eq_ (HR.out.2.1.set_ 1 _) (by rw [show ((y2 * 256 + m : Nat) : Int) = (y2 : Int) * 256 + (m : Int) by omega]; rfl), HR.out.2.2.far (by show w.heap.size + 1 ≠ w.heap.size + 1 + 1; omega) _⟩, by simp [intOf]⟩))
        | ((have hy : y3 < 72057594037927936 := by rw [HY.out.2.2.2]; exact wdB_lt l _ 3 (by decide)); (have ho := or_add y3 m hy hm8); go_wp2; (refine ⟨⟨_, y0, y1, y2, y3 * 256 + m, by decide, rfl, Lib.hid ⟨by rw [HY.out.1]; exact (wdB_same l _ 0 (by decide)).symm, by rw [HY.out.2.1]; exact (wdB_same l _ 1 (by decide)).symm, by rw [HY.out.2.2.1]; exact (wdB_same l _ 2 (by decide)).symm, by rw [HY.out.2.2.2, HM.out]; exact (wdB_step l _ 3 c HC.out (by decide)).symm⟩, HR.out.1.setCell (by show w.heap.size ≤ w.heap.size + 1 + 1; omega) _, Blk.eq_ (HR.out.2.1.set_ 0 _) (by rw [show ((y3 * 256 + m : Nat) : Int) = (y3 : Int) * 256 + (m : Int) by omega]; rfl), HR.out.2.2.far (by show w.heap.size + 1 ≠ w.heap.size + 1 + 1; omega) _⟩, by simp [intOf]⟩))
    · have p1 : ¬ (k : Int) < 32 := by omega
      obtain rfl : k = 32 := by omega
      have b0 : y0 < 18446744073709551616 := by rw [HY.out.1]; exact wdB_lt8 l _ _
      have b1 : y1 < 18446744073709551616 := by rw [HY.out.2.1]; exact wdB_lt8 l _ _
      have b2 : y2 < 18446744073709551616 := by rw [HY.out.2.2.1]; exact wdB_lt8 l _ _
      have b3 : y3 < 18446744073709551616 := by rw [HY.out.2.2.2]; exact wdB_lt8 l _ _
      obtain ⟨z, hz⟩ : ∃ z, z = y3 + 18446744073709551616 * y2 + 340282366920938463463374607431768211456 * y1 + 6277101735386680763835789423207666416102355444464034512896 * y0 := ⟨_, rfl⟩
      have fz := fv_mk y3 y2 y1 y0 b3 b2 b1 b0
      rw [← hz] at fz
      have hzl : z < 115792089237316195423570985008687907853269984665640564039457584007913129639936 := by rw [hz]; exact fv_lt y3 y2 y1 y0 b3 b2 b1 b0
      have hzv : z = valB l := by rw [wdB_all l HL.out, hz, HY.out.1, HY.out.2.1, HY.out.2.2.1, HY.out.2.2.2]
      obtain ⟨n, hn⟩ : ∃ n, n = z % pM := ⟨_, rfl⟩
      have hnl : n < 115792089237316195423570985008687907853269984665640564039457584007913129639936 := by rw [hn]; exact mod_lt z
      obtain ⟨b, hbd⟩ : ∃ b, b = decide (n ≠ z) := ⟨_, rfl⟩
      have eb : ∀ W, (binOp .neq 56 (fv n) (fv z)).run Tryz.prog W = .ok (.bool b) W := fun W => by rw [hbd]; exact run_neq_fv W n z hnl hzl
      have cn : ∀ w, Calls Tryz.prog 255 #[fv z] w fun e w' => e = .returned (fv n) ∧ Below w.heap.size w w' := by
        intro w; rw [hn]; exact norm_any w z hzl
      have hS : readS l = if b = true then (0, false) else (z, true) := by
        unfold readS
        rw [← hzv, hbd, hn]
        by_cases h : z < pM
        · rw [if_pos h, Nat.mod_eq_of_lt h]; simp
        · have h2 : z % pM ≠ z := fun e => h (by rw [← e]; exact mod_lt_p z)
          rw [if_neg h]; simp [h2]
      have HS := Lib.hid hS
      have FZ := Lib.hid fz.symm
      have HP := Lib.hid hP
      clear HY b0 b1 b2 b3 hz fz hzl hzv hn hnl hbd hS q0 q1 q2 q3 ff hP
      go_wp2
      refine wp_region_G (fun _ => false) (by kernel_rfl) ?_
      try simp only [Act.put]
      refine wpAnyG_take 0 rfl (by kernel_rfl) (fun _ _ _ h => h) (YieldsG.loadF (by rfl) _ _ rfl (w.heap.size + 2) rfl (z) _ _ (HP.out) (FZ.out) Tryz.underlying56 rfl (by kernel_rfl)) ?_
      try simp only [Act.put, List.setIfInBounds_toArray, List.set_cons_zero, List.set_cons_succ]
      refine wpAnyG_take 1 rfl (by kernel_rfl) (fun _ _ _ h => h) (YieldsG.call (v := fv n) (by rfl) 255 _ (fun w9 => by go_simp; try (first | with_reducible rfl | rfl)) (fun w9 h9 => cn w9)) ?_
      try simp only [Act.put, List.setIfInBounds_toArray, List.set_cons_zero, List.set_cons_succ]
      refine wpAnyG_take 2 rfl (by kernel_rfl) (fun _ _ _ h => h) (YieldsG.loadF (by rfl) _ _ rfl (w.heap.size + 2) rfl (z) _ _ (HP.out) (FZ.out) Tryz.underlying56 rfl (by kernel_rfl)) ?_
      try simp only [Act.put, List.setIfInBounds_toArray, List.set_cons_zero, List.set_cons_succ]
      refine wpAnyG_take 3 rfl (by kernel_rfl) (fun _ _ _ h => h) (YieldsG.pure (v := .bool b) (by rfl) (fun w9 h9 => by go_simp; rw [run_eqGuard_fv]; simp only [Result.andThen_ok, eb])) ?_
      try simp only [Act.put, List.setIfInBounds_toArray, List.set_cons_zero, List.set_cons_succ]
      refine wpAnyG_done (by kernel_rfl) (fun u hu => ?_)
      have hbu := Below.gr hb hu
      have BR := Gr.blk hu hR
      have BP := Gr.blk hu HP.out
      clear hu hb hR HP eb cn
      cases b
      · have HT : Hid (readS l = (z, true)) := Lib.hid (by rw [HS.out]; rfl)
        clear HS
        go_wp2_with (first | ((with_reducible refine here_load (d := some 31) ?_); refine wpList_load_fv rfl _ _ rfl (w.heap.size + 2) rfl (z) _ _ _ (BP) (FZ.out) Tryz.underlying56 rfl (by kernel_rfl) ?_) | ((with_reducible refine here_store ?_); refine wpList_store_blk rfl _ _ _ rfl (w.heap.size + 1) (fcs (z)) rfl rfl _ _ (BR) (by kernel_rfl) (by rfl) (fcs_one _) ?_; intro vz hLz hqz hKz))
        exact bodyPost_ret (res_cell_tmp rfl _ _ (w.heap.size + 1) _ _ _ _ rfl hLz rfl Tryz.underlying56 rfl (by kernel_rfl)) rfl ⟨by rw [HT.out]; rfl, hbu.trans (hqz _ (by omega))⟩
      · have HT : Hid (readS l = (0, false)) := Lib.hid (by rw [HS.out]; rfl)
        clear HS
        go_wp2_with (first | ((with_reducible refine here_store ?_); refine wpList_store_blk rfl _ _ _ rfl (w.heap.size + 1) _ rfl rfl _ _ (BR) (by kernel_rfl) (by rfl) (by simp [Value.oneCell']) ?_; intro vz hLz hqz hKz))
        exact bodyPost_ret (res_cell_tmp rfl _ _ (w.heap.size + 1) _ _ _ _ rfl hLz rfl Tryz.underlying56 rfl (by kernel_rfl)) rfl ⟨by rw [HT.out]; rfl, hbu.trans (hqz _ (by omega))⟩
end Go.Proofs.YtgemfpnlnipfnaaGreat

end
section
namespace Go.Proofs.YtgemfpnlnipfnaaGreat
open Go.RowKit Go.Lib

set_option maxHeartbeats 8000000 in
set_option maxRecDepth 100000 in
theorem addR_at {v1 v2 : Value} (w : World) (x y s k : Nat) (h1 : fv x = v1) (h2 : fv y = v2) (hx : x < 115792089237316195423570985008687907853269984665640564039457584007913129639936) (hy : y < 115792089237316195423570985008687907853269984665640564039457584007913129639936) (hs : s < 115792089237316195423570985008687907853269984665640564039457584007913129639936) (he : s + 115792089237316195423570985008687907853269984665640564039457584007913129639936 * k = x + y) : Calls Tryz.prog 306 #[v1, v2] w fun e w' => e = .returned (fv s) ∧ Below w.heap.size w w' := by
  subst h1 h2
  obtain ⟨x0, x1, x2, x3, a0, a1, a2, a3, ex, fx⟩ := words_of x hx
  obtain ⟨y0, y1, y2, y3, b0, b1, b2, b3, ey, fy⟩ := words_of y hy
  obtain ⟨s0, c0, d0, k0, e0, r0⟩ := add0_ex x0 y0 a0 b0
  obtain ⟨s1, c1, d1, k1, e1, r1⟩ := addc_ex x1 y1 c0 a1 b1 k0
  obtain ⟨s2, c2, d2, k2, e2, r2⟩ := addc_ex x2 y2 c1 a2 b2 k1
  obtain ⟨s3, c3, d3, k3, e3, r3⟩ := addc_ex x3 y3 c2 a3 b3 k2
  have fin : s0 + 18446744073709551616 * s1 + 340282366920938463463374607431768211456 * s2 + 6277101735386680763835789423207666416102355444464034512896 * s3 = s := by omega
  have hfs := fv_mk s0 s1 s2 s3 d0 d1 d2 d3
  rw [fin] at hfs
  have Fd := Lib.hid hfs
  rw [fx, fy]
  clear fx fy ex ey hx hy hs he a0 a1 a2 a3 b0 b1 b2 b3 d0 d1 d2 d3 k0 k1 k2 k3 e0 e1 e2 e3 fin hfs
  go_enter Tryz.func306, Tryz.ntmps306
  go_wp2_with fail
  go_loopw [5, 6] (fun bo i wr => Below w.heap.size w wr ∧ Blk wr (w.heap.size + 1) 374 #[.int .u64 (y0 : Int), .int .u64 (y1 : Int), .int .u64 (y2 : Int), .int .u64 (y3 : Int)] ∧ Blk wr (w.heap.size + 2) 374 #[.int .u64 0, .int .u64 0, .int .u64 0, .int .u64 0] ∧ Hid ((i = .int .i64 0 ∧ bo = .int .u64 0 ∧ Blk wr w.heap.size 374 #[.int .u64 (x0 : Int), .int .u64 (x1 : Int), .int .u64 (x2 : Int), .int .u64 (x3 : Int)]) ∨ (i = .int .i64 1 ∧ bo = .int .u64 (c0 : Int) ∧ Blk wr w.heap.size 374 #[.int .u64 (s0 : Int), .int .u64 (x1 : Int), .int .u64 (x2 : Int), .int .u64 (x3 : Int)]) ∨ (i = .int .i64 2 ∧ bo = .int .u64 (c1 : Int) ∧ Blk wr w.heap.size 374 #[.int .u64 (s0 : Int), .int .u64 (s1 : Int), .int .u64 (x2 : Int), .int .u64 (x3 : Int)]) ∨ (i = .int .i64 3 ∧ bo = .int .u64 (c2 : Int) ∧ Blk wr w.heap.size 374 #[.int .u64 (s0 : Int), .int .u64 (s1 : Int), .int .u64 (s2 : Int), .int .u64 (x3 : Int)]) ∨ (i = .int .i64 4 ∧ bo = .int .u64 (c3 : Int) ∧ Blk wr w.heap.size 374 #[.int .u64 (s0 : Int), .int .u64 (s1 : Int), .int .u64 (s2 : Int), .int .u64 (s3 : Int)]))) (fun _ i _ => 4 - (intOf i).toNat)
  case atStart => exact ⟨below_alloc3 w _ _ _, (blk_new2 w _ _ _).alloc _, blk_new3 w _ _ _ _, Lib.hid (.inl ⟨rfl, rfl, ((Blk.new w _ _).alloc _).alloc _⟩)⟩
  case round =>
    obtain ⟨hb, BY, BR, HI⟩ := hrel
    have lY := BY.lt
    have lX : w.heap.size < wr.heap.size := by omega
    have hsz : w.heap.size + 2 < wr.heap.size := BR.lt
    rcases HI.out with ⟨rfl, rfl, BX⟩ | ⟨rfl, rfl, BX⟩ | ⟨rfl, rfl, BX⟩ | ⟨rfl, rfl, BX⟩ | ⟨rfl, rfl, BX⟩
    · clear HI
      have px : wr.cell? ⟨w.heap.size, 0, none⟩ = some (.int .u64 (x0 : Int)) := BX.cell 0
      have py : wr.cell? ⟨w.heap.size + 1, 0, none⟩ = some (.int .u64 (y0 : Int)) := BY.cell 0
      go_wp2
      refine wp_region_G (fun _ => false) (by kernel_rfl) ?_
      try simp only [Act.put]
      refine wpAnyG_take 0 rfl (by kernel_rfl) (fun _ _ _ h => h) (YieldsG.pure (by rfl) (fun w9 _ => by go_simp; try with_reducible rfl)) ?_
      try simp only [Act.put, List.setIfInBounds_toArray, List.set_cons_zero, List.set_cons_succ]
      refine wpAnyG_take 1 rfl (by kernel_rfl) (fun _ _ _ h => h) (YieldsG.pure (by rfl) (fun w9 _ => by go_simp; try with_reducible rfl)) ?_
      try simp only [Act.put, List.setIfInBounds_toArray, List.set_cons_zero, List.set_cons_succ]
      refine wpAnyG_take 2 rfl (by kernel_rfl) (fun _ _ _ h => h) (YieldsG.pure (v := .int .u64 (x0 : Int)) (by rfl) (fun w9 h9 => by have hz := (Below.cell (p := ⟨w.heap.size, 0, none⟩) h9 lX).trans px; go_simp; first | done | simp [hz])) ?_
      try simp only [Act.put, List.setIfInBounds_toArray, List.set_cons_zero, List.set_cons_succ]
      refine wpAnyG_take 3 rfl (by kernel_rfl) (fun _ _ _ h => h) (YieldsG.pure (by rfl) (fun w9 _ => by go_simp; try with_reducible rfl)) ?_
      try simp only [Act.put, List.setIfInBounds_toArray, List.set_cons_zero, List.set_cons_succ]
      refine wpAnyG_take 4 rfl (by kernel_rfl) (fun _ _ _ h => h) (YieldsG.pure (by rfl) (fun w9 _ => by go_simp; try with_reducible rfl)) ?_
      try simp only [Act.put, List.setIfInBounds_toArray, List.set_cons_zero, List.set_cons_succ]
      refine wpAnyG_take 5 rfl (by kernel_rfl) (fun _ _ _ h => h) (YieldsG.pure (v := .int .u64 (y0 : Int)) (by rfl) (fun w9 h9 => by have hz := (Below.cell (p := ⟨w.heap.size + 1, 0, none⟩) h9 lY).trans py; go_simp; first | done | simp [hz])) ?_
      try simp only [Act.put, List.setIfInBounds_toArray, List.set_cons_zero, List.set_cons_succ]
      refine wpAnyG_take 6 rfl (by kernel_rfl) (fun _ _ _ h => h) (YieldsG.pure (by rfl) (fun w9 _ => by go_simp; try with_reducible rfl)) ?_
      try simp only [Act.put, List.setIfInBounds_toArray, List.set_cons_zero, List.set_cons_succ]
      refine wpAnyG_take 7 rfl (by kernel_rfl) (fun _ _ _ h => h) (YieldsG.pure (v := .tuple #[.int .u64 (s0 : Int), .int .u64 (c0 : Int)]) (by rfl) (fun w9 h9 => by go_simp)) ?_
      try simp only [Act.put, List.setIfInBounds_toArray, List.set_cons_zero, List.set_cons_succ]
      refine wpAnyG_take 8 rfl (by kernel_rfl) (fun _ _ _ h => h) (YieldsG.pure (by rfl) (fun w9 _ => by go_simp; try with_reducible rfl)) ?_
      try simp only [Act.put, List.setIfInBounds_toArray, List.set_cons_zero, List.set_cons_succ]
      refine wpAnyG_take 9 rfl (by kernel_rfl) (fun _ _ _ h => h) (YieldsG.pure (by rfl) (fun w9 _ => by go_simp; try with_reducible rfl)) ?_
      try simp only [Act.put, List.setIfInBounds_toArray, List.set_cons_zero, List.set_cons_succ]
      refine wpAnyG_take 10 rfl (by kernel_rfl) (fun _ _ _ h => h) (YieldsG.pure (by rfl) (fun w9 _ => by go_simp; try with_reducible rfl)) ?_
      try simp only [Act.put, List.setIfInBounds_toArray, List.set_cons_zero, List.set_cons_succ]
      refine wpAnyG_take 11 rfl (by kernel_rfl) (fun _ _ _ h => h) (YieldsG.pure (by rfl) (fun w9 _ => by go_simp; try with_reducible rfl)) ?_
      try simp only [Act.put, List.setIfInBounds_toArray, List.set_cons_zero, List.set_cons_succ]
      refine wpAnyG_take 12 rfl (by kernel_rfl) (fun _ _ _ h => h) (YieldsG.pure (by rfl) (fun w9 _ => by go_simp; try with_reducible rfl)) ?_
      try simp only [Act.put, List.setIfInBounds_toArray, List.set_cons_zero, List.set_cons_succ]
      refine wpAnyG_done (by kernel_rfl) (fun u hu => ?_)
      have BXu := Gr.blk hu BX
      have BYu := Gr.blk hu BY
      have BRu := Gr.blk hu BR
      have hbu := Below.gr hb hu
      have pc : u.cell? ⟨w.heap.size, 0, none⟩ = some (.int .u64 (x0 : Int)) := BXu.cell 0
      have pf := BXu.frozen 0
      go_wp2
      refine ⟨⟨hbu.setCell (Nat.le_refl _) _, BYu.far (by show w.heap.size + 1 ≠ w.heap.size; omega) _, BRu.far (by show w.heap.size + 2 ≠ w.heap.size; omega) _, Lib.hid (.inr (.inl (⟨rfl, rfl, BXu.set_ 0 _⟩)))⟩, by decide⟩
    · clear HI
      have px : wr.cell? ⟨w.heap.size, 1, none⟩ = some (.int .u64 (x1 : Int)) := BX.cell 1
      have py : wr.cell? ⟨w.heap.size + 1, 1, none⟩ = some (.int .u64 (y1 : Int)) := BY.cell 1
      go_wp2
      refine wp_region_G (fun _ => false) (by kernel_rfl) ?_
      try simp only [Act.put]
      refine wpAnyG_take 0 rfl (by kernel_rfl) (fun _ _ _ h => h) (YieldsG.pure (by rfl) (fun w9 _ => by go_simp; try with_reducible rfl)) ?_
      try simp only [Act.put, List.setIfInBounds_toArray, List.set_cons_zero, List.set_cons_succ]
      refine wpAnyG_take 1 rfl (by kernel_rfl) (fun _ _ _ h => h) (YieldsG.pure (by rfl) (fun w9 _ => by go_simp; try with_reducible rfl)) ?_
      try simp only [Act.put, List.setIfInBounds_toArray, List.set_cons_zero, List.set_cons_succ]
      refine wpAnyG_take 2 rfl (by kernel_rfl) (fun _ _ _ h => h) (YieldsG.pure (v := .int .u64 (x1 : Int)) (by rfl) (fun w9 h9 => by have hz := (Below.cell (p := ⟨w.heap.size, 1, none⟩) h9 lX).trans px; go_simp; first | done | simp [hz])) ?_
      try simp only [Act.put, List.setIfInBounds_toArray, List.set_cons_zero, List.set_cons_succ]
      refine wpAnyG_take 3 rfl (by kernel_rfl) (fun _ _ _ h => h) (YieldsG.pure (by rfl) (fun w9 _ => by go_simp; try with_reducible rfl)) ?_
      try simp only [Act.put, List.setIfInBounds_toArray, List.set_cons_zero, List.set_cons_succ]
      refine wpAnyG_take 4 rfl (by kernel_rfl) (fun _ _ _ h => h) (YieldsG.pure (by rfl) (fun w9 _ => by go_simp; try with_reducible rfl)) ?_
      try simp only [Act.put, List.setIfInBounds_toArray, List.set_cons_zero, List.set_cons_succ]
      refine wpAnyG_take 5 rfl (by kernel_rfl) (fun _ _ _ h => h) (YieldsG.pure (v := .int .u64 (y1 : Int)) (by rfl) (fun w9 h9 => by have hz := (Below.cell (p := ⟨w.heap.size + 1, 1, none⟩) h9 lY).trans py; go_simp; first | done | simp [hz])) ?_
      try simp only [Act.put, List.setIfInBounds_toArray, List.set_cons_zero, List.set_cons_succ]
      refine wpAnyG_take 6 rfl (by kernel_rfl) (fun _ _ _ h => h) (YieldsG.pure (by rfl) (fun w9 _ => by go_simp; try with_reducible rfl)) ?_
      try simp only [Act.put, List.setIfInBounds_toArray, List.set_cons_zero, List.set_cons_succ]
      refine wpAnyG_take 7 rfl (by kernel_rfl) (fun _ _ _ h => h) (YieldsG.pure (v := .tuple #[.int .u64 (s1 : Int), .int .u64 (c1 : Int)]) (by rfl) (fun w9 h9 => by go_simp)) ?_
      try simp only [Act.put, List.setIfInBounds_toArray, List.set_cons_zero, List.set_cons_succ]
      refine wpAnyG_take 8 rfl (by kernel_rfl) (fun _ _ _ h => h) (YieldsG.pure (by rfl) (fun w9 _ => by go_simp; try with_reducible rfl)) ?_
      try simp only [Act.put, List.setIfInBounds_toArray, List.set_cons_zero, List.set_cons_succ]
      refine wpAnyG_take 9 rfl (by kernel_rfl) (fun _ _ _ h => h) (YieldsG.pure (by rfl) (fun w9 _ => by go_simp; try with_reducible rfl)) ?_
      try simp only [Act.put, List.setIfInBounds_toArray, List.set_cons_zero, List.set_cons_succ]
      refine wpAnyG_take 10 rfl (by kernel_rfl) (fun _ _ _ h => h) (YieldsG.pure (by rfl) (fun w9 _ => by go_simp; try with_reducible rfl)) ?_
      try simp only [Act.put, List.setIfInBounds_toArray, List.set_cons_zero, List.set_cons_succ]
      refine wpAnyG_take 11 rfl (by kernel_rfl) (fun _ _ _ h => h) (YieldsG.pure (by rfl) (fun w9 _ => by go_simp; try with_reducible rfl)) ?_
      try simp only [Act.put, List.setIfInBounds_toArray, List.set_cons_zero, List.set_cons_succ]
      refine wpAnyG_take 12 rfl (by kernel_rfl) (fun _ _ _ h => h) (YieldsG.pure (by rfl) (fun w9 _ => by go_simp; try with_reducible rfl)) ?_
      try simp only [Act.put, List.setIfInBounds_toArray, List.set_cons_zero, List.set_cons_succ]
      refine wpAnyG_done (by kernel_rfl) (fun u hu => ?_)
      have BXu := Gr.blk hu BX
      have BYu := Gr.blk hu BY
      have BRu := Gr.blk hu BR
      have hbu := Below.gr hb hu
      have pc : u.cell? ⟨w.heap.size, 1, none⟩ = some (.int .u64 (x1 : Int)) := BXu.cell 1
      have pf := BXu.frozen 1
      go_wp2
      refine ⟨⟨hbu.setCell (Nat.le_refl _) _, BYu.far (by show w.heap.size + 1 ≠ w.heap.size; omega) _, BRu.far (by show w.heap.size + 2 ≠ w.heap.size; omega) _, Lib.hid (.inr (.inr (.inl (⟨rfl, rfl, BXu.set_ 1 _⟩))))⟩, by decide⟩
    · clear HI
      have px : wr.cell? ⟨w.heap.size, 2, none⟩ = some (.int .u64 (x2 : Int)) := BX.cell 2
      have py : wr.cell? ⟨w.heap.size + 1, 2, none⟩ = some (.int .u64 (y2 : Int)) := BY.cell 2
      go_wp2
      refine wp_region_G (fun _ => false) (by kernel_rfl) ?_
      try simp only [Act.put]
      refine wpAnyG_take 0 rfl (by kernel_rfl) (fun _ _ _ h => h) (YieldsG.pure (by rfl) (fun w9 _ => by go_simp; try with_reducible rfl)) ?_
      try simp only [Act.put, List.setIfInBounds_toArray, List.set_cons_zero, List.set_cons_succ]
      refine wpAnyG_take 1 rfl (by kernel_rfl) (fun _ _ _ h => h) (YieldsG.pure (by rfl) (fun w9 _ => by go_simp; try with_reducible rfl)) ?_
      try simp only [Act.put, List.setIfInBounds_toArray, List.set_cons_zero, List.set_cons_succ]
      refine wpAnyG_take 2 rfl (by kernel_rfl) (fun _ _ _ h => h) (YieldsG.pure (v := .int .u64 (x2 : Int)) (by rfl) (fun w9 h9 => by have hz := (Below.cell (p := ⟨w.heap.size, 2, none⟩) h9 lX).trans px; go_simp; first | done | simp [hz])) ?_
      try simp only [Act.put, List.setIfInBounds_toArray, List.set_cons_zero, List.set_cons_succ]
      refine wpAnyG_take 3 rfl (by kernel_rfl) (fun _ _ _ h => h) (YieldsG.pure (by rfl) (fun w9 _ => by go_simp; try with_reducible rfl)) ?_
      try simp only [Act.put, List.setIfInBounds_toArray, List.set_cons_zero, List.set_cons_succ]
      refine wpAnyG_take 4 rfl (by kernel_rfl) (fun _ _ _ h => h) (YieldsG.pure (by rfl) (fun w9 _ => by go_simp; try with_reducible rfl)) ?_
      try simp only [Act.put, List.setIfInBounds_toArray, List.set_cons_zero, List.set_cons_succ]
      refine wpAnyG_take 5 rfl (by kernel_rfl) (fun _ _ _ h => h) (YieldsG.pure (v := .int .u64 (y2 : Int)) (by rfl) (fun w9 h9 => by have hz := (Below.cell (p := ⟨w.heap.size + 1, 2, none⟩) h9 lY).trans py; go_simp; first | done | simp [hz])) ?_
      try simp only [Act.put, List.setIfInBounds_toArray, List.set_cons_zero, List.set_cons_succ]
      refine wpAnyG_take 6 rfl (by kernel_rfl) (fun _ _ _ h => h) (YieldsG.pure (by rfl) (fun w9 _ => by go_simp; try with_reducible rfl)) ?_
      try simp only [Act.put, List.setIfInBounds_toArray, List.set_cons_zero, List.set_cons_succ]
      refine wpAnyG_take 7 rfl (by kernel_rfl) (fun _ _ _ h => h) (YieldsG.pure (v := .tuple #[.int .u64 (s2 : Int), .int .u64 (c2 : Int)]) (by rfl) (fun w9 h9 => by go_simp)) ?_
      try simp only [Act.put, List.setIfInBounds_toArray, List.set_cons_zero, List.set_cons_succ]
      refine wpAnyG_take 8 rfl (by kernel_rfl) (fun _ _ _ h => h) (YieldsG.pure (by rfl) (fun w9 _ => by go_simp; try with_reducible rfl)) ?_
      try simp only [Act.put, List.setIfInBounds_toArray, List.set_cons_zero, List.set_cons_succ]
      refine wpAnyG_take 9 rfl (by kernel_rfl) (fun _ _ _ h => h) (YieldsG.pure (by rfl) (fun w9 _ => by go_simp; try with_reducible rfl)) ?_
      try simp only [Act.put, List.setIfInBounds_toArray, List.set_cons_zero, List.set_cons_succ]
      refine wpAnyG_take 10 rfl (by kernel_rfl) (fun _ _ _ h => h) (YieldsG.pure (by rfl) (fun w9 _ => by go_simp; try with_reducible rfl)) ?_
      try simp only [Act.put, List.setIfInBounds_toArray, List.set_cons_zero, List.set_cons_succ]
      refine wpAnyG_take 11 rfl (by kernel_rfl) (fun _ _ _ h => h) (YieldsG.pure (by rfl) (fun w9 _ => by go_simp; try with_reducible rfl)) ?_
      try simp only [Act.put, List.setIfInBounds_toArray, List.set_cons_zero, List.set_cons_succ]
      refine wpAnyG_take 12 rfl (by kernel_rfl) (fun _ _ _ h => h) (YieldsG.pure (by rfl) (fun w9 _ => by go_simp; try with_reducible rfl)) ?_
      try simp only [Act.put, List.setIfInBounds_toArray, List.set_cons_zero, List.set_cons_succ]
      refine wpAnyG_done (by kernel_rfl) (fun u hu => ?_)
      have BXu := Gr.blk hu BX
      have BYu := Gr.blk hu BY
      have BRu := Gr.blk hu BR
      have hbu := Below.gr hb hu
      have pc : u.cell? ⟨w.heap.size, 2, none⟩ = some (.int .u64 (x2 : Int)) := BXu.cell 2
      have pf := BXu.frozen 2
      go_wp2
      refine ⟨⟨hbu.setCell (Nat.le_refl _) _, BYu.far (by show w.heap.size + 1 ≠ w.heap.size; omega) _, BRu.far (by show w.heap.size + 2 ≠ w.heap.size; omega) _, Lib.hid (.inr (.inr (.inr (.inl (⟨rfl, rfl, BXu.set_ 2 _⟩)))))⟩, by decide⟩
    · clear HI
      have px : wr.cell? ⟨w.heap.size, 3, none⟩ = some (.int .u64 (x3 : Int)) := BX.cell 3
      have py : wr.cell? ⟨w.heap.size + 1, 3, none⟩ = some (.int .u64 (y3 : Int)) := BY.cell 3
      go_wp2
      refine wp_region_G (fun _ => false) (by kernel_rfl) ?_
      try simp only [Act.put]
      refine wpAnyG_take 0 rfl (by kernel_rfl) (fun _ _ _ h => h) (YieldsG.pure (by rfl) (fun w9 _ => by go_simp; try with_reducible rfl)) ?_
      try simp only [Act.put, List.setIfInBounds_toArray, List.set_cons_zero, List.set_cons_succ]
      refine wpAnyG_take 1 rfl (by kernel_rfl) (fun _ _ _ h => h) (YieldsG.pure (by rfl) (fun w9 _ => by go_simp; try with_reducible rfl)) ?_
      try simp only [Act.put, List.setIfInBounds_toArray, List.set_cons_zero, List.set_cons_succ]
      refine wpAnyG_take 2 rfl (by kernel_rfl) (fun _ _ _ h => h) (YieldsG.pure (v := .int .u64 (x3 : Int)) (by rfl) (fun w9 h9 => by have hz := (Below.cell (p := ⟨w.heap.size, 3, none⟩) h9 lX).trans px; go_simp; first | done | simp [hz])) ?_
      try simp only [Act.put, List.setIfInBounds_toArray, List.set_cons_zero, List.set_cons_succ]
      refine wpAnyG_take 3 rfl (by kernel_rfl) (fun _ _ _ h => h) (YieldsG.pure (by rfl) (fun w9 _ => by go_simp; try with_reducible rfl)) ?_
      try simp only [Act.put, List.setIfInBounds_toArray, List.set_cons_zero, List.set_cons_succ]
      refine wpAnyG_take 4 rfl (by kernel_rfl) (fun _ _ _ h => h) (YieldsG.pure (by rfl) (fun w9 _ => by go_simp; try with_reducible rfl)) ?_
      try simp only [Act.put, List.setIfInBounds_toArray, List.set_cons_zero, List.set_cons_succ]
      refine wpAnyG_take 5 rfl (by kernel_rfl) (fun _ _ _ h => h) (YieldsG.pure (v := .int .u64 (y3 : Int)) (by rfl) (fun w9 h9 => by have hz := (Below.cell (p := ⟨w.heap.size + 1, 3, none⟩) h9 lY).trans py; go_simp; first | done | simp [hz])) ?_
      try simp only [Act.put, List.setIfInBounds_toArray, List.set_cons_zero, List.set_cons_succ]
      refine wpAnyG_take 6 rfl (by kernel_rfl) (fun _ _ _ h => h) (YieldsG.pure (by rfl) (fun w9 _ => by go_simp; try with_reducible rfl)) ?_
      try simp only [Act.put, List.setIfInBounds_toArray, List.set_cons_zero, List.set_cons_succ]
      refine wpAnyG_take 7 rfl (by kernel_rfl) (fun _ _ _ h => h) (YieldsG.pure (v := .tuple #[.int .u64 (s3 : Int), .int .u64 (c3 : Int)]) (by rfl) (fun w9 h9 => by go_simp)) ?_
      try simp only [Act.put, List.setIfInBounds_toArray, List.set_cons_zero, List.set_cons_succ]
      refine wpAnyG_take 8 rfl (by kernel_rfl) (fun _ _ _ h => h) (YieldsG.pure (by rfl) (fun w9 _ => by go_simp; try with_reducible rfl)) ?_
      try simp only [Act.put, List.setIfInBounds_toArray, List.set_cons_zero, List.set_cons_succ]
      refine wpAnyG_take 9 rfl (by kernel_rfl) (fun _ _ _ h => h) (YieldsG.pure (by rfl) (fun w9 _ => by go_simp; try with_reducible rfl)) ?_
      try simp only [Act.put, List.setIfInBounds_toArray, List.set_cons_zero, List.set_cons_succ]
      refine wpAnyG_take 10 rfl (by kernel_rfl) (fun _ _ _ h => h) (YieldsG.pure (by rfl) (fun w9 _ => by go_simp; try with_reducible rfl)) ?_
      try simp only [Act.put, List.setIfInBounds_toArray, List.set_cons_zero, List.set_cons_succ]
      refine wpAnyG_take 11 rfl (by kernel_rfl) (fun _ _ _ h => h) (YieldsG.pure (by rfl) (fun w9 _ => by go_simp; try with_reducible rfl)) ?_
      try simp only [Act.put, List.setIfInBounds_toArray, List.set_cons_zero, List.set_cons_succ]
      refine wpAnyG_take 12 rfl (by kernel_rfl) (fun _ _ _ h => h) (YieldsG.pure (by rfl) (fun w9 _ => by go_simp; try with_reducible rfl)) ?_
      try simp only [Act.put, List.setIfInBounds_toArray, List.set_cons_zero, List.set_cons_succ]
      refine wpAnyG_done (by kernel_rfl) (fun u hu => ?_)
      have BXu := Gr.blk hu BX
      have BYu := Gr.blk hu BY
      have BRu := Gr.blk hu BR
      have hbu := Below.gr hb hu
      have pc : u.cell? ⟨w.heap.size, 3, none⟩ = some (.int .u64 (x3 : Int)) := BXu.cell 3
      have pf := BXu.frozen 3
      go_wp2
      refine ⟨⟨hbu.setCell (Nat.le_refl _) _, BYu.far (by show w.heap.size + 1 ≠ w.heap.size; omega) _, BRu.far (by show w.heap.size + 2 ≠ w.heap.size; omega) _, Lib.hid (.inr (.inr (.inr (.inr (⟨rfl, rfl, BXu.set_ 3 _⟩)))))⟩, by decide⟩
    · clear HI
      have BS := BX.eq_ (fcs_words Fd.out.symm).symm
      go_wp2_with (first | ((with_reducible refine here_load (d := some 28) ?_); refine wpList_load_fv rfl _ _ rfl (w.heap.size) rfl (s) _ _ _ (BS) (fv_fcs s) Tryz.underlying374 rfl (by kernel_rfl) ?_) | ((with_reducible refine here_store ?_); refine wpList_store_blk rfl _ _ _ rfl (w.heap.size + 2) (fcs (s)) rfl rfl _ _ (BR) (by kernel_rfl) (by rfl) (fcs_one _) ?_; intro w9 hL9 hB9 hK9))
      exact bodyPost_ret (results_cell_row rfl _ _ (w.heap.size + 2) _ _ (0, 0) _ rfl hL9 Tryz.underlying374 rfl (by kernel_rfl)) rfl ⟨rfl, hb.trans (hB9 _ (by omega))⟩

def eQ : Nat := 28948022309329048855892746252171976963317496166410141009864396001977208667916
def rtR (x : Nat) : Nat := pw x eQ
def sqrtR (x : Nat) : Nat × Bool := if mulP (rtR x) (rtR x) ≠ x % pM then (0, false) else if rtR x % 18446744073709551616 % 2 = 1 then (negP (rtR x), true) else (rtR x, true)
theorem fv_eQ : fv 28948022309329048855892746252171976963317496166410141009864396001977208667916 = .agg #[.int .u64 18446744072635809548, .int .u64 18446744073709551615, .int .u64 18446744073709551615, .int .u64 4611686018427387903] := rfl
theorem rem_two (n : Nat) (_ : n < 18446744073709551616) : ∃ b : Bool, b = decide (n % 2 = 1) ∧ (((n : Int) % 2 == 1) = b) := by
  refine ⟨_, rfl, ?_⟩
  rcases (show n % 2 = 0 ∨ n % 2 = 1 by omega) with h | h
  · have : (n : Int) % 2 = 0 := by omega
    rw [this, h]; rfl
  · have : (n : Int) % 2 = 1 := by omega
    rw [this, h]; rfl

set_option maxHeartbeats 8000000 in
set_option maxRecDepth 100000 in
theorem sqrtR_any (w : World) (x : Nat) (hx : x < 115792089237316195423570985008687907853269984665640564039457584007913129639936) : Calls Tryz.prog 290 #[fv x] w fun e w' => e = .returned (.tuple #[fv (sqrtR x).1, .bool (sqrtR x).2]) ∧ Below w.heap.size w w' := by
  obtain ⟨p, hp⟩ : ∃ p, p = 115792089237316195423570985008687907853269984665640564039457584007908834671663 := ⟨_, rfl⟩
  obtain ⟨one, h1⟩ : ∃ n, n = 1 := ⟨_, rfl⟩
  obtain ⟨e, he⟩ : ∃ e, e = 115792089237316195423570985008687907853269984665640564039457584007908834671663 + 1 := ⟨_, rfl⟩
  obtain ⟨q, hq⟩ : ∃ q, q = eQ := ⟨_, rfl⟩
  obtain ⟨r, hr⟩ : ∃ r, r = rtR x := ⟨_, rfl⟩
  obtain ⟨m, hm⟩ : ∃ z, z = mulP r r := ⟨_, rfl⟩
  obtain ⟨n, hn⟩ : ∃ z, z = x % pM := ⟨_, rfl⟩
  obtain ⟨g, hg⟩ : ∃ z, z = negP r := ⟨_, rfl⟩
  have lq : q < 115792089237316195423570985008687907853269984665640564039457584007913129639936 := by rw [hq, eQ]; omega
  have lr : r < 115792089237316195423570985008687907853269984665640564039457584007913129639936 := by rw [hr]; exact pw_lt _ _
  have lm : m < 115792089237316195423570985008687907853269984665640564039457584007913129639936 := by rw [hm]; exact mulP_lt _ _
  have ln : n < 115792089237316195423570985008687907853269984665640564039457584007913129639936 := by rw [hn]; exact mod_lt x
  have cP : ∀ w, Calls Tryz.prog 259 #[] w fun e w' => e = .returned (.agg #[.int .u64 18446744069414583343, .int .u64 18446744073709551615, .int .u64 18446744073709551615, .int .u64 18446744073709551615, .int .u64 4294968273, .int .u64 0, .int .u64 0]) ∧ Below w.heap.size w w' := refP_any
  have c1 : ∀ w, Calls Tryz.prog 289 #[.int .u64 1] w fun e w' => e = .returned (fv one) ∧ Below w.heap.size w w' := fun w => small_at w one 1 (by rw [h1]; rfl) (by omega)
  have cA : ∀ w, Calls Tryz.prog 306 #[fv p, fv one] w fun r w' => r = .returned (fv e) ∧ Below w.heap.size w w' := fun w => addR_at w p one e 0 rfl rfl (by omega) (by omega) (by omega) (by omega)
  have cW : ∀ w, Calls Tryz.prog 307 #[.agg #[.int .u64 18446744069414583343, .int .u64 18446744073709551615, .int .u64 18446744073709551615, .int .u64 18446744073709551615, .int .u64 4294968273, .int .u64 0, .int .u64 0], fv x, fv q] w fun e w' => e = .returned (fv r) ∧ Below w.heap.size w w' := by
    intro w; rw [hr, rtR, ← hq]; exact power_any w x q hx lq
  have cM : ∀ w, Calls Tryz.prog 287 #[.agg #[.int .u64 18446744069414583343, .int .u64 18446744073709551615, .int .u64 18446744073709551615, .int .u64 18446744073709551615, .int .u64 4294968273, .int .u64 0, .int .u64 0], fv r, fv r] w fun e w' => e = .returned (fv m) ∧ Below w.heap.size w w' := by
    intro w; rw [hm]; exact mulR_any w r r lr lr
  have cN : ∀ w, Calls Tryz.prog 271 #[.agg #[.int .u64 18446744069414583343, .int .u64 18446744073709551615, .int .u64 18446744073709551615, .int .u64 18446744073709551615, .int .u64 4294968273, .int .u64 0, .int .u64 0], fv x] w fun e w' => e = .returned (fv n) ∧ Below w.heap.size w w' := by
    intro w; rw [hn]; exact normR_any w x hx
  have cG : ∀ w, Calls Tryz.prog 292 #[.agg #[.int .u64 18446744069414583343, .int .u64 18446744073709551615, .int .u64 18446744073709551615, .int .u64 18446744073709551615, .int .u64 4294968273, .int .u64 0, .int .u64 0], fv r] w fun e w' => e = .returned (fv g) ∧ Below w.heap.size w w' := by
    intro w; rw [hg]; exact negR_any w r lr
  obtain ⟨b, hb⟩ : ∃ b, b = decide (m ≠ n) := ⟨_, rfl⟩
  have eb : ∀ W, (binOp .neq 374 (fv m) (fv n)).run Tryz.prog W = .ok (.bool b) W := fun W => by rw [hb]; exact Nm.run_neq_fv W m n lm ln
  obtain ⟨r0, r1, r2, r3, a0, a1, a2, a3, er, fr⟩ := words_of r lr
  obtain ⟨o, ho, hob⟩ := rem_two r0 a0
  have hS : sqrtR x = if b = true then (0, false) else if o = true then (g, true) else (r, true) := by
    unfold sqrtR
    have h0 : r % 18446744073709551616 = r0 := by omega
    rw [← hr, ← hm, ← hn, ← hg, hb, ho, h0]
    by_cases h1 : m = n <;> by_cases h2 : r0 % 2 = 1 <;> simp [h1, h2]
  have FP : Hid (fv p = .agg #[.int .u64 18446744069414583343, .int .u64 18446744073709551615, .int .u64 18446744073709551615, .int .u64 18446744073709551615]) := Lib.hid (by rw [hp]; exact fv_P)
  have FE : Hid (fv e = .agg #[.int .u64 18446744069414583344, .int .u64 18446744073709551615, .int .u64 18446744073709551615, .int .u64 18446744073709551615]) := Lib.hid (by rw [he]; rfl)
  have FQ : Hid (fv q = .agg #[.int .u64 18446744072635809548, .int .u64 18446744073709551615, .int .u64 18446744073709551615, .int .u64 4611686018427387903]) := Lib.hid (by rw [hq]; exact fv_eQ)
  have FR := Lib.hid fr
  obtain ⟨x0, x1, x2, x3, fx⟩ := words_fv x hx
  have FX := Lib.hid fx
  rw [fx, hS]
  clear fx hx hp h1 he hq hr hm hn hg lq lr lm ln hb ho hS a0 a1 a2 a3 er fr
  go_enter Tryz.func290, Tryz.ntmps290
  go_wp2_with fail
  refine (cP _).mono ?_
  rintro z w1 ⟨rfl, k1⟩
  have BX := Gr.blk k1 ((Blk.new w _ _).alloc _)
  have BR := Gr.blk k1 (blk_new2 w _ _ _)
  have hB := Below.gr (below_alloc2 w _ _) k1
  have sz1 : w.heap.size + 1 < w1.heap.size := BR.lt
  clear k1 cP
  go_wp2_with (first | ((with_reducible refine here_store ?_); refine wpList_store_blk rfl _ _ _ rfl (w1.heap.size) #[.int .u64 18446744069414583343, .int .u64 18446744073709551615, .int .u64 18446744073709551615, .int .u64 18446744073709551615, .int .u64 4294968273, .int .u64 0, .int .u64 0] rfl rfl _ _ (Blk.new w1 _ _) (by kernel_rfl) (by rfl) (by simp [Value.oneCell']) ?_; intro w2 hL2 hq2 hK2; have BX2 := hK2 _ (by omega) _ _ (BX.alloc _); have BR2 := hK2 _ (by omega) _ _ (BR.alloc _); have hB2 := (hB.alloc (by omega) _).trans (hq2 _ (by omega))))
  refine wp_region_G (fun j => j == 5) (by kernel_rfl) ?_
  try simp only [Act.put]
  refine wpAnyG_take 0 rfl (by kernel_rfl) (fun _ _ _ h => h) (YieldsG.pure (by rfl) (fun w9 _ => by go_simp; try with_reducible rfl)) ?_
  try simp only [Act.put, List.setIfInBounds_toArray, List.set_cons_zero, List.set_cons_succ]
  refine wpAnyG_take 1 rfl (by kernel_rfl) (fun _ _ _ h => h) (YieldsG.loadP (by rfl) _ _ rfl w1.heap.size rfl p _ (Blk.lt hL2) (mod_range hL2) FP.out Tryz.underlying374 rfl (by kernel_rfl)) ?_
  try simp only [Act.put, List.setIfInBounds_toArray, List.set_cons_zero, List.set_cons_succ]
  refine wpAnyG_take 2 rfl (by kernel_rfl) (fun _ _ _ h => h) (YieldsG.call (v := fv one) (by rfl) 289 _ (fun w9 => by go_simp; try (first | with_reducible rfl | rfl)) (fun w9 h9 => c1 w9)) ?_
  try simp only [Act.put, List.setIfInBounds_toArray, List.set_cons_zero, List.set_cons_succ]
  refine wpAnyG_take 3 rfl (by kernel_rfl) (fun _ _ _ h => h) (YieldsG.call (v := fv e) (by rfl) 306 _ (fun w9 => by go_simp; try (first | with_reducible rfl | rfl)) (fun w9 h9 => cA w9)) ?_
  try simp only [Act.put, List.setIfInBounds_toArray, List.set_cons_zero, List.set_cons_succ]
  refine wpAnyG_sole 4 rfl (by kernel_rfl) (by rfl) (fun w4 h4 K hK => ?_)
  go_simp
  refine hK _ _ (fun _ => gr_alloc _ _) ?_
  clear hK K
  try simp only [Act.put, List.setIfInBounds_toArray, List.set_cons_zero, List.set_cons_succ]
  refine wpAnyG_store 5 rfl (by kernel_rfl) (by rfl) _ _ _ rfl (w4.heap.size) (fcs (e)) rfl rfl _ _ (Blk.new w4 _ _) (by kernel_rfl) (by rfl) (fcs_one _) rfl (fun w6 h6 w7 hB7 hL7 => ?_)
  try simp only [Act.put]
  refine wpAnyG_done (by kernel_rfl) (fun w8 h8 => ?_)
  have sz4 : w1.heap.size < w4.heap.size := by have := hL2.lt; have := h4.size; omega
  have BM8 : Blk w8 w1.heap.size 380 #[.int .u64 18446744069414583343, .int .u64 18446744073709551615, .int .u64 18446744073709551615, .int .u64 18446744073709551615, .int .u64 4294968273, .int .u64 0, .int .u64 0] := Gr.blk h8 (Blk.below (B := w4.heap.size) (Gr.blk h6 (Blk.alloc (Gr.blk h4 hL2) _)) (hB7 _ (Nat.le_refl _)) (by omega))
  have BX8 := Gr.blk h8 (Blk.below (B := w4.heap.size) (Gr.blk h6 (Blk.alloc (Gr.blk h4 BX2) _)) (hB7 _ (Nat.le_refl _)) (by omega))
  have BR8 := Gr.blk h8 (Blk.below (B := w4.heap.size) (Gr.blk h6 (Blk.alloc (Gr.blk h4 BR2) _)) (hB7 _ (Nat.le_refl _)) (by omega))
  have BE8 : Blk w8 w4.heap.size 374 #[.int .u64 18446744069414583344, .int .u64 18446744073709551615, .int .u64 18446744073709551615, .int .u64 18446744073709551615] := (Gr.blk h8 hL7).eq_ (fcs_words FE.out)
  have hB8 : Below w.heap.size w w8 := Below.gr ((Below.gr ((Below.gr hB2 h4).alloc (by omega) _) h6).trans (hB7 _ (by omega))) h8
  clear h4 h6 hB7 hL7 h8 c1 cA hL2 BX2 BR2 hB2
  go_wp2_with fail
  go_loopw [6, 7] (fun rs i wr => Below w.heap.size w wr ∧ Blk wr w1.heap.size 380 #[.int .u64 18446744069414583343, .int .u64 18446744073709551615, .int .u64 18446744073709551615, .int .u64 18446744073709551615, .int .u64 4294968273, .int .u64 0, .int .u64 0] ∧ Blk wr w.heap.size 374 #[.int .u64 x0, .int .u64 x1, .int .u64 x2, .int .u64 x3] ∧ Blk wr (w.heap.size + 1) 374 #[.int .u64 0, .int .u64 0, .int .u64 0, .int .u64 0] ∧ Hid ((i = .int .i64 3 ∧ rs = .int .u64 0 ∧ Blk wr w4.heap.size 374 #[.int .u64 18446744069414583344, .int .u64 18446744073709551615, .int .u64 18446744073709551615, .int .u64 18446744073709551615]) ∨ (i = .int .i64 2 ∧ rs = .int .u64 3 ∧ Blk wr w4.heap.size 374 #[.int .u64 18446744069414583344, .int .u64 18446744073709551615, .int .u64 18446744073709551615, .int .u64 4611686018427387903]) ∨ (i = .int .i64 1 ∧ rs = .int .u64 3 ∧ Blk wr w4.heap.size 374 #[.int .u64 18446744069414583344, .int .u64 18446744073709551615, .int .u64 18446744073709551615, .int .u64 4611686018427387903]) ∨ (i = .int .i64 0 ∧ rs = .int .u64 3 ∧ Blk wr w4.heap.size 374 #[.int .u64 18446744069414583344, .int .u64 18446744073709551615, .int .u64 18446744073709551615, .int .u64 4611686018427387903]) ∨ (i = .int .i64 (-1) ∧ rs = .int .u64 0 ∧ Blk wr w4.heap.size 374 #[.int .u64 18446744072635809548, .int .u64 18446744073709551615, .int .u64 18446744073709551615, .int .u64 4611686018427387903]))) (fun _ i _ => (intOf i + 1).toNat)
  case atStart => exact ⟨hB8, BM8, BX8, BR8, Lib.hid (.inl ⟨rfl, rfl, BE8⟩)⟩
  case round =>
    clear hB8 BM8 BX8 BR8 BE8
    obtain ⟨hb, BM, BX, BR, HI⟩ := hrel
    rcases HI.out with ⟨rfl, rfl, BE⟩ | ⟨rfl, rfl, BE⟩ | ⟨rfl, rfl, BE⟩ | ⟨rfl, rfl, BE⟩ | ⟨rfl, rfl, BE⟩
    · clear HI
      have pe : wr.cell? ⟨w4.heap.size, 3, none⟩ = some (.int .u64 18446744073709551615) := BE.cell 3
      have pf := BE.frozen 3
      go_wp2
      refine ⟨⟨hb.setCell (by show w.heap.size ≤ w4.heap.size; omega) _, BM.far (by show w1.heap.size ≠ w4.heap.size; omega) _, BX.far (by show w.heap.size ≠ w4.heap.size; omega) _, BR.far (by show w.heap.size + 1 ≠ w4.heap.size; omega) _, Lib.hid (.inr (.inl (⟨rfl, rfl, BE.set_ 3 _⟩)))⟩, by decide⟩
    · clear HI
      have pe : wr.cell? ⟨w4.heap.size, 2, none⟩ = some (.int .u64 18446744073709551615) := BE.cell 2
      have pf := BE.frozen 2
      go_wp2
      refine ⟨⟨hb.setCell (by show w.heap.size ≤ w4.heap.size; omega) _, BM.far (by show w1.heap.size ≠ w4.heap.size; omega) _, BX.far (by show w.heap.size ≠ w4.heap.size; omega) _, BR.far (by show w.heap.size + 1 ≠ w4.heap.size; omega) _, Lib.hid (.inr (.inr (.inl (⟨rfl, rfl, BE.set_ 2 _⟩))))⟩, by decide⟩
    · clear HI
      have pe : wr.cell? ⟨w4.heap.size, 1, none⟩ = some (.int .u64 18446744073709551615) := BE.cell 1
      have pf := BE.frozen 1
      go_wp2
      refine ⟨⟨hb.setCell (by show w.heap.size ≤ w4.heap.size; omega) _, BM.far (by show w1.heap.size ≠ w4.heap.size; omega) _, BX.far (by show w.heap.size ≠ w4.heap.size; omega) _, BR.far (by show w.heap.size + 1 ≠ w4.heap.size; omega) _, Lib.hid (.inr (.inr (.inr (.inl (⟨rfl, rfl, BE.set_ 1 _⟩)))))⟩, by decide⟩
    · clear HI
      have pe : wr.cell? ⟨w4.heap.size, 0, none⟩ = some (.int .u64 18446744069414583344) := BE.cell 0
      have pf := BE.frozen 0
      go_wp2
      refine ⟨⟨hb.setCell (by show w.heap.size ≤ w4.heap.size; omega) _, BM.far (by show w1.heap.size ≠ w4.heap.size; omega) _, BX.far (by show w.heap.size ≠ w4.heap.size; omega) _, BR.far (by show w.heap.size + 1 ≠ w4.heap.size; omega) _, Lib.hid (.inr (.inr (.inr (.inr (⟨rfl, rfl, BE.set_ 0 _⟩)))))⟩, by decide⟩
    · clear HI
      have sl := BE.lt
      go_wp2_with (first | ((with_reducible refine here_load (d := some 31) ?_); refine wpList_load_blk rfl _ _ rfl w1.heap.size rfl _ _ _ (BM) Tryz.underlying380 rfl (by kernel_rfl) ?_) | ((with_reducible refine here_load (d := some 32) ?_); refine wpList_load_fv rfl _ _ rfl (w.heap.size) rfl (x) _ _ _ (BX) (FX.out) Tryz.underlying374 rfl (by kernel_rfl) ?_) | ((with_reducible refine here_load (d := some 33) ?_); refine wpList_load_fv rfl _ _ rfl (w4.heap.size) rfl (q) _ _ _ (BE) (FQ.out) Tryz.underlying374 rfl (by kernel_rfl) ?_))
      refine (cW _).mono ?_
      rintro z w5 ⟨rfl, k1⟩
      have BM := Gr.blk k1 BM
      have BX := Gr.blk k1 BX
      have BR := Gr.blk k1 BR
      have hb := Below.gr hb k1
      have sz5 : w4.heap.size < w5.heap.size := Nat.lt_of_lt_of_le sl k1.size
      clear k1 cW BE
      go_wp2_with (first | ((with_reducible refine here_store ?_); refine wpList_store_blk rfl _ _ _ rfl (w5.heap.size) (fcs (r)) rfl rfl _ _ (Blk.new w5 _ _) (by kernel_rfl) (by rfl) (fcs_one _) ?_; intro w6 hL6 hq6 hK6; have BM6 := hK6 _ (by omega) _ _ (BM.alloc _); have BX6 := hK6 _ (by omega) _ _ (BX.alloc _); have BR6 := hK6 _ (by omega) _ _ (BR.alloc _); have hB6 := (hb.alloc (by omega) _).trans (hq6 _ (by omega))))
      refine wp_region_G (fun _ => false) (by kernel_rfl) ?_
      try simp only [Act.put]
      refine wpAnyG_take 0 rfl (by kernel_rfl) (fun _ _ _ h => h) (YieldsG.load (by rfl) _ _ rfl w1.heap.size 0 rfl ([.int .u64 18446744069414583343, .int .u64 18446744073709551615, .int .u64 18446744073709551615, .int .u64 18446744073709551615, .int .u64 4294968273, .int .u64 0, .int .u64 0]) _ (Blk.lt (BM6)) (Blk.range (BM6)) Tryz.underlying380 rfl (by kernel_rfl)) ?_
      try simp only [Act.put, List.setIfInBounds_toArray, List.set_cons_zero, List.set_cons_succ]
      refine wpAnyG_take 1 rfl (by kernel_rfl) (fun _ _ _ h => h) (YieldsG.loadF (by rfl) _ _ rfl (w5.heap.size) rfl (r) _ _ (hL6) (fv_fcs _) Tryz.underlying374 rfl (by kernel_rfl)) ?_
      try simp only [Act.put, List.setIfInBounds_toArray, List.set_cons_zero, List.set_cons_succ]
      refine wpAnyG_take 2 rfl (by kernel_rfl) (fun _ _ _ h => h) (YieldsG.loadF (by rfl) _ _ rfl (w5.heap.size) rfl (r) _ _ (hL6) (fv_fcs _) Tryz.underlying374 rfl (by kernel_rfl)) ?_
      try simp only [Act.put, List.setIfInBounds_toArray, List.set_cons_zero, List.set_cons_succ]
      refine wpAnyG_take 3 rfl (by kernel_rfl) (fun _ _ _ h => h) (YieldsG.call (v := fv m) (by rfl) 287 _ (fun w9 => by go_simp; try (first | with_reducible rfl | rfl)) (fun w9 h9 => cM w9)) ?_
      try simp only [Act.put, List.setIfInBounds_toArray, List.set_cons_zero, List.set_cons_succ]
      refine wpAnyG_take 4 rfl (by kernel_rfl) (fun _ _ _ h => h) (YieldsG.load (by rfl) _ _ rfl w1.heap.size 0 rfl ([.int .u64 18446744069414583343, .int .u64 18446744073709551615, .int .u64 18446744073709551615, .int .u64 18446744073709551615, .int .u64 4294968273, .int .u64 0, .int .u64 0]) _ (Blk.lt (BM6)) (Blk.range (BM6)) Tryz.underlying380 rfl (by kernel_rfl)) ?_
      try simp only [Act.put, List.setIfInBounds_toArray, List.set_cons_zero, List.set_cons_succ]
      refine wpAnyG_take 5 rfl (by kernel_rfl) (fun _ _ _ h => h) (YieldsG.loadF (by rfl) _ _ rfl (w.heap.size) rfl (x) _ _ (BX6) (FX.out) Tryz.underlying374 rfl (by kernel_rfl)) ?_
      try simp only [Act.put, List.setIfInBounds_toArray, List.set_cons_zero, List.set_cons_succ]
      refine wpAnyG_take 6 rfl (by kernel_rfl) (fun _ _ _ h => h) (YieldsG.call (v := fv n) (by rfl) 271 _ (fun w9 => by go_simp; try (first | with_reducible rfl | rfl)) (fun w9 h9 => cN w9)) ?_
      try simp only [Act.put, List.setIfInBounds_toArray, List.set_cons_zero, List.set_cons_succ]
      refine wpAnyG_take 7 rfl (by kernel_rfl) (fun _ _ _ h => h) (YieldsG.pure (v := .bool b) (by rfl) (fun w9 h9 => by go_simp; rw [Nm.run_eqGuard_fv]; simp only [Result.andThen_ok])) ?_
      try simp only [Act.put, List.setIfInBounds_toArray, List.set_cons_zero, List.set_cons_succ]
      refine wpAnyG_done (by kernel_rfl) (fun u hu => ?_)
      have BM := Gr.blk hu BM6
      have BR := Gr.blk hu BR6
      have BRT := Gr.blk hu hL6
      have hb := Below.gr hB6 hu
      have BW : Blk u w5.heap.size 374 #[.int .u64 (r0 : Int), .int .u64 (r1 : Int), .int .u64 (r2 : Int), .int .u64 (r3 : Int)] := BRT.eq_ (fcs_words FR.out)
      have pc : u.cell? ⟨w5.heap.size, 0, none⟩ = some (.int .u64 (r0 : Int)) := BW.cell 0
      clear hu BM6 BX6 BR6 hL6 hB6 BX eb cM cN BW
      cases b
      · cases o
        · go_wp2_with (first | ((with_reducible refine here_load (d := some 51) ?_); refine wpList_load_fv rfl _ _ rfl (w5.heap.size) rfl (r) _ _ _ (BRT) (fv_fcs _) Tryz.underlying374 rfl (by kernel_rfl) ?_) | ((with_reducible refine here_store ?_); refine wpList_store_blk rfl _ _ _ rfl (w.heap.size + 1) (fcs (r)) rfl rfl _ _ (BR) (by kernel_rfl) (by rfl) (fcs_one _) ?_; intro w9 hL9 hB9 hK9))
          exact bodyPost_ret (res_cell_tmp rfl _ _ (w.heap.size + 1) _ _ _ _ rfl hL9 rfl Tryz.underlying374 rfl (by kernel_rfl)) rfl ⟨rfl, hb.trans (hB9 _ (by omega))⟩
        · go_wp2_with (first | ((with_reducible refine here_load (d := some 48) ?_); refine wpList_load_blk rfl _ _ rfl w1.heap.size rfl _ _ _ (BM) Tryz.underlying380 rfl (by kernel_rfl) ?_) | ((with_reducible refine here_load (d := some 49) ?_); refine wpList_load_fv rfl _ _ rfl (w5.heap.size) rfl (r) _ _ _ (BRT) (fv_fcs _) Tryz.underlying374 rfl (by kernel_rfl) ?_))
          refine (cG _).mono ?_
          rintro z w6 ⟨rfl, k1⟩
          have BR := Gr.blk k1 BR
          have hb := Below.gr hb k1
          clear k1 cG
          go_wp2_with (first | ((with_reducible refine here_store ?_); refine wpList_store_blk rfl _ _ _ rfl (w.heap.size + 1) (fcs (g)) rfl rfl _ _ (BR) (by kernel_rfl) (by rfl) (fcs_one _) ?_; intro w9 hL9 hB9 hK9))
          exact bodyPost_ret (res_cell_tmp rfl _ _ (w.heap.size + 1) _ _ _ _ rfl hL9 rfl Tryz.underlying374 rfl (by kernel_rfl)) rfl ⟨rfl, hb.trans (hB9 _ (by omega))⟩
      · go_wp2_with (first | ((with_reducible refine here_store ?_); refine wpList_store_blk rfl _ _ _ rfl (w.heap.size + 1) _ rfl rfl _ _ (BR) (by kernel_rfl) (by rfl) (by simp [Value.oneCell']) ?_; intro w9 hL9 hB9 hK9))
        exact bodyPost_ret (res_cell_tmp rfl _ _ (w.heap.size + 1) _ _ _ _ rfl hL9 rfl Tryz.underlying374 rfl (by kernel_rfl)) rfl ⟨rfl, hb.trans (hB9 _ (by omega))⟩
end Go.Proofs.YtgemfpnlnipfnaaGreat

end
section
namespace Go.Proofs.YtgemfpnlnipfnaaGreat
open Go.RowKit Go.Lib

theorem prime_p : Nt.Pr pM := Nt.pr_p
theorem eRoot_is : eRoot = eQ := by decide +kernel
theorem four_eQ : 2 * (eQ + eQ) = pM + 1 := by decide +kernel
theorem root_is (x : Nat) : rtR x = rootR x := by
  have h := rootR_pow x
  rw [rootR_red, eRoot_is] at h
  rw [h]
  rfl
theorem root_lt_p (x : Nat) : rootR x < pM := by rw [← rootR_red]; exact mod_lt_p _
theorem low_odd (r : Nat) : r % 18446744073709551616 % 2 = r % 2 := by omega
theorem sqrt_is (x : Nat) : sqrtR x = sqrtS x := by
  unfold sqrtR sqrtS
  rw [root_is, low_odd, rootR_red]

theorem sq_le {p r a : Nat} (hp : Nt.Pr p) (hle : a ≤ r) (hr : r < p) (h : r * r % p = a * a % p) : r = a ∨ r + a = p := by
  have e : (r - a) * (r + a) = r * r - a * a := by
    obtain ⟨d, rfl⟩ : ∃ d, r = a + d := ⟨r - a, by omega⟩
    rw [Nat.add_sub_cancel_left]
    have h1 : (a + d) * (a + d) = a * a + d * (a + d + a) := by
      simp only [Nat.mul_add, Nat.add_mul]
      have := Nat.mul_comm a d
      omega
    rw [h1, Nat.add_sub_cancel_left]
  have hd : p ∣ (r - a) * (r + a) := by
    rw [e]
    exact Nat.dvd_of_mod_eq_zero (Nat.sub_mod_eq_zero_of_mod_eq h)
  by_cases hz : (r + a) % p = 0
  · obtain ⟨k, hk⟩ := Nat.dvd_of_mod_eq_zero hz
    rcases k with _ | _ | k
    · left; omega
    · right; omega
    · have hk' : r + a = p * (k + 2) := hk
      have : p * 2 ≤ p * (k + 2) := Nat.mul_le_mul (Nat.le_refl _) (by omega)
      omega
  · left
    have hd2 : p ∣ r - a := (Nt.cop hp (r + a) hz).dvd_of_dvd_mul_right hd
    have := Nat.eq_zero_of_dvd_of_lt hd2 (by omega)
    omega
theorem sq_roots {p r a : Nat} (hp : Nt.Pr p) (hr : r < p) (ha : a < p) (h : r * r % p = a * a % p) : r = a ∨ r + a = p := by
  rcases Nat.le_total a r with hl | hl
  · exact sq_le hp hl hr h
  · rcases sq_le hp hl ha h.symm with h1 | h1
    · exact .inl h1.symm
    · exact .inr (by omega)
theorem pow_gen {p a e : Nat} (hp : Nt.Pr p) (he : 2 * (e + e) = p + 1) : ((a * a) ^ e % p) * ((a * a) ^ e % p) % p = a * a % p := by
  have h2 := hp.1
  rw [← Nat.mul_mod, ← Nat.pow_add, ← Nat.pow_two, ← Nat.pow_mul, he]
  have e1 : a ^ (p + 1) = a ^ (p - 1) * a ^ 2 := by rw [← Nat.pow_add]; congr 1; omega
  rw [e1, Nat.mul_mod]
  by_cases hz : a % p = 0
  · have : a ^ 2 % p = 0 := by rw [Nat.pow_two, Nat.mul_mod, hz]; simp
    rw [this]; simp
  · rw [Nt.flt hp a hz, Nat.one_mul, Nat.mod_mod]
theorem root_sq (a : Nat) : mulP (rootR (mulP a a)) (rootR (mulP a a)) = mulP a a := by
  have h := rootR_pow (mulP a a)
  rw [rootR_red, eRoot_is] at h
  rw [h]
  unfold mulP
  rw [← Nat.pow_mod]
  exact pow_gen prime_p four_eQ
theorem neg_of (r : Nat) (h : r < pM) (h0 : r ≠ 0) : negP r = pM - r := by
  unfold negP
  rw [Nat.mod_eq_of_lt h]
  exact Nat.mod_eq_of_lt (by omega)
theorem neg_sq (r : Nat) (h : r < pM) (h0 : r ≠ 0) : mulP (negP r) (negP r) = mulP r r := by
  rw [neg_of r h h0]
  obtain ⟨q, hq⟩ : ∃ q, pM = q + r := ⟨pM - r, by omega⟩
  rw [show pM - r = q by omega]
  unfold mulP
  have e : q * q + pM * r = r * r + pM * q := by
    rw [hq, Nat.add_mul, Nat.add_mul, Nat.mul_comm r q]
    omega
  have h1 : (q * q + pM * r) % pM = q * q % pM := Nat.add_mul_mod_self_left _ _ _
  have h2 : (r * r + pM * q) % pM = r * r % pM := Nat.add_mul_mod_self_left _ _ _
  rw [← h1, ← h2, e]
theorem pM_odd : pM % 2 = 1 := by decide +kernel
theorem sqrt_even (x : Nat) : (sqrtS x).1 % pM % 2 = 0 := by
  unfold sqrtS
  have hr := root_lt_p x
  by_cases h1 : mulP (rootR x) (rootR x) ≠ x % pM
  · rw [if_pos h1]; rw [Nat.zero_mod]
  · rw [if_neg h1]
    by_cases h2 : rootR x % pM % 2 = 1
    · rw [if_pos h2]
      rw [rootR_red] at h2
      have h0 : rootR x ≠ 0 := by omega
      have e := neg_of _ hr h0
      have hp := pM_odd
      show negP (rootR x) % pM % 2 = 0
      rw [e, Nat.mod_eq_of_lt (show pM - rootR x < pM by omega)]
      omega
    · rw [if_neg h2]
      show rootR x % pM % 2 = 0
      omega
theorem sqrt_lt (x : Nat) : (sqrtS x).1 < 115792089237316195423570985008687907853269984665640564039457584007913129639936 := by
  unfold sqrtS
  by_cases h1 : mulP (rootR x) (rootR x) ≠ x % pM
  · rw [if_pos h1]; show 0 < _; omega
  · rw [if_neg h1]
    by_cases h2 : rootR x % pM % 2 = 1
    · rw [if_pos h2]; exact negP_lt _
    · rw [if_neg h2]; exact rootR_lt _
theorem sqrt_mul (x : Nat) (h : (sqrtS x).2 = true) : mulP (sqrtS x).1 (sqrtS x).1 = x % pM := by
  unfold sqrtS at h ⊢
  by_cases h1 : mulP (rootR x) (rootR x) ≠ x % pM
  · rw [if_pos h1] at h; cases h
  · rw [if_neg h1]
    have h1' : mulP (rootR x) (rootR x) = x % pM := Classical.not_not.1 h1
    by_cases h2 : rootR x % pM % 2 = 1
    · rw [if_pos h2]
      rw [rootR_red] at h2
      show mulP (negP (rootR x)) (negP (rootR x)) = _
      rw [neg_sq _ (root_lt_p x) (by omega)]
      exact h1'
    · rw [if_neg h2]; exact h1'
theorem sqrt_sq (a : Nat) : ∃ s, sqrtS (mulP a a) = (s, true) ∧ (s = a % pM ∨ s = negP a) := by
  obtain ⟨r, hr⟩ : ∃ r, r = rootR (mulP a a) := ⟨_, rfl⟩
  have hs := root_sq a
  rw [← hr] at hs
  have hl : r < pM := by rw [hr]; exact root_lt_p _
  have hx : mulP a a % pM = mulP a a := by unfold mulP; rw [Nat.mod_mod]
  obtain ⟨b, hb⟩ : ∃ b, b = a % pM := ⟨_, rfl⟩
  have hbl : b < pM := by rw [hb]; exact mod_lt_p a
  have hng : negP a = negP b := by unfold negP; rw [hb, Nat.mod_mod]
  have hrr : r = b ∨ r + b = pM := by
    refine sq_roots prime_p hl hbl ?_
    have : mulP a a = b * b % pM := by rw [hb, ← Nat.mul_mod]; rfl
    rw [← this]; exact hs
  have p0 : 0 < pM := by omega
  have hor : (r = b ∧ negP r = negP b) ∨ (r = negP b ∧ negP r = b) := by
    rcases hrr with h | h
    · left; exact ⟨h, by rw [h]⟩
    · by_cases h0 : b = 0
      · omega
      · right
        have e1 := neg_of b hbl h0
        have e2 := neg_of r hl (by omega)
        exact ⟨by omega, by omega⟩
  unfold sqrtS
  rw [← hr, hx, if_neg (by rw [hs]; exact fun h => h rfl), hng, ← hb]
  by_cases h2 : r % pM % 2 = 1
  · rw [if_pos h2]
    refine ⟨_, rfl, ?_⟩
    rcases hor with h | h
    · exact .inr h.2
    · exact .inl h.2
  · rw [if_neg h2]
    refine ⟨_, rfl, ?_⟩
    rcases hor with h | h
    · exact .inl h.1
    · exact .inr h.1
end Go.Proofs.YtgemfpnlnipfnaaGreat

end
section
namespace Go.Proofs.YtgemfpnlnipfnaaGreat.Cu
open Go.RowKit Go.Proofs.YtgemfpnlnipfnaaGreat Go.Proofs.YtgemfpnlnipfnaaGreat.Sy
set_option maxRecDepth 100000
set_option maxHeartbeats 4000000

theorem key_whole (l : List UInt8) {n : Nat} (hl : l.length = n) : Value.agg (((l.map bv).toArray.toList.drop 0).take n).toArray = .agg (l.map bv).toArray := by
  rw [List.drop_zero, List.take_of_length_le (by simp; omega)]
theorem key_size (l : List UInt8) {n : Nat} (hl : l.length = n) : 0 + n ≤ (l.map bv).toArray.size := by simp; omega
theorem key_at (l : List UInt8) {n : Nat} (hl : l.length = n) (k : Nat) (hk : k < n) : (l.map bv).toArray[k]? = some (bv (l.getD k 0)) := by
  have : k < l.length := by omega
  simp [List.getD, this]
noncomputable def infU8 : TypeInfo := (Tryz.prog.info? 5).getD default
theorem info_u8 : Tryz.prog.info? 5 = some infU8 := by kernel_rfl
theorem mulR_n (w : World) (a b : Nat) (ha : a < K4) (hb : b < K4) : Calls Tryz.prog 260 #[fv a, fv b] w (Gets w (fv (mulP a b))) := by
  refine Sy.enter (args := [fv a, fv b]) Tryz.func260 rfl kL ?_
  refine sC ?_
  refine sM 374 (fcs a) (fun g0 => ?_)
  refine sM 374 (fcs b) (fun g1 => ?_)
  refine sM 374 (fcs 0) (fun g2 => ?_)
  refine sH (fun j => j == 4) ?_
  refine sD 0 rfl (.agg modcs) (qF 259 #[] (refP_any)) <| sD 1 rfl (fv a) (qL 0 g0 0 4 374 374 (fcs a) rfl Tryz.underlying374) <| sD 2 rfl (fv b) (qL 1 g1 0 4 374 374 (fcs b) rfl Tryz.underlying374) ?_
  obtain ⟨z1, hz1⟩ : ∃ z : Nat, z = mulP a b := ⟨_, rfl⟩
  have lz1 : z1 < K4 := by rw [hz1]; exact mod_lt _
  refine sD 3 rfl (fv z1) (qF 287 #[.agg modcs, fv a, fv b] (fun w => by rw [hz1]; exact mulR_any w a b lK lK)) <| sX 4 rfl 2 g2 374 (fcs 0) (fcs z1) (wS 0 374 (fcs z1) rfl) ?_
  refine sI ?_
  refine Sy.ret ?_
  rw [show (fv (mulP a b) : Value) = fv z1 from by rw [hz1]]
  exact rC (v := fv z1) 374 g2 2 (fcs z1) rfl Tryz.underlying374
theorem addR_n (w : World) (a b : Nat) (ha : a < K4) (hb : b < K4) : Calls Tryz.prog 288 #[fv a, fv b] w (Gets w (fv (addP a b))) := by
  refine Sy.enter (args := [fv a, fv b]) Tryz.func288 rfl kL ?_
  refine sC ?_
  refine sM 374 (fcs a) (fun g0 => ?_)
  refine sM 374 (fcs b) (fun g1 => ?_)
  refine sM 374 (fcs 0) (fun g2 => ?_)
  refine sH (fun j => j == 4) ?_
  refine sD 0 rfl (.agg modcs) (qF 259 #[] (refP_any)) <| sD 1 rfl (fv a) (qL 0 g0 0 4 374 374 (fcs a) rfl Tryz.underlying374) <| sD 2 rfl (fv b) (qL 1 g1 0 4 374 374 (fcs b) rfl Tryz.underlying374) ?_
  obtain ⟨z1, hz1⟩ : ∃ z : Nat, z = addP a b := ⟨_, rfl⟩
  have lz1 : z1 < K4 := by rw [hz1]; exact mod_lt _
  refine sD 3 rfl (fv z1) (qF 305 #[.agg modcs, fv a, fv b] (fun w => by rw [hz1]; exact addR_any w a b lK lK)) <| sX 4 rfl 2 g2 374 (fcs 0) (fcs z1) (wS 0 374 (fcs z1) rfl) ?_
  refine sI ?_
  refine Sy.ret ?_
  rw [show (fv (addP a b) : Value) = fv z1 from by rw [hz1]]
  exact rC (v := fv z1) 374 g2 2 (fcs z1) rfl Tryz.underlying374
def cubeN (x : Nat) : Nat := addP (mulP x (mulP x x)) 7
theorem cubeN_lt (x : Nat) : cubeN x < K4 := mod_lt _
theorem cubeR_n (w : World) (x : Nat) (hx : x < K4) : Calls Tryz.prog 261 #[fv x] w (Gets w (fv (cubeN x))) := by
  refine Sy.enter (args := [fv x]) Tryz.func261 rfl kL ?_
  refine sC ?_
  refine sM 374 (fcs x) (fun g0 => ?_)
  refine sM 374 (fcs 0) (fun g1 => ?_)
  refine sH (fun j => j == 7) ?_
  refine sD 0 rfl (fv x) (qL 0 g0 0 4 374 374 (fcs x) rfl Tryz.underlying374) <| sD 1 rfl (fv x) (qL 0 g0 0 4 374 374 (fcs x) rfl Tryz.underlying374) <| sD 2 rfl (fv x) (qL 0 g0 0 4 374 374 (fcs x) rfl Tryz.underlying374) ?_
  obtain ⟨z1, hz1⟩ : ∃ z : Nat, z = mulP x x := ⟨_, rfl⟩
  have lz1 : z1 < K4 := by rw [hz1]; exact mod_lt _
  refine sD 3 rfl (fv z1) (qF 260 #[fv x, fv x] (fun w => by rw [hz1]; exact mulR_n w x x lK lK)) ?_
  obtain ⟨z2, hz2⟩ : ∃ z : Nat, z = mulP x z1 := ⟨_, rfl⟩
  have lz2 : z2 < K4 := by rw [hz2]; exact mod_lt _
  refine sD 4 rfl (fv z2) (qF 260 #[fv x, fv z1] (fun w => by rw [hz2]; exact mulR_n w x z1 lK lK)) <| sD 5 rfl (fv 7) (qF 289 #[.int .u64 7] (fun w => small_c w 7 (by decide))) ?_
  obtain ⟨z3, hz3⟩ : ∃ z : Nat, z = addP z2 7 := ⟨_, rfl⟩
  have lz3 : z3 < K4 := by rw [hz3]; exact mod_lt _
  refine sD 6 rfl (fv z3) (qF 288 #[fv z2, fv 7] (fun w => by rw [hz3]; exact addR_n w z2 7 lK lK)) <| sX 7 rfl 1 g1 374 (fcs 0) (fcs z3) (wS 0 374 (fcs z3) rfl) ?_
  refine sI ?_
  refine Sy.ret ?_
  rw [show (fv (cubeN x) : Value) = fv z3 from by unfold cubeN; rw [hz3, hz2, hz1]]
  exact rC (v := fv z3) 374 g1 1 (fcs z3) rfl Tryz.underlying374
theorem cubeN_val (u : Fp) : cubeN u.val = (u * u * u + 7).val := by
  have e : u * (u * u) + 7 = u * u * u + 7 := by grobner
  rw [← e]
  rfl
def liftB (l : List UInt8) : Bool := decide (valB l < pM) && (sqrtS (cubeN (valB l))).2
theorem sqrt_fin (x : Nat) : (sqrtS x).1 < pM := by
  unfold sqrtS
  split
  · exact Nat.pos_of_ne_zero (by decide +kernel)
  · split
    · exact mod_lt_p _
    · show rootR x < pM
      rw [← rootR_red]; exact mod_lt_p _
def liftP (l : List UInt8) : Pt := if h : liftB l = true then some (⟨valB l, by unfold liftB at h; simp at h; exact h.1⟩, ⟨(sqrtS (cubeN (valB l))).1, sqrt_fin _⟩) else none
theorem lift_no {l : List UInt8} (h : liftB l = false) : liftP l = none := by unfold liftP; rw [dif_neg (by simp [h])]
theorem lift_yes {l : List UInt8} (h : liftB l = true) : ∃ u y : Fp, u.val = valB l ∧ y.val = (sqrtS (cubeN (valB l))).1 ∧ liftP l = some (u, y) ∧ y * y = u * u * u + 7 ∧ y.val % 2 = 0 := by
  refine ⟨_, _, rfl, rfl, by unfold liftP; rw [dif_pos h], ?_, ?_⟩
  · have h2 : (sqrtS (cubeN (valB l))).2 = true := by unfold liftB at h; simp at h; exact h.2
    have hm := sqrt_mul _ h2
    refine Fin.ext ?_
    have hv : valB l < pM := by unfold liftB at h; simp at h; exact h.1
    have e := cubeN_val ⟨valB l, hv⟩
    show mulP (sqrtS (cubeN (valB l))).1 (sqrtS (cubeN (valB l))).1 = _
    rw [hm, ← e]
    exact Nat.mod_eq_of_lt (mod_lt_p _)
  · have := sqrt_even (cubeN (valB l))
    rw [Nat.mod_eq_of_lt (sqrt_fin _)] at this
    exact this
theorem read_yes {l : List UInt8} {u : Fp} (h : u.val = valB l) : readS l = (u.val, true) := by
  unfold readS
  rw [if_pos (by rw [← h]; exact u.isLt), h]
theorem read_no {l : List UInt8} (h : ¬ valB l < pM) : readS l = (0, false) := by unfold readS; rw [if_neg h]
theorem lift_in (w : World) (l : List UInt8) (hl : l.length = 32) (u : Fp) (hu : u.val = valB l) : Calls Tryz.prog 253 #[.agg (l.map bv).toArray] w (Gets w (.tuple #[ptv (liftP l), .bool (liftB l)])) := by
  have cR : ∀ w, Calls Tryz.prog 275 #[.agg (l.map bv).toArray] w (Gets w (.tuple #[fv u.val, .bool true])) := fun w => by
    have h := read_any w l hl
    rw [read_yes hu] at h
    exact h
  refine Sy.enter (args := [.agg (l.map bv).toArray]) Tryz.func253 rfl kL ?_
  refine sC ?_
  refine sM 236 (l.map bv).toArray (fun g0 => ?_)
  refine sM 58 (pcs 0 0 false) (fun g1 => ?_)
  refine sP (.bool false) ?_
  refine sA ?_
  refine sS (.agg (l.map bv).toArray) (Quiet.load 0 g0 0 32 236 236 (l.map bv).toArray _ _ rfl kR kR Tryz.underlying236 rfl kR _ (key_whole l hl) (key_size l hl)) <| sS (.tuple #[fv u.val, .bool true]) (qF 275 #[.agg (l.map bv).toArray] (cR)) <| sP (.tuple #[fv u.val, .bool true]) <| sP (fv u.val) <| sP (.bool true) ?_
  refine sM 56 (fcs 0) (fun g2 => ?_)
  refine sW 2 g2 56 (fcs 0) (fcs u.val) (wS 0 56 (fcs u.val) rfl) <| sP (.bool true) ?_
  refine sA ?_
  refine sS (fv u.val) (qL 2 g2 0 4 56 56 (fcs u.val) rfl Tryz.underlying56) ?_
  obtain ⟨z1, hz1⟩ : ∃ z : Fp, z = u * u * u + 7 := ⟨_, rfl⟩
  refine sS (fv z1.val) (qF 257 #[fv u.val] (by rw [hz1]; exact fun w => square_c w u)) ?_
  obtain ⟨r1, hr1⟩ : ∃ z : Nat, z = (sqrtS z1.val).1 := ⟨_, rfl⟩
  obtain ⟨k1, hk1⟩ : ∃ z : Bool, z = (sqrtS z1.val).2 := ⟨_, rfl⟩
  have lr1 : r1 < K4 := by rw [hr1]; exact sqrt_lt _
  refine sS (.tuple #[fv r1, .bool k1]) (qF 276 #[fv z1.val] (fun w => by rw [hr1, hk1]; exact sqrt_any w z1.val lK)) <| sP (.tuple #[fv r1, .bool k1]) <| sP (fv r1) <| sP (.bool k1) ?_
  refine sM 56 (fcs 0) (fun g3 => ?_)
  refine sW 3 g3 56 (fcs 0) (fcs r1) (wS 0 56 (fcs r1) rfl) <| sP (.bool k1) ?_
  refine sG ?_
  refine Sy.seq ?_
  refine sC ?_
  refine sP (.bool true) <| sP (.bool false) <| sP (.bool false) <| sP (.bool k1) ?_
  cases k1
  · refine sP (.bool true) <| sP (.bool true) ?_
    refine sG ?_
    refine sT ?_
    refine sC ?_
    refine sS (pv 0 0 true) (qF 220 #[] (zero_c)) <| sW 1 g1 58 (pcs 0 0 false) (pcs 0 0 true) (wS 0 58 (pcs 0 0 true) rfl) <| sP (.bool false) ?_
    refine sG ?_
    refine Sy.ret ?_
    refine Sy.then_ret ?_
    rw [show (.tuple #[ptv (liftP l), .bool (liftB l)] : Value) = .tuple #[pv 0 0 true, .bool false] from by
      have hb : liftB l = false := by unfold liftB; rw [← hu, cubeN_val, ← hz1, ← hk1]; simp
      rw [hb, lift_no hb]; rfl]
    exact Sy.ret2 (v := pv 0 0 true) (u := .bool false) rfl (.inl (Res.cell (ty' := 58) g1 1 (pcs 0 0 true) _ kR kR Tryz.underlying58 rfl kR kR)) (.inl (show _ = _ by kernel_rfl))
  · refine sP (.bool false) <| sP (.bool false) ?_
    refine sG ?_
    refine sU ?_
    refine Sy.skip ?_
    refine sB ?_
    refine sS (fv u.val) (qL 2 g2 0 4 56 56 (fcs u.val) rfl Tryz.underlying56) <| sS (fv r1) (qL 3 g3 0 4 56 56 (fcs r1) rfl Tryz.underlying56) <| sP (pv u.val r1 false) <| sW 1 g1 58 (pcs 0 0 false) (pcs u.val r1 false) (wS 0 58 (pcs u.val r1 false) rfl) <| sP (.bool true) ?_
    refine sG ?_
    refine Sy.ret ?_
    rw [show (.tuple #[ptv (liftP l), .bool (liftB l)] : Value) = .tuple #[pv u.val r1 false, .bool true] from by
      have hb : liftB l = true := by unfold liftB; rw [← hu, cubeN_val, ← hz1, ← hk1]; simp [u.isLt]
      obtain ⟨u2, y2, e1, e2, e3, _, _⟩ := lift_yes hb
      rw [hb, e3]
      unfold ptv
      simp only
      rw [e1, e2, ← hu, cubeN_val, ← hz1, ← hr1]]
    exact Sy.ret2 (v := pv u.val r1 false) (u := .bool true) rfl (.inl (Res.cell (ty' := 58) g1 1 (pcs u.val r1 false) _ kR kR Tryz.underlying58 rfl kR kR)) (.inl (show _ = _ by kernel_rfl))
theorem lift_out (w : World) (l : List UInt8) (hl : l.length = 32) (hu : ¬ valB l < pM) : Calls Tryz.prog 253 #[.agg (l.map bv).toArray] w (Gets w (.tuple #[ptv (liftP l), .bool (liftB l)])) := by
  have cR : ∀ w, Calls Tryz.prog 275 #[.agg (l.map bv).toArray] w (Gets w (.tuple #[fv (0 : Fp).val, .bool false])) := fun w => by
    have h := read_any w l hl
    rw [read_no hu] at h
    exact h
  refine Sy.enter (args := [.agg (l.map bv).toArray]) Tryz.func253 rfl kL ?_
  refine sC ?_
  refine sM 236 (l.map bv).toArray (fun g0 => ?_)
  refine sM 58 (pcs 0 0 false) (fun g1 => ?_)
  refine sP (.bool false) ?_
  refine sA ?_
  refine sS (.agg (l.map bv).toArray) (Quiet.load 0 g0 0 32 236 236 (l.map bv).toArray _ _ rfl kR kR Tryz.underlying236 rfl kR _ (key_whole l hl) (key_size l hl)) <| sS (.tuple #[fv ((0 : Fp).val), .bool false]) (qF 275 #[.agg (l.map bv).toArray] (cR)) <| sP (.tuple #[fv ((0 : Fp).val), .bool false]) <| sP (fv ((0 : Fp).val)) <| sP (.bool false) ?_
  refine sM 56 (fcs 0) (fun g2 => ?_)
  refine sW 2 g2 56 (fcs 0) (fcs ((0 : Fp).val)) (wS 0 56 (fcs ((0 : Fp).val)) rfl) <| sP (.bool false) ?_
  refine sA ?_
  refine sS (fv ((0 : Fp).val)) (qL 2 g2 0 4 56 56 (fcs ((0 : Fp).val)) rfl Tryz.underlying56) ?_
  obtain ⟨z1, hz1⟩ : ∃ z : Fp, z = (0 : Fp) * (0 : Fp) * (0 : Fp) + 7 := ⟨_, rfl⟩
  refine sS (fv z1.val) (qF 257 #[fv ((0 : Fp).val)] (by rw [hz1]; exact fun w => square_c w (0 : Fp))) ?_
  obtain ⟨r1, hr1⟩ : ∃ z : Nat, z = (sqrtS z1.val).1 := ⟨_, rfl⟩
  obtain ⟨k1, hk1⟩ : ∃ z : Bool, z = (sqrtS z1.val).2 := ⟨_, rfl⟩
  have lr1 : r1 < K4 := by rw [hr1]; exact sqrt_lt _
  refine sS (.tuple #[fv r1, .bool k1]) (qF 276 #[fv z1.val] (fun w => by rw [hr1, hk1]; exact sqrt_any w z1.val lK)) <| sP (.tuple #[fv r1, .bool k1]) <| sP (fv r1) <| sP (.bool k1) ?_
  refine sM 56 (fcs 0) (fun g3 => ?_)
  refine sW 3 g3 56 (fcs 0) (fcs r1) (wS 0 56 (fcs r1) rfl) <| sP (.bool k1) ?_
  refine sG ?_
  refine Sy.seq ?_
  refine sC ?_
  refine sP (.bool false) <| sP (.bool true) <| sP (.bool true) ?_
  refine sN ?_
  refine sN ?_
  refine sP (.bool true) ?_
  refine sG ?_
  refine sT ?_
  refine sC ?_
  refine sS (pv 0 0 true) (qF 220 #[] (zero_c)) <| sW 1 g1 58 (pcs 0 0 false) (pcs 0 0 true) (wS 0 58 (pcs 0 0 true) rfl) <| sP (.bool false) ?_
  refine sG ?_
  refine Sy.ret ?_
  refine Sy.then_ret ?_
  rw [show (.tuple #[ptv (liftP l), .bool (liftB l)] : Value) = .tuple #[pv 0 0 true, .bool false] from by
      have hb : liftB l = false := by unfold liftB; simp [hu]
      rw [hb, lift_no hb]; rfl]
  exact Sy.ret2 (v := pv 0 0 true) (u := .bool false) rfl (.inl (Res.cell (ty' := 58) g1 1 (pcs 0 0 true) _ kR kR Tryz.underlying58 rfl kR kR)) (.inl (show _ = _ by kernel_rfl))
theorem lift_any (w : World) (l : List UInt8) (hl : l.length = 32) : Calls Tryz.prog 253 #[.agg (l.map bv).toArray] w (Gets w (.tuple #[ptv (liftP l), .bool (liftB l)])) := by
  by_cases h : valB l < pM
  · exact lift_in w l hl ⟨valB l, h⟩ rfl
  · exact lift_out w l hl h
end Go.Proofs.YtgemfpnlnipfnaaGreat.Cu

end
section
namespace Go.Proofs.YtgemfpnlnipfnaaGreat.Cu
open Go.RowKit Go.Proofs.YtgemfpnlnipfnaaGreat Go.Proofs.YtgemfpnlnipfnaaGreat.Sy

def encS : Pt → List UInt8
  | none => List.replicate 33 0
  | some (x, y) => (if y.val % 2 = 1 then 3 else 2) :: bytesS x.val
theorem encS_length : ∀ P, (encS P).length = 33
  | none => rfl
  | some (x, y) => by simp [encS, bytesS_length]
def candS (b : List UInt8) : Pt := if b.head? = some 3 then Ec.neg (liftP b.tail) else liftP b.tail
def decOk (b : List UInt8) : Bool := decide (b.length = 33 ∧ encS (candS b) = b)
def decP (b : List UInt8) : Pt := if decOk b then candS b else none
theorem liftP_on (l : List UInt8) : Ec.On (liftP l) := by
  cases h : liftB l
  · rw [lift_no h]; trivial
  · obtain ⟨u, y, _, _, e, ho, _⟩ := lift_yes h
    rw [e]; exact ho
theorem candS_on (b : List UInt8) : Ec.On (candS b) := by
  unfold candS
  split
  · exact Ec.On.neg (liftP_on _)
  · exact liftP_on _
theorem decP_on (b : List UInt8) : Ec.On (decP b) := by
  unfold decP
  split
  · exact candS_on b
  · trivial
theorem decP_ok {b : List UInt8} (h : decOk b = true) : decP b = candS b ∧ encS (decP b) = b ∧ b.length = 33 := by
  have e : decP b = candS b := by unfold decP; rw [if_pos h]
  unfold decOk at h
  have h := of_decide_eq_true h
  exact ⟨e, by rw [e]; exact h.2, h.1⟩
theorem decP_no {b : List UInt8} (h : decOk b = false) : decP b = none := by unfold decP; rw [if_neg (by simp [h])]
theorem no_zero : liftP (List.replicate 32 0) = none := lift_no (by decide +kernel)
theorem val_neg' (y : Fp) (h : y ≠ 0) : (-y).val % 2 ≠ y.val % 2 := by
  have hs : y + -y = 0 := by grobner
  have h1 := Ec.val_of_sum hs h
  have h2 : pM % 2 = 1 := by decide +kernel
  omega
theorem lift_x (x y : Fp) (h : y * y = x * x * x + 7) : liftP (bytesS x.val) = if y.val % 2 = 1 then some (x, -y) else some (x, y) := by
  have hv : valB (bytesS x.val) = x.val := valB_bytesS _ (lt4 x)
  have hc : cubeN x.val = mulP y.val y.val := by
    rw [cubeN_val, ← h]
    rfl
  obtain ⟨s, hs, hsn⟩ := sqrt_sq y.val
  have hb : liftB (bytesS x.val) = true := by
    unfold liftB
    rw [hv, hc, hs]
    simp [x.isLt]
  obtain ⟨u, r, e1, e2, e3, e4, e5⟩ := lift_yes hb
  rw [hv] at e1
  have eu : u = x := Fin.ext e1
  subst eu
  rw [hv, hc, hs] at e2
  have e2 : r.val = s := e2
  rw [e3]
  have hy := no_two u y h
  rcases hsn with q | q
  · have er : r = y := Fin.ext (by rw [e2, q, Nat.mod_eq_of_lt y.isLt])
    subst er
    rw [if_neg (by omega)]
  · have er : r = -y := Fin.ext (by rw [e2, q, val_neg])
    subst er
    have := val_neg' y hy
    rw [if_pos (by omega)]
theorem cand_enc {P : Pt} (h : Ec.On P) : candS (encS P) = P := by
  rcases P with _ | ⟨x, y⟩
  · have e : encS none = 0 :: List.replicate 32 0 := rfl
    have hne : ¬ ((0 : UInt8) :: List.replicate 32 0).head? = some 3 := by decide
    unfold candS
    rw [e, if_neg hne]
    exact no_zero
  · have hl := lift_x x y h
    have e : encS (some (x, y)) = (if y.val % 2 = 1 then 3 else 2) :: bytesS x.val := rfl
    unfold candS
    rw [e]
    by_cases ho : y.val % 2 = 1
    · rw [if_pos ho] at hl ⊢
      simp only [List.head?_cons, if_true, List.tail_cons, hl]
      show some (x, - -y) = _
      rw [Ec.neg_neg']
    · rw [if_neg ho] at hl ⊢
      simp only [List.head?_cons, List.tail_cons, hl]
      rw [if_neg (by decide)]
theorem dec_enc {P : Pt} (h : Ec.On P) : decOk (encS P) = true ∧ decP (encS P) = P := by
  have hc := cand_enc h
  have ho : decOk (encS P) = true := by
    unfold decOk
    rw [hc]
    exact decide_eq_true ⟨encS_length P, rfl⟩
  exact ⟨ho, by unfold decP; rw [if_pos ho, hc]⟩
theorem list32 (m : List UInt8) (h : m.length = 32) : ∃ a0 a1 a2 a3 a4 a5 a6 a7 a8 a9 a10 a11 a12 a13 a14 a15 a16 a17 a18 a19 a20 a21 a22 a23 a24 a25 a26 a27 a28 a29 a30 a31 : UInt8, m = [a0, a1, a2, a3, a4, a5, a6, a7, a8, a9, a10, a11, a12, a13, a14, a15, a16, a17, a18, a19, a20, a21, a22, a23, a24, a25, a26, a27, a28, a29, a30, a31] := by
  match m, h with
  | [a0, a1, a2, a3, a4, a5, a6, a7, a8, a9, a10, a11, a12, a13, a14, a15, a16, a17, a18, a19, a20, a21, a22, a23, a24, a25, a26, a27, a28, a29, a30, a31], _ => exact ⟨a0, a1, a2, a3, a4, a5, a6, a7, a8, a9, a10, a11, a12, a13, a14, a15, a16, a17, a18, a19, a20, a21, a22, a23, a24, a25, a26, a27, a28, a29, a30, a31,  rfl⟩
theorem list33 (m : List UInt8) (h : m.length = 33) : ∃ o0 o1 o2 o3 o4 o5 o6 o7 o8 o9 o10 o11 o12 o13 o14 o15 o16 o17 o18 o19 o20 o21 o22 o23 o24 o25 o26 o27 o28 o29 o30 o31 o32 : UInt8, m = (o0 :: o1 :: o2 :: [o3, o4, o5, o6, o7, o8, o9, o10, o11, o12, o13, o14, o15, o16, o17, o18, o19, o20, o21, o22, o23, o24, o25, o26, o27, o28, o29, o30, o31, o32]) := by
  obtain ⟨b, t, rfl⟩ : ∃ b t, m = b :: t := by cases m with
    | nil => cases h
    | cons b t => exact ⟨b, t, rfl⟩
  obtain ⟨a0, a1, a2, a3, a4, a5, a6, a7, a8, a9, a10, a11, a12, a13, a14, a15, a16, a17, a18, a19, a20, a21, a22, a23, a24, a25, a26, a27, a28, a29, a30, a31, e⟩ := list32 t (by simpa using h)
  exact ⟨b, a0, a1, a2, a3, a4, a5, a6, a7, a8, a9, a10, a11, a12, a13, a14, a15, a16, a17, a18, a19, a20, a21, a22, a23, a24, a25, a26, a27, a28, a29, a30, a31, by rw [e]⟩
theorem eql_u8 (w : World) (F : Slots) (o : Oper) (x y : Operand) (a : UInt8) (k : Nat) (hk : k < 256) {yt : TypeId} (ho : o.op = .binOp .eql 5 x y yt) (hx : evF F x = bv a) (hy : evF F y = .int .u8 k) : (execOp (evF F) o).run Tryz.prog w = .ok (.value (.bool (decide (a = UInt8.ofNat k)))) w := by
  have h1 := Tryz.underlying5
  have e : ((a.toNat : Int) == (k : Int)) = decide (a = UInt8.ofNat k) := by
    rw [Bool.eq_iff_iff]
    simp
    constructor
    · intro h
      have : a.toNat = k := by omega
      exact UInt8.toNat_inj.1 (by rw [this, UInt8.toNat_ofNat']; omega)
    · rintro rfl
      rw [UInt8.toNat_ofNat']
      omega
  unfold execOp
  simp only [ho, hx, hy, bv]
  simp [eqGuard, binOp, Op.intCmp, e]
end Go.Proofs.YtgemfpnlnipfnaaGreat.Cu

end
section
namespace Go.Proofs.YtgemfpnlnipfnaaGreat.Cu
open Go.RowKit Go.Proofs.YtgemfpnlnipfnaaGreat Go.Proofs.YtgemfpnlnipfnaaGreat.Sy
set_option maxRecDepth 100000
set_option maxHeartbeats 4000000

theorem cand_3 (t : List UInt8) : candS (3 :: t) = Ec.neg (liftP t) := rfl
theorem cand_ne (b : UInt8) (t : List UInt8) (h : b ≠ 3) : candS (b :: t) = liftP t := by
  have : ¬ (b :: t).head? = some 3 := by simpa using h
  unfold candS
  rw [if_neg this]
  rfl
theorem neq_33 (w : World) (F : Slots) (o : Oper) (x y : Operand) (a b : List UInt8) (ha : a.length = 33) (hb : b.length = 33) {yt : TypeId} (ho : o.op = .binOp .neq 343 x y yt) (hx : evF F x = .agg (a.map bv).toArray) (hy : evF F y = .agg (b.map bv).toArray) : (execOp (evF F) o).run Tryz.prog w = .ok (.value (.bool (decide (a ≠ b)))) w := by
  have h1 : (eqGuard .neq 343 x y (.agg (a.map bv).toArray) (.agg (b.map bv).toArray)).run Tryz.prog w = .ok () w := by go_simp
  have h2 : (binOp .neq 343 (.agg (a.map bv).toArray) (.agg (b.map bv).toArray)).run Tryz.prog w = .ok (.bool (decide (a ≠ b))) w := by
    have h := run_equalIn_bytes (P := Tryz.prog) w 9998 343 5 33 Tryz.underlying343 Tryz.underlying5 (fun W => by kernel_rfl) a b ha hb
    rw [run_neq_struct, show (10000 : Nat) = 9998 + 2 from rfl, show (Op.equalIn (9998 + 2) 343 (.agg (a.map bv).toArray) (.agg (b.map bv).toArray)).run Tryz.prog w = _ from h]
    by_cases e : a = b <;> simp [e]
  unfold execOp
  simp only [ho, hx, hy, Sem.run_bind, h1, h2, Result.andThen_ok, Sem.run_pure]
theorem neq_len (w : World) (F : Slots) (o : Oper) (x y : Operand) (n : Nat) (hn : n ≠ 33) {yt : TypeId} (ho : o.op = .binOp .neq 3 x y yt) (hx : evF F x = .int .i64 n) (hy : evF F y = .int .i64 33) : (execOp (evF F) o).run Tryz.prog w = .ok (.value (.bool true)) w := by
  unfold execOp
  simp only [ho, hx, hy]
  simp [eqGuard, binOp, Op.intCmp]
  omega
theorem enc_none (w : World) (x y : Nat) (i : Bool) (hx : x < K4) (hy : y < K4) (h : dec x y i = none) : Calls Tryz.prog 217 #[pv x y i] w (Gets w (.agg ((encS none).map bv).toArray)) := by
  refine Sy.enter (args := [pv x y i]) Tryz.func217 rfl kL ?_
  refine sC ?_
  refine sM 58 (pcs x y i) (fun g0 => ?_)
  refine Sy.make kR 343 (.int .u8 0 :: .int .u8 0 :: .int .u8 0 :: [.int .u8 0, .int .u8 0, .int .u8 0, .int .u8 0, .int .u8 0, .int .u8 0, .int .u8 0, .int .u8 0, .int .u8 0, .int .u8 0, .int .u8 0, .int .u8 0, .int .u8 0, .int .u8 0, .int .u8 0, .int .u8 0, .int .u8 0, .int .u8 0, .int .u8 0, .int .u8 0, .int .u8 0, .int .u8 0, .int .u8 0, .int .u8 0, .int .u8 0, .int .u8 0, .int .u8 0, .int .u8 0, .int .u8 0, .int .u8 0]).toArray ptr kF (fun g1 => ?_)
  refine sA ?_
  refine Sy.make kR 343 (.int .u8 0 :: .int .u8 0 :: .int .u8 0 :: [.int .u8 0, .int .u8 0, .int .u8 0, .int .u8 0, .int .u8 0, .int .u8 0, .int .u8 0, .int .u8 0, .int .u8 0, .int .u8 0, .int .u8 0, .int .u8 0, .int .u8 0, .int .u8 0, .int .u8 0, .int .u8 0, .int .u8 0, .int .u8 0, .int .u8 0, .int .u8 0, .int .u8 0, .int .u8 0, .int .u8 0, .int .u8 0, .int .u8 0, .int .u8 0, .int .u8 0, .int .u8 0, .int .u8 0, .int .u8 0]).toArray ptr kF (fun g2 => ?_)
  refine sA ?_
  refine sS (pv x y i) (qL 0 g0 0 9 58 58 (pcs x y i) rfl Tryz.underlying58) <| sS (pv 0 0 true) (qF 250 #[pv x y i] (fun w => by have hrr := right_c w x y i lK lK; rw [h] at hrr; exact hrr)) <| sW 0 g0 58 (pcs x y i) (pcs 0 0 true) (wS 0 58 (pcs 0 0 true) rfl) ?_
  refine sG ?_
  refine Sy.seq ?_
  refine Sy.seq ?_
  refine Sy.regionD (fun j => false) kR ?_
  refine sD 0 rfl (pv 0 0 true) (qL 0 g0 0 9 58 58 (pcs 0 0 true) rfl Tryz.underlying58) <| sD 1 rfl (pv 0 0 true) (qF 220 #[] (zero_c)) <| sD 2 rfl (.bool true) (Quiet.pure (fun w => eql_pt w _ _ _ _ 0 0 true 0 0 true rfl rfl rfl (by decide) (by decide) (by decide) (by decide))) ?_
  refine sI ?_
  refine sT ?_
  refine sC ?_
  refine sS (.agg ((.int .u8 0 :: .int .u8 0 :: .int .u8 0 :: [.int .u8 0, .int .u8 0, .int .u8 0, .int .u8 0, .int .u8 0, .int .u8 0, .int .u8 0, .int .u8 0, .int .u8 0, .int .u8 0, .int .u8 0, .int .u8 0, .int .u8 0, .int .u8 0, .int .u8 0, .int .u8 0, .int .u8 0, .int .u8 0, .int .u8 0, .int .u8 0, .int .u8 0, .int .u8 0, .int .u8 0, .int .u8 0, .int .u8 0, .int .u8 0, .int .u8 0, .int .u8 0, .int .u8 0, .int .u8 0]) : List Value).toArray) (Quiet.load 2 g2 0 33 343 343 (.int .u8 0 :: .int .u8 0 :: .int .u8 0 :: [.int .u8 0, .int .u8 0, .int .u8 0, .int .u8 0, .int .u8 0, .int .u8 0, .int .u8 0, .int .u8 0, .int .u8 0, .int .u8 0, .int .u8 0, .int .u8 0, .int .u8 0, .int .u8 0, .int .u8 0, .int .u8 0, .int .u8 0, .int .u8 0, .int .u8 0, .int .u8 0, .int .u8 0, .int .u8 0, .int .u8 0, .int .u8 0, .int .u8 0, .int .u8 0, .int .u8 0, .int .u8 0, .int .u8 0, .int .u8 0]).toArray _ _ rfl kR kR Tryz.underlying343 rfl kR _ kR kL) ?_
  refine Sy.write kR 1 g1 343 (.int .u8 0 :: .int .u8 0 :: .int .u8 0 :: [.int .u8 0, .int .u8 0, .int .u8 0, .int .u8 0, .int .u8 0, .int .u8 0, .int .u8 0, .int .u8 0, .int .u8 0, .int .u8 0, .int .u8 0, .int .u8 0, .int .u8 0, .int .u8 0, .int .u8 0, .int .u8 0, .int .u8 0, .int .u8 0, .int .u8 0, .int .u8 0, .int .u8 0, .int .u8 0, .int .u8 0, .int .u8 0, .int .u8 0, .int .u8 0, .int .u8 0, .int .u8 0, .int .u8 0, .int .u8 0]).toArray (.int .u8 0 :: .int .u8 0 :: .int .u8 0 :: [.int .u8 0, .int .u8 0, .int .u8 0, .int .u8 0, .int .u8 0, .int .u8 0, .int .u8 0, .int .u8 0, .int .u8 0, .int .u8 0, .int .u8 0, .int .u8 0, .int .u8 0, .int .u8 0, .int .u8 0, .int .u8 0, .int .u8 0, .int .u8 0, .int .u8 0, .int .u8 0, .int .u8 0, .int .u8 0, .int .u8 0, .int .u8 0, .int .u8 0, .int .u8 0, .int .u8 0, .int .u8 0, .int .u8 0, .int .u8 0]).toArray kR (Writes.store 0 343 (.int .u8 0 :: .int .u8 0 :: .int .u8 0 :: [.int .u8 0, .int .u8 0, .int .u8 0, .int .u8 0, .int .u8 0, .int .u8 0, .int .u8 0, .int .u8 0, .int .u8 0, .int .u8 0, .int .u8 0, .int .u8 0, .int .u8 0, .int .u8 0, .int .u8 0, .int .u8 0, .int .u8 0, .int .u8 0, .int .u8 0, .int .u8 0, .int .u8 0, .int .u8 0, .int .u8 0, .int .u8 0, .int .u8 0, .int .u8 0, .int .u8 0, .int .u8 0, .int .u8 0, .int .u8 0]).toArray _ _ rfl kR kR kR kL kR kR) ?_
  refine sG ?_
  refine Sy.ret ?_
  refine Sy.then_ret ?_
  rw [show (.agg ((encS none).map bv).toArray : Value) = .agg ((.int .u8 0 :: .int .u8 0 :: .int .u8 0 :: [.int .u8 0, .int .u8 0, .int .u8 0, .int .u8 0, .int .u8 0, .int .u8 0, .int .u8 0, .int .u8 0, .int .u8 0, .int .u8 0, .int .u8 0, .int .u8 0, .int .u8 0, .int .u8 0, .int .u8 0, .int .u8 0, .int .u8 0, .int .u8 0, .int .u8 0, .int .u8 0, .int .u8 0, .int .u8 0, .int .u8 0, .int .u8 0, .int .u8 0, .int .u8 0, .int .u8 0, .int .u8 0, .int .u8 0, .int .u8 0]) : List Value).toArray from by kernel_rfl]
  exact Sy.ret1 (v := .agg ((.int .u8 0 :: .int .u8 0 :: .int .u8 0 :: [.int .u8 0, .int .u8 0, .int .u8 0, .int .u8 0, .int .u8 0, .int .u8 0, .int .u8 0, .int .u8 0, .int .u8 0, .int .u8 0, .int .u8 0, .int .u8 0, .int .u8 0, .int .u8 0, .int .u8 0, .int .u8 0, .int .u8 0, .int .u8 0, .int .u8 0, .int .u8 0, .int .u8 0, .int .u8 0, .int .u8 0, .int .u8 0, .int .u8 0, .int .u8 0, .int .u8 0, .int .u8 0, .int .u8 0, .int .u8 0]) : List Value).toArray) rfl (.inl (Res.cell (ty' := 343) g1 1 (.int .u8 0 :: .int .u8 0 :: .int .u8 0 :: [.int .u8 0, .int .u8 0, .int .u8 0, .int .u8 0, .int .u8 0, .int .u8 0, .int .u8 0, .int .u8 0, .int .u8 0, .int .u8 0, .int .u8 0, .int .u8 0, .int .u8 0, .int .u8 0, .int .u8 0, .int .u8 0, .int .u8 0, .int .u8 0, .int .u8 0, .int .u8 0, .int .u8 0, .int .u8 0, .int .u8 0, .int .u8 0, .int .u8 0, .int .u8 0, .int .u8 0, .int .u8 0, .int .u8 0, .int .u8 0]).toArray _ kR kR Tryz.underlying343 rfl kR kR))
theorem enc_some (w : World) (x y : Nat) (i : Bool) (hx : x < K4) (hy : y < K4) (u v : Fp) (h : dec x y i = some (u, v)) : Calls Tryz.prog 217 #[pv x y i] w (Gets w (.agg ((encS (some (u, v))).map bv).toArray)) := by
  obtain ⟨a0, a1, a2, a3, a4, a5, a6, a7, a8, a9, a10, a11, a12, a13, a14, a15, a16, a17, a18, a19, a20, a21, a22, a23, a24, a25, a26, a27, a28, a29, a30, a31, hm⟩ := list32 (bytesS u.val) (bytesS_length _)
  have cB : ∀ w, Calls Tryz.prog 252 #[fv u.val] w (Gets w (.agg ((bv a0 :: bv a1 :: [bv a2, bv a3, bv a4, bv a5, bv a6, bv a7, bv a8, bv a9, bv a10, bv a11, bv a12, bv a13, bv a14, bv a15, bv a16, bv a17, bv a18, bv a19, bv a20, bv a21, bv a22, bv a23, bv a24, bv a25, bv a26, bv a27, bv a28, bv a29, bv a30, bv a31]) : List Value).toArray)) := fun w => by
    have hh := bytes_any w u.val (lt4 u)
    rw [Nat.mod_eq_of_lt u.isLt, hm] at hh
    exact hh
  refine Sy.enter (args := [pv x y i]) Tryz.func217 rfl kL ?_
  refine sC ?_
  refine sM 58 (pcs x y i) (fun g0 => ?_)
  refine Sy.make kR 343 (.int .u8 0 :: .int .u8 0 :: .int .u8 0 :: [.int .u8 0, .int .u8 0, .int .u8 0, .int .u8 0, .int .u8 0, .int .u8 0, .int .u8 0, .int .u8 0, .int .u8 0, .int .u8 0, .int .u8 0, .int .u8 0, .int .u8 0, .int .u8 0, .int .u8 0, .int .u8 0, .int .u8 0, .int .u8 0, .int .u8 0, .int .u8 0, .int .u8 0, .int .u8 0, .int .u8 0, .int .u8 0, .int .u8 0, .int .u8 0, .int .u8 0, .int .u8 0, .int .u8 0, .int .u8 0]).toArray ptr kF (fun g1 => ?_)
  refine sA ?_
  refine Sy.make kR 343 (.int .u8 0 :: .int .u8 0 :: .int .u8 0 :: [.int .u8 0, .int .u8 0, .int .u8 0, .int .u8 0, .int .u8 0, .int .u8 0, .int .u8 0, .int .u8 0, .int .u8 0, .int .u8 0, .int .u8 0, .int .u8 0, .int .u8 0, .int .u8 0, .int .u8 0, .int .u8 0, .int .u8 0, .int .u8 0, .int .u8 0, .int .u8 0, .int .u8 0, .int .u8 0, .int .u8 0, .int .u8 0, .int .u8 0, .int .u8 0, .int .u8 0, .int .u8 0, .int .u8 0, .int .u8 0]).toArray ptr kF (fun g2 => ?_)
  refine sA ?_
  refine sS (pv x y i) (qL 0 g0 0 9 58 58 (pcs x y i) rfl Tryz.underlying58) <| sS (pv u.val v.val false) (qF 250 #[pv x y i] (fun w => by have hrr := right_c w x y i lK lK; rw [h] at hrr; exact hrr)) <| sW 0 g0 58 (pcs x y i) (pcs u.val v.val false) (wS 0 58 (pcs u.val v.val false) rfl) ?_
  refine sG ?_
  refine Sy.seq ?_
  refine Sy.seq ?_
  refine Sy.regionD (fun j => false) kR ?_
  refine sD 0 rfl (pv u.val v.val false) (qL 0 g0 0 9 58 58 (pcs u.val v.val false) rfl Tryz.underlying58) <| sD 1 rfl (pv 0 0 true) (qF 220 #[] (zero_c)) <| sD 2 rfl (.bool false) (Quiet.pure (fun w => eql_pt_ne w _ _ _ _ _ _ _ _ _ _ rfl rfl rfl lK lK lK lK (by decide))) ?_
  refine sI ?_
  refine sU ?_
  refine Sy.skip ?_
  refine sB ?_
  refine sP (.pointer (some ⟨g2, 0, none⟩)) ?_
  refine Sy.write kR 2 g2 343 (.int .u8 0 :: .int .u8 0 :: .int .u8 0 :: [.int .u8 0, .int .u8 0, .int .u8 0, .int .u8 0, .int .u8 0, .int .u8 0, .int .u8 0, .int .u8 0, .int .u8 0, .int .u8 0, .int .u8 0, .int .u8 0, .int .u8 0, .int .u8 0, .int .u8 0, .int .u8 0, .int .u8 0, .int .u8 0, .int .u8 0, .int .u8 0, .int .u8 0, .int .u8 0, .int .u8 0, .int .u8 0, .int .u8 0, .int .u8 0, .int .u8 0, .int .u8 0, .int .u8 0, .int .u8 0]).toArray (.int .u8 2 :: .int .u8 0 :: .int .u8 0 :: [.int .u8 0, .int .u8 0, .int .u8 0, .int .u8 0, .int .u8 0, .int .u8 0, .int .u8 0, .int .u8 0, .int .u8 0, .int .u8 0, .int .u8 0, .int .u8 0, .int .u8 0, .int .u8 0, .int .u8 0, .int .u8 0, .int .u8 0, .int .u8 0, .int .u8 0, .int .u8 0, .int .u8 0, .int .u8 0, .int .u8 0, .int .u8 0, .int .u8 0, .int .u8 0, .int .u8 0, .int .u8 0, .int .u8 0, .int .u8 0]).toArray kR (wO 0 5 (.int .u8 2) rfl) ?_
  refine sG ?_
  refine Sy.seq ?_
  refine sC ?_
  refine sP (.pointer (some ⟨g0, 4, none⟩)) <| sS (fv v.val) (qL 0 g0 4 4 58 56 (pcs u.val v.val false) rfl Tryz.underlying56) ?_
  obtain ⟨b1, hb1⟩ : ∃ z : Bool, z = decide (v.val % pM % 2 = 1) := ⟨_, rfl⟩
  refine sS (.bool b1) (qF 251 #[fv v.val] (fun w => by rw [hb1]; exact odd_any w v.val lK)) ?_
  refine sG ?_
  cases b1
  · refine sU ?_
    refine Sy.skip ?_
    refine sB ?_
    refine sP (.pointer (some ⟨g0, 0, none⟩)) <| sS (fv u.val) (qL 0 g0 0 4 58 56 (pcs u.val v.val false) rfl Tryz.underlying56) <| sS (.agg ((bv a0 :: bv a1 :: [bv a2, bv a3, bv a4, bv a5, bv a6, bv a7, bv a8, bv a9, bv a10, bv a11, bv a12, bv a13, bv a14, bv a15, bv a16, bv a17, bv a18, bv a19, bv a20, bv a21, bv a22, bv a23, bv a24, bv a25, bv a26, bv a27, bv a28, bv a29, bv a30, bv a31]) : List Value).toArray) (qF 252 #[fv u.val] (cB)) ?_
    refine Sy.make kR 36 (.int .u8 0 :: .int .u8 0 :: [.int .u8 0, .int .u8 0, .int .u8 0, .int .u8 0, .int .u8 0, .int .u8 0, .int .u8 0, .int .u8 0, .int .u8 0, .int .u8 0, .int .u8 0, .int .u8 0, .int .u8 0, .int .u8 0, .int .u8 0, .int .u8 0, .int .u8 0, .int .u8 0, .int .u8 0, .int .u8 0, .int .u8 0, .int .u8 0, .int .u8 0, .int .u8 0, .int .u8 0, .int .u8 0, .int .u8 0, .int .u8 0, .int .u8 0, .int .u8 0]).toArray ptr kF (fun g3 => ?_)
    refine Sy.write kR 3 g3 36 (.int .u8 0 :: .int .u8 0 :: [.int .u8 0, .int .u8 0, .int .u8 0, .int .u8 0, .int .u8 0, .int .u8 0, .int .u8 0, .int .u8 0, .int .u8 0, .int .u8 0, .int .u8 0, .int .u8 0, .int .u8 0, .int .u8 0, .int .u8 0, .int .u8 0, .int .u8 0, .int .u8 0, .int .u8 0, .int .u8 0, .int .u8 0, .int .u8 0, .int .u8 0, .int .u8 0, .int .u8 0, .int .u8 0, .int .u8 0, .int .u8 0, .int .u8 0, .int .u8 0]).toArray (bv a0 :: bv a1 :: [bv a2, bv a3, bv a4, bv a5, bv a6, bv a7, bv a8, bv a9, bv a10, bv a11, bv a12, bv a13, bv a14, bv a15, bv a16, bv a17, bv a18, bv a19, bv a20, bv a21, bv a22, bv a23, bv a24, bv a25, bv a26, bv a27, bv a28, bv a29, bv a30, bv a31]).toArray kR (Writes.store 0 36 (bv a0 :: bv a1 :: [bv a2, bv a3, bv a4, bv a5, bv a6, bv a7, bv a8, bv a9, bv a10, bv a11, bv a12, bv a13, bv a14, bv a15, bv a16, bv a17, bv a18, bv a19, bv a20, bv a21, bv a22, bv a23, bv a24, bv a25, bv a26, bv a27, bv a28, bv a29, bv a30, bv a31]).toArray _ _ rfl kR kR kR kL kR kR) ?_
    refine sH (fun j => j == 2) ?_
    refine sZ 0 rfl (.slice (some ⟨g2, 1, none⟩) 32 32) <| sZ 1 rfl (.slice (some ⟨g3, 0, none⟩) 32 32) ?_
    refine Sy.writeVD 2 rfl kR (by rfl) kR 2 g2 343 (.int .u8 2 :: .int .u8 0 :: .int .u8 0 :: [.int .u8 0, .int .u8 0, .int .u8 0, .int .u8 0, .int .u8 0, .int .u8 0, .int .u8 0, .int .u8 0, .int .u8 0, .int .u8 0, .int .u8 0, .int .u8 0, .int .u8 0, .int .u8 0, .int .u8 0, .int .u8 0, .int .u8 0, .int .u8 0, .int .u8 0, .int .u8 0, .int .u8 0, .int .u8 0, .int .u8 0, .int .u8 0, .int .u8 0, .int .u8 0, .int .u8 0, .int .u8 0, .int .u8 0, .int .u8 0]).toArray (.int .u8 2 :: bv a0 :: bv a1 :: [bv a2, bv a3, bv a4, bv a5, bv a6, bv a7, bv a8, bv a9, bv a10, bv a11, bv a12, bv a13, bv a14, bv a15, bv a16, bv a17, bv a18, bv a19, bv a20, bv a21, bv a22, bv a23, bv a24, bv a25, bv a26, bv a27, bv a28, bv a29, bv a30, bv a31]).toArray (.int .i64 32) kR (WritesV.copy _ _ 27 27 _ rfl Tryz.underlying27 kR 2 g2 1 32 32 343 (.int .u8 2 :: .int .u8 0 :: .int .u8 0 :: [.int .u8 0, .int .u8 0, .int .u8 0, .int .u8 0, .int .u8 0, .int .u8 0, .int .u8 0, .int .u8 0, .int .u8 0, .int .u8 0, .int .u8 0, .int .u8 0, .int .u8 0, .int .u8 0, .int .u8 0, .int .u8 0, .int .u8 0, .int .u8 0, .int .u8 0, .int .u8 0, .int .u8 0, .int .u8 0, .int .u8 0, .int .u8 0, .int .u8 0, .int .u8 0, .int .u8 0, .int .u8 0, .int .u8 0, .int .u8 0]).toArray (.int .u8 2 :: bv a0 :: bv a1 :: [bv a2, bv a3, bv a4, bv a5, bv a6, bv a7, bv a8, bv a9, bv a10, bv a11, bv a12, bv a13, bv a14, bv a15, bv a16, bv a17, bv a18, bv a19, bv a20, bv a21, bv a22, bv a23, bv a24, bv a25, bv a26, bv a27, bv a28, bv a29, bv a30, bv a31]).toArray kR kR 3 g3 0 32 32 36 (bv a0 :: bv a1 :: [bv a2, bv a3, bv a4, bv a5, bv a6, bv a7, bv a8, bv a9, bv a10, bv a11, bv a12, bv a13, bv a14, bv a15, bv a16, bv a17, bv a18, bv a19, bv a20, bv a21, bv a22, bv a23, bv a24, bv a25, bv a26, bv a27, bv a28, bv a29, bv a30, bv a31]).toArray kR kR (bv a0 :: bv a1 :: [bv a2, bv a3, bv a4, bv a5, bv a6, bv a7, bv a8, bv a9, bv a10, bv a11, bv a12, bv a13, bv a14, bv a15, bv a16, bv a17, bv a18, bv a19, bv a20, bv a21, bv a22, bv a23, bv a24, bv a25, bv a26, bv a27, bv a28, bv a29, bv a30, bv a31]) kR kR (all_one _ kR) kL kR) ?_
    refine sE ?_
    refine sB ?_
    refine sS (.agg ((.int .u8 2 :: bv a0 :: bv a1 :: [bv a2, bv a3, bv a4, bv a5, bv a6, bv a7, bv a8, bv a9, bv a10, bv a11, bv a12, bv a13, bv a14, bv a15, bv a16, bv a17, bv a18, bv a19, bv a20, bv a21, bv a22, bv a23, bv a24, bv a25, bv a26, bv a27, bv a28, bv a29, bv a30, bv a31]) : List Value).toArray) (Quiet.load 2 g2 0 33 343 343 (.int .u8 2 :: bv a0 :: bv a1 :: [bv a2, bv a3, bv a4, bv a5, bv a6, bv a7, bv a8, bv a9, bv a10, bv a11, bv a12, bv a13, bv a14, bv a15, bv a16, bv a17, bv a18, bv a19, bv a20, bv a21, bv a22, bv a23, bv a24, bv a25, bv a26, bv a27, bv a28, bv a29, bv a30, bv a31]).toArray _ _ rfl kR kR Tryz.underlying343 rfl kR _ kR kL) ?_
    refine Sy.write kR 1 g1 343 (.int .u8 0 :: .int .u8 0 :: .int .u8 0 :: [.int .u8 0, .int .u8 0, .int .u8 0, .int .u8 0, .int .u8 0, .int .u8 0, .int .u8 0, .int .u8 0, .int .u8 0, .int .u8 0, .int .u8 0, .int .u8 0, .int .u8 0, .int .u8 0, .int .u8 0, .int .u8 0, .int .u8 0, .int .u8 0, .int .u8 0, .int .u8 0, .int .u8 0, .int .u8 0, .int .u8 0, .int .u8 0, .int .u8 0, .int .u8 0, .int .u8 0, .int .u8 0, .int .u8 0, .int .u8 0]).toArray (.int .u8 2 :: bv a0 :: bv a1 :: [bv a2, bv a3, bv a4, bv a5, bv a6, bv a7, bv a8, bv a9, bv a10, bv a11, bv a12, bv a13, bv a14, bv a15, bv a16, bv a17, bv a18, bv a19, bv a20, bv a21, bv a22, bv a23, bv a24, bv a25, bv a26, bv a27, bv a28, bv a29, bv a30, bv a31]).toArray kR (Writes.store 0 343 (.int .u8 2 :: bv a0 :: bv a1 :: [bv a2, bv a3, bv a4, bv a5, bv a6, bv a7, bv a8, bv a9, bv a10, bv a11, bv a12, bv a13, bv a14, bv a15, bv a16, bv a17, bv a18, bv a19, bv a20, bv a21, bv a22, bv a23, bv a24, bv a25, bv a26, bv a27, bv a28, bv a29, bv a30, bv a31]).toArray _ _ rfl kR kR kR kL kR kR) ?_
    refine sG ?_
    refine Sy.ret ?_
    rw [show (.agg ((encS (some (u, v))).map bv).toArray : Value) = .agg ((.int .u8 2 :: bv a0 :: bv a1 :: [bv a2, bv a3, bv a4, bv a5, bv a6, bv a7, bv a8, bv a9, bv a10, bv a11, bv a12, bv a13, bv a14, bv a15, bv a16, bv a17, bv a18, bv a19, bv a20, bv a21, bv a22, bv a23, bv a24, bv a25, bv a26, bv a27, bv a28, bv a29, bv a30, bv a31]) : List Value).toArray from by
      have e : encS (some (u, v)) = (if v.val % 2 = 1 then 3 else 2) :: bytesS u.val := rfl
      rw [e, hm, if_neg (by have q := hb1.symm; rw [Nat.mod_eq_of_lt v.isLt] at q; exact of_decide_eq_false q)]
      rfl]
    exact Sy.ret1 (v := .agg ((.int .u8 2 :: bv a0 :: bv a1 :: [bv a2, bv a3, bv a4, bv a5, bv a6, bv a7, bv a8, bv a9, bv a10, bv a11, bv a12, bv a13, bv a14, bv a15, bv a16, bv a17, bv a18, bv a19, bv a20, bv a21, bv a22, bv a23, bv a24, bv a25, bv a26, bv a27, bv a28, bv a29, bv a30, bv a31]) : List Value).toArray) rfl (.inl (Res.cell (ty' := 343) g1 1 (.int .u8 2 :: bv a0 :: bv a1 :: [bv a2, bv a3, bv a4, bv a5, bv a6, bv a7, bv a8, bv a9, bv a10, bv a11, bv a12, bv a13, bv a14, bv a15, bv a16, bv a17, bv a18, bv a19, bv a20, bv a21, bv a22, bv a23, bv a24, bv a25, bv a26, bv a27, bv a28, bv a29, bv a30, bv a31]).toArray _ kR kR Tryz.underlying343 rfl kR kR))
  · refine sT ?_
    refine Sy.region ?_
    refine sP (.pointer (some ⟨g2, 0, none⟩)) ?_
    refine Sy.write kR 2 g2 343 (.int .u8 2 :: .int .u8 0 :: .int .u8 0 :: [.int .u8 0, .int .u8 0, .int .u8 0, .int .u8 0, .int .u8 0, .int .u8 0, .int .u8 0, .int .u8 0, .int .u8 0, .int .u8 0, .int .u8 0, .int .u8 0, .int .u8 0, .int .u8 0, .int .u8 0, .int .u8 0, .int .u8 0, .int .u8 0, .int .u8 0, .int .u8 0, .int .u8 0, .int .u8 0, .int .u8 0, .int .u8 0, .int .u8 0, .int .u8 0, .int .u8 0, .int .u8 0, .int .u8 0, .int .u8 0]).toArray (.int .u8 3 :: .int .u8 0 :: .int .u8 0 :: [.int .u8 0, .int .u8 0, .int .u8 0, .int .u8 0, .int .u8 0, .int .u8 0, .int .u8 0, .int .u8 0, .int .u8 0, .int .u8 0, .int .u8 0, .int .u8 0, .int .u8 0, .int .u8 0, .int .u8 0, .int .u8 0, .int .u8 0, .int .u8 0, .int .u8 0, .int .u8 0, .int .u8 0, .int .u8 0, .int .u8 0, .int .u8 0, .int .u8 0, .int .u8 0, .int .u8 0, .int .u8 0, .int .u8 0, .int .u8 0]).toArray kR (wO 0 5 (.int .u8 3) rfl) ?_
    refine sA ?_
    refine sP (.pointer (some ⟨g0, 0, none⟩)) <| sS (fv u.val) (qL 0 g0 0 4 58 56 (pcs u.val v.val false) rfl Tryz.underlying56) <| sS (.agg ((bv a0 :: bv a1 :: [bv a2, bv a3, bv a4, bv a5, bv a6, bv a7, bv a8, bv a9, bv a10, bv a11, bv a12, bv a13, bv a14, bv a15, bv a16, bv a17, bv a18, bv a19, bv a20, bv a21, bv a22, bv a23, bv a24, bv a25, bv a26, bv a27, bv a28, bv a29, bv a30, bv a31]) : List Value).toArray) (qF 252 #[fv u.val] (cB)) ?_
    refine Sy.make kR 36 (.int .u8 0 :: .int .u8 0 :: [.int .u8 0, .int .u8 0, .int .u8 0, .int .u8 0, .int .u8 0, .int .u8 0, .int .u8 0, .int .u8 0, .int .u8 0, .int .u8 0, .int .u8 0, .int .u8 0, .int .u8 0, .int .u8 0, .int .u8 0, .int .u8 0, .int .u8 0, .int .u8 0, .int .u8 0, .int .u8 0, .int .u8 0, .int .u8 0, .int .u8 0, .int .u8 0, .int .u8 0, .int .u8 0, .int .u8 0, .int .u8 0, .int .u8 0, .int .u8 0]).toArray ptr kF (fun g4 => ?_)
    refine Sy.write kR 3 g4 36 (.int .u8 0 :: .int .u8 0 :: [.int .u8 0, .int .u8 0, .int .u8 0, .int .u8 0, .int .u8 0, .int .u8 0, .int .u8 0, .int .u8 0, .int .u8 0, .int .u8 0, .int .u8 0, .int .u8 0, .int .u8 0, .int .u8 0, .int .u8 0, .int .u8 0, .int .u8 0, .int .u8 0, .int .u8 0, .int .u8 0, .int .u8 0, .int .u8 0, .int .u8 0, .int .u8 0, .int .u8 0, .int .u8 0, .int .u8 0, .int .u8 0, .int .u8 0, .int .u8 0]).toArray (bv a0 :: bv a1 :: [bv a2, bv a3, bv a4, bv a5, bv a6, bv a7, bv a8, bv a9, bv a10, bv a11, bv a12, bv a13, bv a14, bv a15, bv a16, bv a17, bv a18, bv a19, bv a20, bv a21, bv a22, bv a23, bv a24, bv a25, bv a26, bv a27, bv a28, bv a29, bv a30, bv a31]).toArray kR (Writes.store 0 36 (bv a0 :: bv a1 :: [bv a2, bv a3, bv a4, bv a5, bv a6, bv a7, bv a8, bv a9, bv a10, bv a11, bv a12, bv a13, bv a14, bv a15, bv a16, bv a17, bv a18, bv a19, bv a20, bv a21, bv a22, bv a23, bv a24, bv a25, bv a26, bv a27, bv a28, bv a29, bv a30, bv a31]).toArray _ _ rfl kR kR kR kL kR kR) ?_
    refine sH (fun j => j == 2) ?_
    refine sZ 0 rfl (.slice (some ⟨g2, 1, none⟩) 32 32) <| sZ 1 rfl (.slice (some ⟨g4, 0, none⟩) 32 32) ?_
    refine Sy.writeVD 2 rfl kR (by rfl) kR 2 g2 343 (.int .u8 3 :: .int .u8 0 :: .int .u8 0 :: [.int .u8 0, .int .u8 0, .int .u8 0, .int .u8 0, .int .u8 0, .int .u8 0, .int .u8 0, .int .u8 0, .int .u8 0, .int .u8 0, .int .u8 0, .int .u8 0, .int .u8 0, .int .u8 0, .int .u8 0, .int .u8 0, .int .u8 0, .int .u8 0, .int .u8 0, .int .u8 0, .int .u8 0, .int .u8 0, .int .u8 0, .int .u8 0, .int .u8 0, .int .u8 0, .int .u8 0, .int .u8 0, .int .u8 0, .int .u8 0]).toArray (.int .u8 3 :: bv a0 :: bv a1 :: [bv a2, bv a3, bv a4, bv a5, bv a6, bv a7, bv a8, bv a9, bv a10, bv a11, bv a12, bv a13, bv a14, bv a15, bv a16, bv a17, bv a18, bv a19, bv a20, bv a21, bv a22, bv a23, bv a24, bv a25, bv a26, bv a27, bv a28, bv a29, bv a30, bv a31]).toArray (.int .i64 32) kR (WritesV.copy _ _ 27 27 _ rfl Tryz.underlying27 kR 2 g2 1 32 32 343 (.int .u8 3 :: .int .u8 0 :: .int .u8 0 :: [.int .u8 0, .int .u8 0, .int .u8 0, .int .u8 0, .int .u8 0, .int .u8 0, .int .u8 0, .int .u8 0, .int .u8 0, .int .u8 0, .int .u8 0, .int .u8 0, .int .u8 0, .int .u8 0, .int .u8 0, .int .u8 0, .int .u8 0, .int .u8 0, .int .u8 0, .int .u8 0, .int .u8 0, .int .u8 0, .int .u8 0, .int .u8 0, .int .u8 0, .int .u8 0, .int .u8 0, .int .u8 0, .int .u8 0, .int .u8 0]).toArray (.int .u8 3 :: bv a0 :: bv a1 :: [bv a2, bv a3, bv a4, bv a5, bv a6, bv a7, bv a8, bv a9, bv a10, bv a11, bv a12, bv a13, bv a14, bv a15, bv a16, bv a17, bv a18, bv a19, bv a20, bv a21, bv a22, bv a23, bv a24, bv a25, bv a26, bv a27, bv a28, bv a29, bv a30, bv a31]).toArray kR kR 3 g4 0 32 32 36 (bv a0 :: bv a1 :: [bv a2, bv a3, bv a4, bv a5, bv a6, bv a7, bv a8, bv a9, bv a10, bv a11, bv a12, bv a13, bv a14, bv a15, bv a16, bv a17, bv a18, bv a19, bv a20, bv a21, bv a22, bv a23, bv a24, bv a25, bv a26, bv a27, bv a28, bv a29, bv a30, bv a31]).toArray kR kR (bv a0 :: bv a1 :: [bv a2, bv a3, bv a4, bv a5, bv a6, bv a7, bv a8, bv a9, bv a10, bv a11, bv a12, bv a13, bv a14, bv a15, bv a16, bv a17, bv a18, bv a19, bv a20, bv a21, bv a22, bv a23, bv a24, bv a25, bv a26, bv a27, bv a28, bv a29, bv a30, bv a31]) kR kR (all_one _ kR) kL kR) ?_
    refine sE ?_
    refine sB ?_
    refine sS (.agg ((.int .u8 3 :: bv a0 :: bv a1 :: [bv a2, bv a3, bv a4, bv a5, bv a6, bv a7, bv a8, bv a9, bv a10, bv a11, bv a12, bv a13, bv a14, bv a15, bv a16, bv a17, bv a18, bv a19, bv a20, bv a21, bv a22, bv a23, bv a24, bv a25, bv a26, bv a27, bv a28, bv a29, bv a30, bv a31]) : List Value).toArray) (Quiet.load 2 g2 0 33 343 343 (.int .u8 3 :: bv a0 :: bv a1 :: [bv a2, bv a3, bv a4, bv a5, bv a6, bv a7, bv a8, bv a9, bv a10, bv a11, bv a12, bv a13, bv a14, bv a15, bv a16, bv a17, bv a18, bv a19, bv a20, bv a21, bv a22, bv a23, bv a24, bv a25, bv a26, bv a27, bv a28, bv a29, bv a30, bv a31]).toArray _ _ rfl kR kR Tryz.underlying343 rfl kR _ kR kL) ?_
    refine Sy.write kR 1 g1 343 (.int .u8 0 :: .int .u8 0 :: .int .u8 0 :: [.int .u8 0, .int .u8 0, .int .u8 0, .int .u8 0, .int .u8 0, .int .u8 0, .int .u8 0, .int .u8 0, .int .u8 0, .int .u8 0, .int .u8 0, .int .u8 0, .int .u8 0, .int .u8 0, .int .u8 0, .int .u8 0, .int .u8 0, .int .u8 0, .int .u8 0, .int .u8 0, .int .u8 0, .int .u8 0, .int .u8 0, .int .u8 0, .int .u8 0, .int .u8 0, .int .u8 0, .int .u8 0, .int .u8 0, .int .u8 0]).toArray (.int .u8 3 :: bv a0 :: bv a1 :: [bv a2, bv a3, bv a4, bv a5, bv a6, bv a7, bv a8, bv a9, bv a10, bv a11, bv a12, bv a13, bv a14, bv a15, bv a16, bv a17, bv a18, bv a19, bv a20, bv a21, bv a22, bv a23, bv a24, bv a25, bv a26, bv a27, bv a28, bv a29, bv a30, bv a31]).toArray kR (Writes.store 0 343 (.int .u8 3 :: bv a0 :: bv a1 :: [bv a2, bv a3, bv a4, bv a5, bv a6, bv a7, bv a8, bv a9, bv a10, bv a11, bv a12, bv a13, bv a14, bv a15, bv a16, bv a17, bv a18, bv a19, bv a20, bv a21, bv a22, bv a23, bv a24, bv a25, bv a26, bv a27, bv a28, bv a29, bv a30, bv a31]).toArray _ _ rfl kR kR kR kL kR kR) ?_
    refine sG ?_
    refine Sy.ret ?_
    rw [show (.agg ((encS (some (u, v))).map bv).toArray : Value) = .agg ((.int .u8 3 :: bv a0 :: bv a1 :: [bv a2, bv a3, bv a4, bv a5, bv a6, bv a7, bv a8, bv a9, bv a10, bv a11, bv a12, bv a13, bv a14, bv a15, bv a16, bv a17, bv a18, bv a19, bv a20, bv a21, bv a22, bv a23, bv a24, bv a25, bv a26, bv a27, bv a28, bv a29, bv a30, bv a31]) : List Value).toArray from by
      have e : encS (some (u, v)) = (if v.val % 2 = 1 then 3 else 2) :: bytesS u.val := rfl
      rw [e, hm, if_pos (by have q := hb1.symm; rw [Nat.mod_eq_of_lt v.isLt] at q; exact of_decide_eq_true q)]
      rfl]
    exact Sy.ret1 (v := .agg ((.int .u8 3 :: bv a0 :: bv a1 :: [bv a2, bv a3, bv a4, bv a5, bv a6, bv a7, bv a8, bv a9, bv a10, bv a11, bv a12, bv a13, bv a14, bv a15, bv a16, bv a17, bv a18, bv a19, bv a20, bv a21, bv a22, bv a23, bv a24, bv a25, bv a26, bv a27, bv a28, bv a29, bv a30, bv a31]) : List Value).toArray) rfl (.inl (Res.cell (ty' := 343) g1 1 (.int .u8 3 :: bv a0 :: bv a1 :: [bv a2, bv a3, bv a4, bv a5, bv a6, bv a7, bv a8, bv a9, bv a10, bv a11, bv a12, bv a13, bv a14, bv a15, bv a16, bv a17, bv a18, bv a19, bv a20, bv a21, bv a22, bv a23, bv a24, bv a25, bv a26, bv a27, bv a28, bv a29, bv a30, bv a31]).toArray _ kR kR Tryz.underlying343 rfl kR kR))
theorem enc_any (w : World) (x y : Nat) (i : Bool) (hx : x < K4) (hy : y < K4) : Calls Tryz.prog 217 #[pv x y i] w (Gets w (.agg ((encS (dec x y i)).map bv).toArray)) := by
  rcases h : dec x y i with _ | ⟨u, v⟩
  · exact enc_none w x y i hx hy h
  · exact enc_some w x y i hx hy u v h
end Go.Proofs.YtgemfpnlnipfnaaGreat.Cu

end
section
namespace Go.Proofs.YtgemfpnlnipfnaaGreat.Cu
open Go.RowKit Go.Proofs.YtgemfpnlnipfnaaGreat Go.Proofs.YtgemfpnlnipfnaaGreat.Sy
set_option maxRecDepth 100000
set_option maxHeartbeats 4000000

theorem dec_len (w : World) (A : Option Addr) (n c : Nat) (hn : n ≠ 33) : Calls Tryz.prog 218 #[.slice A n c] w (Gets w (.tuple #[pv 0 0 true, .bool false])) := by
  refine Sy.enter (args := [.slice A n c]) Tryz.func218 rfl kL ?_
  refine sC ?_
  refine sM 58 (pcs 0 0 false) (fun g0 => ?_)
  refine sP (.bool false) ?_
  refine sG ?_
  refine Sy.seq ?_
  refine sC ?_
  refine sP (.slice A n c) <| sP (.int .i64 (n : Int)) <| sS (.bool true) (Quiet.pure (fun w => neq_len w _ _ _ _ n hn rfl rfl rfl)) ?_
  refine sG ?_
  refine sT ?_
  refine sC ?_
  refine sS (pv 0 0 true) (qF 220 #[] (zero_c)) <| sW 0 g0 58 (pcs 0 0 false) (pcs 0 0 true) (wS 0 58 (pcs 0 0 true) rfl) <| sP (.bool false) ?_
  refine sG ?_
  refine Sy.ret ?_
  refine Sy.then_ret ?_
  exact Sy.ret2 (v := pv 0 0 true) (u := .bool false) rfl (.inl (Res.cell (ty' := 58) g0 0 (pcs 0 0 true) _ kR kR Tryz.underlying58 rfl kR kR)) (.inl (show _ = _ by kernel_rfl))
theorem dec_33 (w : World) (ga oa cb : Nat) (o0 o1 o2 o3 o4 o5 o6 o7 o8 o9 o10 o11 o12 o13 o14 o15 o16 o17 o18 o19 o20 o21 o22 o23 o24 o25 o26 o27 o28 o29 o30 o31 o32 : UInt8) (hs : SrcL w ga oa (o0 :: o1 :: o2 :: [o3, o4, o5, o6, o7, o8, o9, o10, o11, o12, o13, o14, o15, o16, o17, o18, o19, o20, o21, o22, o23, o24, o25, o26, o27, o28, o29, o30, o31, o32])) (hcap : 33 ≤ cb) : Calls Tryz.prog 218 #[.slice (some ⟨ga, oa, none⟩) 33 cb] w (Gets w (.tuple #[ptv (decP (o0 :: o1 :: o2 :: [o3, o4, o5, o6, o7, o8, o9, o10, o11, o12, o13, o14, o15, o16, o17, o18, o19, o20, o21, o22, o23, o24, o25, o26, o27, o28, o29, o30, o31, o32])), .bool (decOk (o0 :: o1 :: o2 :: [o3, o4, o5, o6, o7, o8, o9, o10, o11, o12, o13, o14, o15, o16, o17, o18, o19, o20, o21, o22, o23, o24, o25, o26, o27, o28, o29, o30, o31, o32]))])) := by
  have hl : List.length ((o1 :: o2 :: [o3, o4, o5, o6, o7, o8, o9, o10, o11, o12, o13, o14, o15, o16, o17, o18, o19, o20, o21, o22, o23, o24, o25, o26, o27, o28, o29, o30, o31, o32]) : List UInt8) = 32 := rfl
  obtain ⟨tl, htl⟩ : ∃ t : List UInt8, t = (o1 :: o2 :: [o3, o4, o5, o6, o7, o8, o9, o10, o11, o12, o13, o14, o15, o16, o17, o18, o19, o20, o21, o22, o23, o24, o25, o26, o27, o28, o29, o30, o31, o32]) := ⟨_, rfl⟩
  obtain ⟨px, py, pi, lpx, lpy, ep, dp, rp⟩ := ptv_raw (liftP tl) (liftP_on tl)
  obtain ⟨nx, ny, ni, lnx, lny, en, dn, rn⟩ := ptv_raw (Ec.neg (liftP tl)) (Ec.On.neg (liftP_on tl))
  obtain ⟨kb, hkb⟩ : ∃ k, k = liftB tl := ⟨_, rfl⟩
  have cL : ∀ w, Calls Tryz.prog 253 #[.agg ((o1 :: o2 :: [o3, o4, o5, o6, o7, o8, o9, o10, o11, o12, o13, o14, o15, o16, o17, o18, o19, o20, o21, o22, o23, o24, o25, o26, o27, o28, o29, o30, o31, o32]).map bv).toArray] w (Gets w (.tuple #[pv px py pi, .bool kb])) := fun w => by
    have h := lift_any w _ hl
    rw [← htl, ep, ← hkb] at h
    rw [← htl]
    exact h
  have cN : ∀ w, Calls Tryz.prog 254 #[pv px py pi] w (Gets w (pv nx ny ni)) := fun w => by
    have h := neg_any w px py pi lpx lpy
    rw [dp, en] at h
    exact h
  have cE : ∀ w, Calls Tryz.prog 217 #[pv px py pi] w (Gets w (.agg ((encS (liftP tl)).map bv).toArray)) := fun w => by
    have h := enc_any w px py pi lpx lpy
    rw [dp] at h
    exact h
  have cF : ∀ w, Calls Tryz.prog 217 #[pv nx ny ni] w (Gets w (.agg ((encS (Ec.neg (liftP tl))).map bv).toArray)) := fun w => by
    have h := enc_any w nx ny ni lnx lny
    rw [dn] at h
    exact h
  refine Sy.enter (args := [.slice (some ⟨ga, oa, none⟩) 33 cb]) Tryz.func218 rfl kL ?_
  refine sC ?_
  refine sM 58 (pcs 0 0 false) (fun g0 => ?_)
  refine sP (.bool false) ?_
  refine sG ?_
  refine Sy.seq ?_
  refine sC ?_
  refine sP (.slice (some ⟨ga, oa, none⟩) 33 cb) <| sP (.int .i64 33) <| sP (.bool false) ?_
  refine sG ?_
  refine sU ?_
  refine Sy.skip ?_
  refine sB ?_
  refine sP (.slice (some ⟨ga, oa, none⟩) 33 cb) <| sS (.slice (some ⟨ga, oa + 1, none⟩) 32 (cb - 1)) (Quiet.pure (fun w => exec_from 27 _ _ ga (oa) 33 cb 1 rfl kR kR kR kF (by decide) hcap w)) <| sS (.pointer (some ⟨ga, oa + 1, none⟩)) (Quiet.pure (fun w => exec_array 236 _ _ (some ⟨ga, oa + 1, none⟩) 32 32 (cb - 1) rfl kR Tryz.underlying236 (by decide) w)) <| sS (.agg ((o1 :: o2 :: [o3, o4, o5, o6, o7, o8, o9, o10, o11, o12, o13, o14, o15, o16, o17, o18, o19, o20, o21, o22, o23, o24, o25, o26, o27, o28, o29, o30, o31, o32]).map bv).toArray) (Quiet.there ga (oa + 1) 32 236 (bv o1 :: bv o2 :: [bv o3, bv o4, bv o5, bv o6, bv o7, bv o8, bv o9, bv o10, bv o11, bv o12, bv o13, bv o14, bv o15, bv o16, bv o17, bv o18, bv o19, bv o20, bv o21, bv o22, bv o23, bv o24, bv o25, bv o26, bv o27, bv o28, bv o29, bv o30, bv o31, bv o32]) _ _ rfl kR hs.1 (hs.2 1 _ kR) Tryz.underlying236 rfl kR rfl _ kR) <| sS (.tuple #[pv px py pi, .bool kb]) (qF 253 #[.agg ((o1 :: o2 :: [o3, o4, o5, o6, o7, o8, o9, o10, o11, o12, o13, o14, o15, o16, o17, o18, o19, o20, o21, o22, o23, o24, o25, o26, o27, o28, o29, o30, o31, o32]).map bv).toArray] (cL)) <| sP (.tuple #[pv px py pi, .bool kb]) <| sP (pv px py pi) <| sP (.bool kb) ?_
  refine sM 58 (pcs 0 0 false) (fun g1 => ?_)
  refine sW 1 g1 58 (pcs 0 0 false) (pcs px py pi) (wS 0 58 (pcs px py pi) rfl) <| sP (.bool kb) ?_
  refine sG ?_
  refine Sy.seq ?_
  refine sC ?_
  refine sP (.slice (some ⟨ga, oa, none⟩) 33 cb) <| sS (.pointer (some ⟨ga, oa, none⟩)) (Quiet.pure (fun w => exec_index 27 _ _ ga (oa) 33 (cb) 0 rfl kR kR kR kF (by decide) w)) <| sS (bv o0) (Quiet.thereOne ga (oa + 0) 5 _ _ rfl kR hs.1 _ (src_one hs 0 _ kR) Tryz.underlying5 rfl) ?_
  obtain ⟨b1, hb1⟩ : ∃ z : Bool, z = decide (o0 = UInt8.ofNat 3) := ⟨_, rfl⟩
  refine sS (.bool b1) (Quiet.pure (fun w => by rw [hb1]; exact eql_u8 w _ _ _ _ _ 3 (by decide) rfl rfl rfl)) ?_
  refine sG ?_
  cases b1
  · refine sU ?_
    refine Sy.skip ?_
    refine Sy.then_ ?_
    refine Sy.seq ?_
    refine Sy.seq ?_
    refine Sy.regionD (fun j => false) kR ?_
    refine sD 0 rfl (pv px py pi) (qL 1 g1 0 9 58 58 (pcs px py pi) rfl Tryz.underlying58) <| sD 1 rfl (.agg ((encS (liftP tl)).map bv).toArray) (qF 217 #[pv px py pi] (cE)) <| sZ 2 rfl (.slice (some ⟨ga, oa, none⟩) 33 cb) <| sD 3 rfl (.pointer (some ⟨ga, oa, none⟩)) (Quiet.pure (fun w => exec_array 343 _ _ (some ⟨ga, oa, none⟩) 33 33 (cb) rfl kR Tryz.underlying343 (by decide) w)) <| sD 4 rfl (.agg ((o0 :: o1 :: o2 :: [o3, o4, o5, o6, o7, o8, o9, o10, o11, o12, o13, o14, o15, o16, o17, o18, o19, o20, o21, o22, o23, o24, o25, o26, o27, o28, o29, o30, o31, o32]).map bv).toArray) (Quiet.there ga (oa) 33 343 (bv o0 :: bv o1 :: bv o2 :: [bv o3, bv o4, bv o5, bv o6, bv o7, bv o8, bv o9, bv o10, bv o11, bv o12, bv o13, bv o14, bv o15, bv o16, bv o17, bv o18, bv o19, bv o20, bv o21, bv o22, bv o23, bv o24, bv o25, bv o26, bv o27, bv o28, bv o29, bv o30, bv o31, bv o32]) _ _ rfl kR hs.1 (hs.2 0 _ kR) Tryz.underlying343 rfl kR rfl _ kR) ?_
    obtain ⟨b2, hb2⟩ : ∃ z : Bool, z = decide ((encS (liftP tl)) ≠ (o0 :: o1 :: o2 :: [o3, o4, o5, o6, o7, o8, o9, o10, o11, o12, o13, o14, o15, o16, o17, o18, o19, o20, o21, o22, o23, o24, o25, o26, o27, o28, o29, o30, o31, o32])) := ⟨_, rfl⟩
    refine sD 5 rfl (.bool b2) (Quiet.pure (fun w => by rw [hb2]; exact neq_33 w _ _ _ _ (encS (liftP tl)) (o0 :: o1 :: o2 :: [o3, o4, o5, o6, o7, o8, o9, o10, o11, o12, o13, o14, o15, o16, o17, o18, o19, o20, o21, o22, o23, o24, o25, o26, o27, o28, o29, o30, o31, o32]) (encS_length _) rfl rfl rfl rfl)) ?_
    refine sI ?_
    cases b2
    · refine sU ?_
      refine Sy.skip ?_
      refine sB ?_
      refine sS (pv px py pi) (qL 1 g1 0 9 58 58 (pcs px py pi) rfl Tryz.underlying58) <| sW 0 g0 58 (pcs 0 0 false) (pcs px py pi) (wS 0 58 (pcs px py pi) rfl) <| sP (.bool true) ?_
      refine sG ?_
      refine Sy.ret ?_
      rw [show (.tuple #[ptv (decP (o0 :: o1 :: o2 :: [o3, o4, o5, o6, o7, o8, o9, o10, o11, o12, o13, o14, o15, o16, o17, o18, o19, o20, o21, o22, o23, o24, o25, o26, o27, o28, o29, o30, o31, o32])), .bool (decOk (o0 :: o1 :: o2 :: [o3, o4, o5, o6, o7, o8, o9, o10, o11, o12, o13, o14, o15, o16, o17, o18, o19, o20, o21, o22, o23, o24, o25, o26, o27, o28, o29, o30, o31, o32]))] : Value) = .tuple #[pv px py pi, .bool true] from by
        have hc : candS (o0 :: o1 :: o2 :: [o3, o4, o5, o6, o7, o8, o9, o10, o11, o12, o13, o14, o15, o16, o17, o18, o19, o20, o21, o22, o23, o24, o25, o26, o27, o28, o29, o30, o31, o32]) = liftP tl := by
          rw [htl]; exact cand_ne _ _ (of_decide_eq_false hb1.symm)
        have hd : decOk (o0 :: o1 :: o2 :: [o3, o4, o5, o6, o7, o8, o9, o10, o11, o12, o13, o14, o15, o16, o17, o18, o19, o20, o21, o22, o23, o24, o25, o26, o27, o28, o29, o30, o31, o32]) = true := by unfold decOk; rw [hc]; exact decide_eq_true ⟨rfl, Decidable.of_not_not (of_decide_eq_false hb2.symm)⟩
        rw [hd, (decP_ok hd).1, hc, ep]]
      exact Sy.ret2 (v := pv px py pi) (u := .bool true) rfl (.inl (Res.cell (ty' := 58) g0 0 (pcs px py pi) _ kR kR Tryz.underlying58 rfl kR kR)) (.inl (show _ = _ by kernel_rfl))
    · refine sT ?_
      refine sC ?_
      refine sS (pv 0 0 true) (qF 220 #[] (zero_c)) <| sW 0 g0 58 (pcs 0 0 false) (pcs 0 0 true) (wS 0 58 (pcs 0 0 true) rfl) <| sP (.bool false) ?_
      refine sG ?_
      refine Sy.ret ?_
      refine Sy.then_ret ?_
      rw [show (.tuple #[ptv (decP (o0 :: o1 :: o2 :: [o3, o4, o5, o6, o7, o8, o9, o10, o11, o12, o13, o14, o15, o16, o17, o18, o19, o20, o21, o22, o23, o24, o25, o26, o27, o28, o29, o30, o31, o32])), .bool (decOk (o0 :: o1 :: o2 :: [o3, o4, o5, o6, o7, o8, o9, o10, o11, o12, o13, o14, o15, o16, o17, o18, o19, o20, o21, o22, o23, o24, o25, o26, o27, o28, o29, o30, o31, o32]))] : Value) = .tuple #[pv 0 0 true, .bool false] from by
        have hc : candS (o0 :: o1 :: o2 :: [o3, o4, o5, o6, o7, o8, o9, o10, o11, o12, o13, o14, o15, o16, o17, o18, o19, o20, o21, o22, o23, o24, o25, o26, o27, o28, o29, o30, o31, o32]) = liftP tl := by
          rw [htl]; exact cand_ne _ _ (of_decide_eq_false hb1.symm)
        have hd : decOk (o0 :: o1 :: o2 :: [o3, o4, o5, o6, o7, o8, o9, o10, o11, o12, o13, o14, o15, o16, o17, o18, o19, o20, o21, o22, o23, o24, o25, o26, o27, o28, o29, o30, o31, o32]) = false := by unfold decOk; rw [hc]; exact decide_eq_false (fun k => of_decide_eq_true hb2.symm k.2)
        rw [hd, decP_no hd]; rfl]
      exact Sy.ret2 (v := pv 0 0 true) (u := .bool false) rfl (.inl (Res.cell (ty' := 58) g0 0 (pcs 0 0 true) _ kR kR Tryz.underlying58 rfl kR kR)) (.inl (show _ = _ by kernel_rfl))
  · refine sT ?_
    refine Sy.region ?_
    refine sS (pv px py pi) (qL 1 g1 0 9 58 58 (pcs px py pi) rfl Tryz.underlying58) <| sS (pv nx ny ni) (qF 254 #[pv px py pi] (cN)) <| sW 1 g1 58 (pcs px py pi) (pcs nx ny ni) (wS 0 58 (pcs nx ny ni) rfl) ?_
    refine sG ?_
    refine Sy.seq ?_
    refine Sy.seq ?_
    refine Sy.regionD (fun j => false) kR ?_
    refine sD 0 rfl (pv nx ny ni) (qL 1 g1 0 9 58 58 (pcs nx ny ni) rfl Tryz.underlying58) <| sD 1 rfl (.agg ((encS (Ec.neg (liftP tl))).map bv).toArray) (qF 217 #[pv nx ny ni] (cF)) <| sZ 2 rfl (.slice (some ⟨ga, oa, none⟩) 33 cb) <| sD 3 rfl (.pointer (some ⟨ga, oa, none⟩)) (Quiet.pure (fun w => exec_array 343 _ _ (some ⟨ga, oa, none⟩) 33 33 (cb) rfl kR Tryz.underlying343 (by decide) w)) <| sD 4 rfl (.agg ((o0 :: o1 :: o2 :: [o3, o4, o5, o6, o7, o8, o9, o10, o11, o12, o13, o14, o15, o16, o17, o18, o19, o20, o21, o22, o23, o24, o25, o26, o27, o28, o29, o30, o31, o32]).map bv).toArray) (Quiet.there ga (oa) 33 343 (bv o0 :: bv o1 :: bv o2 :: [bv o3, bv o4, bv o5, bv o6, bv o7, bv o8, bv o9, bv o10, bv o11, bv o12, bv o13, bv o14, bv o15, bv o16, bv o17, bv o18, bv o19, bv o20, bv o21, bv o22, bv o23, bv o24, bv o25, bv o26, bv o27, bv o28, bv o29, bv o30, bv o31, bv o32]) _ _ rfl kR hs.1 (hs.2 0 _ kR) Tryz.underlying343 rfl kR rfl _ kR) ?_
    obtain ⟨b3, hb3⟩ : ∃ z : Bool, z = decide ((encS (Ec.neg (liftP tl))) ≠ (o0 :: o1 :: o2 :: [o3, o4, o5, o6, o7, o8, o9, o10, o11, o12, o13, o14, o15, o16, o17, o18, o19, o20, o21, o22, o23, o24, o25, o26, o27, o28, o29, o30, o31, o32])) := ⟨_, rfl⟩
    refine sD 5 rfl (.bool b3) (Quiet.pure (fun w => by rw [hb3]; exact neq_33 w _ _ _ _ (encS (Ec.neg (liftP tl))) (o0 :: o1 :: o2 :: [o3, o4, o5, o6, o7, o8, o9, o10, o11, o12, o13, o14, o15, o16, o17, o18, o19, o20, o21, o22, o23, o24, o25, o26, o27, o28, o29, o30, o31, o32]) (encS_length _) rfl rfl rfl rfl)) ?_
    refine sI ?_
    cases b3
    · refine sU ?_
      refine Sy.skip ?_
      refine sB ?_
      refine sS (pv nx ny ni) (qL 1 g1 0 9 58 58 (pcs nx ny ni) rfl Tryz.underlying58) <| sW 0 g0 58 (pcs 0 0 false) (pcs nx ny ni) (wS 0 58 (pcs nx ny ni) rfl) <| sP (.bool true) ?_
      refine sG ?_
      refine Sy.ret ?_
      rw [show (.tuple #[ptv (decP (o0 :: o1 :: o2 :: [o3, o4, o5, o6, o7, o8, o9, o10, o11, o12, o13, o14, o15, o16, o17, o18, o19, o20, o21, o22, o23, o24, o25, o26, o27, o28, o29, o30, o31, o32])), .bool (decOk (o0 :: o1 :: o2 :: [o3, o4, o5, o6, o7, o8, o9, o10, o11, o12, o13, o14, o15, o16, o17, o18, o19, o20, o21, o22, o23, o24, o25, o26, o27, o28, o29, o30, o31, o32]))] : Value) = .tuple #[pv nx ny ni, .bool true] from by
        have hc : candS (o0 :: o1 :: o2 :: [o3, o4, o5, o6, o7, o8, o9, o10, o11, o12, o13, o14, o15, o16, o17, o18, o19, o20, o21, o22, o23, o24, o25, o26, o27, o28, o29, o30, o31, o32]) = Ec.neg (liftP tl) := by
          rw [htl, show o0 = 3 from of_decide_eq_true hb1.symm]; exact cand_3 _
        have hd : decOk (o0 :: o1 :: o2 :: [o3, o4, o5, o6, o7, o8, o9, o10, o11, o12, o13, o14, o15, o16, o17, o18, o19, o20, o21, o22, o23, o24, o25, o26, o27, o28, o29, o30, o31, o32]) = true := by unfold decOk; rw [hc]; exact decide_eq_true ⟨rfl, Decidable.of_not_not (of_decide_eq_false hb3.symm)⟩
        rw [hd, (decP_ok hd).1, hc, en]]
      exact Sy.ret2 (v := pv nx ny ni) (u := .bool true) rfl (.inl (Res.cell (ty' := 58) g0 0 (pcs nx ny ni) _ kR kR Tryz.underlying58 rfl kR kR)) (.inl (show _ = _ by kernel_rfl))
    · refine sT ?_
      refine sC ?_
      refine sS (pv 0 0 true) (qF 220 #[] (zero_c)) <| sW 0 g0 58 (pcs 0 0 false) (pcs 0 0 true) (wS 0 58 (pcs 0 0 true) rfl) <| sP (.bool false) ?_
      refine sG ?_
      refine Sy.ret ?_
      refine Sy.then_ret ?_
      rw [show (.tuple #[ptv (decP (o0 :: o1 :: o2 :: [o3, o4, o5, o6, o7, o8, o9, o10, o11, o12, o13, o14, o15, o16, o17, o18, o19, o20, o21, o22, o23, o24, o25, o26, o27, o28, o29, o30, o31, o32])), .bool (decOk (o0 :: o1 :: o2 :: [o3, o4, o5, o6, o7, o8, o9, o10, o11, o12, o13, o14, o15, o16, o17, o18, o19, o20, o21, o22, o23, o24, o25, o26, o27, o28, o29, o30, o31, o32]))] : Value) = .tuple #[pv 0 0 true, .bool false] from by
        have hc : candS (o0 :: o1 :: o2 :: [o3, o4, o5, o6, o7, o8, o9, o10, o11, o12, o13, o14, o15, o16, o17, o18, o19, o20, o21, o22, o23, o24, o25, o26, o27, o28, o29, o30, o31, o32]) = Ec.neg (liftP tl) := by
          rw [htl, show o0 = 3 from of_decide_eq_true hb1.symm]; exact cand_3 _
        have hd : decOk (o0 :: o1 :: o2 :: [o3, o4, o5, o6, o7, o8, o9, o10, o11, o12, o13, o14, o15, o16, o17, o18, o19, o20, o21, o22, o23, o24, o25, o26, o27, o28, o29, o30, o31, o32]) = false := by unfold decOk; rw [hc]; exact decide_eq_false (fun k => of_decide_eq_true hb3.symm k.2)
        rw [hd, decP_no hd]; rfl]
      exact Sy.ret2 (v := pv 0 0 true) (u := .bool false) rfl (.inl (Res.cell (ty' := 58) g0 0 (pcs 0 0 true) _ kR kR Tryz.underlying58 rfl kR kR)) (.inl (show _ = _ by kernel_rfl))
theorem decode_any (w : World) (A : Option Addr) (b : List UInt8) (n c : Nat) (hn : b.length = n) (hs : Src w A b) (hc : n ≤ c) : Calls Tryz.prog 218 #[.slice A n c] w (Gets w (.tuple #[ptv (decP b), .bool (decOk b)])) := by
  by_cases h : n = 33
  · subst h
    obtain ⟨ga, oa, rfl, hl, hcell⟩ := hs (by intro e; rw [e] at hn; cases hn)
    obtain ⟨o0, o1, o2, o3, o4, o5, o6, o7, o8, o9, o10, o11, o12, o13, o14, o15, o16, o17, o18, o19, o20, o21, o22, o23, o24, o25, o26, o27, o28, o29, o30, o31, o32, rfl⟩ := list33 b hn
    exact dec_33 w ga oa c o0 o1 o2 o3 o4 o5 o6 o7 o8 o9 o10 o11 o12 o13 o14 o15 o16 o17 o18 o19 o20 o21 o22 o23 o24 o25 o26 o27 o28 o29 o30 o31 o32 (SrcL.of hl hcell) hc
  · have hd : decOk b = false := by unfold decOk; exact decide_eq_false (fun k => h (hn ▸ k.1))
    rw [hd, decP_no hd]
    exact dec_len w A n c h
end Go.Proofs.YtgemfpnlnipfnaaGreat.Cu

end
section
namespace Go.Proofs.YtgemfpnlnipfnaaGreat.Cu
open Go.RowKit Go.Proofs.YtgemfpnlnipfnaaGreat Go.Proofs.YtgemfpnlnipfnaaGreat.Sy

theorem setAll_all : ∀ (vs : List Value) (o : Nat) (cs : Array Value), o + vs.length = cs.size → setAll cs o vs = (cs.toList.take o ++ vs).toArray
  | [], o, cs, h => by
    rw [List.append_nil, List.take_of_length_le (by simp at h ⊢; omega)]
    simp [setAll]
  | v :: r, o, cs, h => by
    have hlt : o < cs.size := by simp at h; omega
    rw [setAll, setAll_all r (o + 1) _ (by simp at h ⊢; omega)]
    congr 1
    rw [Array.toList_setIfInBounds, List.take_set, List.take_succ_eq_append_getElem (by simpa using hlt), List.set_append_right _ _ (by rw [List.length_take]; exact Nat.min_le_left _ _)]
    have : (cs.toList.take o).length = o := by simp; omega
    simp [this]
end Go.Proofs.YtgemfpnlnipfnaaGreat.Cu

end
section
namespace Go.Proofs.YtgemfpnlnipfnaaGreat.Sy
open Go.RowKit Go.Proofs.YtgemfpnlnipfnaaGreat

section
variable {P : Program} {w0 : Base} {n : Nat} {F : Slots} {L : Blocks} {o : Oper}
theorem exec_atO (t e : TypeId) (x kx : Operand) (A : Option Addr) (g f len cap k s : Nat) (ki : IntKind) (hA : A = some ⟨g, f, none⟩) (ho : o.op = .indexAddr t x kx) (hx : evF F x = .slice A len cap) (hkx : evF F kx = .int ki (k : Int)) (ht : P.underlying t = some (.slice e)) (hsz : ∀ w, (sizeOf e).run P w = .ok s w) (hk : k < len) (w : World) :
    (execOp (evF F) o).run P w = .ok (.value (.pointer (some ⟨g, f + k * s, none⟩))) w := by
  subst hA
  exact exec_at t e x kx g f len cap k s ki ho hx hkx ht hsz hk w
theorem Writes.row {g : Nat} {t : TypeId} {cs : Array Value} (ty : TypeId) (c : List Value) (m : Nat) (x y : Operand) (ho : o.op = .store ty x y) (hx : evF F x = .pointer (some ⟨g, 0, none⟩)) (hy : evF F y = .agg c.toArray) (hi : (P.info? ty).map (·.size) = some m) (hc : c.length = m) (hs : cs.size = m) (h1 : ∀ u ∈ c, u.oneCell' = true) : Writes P F o g t cs c.toArray :=
  Writes.store 0 ty c.toArray x y ho hx hy (by rw [hi, List.size_toArray, hc]) (by rw [List.size_toArray, hc, hs, Nat.zero_add]; exact Nat.le_refl _) (by rw [List.all_toArray, List.all_eq_true]; exact h1) (by
    have := Cu.setAll_all c 0 cs (by omega)
    simpa using this)
theorem Quiet.mid (i g f k : Nat) (t ty : TypeId) (cs m : List Value) (d : TypeDesc) (x : Operand) (ho : o.op = .load ty x) (hx : evF F x = .pointer (some ⟨g, f, none⟩)) (hL : L[i]? = some (g, t, cs.toArray)) (hu : P.underlying ty = some d) (hd : d.isRow = true) (hi : (P.info? ty).map (·.size) = some k) (hm : (cs.drop f).take k = m) (hk : f + k ≤ cs.length) : Quiet P w0 F L o (.agg m.toArray) :=
  Quiet.load i g f k t ty cs.toArray d x ho hx hL hu hd hi _ (by rw [← hm]) (by simpa using hk)
end
end Go.Proofs.YtgemfpnlnipfnaaGreat.Sy

end
section
namespace Go.Proofs.YtgemfpnlnipfnaaGreat.Sy
open Go.RowKit Go.Proofs.YtgemfpnlnipfnaaGreat

structure Slc where
  v : Value
  bl : Blocks
structure Slc.Is (r : Slc) (e : TypeId) (sz : Nat) (xs : List (List Value)) : Prop where
  len : ∀ x ∈ xs, x.length = sz
  one : ∀ x ∈ xs, ∀ u ∈ x, u.oneCell' = true
  row : (xs = [] ∧ r = ⟨.slice none 0 0, []⟩) ∨ ∃ g cap sp, r = ⟨.slice (some ⟨g, 0, none⟩) xs.length cap, [(g, e, (xs.flatten ++ sp).toArray)]⟩ ∧ sp.length + xs.length * sz = cap * sz ∧ xs.length ≤ cap ∧ cap ≤ maxLen
theorem Slc.Is.nil (e : TypeId) (sz : Nat) : Slc.Is ⟨.slice none 0 0, []⟩ e sz [] := ⟨fun _ h => (by cases h), fun _ h => (by cases h), .inl ⟨rfl, rfl⟩⟩
theorem flat_len' {sz : Nat} : ∀ {xs : List (List Value)}, (∀ x ∈ xs, x.length = sz) → xs.flatten.length = xs.length * sz
  | [], _ => by simp
  | x :: xs, h => by
    rw [List.flatten_cons, List.length_append, h x (List.mem_cons_self ..), flat_len' fun y hy => h y (List.mem_cons_of_mem _ hy), List.length_cons, Nat.add_mul, Nat.one_mul, Nat.add_comm]
theorem flat_at' {sz : Nat} : ∀ {xs : List (List Value)} (sp : List Value), (∀ x ∈ xs, x.length = sz) → ∀ (j : Nat) (x : List Value), xs[j]? = some x → ((xs.flatten ++ sp).drop (j * sz)).take sz = x
  | [], _, _, _, _, h => by simp at h
  | y :: xs, sp, h, 0, x, hx => by
    have hy := h y (List.mem_cons_self ..)
    simp only [List.getElem?_cons_zero, Option.some.injEq] at hx
    subst hx
    rw [Nat.zero_mul, List.drop_zero, List.flatten_cons, List.append_assoc, List.take_append_of_le_length (by omega), List.take_of_length_le (by omega)]
  | y :: xs, sp, h, j + 1, x, hx => by
    have hy := h y (List.mem_cons_self ..)
    rw [List.getElem?_cons_succ] at hx
    have ih := flat_at' sp (fun z hz => h z (List.mem_cons_of_mem _ hz)) j x hx
    rw [List.flatten_cons, List.append_assoc, List.drop_append, hy, List.drop_of_length_le (by rw [hy, Nat.add_mul, Nat.one_mul]; omega), List.nil_append, Nat.add_mul, Nat.one_mul, Nat.add_sub_cancel]
    exact ih
section
variable {P : Program} {w0 : Base} {n : Nat} {Q : Exit → Act → World → Prop} {F : Slots} {pre T : Blocks} {ops : Array Oper} {o : Oper} {l : List Oper}
theorem appendR (hg : good ops n F o = true) (ts e : TypeId) (inf : TypeInfo) (z : Value) (sz by_ : Nat) (ht : P.underlying ts = some (.slice e)) (hinf : P.info? e = some inf) (hz : inf.zero = some z) (hs1 : inf.size = sz) (hb1 : inf.bytes = by_) (hzs : z.cells.size = sz) (h0 : 0 < sz)
    (s x : Operand) (ho : o.op = .call { callee := .builtin .append, args := #[s, x], argTypes := #[ts, ts] })
    {r : Slc} {xs : List (List Value)} (hr : r.Is e sz xs) (hs : evF F s = r.v) (y : List Value) (hy : y.length = sz) (hy1 : ∀ u ∈ y, u.oneCell' = true)
    (j gx : Nat) (tx : TypeId) (hx : evF F x = .slice (some ⟨gx, 0, none⟩) 1 1) (hLx : (pre ++ (r.bl ++ T))[j]? = some (gx, tx, y.toArray)) (hsmall : (xs.length + 1) * by_ ≤ 140737488355328) (h63 : xs.length + 1 ≤ maxLen)
    (h : ∀ r' : Slc, r'.Is e sz (xs ++ [y]) → wpS P w0 n ops Q (putF F o.dst r'.v) (pre ++ (r'.bl ++ T)) l) : wpS P w0 n ops Q F (pre ++ (r.bl ++ T)) (o :: l) := by
  have hfrom : From w0 (pre ++ (r.bl ++ T)) (some ⟨gx, 0, none⟩) y := From.blk hLx (by simp)
  have hlen : ∀ u ∈ xs ++ [y], u.length = sz := fun u hu => by
    rcases List.mem_append.1 hu with hu | hu
    · exact hr.len u hu
    · rw [List.mem_singleton.1 hu]; exact hy
  have hone : ∀ u ∈ xs ++ [y], ∀ v ∈ u, v.oneCell' = true := fun u hu => by
    rcases List.mem_append.1 hu with hu | hu
    · exact hr.one u hu
    · rw [List.mem_singleton.1 hu]; exact hy1
  rcases hr.row with ⟨rfl, rfl⟩ | ⟨g, cap, sp, rfl, q1, q2, q3⟩
  · refine appendGNil hg ts e inf z sz by_ ht hinf hz hs1 hb1 hzs h0 s x ho hs (some ⟨gx, 0, none⟩) 1 1 y hx hfrom (by omega) (by decide) hy1 (by simpa using hsmall) (by simpa using h63) (fun g' cap' sp' h1 h2 h3 => ?_)
    have hq := h ⟨.slice (some ⟨g', 0, none⟩) 1 cap', [(g', e, (y ++ sp').toArray)]⟩ ⟨hlen, hone, .inr ⟨g', cap', sp', by simp, by simpa using h1, by simpa using h2, h3⟩⟩
    exact permS (by
      rw [List.nil_append, List.append_assoc]
      exact (List.perm_append_comm (l₁ := T) (l₂ := [(g', e, (y ++ sp').toArray)])).append_left pre) hq
  · have hi : (pre ++ ([(g, e, (xs.flatten ++ sp).toArray)] ++ T))[pre.length]? = some (g, e, (xs.flatten ++ sp).toArray) := by
      rw [List.getElem?_append_right (Nat.le_refl _), Nat.sub_self]
      rfl
    refine appendG hg ts e inf z sz by_ ht hinf hz hs1 hb1 hzs h0 s x ho pre.length g xs.length cap xs.flatten sp hs hi (flat_len' hr.len) q1 q3 (some ⟨gx, 0, none⟩) 1 1 y hx hfrom (by omega) (Nat.le_refl _) hy1 hsmall h63 (fun g' cap' sp' h1 h2 h3 => ?_)
    have hq := h ⟨.slice (some ⟨g', 0, none⟩) (xs.length + 1) cap', [(g', e, (xs.flatten ++ y ++ sp').toArray)]⟩ ⟨hlen, hone, .inr ⟨g', cap', sp', by simp, by simpa using h1, by simpa using h2, h3⟩⟩
    have he : (pre ++ ([(g, e, (xs.flatten ++ sp).toArray)] ++ T)).set pre.length (g', e, (xs.flatten ++ y ++ sp').toArray) = pre ++ ([(g', e, (xs.flatten ++ y ++ sp').toArray)] ++ T) := by
      rw [List.set_append_right _ _ (Nat.le_refl _), Nat.sub_self]
      rfl
    rw [he]
    exact hq
theorem movT {b : Nat × TypeId × Array Value} (h : wpS P w0 n ops Q F ((pre ++ [b]) ++ T) l) : wpS P w0 n ops Q F ((pre ++ T) ++ [b]) l :=
  permS (by
    rw [List.append_assoc, List.append_assoc]
    exact (List.perm_append_comm (l₁ := T) (l₂ := [b])).append_left pre) h
theorem setT {i : Nat} {b : Nat × TypeId × Array Value} (h : wpS P w0 n ops Q F ((pre.set i b) ++ T) l) (hi : Nat.ble (i + 1) pre.length = true := by kernel_rfl) : wpS P w0 n ops Q F ((pre ++ T).set i b) l := by
  rw [List.set_append_left _ _ (Nat.le_of_ble_eq_true hi)]
  exact h
theorem loopT {L : Blocks} {Y : Type} {c : Code} (N : Nat) (FF : Nat → Y → Slots) (LL : Nat → Y → Blocks) (H : Nat → Y → Prop) (x0 : Y) (h0 : H 0 x0) (hF : ∀ p ∈ FF 0 x0, F.lookup p.1 = some p.2) (hL : ∀ w, St w0 w L → St w0 w (LL 0 x0))
    (hr : ∀ k x, k ≤ N → H k x → wpC P w0 n (Exit.then (NextX w0 n N FF LL H k) Q) (FF k x) (LL k x) c) : wpC P w0 n Q F L (.loop c) :=
  loopI N (fun k a w => ∃ x, H k x ∧ Fr w0.ds a n (FF k x) ∧ St w0 w (LL k x)) (fun _ w ha hw => ⟨x0, h0, ha.all hF, hL w hw⟩)
    fun k hk a w ⟨x, hx, ha, hw⟩ => hr k x hk hx a w ha hw
theorem againT {L : Blocks} {Y : Type} {N : Nat} {FF : Nat → Y → Slots} {LL : Nat → Y → Blocks} {H : Nat → Y → Prop} {k : Nat} {R : Exit → Act → World → Prop} (y : Y) (hk : k < N) (hy : H (k + 1) y) (hF : ∀ p ∈ FF (k + 1) y, F.lookup p.1 = some p.2) (hL : ∀ w, St w0 w L → St w0 w (LL (k + 1) y)) :
    X w0 n (Exit.then (NextX w0 n N FF LL H k) R) F L .normal := fun _ w ha hw => ⟨hk, y, hy, ha.all hF, hL w hw⟩
theorem Slc.Is.cells {r : Slc} {e : TypeId} {sz : Nat} {xs : List (List Value)} (h : r.Is e sz xs) : r.v.cells = #[r.v] ∧ r.v.oneCell' = true := by
  rcases h.row with ⟨rfl, rfl⟩ | ⟨g, cap, sp, rfl, _⟩ <;> exact ⟨rfl, rfl⟩
end
theorem fold_all : ∀ (c : List Value) (off k : Nat) (cs : Array Value), (c.zipIdx k).foldl (fun cs x => cs.setIfInBounds (off + x.2) x.1) cs = setAll cs (off + k) c
  | [], _, _, _ => rfl
  | v :: c, off, k, cs => by
    rw [List.zipIdx_cons, List.foldl_cons, fold_all c off (k + 1)]
    rfl
theorem fill_one {place : Nat → Option (Nat × Nat)} {cs : Array Value} {c : List Value} {n : Nat} (hp : place 0 = some (0, n)) (hc : c.length = n) (hs : cs.size = n) : Instr.fill place cs [(0, .agg c.toArray)] = some c.toArray := by
  unfold Instr.fill
  rw [hp]
  simp only [Value.cells, List.size_toArray, hc, hs, Nat.zero_add, ne_eq, not_true_eq_false, decide_false, Bool.false_or]
  rw [if_neg (by simp)]
  unfold Instr.fill
  have h1 : c.toArray.zipIdx.foldl (fun cs (x : Value × Nat) => cs.setIfInBounds (0 + x.2) x.1) cs = setAll cs (0 + 0) c := by
    rw [← fold_all c 0 0 cs, ← Array.foldl_toList, Array.toList_zipIdx]
  have h2 := Cu.setAll_all c 0 cs (by omega)
  simp only [Nat.zero_add] at h1
  rw [h1, h2]
  simp
section
variable {P : Program} {w0 : Base} {F : Slots} {L : Blocks} {o : Oper}
theorem Makes.one (t e : TypeId) (ie : TypeInfo) (z : Value) (s : Nat) (x : Operand) (c : List Value) (ho : o.op = .buildSlice t 1 #[(0, x)]) (hx : evF F x = .agg c.toArray) (ht : P.underlying t = some (.slice e)) (hi : P.info? e = some ie) (hz : ie.zero = some z) (hs : ie.size = s) (hc : c.length = s) (h0 : 0 < s) (hb : s ≤ 16777216) :
    Makes P F o e c.toArray (fun g => .slice (some ⟨g, 0, none⟩) 1 1) := fun w => by
  subst hs
  have hr := run_buildSlice (P := P) w t e 1 #[(0, .agg c.toArray)] c.toArray ie z ht hi hz (by omega) (by omega) (fill_one (by simp) hc (by simp))
  unfold execOp
  simp only [ho, Sem.run_bind, List.map_toArray, List.map_cons, List.map_nil, hx, hr, Result.andThen_ok, Sem.run_pure]
theorem exec_upto (t : TypeId) (x hx' : Operand) (g f len cap hi s : Nat) (kh : IntKind) (ho : o.op = .slice t x none (some hx') none) (hx : evF F x = .slice (some ⟨g, f, none⟩) len cap) (hh : evF F hx' = .int kh (hi : Int)) (ht : P.underlying t = some (.slice (P.elem t))) (hsz : ∀ w, (sizeOf (P.elem t)).run P w = .ok s w) (h1 : hi ≤ cap) (w : World) :
    (execOp (evF F) o).run P w = .ok (.value (.slice (some ⟨g, f, none⟩) hi cap)) w := by

  have e : (Instr.sliceAt t (.slice (some ⟨g, f, none⟩) len cap) none (some (.int kh (hi : Int))) none).run P w = .ok (.slice (some ⟨g, f, none⟩) hi cap) w := by
    rw [run_sliceAt_slice w t _ _ _ _ ht]
    simp [Instr.slice, run_underlying ht, Instr.sliceBounds, Instr.sliceBound, asIntOf, h1, hsz, Result.andThen, Addr.add]
  unfold execOp
  simp only [ho, hx, hh, Option.map_some, Option.map_none, e, Sem.run_bind, Sem.run_pure, Result.andThen_ok]
end
end Go.Proofs.YtgemfpnlnipfnaaGreat.Sy

end
section
namespace Go.Proofs.YtgemfpnlnipfnaaGreat.Sy
open Go.RowKit Go.Proofs.YtgemfpnlnipfnaaGreat

section
variable {P : Program} {w0 : Base} {n : Nat} {Q : Exit → Act → World → Prop} {F : Slots} {L M : Blocks} {ops : Array Oper} {ex : Nat → Bool} {fuel : Nat} {listed : Array Bool} {pre T : Blocks}
theorem permD (p : L.Perm M) (h : wpD P w0 n ops Q ex F M fuel listed) : wpD P w0 n ops Q ex F L fuel listed := fun a w ha hw => h a w ha (hw.perm p)
theorem mov_perm {b : Nat × TypeId × Array Value} : ((pre ++ T) ++ [b]).Perm ((pre ++ [b]) ++ T) := by
  rw [List.append_assoc, List.append_assoc]
  exact (List.perm_append_comm (l₁ := T) (l₂ := [b])).append_left pre
theorem movTD {b : Nat × TypeId × Array Value} (h : wpD P w0 n ops Q ex F ((pre ++ [b]) ++ T) fuel listed) : wpD P w0 n ops Q ex F ((pre ++ T) ++ [b]) fuel listed := permD mov_perm h
theorem setTD {i : Nat} {b : Nat × TypeId × Array Value} (h : wpD P w0 n ops Q ex F ((pre.set i b) ++ T) fuel listed) (hi : Nat.ble (i + 1) pre.length = true := by kernel_rfl) : wpD P w0 n ops Q ex F ((pre ++ T).set i b) fuel listed := by
  rw [List.set_append_left _ _ (Nat.le_of_ble_eq_true hi)]
  exact h
def onlyQ (Q : Exit → Act → World → Prop) (K : Act → World → Prop) : Exit → Act → World → Prop
  | .normal => K
  | .panic c => Q (.panic c)
  | _ => fun _ _ => False
theorem wp_only {o : Oper} {a : Act} {w : World} {K' K : Act → World → Prop} (h : o.wp P a w K (onlyQ Q K')) : o.wp P a w K Q := by
  unfold Oper.wp at *
  generalize (execOp a.eval o).run P w = r at *
  cases r with
  | ok x w' =>
    cases x <;> simp only [Oper.upon] at h ⊢ <;>
      first
        | exact h
        | exact Calls.mono h (fun e w'' he => by cases e <;> first | exact he | (obtain ⟨_, _, q⟩ := he; exact q.elim))
  | halt x w' => cases x <;> simp only [Oper.upon] at h ⊢ <;> exact h
theorem soleD (k : Nat) {oi : Oper} (hi0 : ops.toList[k]? = some oi) (h : ∀ Q', (∀ F' L', wpD P w0 n ops Q ex F' L' fuel (listed.setIfInBounds k true) → wpS P w0 n ops Q' F' L' []) → wpS P w0 n ops Q' F L [oi])
    (hg : wantedF ops F oi = some true := by kernel_rfl) (hr : Region.ready .any ops listed = [k] := by kernel_rfl) (hex : ex k = true := by rfl) : wpD P w0 n ops Q ex F L (fuel + 1) listed := fun a w ha hw =>
  wpAnyG_sole k hi0 hr (ha.wanted hg) fun w1 h1 K hK => by
    have q := h (onlyQ Q K) (fun F' L' hd a' w' ha' hw' => wpList_nil (hK _ _ (fun e => by rw [hex] at e; cases e) (hd a' w' ha' hw'))) a w1 ha (hw.gr h1)
    unfold wpList at q
    rw [if_pos (ha.wanted hg)] at q
    rcases q with q | ⟨_, a', w', q⟩
    · exact wp_only (K' := K) q
    · exact q.elim
end
def nilS : Slc := ⟨.slice none 0 0, []⟩
section
variable {r : Nat → Slc} {n i : Nat} {x : Slc}
end
section
variable {w0 : Base} {w : World} {pre a T M N : Blocks}
end
section
variable {P : Program} {w0 : Base} {F : Slots} {L : Blocks} {o : Oper}
end
end Go.Proofs.YtgemfpnlnipfnaaGreat.Sy

end
section
namespace Go.Proofs.YtgemfpnlnipfnaaGreat.Sy
open Go.RowKit Go.Proofs.YtgemfpnlnipfnaaGreat

section
variable {P : Program} {w0 : Base} {n : Nat} {Q : Exit → Act → World → Prop} {F : Slots} {L pre T : Blocks} {ops : Array Oper} {o : Oper} {l : List Oper}
theorem appendM (hg : good ops n F o = true) (ts e : TypeId) (inf : TypeInfo) (z : Value) (sz by_ : Nat) (ht : P.underlying ts = some (.slice e)) (hinf : P.info? e = some inf) (hz : inf.zero = some z) (hs1 : inf.size = sz) (hb1 : inf.bytes = by_) (hzs : z.cells.size = sz) (h0 : 0 < sz)
    (s x : Operand) (ho : o.op = .call { callee := .builtin .append, args := #[s, x], argTypes := #[ts, ts] })
    {r : Slc} {xs ys : List (List Value)} (hr : r.Is e sz xs) (hs : evF F s = r.v) (hy : ∀ y ∈ ys, y.length = sz) (hy1 : ∀ y ∈ ys, ∀ u ∈ y, u.oneCell' = true)
    (A : Option Addr) (m c : Nat) (hm : ys.length = m) (hmc : m ≤ c) (hx : evF F x = .slice A m c) (hf : ∀ r : Slc, From w0 (pre ++ (r.bl ++ T)) A ys.flatten) (hsmall : (xs.length + m) * by_ ≤ 140737488355328) (h63 : xs.length + m ≤ maxLen)
    (h : ∀ r' : Slc, r'.Is e sz (xs ++ ys) → wpS P w0 n ops Q (putF F o.dst r'.v) (pre ++ (r'.bl ++ T)) l) : wpS P w0 n ops Q F (pre ++ (r.bl ++ T)) (o :: l) := by
  have hlen : ∀ u ∈ xs ++ ys, u.length = sz := fun u hu => (List.mem_append.1 hu).elim (hr.len u) (hy u)
  have hone : ∀ u ∈ xs ++ ys, ∀ v ∈ u, v.oneCell' = true := fun u hu => (List.mem_append.1 hu).elim (hr.one u) (hy1 u)
  have hyl : ys.flatten.length = m * sz := by rw [flat_len' hy, hm]
  have hyo : ∀ u ∈ ys.flatten, u.oneCell' = true := fun u hu => by
    obtain ⟨y, h1, h2⟩ := List.mem_flatten.1 hu
    exact hy1 y h1 u h2
  rcases hr.row with ⟨rfl, rfl⟩ | ⟨g, cap, sp, rfl, q1, q2, q3⟩
  · rcases Nat.eq_zero_or_pos m with rfl | hm0
    · obtain rfl : ys = [] := List.eq_nil_of_length_eq_zero hm
      intro a w ha hw
      obtain ⟨k1, _, k3, _⟩ := good_spec hg
      refine wpList_step fun K hK => ?_
      rw [if_pos (ha.wanted k1)]
      have hfc : (Builtin.firstCells inf.size 0 (.slice A 0 c)).run P w = .ok #[] w := by
        cases A with
        | none => simp [Builtin.firstCells, Sem.run_pure]
        | some a => simpa using run_firstCells_some (P := P) w inf.size 0 a 0 c [] (by simp) (fun j u hj => by cases hj)
      have hrn : (Builtin.append_ #[ts, ts] o.type #[.slice none 0 0, .slice A 0 c]).run P w = .ok (.slice none 0 0) w := by
        simp [Builtin.append_, run_underlying ht, sizeOf, typeInfo, hinf, Builtin.lenOf, hfc]
      unfold Oper.wp
      rw [good_exec hg ha]
      unfold execOp
      simp only [ho, resolve, invoke, builtin, Sem.run_bind, Sem.run_pure, Result.andThen_ok, List.map_toArray, List.map_cons, List.map_nil, hs, hx, hrn]
      exact hK _ _ (h nilS (Slc.Is.nil e sz) _ _ (ha.put k3 _) hw)
    · refine appendGNil hg ts e inf z sz by_ ht hinf hz hs1 hb1 hzs h0 s x ho hs A m c ys.flatten hx (hf _) hyl hm0 hyo (by simpa using hsmall) (by simpa using h63) (fun g' cap' sp' h1 h2 h3 => ?_)
      have hq := h ⟨.slice (some ⟨g', 0, none⟩) m cap', [(g', e, (ys.flatten ++ sp').toArray)]⟩ ⟨hlen, hone, .inr ⟨g', cap', sp', by simp [hm], by simpa [hm] using h1, by simpa [hm] using h2, h3⟩⟩
      exact permS (by
        rw [List.nil_append, List.append_assoc]
        exact (List.perm_append_comm (l₁ := T) (l₂ := [(g', e, (ys.flatten ++ sp').toArray)])).append_left pre) hq
  · have hi : (pre ++ ([(g, e, (xs.flatten ++ sp).toArray)] ++ T))[pre.length]? = some (g, e, (xs.flatten ++ sp).toArray) := by
      rw [List.getElem?_append_right (Nat.le_refl _), Nat.sub_self]
      rfl
    refine appendG hg ts e inf z sz by_ ht hinf hz hs1 hb1 hzs h0 s x ho pre.length g xs.length cap xs.flatten sp hs hi (flat_len' hr.len) q1 q3 A m c ys.flatten hx (hf ⟨.slice none 0 0, [(g, e, (xs.flatten ++ sp).toArray)]⟩) hyl hmc hyo hsmall h63 (fun g' cap' sp' h1 h2 h3 => ?_)
    have hq := h ⟨.slice (some ⟨g', 0, none⟩) (xs.length + m) cap', [(g', e, (xs.flatten ++ ys.flatten ++ sp').toArray)]⟩ ⟨hlen, hone, .inr ⟨g', cap', sp', by simp [hm], by simpa [hm] using h1, by simpa [hm] using h2, h3⟩⟩
    have he : (pre ++ ([(g, e, (xs.flatten ++ sp).toArray)] ++ T)).set pre.length (g', e, (xs.flatten ++ ys.flatten ++ sp').toArray) = pre ++ ([(g', e, (xs.flatten ++ ys.flatten ++ sp').toArray)] ++ T) := by
      rw [List.set_append_right _ _ (Nat.le_refl _), Nat.sub_self]
      rfl
    rw [he]
    exact hq
end
theorem retGM {P : Program} {w1 : World} {n : Nat} {F : Slots} {L : Blocks} {fn : Func} {r : ResultVar} {v : Value} {R : Value → Blocks → Prop} (M : Blocks) (hr : fn.results = #[r]) (h : Has P F L r v) (hM : ∀ w, St (Base.of w1) w L → St (Base.of w1) w M) (hR : R v M) : X (Base.of w1) n (bodyPost P fn (GetsN w1 R)) F L .ret := fun a w ha hw => by
  refine bodyPost_ret (v := v) ?_ ha.1 ⟨v, M, rfl, hR, hw.below, fun g t cs hm => (hM w hw).blk g t cs hm, (hM w hw).apart⟩
  rcases Res.run h ha hw with ⟨t, rfl, e1⟩ | ⟨t, ty, ad, rfl, e1, e2⟩ <;> simp [results, Result.andThen, *]
end Go.Proofs.YtgemfpnlnipfnaaGreat.Sy

end
section
namespace Go.Proofs.YtgemfpnlnipfnaaGreat.Wr
abbrev Byt := List UInt8
def nb : Nat → Nat → Byt
  | 0, _ => []
  | k + 1, n => UInt8.ofNat (n / 256 ^ k) :: nb k n
theorem nb_len (k n : Nat) : (nb k n).length = k := by induction k with | zero => rfl | succ k ih => simp [nb, ih]
def said (l : Byt) : Nat := l.foldl (fun a b => 256 * a + b.toNat) 0
theorem foldl_said (l : Byt) (a : Nat) : l.foldl (fun a b => 256 * a + b.toNat) a = a * 256 ^ l.length + said l := by
  induction l generalizing a with
  | nil => simp [said]
  | cons b l ih =>
    unfold said
    rw [List.foldl_cons, List.foldl_cons, ih, ih, List.length_cons, Nat.pow_succ, Nat.mul_zero, Nat.zero_add, Nat.add_mul, Nat.add_assoc]
    congr 1
    rw [Nat.mul_comm 256 a, Nat.mul_assoc, Nat.mul_comm 256]
theorem said_cons (b : UInt8) (l : Byt) : said (b :: l) = b.toNat * 256 ^ l.length + said l := by
  rw [← foldl_said]; unfold said; rw [List.foldl_cons, Nat.mul_zero, Nat.zero_add]
theorem said_snoc (l : Byt) (b : UInt8) : said (l ++ [b]) = 256 * said l + b.toNat := by simp [said]
theorem said_lt (l : Byt) : said l < 256 ^ l.length := by
  induction l with
  | nil => exact Nat.lt_of_lt_of_le Nat.zero_lt_one (Nat.le_refl _)
  | cons b l ih =>
    rw [said_cons, List.length_cons, Nat.pow_succ]
    have h : b.toNat ≤ 255 := by have := b.toNat_lt; omega
    have h2 : b.toNat * 256 ^ l.length ≤ 255 * 256 ^ l.length := Nat.mul_le_mul_right _ h
    omega
def varB (n : Nat) : Byt := if n < 253 then [UInt8.ofNat n] else if n < 65536 then 253 :: nb 2 n else if n < 4294967296 then 254 :: nb 4 n else 255 :: nb 8 n
theorem varB_len (n : Nat) : (varB n).length ≤ 9 := by
  unfold varB
  repeat' split
  all_goals simp only [List.length_cons, List.length_nil, nb_len]; omega
abbrev Ps (α : Type) := Byt → Option (α × Byt)
def takeP (n : Nat) : Ps Byt := fun l => if n ≤ l.length then some (l.take n, l.drop n) else none
def retP {α : Type} (x : α) : Ps α := fun l => some (x, l)
def bindP {α β : Type} (p : Ps α) (q : α → Ps β) : Ps β := fun l => match p l with | none => none | some (x, r) => q x r
def mustP (b : Bool) : Ps Unit := fun l => if b then some ((), l) else none
def numP (k : Nat) : Ps Nat := bindP (takeP k) fun b => retP (said b)
def wide (c : Nat) : Nat := if c = 253 then 2 else if c = 254 then 4 else 8
def least (c : Nat) : Nat := if c = 253 then 253 else if c = 254 then 65536 else 4294967296
def longP (c : Nat) : Ps Nat := bindP (numP (wide c)) fun n => bindP (mustP (decide (least c ≤ n))) fun _ => retP n
def varP (most : Nat) : Ps Nat := bindP (bindP (numP 1) fun c => if c < 253 then retP c else longP c) fun n => bindP (mustP (decide (n ≤ most))) fun _ => retP n
def textP (most : Nat) : Ps Byt := bindP (varP most) takeP
def repP {α : Type} (p : Ps α) : Nat → Ps (List α)
  | 0 => retP []
  | n + 1 => bindP p fun x => bindP (repP p n) fun l => retP (x :: l)
def listP {α : Type} (most : Nat) (p : Ps α) : Ps (List α) := bindP (varP most) (repP p)
def allP {α : Type} (p : Ps α) (l : Byt) : Option α := match p l with | some (x, []) => some x | _ => none

structure RS where
  rest : Byt
  e : Nat
structure After {α : Type} (p : Ps α) (s : RS) (x : α) (s' : RS) : Prop where
  bad : s.e ≠ 0 → s'.e ≠ 0
  yes : ∀ y r, s.e = 0 → p s.rest = some (y, r) → x = y ∧ s' = ⟨r, 0⟩
  no : s.e = 0 → p s.rest = none → s'.e ≠ 0
theorem After.bind {α β : Type} {p : Ps α} {q : α → Ps β} {s s1 s2 : RS} {x : α} {y : β} (h : After p s x s1) (k : After (q x) s1 y s2) : After (bindP p q) s y s2 := by
  refine ⟨fun h0 => k.bad (h.bad h0), fun z r h0 hz => ?_, fun h0 hz => ?_⟩
  · unfold bindP at hz
    cases hp : p s.rest with
    | none => rw [hp] at hz; cases hz
    | some u =>
      obtain ⟨x1, r1⟩ := u
      obtain ⟨rfl, rfl⟩ := h.yes x1 r1 h0 hp
      rw [hp] at hz
      exact k.yes z r rfl hz
  · unfold bindP at hz
    cases hp : p s.rest with
    | none => exact k.bad (h.no h0 hp)
    | some u =>
      obtain ⟨x1, r1⟩ := u
      obtain ⟨rfl, rfl⟩ := h.yes x1 r1 h0 hp
      rw [hp] at hz
      exact k.no rfl hz
theorem After.ret {α : Type} (x : α) (s : RS) : After (retP x) s x s := ⟨fun h => h, fun y r h0 h => by cases s; cases h; cases h0; exact ⟨rfl, rfl⟩, fun _ h => by cases h⟩
theorem After.ok {α : Type} {p : Ps α} {s s' : RS} {x : α} (h : After p s x s') (h0 : s.e = 0) (h1 : s'.e = 0) : p s.rest = some (x, s'.rest) := by
  cases hp : p s.rest with
  | none => exact absurd h1 (h.no h0 hp)
  | some u => obtain ⟨y, r⟩ := u; obtain ⟨rfl, rfl⟩ := h.yes y r h0 hp; rfl
structure Wrote (ok : Bool) (e : Byt) (k : Nat) (bad : Bool) (b : Byt) (bad' : Bool) (b' : Byt) : Prop where
  bad : bad' = (bad || !ok)
  bytes : bad' = false → b' = b ++ e
  len : b'.length ≤ b.length + k
theorem Wrote.then_ {o1 o2 : Bool} {e1 e2 : Byt} {k1 k2 : Nat} {x y z : Bool} {a b c : Byt} (h : Wrote o1 e1 k1 x a y b) (g : Wrote o2 e2 k2 y b z c) : Wrote (o1 && o2) (e1 ++ e2) (k1 + k2) x a z c := by
  refine ⟨?_, fun hz => ?_, ?_⟩
  · rw [g.bad, h.bad]; cases x <;> cases o1 <;> cases o2 <;> rfl
  · have hy : y = false := by
      have q := g.bad
      rw [hz] at q
      cases y with
      | false => rfl
      | true => cases q
    rw [g.bytes hz, h.bytes hy, List.append_assoc]
  · have := h.len; have := g.len; omega
theorem Wrote.must (ok : Bool) (x : Bool) (b : Byt) : Wrote ok [] 0 x b (x || !ok) b := ⟨rfl, fun _ => (List.append_nil b).symm, Nat.le_refl _⟩
theorem Wrote.raw (e : Byt) (x : Bool) (b : Byt) {k : Nat} (hk : e.length ≤ k) : Wrote true e k x b x (b ++ e) := ⟨by cases x <;> rfl, fun _ => rfl, by rw [List.length_append]; omega⟩
structure MOut where
  value : Nat
  claim : Byt
def encMO (o : MOut) : Byt := nb 8 o.value ++ o.claim
def rdMO : Ps MOut := bindP (numP 8) fun v => bindP (takeP 32) fun c => retP ⟨v, c⟩
structure MTx where
  nonce : Nat
  outs : List MOut
def encL {α : Type} (f : α → Byt) (l : List α) : Byt := varB l.length ++ l.flatMap f
def okMT (t : MTx) : Bool := decide (t.outs.length ≤ 16)
def encMT (t : MTx) : Byt := nb 8 t.nonce ++ encL encMO t.outs
def rdMT : Ps MTx := bindP (numP 8) fun n => bindP (listP 16 rdMO) fun l => retP ⟨n, l⟩
theorem bind_some {α β : Type} {p : Ps α} {q : α → Ps β} {l r : Byt} {x : α} (h : p l = some (x, r)) : bindP p q l = q x r := by unfold bindP; rw [h]
theorem bind_none {α β : Type} {p : Ps α} {q : α → Ps β} {l : Byt} (h : p l = none) : bindP p q l = none := by unfold bindP; rw [h]
theorem repP_snoc {α : Type} (p : Ps α) (i : Nat) (s : Byt) : repP p (i + 1) s = bindP (repP p i) (fun l => bindP p fun x => retP (l ++ [x])) s := by
  induction i generalizing s with
  | zero =>
    show bindP p (fun x => bindP (repP p 0) fun l => retP (x :: l)) s = _
    cases h : p s with
    | none => rw [bind_none h]; symm; rw [bind_some (show repP p 0 s = some ([], s) from rfl), bind_none h]
    | some u => obtain ⟨x, r⟩ := u; rw [bind_some h, bind_some (show repP p 0 r = some ([], r) from rfl), bind_some (show repP p 0 s = some ([], s) from rfl), bind_some h]; rfl
  | succ i ih =>
    show bindP p (fun x => bindP (repP p (i + 1)) fun l => retP (x :: l)) s = _
    cases h : p s with
    | none => rw [bind_none h, bind_none (show repP p (i + 1) s = none from bind_none h)]
    | some u =>
      obtain ⟨x, r⟩ := u
      rw [bind_some h]
      cases h2 : repP p i r with
      | none =>
        rw [bind_none (show repP p (i + 1) r = none by rw [ih, bind_none h2]), bind_none]
        show bindP p _ s = none
        rw [bind_some h, bind_none h2]
      | some u2 =>
        obtain ⟨l, r2⟩ := u2
        have e : repP p (i + 1) s = some (x :: l, r2) := by
          show bindP p _ s = _
          rw [bind_some h, bind_some h2]; rfl
        rw [bind_some e]
        cases h3 : p r2 with
        | none => rw [bind_none h3, bind_none]; rw [ih, bind_some h2, bind_none h3]
        | some u3 =>
          obtain ⟨y, r3⟩ := u3
          rw [bind_some h3, bind_some (show repP p (i + 1) r = some (l ++ [y], r3) by rw [ih, bind_some h2, bind_some h3]; rfl)]
          rfl
theorem repP_none {α : Type} {p : Ps α} {s : Byt} {i : Nat} (h : repP p i s = none) : ∀ j, i ≤ j → repP p j s = none := by
  intro j hj
  obtain ⟨k, rfl⟩ : ∃ k, j = i + k := ⟨j - i, by omega⟩
  clear hj
  induction k with
  | zero => exact h
  | succ k ih => rw [← Nat.add_assoc, repP_snoc, bind_none ih]
theorem varB_wide {c n : Nat} (hc : c < 256) (hc2 : 253 ≤ c) (hn : n < 256 ^ wide c) : (varB n).length = 1 + wide c ↔ least c ≤ n := by
  have h : c = 253 ∨ c = 254 ∨ c = 255 := by omega
  rcases h with rfl | rfl | rfl
  · have hn : n < 65536 := by simpa [wide] using hn
    clear hc hc2
    show (varB n).length = 3 ↔ 253 ≤ n
    unfold varB
    repeat' split
    all_goals (simp only [List.length_cons, List.length_nil, nb_len, true_iff]; omega)
  · have hn : n < 4294967296 := by simpa [wide] using hn
    clear hc hc2
    show (varB n).length = 5 ↔ 65536 ≤ n
    unfold varB
    repeat' split
    all_goals (simp only [List.length_cons, List.length_nil, nb_len, true_iff]; omega)
  · show (varB n).length = 9 ↔ 4294967296 ≤ n
    unfold varB
    repeat' split
    all_goals (simp only [List.length_cons, List.length_nil, nb_len, true_iff]; omega)
theorem take_len {n : Nat} {l b r : Byt} (h : takeP n l = some (b, r)) : b.length = n ∧ l = b ++ r := by
  unfold takeP at h
  by_cases hn : n ≤ l.length
  · rw [if_pos hn] at h
    obtain ⟨rfl, rfl⟩ : l.take n = b ∧ l.drop n = r := by simpa using h
    exact ⟨by rw [List.length_take]; omega, (List.take_append_drop n l).symm⟩
  · rw [if_neg hn] at h; cases h
end Go.Proofs.YtgemfpnlnipfnaaGreat.Wr

end
section
namespace Go.Proofs.YtgemfpnlnipfnaaGreat.Wr
open Go.RowKit Go.Proofs.YtgemfpnlnipfnaaGreat Go.Proofs.YtgemfpnlnipfnaaGreat.Sy
set_option maxRecDepth 100000
set_option maxHeartbeats 4000000

abbrev Rdr := Nat → Nat → Value → Prop
def Le (C D : Rdr) : Prop := ∀ g o v, C g o v → D g o v
def rdW (w : World) : Rdr := fun g o v => g < w.heap.size ∧ w.cell? ⟨g, o, none⟩ = some v
def rdB (M : Blocks) : Rdr := fun g o v => ∃ t cs, (g, t, cs) ∈ M ∧ cs[o]? = some v
def rdC (w0 : Base) (R : Blocks) : Rdr := fun g o v => rdW w0.world g o v ∨ rdB R g o v
theorem rdB_le {M N : Blocks} (h : ∀ b ∈ M, b ∈ N) : Le (rdB M) (rdB N) := fun _ _ _ ⟨t, cs, hm, hc⟩ => ⟨t, cs, h _ hm, hc⟩
theorem rdC_le {w0 : Base} {M N : Blocks} (h : ∀ b ∈ M, b ∈ N) : Le (rdC w0 M) (rdC w0 N) := fun g o v hv => hv.imp id (rdB_le h g o v)
theorem rdC_world {w0 : Base} {w : World} {L R : Blocks} (hw : St w0 w L) (hR : ∀ b ∈ R, b ∈ L) : Le (rdC w0 R) (rdW w) := by
  rintro g o v (⟨hg, hc⟩ | ⟨t, cs, hm, hc⟩)
  · exact ⟨Nat.lt_of_lt_of_le hg hw.below.size, (Below.cell (p := ⟨g, o, none⟩) hw.below hg).trans hc⟩
  · have hb := (hw.blk g t cs (hR _ hm)).2
    exact ⟨hb.lt, (hb.cell o).trans hc⟩
theorem rdW_base {w : World} {R : Blocks} : Le (rdW w) (rdC (Base.of w) R) := fun _ _ _ h => .inl h
theorem rdB_base {w0 : Base} {R : Blocks} : Le (rdB R) (rdC w0 R) := fun _ _ _ h => .inr h
def BytR (C : Rdr) (v : Value) (b : Byt) : Prop := ∃ A n cp, v = .slice A n cp ∧ b.length = n ∧ n ≤ cp ∧ cp ≤ maxLen ∧ (b ≠ [] → ∃ g o, A = some ⟨g, o, none⟩ ∧ ∀ j u, b[j]? = some u → C g (o + j) (bv u))
theorem BytR.le {C D : Rdr} (hl : Le C D) {v : Value} {b : Byt} (h : BytR C v b) : BytR D v b := by
  obtain ⟨A, n, cp, h1, h2, h3, h4, h5⟩ := h
  exact ⟨A, n, cp, h1, h2, h3, h4, fun hb => by obtain ⟨g, o, e, hq⟩ := h5 hb; exact ⟨g, o, e, fun j u hu => hl _ _ _ (hq j u hu)⟩⟩
theorem BytR.nil (C : Rdr) : BytR C (.slice none 0 0) [] := ⟨none, 0, 0, rfl, rfl, Nat.le_refl _, Nat.zero_le _, fun h => (h rfl).elim⟩
theorem BytR.cells {C : Rdr} {v : Value} {b : Byt} (h : BytR C v b) : v.cells = #[v] ∧ v.oneCell' = true := by
  obtain ⟨A, n, cp, rfl, _⟩ := h; exact ⟨rfl, rfl⟩
def byL (b : Byt) : List (List Value) := b.map fun u => [bv u]
theorem byL_flat (b : Byt) : (byL b).flatten = b.map bv := by induction b with | nil => rfl | cons u b ih => show bv u :: (byL b).flatten = bv u :: b.map bv; rw [ih]
theorem byL_len (b : Byt) : (byL b).length = b.length := List.length_map _
theorem byL_app (a b : Byt) : byL (a ++ b) = byL a ++ byL b := List.map_append
theorem byL_one (b : Byt) : ∀ y ∈ byL b, y.length = 1 := fun y hy => by obtain ⟨u, _, rfl⟩ := List.mem_map.1 hy; rfl
theorem byL_oneC (b : Byt) : ∀ y ∈ byL b, ∀ u ∈ y, u.oneCell' = true := fun y hy u hu => by
  obtain ⟨w, _, rfl⟩ := List.mem_map.1 hy
  rw [List.mem_singleton.1 hu]; rfl
theorem BytR.from {w0 : Base} {L R : Blocks} {A : Option Addr} {n cp : Nat} {b : Byt} (h : BytR (rdC w0 R) (.slice A n cp) b) (hR : ∀ x ∈ R, x ∈ L) : From w0 L A (byL b).flatten := fun w hw => by
  obtain ⟨A', n', cp', e, h2, h3, h4, h5⟩ := h
  injection e with e1 e2 e3
  subst e1
  rw [byL_flat]
  cases b with
  | nil => exact .inl rfl
  | cons u b =>
    obtain ⟨g, o, rfl, hq⟩ := h5 (by simp)
    refine .inr ⟨_, rfl, fun j v hj => ?_⟩
    rw [addr_off]
    rw [List.getElem?_map] at hj
    cases hx : (u :: b)[j]? with
    | none => rw [hx] at hj; cases hj
    | some x =>
      rw [hx] at hj
      cases hj
      exact (rdC_world hw hR _ _ _ (hq j x hx)).2
theorem Slc_byt {r : Slc} {e : TypeId} {b : Byt} (h : r.Is e 1 (byL b)) : BytR (rdB r.bl) r.v b := by
  rcases h.row with ⟨e1, rfl⟩ | ⟨g, cap, sp, rfl, h1, h2, h3⟩
  · have : b = [] := by cases b with | nil => rfl | cons => cases e1
    rw [this]
    exact BytR.nil _
  · rw [byL_len] at h1 h2
    refine ⟨_, _, _, rfl, (byL_len b).symm, by rw [byL_len]; exact h2, h3, fun _ => ⟨g, 0, rfl, fun j u hu => ⟨e, _, List.mem_singleton.2 rfl, ?_⟩⟩⟩
    have hl := (List.getElem?_eq_some_iff.1 hu).1
    rw [byL_flat, Nat.zero_add, List.getElem?_toArray, List.getElem?_append_left (by simpa using hl), List.getElem?_map, hu]
    rfl
section
variable {P : Program} {w0 : Base} {n : Nat} {Q : Exit → Act → World → Prop} {F : Slots} {L : Blocks} {ops : Array Oper} {o : Oper} {ex : Nat → Bool} {fuel : Nat} {listed : Array Bool}
theorem sa (i : Nat) {oi : Oper} (hi0 : ops.toList[i]? = some oi) {v : Value} (hl : opV F oi.op = some v) (h : wpD P w0 n ops Q ex (putF F oi.dst v) L fuel (listed.setIfInBounds i true)) (hc : canTakeA .any ops listed i = true := by kernel_rfl) (hg : good ops n F oi = true := by kernel_rfl)
    (hQ : ∀ c v a w, Q (.panic c) (a.put oi.dst v) w → Q (.panic c) a w := by exact fun _ _ _ _ h => h) : wpD P w0 n ops Q ex F L (fuel + 1) listed := stepDA i hi0 hc hQ hg v (opV_run hl) h
theorem sb (i : Nat) {oi : Oper} (hi0 : ops.toList[i]? = some oi) (v : Value) (h : wpD P w0 n ops Q ex (putF F oi.dst v) L fuel (listed.setIfInBounds i true)) (hp : ∀ w, (execOp (evF F) oi).run P w = .ok (.value v) w := by intro _; kernel_rfl) (hc : canTakeA .any ops listed i = true := by kernel_rfl) (hg : good ops n F oi = true := by kernel_rfl)
    (hQ : ∀ c v a w, Q (.panic c) (a.put oi.dst v) w → Q (.panic c) a w := by exact fun _ _ _ _ h => h) : wpD P w0 n ops Q ex F L (fuel + 1) listed := stepDA i hi0 hc hQ hg v hp h
theorem sv (i : Nat) {oi : Oper} (hi0 : ops.toList[i]? = some oi) (v : Value) (hp : ∀ w, (execOp (evF F) oi).run P w = .ok (.value v) w) (h : wpD P w0 n ops Q ex (putF F oi.dst v) L fuel (listed.setIfInBounds i true)) (hc : canTakeA .any ops listed i = true := by kernel_rfl) (hg : good ops n F oi = true := by kernel_rfl)
    (hQ : ∀ c v a w, Q (.panic c) (a.put oi.dst v) w → Q (.panic c) a w := by exact fun _ _ _ _ h => h) : wpD P w0 n ops Q ex F L (fuel + 1) listed := stepDA i hi0 hc hQ hg v hp h
theorem se (i : Nat) (bs : List Nat) {oi : Oper} (hi0 : ops.toList[i]? = some oi) (v : Value) (hq : Quiet P w0 F L oi v) (h : wpD P w0 n ops Q ex (putF F oi.dst v) L fuel (listed.setIfInBounds i true)) (hc : canTakeB .any ops listed ex i bs = true := by kernel_rfl) (hg : good ops n F oi = true := by kernel_rfl)
    (hQ : ∀ c v a w, Q (.panic c) (a.put oi.dst v) w → Q (.panic c) a w := by exact fun _ _ _ _ h => h) : wpD P w0 n ops Q ex F L (fuel + 1) listed := stepDB i bs hi0 hc hQ hg v hq h
theorem keep1 {a b : Nat × TypeId × Array Value} {A : Blocks} {w : World} (h : St w0 w ([a, b] ++ A)) : St w0 w ([a] ++ A) := h.less (((List.Sublist.refl A).cons b).cons_cons a)
end
end Go.Proofs.YtgemfpnlnipfnaaGreat.Wr

end
