/-
  Texts of ours, put together: CrvC, CrvO, ScSpec, ScLow, FeB32, FeRead, RefSqrt, RootNum, CrvD, CrvP, CrvQ.
-/
import Derived.Test.YtfhcpdbahbbmaaaGreatDoorBM3
set_option linter.unusedVariables false
set_option linter.unusedSimpArgs false
namespace Go.Proofs.YtfhcpdbahbbmaaaGreatDoor
section
namespace Cu
open Go.RowKit Sy
set_option maxRecDepth 100000
set_option maxHeartbeats 4000000
def modcs : Array Value:=#[.int .u64 18446744069414583343,.int .u64 18446744073709551615,.int .u64 18446744073709551615,.int .u64 18446744073709551615,.int .u64 4294968273,.int .u64 0,.int .u64 0]
def mod0 : Array Value:=#[.int .u64 0,.int .u64 0,.int .u64 0,.int .u64 0,.int .u64 0,.int .u64 0,.int .u64 0]
theorem refmul_c (w : World) (a b : Fp) : Calls Tryz.prog 106 #[.agg modcs,fv a.val,fv b.val] w (Gets w (fv (a * b).val)):=mulR_any w a.val b.val (lt4 a) (lt4 b)
theorem refadd_c (w : World) (a b : Fp) : Calls Tryz.prog 105 #[.agg modcs,fv a.val,fv b.val] w (Gets w (fv (a + b).val)):=addR_any w a.val b.val (lt4 a) (lt4 b)
theorem refsub_c (w : World) (a b : Fp) : Calls Tryz.prog 127 #[.agg modcs,fv a.val,fv b.val] w (Gets w (fv (a - b).val)):=by rw [← val_sub]; exact subR_any w a.val b.val (lt4 a) (lt4 b)
theorem refneg_c (w : World) (a : Fp) : Calls Tryz.prog 115 #[.agg modcs,fv a.val] w (Gets w (fv (-a).val)):=by rw [← val_neg]; exact negR_any w a.val (lt4 a)
theorem inv_pw (a : Nat) : invR a = pw a (115792089237316195423570985008687907853269984665640564039457584007908834671663 - 2):=by
 have h:=invR_pow a
 rw [invR_red] at h
 rw [h, ← eInv_is]
 rfl
theorem refinv_c (w : World) (a : Fp) : Calls Tryz.prog 81 #[.agg modcs,fv a.val] w (Gets w (fv (finv a).val)):=by
 have e : (finv a).val = invR a.val:=rfl
 have h:=invRef_any w a.val (lt4 a)
 rw [← inv_pw, ← e] at h
 exact h
theorem eql_num (w : World) (F : Slots) (o : Oper) (x y : Operand) (n m : Nat) {yt : TypeId} (ho : o.op = .binOp .eql 97 x y yt) (hx : evF F x = fv n) (hy : evF F y = fv m) (hn : n < K4) (hm : m < K4) : (execOp (evF F) o).run Tryz.prog w = .ok (.value (.bool (decide (n = m)))) w:=by
 have h1:=Nm.run_eqGuard_fv .eql x y n m w
 have h2:=Nm.run_eql_fv w n m hn hm
 unfold execOp
 simp only [ho,hx,hy,Sem.run_bind,h1,h2,Result.andThen_ok,Sem.run_pure]
theorem neq_num (w : World) (F : Slots) (o : Oper) (x y : Operand) (n m : Nat) {yt : TypeId} (ho : o.op = .binOp .neq 97 x y yt) (hx : evF F x = fv n) (hy : evF F y = fv m) (hn : n < K4) (hm : m < K4) : (execOp (evF F) o).run Tryz.prog w = .ok (.value (.bool (decide (n ≠ m)))) w:=by
 have h1:=Nm.run_eqGuard_fv .neq x y n m w
 have h2:=Nm.run_neq_fv w n m hn hm
 unfold execOp
 simp only [ho,hx,hy,Sem.run_bind,h1,h2,Result.andThen_ok,Sem.run_pure]
theorem small_c (w : World) (k : Nat) (hk : k < 18446744073709551616) : Calls Tryz.prog 132 #[.int .u64 (k : Int)] w (Gets w (fv k)):=by
 rw [fv_small k hk]
 refine Sy.enter (args:=[.int .u64 (k : Int)]) Tryz.func132 rfl kL ?_
 refine sC ?_
 refine sM 97 (fcs 0) (fun g0 => ?_)
 refine sA ?_
 refine sP (.int .u64 (k : Int)) <| sP (.agg #[.int .u64 (k : Int),.int .u64 0,.int .u64 0,.int .u64 0]) <| sW 0 g0 97 (fcs 0) #[.int .u64 (k : Int),.int .u64 0,.int .u64 0,.int .u64 0] (wS 0 97 #[.int .u64 (k : Int),.int .u64 0,.int .u64 0,.int .u64 0] rfl) ?_
 refine sG <| Sy.ret ?_
 exact Sy.ret1 rfl (.inl (Res.cell (ty':=97) g0 0 #[.int .u64 (k : Int),.int .u64 0,.int .u64 0,.int .u64 0] _ kR kR Tryz.underlying97 rfl kR kR))
theorem mulR_c (w : World) (a b : Fp) : Calls Tryz.prog 82 #[fv a.val,fv b.val] w (Gets w (fv (a * b).val)):=by
 refine Sy.enter (args:=[fv a.val,fv b.val]) Tryz.func82 rfl kL ?_
 refine sC ?_
 refine sM 97 (fcs a.val) (fun g0 => ?_)
 refine sM 97 (fcs b.val) (fun g1 => ?_)
 refine sM 97 (fcs 0) (fun g2 => ?_)
 refine sH (fun j => j == 4) ?_
 refine sD 0 rfl (.agg modcs) (qF 54 #[] (refP_any)) <| sD 1 rfl (fv a.val) (qL 0 g0 0 4 97 97 (fcs a.val) rfl Tryz.underlying97) <| sD 2 rfl (fv b.val) (qL 1 g1 0 4 97 97 (fcs b.val) rfl Tryz.underlying97) ?_
 obtain ⟨z1,hz1⟩ : ∃ z : Fp,z = a * b:=⟨_,rfl⟩
 refine sD 3 rfl (fv z1.val) (qF 106 #[.agg modcs,fv a.val,fv b.val] (fun w => by rw [hz1]; exact refmul_c w a b)) <| sX 4 rfl 2 g2 97 (fcs 0) (fcs z1.val) (wS 0 97 (fcs z1.val) rfl) ?_
 refine sI ?_
 refine Sy.ret ?_
 rw [show (fv (a * b).val : Value) = fv z1.val from by rw [hz1]]
 exact rC (v:=fv z1.val) 97 g2 2 (fcs z1.val) rfl Tryz.underlying97
theorem addR_c (w : World) (a b : Fp) : Calls Tryz.prog 114 #[fv a.val,fv b.val] w (Gets w (fv (a + b).val)):=by
 refine Sy.enter (args:=[fv a.val,fv b.val]) Tryz.func114 rfl kL ?_
 refine sC ?_
 refine sM 97 (fcs a.val) (fun g0 => ?_)
 refine sM 97 (fcs b.val) (fun g1 => ?_)
 refine sM 97 (fcs 0) (fun g2 => ?_)
 refine sH (fun j => j == 4) ?_
 refine sD 0 rfl (.agg modcs) (qF 54 #[] (refP_any)) <| sD 1 rfl (fv a.val) (qL 0 g0 0 4 97 97 (fcs a.val) rfl Tryz.underlying97) <| sD 2 rfl (fv b.val) (qL 1 g1 0 4 97 97 (fcs b.val) rfl Tryz.underlying97) ?_
 obtain ⟨z1,hz1⟩ : ∃ z : Fp,z = a + b:=⟨_,rfl⟩
 refine sD 3 rfl (fv z1.val) (qF 105 #[.agg modcs,fv a.val,fv b.val] (fun w => by rw [hz1]; exact refadd_c w a b)) <| sX 4 rfl 2 g2 97 (fcs 0) (fcs z1.val) (wS 0 97 (fcs z1.val) rfl) ?_
 refine sI ?_
 refine Sy.ret ?_
 rw [show (fv (a + b).val : Value) = fv z1.val from by rw [hz1]]
 exact rC (v:=fv z1.val) 97 g2 2 (fcs z1.val) rfl Tryz.underlying97
theorem subR_c (w : World) (a b : Fp) : Calls Tryz.prog 113 #[fv a.val,fv b.val] w (Gets w (fv (a - b).val)):=by
 refine Sy.enter (args:=[fv a.val,fv b.val]) Tryz.func113 rfl kL ?_
 refine sC ?_
 refine sM 97 (fcs a.val) (fun g0 => ?_)
 refine sM 97 (fcs b.val) (fun g1 => ?_)
 refine sM 97 (fcs 0) (fun g2 => ?_)
 refine sH (fun j => j == 4) ?_
 refine sD 0 rfl (.agg modcs) (qF 54 #[] (refP_any)) <| sD 1 rfl (fv a.val) (qL 0 g0 0 4 97 97 (fcs a.val) rfl Tryz.underlying97) <| sD 2 rfl (fv b.val) (qL 1 g1 0 4 97 97 (fcs b.val) rfl Tryz.underlying97) ?_
 obtain ⟨z1,hz1⟩ : ∃ z : Fp,z = a - b:=⟨_,rfl⟩
 refine sD 3 rfl (fv z1.val) (qF 127 #[.agg modcs,fv a.val,fv b.val] (fun w => by rw [hz1]; exact refsub_c w a b)) <| sX 4 rfl 2 g2 97 (fcs 0) (fcs z1.val) (wS 0 97 (fcs z1.val) rfl) ?_
 refine sI ?_
 refine Sy.ret ?_
 rw [show (fv (a - b).val : Value) = fv z1.val from by rw [hz1]]
 exact rC (v:=fv z1.val) 97 g2 2 (fcs z1.val) rfl Tryz.underlying97
theorem zeroR_c (w : World)  : Calls Tryz.prog 80 #[] w (Gets w (pv 0 0 true)):=by
 refine Sy.enter (args:=[]) Tryz.func80 rfl kL ?_
 refine sC ?_
 refine sM 71 (pcs 0 0 false) (fun g0 => ?_)
 refine sA ?_
 refine sP (pv 0 0 true) <| sW 0 g0 71 (pcs 0 0 false) (pcs 0 0 true) (wS 0 71 (pcs 0 0 true) rfl) ?_
 refine sG <| Sy.ret ?_
 exact rC (v:=pv 0 0 true) 71 g0 0 (pcs 0 0 true) rfl Tryz.underlying71
theorem baseR_c (w : World)  : Calls Tryz.prog 31 #[] w (Gets w (ptv bP)):=by
 refine Sy.enter (args:=[]) Tryz.func31 rfl kL ?_
 refine sC ?_
 refine sM 71 (pcs 0 0 false) (fun g0 => ?_)
 refine sA ?_
 refine sP (fv 55066263022277343669578718895168534326250603453777594175500187360389116729240) <| sP (fv 32670510020758816978083085130507043184471273380659243275938904335757337482424) <| sP (pv 55066263022277343669578718895168534326250603453777594175500187360389116729240 32670510020758816978083085130507043184471273380659243275938904335757337482424 false) <| sW 0 g0 71 (pcs 0 0 false) (pcs 55066263022277343669578718895168534326250603453777594175500187360389116729240 32670510020758816978083085130507043184471273380659243275938904335757337482424 false) (wS 0 71 (pcs 55066263022277343669578718895168534326250603453777594175500187360389116729240 32670510020758816978083085130507043184471273380659243275938904335757337482424 false) rfl) ?_
 refine sG <| Sy.ret ?_
 rw [show (ptv bP : Value) = pv 55066263022277343669578718895168534326250603453777594175500187360389116729240 32670510020758816978083085130507043184471273380659243275938904335757337482424 false from by kernel_rfl]
 exact rC (v:=pv 55066263022277343669578718895168534326250603453777594175500187360389116729240 32670510020758816978083085130507043184471273380659243275938904335757337482424 false) 71 g0 0 (pcs 55066263022277343669578718895168534326250603453777594175500187360389116729240 32670510020758816978083085130507043184471273380659243275938904335757337482424 false) rfl Tryz.underlying71
theorem cubeR_c (w : World) (x : Fp) : Calls Tryz.prog 111 #[fv x.val] w (Gets w (fv (x * x * x + 7).val)):=by
 refine Sy.enter (args:=[fv x.val]) Tryz.func111 rfl kL ?_
 refine sC ?_
 refine sM 97 (fcs x.val) (fun g0 => ?_)
 refine sM 97 (fcs 0) (fun g1 => ?_)
 refine sH (fun j => j == 7) ?_
 refine sD 0 rfl (fv x.val) (qL 0 g0 0 4 97 97 (fcs x.val) rfl Tryz.underlying97) <| sD 1 rfl (fv x.val) (qL 0 g0 0 4 97 97 (fcs x.val) rfl Tryz.underlying97) <| sD 2 rfl (fv x.val) (qL 0 g0 0 4 97 97 (fcs x.val) rfl Tryz.underlying97) ?_
 obtain ⟨z1,hz1⟩ : ∃ z : Fp,z = x * x:=⟨_,rfl⟩
 refine sD 3 rfl (fv z1.val) (qF 82 #[fv x.val,fv x.val] (fun w => by rw [hz1]; exact mulR_c w x x)) ?_
 obtain ⟨z2,hz2⟩ : ∃ z : Fp,z = x * z1:=⟨_,rfl⟩
 refine sD 4 rfl (fv z2.val) (qF 82 #[fv x.val,fv z1.val] (fun w => by rw [hz2]; exact mulR_c w x z1)) ?_
 obtain ⟨z3,hz3⟩ : ∃ z : Fp,z = (7 : Fp):=⟨_,rfl⟩
 refine sD 5 rfl (fv z3.val) (qF 132 #[.int .u64 7] (fun w => by rw [hz3]; exact small_c w 7 (by decide))) ?_
 obtain ⟨z4,hz4⟩ : ∃ z : Fp,z = z2 + z3:=⟨_,rfl⟩
 refine sD 6 rfl (fv z4.val) (qF 114 #[fv z2.val,fv z3.val] (fun w => by rw [hz4]; exact addR_c w z2 z3)) <| sX 7 rfl 1 g1 97 (fcs 0) (fcs z4.val) (wS 0 97 (fcs z4.val) rfl) ?_
 refine sI ?_
 refine Sy.ret ?_
 rw [show (fv (x * x * x + 7).val : Value) = fv z4.val from by
  refine congrArg (fun t : Fp => fv t.val) ?_
  grobner]
 exact rC (v:=fv z4.val) 97 g1 1 (fcs z4.val) rfl Tryz.underlying97
theorem pointR_c (w : World) (x y : Nat) (hx : x < K4) (hy : y < K4) : Calls Tryz.prog 83 #[fv x,fv y] w (Gets w (pv x y false)):=by
 refine Sy.enter (args:=[fv x,fv y]) Tryz.func83 rfl kL ?_
 refine sC ?_
 refine sM 97 (fcs x) (fun g0 => ?_)
 refine sM 97 (fcs y) (fun g1 => ?_)
 refine sM 71 (pcs 0 0 false) (fun g2 => ?_)
 refine sH (fun j => j == 5) ?_
 refine sD 0 rfl (fv x) (qL 0 g0 0 4 97 97 (fcs x) rfl Tryz.underlying97) <| sD 1 rfl (fv x) (qF 58 #[fv x] (fun w => refFe_any w x lK)) <| sD 2 rfl (fv y) (qL 1 g1 0 4 97 97 (fcs y) rfl Tryz.underlying97) <| sD 3 rfl (fv y) (qF 58 #[fv y] (fun w => refFe_any w y lK)) <| sZ 4 rfl (pv x y false) <| sX 5 rfl 2 g2 71 (pcs 0 0 false) (pcs x y false) (wS 0 71 (pcs x y false) rfl) ?_
 refine sI ?_
 refine Sy.ret ?_
 exact rC (v:=pv x y false) 71 g2 2 (pcs x y false) rfl Tryz.underlying71
theorem rightR_b (w : World) (x y : Nat) (i : Bool) (hx : x < K4) (hy : y < K4) : Calls Tryz.prog 126 #[pv x y i] w (Gets w (.bool (rightB x y i))):=by
 refine Sy.enter (args:=[pv x y i]) Tryz.func126 rfl kL ?_
 refine sC ?_
 refine sM 71 (pcs x y i) (fun g0 => ?_)
 refine sP (.bool false) ?_
 refine sG <| Sy.seq <| sC ?_
 refine sP (.pointer (some ⟨g0,8,none⟩)) <| sS (.bool i) (qC 0 g0 8 71 4 (pcs x y i) rfl Tryz.underlying4) ?_
 refine sG ?_
 cases i
 ·refine sU <| Sy.skip <| sB ?_
  refine sP (.pointer (some ⟨g0,0,none⟩)) <| sS (fv x) (qL 0 g0 0 4 71 69 (pcs x y false) rfl Tryz.underlying69) <| sS (fv x) (qF 77 #[fv x] (fun w => refOf_any w x lK)) ?_
  refine sM 97 (fcs 0) (fun g1 => ?_)
  refine sW 1 g1 97 (fcs 0) (fcs x) (wS 0 97 (fcs x) rfl) ?_
  refine sA ?_
  refine sP (.pointer (some ⟨g0,4,none⟩)) <| sS (fv y) (qL 0 g0 4 4 71 69 (pcs x y false) rfl Tryz.underlying69) <| sS (fv y) (qF 77 #[fv y] (fun w => refOf_any w y lK)) ?_
  refine sM 97 (fcs 0) (fun g2 => ?_)
  refine sW 2 g2 97 (fcs 0) (fcs y) (wS 0 97 (fcs y) rfl) ?_
  refine sA ?_
  refine sS (.agg modcs) (qF 54 #[] (refP_any)) ?_
  refine sM 102 mod0 (fun g3 => ?_)
  refine sW 3 g3 102 mod0 modcs (wS 0 102 modcs rfl) ?_
  refine sA ?_
  refine sS (.agg modcs) (qL 3 g3 0 7 102 102 modcs rfl Tryz.underlying102) <| sS (fv x) (qL 1 g1 0 4 97 97 (fcs x) rfl Tryz.underlying97) ?_
  obtain ⟨b1,hb1⟩ : ∃ z : Bool,z = decide (x < pM):=⟨_,rfl⟩
  refine sS (.bool b1) (qF 53 #[.agg modcs,fv x] (fun w => by rw [hb1]; exact rightR_any w x lK)) <| sP (.bool b1) ?_
  refine sA ?_
  refine sS (.agg modcs) (qL 3 g3 0 7 102 102 modcs rfl Tryz.underlying102) <| sS (fv y) (qL 2 g2 0 4 97 97 (fcs y) rfl Tryz.underlying97) ?_
  obtain ⟨b2,hb2⟩ : ∃ z : Bool,z = decide (y < pM):=⟨_,rfl⟩
  refine sS (.bool b2) (qF 53 #[.agg modcs,fv y] (fun w => by rw [hb2]; exact rightR_any w y lK)) <| sP (.bool b2) ?_
  refine sH (fun j => false) ?_
  refine sZ 0 rfl (.bool b1) <| sZ 1 rfl (.bool b1) ?_
  cases b1
  ·refine sQ 2 rfl <| sZ 3 rfl (.bool false) <| sZ 4 rfl (.bool false) <| sQ 5 rfl <| sQ 6 rfl <| sQ 7 rfl <| sQ 8 rfl <| sQ 9 rfl ?_
   refine sQ 10 rfl <| sZ 11 rfl (.bool false) <| sZ 12 rfl (.bool false) ?_
   refine sI ?_
   refine Sy.ret ?_
   rw [show (.bool (rightB x y false) : Value) = .bool false from by rw [rb_x (of_decide_eq_false hb1.symm)]]
   exact rV (.bool false) rfl
  ·obtain ⟨ux,rfl⟩ : ∃ u : Fp,x = u.val:=⟨⟨x,of_decide_eq_true hb1.symm⟩,rfl⟩
   refine sZ 2 rfl (.bool b2) <| sZ 3 rfl (.bool b2) <| sZ 4 rfl (.bool b2) ?_
   cases b2
   ·refine sQ 5 rfl <| sQ 6 rfl <| sQ 7 rfl <| sQ 8 rfl <| sQ 9 rfl <| sQ 10 rfl <| sZ 11 rfl (.bool false) <| sZ 12 rfl (.bool false) ?_
    refine sI ?_
    refine Sy.ret ?_
    rw [show (.bool (rightB ux.val y false) : Value) = .bool false from by rw [rb_y (of_decide_eq_false hb2.symm)]]
    exact rV (.bool false) rfl
   ·obtain ⟨uy,rfl⟩ : ∃ u : Fp,y = u.val:=⟨⟨y,of_decide_eq_true hb2.symm⟩,rfl⟩
    refine sD 5 rfl (fv uy.val) (qL 2 g2 0 4 97 97 (fcs uy.val) rfl Tryz.underlying97) <| sD 6 rfl (fv uy.val) (qL 2 g2 0 4 97 97 (fcs uy.val) rfl Tryz.underlying97) ?_
    obtain ⟨z1,hz1⟩ : ∃ z : Fp,z = uy * uy:=⟨_,rfl⟩
    refine sD 7 rfl (fv z1.val) (qF 82 #[fv uy.val,fv uy.val] (fun w => by rw [hz1]; exact mulR_c w uy uy)) <| sD 8 rfl (fv ux.val) (qL 1 g1 0 4 97 97 (fcs ux.val) rfl Tryz.underlying97) ?_
    obtain ⟨z2,hz2⟩ : ∃ z : Fp,z = ux * ux * ux + 7:=⟨_,rfl⟩
    refine sD 9 rfl (fv z2.val) (qF 111 #[fv ux.val] (fun w => by rw [hz2]; exact cubeR_c w ux)) ?_
    obtain ⟨b3,hb3⟩ : ∃ z : Bool,z = decide (z1.val = z2.val):=⟨_,rfl⟩
    refine sD 10 rfl (.bool b3) (Quiet.pure (fun w => by rw [hb3]; exact eql_num w _ _ _ _ _ _ rfl rfl rfl lK lK)) <| sZ 11 rfl (.bool b3) <| sZ 12 rfl (.bool b3) ?_
    refine sI ?_
    refine Sy.ret ?_
    rw [show (.bool (rightB ux.val uy.val false) : Value) = .bool b3 from by rw [hb3,rb_xy]; simp only [hz2,hz1]]
    exact rV (.bool b3) rfl
 ·refine sT <| Sy.seq ?_
  refine Sy.regionD (fun j => false) kR ?_
  refine sD 0 rfl (pv x y true) (qL 0 g0 0 9 71 71 (pcs x y true) rfl Tryz.underlying71) <| sD 1 rfl (pv 0 0 true) (qF 80 #[] (zeroR_c)) ?_
  obtain ⟨b4,hb4⟩ : ∃ z : Bool,z = sameB x y true 0 0 true:=⟨_,rfl⟩
  refine sD 2 rfl (.bool b4) (Quiet.pure (fun w => by rw [hb4]; exact eql_pt w _ _ _ _ _ _ _ _ _ _ rfl rfl rfl lK lK lK lK)) <| sZ 3 rfl (.bool b4) ?_
  refine sI ?_
  refine Sy.ret <| Sy.then_ret ?_
  rw [show (.bool (rightB x y true) : Value) = .bool b4 from by rw [hb4,rightB_inf]]
  exact rV (.bool b4) rfl
theorem taken_c (w : World) (x y : Nat) (i : Bool) (hx : x < K4) (hy : y < K4) : Calls Tryz.prog 73 #[pv x y i] w (Gets w (ptv (dec x y i))):=by
 refine Sy.enter (args:=[pv x y i]) Tryz.func73 rfl kL ?_
 refine sC ?_
 refine sM 71 (pcs x y i) (fun g0 => ?_)
 refine sM 71 (pcs 0 0 false) (fun g1 => ?_)
 refine sA ?_
 refine sS (pv x y i) (qL 0 g0 0 9 71 71 (pcs x y i) rfl Tryz.underlying71) ?_
 obtain ⟨b1,hb1⟩ : ∃ z : Bool,z = rightB x y i:=⟨_,rfl⟩
 refine sS (.bool b1) (qF 126 #[pv x y i] (by rw [hb1]; exact fun w => rightR_b w x y i lK lK)) <| sP (.bool b1) ?_
 refine sG <| Sy.seq <| sC ?_
 refine sP (.bool b1) ?_
 cases b1
 ·refine sP (.bool true) ?_
  refine sG <| sT <| sC ?_
  refine sS (pv 0 0 true) (qF 80 #[] (zeroR_c)) <| sW 1 g1 71 (pcs 0 0 false) (pcs 0 0 true) (wS 0 71 (pcs 0 0 true) rfl) ?_
  refine sG <| Sy.ret <| Sy.then_ret ?_
  rw [show (ptv (dec x y i) : Value) = pv 0 0 true from ptv_wrong x y i hb1.symm]
  exact rC (v:=pv 0 0 true) 71 g1 1 (pcs 0 0 true) rfl Tryz.underlying71
 ·refine sP (.bool false) ?_
  refine sG <| sU <| Sy.skip <| sB ?_
  refine sS (pv x y i) (qL 0 g0 0 9 71 71 (pcs x y i) rfl Tryz.underlying71) <| sW 1 g1 71 (pcs 0 0 false) (pcs x y i) (wS 0 71 (pcs x y i) rfl) ?_
  refine sG <| Sy.ret ?_
  rw [show (ptv (dec x y i) : Value) = pv x y i from ptv_right x y i hb1.symm]
  exact rC (v:=pv x y i) 71 g1 1 (pcs x y i) rfl Tryz.underlying71
theorem negRe_none (w : World) (x y : Nat) (i : Bool) (hx : x < K4) (hy : y < K4) (h : dec x y i = none) : Calls Tryz.prog 57 #[pv x y i] w (Gets w (ptv (Ec.neg none))):=by
 refine Sy.enter (args:=[pv x y i]) Tryz.func57 rfl kL ?_
 refine sC ?_
 refine sM 71 (pcs x y i) (fun g0 => ?_)
 refine sM 71 (pcs 0 0 false) (fun g1 => ?_)
 refine sA ?_
 refine sS (pv x y i) (qL 0 g0 0 9 71 71 (pcs x y i) rfl Tryz.underlying71) <| sS (pv 0 0 true) (qF 73 #[pv x y i] (fun w => by have hrr:=taken_c w x y i lK lK; rw [h] at hrr; exact hrr)) <| sW 0 g0 71 (pcs x y i) (pcs 0 0 true) (wS 0 71 (pcs 0 0 true) rfl) ?_
 refine sG <| Sy.seq <| sC ?_
 refine sP (.pointer (some ⟨g0,8,none⟩)) <| sS (.bool true) (qC 0 g0 8 71 4 (pcs 0 0 true) rfl Tryz.underlying4) ?_
 refine sG <| sT <| sC ?_
 refine sS (pv 0 0 true) (qL 0 g0 0 9 71 71 (pcs 0 0 true) rfl Tryz.underlying71) <| sW 1 g1 71 (pcs 0 0 false) (pcs 0 0 true) (wS 0 71 (pcs 0 0 true) rfl) ?_
 refine sG <| Sy.ret <| Sy.then_ret ?_
 rw [show (ptv (Ec.neg none) : Value) = pv 0 0 true from rfl]
 exact rC (v:=pv 0 0 true) 71 g1 1 (pcs 0 0 true) rfl Tryz.underlying71
theorem negRe_some (w : World) (x y : Nat) (i : Bool) (hx : x < K4) (hy : y < K4) (u v : Fp) (h : dec x y i = some (u,v)) : Calls Tryz.prog 57 #[pv x y i] w (Gets w (ptv (Ec.neg (some (u,v))))):=by
 refine Sy.enter (args:=[pv x y i]) Tryz.func57 rfl kL ?_
 refine sC ?_
 refine sM 71 (pcs x y i) (fun g0 => ?_)
 refine sM 71 (pcs 0 0 false) (fun g1 => ?_)
 refine sA ?_
 refine sS (pv x y i) (qL 0 g0 0 9 71 71 (pcs x y i) rfl Tryz.underlying71) <| sS (pv u.val v.val false) (qF 73 #[pv x y i] (fun w => by have hrr:=taken_c w x y i lK lK; rw [h] at hrr; exact hrr)) <| sW 0 g0 71 (pcs x y i) (pcs u.val v.val false) (wS 0 71 (pcs u.val v.val false) rfl) ?_
 refine sG <| Sy.seq <| sC ?_
 refine sP (.pointer (some ⟨g0,8,none⟩)) <| sS (.bool false) (qC 0 g0 8 71 4 (pcs u.val v.val false) rfl Tryz.underlying4) ?_
 refine sG <| sU <| Sy.skip ?_
 refine sR (fun j => j == 9) ?_
 refine sZ 0 rfl (.pointer (some ⟨g0,0,none⟩)) <| sD 1 rfl (fv u.val) (qL 0 g0 0 4 71 69 (pcs u.val v.val false) rfl Tryz.underlying69) <| sD 2 rfl (fv u.val) (qF 77 #[fv u.val] (fun w => refOf_any w u.val lK)) <| sD 3 rfl (.agg modcs) (qF 54 #[] (refP_any)) <| sZ 4 rfl (.pointer (some ⟨g0,4,none⟩)) <| sD 5 rfl (fv v.val) (qL 0 g0 4 4 71 69 (pcs u.val v.val false) rfl Tryz.underlying69) <| sD 6 rfl (fv v.val) (qF 77 #[fv v.val] (fun w => refOf_any w v.val lK)) ?_
 obtain ⟨z1,hz1⟩ : ∃ z : Fp,z = -v:=⟨_,rfl⟩
 refine sD 7 rfl (fv z1.val) (qF 115 #[.agg modcs,fv v.val] (fun w => by rw [hz1]; exact refneg_c w v)) <| sD 8 rfl (pv u.val z1.val false) (qF 83 #[fv u.val,fv z1.val] (fun w => pointR_c w u.val z1.val lK lK)) <| sX 9 rfl 1 g1 71 (pcs 0 0 false) (pcs u.val z1.val false) (wS 0 71 (pcs u.val z1.val false) rfl) ?_
 refine sI ?_
 refine Sy.ret ?_
 rw [show (ptv (Ec.neg (some (u,v))) : Value) = pv u.val z1.val false from by rw [hz1]; rfl]
 exact rC (v:=pv u.val z1.val false) 71 g1 1 (pcs u.val z1.val false) rfl Tryz.underlying71
theorem negRe_any (w : World) (x y : Nat) (i : Bool) (hx : x < K4) (hy : y < K4) : Calls Tryz.prog 57 #[pv x y i] w (Gets w (ptv (Ec.neg (dec x y i)))):=by
 rcases h : dec x y i with _ | ⟨u,v⟩
 ·exact negRe_none w x y i hx hy h
 ·exact negRe_some w x y i hx hy u v h
theorem addRe_nn (w : World) (x y : Nat) (i : Bool) (x2 y2 : Nat) (i2 : Bool) (hx : x < K4) (hy : y < K4) (hx2 : x2 < K4) (hy2 : y2 < K4) (h : dec x y i = none) (k : dec x2 y2 i2 = none) : Calls Tryz.prog 56 #[pv x y i,pv x2 y2 i2] w (Gets w (ptv none)):=by
 refine Sy.enter (args:=[pv x y i,pv x2 y2 i2]) Tryz.func56 rfl kL ?_
 refine sC ?_
 refine sM 71 (pcs x y i) (fun g0 => ?_)
 refine sM 71 (pcs x2 y2 i2) (fun g1 => ?_)
 refine sM 71 (pcs 0 0 false) (fun g2 => ?_)
 refine sA ?_
 refine sS (pv x y i) (qL 0 g0 0 9 71 71 (pcs x y i) rfl Tryz.underlying71) <| sS (pv 0 0 true) (qF 73 #[pv x y i] (fun w => by have hrr:=taken_c w x y i lK lK; rw [h] at hrr; exact hrr)) <| sW 0 g0 71 (pcs x y i) (pcs 0 0 true) (wS 0 71 (pcs 0 0 true) rfl) ?_
 refine sA ?_
 refine sS (pv x2 y2 i2) (qL 1 g1 0 9 71 71 (pcs x2 y2 i2) rfl Tryz.underlying71) <| sS (pv 0 0 true) (qF 73 #[pv x2 y2 i2] (fun w => by have hrr:=taken_c w x2 y2 i2 lK lK; rw [k] at hrr; exact hrr)) <| sW 1 g1 71 (pcs x2 y2 i2) (pcs 0 0 true) (wS 0 71 (pcs 0 0 true) rfl) ?_
 refine sG <| Sy.seq <| sC ?_
 refine sP (.pointer (some ⟨g0,8,none⟩)) <| sS (.bool true) (qC 0 g0 8 71 4 (pcs 0 0 true) rfl Tryz.underlying4) ?_
 refine sG <| sT <| sC ?_
 refine sS (pv 0 0 true) (qL 1 g1 0 9 71 71 (pcs 0 0 true) rfl Tryz.underlying71) <| sW 2 g2 71 (pcs 0 0 false) (pcs 0 0 true) (wS 0 71 (pcs 0 0 true) rfl) ?_
 refine sG <| Sy.ret <| Sy.then_ret ?_
 rw [show (ptv none : Value) = pv 0 0 true from rfl]
 exact rC (v:=pv 0 0 true) 71 g2 2 (pcs 0 0 true) rfl Tryz.underlying71
theorem addRe_ns (w : World) (x y : Nat) (i : Bool) (x2 y2 : Nat) (i2 : Bool) (hx : x < K4) (hy : y < K4) (hx2 : x2 < K4) (hy2 : y2 < K4) (c d : Fp) (h : dec x y i = none) (k : dec x2 y2 i2 = some (c,d)) : Calls Tryz.prog 56 #[pv x y i,pv x2 y2 i2] w (Gets w (ptv (some (c,d)))):=by
 refine Sy.enter (args:=[pv x y i,pv x2 y2 i2]) Tryz.func56 rfl kL ?_
 refine sC ?_
 refine sM 71 (pcs x y i) (fun g0 => ?_)
 refine sM 71 (pcs x2 y2 i2) (fun g1 => ?_)
 refine sM 71 (pcs 0 0 false) (fun g2 => ?_)
 refine sA ?_
 refine sS (pv x y i) (qL 0 g0 0 9 71 71 (pcs x y i) rfl Tryz.underlying71) <| sS (pv 0 0 true) (qF 73 #[pv x y i] (fun w => by have hrr:=taken_c w x y i lK lK; rw [h] at hrr; exact hrr)) <| sW 0 g0 71 (pcs x y i) (pcs 0 0 true) (wS 0 71 (pcs 0 0 true) rfl) ?_
 refine sA ?_
 refine sS (pv x2 y2 i2) (qL 1 g1 0 9 71 71 (pcs x2 y2 i2) rfl Tryz.underlying71) <| sS (pv c.val d.val false) (qF 73 #[pv x2 y2 i2] (fun w => by have hrr:=taken_c w x2 y2 i2 lK lK; rw [k] at hrr; exact hrr)) <| sW 1 g1 71 (pcs x2 y2 i2) (pcs c.val d.val false) (wS 0 71 (pcs c.val d.val false) rfl) ?_
 refine sG <| Sy.seq <| sC ?_
 refine sP (.pointer (some ⟨g0,8,none⟩)) <| sS (.bool true) (qC 0 g0 8 71 4 (pcs 0 0 true) rfl Tryz.underlying4) ?_
 refine sG <| sT <| sC ?_
 refine sS (pv c.val d.val false) (qL 1 g1 0 9 71 71 (pcs c.val d.val false) rfl Tryz.underlying71) <| sW 2 g2 71 (pcs 0 0 false) (pcs c.val d.val false) (wS 0 71 (pcs c.val d.val false) rfl) ?_
 refine sG <| Sy.ret <| Sy.then_ret ?_
 rw [show (ptv (some (c,d)) : Value) = pv c.val d.val false from rfl]
 exact rC (v:=pv c.val d.val false) 71 g2 2 (pcs c.val d.val false) rfl Tryz.underlying71
theorem addRe_sn (w : World) (x y : Nat) (i : Bool) (x2 y2 : Nat) (i2 : Bool) (hx : x < K4) (hy : y < K4) (hx2 : x2 < K4) (hy2 : y2 < K4) (u v : Fp) (h : dec x y i = some (u,v)) (k : dec x2 y2 i2 = none) : Calls Tryz.prog 56 #[pv x y i,pv x2 y2 i2] w (Gets w (ptv (some (u,v)))):=by
 refine Sy.enter (args:=[pv x y i,pv x2 y2 i2]) Tryz.func56 rfl kL ?_
 refine sC ?_
 refine sM 71 (pcs x y i) (fun g0 => ?_)
 refine sM 71 (pcs x2 y2 i2) (fun g1 => ?_)
 refine sM 71 (pcs 0 0 false) (fun g2 => ?_)
 refine sA ?_
 refine sS (pv x y i) (qL 0 g0 0 9 71 71 (pcs x y i) rfl Tryz.underlying71) <| sS (pv u.val v.val false) (qF 73 #[pv x y i] (fun w => by have hrr:=taken_c w x y i lK lK; rw [h] at hrr; exact hrr)) <| sW 0 g0 71 (pcs x y i) (pcs u.val v.val false) (wS 0 71 (pcs u.val v.val false) rfl) ?_
 refine sA ?_
 refine sS (pv x2 y2 i2) (qL 1 g1 0 9 71 71 (pcs x2 y2 i2) rfl Tryz.underlying71) <| sS (pv 0 0 true) (qF 73 #[pv x2 y2 i2] (fun w => by have hrr:=taken_c w x2 y2 i2 lK lK; rw [k] at hrr; exact hrr)) <| sW 1 g1 71 (pcs x2 y2 i2) (pcs 0 0 true) (wS 0 71 (pcs 0 0 true) rfl) ?_
 refine sG <| Sy.seq <| sC ?_
 refine sP (.pointer (some ⟨g0,8,none⟩)) <| sS (.bool false) (qC 0 g0 8 71 4 (pcs u.val v.val false) rfl Tryz.underlying4) ?_
 refine sG <| sU <| Sy.skip <| Sy.then_ <| Sy.seq <| sC ?_
 refine sP (.pointer (some ⟨g1,8,none⟩)) <| sS (.bool true) (qC 1 g1 8 71 4 (pcs 0 0 true) rfl Tryz.underlying4) ?_
 refine sG <| sT <| sC ?_
 refine sS (pv u.val v.val false) (qL 0 g0 0 9 71 71 (pcs u.val v.val false) rfl Tryz.underlying71) <| sW 2 g2 71 (pcs 0 0 false) (pcs u.val v.val false) (wS 0 71 (pcs u.val v.val false) rfl) ?_
 refine sG <| Sy.ret <| Sy.then_ret ?_
 rw [show (ptv (some (u,v)) : Value) = pv u.val v.val false from rfl]
 exact rC (v:=pv u.val v.val false) 71 g2 2 (pcs u.val v.val false) rfl Tryz.underlying71
theorem addRe_ss (w : World) (x y : Nat) (i : Bool) (x2 y2 : Nat) (i2 : Bool) (hx : x < K4) (hy : y < K4) (hx2 : x2 < K4) (hy2 : y2 < K4) (u v c d : Fp) (h : dec x y i = some (u,v)) (k : dec x2 y2 i2 = some (c,d)) (ho : v * v = u * u * u + 7) (hk : d * d = c * c * c + 7) : Calls Tryz.prog 56 #[pv x y i,pv x2 y2 i2] w (Gets w (ptv (Ec.add finv (some (u,v)) (some (c,d))))):=by
 refine Sy.enter (args:=[pv x y i,pv x2 y2 i2]) Tryz.func56 rfl kL ?_
 refine sC ?_
 refine sM 71 (pcs x y i) (fun g0 => ?_)
 refine sM 71 (pcs x2 y2 i2) (fun g1 => ?_)
 refine sM 71 (pcs 0 0 false) (fun g2 => ?_)
 refine sA ?_
 refine sS (pv x y i) (qL 0 g0 0 9 71 71 (pcs x y i) rfl Tryz.underlying71) <| sS (pv u.val v.val false) (qF 73 #[pv x y i] (fun w => by have hrr:=taken_c w x y i lK lK; rw [h] at hrr; exact hrr)) <| sW 0 g0 71 (pcs x y i) (pcs u.val v.val false) (wS 0 71 (pcs u.val v.val false) rfl) ?_
 refine sA ?_
 refine sS (pv x2 y2 i2) (qL 1 g1 0 9 71 71 (pcs x2 y2 i2) rfl Tryz.underlying71) <| sS (pv c.val d.val false) (qF 73 #[pv x2 y2 i2] (fun w => by have hrr:=taken_c w x2 y2 i2 lK lK; rw [k] at hrr; exact hrr)) <| sW 1 g1 71 (pcs x2 y2 i2) (pcs c.val d.val false) (wS 0 71 (pcs c.val d.val false) rfl) ?_
 refine sG <| Sy.seq <| sC ?_
 refine sP (.pointer (some ⟨g0,8,none⟩)) <| sS (.bool false) (qC 0 g0 8 71 4 (pcs u.val v.val false) rfl Tryz.underlying4) ?_
 refine sG <| sU <| Sy.skip <| Sy.then_ <| Sy.seq <| sC ?_
 refine sP (.pointer (some ⟨g1,8,none⟩)) <| sS (.bool false) (qC 1 g1 8 71 4 (pcs c.val d.val false) rfl Tryz.underlying4) ?_
 refine sG <| sU <| Sy.skip <| sB ?_
 refine sP (.pointer (some ⟨g0,0,none⟩)) <| sS (fv u.val) (qL 0 g0 0 4 71 69 (pcs u.val v.val false) rfl Tryz.underlying69) <| sS (fv u.val) (qF 77 #[fv u.val] (fun w => refOf_any w u.val lK)) ?_
 refine sM 97 (fcs 0) (fun g3 => ?_)
 refine sW 3 g3 97 (fcs 0) (fcs u.val) (wS 0 97 (fcs u.val) rfl) ?_
 refine sA ?_
 refine sP (.pointer (some ⟨g0,4,none⟩)) <| sS (fv v.val) (qL 0 g0 4 4 71 69 (pcs u.val v.val false) rfl Tryz.underlying69) <| sS (fv v.val) (qF 77 #[fv v.val] (fun w => refOf_any w v.val lK)) ?_
 refine sM 97 (fcs 0) (fun g4 => ?_)
 refine sW 4 g4 97 (fcs 0) (fcs v.val) (wS 0 97 (fcs v.val) rfl) ?_
 refine sA ?_
 refine sP (.pointer (some ⟨g1,0,none⟩)) <| sS (fv c.val) (qL 1 g1 0 4 71 69 (pcs c.val d.val false) rfl Tryz.underlying69) <| sS (fv c.val) (qF 77 #[fv c.val] (fun w => refOf_any w c.val lK)) ?_
 refine sM 97 (fcs 0) (fun g5 => ?_)
 refine sW 5 g5 97 (fcs 0) (fcs c.val) (wS 0 97 (fcs c.val) rfl) ?_
 refine sA ?_
 refine sP (.pointer (some ⟨g1,4,none⟩)) <| sS (fv d.val) (qL 1 g1 4 4 71 69 (pcs c.val d.val false) rfl Tryz.underlying69) <| sS (fv d.val) (qF 77 #[fv d.val] (fun w => refOf_any w d.val lK)) ?_
 refine sM 97 (fcs 0) (fun g6 => ?_)
 refine sW 6 g6 97 (fcs 0) (fcs d.val) (wS 0 97 (fcs d.val) rfl) ?_
 refine sA ?_
 refine sS (fv d.val) (qL 6 g6 0 4 97 97 (fcs d.val) rfl Tryz.underlying97) <| sS (fv v.val) (qL 4 g4 0 4 97 97 (fcs v.val) rfl Tryz.underlying97) ?_
 obtain ⟨z1,hz1⟩ : ∃ z : Fp,z = d - v:=⟨_,rfl⟩
 refine sS (fv z1.val) (qF 113 #[fv d.val,fv v.val] (fun w => by rw [hz1]; exact subR_c w d v)) ?_
 refine sM 97 (fcs 0) (fun g7 => ?_)
 refine sW 7 g7 97 (fcs 0) (fcs z1.val) (wS 0 97 (fcs z1.val) rfl) ?_
 refine sA ?_
 refine sS (fv c.val) (qL 5 g5 0 4 97 97 (fcs c.val) rfl Tryz.underlying97) <| sS (fv u.val) (qL 3 g3 0 4 97 97 (fcs u.val) rfl Tryz.underlying97) ?_
 obtain ⟨z2,hz2⟩ : ∃ z : Fp,z = c - u:=⟨_,rfl⟩
 refine sS (fv z2.val) (qF 113 #[fv c.val,fv u.val] (fun w => by rw [hz2]; exact subR_c w c u)) ?_
 refine sM 97 (fcs 0) (fun g8 => ?_)
 refine sW 8 g8 97 (fcs 0) (fcs z2.val) (wS 0 97 (fcs z2.val) rfl) ?_
 refine sG <| Sy.seq <| sC ?_
 refine sS (fv u.val) (qL 3 g3 0 4 97 97 (fcs u.val) rfl Tryz.underlying97) <| sS (fv c.val) (qL 5 g5 0 4 97 97 (fcs c.val) rfl Tryz.underlying97) ?_
 obtain ⟨b1,hb1⟩ : ∃ z : Bool,z = decide (u.val = c.val):=⟨_,rfl⟩
 refine sS (.bool b1) (Quiet.pure (fun w => by rw [hb1]; exact eql_num w _ _ _ _ _ _ rfl rfl rfl lK lK)) ?_
 refine sG ?_
 cases b1
 ·have e1 : u ≠ c:=fun e => of_decide_eq_false hb1.symm (congrArg Fin.val e)
  refine sU <| Sy.skip ?_
  refine sR (fun j => j == 6) ?_
  refine sD 0 rfl (fv z1.val) (qL 7 g7 0 4 97 97 (fcs z1.val) rfl Tryz.underlying97) <| sD 1 rfl (.agg modcs) (qF 54 #[] (refP_any)) <| sD 2 rfl (fv z2.val) (qL 8 g8 0 4 97 97 (fcs z2.val) rfl Tryz.underlying97) ?_
  obtain ⟨z3,hz3⟩ : ∃ z : Fp,z = finv z2:=⟨_,rfl⟩
  refine sD 3 rfl (fv z3.val) (qF 81 #[.agg modcs,fv z2.val] (fun w => by rw [hz3]; exact refinv_c w z2)) ?_
  obtain ⟨z4,hz4⟩ : ∃ z : Fp,z = z1 * z3:=⟨_,rfl⟩
  refine sD 4 rfl (fv z4.val) (qF 82 #[fv z1.val,fv z3.val] (fun w => by rw [hz4]; exact mulR_c w z1 z3)) ?_
  refine sO 5 rfl 97 (fcs 0) (fun g9 => ?_)
  refine sX 6 rfl 9 g9 97 (fcs 0) (fcs z4.val) (wS 0 97 (fcs z4.val) rfl) ?_
  refine sE ?_
  refine sR (fun j => j == 8) ?_
  refine sD 0 rfl (fv z4.val) (qL 9 g9 0 4 97 97 (fcs z4.val) rfl Tryz.underlying97) <| sD 1 rfl (fv z4.val) (qL 9 g9 0 4 97 97 (fcs z4.val) rfl Tryz.underlying97) ?_
  obtain ⟨z5,hz5⟩ : ∃ z : Fp,z = z4 * z4:=⟨_,rfl⟩
  refine sD 2 rfl (fv z5.val) (qF 82 #[fv z4.val,fv z4.val] (fun w => by rw [hz5]; exact mulR_c w z4 z4)) <| sD 3 rfl (fv u.val) (qL 3 g3 0 4 97 97 (fcs u.val) rfl Tryz.underlying97) ?_
  obtain ⟨z6,hz6⟩ : ∃ z : Fp,z = z5 - u:=⟨_,rfl⟩
  refine sD 4 rfl (fv z6.val) (qF 113 #[fv z5.val,fv u.val] (fun w => by rw [hz6]; exact subR_c w z5 u)) <| sD 5 rfl (fv c.val) (qL 5 g5 0 4 97 97 (fcs c.val) rfl Tryz.underlying97) ?_
  obtain ⟨z7,hz7⟩ : ∃ z : Fp,z = z6 - c:=⟨_,rfl⟩
  refine sD 6 rfl (fv z7.val) (qF 113 #[fv z6.val,fv c.val] (fun w => by rw [hz7]; exact subR_c w z6 c)) ?_
  refine sO 7 rfl 97 (fcs 0) (fun g10 => ?_)
  refine sX 8 rfl 10 g10 97 (fcs 0) (fcs z7.val) (wS 0 97 (fcs z7.val) rfl) ?_
  refine sE ?_
  refine sR (fun j => j == 9) ?_
  refine sD 0 rfl (fv z7.val) (qL 10 g10 0 4 97 97 (fcs z7.val) rfl Tryz.underlying97) <| sD 1 rfl (fv z4.val) (qL 9 g9 0 4 97 97 (fcs z4.val) rfl Tryz.underlying97) <| sD 2 rfl (fv u.val) (qL 3 g3 0 4 97 97 (fcs u.val) rfl Tryz.underlying97) <| sD 3 rfl (fv z7.val) (qL 10 g10 0 4 97 97 (fcs z7.val) rfl Tryz.underlying97) ?_
  obtain ⟨z8,hz8⟩ : ∃ z : Fp,z = u - z7:=⟨_,rfl⟩
  refine sD 4 rfl (fv z8.val) (qF 113 #[fv u.val,fv z7.val] (fun w => by rw [hz8]; exact subR_c w u z7)) ?_
  obtain ⟨z9,hz9⟩ : ∃ z : Fp,z = z4 * z8:=⟨_,rfl⟩
  refine sD 5 rfl (fv z9.val) (qF 82 #[fv z4.val,fv z8.val] (fun w => by rw [hz9]; exact mulR_c w z4 z8)) <| sD 6 rfl (fv v.val) (qL 4 g4 0 4 97 97 (fcs v.val) rfl Tryz.underlying97) ?_
  obtain ⟨z10,hz10⟩ : ∃ z : Fp,z = z9 - v:=⟨_,rfl⟩
  refine sD 7 rfl (fv z10.val) (qF 113 #[fv z9.val,fv v.val] (fun w => by rw [hz10]; exact subR_c w z9 v)) <| sD 8 rfl (pv z7.val z10.val false) (qF 83 #[fv z7.val,fv z10.val] (fun w => pointR_c w z7.val z10.val lK lK)) <| sX 9 rfl 2 g2 71 (pcs 0 0 false) (pcs z7.val z10.val false) (wS 0 71 (pcs z7.val z10.val false) rfl) ?_
  refine sI ?_
  refine Sy.ret ?_
  have ha : ¬ (u = c ∧ v + d = 0):=fun t => e1 t.1
  have hs : z4 = Ec.slp finv u v c d:=by
   unfold Ec.slp
   rw [if_neg e1]
   clear h k ho hk hb1 ha e1
   grobner
  rw [show (ptv (Ec.add finv (some (u,v)) (some (c,d))) : Value) = pv z7.val z10.val false from by simp only [Ec.add]; rw [if_neg ha, ← hs]; unfold Ec.y3 Ec.x3 ptv; rw [hz10,hz9,hz8,hz7,hz6,hz5]]
  exact rC (v:=pv z7.val z10.val false) 71 g2 2 (pcs z7.val z10.val false) rfl Tryz.underlying71
 ·have e1 : u = c:=Fin.ext (of_decide_eq_true hb1.symm)
  refine sT <| Sy.seq <| sC ?_
  refine sS (fv v.val) (qL 4 g4 0 4 97 97 (fcs v.val) rfl Tryz.underlying97) <| sS (fv d.val) (qL 6 g6 0 4 97 97 (fcs d.val) rfl Tryz.underlying97) ?_
  obtain ⟨b2,hb2⟩ : ∃ z : Bool,z = decide (v.val ≠ d.val):=⟨_,rfl⟩
  refine sS (.bool b2) (Quiet.pure (fun w => by rw [hb2]; exact neq_num w _ _ _ _ _ _ rfl rfl rfl lK lK)) <| sP (.bool b2) ?_
  cases b2
  ·have e2 : v = d:=Fin.ext (Decidable.of_not_not (of_decide_eq_false hb2.symm))
   refine sS (fv v.val) (qL 4 g4 0 4 97 97 (fcs v.val) rfl Tryz.underlying97) <| sP (fv 0) ?_
   obtain ⟨b3,hb3⟩ : ∃ z : Bool,z = decide (v.val = 0):=⟨_,rfl⟩
   refine sS (.bool b3) (Quiet.pure (fun w => by rw [hb3]; exact eql_num w _ _ _ _ _ _ rfl rfl rfl lK lK)) <| sP (.bool b3) ?_
   refine sG ?_
   cases b3
   ·refine sU <| Sy.skip <| sB ?_
    refine sS (fv u.val) (qL 3 g3 0 4 97 97 (fcs u.val) rfl Tryz.underlying97) <| sS (fv u.val) (qL 3 g3 0 4 97 97 (fcs u.val) rfl Tryz.underlying97) ?_
    obtain ⟨z11,hz11⟩ : ∃ z : Fp,z = u * u:=⟨_,rfl⟩
    refine sS (fv z11.val) (qF 82 #[fv u.val,fv u.val] (fun w => by rw [hz11]; exact mulR_c w u u)) ?_
    refine sM 97 (fcs 0) (fun g9 => ?_)
    refine sW 9 g9 97 (fcs 0) (fcs z11.val) (wS 0 97 (fcs z11.val) rfl) ?_
    refine sH (fun j => j == 5) ?_
    refine sD 0 rfl (fv z11.val) (qL 9 g9 0 4 97 97 (fcs z11.val) rfl Tryz.underlying97) <| sD 1 rfl (fv z11.val) (qL 9 g9 0 4 97 97 (fcs z11.val) rfl Tryz.underlying97) <| sD 2 rfl (fv z11.val) (qL 9 g9 0 4 97 97 (fcs z11.val) rfl Tryz.underlying97) ?_
    obtain ⟨z12,hz12⟩ : ∃ z : Fp,z = z11 + z11:=⟨_,rfl⟩
    refine sD 3 rfl (fv z12.val) (qF 114 #[fv z11.val,fv z11.val] (fun w => by rw [hz12]; exact addR_c w z11 z11)) ?_
    obtain ⟨z13,hz13⟩ : ∃ z : Fp,z = z11 + z12:=⟨_,rfl⟩
    refine sD 4 rfl (fv z13.val) (qF 114 #[fv z11.val,fv z12.val] (fun w => by rw [hz13]; exact addR_c w z11 z12)) <| sX 5 rfl 7 g7 97 (fcs z1.val) (fcs z13.val) (wS 0 97 (fcs z13.val) rfl) ?_
    refine sI ?_
    refine Sy.region ?_
    refine sS (fv v.val) (qL 4 g4 0 4 97 97 (fcs v.val) rfl Tryz.underlying97) <| sS (fv v.val) (qL 4 g4 0 4 97 97 (fcs v.val) rfl Tryz.underlying97) ?_
    obtain ⟨z14,hz14⟩ : ∃ z : Fp,z = v + v:=⟨_,rfl⟩
    refine sS (fv z14.val) (qF 114 #[fv v.val,fv v.val] (fun w => by rw [hz14]; exact addR_c w v v)) <| sW 8 g8 97 (fcs z2.val) (fcs z14.val) (wS 0 97 (fcs z14.val) rfl) ?_
    refine sH (fun j => j == 6) ?_
    refine sD 0 rfl (fv z13.val) (qL 7 g7 0 4 97 97 (fcs z13.val) rfl Tryz.underlying97) <| sD 1 rfl (.agg modcs) (qF 54 #[] (refP_any)) <| sD 2 rfl (fv z14.val) (qL 8 g8 0 4 97 97 (fcs z14.val) rfl Tryz.underlying97) ?_
    obtain ⟨z15,hz15⟩ : ∃ z : Fp,z = finv z14:=⟨_,rfl⟩
    refine sD 3 rfl (fv z15.val) (qF 81 #[.agg modcs,fv z14.val] (fun w => by rw [hz15]; exact refinv_c w z14)) ?_
    obtain ⟨z16,hz16⟩ : ∃ z : Fp,z = z13 * z15:=⟨_,rfl⟩
    refine sD 4 rfl (fv z16.val) (qF 82 #[fv z13.val,fv z15.val] (fun w => by rw [hz16]; exact mulR_c w z13 z15)) ?_
    refine sO 5 rfl 97 (fcs 0) (fun g10 => ?_)
    refine sX 6 rfl 10 g10 97 (fcs 0) (fcs z16.val) (wS 0 97 (fcs z16.val) rfl) ?_
    refine sE ?_
    refine sR (fun j => j == 8) ?_
    refine sD 0 rfl (fv z16.val) (qL 10 g10 0 4 97 97 (fcs z16.val) rfl Tryz.underlying97) <| sD 1 rfl (fv z16.val) (qL 10 g10 0 4 97 97 (fcs z16.val) rfl Tryz.underlying97) ?_
    obtain ⟨z17,hz17⟩ : ∃ z : Fp,z = z16 * z16:=⟨_,rfl⟩
    refine sD 2 rfl (fv z17.val) (qF 82 #[fv z16.val,fv z16.val] (fun w => by rw [hz17]; exact mulR_c w z16 z16)) <| sD 3 rfl (fv u.val) (qL 3 g3 0 4 97 97 (fcs u.val) rfl Tryz.underlying97) ?_
    obtain ⟨z18,hz18⟩ : ∃ z : Fp,z = z17 - u:=⟨_,rfl⟩
    refine sD 4 rfl (fv z18.val) (qF 113 #[fv z17.val,fv u.val] (fun w => by rw [hz18]; exact subR_c w z17 u)) <| sD 5 rfl (fv c.val) (qL 5 g5 0 4 97 97 (fcs c.val) rfl Tryz.underlying97) ?_
    obtain ⟨z19,hz19⟩ : ∃ z : Fp,z = z18 - c:=⟨_,rfl⟩
    refine sD 6 rfl (fv z19.val) (qF 113 #[fv z18.val,fv c.val] (fun w => by rw [hz19]; exact subR_c w z18 c)) ?_
    refine sO 7 rfl 97 (fcs 0) (fun g11 => ?_)
    refine sX 8 rfl 11 g11 97 (fcs 0) (fcs z19.val) (wS 0 97 (fcs z19.val) rfl) ?_
    refine sE ?_
    refine sR (fun j => j == 9) ?_
    refine sD 0 rfl (fv z19.val) (qL 11 g11 0 4 97 97 (fcs z19.val) rfl Tryz.underlying97) <| sD 1 rfl (fv z16.val) (qL 10 g10 0 4 97 97 (fcs z16.val) rfl Tryz.underlying97) <| sD 2 rfl (fv u.val) (qL 3 g3 0 4 97 97 (fcs u.val) rfl Tryz.underlying97) <| sD 3 rfl (fv z19.val) (qL 11 g11 0 4 97 97 (fcs z19.val) rfl Tryz.underlying97) ?_
    obtain ⟨z20,hz20⟩ : ∃ z : Fp,z = u - z19:=⟨_,rfl⟩
    refine sD 4 rfl (fv z20.val) (qF 113 #[fv u.val,fv z19.val] (fun w => by rw [hz20]; exact subR_c w u z19)) ?_
    obtain ⟨z21,hz21⟩ : ∃ z : Fp,z = z16 * z20:=⟨_,rfl⟩
    refine sD 5 rfl (fv z21.val) (qF 82 #[fv z16.val,fv z20.val] (fun w => by rw [hz21]; exact mulR_c w z16 z20)) <| sD 6 rfl (fv v.val) (qL 4 g4 0 4 97 97 (fcs v.val) rfl Tryz.underlying97) ?_
    obtain ⟨z22,hz22⟩ : ∃ z : Fp,z = z21 - v:=⟨_,rfl⟩
    refine sD 7 rfl (fv z22.val) (qF 113 #[fv z21.val,fv v.val] (fun w => by rw [hz22]; exact subR_c w z21 v)) <| sD 8 rfl (pv z19.val z22.val false) (qF 83 #[fv z19.val,fv z22.val] (fun w => pointR_c w z19.val z22.val lK lK)) <| sX 9 rfl 2 g2 71 (pcs 0 0 false) (pcs z19.val z22.val false) (wS 0 71 (pcs z19.val z22.val false) rfl) ?_
    refine sI ?_
    refine Sy.ret ?_
    have ha : ¬ (u = c ∧ v + d = 0):=fun t => no_two u v ho (fld.two v (e2 ▸ t.2))
    have hs : z16 = Ec.slp finv u v c d:=by
     unfold Ec.slp
     rw [if_pos e1]
     clear h k ho hk hb1 hb2 hb3 ha e1 e2
     grobner
    rw [show (ptv (Ec.add finv (some (u,v)) (some (c,d))) : Value) = pv z19.val z22.val false from by simp only [Ec.add]; rw [if_neg ha, ← hs]; unfold Ec.y3 Ec.x3 ptv; rw [hz22,hz21,hz20,hz19,hz18,hz17]]
    exact rC (v:=pv z19.val z22.val false) 71 g2 2 (pcs z19.val z22.val false) rfl Tryz.underlying71
   ·exact absurd (Fin.ext (of_decide_eq_true hb3.symm)) (no_two u v ho)
  ·have e2 : v ≠ d:=fun e => of_decide_eq_true hb2.symm (congrArg Fin.val e)
   refine sN <| sN <| sN ?_
   refine sP (.bool true) ?_
   refine sG <| sT <| sC ?_
   refine sS (pv 0 0 true) (qF 80 #[] (zeroR_c)) <| sW 2 g2 71 (pcs 0 0 false) (pcs 0 0 true) (wS 0 71 (pcs 0 0 true) rfl) ?_
   refine sG <| Sy.ret <| Sy.then_ret <| Sy.then_ret ?_
   rw [show (ptv (Ec.add finv (some (u,v)) (some (c,d))) : Value) = pv 0 0 true from by simp only [Ec.add]; rw [if_pos ⟨e1,Classical.byContradiction fun t => Ec.off fld ho hk (fun q => e2 q.2) (fun q => t q.2) e1⟩]; rfl]
   exact rC (v:=pv 0 0 true) 71 g2 2 (pcs 0 0 true) rfl Tryz.underlying71
theorem addRe_any (w : World) (x y : Nat) (i : Bool) (x2 y2 : Nat) (i2 : Bool) (hx : x < K4) (hy : y < K4) (hx2 : x2 < K4) (hy2 : y2 < K4) : Calls Tryz.prog 56 #[pv x y i,pv x2 y2 i2] w (Gets w (ptv (Ec.add finv (dec x y i) (dec x2 y2 i2)))):=by
 have o1:=dec_on x y i
 have o2:=dec_on x2 y2 i2
 rcases h : dec x y i with _ | ⟨u,v⟩ <;> rcases k : dec x2 y2 i2 with _ | ⟨c,d⟩
 ·exact addRe_nn w x y i x2 y2 i2 hx hy hx2 hy2 h k
 ·exact addRe_ns w x y i x2 y2 i2 hx hy hx2 hy2 c d h k
 ·exact addRe_sn w x y i x2 y2 i2 hx hy hx2 hy2 u v h k
 ·rw [h] at o1
  rw [k] at o2
  exact addRe_ss w x y i x2 y2 i2 hx hy hx2 hy2 u v c d h k o1 o2
end Cu
end
section
namespace Cu
open Go.RowKit Sy
set_option maxRecDepth 100000
set_option maxHeartbeats 4000000
def dblR (a : J) : J:=if a.z = 0 then a else dblJ a
theorem dblR_rep {a : J} {P : Pt} (hP : Ec.On P) (h : Ec.Rep a P) : Ec.Rep (dblR a) (Ec.add finv P P):=by
 unfold dblR
 by_cases k : a.z = 0
 ·rw [if_pos k]
  rcases P with _ | ⟨X,Y⟩
  ·exact k
  ·exact absurd k h.1
 ·rw [if_neg k]; exact dblJ_rep hP h
def hR (a : J) (x : Fp) : Fp:=x * (a.z * a.z) - a.x
def rR (a : J) (y : Fp) : Fp:=y * (a.z * a.z * a.z) - a.y
def pxR (a : J) (x y : Fp) : Fp:=rR a y * rR a y - hR a x * hR a x * hR a x - (a.x * (hR a x * hR a x) + a.x * (hR a x * hR a x))
def pyR (a : J) (x y : Fp) : Fp:=rR a y * (a.x * (hR a x * hR a x) - pxR a x y) - a.y * (hR a x * hR a x * hR a x)
def plusR (a : J) (x y : Fp) : J:=if a.z = 0 then ⟨x,y,1⟩ else if x * (a.z * a.z) = a.x then (if y * (a.z * a.z * a.z) = a.y then dblR a else ⟨0,0,0⟩) else ⟨pxR a x y,pyR a x y,a.z * hR a x⟩
theorem plusR_rep {a : J} {P : Pt} {x y : Fp} (hP : Ec.On P) (hQ : y * y = x * x * x + 7) (h : Ec.Rep a P) : Ec.Rep (plusR a x y) (Ec.add finv P (some (x,y))):=by
 rcases P with _ | ⟨X,Y⟩
 ·unfold plusR
  rw [if_pos (show a.z = 0 from h),Ec.zero_add]
  exact threeJ_rep (some (x,y))
 obtain ⟨h0,h1,h2⟩:=h
 unfold plusR
 rw [if_neg h0]
 have hZZ:=fld.ne_mul h0 h0
 have hZZZ:=fld.ne_mul hZZ h0
 by_cases e1 : x * (a.z * a.z) = a.x
 ·rw [if_pos e1]
  have ex : x = X:=fld.cancel hZZ (by rw [h1] at e1; clear h1 h2 hP hQ; grobner)
  subst ex
  by_cases e2 : y * (a.z * a.z * a.z) = a.y
  ·rw [if_pos e2]
   have ey : y = Y:=fld.cancel hZZZ (by rw [h2] at e2; clear h1 h2 hP hQ e1; grobner)
   subst ey
   exact dblR_rep hP ⟨h0,h1,h2⟩
  ·rw [if_neg e2]
   have hne : Y ≠ y:=fun q => e2 (by rw [← q,h2])
   have hs : Y + y = 0:=Classical.byContradiction fun t => Ec.off fld hP hQ (fun q => hne q.2) (fun q => t q.2) rfl
   have ea : Ec.add finv (some (x,Y)) (some (x,y)) = none:=if_pos ⟨rfl,hs⟩
   rw [ea]
   rfl
 ·rw [if_neg e1]
  exact Ec.ad fld (Z:=a.z) (u:=a.x) (v:=a.y) (c:=hR a x) (r:=rR a y) hP hQ h0 h1 h2 rfl rfl (fun q => e1 (by have:=q.1; unfold hR at this; clear q h1 h2 hP hQ; grobner)) rfl rfl rfl
theorem plusR_1 {a : J} {x y : Fp} (h : a.z = 0) : plusR a x y = ⟨x,y,1⟩:=if_pos h
theorem plusR_2 {a : J} {x y : Fp} (h : a.z ≠ 0) (k : x * (a.z * a.z) = a.x) (m : y * (a.z * a.z * a.z) = a.y) : plusR a x y = dblR a:=by unfold plusR; rw [if_neg h,if_pos k,if_pos m]
theorem plusR_3 {a : J} {x y : Fp} (h : a.z ≠ 0) (k : x * (a.z * a.z) = a.x) (m : y * (a.z * a.z * a.z) ≠ a.y) : plusR a x y = ⟨0,0,0⟩:=by unfold plusR; rw [if_neg h,if_pos k,if_neg m]
theorem plusR_4 {a : J} {x y : Fp} (h : a.z ≠ 0) (k : x * (a.z * a.z) ≠ a.x) : plusR a x y = ⟨pxR a x y,pyR a x y,a.z * hR a x⟩:=by unfold plusR; rw [if_neg h,if_neg k]
theorem twiceR_c (w : World) (a : J) : Calls Tryz.prog 78 #[tv a.x.val a.y.val a.z.val] w (Gets w (tv (dblR a).x.val (dblR a).y.val (dblR a).z.val)):=by
 refine Sy.enter (args:=[tv a.x.val a.y.val a.z.val]) Tryz.func78 rfl kL ?_
 refine sC ?_
 refine sM 126 (tcs a.x.val a.y.val a.z.val) (fun g0 => ?_)
 refine sM 126 (tcs 0 0 0) (fun g1 => ?_)
 refine sG <| Sy.seq <| sC ?_
 refine sP (.pointer (some ⟨g0,8,none⟩)) <| sS (fv a.z.val) (qL 0 g0 8 4 126 97 (tcs a.x.val a.y.val a.z.val) rfl Tryz.underlying97) <| sP (fv 0) ?_
 obtain ⟨b1,hb1⟩ : ∃ z : Bool,z = decide (a.z.val = 0):=⟨_,rfl⟩
 refine sS (.bool b1) (Quiet.pure (fun w => by rw [hb1]; exact eql_num w _ _ _ _ _ _ rfl rfl rfl lK lK)) ?_
 refine sG ?_
 cases b1
 ·have eb1 : a.z ≠ (0 : Fp):=fun e => of_decide_eq_false hb1.symm (congrArg Fin.val e)
  refine sU <| Sy.skip <| sB ?_
  refine sP (.pointer (some ⟨g0,0,none⟩)) <| sS (fv a.x.val) (qL 0 g0 0 4 126 97 (tcs a.x.val a.y.val a.z.val) rfl Tryz.underlying97) <| sP (.pointer (some ⟨g0,0,none⟩)) <| sS (fv a.x.val) (qL 0 g0 0 4 126 97 (tcs a.x.val a.y.val a.z.val) rfl Tryz.underlying97) ?_
  obtain ⟨z1,hz1⟩ : ∃ z : Fp,z = a.x * a.x:=⟨_,rfl⟩
  refine sS (fv z1.val) (qF 82 #[fv a.x.val,fv a.x.val] (fun w => by rw [hz1]; exact mulR_c w a.x a.x)) ?_
  refine sM 97 (fcs 0) (fun g2 => ?_)
  refine sW 2 g2 97 (fcs 0) (fcs z1.val) (wS 0 97 (fcs z1.val) rfl) ?_
  refine sA ?_
  refine sP (.pointer (some ⟨g0,4,none⟩)) <| sS (fv a.y.val) (qL 0 g0 4 4 126 97 (tcs a.x.val a.y.val a.z.val) rfl Tryz.underlying97) <| sP (.pointer (some ⟨g0,4,none⟩)) <| sS (fv a.y.val) (qL 0 g0 4 4 126 97 (tcs a.x.val a.y.val a.z.val) rfl Tryz.underlying97) ?_
  obtain ⟨z2,hz2⟩ : ∃ z : Fp,z = a.y * a.y:=⟨_,rfl⟩
  refine sS (fv z2.val) (qF 82 #[fv a.y.val,fv a.y.val] (fun w => by rw [hz2]; exact mulR_c w a.y a.y)) ?_
  refine sM 97 (fcs 0) (fun g3 => ?_)
  refine sW 3 g3 97 (fcs 0) (fcs z2.val) (wS 0 97 (fcs z2.val) rfl) ?_
  refine sA ?_
  refine sS (fv z2.val) (qL 3 g3 0 4 97 97 (fcs z2.val) rfl Tryz.underlying97) <| sS (fv z2.val) (qL 3 g3 0 4 97 97 (fcs z2.val) rfl Tryz.underlying97) ?_
  obtain ⟨z3,hz3⟩ : ∃ z : Fp,z = z2 * z2:=⟨_,rfl⟩
  refine sS (fv z3.val) (qF 82 #[fv z2.val,fv z2.val] (fun w => by rw [hz3]; exact mulR_c w z2 z2)) ?_
  refine sM 97 (fcs 0) (fun g4 => ?_)
  refine sW 4 g4 97 (fcs 0) (fcs z3.val) (wS 0 97 (fcs z3.val) rfl) ?_
  refine sA ?_
  refine sP (.pointer (some ⟨g0,0,none⟩)) <| sS (fv a.x.val) (qL 0 g0 0 4 126 97 (tcs a.x.val a.y.val a.z.val) rfl Tryz.underlying97) <| sS (fv z2.val) (qL 3 g3 0 4 97 97 (fcs z2.val) rfl Tryz.underlying97) ?_
  obtain ⟨z4,hz4⟩ : ∃ z : Fp,z = a.x * z2:=⟨_,rfl⟩
  refine sS (fv z4.val) (qF 82 #[fv a.x.val,fv z2.val] (fun w => by rw [hz4]; exact mulR_c w a.x z2)) ?_
  refine sM 97 (fcs 0) (fun g5 => ?_)
  refine sW 5 g5 97 (fcs 0) (fcs z4.val) (wS 0 97 (fcs z4.val) rfl) ?_
  refine sH (fun j => j == 7) ?_
  refine sD 0 rfl (fv z4.val) (qL 5 g5 0 4 97 97 (fcs z4.val) rfl Tryz.underlying97) <| sD 1 rfl (fv z4.val) (qL 5 g5 0 4 97 97 (fcs z4.val) rfl Tryz.underlying97) ?_
  obtain ⟨z5,hz5⟩ : ∃ z : Fp,z = z4 + z4:=⟨_,rfl⟩
  refine sD 2 rfl (fv z5.val) (qF 114 #[fv z4.val,fv z4.val] (fun w => by rw [hz5]; exact addR_c w z4 z4)) <| sD 3 rfl (fv z4.val) (qL 5 g5 0 4 97 97 (fcs z4.val) rfl Tryz.underlying97) <| sD 4 rfl (fv z4.val) (qL 5 g5 0 4 97 97 (fcs z4.val) rfl Tryz.underlying97) ?_
  obtain ⟨z6,hz6⟩ : ∃ z : Fp,z = z4 + z4:=⟨_,rfl⟩
  refine sD 5 rfl (fv z6.val) (qF 114 #[fv z4.val,fv z4.val] (fun w => by rw [hz6]; exact addR_c w z4 z4)) ?_
  obtain ⟨z7,hz7⟩ : ∃ z : Fp,z = z5 + z6:=⟨_,rfl⟩
  refine sD 6 rfl (fv z7.val) (qF 114 #[fv z5.val,fv z6.val] (fun w => by rw [hz7]; exact addR_c w z5 z6)) <| sX 7 rfl 5 g5 97 (fcs z4.val) (fcs z7.val) (wS 0 97 (fcs z7.val) rfl) ?_
  refine sE ?_
  refine sR (fun j => j == 6) ?_
  refine sD 0 rfl (fv z1.val) (qL 2 g2 0 4 97 97 (fcs z1.val) rfl Tryz.underlying97) <| sD 1 rfl (fv z1.val) (qL 2 g2 0 4 97 97 (fcs z1.val) rfl Tryz.underlying97) <| sD 2 rfl (fv z1.val) (qL 2 g2 0 4 97 97 (fcs z1.val) rfl Tryz.underlying97) ?_
  obtain ⟨z8,hz8⟩ : ∃ z : Fp,z = z1 + z1:=⟨_,rfl⟩
  refine sD 3 rfl (fv z8.val) (qF 114 #[fv z1.val,fv z1.val] (fun w => by rw [hz8]; exact addR_c w z1 z1)) ?_
  obtain ⟨z9,hz9⟩ : ∃ z : Fp,z = z1 + z8:=⟨_,rfl⟩
  refine sD 4 rfl (fv z9.val) (qF 114 #[fv z1.val,fv z8.val] (fun w => by rw [hz9]; exact addR_c w z1 z8)) ?_
  refine sO 5 rfl 97 (fcs 0) (fun g6 => ?_)
  refine sX 6 rfl 6 g6 97 (fcs 0) (fcs z9.val) (wS 0 97 (fcs z9.val) rfl) ?_
  refine sE ?_
  refine sR (fun j => j == 8) ?_
  refine sD 0 rfl (fv z9.val) (qL 6 g6 0 4 97 97 (fcs z9.val) rfl Tryz.underlying97) <| sD 1 rfl (fv z9.val) (qL 6 g6 0 4 97 97 (fcs z9.val) rfl Tryz.underlying97) ?_
  obtain ⟨z10,hz10⟩ : ∃ z : Fp,z = z9 * z9:=⟨_,rfl⟩
  refine sD 2 rfl (fv z10.val) (qF 82 #[fv z9.val,fv z9.val] (fun w => by rw [hz10]; exact mulR_c w z9 z9)) <| sD 3 rfl (fv z7.val) (qL 5 g5 0 4 97 97 (fcs z7.val) rfl Tryz.underlying97) <| sD 4 rfl (fv z7.val) (qL 5 g5 0 4 97 97 (fcs z7.val) rfl Tryz.underlying97) ?_
  obtain ⟨z11,hz11⟩ : ∃ z : Fp,z = z7 + z7:=⟨_,rfl⟩
  refine sD 5 rfl (fv z11.val) (qF 114 #[fv z7.val,fv z7.val] (fun w => by rw [hz11]; exact addR_c w z7 z7)) ?_
  obtain ⟨z12,hz12⟩ : ∃ z : Fp,z = z10 - z11:=⟨_,rfl⟩
  refine sD 6 rfl (fv z12.val) (qF 113 #[fv z10.val,fv z11.val] (fun w => by rw [hz12]; exact subR_c w z10 z11)) ?_
  refine sO 7 rfl 97 (fcs 0) (fun g7 => ?_)
  refine sX 8 rfl 7 g7 97 (fcs 0) (fcs z12.val) (wS 0 97 (fcs z12.val) rfl) ?_
  refine sE ?_
  refine sB ?_
  refine sS (fv z3.val) (qL 4 g4 0 4 97 97 (fcs z3.val) rfl Tryz.underlying97) <| sS (fv z3.val) (qL 4 g4 0 4 97 97 (fcs z3.val) rfl Tryz.underlying97) ?_
  obtain ⟨z13,hz13⟩ : ∃ z : Fp,z = z3 + z3:=⟨_,rfl⟩
  refine sS (fv z13.val) (qF 114 #[fv z3.val,fv z3.val] (fun w => by rw [hz13]; exact addR_c w z3 z3)) <| sW 4 g4 97 (fcs z3.val) (fcs z13.val) (wS 0 97 (fcs z13.val) rfl) ?_
  refine sA ?_
  refine sS (fv z13.val) (qL 4 g4 0 4 97 97 (fcs z13.val) rfl Tryz.underlying97) <| sS (fv z13.val) (qL 4 g4 0 4 97 97 (fcs z13.val) rfl Tryz.underlying97) ?_
  obtain ⟨z14,hz14⟩ : ∃ z : Fp,z = z13 + z13:=⟨_,rfl⟩
  refine sS (fv z14.val) (qF 114 #[fv z13.val,fv z13.val] (fun w => by rw [hz14]; exact addR_c w z13 z13)) <| sW 4 g4 97 (fcs z13.val) (fcs z14.val) (wS 0 97 (fcs z14.val) rfl) ?_
  refine sA ?_
  refine sS (fv z14.val) (qL 4 g4 0 4 97 97 (fcs z14.val) rfl Tryz.underlying97) <| sS (fv z14.val) (qL 4 g4 0 4 97 97 (fcs z14.val) rfl Tryz.underlying97) ?_
  obtain ⟨z15,hz15⟩ : ∃ z : Fp,z = z14 + z14:=⟨_,rfl⟩
  refine sS (fv z15.val) (qF 114 #[fv z14.val,fv z14.val] (fun w => by rw [hz15]; exact addR_c w z14 z14)) <| sW 4 g4 97 (fcs z14.val) (fcs z15.val) (wS 0 97 (fcs z15.val) rfl) ?_
  refine sH (fun j => j == 8) ?_
  refine sD 0 rfl (fv z9.val) (qL 6 g6 0 4 97 97 (fcs z9.val) rfl Tryz.underlying97) <| sD 1 rfl (fv z7.val) (qL 5 g5 0 4 97 97 (fcs z7.val) rfl Tryz.underlying97) <| sD 2 rfl (fv z12.val) (qL 7 g7 0 4 97 97 (fcs z12.val) rfl Tryz.underlying97) ?_
  obtain ⟨z16,hz16⟩ : ∃ z : Fp,z = z7 - z12:=⟨_,rfl⟩
  refine sD 3 rfl (fv z16.val) (qF 113 #[fv z7.val,fv z12.val] (fun w => by rw [hz16]; exact subR_c w z7 z12)) ?_
  obtain ⟨z17,hz17⟩ : ∃ z : Fp,z = z9 * z16:=⟨_,rfl⟩
  refine sD 4 rfl (fv z17.val) (qF 82 #[fv z9.val,fv z16.val] (fun w => by rw [hz17]; exact mulR_c w z9 z16)) <| sD 5 rfl (fv z15.val) (qL 4 g4 0 4 97 97 (fcs z15.val) rfl Tryz.underlying97) ?_
  obtain ⟨z18,hz18⟩ : ∃ z : Fp,z = z17 - z15:=⟨_,rfl⟩
  refine sD 6 rfl (fv z18.val) (qF 113 #[fv z17.val,fv z15.val] (fun w => by rw [hz18]; exact subR_c w z17 z15)) ?_
  refine sO 7 rfl 97 (fcs 0) (fun g8 => ?_)
  refine sX 8 rfl 8 g8 97 (fcs 0) (fcs z18.val) (wS 0 97 (fcs z18.val) rfl) ?_
  refine sE ?_
  refine sB ?_
  refine sP (.pointer (some ⟨g0,4,none⟩)) <| sS (fv a.y.val) (qL 0 g0 4 4 126 97 (tcs a.x.val a.y.val a.z.val) rfl Tryz.underlying97) <| sP (.pointer (some ⟨g0,8,none⟩)) <| sS (fv a.z.val) (qL 0 g0 8 4 126 97 (tcs a.x.val a.y.val a.z.val) rfl Tryz.underlying97) ?_
  obtain ⟨z19,hz19⟩ : ∃ z : Fp,z = a.y * a.z:=⟨_,rfl⟩
  refine sS (fv z19.val) (qF 82 #[fv a.y.val,fv a.z.val] (fun w => by rw [hz19]; exact mulR_c w a.y a.z)) ?_
  refine sM 97 (fcs 0) (fun g9 => ?_)
  refine sW 9 g9 97 (fcs 0) (fcs z19.val) (wS 0 97 (fcs z19.val) rfl) ?_
  refine sH (fun j => j == 6) ?_
  refine sD 0 rfl (fv z12.val) (qL 7 g7 0 4 97 97 (fcs z12.val) rfl Tryz.underlying97) <| sD 1 rfl (fv z18.val) (qL 8 g8 0 4 97 97 (fcs z18.val) rfl Tryz.underlying97) <| sD 2 rfl (fv z19.val) (qL 9 g9 0 4 97 97 (fcs z19.val) rfl Tryz.underlying97) <| sD 3 rfl (fv z19.val) (qL 9 g9 0 4 97 97 (fcs z19.val) rfl Tryz.underlying97) ?_
  obtain ⟨z20,hz20⟩ : ∃ z : Fp,z = z19 + z19:=⟨_,rfl⟩
  refine sD 4 rfl (fv z20.val) (qF 114 #[fv z19.val,fv z19.val] (fun w => by rw [hz20]; exact addR_c w z19 z19)) <| sZ 5 rfl (tv z12.val z18.val z20.val) <| sX 6 rfl 1 g1 126 (tcs 0 0 0) (tcs z12.val z18.val z20.val) (wS 0 126 (tcs z12.val z18.val z20.val) rfl) ?_
  refine sI ?_
  refine Sy.ret ?_
  rw [show (tv (dblR a).x.val (dblR a).y.val (dblR a).z.val : Value) = tv z12.val z18.val z20.val from by
   unfold dblR; rw [if_neg eb1]
   have k0 : (dblJ a).x = z12:=by
    simp only [dblJ,pxR,pyR,hR,rR]
    simp only [hz12,hz11,hz10,hz9,hz8,hz7,hz6,hz5,hz4,hz2,hz1]
    grobner
   have k1 : (dblJ a).y = z18:=by
    simp only [dblJ,pxR,pyR,hR,rR]
    simp only [hz18,hz17,hz16,hz15,hz14,hz13,hz12,hz11,hz10,hz9,hz8,hz7,hz6,hz5,hz4,hz3,hz2,hz1]
    grobner
   have k2 : (dblJ a).z = z20:=by
    simp only [dblJ,pxR,pyR,hR,rR]
    simp only [hz20,hz19]
    grobner
   simp only [k0,k1,k2]]
  exact rC (v:=tv z12.val z18.val z20.val) 126 g1 1 (tcs z12.val z18.val z20.val) rfl Tryz.underlying126
 ·have eb1 : a.z = (0 : Fp):=Fin.ext (of_decide_eq_true hb1.symm)
  refine sT <| sC ?_
  refine sS (tv a.x.val a.y.val a.z.val) (qL 0 g0 0 12 126 126 (tcs a.x.val a.y.val a.z.val) rfl Tryz.underlying126) <| sW 1 g1 126 (tcs 0 0 0) (tcs a.x.val a.y.val a.z.val) (wS 0 126 (tcs a.x.val a.y.val a.z.val) rfl) ?_
  refine sG <| Sy.ret <| Sy.then_ret ?_
  rw [show (tv (dblR a).x.val (dblR a).y.val (dblR a).z.val : Value) = tv a.x.val a.y.val a.z.val from by unfold dblR; rw [if_pos eb1]]
  exact rC (v:=tv a.x.val a.y.val a.z.val) 126 g1 1 (tcs a.x.val a.y.val a.z.val) rfl Tryz.underlying126
theorem plusR_c (w : World) (a : J) (x y : Fp) : Calls Tryz.prog 79 #[tv a.x.val a.y.val a.z.val,fv x.val,fv y.val] w (Gets w (tv (plusR a x y).x.val (plusR a x y).y.val (plusR a x y).z.val)):=by
 refine Sy.enter (args:=[tv a.x.val a.y.val a.z.val,fv x.val,fv y.val]) Tryz.func79 rfl kL ?_
 refine sC ?_
 refine sM 126 (tcs a.x.val a.y.val a.z.val) (fun g0 => ?_)
 refine sM 97 (fcs x.val) (fun g1 => ?_)
 refine sM 97 (fcs y.val) (fun g2 => ?_)
 refine sM 126 (tcs 0 0 0) (fun g3 => ?_)
 refine sG <| Sy.seq <| sC ?_
 refine sP (.pointer (some ⟨g0,8,none⟩)) <| sS (fv a.z.val) (qL 0 g0 8 4 126 97 (tcs a.x.val a.y.val a.z.val) rfl Tryz.underlying97) <| sP (fv 0) ?_
 obtain ⟨b1,hb1⟩ : ∃ z : Bool,z = decide (a.z.val = 0):=⟨_,rfl⟩
 refine sS (.bool b1) (Quiet.pure (fun w => by rw [hb1]; exact eql_num w _ _ _ _ _ _ rfl rfl rfl lK lK)) ?_
 refine sG ?_
 cases b1
 ·have eb1 : a.z ≠ (0 : Fp):=fun e => of_decide_eq_false hb1.symm (congrArg Fin.val e)
  refine sU <| Sy.skip <| sB ?_
  refine sP (.pointer (some ⟨g0,8,none⟩)) <| sS (fv a.z.val) (qL 0 g0 8 4 126 97 (tcs a.x.val a.y.val a.z.val) rfl Tryz.underlying97) <| sP (.pointer (some ⟨g0,8,none⟩)) <| sS (fv a.z.val) (qL 0 g0 8 4 126 97 (tcs a.x.val a.y.val a.z.val) rfl Tryz.underlying97) ?_
  obtain ⟨z1,hz1⟩ : ∃ z : Fp,z = a.z * a.z:=⟨_,rfl⟩
  refine sS (fv z1.val) (qF 82 #[fv a.z.val,fv a.z.val] (fun w => by rw [hz1]; exact mulR_c w a.z a.z)) ?_
  refine sM 97 (fcs 0) (fun g4 => ?_)
  refine sW 4 g4 97 (fcs 0) (fcs z1.val) (wS 0 97 (fcs z1.val) rfl) ?_
  refine sA ?_
  refine sS (fv x.val) (qL 1 g1 0 4 97 97 (fcs x.val) rfl Tryz.underlying97) <| sS (fv z1.val) (qL 4 g4 0 4 97 97 (fcs z1.val) rfl Tryz.underlying97) ?_
  obtain ⟨z2,hz2⟩ : ∃ z : Fp,z = x * z1:=⟨_,rfl⟩
  refine sS (fv z2.val) (qF 82 #[fv x.val,fv z1.val] (fun w => by rw [hz2]; exact mulR_c w x z1)) ?_
  refine sM 97 (fcs 0) (fun g5 => ?_)
  refine sW 5 g5 97 (fcs 0) (fcs z2.val) (wS 0 97 (fcs z2.val) rfl) ?_
  refine sH (fun j => j == 7) ?_
  refine sD 0 rfl (fv y.val) (qL 2 g2 0 4 97 97 (fcs y.val) rfl Tryz.underlying97) <| sD 1 rfl (fv z1.val) (qL 4 g4 0 4 97 97 (fcs z1.val) rfl Tryz.underlying97) <| sZ 2 rfl (.pointer (some ⟨g0,8,none⟩)) <| sD 3 rfl (fv a.z.val) (qL 0 g0 8 4 126 97 (tcs a.x.val a.y.val a.z.val) rfl Tryz.underlying97) ?_
  obtain ⟨z3,hz3⟩ : ∃ z : Fp,z = z1 * a.z:=⟨_,rfl⟩
  refine sD 4 rfl (fv z3.val) (qF 82 #[fv z1.val,fv a.z.val] (fun w => by rw [hz3]; exact mulR_c w z1 a.z)) ?_
  obtain ⟨z4,hz4⟩ : ∃ z : Fp,z = y * z3:=⟨_,rfl⟩
  refine sD 5 rfl (fv z4.val) (qF 82 #[fv y.val,fv z3.val] (fun w => by rw [hz4]; exact mulR_c w y z3)) ?_
  refine sO 6 rfl 97 (fcs 0) (fun g6 => ?_)
  refine sX 7 rfl 6 g6 97 (fcs 0) (fcs z4.val) (wS 0 97 (fcs z4.val) rfl) ?_
  refine sI ?_
  refine Sy.seq <| sC ?_
  refine sS (fv z2.val) (qL 5 g5 0 4 97 97 (fcs z2.val) rfl Tryz.underlying97) <| sP (.pointer (some ⟨g0,0,none⟩)) <| sS (fv a.x.val) (qL 0 g0 0 4 126 97 (tcs a.x.val a.y.val a.z.val) rfl Tryz.underlying97) ?_
  obtain ⟨b2,hb2⟩ : ∃ z : Bool,z = decide (z2.val = a.x.val):=⟨_,rfl⟩
  refine sS (.bool b2) (Quiet.pure (fun w => by rw [hb2]; exact eql_num w _ _ _ _ _ _ rfl rfl rfl lK lK)) ?_
  refine sG ?_
  cases b2
  ·have eb2 : z2 ≠ a.x:=fun e => of_decide_eq_false hb2.symm (congrArg Fin.val e)
   refine sU <| Sy.skip <| sB ?_
   refine sS (fv z2.val) (qL 5 g5 0 4 97 97 (fcs z2.val) rfl Tryz.underlying97) <| sP (.pointer (some ⟨g0,0,none⟩)) <| sS (fv a.x.val) (qL 0 g0 0 4 126 97 (tcs a.x.val a.y.val a.z.val) rfl Tryz.underlying97) ?_
   obtain ⟨z5,hz5⟩ : ∃ z : Fp,z = z2 - a.x:=⟨_,rfl⟩
   refine sS (fv z5.val) (qF 113 #[fv z2.val,fv a.x.val] (fun w => by rw [hz5]; exact subR_c w z2 a.x)) ?_
   refine sM 97 (fcs 0) (fun g7 => ?_)
   refine sW 7 g7 97 (fcs 0) (fcs z5.val) (wS 0 97 (fcs z5.val) rfl) ?_
   refine sA ?_
   refine sS (fv z4.val) (qL 6 g6 0 4 97 97 (fcs z4.val) rfl Tryz.underlying97) <| sP (.pointer (some ⟨g0,4,none⟩)) <| sS (fv a.y.val) (qL 0 g0 4 4 126 97 (tcs a.x.val a.y.val a.z.val) rfl Tryz.underlying97) ?_
   obtain ⟨z6,hz6⟩ : ∃ z : Fp,z = z4 - a.y:=⟨_,rfl⟩
   refine sS (fv z6.val) (qF 113 #[fv z4.val,fv a.y.val] (fun w => by rw [hz6]; exact subR_c w z4 a.y)) ?_
   refine sM 97 (fcs 0) (fun g8 => ?_)
   refine sW 8 g8 97 (fcs 0) (fcs z6.val) (wS 0 97 (fcs z6.val) rfl) ?_
   refine sA ?_
   refine sS (fv z5.val) (qL 7 g7 0 4 97 97 (fcs z5.val) rfl Tryz.underlying97) <| sS (fv z5.val) (qL 7 g7 0 4 97 97 (fcs z5.val) rfl Tryz.underlying97) ?_
   obtain ⟨z7,hz7⟩ : ∃ z : Fp,z = z5 * z5:=⟨_,rfl⟩
   refine sS (fv z7.val) (qF 82 #[fv z5.val,fv z5.val] (fun w => by rw [hz7]; exact mulR_c w z5 z5)) ?_
   refine sM 97 (fcs 0) (fun g9 => ?_)
   refine sW 9 g9 97 (fcs 0) (fcs z7.val) (wS 0 97 (fcs z7.val) rfl) ?_
   refine sA ?_
   refine sS (fv z5.val) (qL 7 g7 0 4 97 97 (fcs z5.val) rfl Tryz.underlying97) <| sS (fv z7.val) (qL 9 g9 0 4 97 97 (fcs z7.val) rfl Tryz.underlying97) ?_
   obtain ⟨z8,hz8⟩ : ∃ z : Fp,z = z5 * z7:=⟨_,rfl⟩
   refine sS (fv z8.val) (qF 82 #[fv z5.val,fv z7.val] (fun w => by rw [hz8]; exact mulR_c w z5 z7)) ?_
   refine sM 97 (fcs 0) (fun g10 => ?_)
   refine sW 10 g10 97 (fcs 0) (fcs z8.val) (wS 0 97 (fcs z8.val) rfl) ?_
   refine sA ?_
   refine sP (.pointer (some ⟨g0,0,none⟩)) <| sS (fv a.x.val) (qL 0 g0 0 4 126 97 (tcs a.x.val a.y.val a.z.val) rfl Tryz.underlying97) <| sS (fv z7.val) (qL 9 g9 0 4 97 97 (fcs z7.val) rfl Tryz.underlying97) ?_
   obtain ⟨z9,hz9⟩ : ∃ z : Fp,z = a.x * z7:=⟨_,rfl⟩
   refine sS (fv z9.val) (qF 82 #[fv a.x.val,fv z7.val] (fun w => by rw [hz9]; exact mulR_c w a.x z7)) ?_
   refine sM 97 (fcs 0) (fun g11 => ?_)
   refine sW 11 g11 97 (fcs 0) (fcs z9.val) (wS 0 97 (fcs z9.val) rfl) ?_
   refine sH (fun j => j == 10) ?_
   refine sD 0 rfl (fv z6.val) (qL 8 g8 0 4 97 97 (fcs z6.val) rfl Tryz.underlying97) <| sD 1 rfl (fv z6.val) (qL 8 g8 0 4 97 97 (fcs z6.val) rfl Tryz.underlying97) ?_
   obtain ⟨z10,hz10⟩ : ∃ z : Fp,z = z6 * z6:=⟨_,rfl⟩
   refine sD 2 rfl (fv z10.val) (qF 82 #[fv z6.val,fv z6.val] (fun w => by rw [hz10]; exact mulR_c w z6 z6)) <| sD 3 rfl (fv z8.val) (qL 10 g10 0 4 97 97 (fcs z8.val) rfl Tryz.underlying97) ?_
   obtain ⟨z11,hz11⟩ : ∃ z : Fp,z = z10 - z8:=⟨_,rfl⟩
   refine sD 4 rfl (fv z11.val) (qF 113 #[fv z10.val,fv z8.val] (fun w => by rw [hz11]; exact subR_c w z10 z8)) <| sD 5 rfl (fv z9.val) (qL 11 g11 0 4 97 97 (fcs z9.val) rfl Tryz.underlying97) <| sD 6 rfl (fv z9.val) (qL 11 g11 0 4 97 97 (fcs z9.val) rfl Tryz.underlying97) ?_
   obtain ⟨z12,hz12⟩ : ∃ z : Fp,z = z9 + z9:=⟨_,rfl⟩
   refine sD 7 rfl (fv z12.val) (qF 114 #[fv z9.val,fv z9.val] (fun w => by rw [hz12]; exact addR_c w z9 z9)) ?_
   obtain ⟨z13,hz13⟩ : ∃ z : Fp,z = z11 - z12:=⟨_,rfl⟩
   refine sD 8 rfl (fv z13.val) (qF 113 #[fv z11.val,fv z12.val] (fun w => by rw [hz13]; exact subR_c w z11 z12)) ?_
   refine sO 9 rfl 97 (fcs 0) (fun g12 => ?_)
   refine sX 10 rfl 12 g12 97 (fcs 0) (fcs z13.val) (wS 0 97 (fcs z13.val) rfl) ?_
   refine sE ?_
   refine sR (fun j => j == 16) ?_
   refine sD 0 rfl (fv z13.val) (qL 12 g12 0 4 97 97 (fcs z13.val) rfl Tryz.underlying97) <| sD 1 rfl (fv z6.val) (qL 8 g8 0 4 97 97 (fcs z6.val) rfl Tryz.underlying97) <| sD 2 rfl (fv z9.val) (qL 11 g11 0 4 97 97 (fcs z9.val) rfl Tryz.underlying97) <| sD 3 rfl (fv z13.val) (qL 12 g12 0 4 97 97 (fcs z13.val) rfl Tryz.underlying97) ?_
   obtain ⟨z14,hz14⟩ : ∃ z : Fp,z = z9 - z13:=⟨_,rfl⟩
   refine sD 4 rfl (fv z14.val) (qF 113 #[fv z9.val,fv z13.val] (fun w => by rw [hz14]; exact subR_c w z9 z13)) ?_
   obtain ⟨z15,hz15⟩ : ∃ z : Fp,z = z6 * z14:=⟨_,rfl⟩
   refine sD 5 rfl (fv z15.val) (qF 82 #[fv z6.val,fv z14.val] (fun w => by rw [hz15]; exact mulR_c w z6 z14)) <| sZ 6 rfl (.pointer (some ⟨g0,4,none⟩)) <| sD 7 rfl (fv a.y.val) (qL 0 g0 4 4 126 97 (tcs a.x.val a.y.val a.z.val) rfl Tryz.underlying97) <| sD 8 rfl (fv z8.val) (qL 10 g10 0 4 97 97 (fcs z8.val) rfl Tryz.underlying97) ?_
   obtain ⟨z16,hz16⟩ : ∃ z : Fp,z = a.y * z8:=⟨_,rfl⟩
   refine sD 9 rfl (fv z16.val) (qF 82 #[fv a.y.val,fv z8.val] (fun w => by rw [hz16]; exact mulR_c w a.y z8)) ?_
   obtain ⟨z17,hz17⟩ : ∃ z : Fp,z = z15 - z16:=⟨_,rfl⟩
   refine sD 10 rfl (fv z17.val) (qF 113 #[fv z15.val,fv z16.val] (fun w => by rw [hz17]; exact subR_c w z15 z16)) <| sD 11 rfl (fv z5.val) (qL 7 g7 0 4 97 97 (fcs z5.val) rfl Tryz.underlying97) <| sZ 12 rfl (.pointer (some ⟨g0,8,none⟩)) <| sD 13 rfl (fv a.z.val) (qL 0 g0 8 4 126 97 (tcs a.x.val a.y.val a.z.val) rfl Tryz.underlying97) ?_
   obtain ⟨z18,hz18⟩ : ∃ z : Fp,z = z5 * a.z:=⟨_,rfl⟩
   refine sD 14 rfl (fv z18.val) (qF 82 #[fv z5.val,fv a.z.val] (fun w => by rw [hz18]; exact mulR_c w z5 a.z)) <| sZ 15 rfl (tv z13.val z17.val z18.val) <| sX 16 rfl 3 g3 126 (tcs 0 0 0) (tcs z13.val z17.val z18.val) (wS 0 126 (tcs z13.val z17.val z18.val) rfl) ?_
   refine sI ?_
   refine Sy.ret ?_
   rw [show (tv (plusR a x y).x.val (plusR a x y).y.val (plusR a x y).z.val : Value) = tv z13.val z17.val z18.val from by
    rw [plusR_4 eb1 (by have q:=eb2; simp only [hz2,hz1] at q; exact q)]; simp only
    have k0 : pxR a x y = z13:=by
     simp only [dblJ,pxR,pyR,hR,rR]
     simp only [hz13,hz12,hz11,hz10,hz9,hz8,hz7,hz6,hz5,hz4,hz3,hz2,hz1]
     grobner
    have k1 : pyR a x y = z17:=by
     simp only [dblJ,pxR,pyR,hR,rR]
     simp only [hz17,hz16,hz15,hz14,hz13,hz12,hz11,hz10,hz9,hz8,hz7,hz6,hz5,hz4,hz3,hz2,hz1]
     grobner
    have k2 : a.z * hR a x = z18:=by
     simp only [dblJ,pxR,pyR,hR,rR]
     simp only [hz18,hz5,hz2,hz1]
     grobner
    simp only [k0,k1,k2]]
   exact rC (v:=tv z13.val z17.val z18.val) 126 g3 3 (tcs z13.val z17.val z18.val) rfl Tryz.underlying126
  ·have eb2 : z2 = a.x:=Fin.ext (of_decide_eq_true hb2.symm)
   refine sT <| Sy.seq <| sC ?_
   refine sS (fv z4.val) (qL 6 g6 0 4 97 97 (fcs z4.val) rfl Tryz.underlying97) <| sP (.pointer (some ⟨g0,4,none⟩)) <| sS (fv a.y.val) (qL 0 g0 4 4 126 97 (tcs a.x.val a.y.val a.z.val) rfl Tryz.underlying97) ?_
   obtain ⟨b3,hb3⟩ : ∃ z : Bool,z = decide (z4.val = a.y.val):=⟨_,rfl⟩
   refine sS (.bool b3) (Quiet.pure (fun w => by rw [hb3]; exact eql_num w _ _ _ _ _ _ rfl rfl rfl lK lK)) ?_
   refine sG ?_
   cases b3
   ·have eb3 : z4 ≠ a.y:=fun e => of_decide_eq_false hb3.symm (congrArg Fin.val e)
    refine sU <| Sy.skip <| sB ?_
    refine sP (tv 0 0 0) <| sW 3 g3 126 (tcs 0 0 0) (tcs 0 0 0) (wS 0 126 (tcs 0 0 0) rfl) ?_
    refine sG <| Sy.ret <| Sy.then_ret ?_
    rw [show (tv (plusR a x y).x.val (plusR a x y).y.val (plusR a x y).z.val : Value) = tv 0 0 0 from by rw [plusR_3 eb1 (by have q:=eb2; simp only [hz2,hz1] at q; exact q) (by have q:=eb3; simp only [hz4,hz3,hz1] at q; exact q)]; rfl]
    exact rC (v:=tv 0 0 0) 126 g3 3 (tcs 0 0 0) rfl Tryz.underlying126
   ·have eb3 : z4 = a.y:=Fin.ext (of_decide_eq_true hb3.symm)
    refine sT <| sC ?_
    refine sS (tv a.x.val a.y.val a.z.val) (qL 0 g0 0 12 126 126 (tcs a.x.val a.y.val a.z.val) rfl Tryz.underlying126) <| sS (tv ((dblR a).x.val) ((dblR a).y.val) ((dblR a).z.val)) (qF 78 #[tv a.x.val a.y.val a.z.val] (fun w => twiceR_c w a)) <| sW 3 g3 126 (tcs 0 0 0) (tcs ((dblR a).x.val) ((dblR a).y.val) ((dblR a).z.val)) (wS 0 126 (tcs ((dblR a).x.val) ((dblR a).y.val) ((dblR a).z.val)) rfl) ?_
    refine sG <| Sy.ret <| Sy.then_ret <| Sy.then_ret ?_
    rw [show (tv (plusR a x y).x.val (plusR a x y).y.val (plusR a x y).z.val : Value) = tv ((dblR a).x.val) ((dblR a).y.val) ((dblR a).z.val) from by rw [plusR_2 eb1 (by have q:=eb2; simp only [hz2,hz1] at q; exact q) (by have q:=eb3; simp only [hz4,hz3,hz1] at q; exact q)]]
    exact rC (v:=tv ((dblR a).x.val) ((dblR a).y.val) ((dblR a).z.val)) 126 g3 3 (tcs ((dblR a).x.val) ((dblR a).y.val) ((dblR a).z.val)) rfl Tryz.underlying126
 ·have eb1 : a.z = (0 : Fp):=Fin.ext (of_decide_eq_true hb1.symm)
  refine sT <| Sy.seq ?_
  refine Sy.regionD (fun j => j == 4) kR ?_
  refine sD 0 rfl (fv x.val) (qL 1 g1 0 4 97 97 (fcs x.val) rfl Tryz.underlying97) <| sD 1 rfl (fv y.val) (qL 2 g2 0 4 97 97 (fcs y.val) rfl Tryz.underlying97) ?_
  obtain ⟨z19,hz19⟩ : ∃ z : Fp,z = (1 : Fp):=⟨_,rfl⟩
  refine sD 2 rfl (fv z19.val) (qF 132 #[.int .u64 1] (fun w => by rw [hz19]; exact small_c w 1 (by decide))) <| sZ 3 rfl (tv x.val y.val z19.val) <| sX 4 rfl 3 g3 126 (tcs 0 0 0) (tcs x.val y.val z19.val) (wS 0 126 (tcs x.val y.val z19.val) rfl) ?_
  refine sI ?_
  refine Sy.ret <| Sy.then_ret ?_
  rw [show (tv (plusR a x y).x.val (plusR a x y).y.val (plusR a x y).z.val : Value) = tv x.val y.val z19.val from by rw [plusR_1 eb1]; simp only [hz19]]
  exact rC (v:=tv x.val y.val z19.val) 126 g3 3 (tcs x.val y.val z19.val) rfl Tryz.underlying126
end Cu
end
section
namespace Sc
open Go.RowKit
def pM : Nat:=115792089237316195423570985008687907852837564279074904382605163141518161494337
theorem pM_eq : pM = 115792089237316195423570985008687907852837564279074904382605163141518161494337:=rfl
theorem mod_lt (n : Nat) : n % pM < (2^256):=by have:=Nat.mod_lt n (show 0 < pM by decide); rw [pM_eq] at this ⊢; omega
theorem mod_lt_p (n : Nat) : n % pM < pM:=Nat.mod_lt n (by decide)
def addP (x y : Nat) : Nat:=(x + y) % pM
def negP (x : Nat) : Nat:=(pM - x % pM) % pM
def mulP (x y : Nat) : Nat:=x * y % pM
theorem addP_lt (x y : Nat) : addP x y < (2^256):=mod_lt _
theorem red_once (x : Nat) (hx : x < (2^256)) : x % pM = if x + 432420386565659656852420866394968145599 < (2^256) then x else x + 432420386565659656852420866394968145599 - (2^256):=by
 rw [pM_eq]
 by_cases h : x + 432420386565659656852420866394968145599 < (2^256)
 ·rw [if_pos h]; exact Nat.mod_eq_of_lt (by omega)
 ·rw [if_neg h,Nat.mod_eq_sub_mod (by omega),Nat.mod_eq_of_lt (by omega)]
  omega
theorem mod_of_mult {x z k : Nat} (h : z + 115792089237316195423570985008687907852837564279074904382605163141518161494337 * k = x) : z % pM = x % pM:=by
 rw [← h,pM_eq,Nat.add_mul_mod_self_left]
end Sc
end
section
namespace Sc
open Go.RowKit Go.Lib
theorem order_any (w : World) : Calls Tryz.prog 145 #[] w fun e w' => e = .returned (fv 115792089237316195423570985008687907852837564279074904382605163141518161494337) ∧ Below w.heap.size w w':=by
 go_enter Tryz.func145,Tryz.ntmps145
 go_wp2
 exact bodyPost_ret (results_cell_row rfl _ _ w.heap.size _ _ (0,0) _ rfl (heap_alloc_new w _) Tryz.underlying24 rfl (by kernel_rfl)) rfl ⟨rfl,(Below.refl _ _).alloc (Nat.le_refl _) _⟩
set_option maxHeartbeats 8000000 in
set_option maxRecDepth 100000 in
theorem minus_any (w : World) (x y : Nat) (hx : x < (2^256)) (hy : y < (2^256)) : Calls Tryz.prog 144 #[fv x,fv y] w fun e w' => (∃ s k : Nat,s < (2^256) ∧ k ≤ 1 ∧ s + y = x + (2^256) * k ∧ e = .returned (.tuple #[fv s,.int .u64 (k : Int)])) ∧ Below w.heap.size w w':=by
 obtain ⟨x0,x1,x2,x3,a0,a1,a2,a3,ex,fx⟩:=words_of x hx
 obtain ⟨y0,y1,y2,y3,b0,b1,b2,b3,ey,fy⟩:=words_of y hy
 rw [fx,fy]
 obtain ⟨s0,c0,d0,k0,e0,r0⟩:=sub0_ex x0 y0 a0 b0
 obtain ⟨s1,c1,d1,k1,e1,r1⟩:=subc_ex x1 y1 c0 a1 b1 k0
 obtain ⟨s2,c2,d2,k2,e2,r2⟩:=subc_ex x2 y2 c1 a2 b2 k1
 obtain ⟨s3,c3,d3,k3,e3,r3⟩:=subc_ex x3 y3 c2 a3 b3 k2
 have fin : s0 + 18446744073709551616 * s1 + 340282366920938463463374607431768211456 * s2 + 6277101735386680763835789423207666416102355444464034512896 * s3 + y = x + (2^256) * c3:=by omega
 have hs:=Lib.hid (fv_mk s0 s1 s2 s3 d0 d1 d2 d3)
 have hlt:=Lib.hid (fv_lt s0 s1 s2 s3 d0 d1 d2 d3)
 have HF:=Lib.hid fin
 have HK:=Lib.hid k3
 clear ex ey fx fy e0 e1 e2 e3 a0 a1 a2 a3 b0 b1 b2 b3 d0 d1 d2 d3 k0 k1 k2 k3 fin hx hy
 go_enter Tryz.func144,Tryz.ntmps144
 go_wp2_with fail
 go_loopw [5,7] (fun bo i wr => Below w.heap.size w wr ∧ Blk wr w.heap.size 24 #[.int .u64 (x0 : Int),.int .u64 (x1 : Int),.int .u64 (x2 : Int),.int .u64 (x3 : Int)] ∧ Blk wr (w.heap.size + 1) 24 #[.int .u64 (y0 : Int),.int .u64 (y1 : Int),.int .u64 (y2 : Int),.int .u64 (y3 : Int)] ∧ Hid ((i = .int .i64 0 ∧ bo = .int .u64 0 ∧ Blk wr (w.heap.size + 2) 24 #[.int .u64 0,.int .u64 0,.int .u64 0,.int .u64 0]) ∨ (i = .int .i64 1 ∧ bo = .int .u64 (c0 : Int) ∧ Blk wr (w.heap.size + 2) 24 #[.int .u64 (s0 : Int),.int .u64 0,.int .u64 0,.int .u64 0]) ∨ (i = .int .i64 2 ∧ bo = .int .u64 (c1 : Int) ∧ Blk wr (w.heap.size + 2) 24 #[.int .u64 (s0 : Int),.int .u64 (s1 : Int),.int .u64 0,.int .u64 0]) ∨ (i = .int .i64 3 ∧ bo = .int .u64 (c2 : Int) ∧ Blk wr (w.heap.size + 2) 24 #[.int .u64 (s0 : Int),.int .u64 (s1 : Int),.int .u64 (s2 : Int),.int .u64 0]) ∨ (i = .int .i64 4 ∧ bo = .int .u64 (c3 : Int) ∧ Blk wr (w.heap.size + 2) 24 #[.int .u64 (s0 : Int),.int .u64 (s1 : Int),.int .u64 (s2 : Int),.int .u64 (s3 : Int)]))) (fun _ i _ => 4 - (intOf i).toNat)
 case atStart => exact ⟨below_alloc3 w _ _ _,((Blk.new w _ _).alloc _).alloc _,(blk_new2 w _ _ _).alloc _,Lib.hid (.inl ⟨rfl,rfl,blk_new3 w _ _ _ _⟩)⟩
 case round =>
  obtain ⟨hb,BX,BY,HI⟩:=hrel
  have lX:=BX.lt
  have lY:=BY.lt
  rcases HI.out with ⟨rfl,rfl,BW⟩ | ⟨rfl,rfl,BW⟩ | ⟨rfl,rfl,BW⟩ | ⟨rfl,rfl,BW⟩ | ⟨rfl,rfl,BW⟩
  ·clear HI
   have px : wr.cell? ⟨w.heap.size,0,none⟩ = some (.int .u64 (x0 : Int)):=BX.cell 0
   have py : wr.cell? ⟨w.heap.size + 1,0,none⟩ = some (.int .u64 (y0 : Int)):=BY.cell 0
   go_wp2
   refine wp_region_G (fun j => j == 13) (by kernel_rfl) ?_
   try simp only [Act.put]
   refine tk 0 rfl ?_
   try simp only [Act.put,aA,aZ,aS]
   refine tk 1 rfl ?_
   try simp only [Act.put,aA,aZ,aS]
   refine tk 2 rfl ?_
   try simp only [Act.put,aA,aZ,aS]
   refine tkw 3 rfl (YieldsG.pure (v:=.int .u64 (x0 : Int)) (by rfl) (fun w9 h9 => by have hz:=(Below.cell (p:=⟨w.heap.size,0,none⟩) h9 lX).trans px; go_simp; first | done | simp [hz])) ?_
   try simp only [Act.put,aA,aZ,aS]
   refine tk 4 rfl ?_
   try simp only [Act.put,aA,aZ,aS]
   refine tk 5 rfl ?_
   try simp only [Act.put,aA,aZ,aS]
   refine tkw 6 rfl (YieldsG.pure (v:=.int .u64 (y0 : Int)) (by rfl) (fun w9 h9 => by have hz:=(Below.cell (p:=⟨w.heap.size + 1,0,none⟩) h9 lY).trans py; go_simp; first | done | simp [hz])) ?_
   try simp only [Act.put,aA,aZ,aS]
   refine tk 7 rfl ?_
   try simp only [Act.put,aA,aZ,aS]
   refine tkw 8 rfl (YieldsG.pure (v:=.tuple #[.int .u64 (s0 : Int),.int .u64 (c0 : Int)]) (by rfl) (fun w9 h9 => by go_simp)) ?_
   try simp only [Act.put,aA,aZ,aS]
   refine tk 9 rfl ?_
   try simp only [Act.put,aA,aZ,aS]
   refine tk 10 rfl ?_
   try simp only [Act.put,aA,aZ,aS]
   refine wpAnyG_takeA 11 rfl (by kernel_rfl) (fun _ _ _ h => h) (fun _ => YieldsG.pure (by rfl) (fun w9 _ => by go_simp; try with_reducible rfl)) ?_
   try simp only [Act.put,aA,aZ,aS]
   refine tk 12 rfl ?_
   try simp only [Act.put,aA,aZ,aS]
   refine wpAnyG_sole 13 rfl (by kernel_rfl) (by rfl) (fun u hu K hK => ?_)
   have BX:=Gr.blk hu BX
   have BY:=Gr.blk hu BY
   have BW:=Gr.blk hu BW
   have hb:=Below.gr hb hu
   have pc : u.cell? ⟨w.heap.size + 2,0,none⟩ = some (.int .u64 0):=BW.cell 0
   have pf:=BW.frozen 0
   clear hu px py
   go_simp
   refine hK _ _ (fun e => by cases e) ?_
   clear hK K
   have hb:=hb.setCell (p:=⟨w.heap.size + 2,0,none⟩) (by show w.heap.size ≤ w.heap.size + 2; omega) (.int .u64 (s0 : Int))
   have BX:=BX.far (p:=⟨w.heap.size + 2,0,none⟩) (by show w.heap.size ≠ w.heap.size + 2; omega) (.int .u64 (s0 : Int))
   have BY:=BY.far (p:=⟨w.heap.size + 2,0,none⟩) (by show w.heap.size + 1 ≠ w.heap.size + 2; omega) (.int .u64 (s0 : Int))
   have BW:=BW.set_ 0 (.int .u64 (s0 : Int))
   refine wpAnyG_takeA 14 rfl (by kernel_rfl) (fun _ _ _ h => h) (fun _ => YieldsG.pure (by rfl) (fun w9 _ => by go_simp; try with_reducible rfl)) ?_
   try simp only [Act.put,aA,aZ,aS]
   refine wpAnyG_done (by kernel_rfl) (fun v hv => ?_)
   have hb:=Below.gr hb hv
   have BX:=Gr.blk hv BX
   have BY:=Gr.blk hv BY
   have BW:=Gr.blk hv BW
   clear hv pc pf
   go_wp2
   refine ⟨⟨hb,BX,BY,Lib.hid (.inr (.inl (⟨rfl,rfl,BW⟩)))⟩,by decide⟩
  ·clear HI
   have px : wr.cell? ⟨w.heap.size,1,none⟩ = some (.int .u64 (x1 : Int)):=BX.cell 1
   have py : wr.cell? ⟨w.heap.size + 1,1,none⟩ = some (.int .u64 (y1 : Int)):=BY.cell 1
   go_wp2
   refine wp_region_G (fun j => j == 13) (by kernel_rfl) ?_
   try simp only [Act.put]
   refine tk 0 rfl ?_
   try simp only [Act.put,aA,aZ,aS]
   refine tk 1 rfl ?_
   try simp only [Act.put,aA,aZ,aS]
   refine tk 2 rfl ?_
   try simp only [Act.put,aA,aZ,aS]
   refine tkw 3 rfl (YieldsG.pure (v:=.int .u64 (x1 : Int)) (by rfl) (fun w9 h9 => by have hz:=(Below.cell (p:=⟨w.heap.size,1,none⟩) h9 lX).trans px; go_simp; first | done | simp [hz])) ?_
   try simp only [Act.put,aA,aZ,aS]
   refine tk 4 rfl ?_
   try simp only [Act.put,aA,aZ,aS]
   refine tk 5 rfl ?_
   try simp only [Act.put,aA,aZ,aS]
   refine tkw 6 rfl (YieldsG.pure (v:=.int .u64 (y1 : Int)) (by rfl) (fun w9 h9 => by have hz:=(Below.cell (p:=⟨w.heap.size + 1,1,none⟩) h9 lY).trans py; go_simp; first | done | simp [hz])) ?_
   try simp only [Act.put,aA,aZ,aS]
   refine tk 7 rfl ?_
   try simp only [Act.put,aA,aZ,aS]
   refine tkw 8 rfl (YieldsG.pure (v:=.tuple #[.int .u64 (s1 : Int),.int .u64 (c1 : Int)]) (by rfl) (fun w9 h9 => by go_simp)) ?_
   try simp only [Act.put,aA,aZ,aS]
   refine tk 9 rfl ?_
   try simp only [Act.put,aA,aZ,aS]
   refine tk 10 rfl ?_
   try simp only [Act.put,aA,aZ,aS]
   refine wpAnyG_takeA 11 rfl (by kernel_rfl) (fun _ _ _ h => h) (fun _ => YieldsG.pure (by rfl) (fun w9 _ => by go_simp; try with_reducible rfl)) ?_
   try simp only [Act.put,aA,aZ,aS]
   refine tk 12 rfl ?_
   try simp only [Act.put,aA,aZ,aS]
   refine wpAnyG_sole 13 rfl (by kernel_rfl) (by rfl) (fun u hu K hK => ?_)
   have BX:=Gr.blk hu BX
   have BY:=Gr.blk hu BY
   have BW:=Gr.blk hu BW
   have hb:=Below.gr hb hu
   have pc : u.cell? ⟨w.heap.size + 2,1,none⟩ = some (.int .u64 0):=BW.cell 1
   have pf:=BW.frozen 1
   clear hu px py
   go_simp
   refine hK _ _ (fun e => by cases e) ?_
   clear hK K
   have hb:=hb.setCell (p:=⟨w.heap.size + 2,1,none⟩) (by show w.heap.size ≤ w.heap.size + 2; omega) (.int .u64 (s1 : Int))
   have BX:=BX.far (p:=⟨w.heap.size + 2,1,none⟩) (by show w.heap.size ≠ w.heap.size + 2; omega) (.int .u64 (s1 : Int))
   have BY:=BY.far (p:=⟨w.heap.size + 2,1,none⟩) (by show w.heap.size + 1 ≠ w.heap.size + 2; omega) (.int .u64 (s1 : Int))
   have BW:=BW.set_ 1 (.int .u64 (s1 : Int))
   refine wpAnyG_takeA 14 rfl (by kernel_rfl) (fun _ _ _ h => h) (fun _ => YieldsG.pure (by rfl) (fun w9 _ => by go_simp; try with_reducible rfl)) ?_
   try simp only [Act.put,aA,aZ,aS]
   refine wpAnyG_done (by kernel_rfl) (fun v hv => ?_)
   have hb:=Below.gr hb hv
   have BX:=Gr.blk hv BX
   have BY:=Gr.blk hv BY
   have BW:=Gr.blk hv BW
   clear hv pc pf
   go_wp2
   refine ⟨⟨hb,BX,BY,Lib.hid (.inr (.inr (.inl (⟨rfl,rfl,BW⟩))))⟩,by decide⟩
  ·clear HI
   have px : wr.cell? ⟨w.heap.size,2,none⟩ = some (.int .u64 (x2 : Int)):=BX.cell 2
   have py : wr.cell? ⟨w.heap.size + 1,2,none⟩ = some (.int .u64 (y2 : Int)):=BY.cell 2
   go_wp2
   refine wp_region_G (fun j => j == 13) (by kernel_rfl) ?_
   try simp only [Act.put]
   refine tk 0 rfl ?_
   try simp only [Act.put,aA,aZ,aS]
   refine tk 1 rfl ?_
   try simp only [Act.put,aA,aZ,aS]
   refine tk 2 rfl ?_
   try simp only [Act.put,aA,aZ,aS]
   refine tkw 3 rfl (YieldsG.pure (v:=.int .u64 (x2 : Int)) (by rfl) (fun w9 h9 => by have hz:=(Below.cell (p:=⟨w.heap.size,2,none⟩) h9 lX).trans px; go_simp; first | done | simp [hz])) ?_
   try simp only [Act.put,aA,aZ,aS]
   refine tk 4 rfl ?_
   try simp only [Act.put,aA,aZ,aS]
   refine tk 5 rfl ?_
   try simp only [Act.put,aA,aZ,aS]
   refine tkw 6 rfl (YieldsG.pure (v:=.int .u64 (y2 : Int)) (by rfl) (fun w9 h9 => by have hz:=(Below.cell (p:=⟨w.heap.size + 1,2,none⟩) h9 lY).trans py; go_simp; first | done | simp [hz])) ?_
   try simp only [Act.put,aA,aZ,aS]
   refine tk 7 rfl ?_
   try simp only [Act.put,aA,aZ,aS]
   refine tkw 8 rfl (YieldsG.pure (v:=.tuple #[.int .u64 (s2 : Int),.int .u64 (c2 : Int)]) (by rfl) (fun w9 h9 => by go_simp)) ?_
   try simp only [Act.put,aA,aZ,aS]
   refine tk 9 rfl ?_
   try simp only [Act.put,aA,aZ,aS]
   refine tk 10 rfl ?_
   try simp only [Act.put,aA,aZ,aS]
   refine wpAnyG_takeA 11 rfl (by kernel_rfl) (fun _ _ _ h => h) (fun _ => YieldsG.pure (by rfl) (fun w9 _ => by go_simp; try with_reducible rfl)) ?_
   try simp only [Act.put,aA,aZ,aS]
   refine tk 12 rfl ?_
   try simp only [Act.put,aA,aZ,aS]
   refine wpAnyG_sole 13 rfl (by kernel_rfl) (by rfl) (fun u hu K hK => ?_)
   have BX:=Gr.blk hu BX
   have BY:=Gr.blk hu BY
   have BW:=Gr.blk hu BW
   have hb:=Below.gr hb hu
   have pc : u.cell? ⟨w.heap.size + 2,2,none⟩ = some (.int .u64 0):=BW.cell 2
   have pf:=BW.frozen 2
   clear hu px py
   go_simp
   refine hK _ _ (fun e => by cases e) ?_
   clear hK K
   have hb:=hb.setCell (p:=⟨w.heap.size + 2,2,none⟩) (by show w.heap.size ≤ w.heap.size + 2; omega) (.int .u64 (s2 : Int))
   have BX:=BX.far (p:=⟨w.heap.size + 2,2,none⟩) (by show w.heap.size ≠ w.heap.size + 2; omega) (.int .u64 (s2 : Int))
   have BY:=BY.far (p:=⟨w.heap.size + 2,2,none⟩) (by show w.heap.size + 1 ≠ w.heap.size + 2; omega) (.int .u64 (s2 : Int))
   have BW:=BW.set_ 2 (.int .u64 (s2 : Int))
   refine wpAnyG_takeA 14 rfl (by kernel_rfl) (fun _ _ _ h => h) (fun _ => YieldsG.pure (by rfl) (fun w9 _ => by go_simp; try with_reducible rfl)) ?_
   try simp only [Act.put,aA,aZ,aS]
   refine wpAnyG_done (by kernel_rfl) (fun v hv => ?_)
   have hb:=Below.gr hb hv
   have BX:=Gr.blk hv BX
   have BY:=Gr.blk hv BY
   have BW:=Gr.blk hv BW
   clear hv pc pf
   go_wp2
   refine ⟨⟨hb,BX,BY,Lib.hid (.inr (.inr (.inr (.inl (⟨rfl,rfl,BW⟩)))))⟩,by decide⟩
  ·clear HI
   have px : wr.cell? ⟨w.heap.size,3,none⟩ = some (.int .u64 (x3 : Int)):=BX.cell 3
   have py : wr.cell? ⟨w.heap.size + 1,3,none⟩ = some (.int .u64 (y3 : Int)):=BY.cell 3
   go_wp2
   refine wp_region_G (fun j => j == 13) (by kernel_rfl) ?_
   try simp only [Act.put]
   refine tk 0 rfl ?_
   try simp only [Act.put,aA,aZ,aS]
   refine tk 1 rfl ?_
   try simp only [Act.put,aA,aZ,aS]
   refine tk 2 rfl ?_
   try simp only [Act.put,aA,aZ,aS]
   refine tkw 3 rfl (YieldsG.pure (v:=.int .u64 (x3 : Int)) (by rfl) (fun w9 h9 => by have hz:=(Below.cell (p:=⟨w.heap.size,3,none⟩) h9 lX).trans px; go_simp; first | done | simp [hz])) ?_
   try simp only [Act.put,aA,aZ,aS]
   refine tk 4 rfl ?_
   try simp only [Act.put,aA,aZ,aS]
   refine tk 5 rfl ?_
   try simp only [Act.put,aA,aZ,aS]
   refine tkw 6 rfl (YieldsG.pure (v:=.int .u64 (y3 : Int)) (by rfl) (fun w9 h9 => by have hz:=(Below.cell (p:=⟨w.heap.size + 1,3,none⟩) h9 lY).trans py; go_simp; first | done | simp [hz])) ?_
   try simp only [Act.put,aA,aZ,aS]
   refine tk 7 rfl ?_
   try simp only [Act.put,aA,aZ,aS]
   refine tkw 8 rfl (YieldsG.pure (v:=.tuple #[.int .u64 (s3 : Int),.int .u64 (c3 : Int)]) (by rfl) (fun w9 h9 => by go_simp)) ?_
   try simp only [Act.put,aA,aZ,aS]
   refine tk 9 rfl ?_
   try simp only [Act.put,aA,aZ,aS]
   refine tk 10 rfl ?_
   try simp only [Act.put,aA,aZ,aS]
   refine wpAnyG_takeA 11 rfl (by kernel_rfl) (fun _ _ _ h => h) (fun _ => YieldsG.pure (by rfl) (fun w9 _ => by go_simp; try with_reducible rfl)) ?_
   try simp only [Act.put,aA,aZ,aS]
   refine tk 12 rfl ?_
   try simp only [Act.put,aA,aZ,aS]
   refine wpAnyG_sole 13 rfl (by kernel_rfl) (by rfl) (fun u hu K hK => ?_)
   have BX:=Gr.blk hu BX
   have BY:=Gr.blk hu BY
   have BW:=Gr.blk hu BW
   have hb:=Below.gr hb hu
   have pc : u.cell? ⟨w.heap.size + 2,3,none⟩ = some (.int .u64 0):=BW.cell 3
   have pf:=BW.frozen 3
   clear hu px py
   go_simp
   refine hK _ _ (fun e => by cases e) ?_
   clear hK K
   have hb:=hb.setCell (p:=⟨w.heap.size + 2,3,none⟩) (by show w.heap.size ≤ w.heap.size + 2; omega) (.int .u64 (s3 : Int))
   have BX:=BX.far (p:=⟨w.heap.size + 2,3,none⟩) (by show w.heap.size ≠ w.heap.size + 2; omega) (.int .u64 (s3 : Int))
   have BY:=BY.far (p:=⟨w.heap.size + 2,3,none⟩) (by show w.heap.size + 1 ≠ w.heap.size + 2; omega) (.int .u64 (s3 : Int))
   have BW:=BW.set_ 3 (.int .u64 (s3 : Int))
   refine wpAnyG_takeA 14 rfl (by kernel_rfl) (fun _ _ _ h => h) (fun _ => YieldsG.pure (by rfl) (fun w9 _ => by go_simp; try with_reducible rfl)) ?_
   try simp only [Act.put,aA,aZ,aS]
   refine wpAnyG_done (by kernel_rfl) (fun v hv => ?_)
   have hb:=Below.gr hb hv
   have BX:=Gr.blk hv BX
   have BY:=Gr.blk hv BY
   have BW:=Gr.blk hv BW
   clear hv pc pf
   go_wp2
   refine ⟨⟨hb,BX,BY,Lib.hid (.inr (.inr (.inr (.inr (⟨rfl,rfl,BW⟩)))))⟩,by decide⟩
  ·clear HI
   obtain ⟨s,hsd⟩ : ∃ s,s = s0 + 18446744073709551616 * s1 + 340282366920938463463374607431768211456 * s2 + 6277101735386680763835789423207666416102355444464034512896 * s3:=⟨_,rfl⟩
   have hf:=hs.out
   have hl:=hlt.out
   have hn:=HF.out
   rw [← hsd] at hf hl hn
   have BS:=BW.eq_ (fcs_words hf.symm).symm
   have HS:=Lib.hid (And.intro hl hn)
   clear hf hl hn hsd
   go_wp2_with (first | ((with_reducible refine here_load (d:=some 24) ?_); refine wpList_load_fv rfl _ _ rfl (w.heap.size + 2) rfl (s) _ _ _ (BS) (fv_fcs s) Tryz.underlying24 rfl (by kernel_rfl) ?_) | ((with_reducible refine here_store ?_); refine wpList_store_blk rfl _ _ _ rfl (w.heap.size + 2) (fcs (s)) rfl rfl _ _ (BS) (by kernel_rfl) (by rfl) (fcs_one _) ?_; intro w9 hL9 hB9 hK9))
   exact bodyPost_ret (res_cell_tmp rfl _ _ (w.heap.size + 2) _ _ _ _ rfl hL9 rfl Tryz.underlying24 rfl (by kernel_rfl)) rfl ⟨⟨s,c3,HS.out.1,HK.out,HS.out.2,rfl⟩,hb.trans (hB9 _ (by omega))⟩
theorem minus_fv (w : World) (x y s k : Nat) (hx : x < (2^256)) (hy : y < (2^256)) (hs : s < (2^256)) (he : s + y = x + (2^256) * k) :
  Calls Tryz.prog 144 #[fv x,fv y] w fun e w' => e = .returned (.tuple #[fv s,.int .u64 (k : Int)]) ∧ Below w.heap.size w w':=by
 refine (minus_any w x y hx hy).mono ?_
 rintro e w' ⟨⟨s',k',hs',hk',he',rfl⟩,hb⟩
 obtain rfl : k' = k:=by omega
 obtain rfl : s' = s:=by omega
 exact ⟨rfl,hb⟩
theorem order_at (w : World) (p : Nat) (hp : p = 115792089237316195423570985008687907852837564279074904382605163141518161494337) : Calls Tryz.prog 145 #[] w fun e w' => e = .returned (fv p) ∧ Below w.heap.size w w':=by
 subst hp; exact order_any w
set_option maxHeartbeats 2000000 in
set_option maxRecDepth 100000 in
theorem reduce_at (w : World) (x k z : Nat) (dk : Int) (hdk : dk = (k : Int)) (hx : x < (2^256)) (hk : k ≤ 1) (h2 : x + (2^256) * k < 115792089237316195423570985008687907852837564279074904382605163141518161494337 + 115792089237316195423570985008687907852837564279074904382605163141518161494337) (hz : z = (x + (2^256) * k) % pM) : Calls Tryz.prog 146 #[fv x,.int .u64 dk] w fun e w' => e = .returned (fv z) ∧ Below w.heap.size w w':=by
 subst hdk
 obtain ⟨p,hp⟩ : ∃ p,p = 115792089237316195423570985008687907852837564279074904382605163141518161494337:=⟨_,rfl⟩
 rw [pM_eq, ← hp] at hz
 rw [← hp] at h2
 have hpl : p < (2^256):=by omega
 obtain ⟨s,b,hs,hb,he⟩ : ∃ s b : Nat,s < (2^256) ∧ b ≤ 1 ∧ s + p = x + (2^256) * b:=by
  by_cases h : p ≤ x
  ·exact ⟨x - p,0,by omega,by omega,by omega⟩
  ·exact ⟨x + (2^256) - p,1,by omega,by omega,by omega⟩
 have cm:=fun w => minus_fv w x p s b hx hpl hs he
 have co:=fun w => order_at w p hp
 have t1 : b > k → z = x:=fun h => by
  obtain rfl : k = 0:=by omega
  rw [hz,Nat.mod_eq_of_lt (by omega)]; omega
 have t2 : ¬ b > k → z = s:=fun h => by
  rw [hz,Nat.mod_eq_sub_mod (by omega),Nat.mod_eq_of_lt (by omega)]
  rcases (show k = 0 ∨ k = 1 by omega) with rfl | rfl <;> omega
 obtain ⟨x0,x1,x2,x3,fx⟩:=words_fv x hx
 have FX:=Lib.hid fx
 rw [fx]
 clear fx hx hz hp h2 hpl hs hb he hk
 go_enter Tryz.func146,Tryz.ntmps146
 go_wp2
 refine wp_region_G (fun j => j == 7) (by kernel_rfl) ?_
 try simp only [Act.put]
 refine tkw 0 rfl (YieldsG.loadF (by rfl) _ _ rfl (w.heap.size) rfl (x) _ _ ((Blk.new w _ _).alloc _) (FX.out) Tryz.underlying24 rfl (by kernel_rfl)) ?_
 try simp only [Act.put,aA,aZ,aS]
 refine tkw 1 rfl (YieldsG.call (v:=fv p) (by rfl) 145 _ (fun w9 => by go_simp; try (first | with_reducible rfl | rfl)) (fun w9 h9 => co w9)) ?_
 try simp only [Act.put,aA,aZ,aS]
 refine tkw 2 rfl (YieldsG.call (v:=.tuple #[fv s,.int .u64 (b : Int)]) (by rfl) 144 _ (fun w9 => by go_simp; try (first | with_reducible rfl | rfl)) (fun w9 h9 => cm w9)) ?_
 try simp only [Act.put,aA,aZ,aS]
 refine tk 3 rfl ?_
 try simp only [Act.put,aA,aZ,aS]
 refine tk 4 rfl ?_
 try simp only [Act.put,aA,aZ,aS]
 refine wpAnyG_takeA 5 rfl (by kernel_rfl) (fun _ _ _ h => h) (fun _ => YieldsG.pure (by rfl) (fun w9 _ => by go_simp; try with_reducible rfl)) ?_
 try simp only [Act.put,aA,aZ,aS]
 refine wpAnyG_sole 6 rfl (by kernel_rfl) (by rfl) (fun w3 h3 K hK => ?_)
 go_simp
 refine hK _ _ (fun _ => gr_alloc _ _) ?_
 clear hK K
 try simp only [Act.put,aA,aZ,aS]
 refine wpAnyG_store 7 rfl (by kernel_rfl) (by rfl) _ _ _ rfl (w3.heap.size) (fcs (s)) rfl rfl _ _ (Blk.new w3 _ _) (by kernel_rfl) (by rfl) (fcs_one _) rfl (fun w6 h6 w7 hB7 hL7 => ?_)
 try simp only [Act.put]
 refine wpAnyG_takeA 8 rfl (by kernel_rfl) (fun _ _ _ h => h) (fun _ => YieldsG.pure (by rfl) (fun w9 _ => by go_simp; try with_reducible rfl)) ?_
 try simp only [Act.put,aA,aZ,aS]
 refine wpAnyG_done (by kernel_rfl) (fun w8 h8 => ?_)
 have BS:=Gr.blk h8 hL7
 have hsz : w.heap.size + 2 ≤ w3.heap.size:=by have:=h3.size; simp at this; omega
 have BX : Blk w8 w.heap.size 24 _:=Gr.blk h8 (Blk.below (B:=w3.heap.size) (Gr.blk h6 (Blk.alloc (Gr.blk h3 ((Blk.new w _ _).alloc _)) _)) (hB7 _ (Nat.le_refl _)) (by omega))
 have BR : Blk w8 (w.heap.size + 1) 24 _:=Gr.blk h8 (Blk.below (B:=w3.heap.size) (Gr.blk h6 (Blk.alloc (Gr.blk h3 (blk_new2 w _ _ _)) _)) (hB7 _ (Nat.le_refl _)) (by omega))
 have hB : Below w.heap.size w w8:=Below.gr ((Below.gr ((Below.gr (below_alloc2 w _ _) h3).alloc (by omega) _) h6).trans (hB7 _ (by omega))) h8
 clear h3 h6 hB7 hL7 h8 cm co
 by_cases hbk : b > k
 ·have HZ:=Lib.hid (t1 hbk)
  have p0 : (b : Int) > (k : Int):=by omega
  clear t1 t2 hbk
  go_wp2_with (first | ((with_reducible refine here_load (d:=some 16) ?_); refine wpList_load_fv rfl _ _ rfl (w.heap.size) rfl (x) _ _ _ (BX) (FX.out) Tryz.underlying24 rfl (by kernel_rfl) ?_) | ((with_reducible refine here_store ?_); refine wpList_store_blk rfl _ _ _ rfl (w.heap.size + 1) (fcs (x)) rfl rfl _ _ (BR) (by kernel_rfl) (by rfl) (fcs_one _) ?_; intro w9 hL9 hB9 hK9))
  exact bodyPost_ret (results_cell_row rfl _ _ (w.heap.size + 1) _ _ (0,0) _ rfl hL9 Tryz.underlying24 rfl (by kernel_rfl)) rfl ⟨by rw [HZ.out]; rfl,hB.trans (hB9 _ (by omega))⟩
 ·have HZ:=Lib.hid (t2 hbk)
  have p0 : ¬ (b : Int) > (k : Int):=by omega
  clear t1 t2 hbk
  go_wp2_with (first | ((with_reducible refine here_load (d:=some 17) ?_); refine wpList_load_fv rfl _ _ rfl (w3.heap.size) rfl (s) _ _ _ (BS) (fv_fcs s) Tryz.underlying24 rfl (by kernel_rfl) ?_) | ((with_reducible refine here_store ?_); refine wpList_store_blk rfl _ _ _ rfl (w.heap.size + 1) (fcs (s)) rfl rfl _ _ (BR) (by kernel_rfl) (by rfl) (fcs_one _) ?_; intro w9 hL9 hB9 hK9))
  exact bodyPost_ret (results_cell_row rfl _ _ (w.heap.size + 1) _ _ (0,0) _ rfl hL9 Tryz.underlying24 rfl (by kernel_rfl)) rfl ⟨by rw [HZ.out]; rfl,hB.trans (hB9 _ (by omega))⟩
set_option maxHeartbeats 1000000 in
theorem norm_any (w : World) (x : Nat) (hx : x < (2^256)) : Calls Tryz.prog 128 #[fv x] w fun e w' => e = .returned (fv (x % pM)) ∧ Below w.heap.size w w':=by
 obtain ⟨z,hz⟩ : ∃ z,z = x % pM:=⟨_,rfl⟩
 have cr:=fun w => reduce_at w x 0 z 0 rfl hx (by omega) (by omega) (by rw [hz]; rfl)
 obtain ⟨x0,x1,x2,x3,fx⟩:=words_fv x hx
 have FX:=Lib.hid fx
 rw [fx] at cr ⊢
 rw [← hz]
 clear fx hx hz
 go_enter Tryz.func128,Tryz.ntmps128
 go_wp2_with fail
 refine (cr _).mono ?_
 rintro e w1 ⟨rfl,hb1⟩
 have hg:=Below.gr (below_alloc2 w _ _) hb1
 have hR : Blk w1 (w.heap.size + 1) 24 _:=Gr.blk hb1 (blk_new2 w _ _ _)
 go_wp2_with (first | ((with_reducible refine here_store ?_); refine wpList_store_blk rfl _ _ _ rfl (w.heap.size + 1) (fcs (z)) rfl rfl _ _ (hR) (by kernel_rfl) (by rfl) (fcs_one _) ?_; intro w4 hL hB4 hK4))
 exact bodyPost_ret (results_cell_row rfl _ _ (w.heap.size + 1) _ _ (0,0) _ rfl hL Tryz.underlying24 rfl (by kernel_rfl)) rfl ⟨rfl,hg.trans (hB4 _ (by omega))⟩
set_option maxHeartbeats 8000000 in
set_option maxRecDepth 100000 in
theorem bytes_any (w : World) (x : Nat) (hx : x < (2^256)) : Calls Tryz.prog 91 #[fv x] w fun e w' => e = .returned (.agg ((bytesS (x % pM)).map bv).toArray) ∧ Below w.heap.size w w':=by
 obtain ⟨z,hz⟩ : ∃ z,z = x % pM:=⟨_,rfl⟩
 have hzl : z < (2^256):=by rw [hz]; exact mod_lt x
 have cn : ∀ w,Calls Tryz.prog 128 #[fv x] w fun e w' => e = .returned (fv z) ∧ Below w.heap.size w w':=by
  intro w; rw [hz]; exact norm_any w x hx
 rw [← hz]
 obtain ⟨z0,z1,z2,z3,a0,a1,a2,a3,ez,fz⟩:=words_of z hzl
 have HZ:=Lib.hid (And.intro a0 (And.intro a1 (And.intro a2 (And.intro a3 ez))))
 have FZ:=Lib.hid fz
 obtain ⟨x0,x1,x2,x3,fx⟩:=words_fv x hx
 rw [fx] at cn ⊢
 clear fx fz hz hzl a0 a1 a2 a3 ez hx
 have hZB : Hid ((List.replicate 32 (Value.int .u8 0)).toArray = ((partB z 0).map bv).toArray):=Lib.hid (by simp [partB,lowB,bv])
 go_enter Tryz.func91,Tryz.ntmps91
 go_wp2_with fail
 refine (cn _).mono ?_
 rintro e w1 ⟨rfl,hb⟩
 have BR : Blk w1 (w.heap.size + 1) 30 _:=Gr.blk hb (Blk.alloc (blk_new2 w _ _ _) _)
 have BB : Blk w1 (w.heap.size + 2) 30 ((partB z 0).map bv).toArray:=Blk.eq_ (Gr.blk hb (blk_new3 w _ _ _ _)) hZB.out
 have hB:=Below.gr (below_alloc3 w _ _ _) hb
 have sz:=BB.lt
 clear hb cn
 go_wp2_with (first | ((with_reducible refine here_store ?_); refine wpList_store_blk rfl _ _ _ rfl (w1.heap.size) (fcs (z)) rfl rfl _ _ (Blk.new w1 _ _) (by kernel_rfl) (by rfl) (fcs_one _) ?_; intro w2 hL2 hB2 hK2; have CR:=hK2 _ (by omega) _ _ (BR.alloc _); have CB:=hK2 _ (by omega) _ _ (BB.alloc _); have hC:=(hB.alloc (by omega) _).trans (hB2 _ (by omega))))
 go_loopw [8] (fun i wr => ∃ k : Nat,k ≤ 32 ∧ i = .int .i64 (k : Int) ∧ Below w.heap.size w wr ∧ Blk wr (w.heap.size + 2) 30 ((partB z k).map bv).toArray ∧ Blk wr w1.heap.size 24 #[.int .u64 (z0 : Int),.int .u64 (z1 : Int),.int .u64 (z2 : Int),.int .u64 (z3 : Int)] ∧ Blk wr (w.heap.size + 1) 30 (List.replicate 32 (Value.int .u8 0)).toArray) (fun i _ => 32 - (intOf i).toNat)
 case atStart => exact ⟨0,by omega,rfl,hC,CB,hL2.eq_ (fcs_words FZ.out),CR⟩
 case round =>
  obtain ⟨k,hk,rfl,hb,hP,hN,hR⟩:=hrel
  by_cases hlt : k < 32
  ·have ce : ∀ j,j < 32 → ∃ v,wr.cell? ⟨w.heap.size + 1 + 1,j,none⟩ = some v:=fun j hj => ⟨_,(hP.cell j).trans (Array.getElem?_eq_getElem (by simp [partB_length z k hk]; exact hj))⟩
   obtain ⟨v,hv⟩:=ce (31 - k) (by omega)
   have ff:=hP.frozen (31 - k)
   have q0 : wr.cell? ⟨w1.heap.size,0,none⟩ = some (.int .u64 (z0 : Int)):=hN.cell 0
   have q1 : wr.cell? ⟨w1.heap.size,1,none⟩ = some (.int .u64 (z1 : Int)):=hN.cell 1
   have q2 : wr.cell? ⟨w1.heap.size,2,none⟩ = some (.int .u64 (z2 : Int)):=hN.cell 2
   have q3 : wr.cell? ⟨w1.heap.size,3,none⟩ = some (.int .u64 (z3 : Int)):=hN.cell 3
   have hPn:=hP.set_ (31 - k) (bv (byteN z k))
   rw [partB_set z k hlt] at hPn
   have HP:=Lib.hid hPn
   clear hPn ce
   have HR:=Lib.hid (And.intro hb (And.intro hN hR))
   clear hb hP hN hR hk
   have hsz : w.heap.size + 2 < w1.heap.size:=sz
   rcases (show k = 0 ∨ k = 1 ∨ k = 2 ∨ k = 3 ∨ k = 4 ∨ k = 5 ∨ k = 6 ∨ k = 7 ∨ k = 8 ∨ k = 9 ∨ k = 10 ∨ k = 11 ∨ k = 12 ∨ k = 13 ∨ k = 14 ∨ k = 15 ∨ k = 16 ∨ k = 17 ∨ k = 18 ∨ k = 19 ∨ k = 20 ∨ k = 21 ∨ k = 22 ∨ k = 23 ∨ k = 24 ∨ k = 25 ∨ k = 26 ∨ k = 27 ∨ k = 28 ∨ k = 29 ∨ k = 30 ∨ k = 31 by omega) with rfl | rfl | rfl | rfl | rfl | rfl | rfl | rfl | rfl | rfl | rfl | rfl | rfl | rfl | rfl | rfl | rfl | rfl | rfl | rfl | rfl | rfl | rfl | rfl | rfl | rfl | rfl | rfl | rfl | rfl | rfl | rfl
   all_goals
    go_wp2
    obtain ⟨a0,a1,a2,a3,ez⟩:=HZ.out
    refine ⟨⟨_,by decide,rfl,HR.out.1.setCell (by show w.heap.size ≤ w.heap.size + 1 + 1; omega) _,HP.out.val (by rw [bv_byteN]; congr 1; omega),HR.out.2.1.far (by show w1.heap.size ≠ w.heap.size + 1 + 1; omega) _,HR.out.2.2.far (by show w.heap.size + 1 ≠ w.heap.size + 1 + 1; omega) _⟩,by simp [intOf]⟩
  ·have p1 : ¬ (k : Int) < 32:=by omega
   obtain rfl : k = 32:=by omega
   rw [partB_full] at hP
   have HI:=Lib.hid (bytesS_length z)
   have HL:=Lib.hid hP
   have HR:=Lib.hid hR
   clear hN hP hR
   go_wp2_with (first | ((with_reducible refine here_load (d:=some 24) ?_); refine wpList_load_blk rfl _ _ rfl (w.heap.size + 2) rfl _ _ _ HL.out Tryz.underlying30 rfl (b32_info HI.out) ?_) | ((with_reducible refine here_store ?_); refine wpList_store_blk rfl _ _ _ rfl (w.heap.size + 1) ((bytesS z).map bv).toArray rfl rfl _ _ HR.out (b32_info HI.out) (by simp [HI.out]) (b32_one _) ?_; intro w9 hL9 hB9 hK9))
   exact bodyPost_ret (results_cell_row rfl _ _ (w.heap.size + 1) _ _ (0,0) _ rfl hL9 Tryz.underlying30 rfl (b32_info HI.out)) rfl ⟨rfl,hb.trans (hB9 _ (by omega))⟩
end Sc
end
section
section
open Go.RowKit Go.Lib
set_option maxHeartbeats 8000000 in
set_option maxRecDepth 100000 in
theorem bytes_any (w : World) (x : Nat) (hx : x < (2^256)) : Calls Tryz.prog 142 #[fv x] w fun e w' => e = .returned (.agg ((bytesS (x % pM)).map bv).toArray) ∧ Below w.heap.size w w':=by
 obtain ⟨z,hz⟩ : ∃ z,z = x % pM:=⟨_,rfl⟩
 have hzl : z < (2^256):=by rw [hz]; exact mod_lt x
 have cn : ∀ w,Calls Tryz.prog 176 #[fv x] w fun e w' => e = .returned (fv z) ∧ Below w.heap.size w w':=by
  intro w; rw [hz]; exact norm_any w x hx
 rw [← hz]
 obtain ⟨z0,z1,z2,z3,a0,a1,a2,a3,ez,fz⟩:=words_of z hzl
 have HZ:=Lib.hid (And.intro a0 (And.intro a1 (And.intro a2 (And.intro a3 ez))))
 have FZ:=Lib.hid fz
 obtain ⟨x0,x1,x2,x3,fx⟩:=words_fv x hx
 rw [fx] at cn ⊢
 clear fx fz hz hzl a0 a1 a2 a3 ez hx
 have hZB : Hid ((List.replicate 32 (Value.int .u8 0)).toArray = ((partB z 0).map bv).toArray):=Lib.hid (by simp [partB,lowB,bv])
 go_enter Tryz.func142,Tryz.ntmps142
 go_wp2_with fail
 refine (cn _).mono ?_
 rintro e w1 ⟨rfl,hb⟩
 have BR : Blk w1 (w.heap.size + 1) 30 _:=Gr.blk hb (Blk.alloc (blk_new2 w _ _ _) _)
 have BB : Blk w1 (w.heap.size + 2) 30 ((partB z 0).map bv).toArray:=Blk.eq_ (Gr.blk hb (blk_new3 w _ _ _ _)) hZB.out
 have hB:=Below.gr (below_alloc3 w _ _ _) hb
 have sz:=BB.lt
 clear hb cn
 go_wp2_with (first | ((with_reducible refine here_store ?_); refine wpList_store_blk rfl _ _ _ rfl (w1.heap.size) (fcs (z)) rfl rfl _ _ (Blk.new w1 _ _) (by kernel_rfl) (by rfl) (fcs_one _) ?_; intro w2 hL2 hB2 hK2; have CR:=hK2 _ (by omega) _ _ (BR.alloc _); have CB:=hK2 _ (by omega) _ _ (BB.alloc _); have hC:=(hB.alloc (by omega) _).trans (hB2 _ (by omega))))
 go_loopw [8] (fun i wr => ∃ k : Nat,k ≤ 32 ∧ i = .int .i64 (k : Int) ∧ Below w.heap.size w wr ∧ Blk wr (w.heap.size + 2) 30 ((partB z k).map bv).toArray ∧ Blk wr w1.heap.size 69 #[.int .u64 (z0 : Int),.int .u64 (z1 : Int),.int .u64 (z2 : Int),.int .u64 (z3 : Int)] ∧ Blk wr (w.heap.size + 1) 30 (List.replicate 32 (Value.int .u8 0)).toArray) (fun i _ => 32 - (intOf i).toNat)
 case atStart => exact ⟨0,by omega,rfl,hC,CB,hL2.eq_ (fcs_words FZ.out),CR⟩
 case round =>
  obtain ⟨k,hk,rfl,hb,hP,hN,hR⟩:=hrel
  by_cases hlt : k < 32
  ·have ce : ∀ j,j < 32 → ∃ v,wr.cell? ⟨w.heap.size + 1 + 1,j,none⟩ = some v:=fun j hj => ⟨_,(hP.cell j).trans (Array.getElem?_eq_getElem (by simp [partB_length z k hk]; exact hj))⟩
   obtain ⟨v,hv⟩:=ce (31 - k) (by omega)
   have ff:=hP.frozen (31 - k)
   have q0 : wr.cell? ⟨w1.heap.size,0,none⟩ = some (.int .u64 (z0 : Int)):=hN.cell 0
   have q1 : wr.cell? ⟨w1.heap.size,1,none⟩ = some (.int .u64 (z1 : Int)):=hN.cell 1
   have q2 : wr.cell? ⟨w1.heap.size,2,none⟩ = some (.int .u64 (z2 : Int)):=hN.cell 2
   have q3 : wr.cell? ⟨w1.heap.size,3,none⟩ = some (.int .u64 (z3 : Int)):=hN.cell 3
   have hPn:=hP.set_ (31 - k) (bv (byteN z k))
   rw [partB_set z k hlt] at hPn
   have HP:=Lib.hid hPn
   clear hPn ce
   have HR:=Lib.hid (And.intro hb (And.intro hN hR))
   clear hb hP hN hR hk
   have hsz : w.heap.size + 2 < w1.heap.size:=sz
   rcases (show k = 0 ∨ k = 1 ∨ k = 2 ∨ k = 3 ∨ k = 4 ∨ k = 5 ∨ k = 6 ∨ k = 7 ∨ k = 8 ∨ k = 9 ∨ k = 10 ∨ k = 11 ∨ k = 12 ∨ k = 13 ∨ k = 14 ∨ k = 15 ∨ k = 16 ∨ k = 17 ∨ k = 18 ∨ k = 19 ∨ k = 20 ∨ k = 21 ∨ k = 22 ∨ k = 23 ∨ k = 24 ∨ k = 25 ∨ k = 26 ∨ k = 27 ∨ k = 28 ∨ k = 29 ∨ k = 30 ∨ k = 31 by omega) with rfl | rfl | rfl | rfl | rfl | rfl | rfl | rfl | rfl | rfl | rfl | rfl | rfl | rfl | rfl | rfl | rfl | rfl | rfl | rfl | rfl | rfl | rfl | rfl | rfl | rfl | rfl | rfl | rfl | rfl | rfl | rfl
   all_goals
    go_wp2
    obtain ⟨a0,a1,a2,a3,ez⟩:=HZ.out
    refine ⟨⟨_,by decide,rfl,HR.out.1.setCell (by show w.heap.size ≤ w.heap.size + 1 + 1; omega) _,HP.out.val (by rw [bv_byteN]; congr 1; omega),HR.out.2.1.far (by show w1.heap.size ≠ w.heap.size + 1 + 1; omega) _,HR.out.2.2.far (by show w.heap.size + 1 ≠ w.heap.size + 1 + 1; omega) _⟩,by simp [intOf]⟩
  ·have p1 : ¬ (k : Int) < 32:=by omega
   obtain rfl : k = 32:=by omega
   rw [partB_full] at hP
   have HI:=Lib.hid (bytesS_length z)
   have HL:=Lib.hid hP
   have HR:=Lib.hid hR
   clear hN hP hR
   go_wp2_with (first | ((with_reducible refine here_load (d:=some 24) ?_); refine wpList_load_blk rfl _ _ rfl (w.heap.size + 2) rfl _ _ _ HL.out Tryz.underlying30 rfl (b32_info HI.out) ?_) | ((with_reducible refine here_store ?_); refine wpList_store_blk rfl _ _ _ rfl (w.heap.size + 1) ((bytesS z).map bv).toArray rfl rfl _ _ HR.out (b32_info HI.out) (by simp [HI.out]) (b32_one _) ?_; intro w9 hL9 hB9 hK9))
   exact bodyPost_ret (results_cell_row rfl _ _ (w.heap.size + 1) _ _ (0,0) _ rfl hL9 Tryz.underlying30 rfl (b32_info HI.out)) rfl ⟨rfl,hb.trans (hB9 _ (by omega))⟩
end
end
section
section
open Go.RowKit Go.Lib
def readS (l : List UInt8) : Nat × Bool:=if valB l < pM then (valB l,true) else (0,false)
set_option maxHeartbeats 8000000 in
set_option maxRecDepth 100000 in
theorem read_any (w : World) (l : List UInt8) (hl : l.length = 32) : Calls Tryz.prog 161 #[.agg (l.map bv).toArray] w fun e w' => e = .returned (.tuple #[fv (readS l).1,.bool (readS l).2]) ∧ Below w.heap.size w w':=by
 have HL:=Lib.hid hl
 clear hl
 go_enter Tryz.func161,Tryz.ntmps161
 go_wp2_with (first | ((with_reducible refine here_load (d:=some 7) ?_); refine wpList_load_blk rfl _ _ rfl w.heap.size rfl _ _ _ (((Blk.new w _ _).alloc _).alloc _) Tryz.underlying30 rfl (b32_info HL.out) ?_))
 go_loopw [8] (fun i wr => ∃ k y0 y1 y2 y3 : Nat,k ≤ 32 ∧ i = .int .i64 (k : Int) ∧ Hid (y0 = wdB l k 0 ∧ y1 = wdB l k 1 ∧ y2 = wdB l k 2 ∧ y3 = wdB l k 3) ∧ Below w.heap.size w wr ∧ Blk wr (w.heap.size + 2) 69 #[.int .u64 (y3 : Int),.int .u64 (y2 : Int),.int .u64 (y1 : Int),.int .u64 (y0 : Int)] ∧ Blk wr (w.heap.size + 1) 69 #[.int .u64 0,.int .u64 0,.int .u64 0,.int .u64 0]) (fun i _ => 32 - (intOf i).toNat)
 case atStart => exact ⟨0,0,0,0,0,by omega,rfl,Lib.hid ⟨(wdB_zero l 0).symm,(wdB_zero l 1).symm,(wdB_zero l 2).symm,(wdB_zero l 3).symm⟩,below_alloc3 w _ _ _,blk_new3 w _ _ _ _,(blk_new2 w _ _ _).alloc _⟩
 case round =>
  obtain ⟨k,y0,y1,y2,y3,hk,rfl,HY,hb,hP,hR⟩:=hrel
  have q3 : wr.cell? ⟨w.heap.size + 1 + 1,0,none⟩ = some (.int .u64 (y3 : Int)):=hP.cell 0
  have q2 : wr.cell? ⟨w.heap.size + 1 + 1,1,none⟩ = some (.int .u64 (y2 : Int)):=hP.cell 1
  have q1 : wr.cell? ⟨w.heap.size + 1 + 1,2,none⟩ = some (.int .u64 (y1 : Int)):=hP.cell 2
  have q0 : wr.cell? ⟨w.heap.size + 1 + 1,3,none⟩ = some (.int .u64 (y0 : Int)):=hP.cell 3
  have ff : ∀ j,wr.frozen? ⟨w.heap.size + 1 + 1,j,none⟩ = false:=fun j => hP.frozen j
  by_cases hlt : k < 32
  ·obtain ⟨c,hc⟩ : ∃ c,l[k]? = some c:=⟨l[k]'(by rw [HL.out]; exact hlt),List.getElem?_eq_getElem _⟩
   have HC:=Lib.hid hc
   obtain ⟨m,hm⟩ : ∃ m,m = c.toNat:=⟨_,rfl⟩
   have hm8 : m < 256:=by rw [hm]; exact c.toNat_lt
   have hI : ∀ W,(Instr.index 30 (.agg (l.map bv).toArray) (.int .i64 (k : Int))).run Tryz.prog W = .ok (.int .u8 (m : Int)) W:=fun W => by
    rw [run_index_b32 W l k c hc hlt,hm]; rfl
   have HM:=Lib.hid hm
   have HR:=Lib.hid (And.intro hb (And.intro hP hR))
   clear hb hP hR hc hk hm
   rcases (show k = 0 ∨ k = 1 ∨ k = 2 ∨ k = 3 ∨ k = 4 ∨ k = 5 ∨ k = 6 ∨ k = 7 ∨ k = 8 ∨ k = 9 ∨ k = 10 ∨ k = 11 ∨ k = 12 ∨ k = 13 ∨ k = 14 ∨ k = 15 ∨ k = 16 ∨ k = 17 ∨ k = 18 ∨ k = 19 ∨ k = 20 ∨ k = 21 ∨ k = 22 ∨ k = 23 ∨ k = 24 ∨ k = 25 ∨ k = 26 ∨ k = 27 ∨ k = 28 ∨ k = 29 ∨ k = 30 ∨ k = 31 by omega) with rfl | rfl | rfl | rfl | rfl | rfl | rfl | rfl | rfl | rfl | rfl | rfl | rfl | rfl | rfl | rfl | rfl | rfl | rfl | rfl | rfl | rfl | rfl | rfl | rfl | rfl | rfl | rfl | rfl | rfl | rfl | rfl
   all_goals
    simp only [Int.cast_ofNat_Int] at hI
   all_goals
    first
    | ((have hy : y0 < 72057594037927936:=by rw [HY.out.1]; exact wdB_lt l _ 0 (by decide)); (have ho:=or_add y0 m hy hm8); go_wp2; (refine ⟨⟨_,y0 * 256 + m,y1,y2,y3,by decide,rfl,Lib.hid ⟨by rw [HY.out.1,HM.out]; exact (wdB_step l _ 0 c HC.out (by decide)).symm,by rw [HY.out.2.1]; exact (wdB_same l _ 1 (by decide)).symm,by rw [HY.out.2.2.1]; exact (wdB_same l _ 2 (by decide)).symm,by rw [HY.out.2.2.2]; exact (wdB_same l _ 3 (by decide)).symm⟩,HR.out.1.setCell (by show w.heap.size ≤ w.heap.size + 1 + 1; omega) _,Blk.eq_ (HR.out.2.1.set_ 3 _) (by rw [show ((y0 * 256 + m : Nat) : Int) = (y0 : Int) * 256 + (m : Int) by omega]; rfl),HR.out.2.2.far (by show w.heap.size + 1 ≠ w.heap.size + 1 + 1; omega) _⟩,by simp [intOf]⟩))
    | ((have hy : y1 < 72057594037927936:=by rw [HY.out.2.1]; exact wdB_lt l _ 1 (by decide)); (have ho:=or_add y1 m hy hm8); go_wp2; (refine ⟨⟨_,y0,y1 * 256 + m,y2,y3,by decide,rfl,Lib.hid ⟨by rw [HY.out.1]; exact (wdB_same l _ 0 (by decide)).symm,by rw [HY.out.2.1,HM.out]; exact (wdB_step l _ 1 c HC.out (by decide)).symm,by rw [HY.out.2.2.1]; exact (wdB_same l _ 2 (by decide)).symm,by rw [HY.out.2.2.2]; exact (wdB_same l _ 3 (by decide)).symm⟩,HR.out.1.setCell (by show w.heap.size ≤ w.heap.size + 1 + 1; omega) _,Blk.eq_ (HR.out.2.1.set_ 2 _) (by rw [show ((y1 * 256 + m : Nat) : Int) = (y1 : Int) * 256 + (m : Int) by omega]; rfl),HR.out.2.2.far (by show w.heap.size + 1 ≠ w.heap.size + 1 + 1; omega) _⟩,by simp [intOf]⟩))
    | ((have hy : y2 < 72057594037927936:=by rw [HY.out.2.2.1]; exact wdB_lt l _ 2 (by decide)); (have ho:=or_add y2 m hy hm8); go_wp2; (refine ⟨⟨_,y0,y1,y2 * 256 + m,y3,by decide,rfl,Lib.hid ⟨by rw [HY.out.1]; exact (wdB_same l _ 0 (by decide)).symm,by rw [HY.out.2.1]; exact (wdB_same l _ 1 (by decide)).symm,by rw [HY.out.2.2.1,HM.out]; exact (wdB_step l _ 2 c HC.out (by decide)).symm,by rw [HY.out.2.2.2]; exact (wdB_same l _ 3 (by decide)).symm⟩,HR.out.1.setCell (by show w.heap.size ≤ w.heap.size + 1 + 1; omega) _,Blk.eq_ (HR.out.2.1.set_ 1 _) (by rw [show ((y2 * 256 + m : Nat) : Int) = (y2 : Int) * 256 + (m : Int) by omega]; rfl),HR.out.2.2.far (by show w.heap.size + 1 ≠ w.heap.size + 1 + 1; omega) _⟩,by simp [intOf]⟩))
    | ((have hy : y3 < 72057594037927936:=by rw [HY.out.2.2.2]; exact wdB_lt l _ 3 (by decide)); (have ho:=or_add y3 m hy hm8); go_wp2; (refine ⟨⟨_,y0,y1,y2,y3 * 256 + m,by decide,rfl,Lib.hid ⟨by rw [HY.out.1]; exact (wdB_same l _ 0 (by decide)).symm,by rw [HY.out.2.1]; exact (wdB_same l _ 1 (by decide)).symm,by rw [HY.out.2.2.1]; exact (wdB_same l _ 2 (by decide)).symm,by rw [HY.out.2.2.2,HM.out]; exact (wdB_step l _ 3 c HC.out (by decide)).symm⟩,HR.out.1.setCell (by show w.heap.size ≤ w.heap.size + 1 + 1; omega) _,Blk.eq_ (HR.out.2.1.set_ 0 _) (by rw [show ((y3 * 256 + m : Nat) : Int) = (y3 : Int) * 256 + (m : Int) by omega]; rfl),HR.out.2.2.far (by show w.heap.size + 1 ≠ w.heap.size + 1 + 1; omega) _⟩,by simp [intOf]⟩))
  ·have p1 : ¬ (k : Int) < 32:=by omega
   obtain rfl : k = 32:=by omega
   have b0 : y0 < 18446744073709551616:=by rw [HY.out.1]; exact wdB_lt8 l _ _
   have b1 : y1 < 18446744073709551616:=by rw [HY.out.2.1]; exact wdB_lt8 l _ _
   have b2 : y2 < 18446744073709551616:=by rw [HY.out.2.2.1]; exact wdB_lt8 l _ _
   have b3 : y3 < 18446744073709551616:=by rw [HY.out.2.2.2]; exact wdB_lt8 l _ _
   obtain ⟨z,hz⟩ : ∃ z,z = y3 + 18446744073709551616 * y2 + 340282366920938463463374607431768211456 * y1 + 6277101735386680763835789423207666416102355444464034512896 * y0:=⟨_,rfl⟩
   have fz:=fv_mk y3 y2 y1 y0 b3 b2 b1 b0
   rw [← hz] at fz
   have hzl : z < (2^256):=by rw [hz]; exact fv_lt y3 y2 y1 y0 b3 b2 b1 b0
   have hzv : z = valB l:=by rw [wdB_all l HL.out,hz,HY.out.1,HY.out.2.1,HY.out.2.2.1,HY.out.2.2.2]
   obtain ⟨n,hn⟩ : ∃ n,n = z % pM:=⟨_,rfl⟩
   have hnl : n < (2^256):=by rw [hn]; exact mod_lt z
   obtain ⟨b,hbd⟩ : ∃ b,b = decide (n ≠ z):=⟨_,rfl⟩
   have eb : ∀ W,(binOp .neq 69 (fv n) (fv z)).run Tryz.prog W = .ok (.bool b) W:=fun W => by rw [hbd]; exact run_neq_fv W n z hnl hzl
   have cn : ∀ w,Calls Tryz.prog 176 #[fv z] w fun e w' => e = .returned (fv n) ∧ Below w.heap.size w w':=by
    intro w; rw [hn]; exact norm_any w z hzl
   have hS : readS l = if b = true then (0,false) else (z,true):=by
    unfold readS
    rw [← hzv,hbd,hn]
    by_cases h : z < pM
    ·rw [if_pos h,Nat.mod_eq_of_lt h]; simp
    ·have h2 : z % pM ≠ z:=fun e => h (by rw [← e]; exact mod_lt_p z)
     rw [if_neg h]; simp [h2]
   have HS:=Lib.hid hS
   have FZ:=Lib.hid fz.symm
   have HP:=Lib.hid hP
   clear HY b0 b1 b2 b3 hz fz hzl hzv hn hnl hbd hS q0 q1 q2 q3 ff hP
   go_wp2
   refine wp_region_G (fun _ => false) (by kernel_rfl) ?_
   try simp only [Act.put]
   refine tkw 0 rfl (YieldsG.loadF (by rfl) _ _ rfl (w.heap.size + 2) rfl (z) _ _ (HP.out) (FZ.out) Tryz.underlying69 rfl (by kernel_rfl)) ?_
   try simp only [Act.put,aA,aZ,aS]
   refine tkw 1 rfl (YieldsG.call (v:=fv n) (by rfl) 176 _ (fun w9 => by go_simp; try (first | with_reducible rfl | rfl)) (fun w9 h9 => cn w9)) ?_
   try simp only [Act.put,aA,aZ,aS]
   refine tkw 2 rfl (YieldsG.loadF (by rfl) _ _ rfl (w.heap.size + 2) rfl (z) _ _ (HP.out) (FZ.out) Tryz.underlying69 rfl (by kernel_rfl)) ?_
   try simp only [Act.put,aA,aZ,aS]
   refine tkw 3 rfl (YieldsG.pure (v:=.bool b) (by rfl) (fun w9 h9 => by go_simp; rw [run_eqGuard_fv]; simp only [Result.andThen_ok,eb])) ?_
   try simp only [Act.put,aA,aZ,aS]
   refine wpAnyG_done (by kernel_rfl) (fun u hu => ?_)
   have hbu:=Below.gr hb hu
   have BR:=Gr.blk hu hR
   have BP:=Gr.blk hu HP.out
   clear hu hb hR HP eb cn
   cases b
   ·have HT : Hid (readS l = (z,true)):=Lib.hid (by rw [HS.out]; rfl)
    clear HS
    go_wp2_with (first | ((with_reducible refine here_load (d:=some 31) ?_); refine wpList_load_fv rfl _ _ rfl (w.heap.size + 2) rfl (z) _ _ _ (BP) (FZ.out) Tryz.underlying69 rfl (by kernel_rfl) ?_) | ((with_reducible refine here_store ?_); refine wpList_store_blk rfl _ _ _ rfl (w.heap.size + 1) (fcs (z)) rfl rfl _ _ (BR) (by kernel_rfl) (by rfl) (fcs_one _) ?_; intro vz hLz hqz hKz))
    exact bodyPost_ret (res_cell_tmp rfl _ _ (w.heap.size + 1) _ _ _ _ rfl hLz rfl Tryz.underlying69 rfl (by kernel_rfl)) rfl ⟨by rw [HT.out]; rfl,hbu.trans (hqz _ (by omega))⟩
   ·have HT : Hid (readS l = (0,false)):=Lib.hid (by rw [HS.out]; rfl)
    clear HS
    go_wp2_with (first | ((with_reducible refine here_store ?_); refine wpList_store_blk rfl _ _ _ rfl (w.heap.size + 1) _ rfl rfl _ _ (BR) (by kernel_rfl) (by rfl) (by simp [Value.oneCell']) ?_; intro vz hLz hqz hKz))
    exact bodyPost_ret (res_cell_tmp rfl _ _ (w.heap.size + 1) _ _ _ _ rfl hLz rfl Tryz.underlying69 rfl (by kernel_rfl)) rfl ⟨by rw [HT.out]; rfl,hbu.trans (hqz _ (by omega))⟩
end
end
section
section
open Go.RowKit Go.Lib
set_option maxHeartbeats 8000000 in
set_option maxRecDepth 100000 in
theorem addR_at {v1 v2 : Value} (w : World) (x y s k : Nat) (h1 : fv x = v1) (h2 : fv y = v2) (hx : x < (2^256)) (hy : y < (2^256)) (hs : s < (2^256)) (he : s + (2^256) * k = x + y) : Calls Tryz.prog 165 #[v1,v2] w fun e w' => e = .returned (fv s) ∧ Below w.heap.size w w':=by
 subst h1 h2
 obtain ⟨x0,x1,x2,x3,a0,a1,a2,a3,ex,fx⟩:=words_of x hx
 obtain ⟨y0,y1,y2,y3,b0,b1,b2,b3,ey,fy⟩:=words_of y hy
 obtain ⟨s0,c0,d0,k0,e0,r0⟩:=add0_ex x0 y0 a0 b0
 obtain ⟨s1,c1,d1,k1,e1,r1⟩:=addc_ex x1 y1 c0 a1 b1 k0
 obtain ⟨s2,c2,d2,k2,e2,r2⟩:=addc_ex x2 y2 c1 a2 b2 k1
 obtain ⟨s3,c3,d3,k3,e3,r3⟩:=addc_ex x3 y3 c2 a3 b3 k2
 have fin : s0 + 18446744073709551616 * s1 + 340282366920938463463374607431768211456 * s2 + 6277101735386680763835789423207666416102355444464034512896 * s3 = s:=by omega
 have hfs:=fv_mk s0 s1 s2 s3 d0 d1 d2 d3
 rw [fin] at hfs
 have Fd:=Lib.hid hfs
 rw [fx,fy]
 clear fx fy ex ey hx hy hs he a0 a1 a2 a3 b0 b1 b2 b3 d0 d1 d2 d3 k0 k1 k2 k3 e0 e1 e2 e3 fin hfs
 go_enter Tryz.func165,Tryz.ntmps165
 go_wp2_with fail
 go_loopw [5,6] (fun bo i wr => Below w.heap.size w wr ∧ Blk wr (w.heap.size + 1) 97 #[.int .u64 (y0 : Int),.int .u64 (y1 : Int),.int .u64 (y2 : Int),.int .u64 (y3 : Int)] ∧ Blk wr (w.heap.size + 2) 97 #[.int .u64 0,.int .u64 0,.int .u64 0,.int .u64 0] ∧ Hid ((i = .int .i64 0 ∧ bo = .int .u64 0 ∧ Blk wr w.heap.size 97 #[.int .u64 (x0 : Int),.int .u64 (x1 : Int),.int .u64 (x2 : Int),.int .u64 (x3 : Int)]) ∨ (i = .int .i64 1 ∧ bo = .int .u64 (c0 : Int) ∧ Blk wr w.heap.size 97 #[.int .u64 (s0 : Int),.int .u64 (x1 : Int),.int .u64 (x2 : Int),.int .u64 (x3 : Int)]) ∨ (i = .int .i64 2 ∧ bo = .int .u64 (c1 : Int) ∧ Blk wr w.heap.size 97 #[.int .u64 (s0 : Int),.int .u64 (s1 : Int),.int .u64 (x2 : Int),.int .u64 (x3 : Int)]) ∨ (i = .int .i64 3 ∧ bo = .int .u64 (c2 : Int) ∧ Blk wr w.heap.size 97 #[.int .u64 (s0 : Int),.int .u64 (s1 : Int),.int .u64 (s2 : Int),.int .u64 (x3 : Int)]) ∨ (i = .int .i64 4 ∧ bo = .int .u64 (c3 : Int) ∧ Blk wr w.heap.size 97 #[.int .u64 (s0 : Int),.int .u64 (s1 : Int),.int .u64 (s2 : Int),.int .u64 (s3 : Int)]))) (fun _ i _ => 4 - (intOf i).toNat)
 case atStart => exact ⟨below_alloc3 w _ _ _,(blk_new2 w _ _ _).alloc _,blk_new3 w _ _ _ _,Lib.hid (.inl ⟨rfl,rfl,((Blk.new w _ _).alloc _).alloc _⟩)⟩
 case round =>
  obtain ⟨hb,BY,BR,HI⟩:=hrel
  have lY:=BY.lt
  have lX : w.heap.size < wr.heap.size:=by omega
  have hsz : w.heap.size + 2 < wr.heap.size:=BR.lt
  rcases HI.out with ⟨rfl,rfl,BX⟩ | ⟨rfl,rfl,BX⟩ | ⟨rfl,rfl,BX⟩ | ⟨rfl,rfl,BX⟩ | ⟨rfl,rfl,BX⟩
  ·clear HI
   have px : wr.cell? ⟨w.heap.size,0,none⟩ = some (.int .u64 (x0 : Int)):=BX.cell 0
   have py : wr.cell? ⟨w.heap.size + 1,0,none⟩ = some (.int .u64 (y0 : Int)):=BY.cell 0
   go_wp2
   refine wp_region_G (fun _ => false) (by kernel_rfl) ?_
   try simp only [Act.put]
   refine tk 0 rfl ?_
   try simp only [Act.put,aA,aZ,aS]
   refine tk 1 rfl ?_
   try simp only [Act.put,aA,aZ,aS]
   refine tkw 2 rfl (YieldsG.pure (v:=.int .u64 (x0 : Int)) (by rfl) (fun w9 h9 => by have hz:=(Below.cell (p:=⟨w.heap.size,0,none⟩) h9 lX).trans px; go_simp; first | done | simp [hz])) ?_
   try simp only [Act.put,aA,aZ,aS]
   refine tk 3 rfl ?_
   try simp only [Act.put,aA,aZ,aS]
   refine tk 4 rfl ?_
   try simp only [Act.put,aA,aZ,aS]
   refine tkw 5 rfl (YieldsG.pure (v:=.int .u64 (y0 : Int)) (by rfl) (fun w9 h9 => by have hz:=(Below.cell (p:=⟨w.heap.size + 1,0,none⟩) h9 lY).trans py; go_simp; first | done | simp [hz])) ?_
   try simp only [Act.put,aA,aZ,aS]
   refine tk 6 rfl ?_
   try simp only [Act.put,aA,aZ,aS]
   refine tkw 7 rfl (YieldsG.pure (v:=.tuple #[.int .u64 (s0 : Int),.int .u64 (c0 : Int)]) (by rfl) (fun w9 h9 => by go_simp)) ?_
   try simp only [Act.put,aA,aZ,aS]
   refine tk 8 rfl ?_
   try simp only [Act.put,aA,aZ,aS]
   refine tk 9 rfl ?_
   try simp only [Act.put,aA,aZ,aS]
   refine tk 10 rfl ?_
   try simp only [Act.put,aA,aZ,aS]
   refine tk 11 rfl ?_
   try simp only [Act.put,aA,aZ,aS]
   refine tk 12 rfl ?_
   try simp only [Act.put,aA,aZ,aS]
   refine wpAnyG_done (by kernel_rfl) (fun u hu => ?_)
   have BXu:=Gr.blk hu BX
   have BYu:=Gr.blk hu BY
   have BRu:=Gr.blk hu BR
   have hbu:=Below.gr hb hu
   have pc : u.cell? ⟨w.heap.size,0,none⟩ = some (.int .u64 (x0 : Int)):=BXu.cell 0
   have pf:=BXu.frozen 0
   go_wp2
   refine ⟨⟨hbu.setCell (Nat.le_refl _) _,BYu.far (by show w.heap.size + 1 ≠ w.heap.size; omega) _,BRu.far (by show w.heap.size + 2 ≠ w.heap.size; omega) _,Lib.hid (.inr (.inl (⟨rfl,rfl,BXu.set_ 0 _⟩)))⟩,by decide⟩
  ·clear HI
   have px : wr.cell? ⟨w.heap.size,1,none⟩ = some (.int .u64 (x1 : Int)):=BX.cell 1
   have py : wr.cell? ⟨w.heap.size + 1,1,none⟩ = some (.int .u64 (y1 : Int)):=BY.cell 1
   go_wp2
   refine wp_region_G (fun _ => false) (by kernel_rfl) ?_
   try simp only [Act.put]
   refine tk 0 rfl ?_
   try simp only [Act.put,aA,aZ,aS]
   refine tk 1 rfl ?_
   try simp only [Act.put,aA,aZ,aS]
   refine tkw 2 rfl (YieldsG.pure (v:=.int .u64 (x1 : Int)) (by rfl) (fun w9 h9 => by have hz:=(Below.cell (p:=⟨w.heap.size,1,none⟩) h9 lX).trans px; go_simp; first | done | simp [hz])) ?_
   try simp only [Act.put,aA,aZ,aS]
   refine tk 3 rfl ?_
   try simp only [Act.put,aA,aZ,aS]
   refine tk 4 rfl ?_
   try simp only [Act.put,aA,aZ,aS]
   refine tkw 5 rfl (YieldsG.pure (v:=.int .u64 (y1 : Int)) (by rfl) (fun w9 h9 => by have hz:=(Below.cell (p:=⟨w.heap.size + 1,1,none⟩) h9 lY).trans py; go_simp; first | done | simp [hz])) ?_
   try simp only [Act.put,aA,aZ,aS]
   refine tk 6 rfl ?_
   try simp only [Act.put,aA,aZ,aS]
   refine tkw 7 rfl (YieldsG.pure (v:=.tuple #[.int .u64 (s1 : Int),.int .u64 (c1 : Int)]) (by rfl) (fun w9 h9 => by go_simp)) ?_
   try simp only [Act.put,aA,aZ,aS]
   refine tk 8 rfl ?_
   try simp only [Act.put,aA,aZ,aS]
   refine tk 9 rfl ?_
   try simp only [Act.put,aA,aZ,aS]
   refine tk 10 rfl ?_
   try simp only [Act.put,aA,aZ,aS]
   refine tk 11 rfl ?_
   try simp only [Act.put,aA,aZ,aS]
   refine tk 12 rfl ?_
   try simp only [Act.put,aA,aZ,aS]
   refine wpAnyG_done (by kernel_rfl) (fun u hu => ?_)
   have BXu:=Gr.blk hu BX
   have BYu:=Gr.blk hu BY
   have BRu:=Gr.blk hu BR
   have hbu:=Below.gr hb hu
   have pc : u.cell? ⟨w.heap.size,1,none⟩ = some (.int .u64 (x1 : Int)):=BXu.cell 1
   have pf:=BXu.frozen 1
   go_wp2
   refine ⟨⟨hbu.setCell (Nat.le_refl _) _,BYu.far (by show w.heap.size + 1 ≠ w.heap.size; omega) _,BRu.far (by show w.heap.size + 2 ≠ w.heap.size; omega) _,Lib.hid (.inr (.inr (.inl (⟨rfl,rfl,BXu.set_ 1 _⟩))))⟩,by decide⟩
  ·clear HI
   have px : wr.cell? ⟨w.heap.size,2,none⟩ = some (.int .u64 (x2 : Int)):=BX.cell 2
   have py : wr.cell? ⟨w.heap.size + 1,2,none⟩ = some (.int .u64 (y2 : Int)):=BY.cell 2
   go_wp2
   refine wp_region_G (fun _ => false) (by kernel_rfl) ?_
   try simp only [Act.put]
   refine tk 0 rfl ?_
   try simp only [Act.put,aA,aZ,aS]
   refine tk 1 rfl ?_
   try simp only [Act.put,aA,aZ,aS]
   refine tkw 2 rfl (YieldsG.pure (v:=.int .u64 (x2 : Int)) (by rfl) (fun w9 h9 => by have hz:=(Below.cell (p:=⟨w.heap.size,2,none⟩) h9 lX).trans px; go_simp; first | done | simp [hz])) ?_
   try simp only [Act.put,aA,aZ,aS]
   refine tk 3 rfl ?_
   try simp only [Act.put,aA,aZ,aS]
   refine tk 4 rfl ?_
   try simp only [Act.put,aA,aZ,aS]
   refine tkw 5 rfl (YieldsG.pure (v:=.int .u64 (y2 : Int)) (by rfl) (fun w9 h9 => by have hz:=(Below.cell (p:=⟨w.heap.size + 1,2,none⟩) h9 lY).trans py; go_simp; first | done | simp [hz])) ?_
   try simp only [Act.put,aA,aZ,aS]
   refine tk 6 rfl ?_
   try simp only [Act.put,aA,aZ,aS]
   refine tkw 7 rfl (YieldsG.pure (v:=.tuple #[.int .u64 (s2 : Int),.int .u64 (c2 : Int)]) (by rfl) (fun w9 h9 => by go_simp)) ?_
   try simp only [Act.put,aA,aZ,aS]
   refine tk 8 rfl ?_
   try simp only [Act.put,aA,aZ,aS]
   refine tk 9 rfl ?_
   try simp only [Act.put,aA,aZ,aS]
   refine tk 10 rfl ?_
   try simp only [Act.put,aA,aZ,aS]
   refine tk 11 rfl ?_
   try simp only [Act.put,aA,aZ,aS]
   refine tk 12 rfl ?_
   try simp only [Act.put,aA,aZ,aS]
   refine wpAnyG_done (by kernel_rfl) (fun u hu => ?_)
   have BXu:=Gr.blk hu BX
   have BYu:=Gr.blk hu BY
   have BRu:=Gr.blk hu BR
   have hbu:=Below.gr hb hu
   have pc : u.cell? ⟨w.heap.size,2,none⟩ = some (.int .u64 (x2 : Int)):=BXu.cell 2
   have pf:=BXu.frozen 2
   go_wp2
   refine ⟨⟨hbu.setCell (Nat.le_refl _) _,BYu.far (by show w.heap.size + 1 ≠ w.heap.size; omega) _,BRu.far (by show w.heap.size + 2 ≠ w.heap.size; omega) _,Lib.hid (.inr (.inr (.inr (.inl (⟨rfl,rfl,BXu.set_ 2 _⟩)))))⟩,by decide⟩
  ·clear HI
   have px : wr.cell? ⟨w.heap.size,3,none⟩ = some (.int .u64 (x3 : Int)):=BX.cell 3
   have py : wr.cell? ⟨w.heap.size + 1,3,none⟩ = some (.int .u64 (y3 : Int)):=BY.cell 3
   go_wp2
   refine wp_region_G (fun _ => false) (by kernel_rfl) ?_
   try simp only [Act.put]
   refine tk 0 rfl ?_
   try simp only [Act.put,aA,aZ,aS]
   refine tk 1 rfl ?_
   try simp only [Act.put,aA,aZ,aS]
   refine tkw 2 rfl (YieldsG.pure (v:=.int .u64 (x3 : Int)) (by rfl) (fun w9 h9 => by have hz:=(Below.cell (p:=⟨w.heap.size,3,none⟩) h9 lX).trans px; go_simp; first | done | simp [hz])) ?_
   try simp only [Act.put,aA,aZ,aS]
   refine tk 3 rfl ?_
   try simp only [Act.put,aA,aZ,aS]
   refine tk 4 rfl ?_
   try simp only [Act.put,aA,aZ,aS]
   refine tkw 5 rfl (YieldsG.pure (v:=.int .u64 (y3 : Int)) (by rfl) (fun w9 h9 => by have hz:=(Below.cell (p:=⟨w.heap.size + 1,3,none⟩) h9 lY).trans py; go_simp; first | done | simp [hz])) ?_
   try simp only [Act.put,aA,aZ,aS]
   refine tk 6 rfl ?_
   try simp only [Act.put,aA,aZ,aS]
   refine tkw 7 rfl (YieldsG.pure (v:=.tuple #[.int .u64 (s3 : Int),.int .u64 (c3 : Int)]) (by rfl) (fun w9 h9 => by go_simp)) ?_
   try simp only [Act.put,aA,aZ,aS]
   refine tk 8 rfl ?_
   try simp only [Act.put,aA,aZ,aS]
   refine tk 9 rfl ?_
   try simp only [Act.put,aA,aZ,aS]
   refine tk 10 rfl ?_
   try simp only [Act.put,aA,aZ,aS]
   refine tk 11 rfl ?_
   try simp only [Act.put,aA,aZ,aS]
   refine tk 12 rfl ?_
   try simp only [Act.put,aA,aZ,aS]
   refine wpAnyG_done (by kernel_rfl) (fun u hu => ?_)
   have BXu:=Gr.blk hu BX
   have BYu:=Gr.blk hu BY
   have BRu:=Gr.blk hu BR
   have hbu:=Below.gr hb hu
   have pc : u.cell? ⟨w.heap.size,3,none⟩ = some (.int .u64 (x3 : Int)):=BXu.cell 3
   have pf:=BXu.frozen 3
   go_wp2
   refine ⟨⟨hbu.setCell (Nat.le_refl _) _,BYu.far (by show w.heap.size + 1 ≠ w.heap.size; omega) _,BRu.far (by show w.heap.size + 2 ≠ w.heap.size; omega) _,Lib.hid (.inr (.inr (.inr (.inr (⟨rfl,rfl,BXu.set_ 3 _⟩)))))⟩,by decide⟩
  ·clear HI
   have BS:=BX.eq_ (fcs_words Fd.out.symm).symm
   go_wp2_with (first | ((with_reducible refine here_load (d:=some 28) ?_); refine wpList_load_fv rfl _ _ rfl (w.heap.size) rfl (s) _ _ _ (BS) (fv_fcs s) Tryz.underlying97 rfl (by kernel_rfl) ?_) | ((with_reducible refine here_store ?_); refine wpList_store_blk rfl _ _ _ rfl (w.heap.size + 2) (fcs (s)) rfl rfl _ _ (BR) (by kernel_rfl) (by rfl) (fcs_one _) ?_; intro w9 hL9 hB9 hK9))
   exact bodyPost_ret (results_cell_row rfl _ _ (w.heap.size + 2) _ _ (0,0) _ rfl hL9 Tryz.underlying97 rfl (by kernel_rfl)) rfl ⟨rfl,hb.trans (hB9 _ (by omega))⟩
def eQ : Nat:=28948022309329048855892746252171976963317496166410141009864396001977208667916
def rtR (x : Nat) : Nat:=pw x eQ
def sqrtR (x : Nat) : Nat × Bool:=if mulP (rtR x) (rtR x) ≠ x % pM then (0,false) else if rtR x % 18446744073709551616 % 2 = 1 then (negP (rtR x),true) else (rtR x,true)
theorem fv_eQ : fv 28948022309329048855892746252171976963317496166410141009864396001977208667916 = .agg #[.int .u64 18446744072635809548,.int .u64 18446744073709551615,.int .u64 18446744073709551615,.int .u64 4611686018427387903]:=rfl
theorem rem_two (n : Nat) (_ : n < 18446744073709551616) : ∃ b : Bool,b = decide (n % 2 = 1) ∧ (((n : Int) % 2 == 1) = b):=by
 refine ⟨_,rfl,?_⟩
 rcases (show n % 2 = 0 ∨ n % 2 = 1 by omega) with h | h
 ·have : (n : Int) % 2 = 0:=by omega
  rw [this,h]; rfl
 ·have : (n : Int) % 2 = 1:=by omega
  rw [this,h]; rfl
set_option maxHeartbeats 8000000 in
set_option maxRecDepth 100000 in
theorem sqrtR_any (w : World) (x : Nat) (hx : x < (2^256)) : Calls Tryz.prog 110 #[fv x] w fun e w' => e = .returned (.tuple #[fv (sqrtR x).1,.bool (sqrtR x).2]) ∧ Below w.heap.size w w':=by
 obtain ⟨p,hp⟩ : ∃ p,p = 115792089237316195423570985008687907853269984665640564039457584007908834671663:=⟨_,rfl⟩
 obtain ⟨one,h1⟩ : ∃ n,n = 1:=⟨_,rfl⟩
 obtain ⟨e,he⟩ : ∃ e,e = 115792089237316195423570985008687907853269984665640564039457584007908834671663 + 1:=⟨_,rfl⟩
 obtain ⟨q,hq⟩ : ∃ q,q = eQ:=⟨_,rfl⟩
 obtain ⟨r,hr⟩ : ∃ r,r = rtR x:=⟨_,rfl⟩
 obtain ⟨m,hm⟩ : ∃ z,z = mulP r r:=⟨_,rfl⟩
 obtain ⟨n,hn⟩ : ∃ z,z = x % pM:=⟨_,rfl⟩
 obtain ⟨g,hg⟩ : ∃ z,z = negP r:=⟨_,rfl⟩
 have lq : q < (2^256):=by rw [hq,eQ]; omega
 have lr : r < (2^256):=by rw [hr]; exact pw_lt _ _
 have lm : m < (2^256):=by rw [hm]; exact mulP_lt _ _
 have ln : n < (2^256):=by rw [hn]; exact mod_lt x
 have cP : ∀ w,Calls Tryz.prog 54 #[] w fun e w' => e = .returned (.agg #[.int .u64 18446744069414583343,.int .u64 18446744073709551615,.int .u64 18446744073709551615,.int .u64 18446744073709551615,.int .u64 4294968273,.int .u64 0,.int .u64 0]) ∧ Below w.heap.size w w':=refP_any
 have c1 : ∀ w,Calls Tryz.prog 132 #[.int .u64 1] w fun e w' => e = .returned (fv one) ∧ Below w.heap.size w w':=fun w => small_at w one 1 (by rw [h1]; rfl) (by omega)
 have cA : ∀ w,Calls Tryz.prog 165 #[fv p,fv one] w fun r w' => r = .returned (fv e) ∧ Below w.heap.size w w':=fun w => addR_at w p one e 0 rfl rfl (by omega) (by omega) (by omega) (by omega)
 have cW : ∀ w,Calls Tryz.prog 133 #[.agg #[.int .u64 18446744069414583343,.int .u64 18446744073709551615,.int .u64 18446744073709551615,.int .u64 18446744073709551615,.int .u64 4294968273,.int .u64 0,.int .u64 0],fv x,fv q] w fun e w' => e = .returned (fv r) ∧ Below w.heap.size w w':=by
  intro w; rw [hr,rtR, ← hq]; exact power_any w x q hx lq
 have cM : ∀ w,Calls Tryz.prog 106 #[.agg #[.int .u64 18446744069414583343,.int .u64 18446744073709551615,.int .u64 18446744073709551615,.int .u64 18446744073709551615,.int .u64 4294968273,.int .u64 0,.int .u64 0],fv r,fv r] w fun e w' => e = .returned (fv m) ∧ Below w.heap.size w w':=by
  intro w; rw [hm]; exact mulR_any w r r lr lr
 have cN : ∀ w,Calls Tryz.prog 74 #[.agg #[.int .u64 18446744069414583343,.int .u64 18446744073709551615,.int .u64 18446744073709551615,.int .u64 18446744073709551615,.int .u64 4294968273,.int .u64 0,.int .u64 0],fv x] w fun e w' => e = .returned (fv n) ∧ Below w.heap.size w w':=by
  intro w; rw [hn]; exact normR_any w x hx
 have cG : ∀ w,Calls Tryz.prog 115 #[.agg #[.int .u64 18446744069414583343,.int .u64 18446744073709551615,.int .u64 18446744073709551615,.int .u64 18446744073709551615,.int .u64 4294968273,.int .u64 0,.int .u64 0],fv r] w fun e w' => e = .returned (fv g) ∧ Below w.heap.size w w':=by
  intro w; rw [hg]; exact negR_any w r lr
 obtain ⟨b,hb⟩ : ∃ b,b = decide (m ≠ n):=⟨_,rfl⟩
 have eb : ∀ W,(binOp .neq 97 (fv m) (fv n)).run Tryz.prog W = .ok (.bool b) W:=fun W => by rw [hb]; exact Nm.run_neq_fv W m n lm ln
 obtain ⟨r0,r1,r2,r3,a0,a1,a2,a3,er,fr⟩:=words_of r lr
 obtain ⟨o,ho,hob⟩:=rem_two r0 a0
 have hS : sqrtR x = if b = true then (0,false) else if o = true then (g,true) else (r,true):=by
  unfold sqrtR
  have h0 : r % 18446744073709551616 = r0:=by omega
  rw [← hr, ← hm, ← hn, ← hg,hb,ho,h0]
  by_cases h1 : m = n <;> by_cases h2 : r0 % 2 = 1 <;> simp [h1,h2]
 have FP : Hid (fv p = .agg #[.int .u64 18446744069414583343,.int .u64 18446744073709551615,.int .u64 18446744073709551615,.int .u64 18446744073709551615]):=Lib.hid (by rw [hp]; exact fv_P)
 have FE : Hid (fv e = .agg #[.int .u64 18446744069414583344,.int .u64 18446744073709551615,.int .u64 18446744073709551615,.int .u64 18446744073709551615]):=Lib.hid (by rw [he]; rfl)
 have FQ : Hid (fv q = .agg #[.int .u64 18446744072635809548,.int .u64 18446744073709551615,.int .u64 18446744073709551615,.int .u64 4611686018427387903]):=Lib.hid (by rw [hq]; exact fv_eQ)
 have FR:=Lib.hid fr
 obtain ⟨x0,x1,x2,x3,fx⟩:=words_fv x hx
 have FX:=Lib.hid fx
 rw [fx,hS]
 clear fx hx hp h1 he hq hr hm hn hg lq lr lm ln hb ho hS a0 a1 a2 a3 er fr
 go_enter Tryz.func110,Tryz.ntmps110
 go_wp2_with fail
 refine (cP _).mono ?_
 rintro z w1 ⟨rfl,k1⟩
 have BX:=Gr.blk k1 ((Blk.new w _ _).alloc _)
 have BR:=Gr.blk k1 (blk_new2 w _ _ _)
 have hB:=Below.gr (below_alloc2 w _ _) k1
 have sz1 : w.heap.size + 1 < w1.heap.size:=BR.lt
 clear k1 cP
 go_wp2_with (first | ((with_reducible refine here_store ?_); refine wpList_store_blk rfl _ _ _ rfl (w1.heap.size) #[.int .u64 18446744069414583343,.int .u64 18446744073709551615,.int .u64 18446744073709551615,.int .u64 18446744073709551615,.int .u64 4294968273,.int .u64 0,.int .u64 0] rfl rfl _ _ (Blk.new w1 _ _) (by kernel_rfl) (by rfl) (by simp [Value.oneCell']) ?_; intro w2 hL2 hq2 hK2; have BX2:=hK2 _ (by omega) _ _ (BX.alloc _); have BR2:=hK2 _ (by omega) _ _ (BR.alloc _); have hB2:=(hB.alloc (by omega) _).trans (hq2 _ (by omega))))
 refine wp_region_G (fun j => j == 5) (by kernel_rfl) ?_
 try simp only [Act.put]
 refine tk 0 rfl ?_
 try simp only [Act.put,aA,aZ,aS]
 refine tkw 1 rfl (YieldsG.loadP (by rfl) _ _ rfl w1.heap.size rfl p _ (Blk.lt hL2) (mod_range hL2) FP.out Tryz.underlying97 rfl (by kernel_rfl)) ?_
 try simp only [Act.put,aA,aZ,aS]
 refine tkw 2 rfl (YieldsG.call (v:=fv one) (by rfl) 132 _ (fun w9 => by go_simp; try (first | with_reducible rfl | rfl)) (fun w9 h9 => c1 w9)) ?_
 try simp only [Act.put,aA,aZ,aS]
 refine tkw 3 rfl (YieldsG.call (v:=fv e) (by rfl) 165 _ (fun w9 => by go_simp; try (first | with_reducible rfl | rfl)) (fun w9 h9 => cA w9)) ?_
 try simp only [Act.put,aA,aZ,aS]
 refine wpAnyG_sole 4 rfl (by kernel_rfl) (by rfl) (fun w4 h4 K hK => ?_)
 go_simp
 refine hK _ _ (fun _ => gr_alloc _ _) ?_
 clear hK K
 try simp only [Act.put,aA,aZ,aS]
 refine wpAnyG_store 5 rfl (by kernel_rfl) (by rfl) _ _ _ rfl (w4.heap.size) (fcs (e)) rfl rfl _ _ (Blk.new w4 _ _) (by kernel_rfl) (by rfl) (fcs_one _) rfl (fun w6 h6 w7 hB7 hL7 => ?_)
 try simp only [Act.put]
 refine wpAnyG_done (by kernel_rfl) (fun w8 h8 => ?_)
 have sz4 : w1.heap.size < w4.heap.size:=by have:=hL2.lt; have:=h4.size; omega
 have BM8 : Blk w8 w1.heap.size 102 #[.int .u64 18446744069414583343,.int .u64 18446744073709551615,.int .u64 18446744073709551615,.int .u64 18446744073709551615,.int .u64 4294968273,.int .u64 0,.int .u64 0]:=Gr.blk h8 (Blk.below (B:=w4.heap.size) (Gr.blk h6 (Blk.alloc (Gr.blk h4 hL2) _)) (hB7 _ (Nat.le_refl _)) (by omega))
 have BX8:=Gr.blk h8 (Blk.below (B:=w4.heap.size) (Gr.blk h6 (Blk.alloc (Gr.blk h4 BX2) _)) (hB7 _ (Nat.le_refl _)) (by omega))
 have BR8:=Gr.blk h8 (Blk.below (B:=w4.heap.size) (Gr.blk h6 (Blk.alloc (Gr.blk h4 BR2) _)) (hB7 _ (Nat.le_refl _)) (by omega))
 have BE8 : Blk w8 w4.heap.size 97 #[.int .u64 18446744069414583344,.int .u64 18446744073709551615,.int .u64 18446744073709551615,.int .u64 18446744073709551615]:=(Gr.blk h8 hL7).eq_ (fcs_words FE.out)
 have hB8 : Below w.heap.size w w8:=Below.gr ((Below.gr ((Below.gr hB2 h4).alloc (by omega) _) h6).trans (hB7 _ (by omega))) h8
 clear h4 h6 hB7 hL7 h8 c1 cA hL2 BX2 BR2 hB2
 go_wp2_with fail
 go_loopw [6,7] (fun rs i wr => Below w.heap.size w wr ∧ Blk wr w1.heap.size 102 #[.int .u64 18446744069414583343,.int .u64 18446744073709551615,.int .u64 18446744073709551615,.int .u64 18446744073709551615,.int .u64 4294968273,.int .u64 0,.int .u64 0] ∧ Blk wr w.heap.size 97 #[.int .u64 x0,.int .u64 x1,.int .u64 x2,.int .u64 x3] ∧ Blk wr (w.heap.size + 1) 97 #[.int .u64 0,.int .u64 0,.int .u64 0,.int .u64 0] ∧ Hid ((i = .int .i64 3 ∧ rs = .int .u64 0 ∧ Blk wr w4.heap.size 97 #[.int .u64 18446744069414583344,.int .u64 18446744073709551615,.int .u64 18446744073709551615,.int .u64 18446744073709551615]) ∨ (i = .int .i64 2 ∧ rs = .int .u64 3 ∧ Blk wr w4.heap.size 97 #[.int .u64 18446744069414583344,.int .u64 18446744073709551615,.int .u64 18446744073709551615,.int .u64 4611686018427387903]) ∨ (i = .int .i64 1 ∧ rs = .int .u64 3 ∧ Blk wr w4.heap.size 97 #[.int .u64 18446744069414583344,.int .u64 18446744073709551615,.int .u64 18446744073709551615,.int .u64 4611686018427387903]) ∨ (i = .int .i64 0 ∧ rs = .int .u64 3 ∧ Blk wr w4.heap.size 97 #[.int .u64 18446744069414583344,.int .u64 18446744073709551615,.int .u64 18446744073709551615,.int .u64 4611686018427387903]) ∨ (i = .int .i64 (-1) ∧ rs = .int .u64 0 ∧ Blk wr w4.heap.size 97 #[.int .u64 18446744072635809548,.int .u64 18446744073709551615,.int .u64 18446744073709551615,.int .u64 4611686018427387903]))) (fun _ i _ => (intOf i + 1).toNat)
 case atStart => exact ⟨hB8,BM8,BX8,BR8,Lib.hid (.inl ⟨rfl,rfl,BE8⟩)⟩
 case round =>
  clear hB8 BM8 BX8 BR8 BE8
  obtain ⟨hb,BM,BX,BR,HI⟩:=hrel
  rcases HI.out with ⟨rfl,rfl,BE⟩ | ⟨rfl,rfl,BE⟩ | ⟨rfl,rfl,BE⟩ | ⟨rfl,rfl,BE⟩ | ⟨rfl,rfl,BE⟩
  ·clear HI
   have pe : wr.cell? ⟨w4.heap.size,3,none⟩ = some (.int .u64 18446744073709551615):=BE.cell 3
   have pf:=BE.frozen 3
   go_wp2
   refine ⟨⟨hb.setCell (by show w.heap.size ≤ w4.heap.size; omega) _,BM.far (by show w1.heap.size ≠ w4.heap.size; omega) _,BX.far (by show w.heap.size ≠ w4.heap.size; omega) _,BR.far (by show w.heap.size + 1 ≠ w4.heap.size; omega) _,Lib.hid (.inr (.inl (⟨rfl,rfl,BE.set_ 3 _⟩)))⟩,by decide⟩
  ·clear HI
   have pe : wr.cell? ⟨w4.heap.size,2,none⟩ = some (.int .u64 18446744073709551615):=BE.cell 2
   have pf:=BE.frozen 2
   go_wp2
   refine ⟨⟨hb.setCell (by show w.heap.size ≤ w4.heap.size; omega) _,BM.far (by show w1.heap.size ≠ w4.heap.size; omega) _,BX.far (by show w.heap.size ≠ w4.heap.size; omega) _,BR.far (by show w.heap.size + 1 ≠ w4.heap.size; omega) _,Lib.hid (.inr (.inr (.inl (⟨rfl,rfl,BE.set_ 2 _⟩))))⟩,by decide⟩
  ·clear HI
   have pe : wr.cell? ⟨w4.heap.size,1,none⟩ = some (.int .u64 18446744073709551615):=BE.cell 1
   have pf:=BE.frozen 1
   go_wp2
   refine ⟨⟨hb.setCell (by show w.heap.size ≤ w4.heap.size; omega) _,BM.far (by show w1.heap.size ≠ w4.heap.size; omega) _,BX.far (by show w.heap.size ≠ w4.heap.size; omega) _,BR.far (by show w.heap.size + 1 ≠ w4.heap.size; omega) _,Lib.hid (.inr (.inr (.inr (.inl (⟨rfl,rfl,BE.set_ 1 _⟩)))))⟩,by decide⟩
  ·clear HI
   have pe : wr.cell? ⟨w4.heap.size,0,none⟩ = some (.int .u64 18446744069414583344):=BE.cell 0
   have pf:=BE.frozen 0
   go_wp2
   refine ⟨⟨hb.setCell (by show w.heap.size ≤ w4.heap.size; omega) _,BM.far (by show w1.heap.size ≠ w4.heap.size; omega) _,BX.far (by show w.heap.size ≠ w4.heap.size; omega) _,BR.far (by show w.heap.size + 1 ≠ w4.heap.size; omega) _,Lib.hid (.inr (.inr (.inr (.inr (⟨rfl,rfl,BE.set_ 0 _⟩)))))⟩,by decide⟩
  ·clear HI
   have sl:=BE.lt
   go_wp2_with (first | ((with_reducible refine here_load (d:=some 31) ?_); refine wpList_load_blk rfl _ _ rfl w1.heap.size rfl _ _ _ (BM) Tryz.underlying102 rfl (by kernel_rfl) ?_) | ((with_reducible refine here_load (d:=some 32) ?_); refine wpList_load_fv rfl _ _ rfl (w.heap.size) rfl (x) _ _ _ (BX) (FX.out) Tryz.underlying97 rfl (by kernel_rfl) ?_) | ((with_reducible refine here_load (d:=some 33) ?_); refine wpList_load_fv rfl _ _ rfl (w4.heap.size) rfl (q) _ _ _ (BE) (FQ.out) Tryz.underlying97 rfl (by kernel_rfl) ?_))
   refine (cW _).mono ?_
   rintro z w5 ⟨rfl,k1⟩
   have BM:=Gr.blk k1 BM
   have BX:=Gr.blk k1 BX
   have BR:=Gr.blk k1 BR
   have hb:=Below.gr hb k1
   have sz5 : w4.heap.size < w5.heap.size:=Nat.lt_of_lt_of_le sl k1.size
   clear k1 cW BE
   go_wp2_with (first | ((with_reducible refine here_store ?_); refine wpList_store_blk rfl _ _ _ rfl (w5.heap.size) (fcs (r)) rfl rfl _ _ (Blk.new w5 _ _) (by kernel_rfl) (by rfl) (fcs_one _) ?_; intro w6 hL6 hq6 hK6; have BM6:=hK6 _ (by omega) _ _ (BM.alloc _); have BX6:=hK6 _ (by omega) _ _ (BX.alloc _); have BR6:=hK6 _ (by omega) _ _ (BR.alloc _); have hB6:=(hb.alloc (by omega) _).trans (hq6 _ (by omega))))
   refine wp_region_G (fun _ => false) (by kernel_rfl) ?_
   try simp only [Act.put]
   refine tkw 0 rfl (YieldsG.load (by rfl) _ _ rfl w1.heap.size 0 rfl ([.int .u64 18446744069414583343,.int .u64 18446744073709551615,.int .u64 18446744073709551615,.int .u64 18446744073709551615,.int .u64 4294968273,.int .u64 0,.int .u64 0]) _ (Blk.lt (BM6)) (Blk.range (BM6)) Tryz.underlying102 rfl (by kernel_rfl)) ?_
   try simp only [Act.put,aA,aZ,aS]
   refine tkw 1 rfl (YieldsG.loadF (by rfl) _ _ rfl (w5.heap.size) rfl (r) _ _ (hL6) (fv_fcs _) Tryz.underlying97 rfl (by kernel_rfl)) ?_
   try simp only [Act.put,aA,aZ,aS]
   refine tkw 2 rfl (YieldsG.loadF (by rfl) _ _ rfl (w5.heap.size) rfl (r) _ _ (hL6) (fv_fcs _) Tryz.underlying97 rfl (by kernel_rfl)) ?_
   try simp only [Act.put,aA,aZ,aS]
   refine tkw 3 rfl (YieldsG.call (v:=fv m) (by rfl) 106 _ (fun w9 => by go_simp; try (first | with_reducible rfl | rfl)) (fun w9 h9 => cM w9)) ?_
   try simp only [Act.put,aA,aZ,aS]
   refine tkw 4 rfl (YieldsG.load (by rfl) _ _ rfl w1.heap.size 0 rfl ([.int .u64 18446744069414583343,.int .u64 18446744073709551615,.int .u64 18446744073709551615,.int .u64 18446744073709551615,.int .u64 4294968273,.int .u64 0,.int .u64 0]) _ (Blk.lt (BM6)) (Blk.range (BM6)) Tryz.underlying102 rfl (by kernel_rfl)) ?_
   try simp only [Act.put,aA,aZ,aS]
   refine tkw 5 rfl (YieldsG.loadF (by rfl) _ _ rfl (w.heap.size) rfl (x) _ _ (BX6) (FX.out) Tryz.underlying97 rfl (by kernel_rfl)) ?_
   try simp only [Act.put,aA,aZ,aS]
   refine tkw 6 rfl (YieldsG.call (v:=fv n) (by rfl) 74 _ (fun w9 => by go_simp; try (first | with_reducible rfl | rfl)) (fun w9 h9 => cN w9)) ?_
   try simp only [Act.put,aA,aZ,aS]
   refine tkw 7 rfl (YieldsG.pure (v:=.bool b) (by rfl) (fun w9 h9 => by go_simp; rw [Nm.run_eqGuard_fv]; simp only [Result.andThen_ok])) ?_
   try simp only [Act.put,aA,aZ,aS]
   refine wpAnyG_done (by kernel_rfl) (fun u hu => ?_)
   have BM:=Gr.blk hu BM6
   have BR:=Gr.blk hu BR6
   have BRT:=Gr.blk hu hL6
   have hb:=Below.gr hB6 hu
   have BW : Blk u w5.heap.size 97 #[.int .u64 (r0 : Int),.int .u64 (r1 : Int),.int .u64 (r2 : Int),.int .u64 (r3 : Int)]:=BRT.eq_ (fcs_words FR.out)
   have pc : u.cell? ⟨w5.heap.size,0,none⟩ = some (.int .u64 (r0 : Int)):=BW.cell 0
   clear hu BM6 BX6 BR6 hL6 hB6 BX eb cM cN BW
   cases b
   ·cases o
    ·go_wp2_with (first | ((with_reducible refine here_load (d:=some 51) ?_); refine wpList_load_fv rfl _ _ rfl (w5.heap.size) rfl (r) _ _ _ (BRT) (fv_fcs _) Tryz.underlying97 rfl (by kernel_rfl) ?_) | ((with_reducible refine here_store ?_); refine wpList_store_blk rfl _ _ _ rfl (w.heap.size + 1) (fcs (r)) rfl rfl _ _ (BR) (by kernel_rfl) (by rfl) (fcs_one _) ?_; intro w9 hL9 hB9 hK9))
     exact bodyPost_ret (res_cell_tmp rfl _ _ (w.heap.size + 1) _ _ _ _ rfl hL9 rfl Tryz.underlying97 rfl (by kernel_rfl)) rfl ⟨rfl,hb.trans (hB9 _ (by omega))⟩
    ·go_wp2_with (first | ((with_reducible refine here_load (d:=some 48) ?_); refine wpList_load_blk rfl _ _ rfl w1.heap.size rfl _ _ _ (BM) Tryz.underlying102 rfl (by kernel_rfl) ?_) | ((with_reducible refine here_load (d:=some 49) ?_); refine wpList_load_fv rfl _ _ rfl (w5.heap.size) rfl (r) _ _ _ (BRT) (fv_fcs _) Tryz.underlying97 rfl (by kernel_rfl) ?_))
     refine (cG _).mono ?_
     rintro z w6 ⟨rfl,k1⟩
     have BR:=Gr.blk k1 BR
     have hb:=Below.gr hb k1
     clear k1 cG
     go_wp2_with (first | ((with_reducible refine here_store ?_); refine wpList_store_blk rfl _ _ _ rfl (w.heap.size + 1) (fcs (g)) rfl rfl _ _ (BR) (by kernel_rfl) (by rfl) (fcs_one _) ?_; intro w9 hL9 hB9 hK9))
     exact bodyPost_ret (res_cell_tmp rfl _ _ (w.heap.size + 1) _ _ _ _ rfl hL9 rfl Tryz.underlying97 rfl (by kernel_rfl)) rfl ⟨rfl,hb.trans (hB9 _ (by omega))⟩
   ·go_wp2_with (first | ((with_reducible refine here_store ?_); refine wpList_store_blk rfl _ _ _ rfl (w.heap.size + 1) _ rfl rfl _ _ (BR) (by kernel_rfl) (by rfl) (by simp [Value.oneCell']) ?_; intro w9 hL9 hB9 hK9))
    exact bodyPost_ret (res_cell_tmp rfl _ _ (w.heap.size + 1) _ _ _ _ rfl hL9 rfl Tryz.underlying97 rfl (by kernel_rfl)) rfl ⟨rfl,hb.trans (hB9 _ (by omega))⟩
end
end
section
section
open Go.RowKit Go.Lib
theorem prime_p : Nt.Pr pM:=Nt.pr_p
theorem eRoot_is : eRoot = eQ:=by decide +kernel
theorem four_eQ : 2 * (eQ + eQ) = pM + 1:=by decide +kernel
theorem root_is (x : Nat) : rtR x = rootR x:=by
 have h:=rootR_pow x
 rw [rootR_red,eRoot_is] at h
 rw [h]
 rfl
theorem root_lt_p (x : Nat) : rootR x < pM:=by rw [← rootR_red]; exact mod_lt_p _
theorem low_odd (r : Nat) : r % 18446744073709551616 % 2 = r % 2:=by omega
theorem sqrt_is (x : Nat) : sqrtR x = sqrtS x:=by
 unfold sqrtR sqrtS
 rw [root_is,low_odd,rootR_red]
theorem sq_le {p r a : Nat} (hp : Nt.Pr p) (hle : a ≤ r) (hr : r < p) (h : r * r % p = a * a % p) : r = a ∨ r + a = p:=by
 have e : (r - a) * (r + a) = r * r - a * a:=by
  obtain ⟨d,rfl⟩ : ∃ d,r = a + d:=⟨r - a,by omega⟩
  rw [Nat.add_sub_cancel_left]
  have h1 : (a + d) * (a + d) = a * a + d * (a + d + a):=by
   simp only [Nat.mul_add,Nat.add_mul]
   have:=Nat.mul_comm a d
   omega
  rw [h1,Nat.add_sub_cancel_left]
 have hd : p ∣ (r - a) * (r + a):=by
  rw [e]
  exact Nat.dvd_of_mod_eq_zero (Nat.sub_mod_eq_zero_of_mod_eq h)
 by_cases hz : (r + a) % p = 0
 ·obtain ⟨k,hk⟩:=Nat.dvd_of_mod_eq_zero hz
  rcases k with _ | _ | k
  ·left; omega
  ·right; omega
  ·have hk' : r + a = p * (k + 2):=hk
   have : p * 2 ≤ p * (k + 2):=Nat.mul_le_mul (Nat.le_refl _) (by omega)
   omega
 ·left
  have hd2 : p ∣ r - a:=(Nt.cop hp (r + a) hz).dvd_of_dvd_mul_right hd
  have:=Nat.eq_zero_of_dvd_of_lt hd2 (by omega)
  omega
theorem sq_roots {p r a : Nat} (hp : Nt.Pr p) (hr : r < p) (ha : a < p) (h : r * r % p = a * a % p) : r = a ∨ r + a = p:=by
 rcases Nat.le_total a r with hl | hl
 ·exact sq_le hp hl hr h
 ·rcases sq_le hp hl ha h.symm with h1 | h1
  ·exact .inl h1.symm
  ·exact .inr (by omega)
theorem pow_gen {p a e : Nat} (hp : Nt.Pr p) (he : 2 * (e + e) = p + 1) : ((a * a) ^ e % p) * ((a * a) ^ e % p) % p = a * a % p:=by
 have h2:=hp.1
 rw [← Nat.mul_mod, ← Nat.pow_add, ← Nat.pow_two, ← Nat.pow_mul,he]
 have e1 : a ^ (p + 1) = a ^ (p - 1) * a ^ 2:=by rw [← Nat.pow_add]; congr 1; omega
 rw [e1,Nat.mul_mod]
 by_cases hz : a % p = 0
 ·have : a ^ 2 % p = 0:=by rw [Nat.pow_two,Nat.mul_mod,hz]; simp
  rw [this]; simp
 ·rw [Nt.flt hp a hz,Nat.one_mul,Nat.mod_mod]
theorem root_sq (a : Nat) : mulP (rootR (mulP a a)) (rootR (mulP a a)) = mulP a a:=by
 have h:=rootR_pow (mulP a a)
 rw [rootR_red,eRoot_is] at h
 rw [h]
 unfold mulP
 rw [← Nat.pow_mod]
 exact pow_gen prime_p four_eQ
theorem neg_of (r : Nat) (h : r < pM) (h0 : r ≠ 0) : negP r = pM - r:=by
 unfold negP
 rw [Nat.mod_eq_of_lt h]
 exact Nat.mod_eq_of_lt (by omega)
theorem neg_sq (r : Nat) (h : r < pM) (h0 : r ≠ 0) : mulP (negP r) (negP r) = mulP r r:=by
 rw [neg_of r h h0]
 obtain ⟨q,hq⟩ : ∃ q,pM = q + r:=⟨pM - r,by omega⟩
 rw [show pM - r = q by omega]
 unfold mulP
 have e : q * q + pM * r = r * r + pM * q:=by
  rw [hq,Nat.add_mul,Nat.add_mul,Nat.mul_comm r q]
  omega
 have h1 : (q * q + pM * r) % pM = q * q % pM:=Nat.add_mul_mod_self_left _ _ _
 have h2 : (r * r + pM * q) % pM = r * r % pM:=Nat.add_mul_mod_self_left _ _ _
 rw [← h1, ← h2,e]
theorem pM_odd : pM % 2 = 1:=by decide +kernel
theorem sqrt_even (x : Nat) : (sqrtS x).1 % pM % 2 = 0:=by
 unfold sqrtS
 have hr:=root_lt_p x
 by_cases h1 : mulP (rootR x) (rootR x) ≠ x % pM
 ·rw [if_pos h1]; rw [Nat.zero_mod]
 ·rw [if_neg h1]
  by_cases h2 : rootR x % pM % 2 = 1
  ·rw [if_pos h2]
   rw [rootR_red] at h2
   have h0 : rootR x ≠ 0:=by omega
   have e:=neg_of _ hr h0
   have hp:=pM_odd
   show negP (rootR x) % pM % 2 = 0
   rw [e,Nat.mod_eq_of_lt (show pM - rootR x < pM by omega)]
   omega
  ·rw [if_neg h2]
   show rootR x % pM % 2 = 0
   omega
theorem sqrt_lt (x : Nat) : (sqrtS x).1 < (2^256):=by
 unfold sqrtS
 by_cases h1 : mulP (rootR x) (rootR x) ≠ x % pM
 ·rw [if_pos h1]; show 0 < _; omega
 ·rw [if_neg h1]
  by_cases h2 : rootR x % pM % 2 = 1
  ·rw [if_pos h2]; exact negP_lt _
  ·rw [if_neg h2]; exact rootR_lt _
theorem sqrt_mul (x : Nat) (h : (sqrtS x).2 = true) : mulP (sqrtS x).1 (sqrtS x).1 = x % pM:=by
 unfold sqrtS at h ⊢
 by_cases h1 : mulP (rootR x) (rootR x) ≠ x % pM
 ·rw [if_pos h1] at h; cases h
 ·rw [if_neg h1]
  have h1' : mulP (rootR x) (rootR x) = x % pM:=Classical.not_not.1 h1
  by_cases h2 : rootR x % pM % 2 = 1
  ·rw [if_pos h2]
   rw [rootR_red] at h2
   show mulP (negP (rootR x)) (negP (rootR x)) = _
   rw [neg_sq _ (root_lt_p x) (by omega)]
   exact h1'
  ·rw [if_neg h2]; exact h1'
theorem sqrt_sq (a : Nat) : ∃ s,sqrtS (mulP a a) = (s,true) ∧ (s = a % pM ∨ s = negP a):=by
 obtain ⟨r,hr⟩ : ∃ r,r = rootR (mulP a a):=⟨_,rfl⟩
 have hs:=root_sq a
 rw [← hr] at hs
 have hl : r < pM:=by rw [hr]; exact root_lt_p _
 have hx : mulP a a % pM = mulP a a:=by unfold mulP; rw [Nat.mod_mod]
 obtain ⟨b,hb⟩ : ∃ b,b = a % pM:=⟨_,rfl⟩
 have hbl : b < pM:=by rw [hb]; exact mod_lt_p a
 have hng : negP a = negP b:=by unfold negP; rw [hb,Nat.mod_mod]
 have hrr : r = b ∨ r + b = pM:=by
  refine sq_roots prime_p hl hbl ?_
  have : mulP a a = b * b % pM:=by rw [hb, ← Nat.mul_mod]; rfl
  rw [← this]; exact hs
 have p0 : 0 < pM:=by omega
 have hor : (r = b ∧ negP r = negP b) ∨ (r = negP b ∧ negP r = b):=by
  rcases hrr with h | h
  ·left; exact ⟨h,by rw [h]⟩
  ·by_cases h0 : b = 0
   ·omega
   ·right
    have e1:=neg_of b hbl h0
    have e2:=neg_of r hl (by omega)
    exact ⟨by omega,by omega⟩
 unfold sqrtS
 rw [← hr,hx,if_neg (by rw [hs]; exact fun h => h rfl),hng, ← hb]
 by_cases h2 : r % pM % 2 = 1
 ·rw [if_pos h2]
  refine ⟨_,rfl,?_⟩
  rcases hor with h | h
  ·exact .inr h.2
  ·exact .inl h.2
 ·rw [if_neg h2]
  refine ⟨_,rfl,?_⟩
  rcases hor with h | h
  ·exact .inl h.1
  ·exact .inr h.1
end
end
section
namespace Cu
open Go.RowKit Sy
set_option maxRecDepth 100000
set_option maxHeartbeats 4000000
theorem key_whole (l : List UInt8) {n : Nat} (hl : l.length = n) : Value.agg (((l.map bv).toArray.toList.drop 0).take n).toArray = .agg (l.map bv).toArray:=by
 rw [List.drop_zero,List.take_of_length_le (by simp; omega)]
theorem key_size (l : List UInt8) {n : Nat} (hl : l.length = n) : 0 + n ≤ (l.map bv).toArray.size:=by simp; omega
theorem key_at (l : List UInt8) {n : Nat} (hl : l.length = n) (k : Nat) (hk : k < n) : (l.map bv).toArray[k]? = some (bv (l.getD k 0)):=by
 have : k < l.length:=by omega
 simp [List.getD,this]
noncomputable def infU8 : TypeInfo:=(Tryz.prog.info? 5).getD default
theorem info_u8 : Tryz.prog.info? 5 = some infU8:=by kernel_rfl
theorem mulR_n (w : World) (a b : Nat) (ha : a < K4) (hb : b < K4) : Calls Tryz.prog 82 #[fv a,fv b] w (Gets w (fv (mulP a b))):=by
 refine Sy.enter (args:=[fv a,fv b]) Tryz.func82 rfl kL ?_
 refine sC ?_
 refine sM 97 (fcs a) (fun g0 => ?_)
 refine sM 97 (fcs b) (fun g1 => ?_)
 refine sM 97 (fcs 0) (fun g2 => ?_)
 refine sH (fun j => j == 4) ?_
 refine sD 0 rfl (.agg modcs) (qF 54 #[] (refP_any)) <| sD 1 rfl (fv a) (qL 0 g0 0 4 97 97 (fcs a) rfl Tryz.underlying97) <| sD 2 rfl (fv b) (qL 1 g1 0 4 97 97 (fcs b) rfl Tryz.underlying97) ?_
 obtain ⟨z1,hz1⟩ : ∃ z : Nat,z = mulP a b:=⟨_,rfl⟩
 have lz1 : z1 < K4:=by rw [hz1]; exact mod_lt _
 refine sD 3 rfl (fv z1) (qF 106 #[.agg modcs,fv a,fv b] (fun w => by rw [hz1]; exact mulR_any w a b lK lK)) <| sX 4 rfl 2 g2 97 (fcs 0) (fcs z1) (wS 0 97 (fcs z1) rfl) ?_
 refine sI ?_
 refine Sy.ret ?_
 rw [show (fv (mulP a b) : Value) = fv z1 from by rw [hz1]]
 exact rC (v:=fv z1) 97 g2 2 (fcs z1) rfl Tryz.underlying97
theorem addR_n (w : World) (a b : Nat) (ha : a < K4) (hb : b < K4) : Calls Tryz.prog 114 #[fv a,fv b] w (Gets w (fv (addP a b))):=by
 refine Sy.enter (args:=[fv a,fv b]) Tryz.func114 rfl kL ?_
 refine sC ?_
 refine sM 97 (fcs a) (fun g0 => ?_)
 refine sM 97 (fcs b) (fun g1 => ?_)
 refine sM 97 (fcs 0) (fun g2 => ?_)
 refine sH (fun j => j == 4) ?_
 refine sD 0 rfl (.agg modcs) (qF 54 #[] (refP_any)) <| sD 1 rfl (fv a) (qL 0 g0 0 4 97 97 (fcs a) rfl Tryz.underlying97) <| sD 2 rfl (fv b) (qL 1 g1 0 4 97 97 (fcs b) rfl Tryz.underlying97) ?_
 obtain ⟨z1,hz1⟩ : ∃ z : Nat,z = addP a b:=⟨_,rfl⟩
 have lz1 : z1 < K4:=by rw [hz1]; exact mod_lt _
 refine sD 3 rfl (fv z1) (qF 105 #[.agg modcs,fv a,fv b] (fun w => by rw [hz1]; exact addR_any w a b lK lK)) <| sX 4 rfl 2 g2 97 (fcs 0) (fcs z1) (wS 0 97 (fcs z1) rfl) ?_
 refine sI ?_
 refine Sy.ret ?_
 rw [show (fv (addP a b) : Value) = fv z1 from by rw [hz1]]
 exact rC (v:=fv z1) 97 g2 2 (fcs z1) rfl Tryz.underlying97
def cubeN (x : Nat) : Nat:=addP (mulP x (mulP x x)) 7
theorem cubeN_lt (x : Nat) : cubeN x < K4:=mod_lt _
theorem cubeR_n (w : World) (x : Nat) (hx : x < K4) : Calls Tryz.prog 111 #[fv x] w (Gets w (fv (cubeN x))):=by
 refine Sy.enter (args:=[fv x]) Tryz.func111 rfl kL ?_
 refine sC ?_
 refine sM 97 (fcs x) (fun g0 => ?_)
 refine sM 97 (fcs 0) (fun g1 => ?_)
 refine sH (fun j => j == 7) ?_
 refine sD 0 rfl (fv x) (qL 0 g0 0 4 97 97 (fcs x) rfl Tryz.underlying97) <| sD 1 rfl (fv x) (qL 0 g0 0 4 97 97 (fcs x) rfl Tryz.underlying97) <| sD 2 rfl (fv x) (qL 0 g0 0 4 97 97 (fcs x) rfl Tryz.underlying97) ?_
 obtain ⟨z1,hz1⟩ : ∃ z : Nat,z = mulP x x:=⟨_,rfl⟩
 have lz1 : z1 < K4:=by rw [hz1]; exact mod_lt _
 refine sD 3 rfl (fv z1) (qF 82 #[fv x,fv x] (fun w => by rw [hz1]; exact mulR_n w x x lK lK)) ?_
 obtain ⟨z2,hz2⟩ : ∃ z : Nat,z = mulP x z1:=⟨_,rfl⟩
 have lz2 : z2 < K4:=by rw [hz2]; exact mod_lt _
 refine sD 4 rfl (fv z2) (qF 82 #[fv x,fv z1] (fun w => by rw [hz2]; exact mulR_n w x z1 lK lK)) <| sD 5 rfl (fv 7) (qF 132 #[.int .u64 7] (fun w => small_c w 7 (by decide))) ?_
 obtain ⟨z3,hz3⟩ : ∃ z : Nat,z = addP z2 7:=⟨_,rfl⟩
 have lz3 : z3 < K4:=by rw [hz3]; exact mod_lt _
 refine sD 6 rfl (fv z3) (qF 114 #[fv z2,fv 7] (fun w => by rw [hz3]; exact addR_n w z2 7 lK lK)) <| sX 7 rfl 1 g1 97 (fcs 0) (fcs z3) (wS 0 97 (fcs z3) rfl) ?_
 refine sI ?_
 refine Sy.ret ?_
 rw [show (fv (cubeN x) : Value) = fv z3 from by unfold cubeN; rw [hz3,hz2,hz1]]
 exact rC (v:=fv z3) 97 g1 1 (fcs z3) rfl Tryz.underlying97
theorem cubeN_val (u : Fp) : cubeN u.val = (u * u * u + 7).val:=by
 have e : u * (u * u) + 7 = u * u * u + 7:=by grobner
 rw [← e]
 rfl
def liftB (l : List UInt8) : Bool:=decide (valB l < pM) && (sqrtS (cubeN (valB l))).2
theorem sqrt_fin (x : Nat) : (sqrtS x).1 < pM:=by
 unfold sqrtS
 split
 ·exact Nat.pos_of_ne_zero (by decide +kernel)
 ·split
  ·exact mod_lt_p _
  ·show rootR x < pM
   rw [← rootR_red]; exact mod_lt_p _
def liftP (l : List UInt8) : Pt:=if h : liftB l = true then some (⟨valB l,by unfold liftB at h; simp at h; exact h.1⟩,⟨(sqrtS (cubeN (valB l))).1,sqrt_fin _⟩) else none
theorem lift_no {l : List UInt8} (h : liftB l = false) : liftP l = none:=by unfold liftP; rw [dif_neg (by simp [h])]
theorem lift_yes {l : List UInt8} (h : liftB l = true) : ∃ u y : Fp,u.val = valB l ∧ y.val = (sqrtS (cubeN (valB l))).1 ∧ liftP l = some (u,y) ∧ y * y = u * u * u + 7 ∧ y.val % 2 = 0:=by
 refine ⟨_,_,rfl,rfl,by unfold liftP; rw [dif_pos h],?_,?_⟩
 ·have h2 : (sqrtS (cubeN (valB l))).2 = true:=by unfold liftB at h; simp at h; exact h.2
  have hm:=sqrt_mul _ h2
  refine Fin.ext ?_
  have hv : valB l < pM:=by unfold liftB at h; simp at h; exact h.1
  have e:=cubeN_val ⟨valB l,hv⟩
  show mulP (sqrtS (cubeN (valB l))).1 (sqrtS (cubeN (valB l))).1 = _
  rw [hm, ← e]
  exact Nat.mod_eq_of_lt (mod_lt_p _)
 ·have:=sqrt_even (cubeN (valB l))
  rw [Nat.mod_eq_of_lt (sqrt_fin _)] at this
  exact this
theorem read_yes {l : List UInt8} {u : Fp} (h : u.val = valB l) : readS l = (u.val,true):=by
 unfold readS
 rw [if_pos (by rw [← h]; exact u.isLt),h]
theorem read_no {l : List UInt8} (h : ¬ valB l < pM) : readS l = (0,false):=by unfold readS; rw [if_neg h]
theorem lift_in (w : World) (l : List UInt8) (hl : l.length = 32) (u : Fp) (hu : u.val = valB l) : Calls Tryz.prog 107 #[.agg (l.map bv).toArray] w (Gets w (.tuple #[ptv (liftP l),.bool (liftB l)])):=by
 have cR : ∀ w,Calls Tryz.prog 161 #[.agg (l.map bv).toArray] w (Gets w (.tuple #[fv u.val,.bool true])):=fun w => by
  have h:=read_any w l hl
  rw [read_yes hu] at h
  exact h
 refine Sy.enter (args:=[.agg (l.map bv).toArray]) Tryz.func107 rfl kL ?_
 refine sC ?_
 refine sM 31 (l.map bv).toArray (fun g0 => ?_)
 refine sM 71 (pcs 0 0 false) (fun g1 => ?_)
 refine sP (.bool false) ?_
 refine sA ?_
 refine sS (.agg (l.map bv).toArray) (Quiet.load 0 g0 0 32 31 31 (l.map bv).toArray _ _ rfl kR kR Tryz.underlying31 rfl kR _ (key_whole l hl) (key_size l hl)) <| sS (.tuple #[fv u.val,.bool true]) (qF 161 #[.agg (l.map bv).toArray] (cR)) <| sP (.tuple #[fv u.val,.bool true]) <| sP (fv u.val) <| sP (.bool true) ?_
 refine sM 69 (fcs 0) (fun g2 => ?_)
 refine sW 2 g2 69 (fcs 0) (fcs u.val) (wS 0 69 (fcs u.val) rfl) <| sP (.bool true) ?_
 refine sA ?_
 refine sS (fv u.val) (qL 2 g2 0 4 69 69 (fcs u.val) rfl Tryz.underlying69) ?_
 obtain ⟨z1,hz1⟩ : ∃ z : Fp,z = u * u * u + 7:=⟨_,rfl⟩
 refine sS (fv z1.val) (qF 163 #[fv u.val] (by rw [hz1]; exact fun w => square_c w u)) ?_
 obtain ⟨r1,hr1⟩ : ∃ z : Nat,z = (sqrtS z1.val).1:=⟨_,rfl⟩
 obtain ⟨k1,hk1⟩ : ∃ z : Bool,z = (sqrtS z1.val).2:=⟨_,rfl⟩
 have lr1 : r1 < K4:=by rw [hr1]; exact sqrt_lt _
 refine sS (.tuple #[fv r1,.bool k1]) (qF 162 #[fv z1.val] (fun w => by rw [hr1,hk1]; exact sqrt_any w z1.val lK)) <| sP (.tuple #[fv r1,.bool k1]) <| sP (fv r1) <| sP (.bool k1) ?_
 refine sM 69 (fcs 0) (fun g3 => ?_)
 refine sW 3 g3 69 (fcs 0) (fcs r1) (wS 0 69 (fcs r1) rfl) <| sP (.bool k1) ?_
 refine sG <| Sy.seq <| sC ?_
 refine sP (.bool true) <| sP (.bool false) <| sP (.bool false) <| sP (.bool k1) ?_
 cases k1
 ·refine sP (.bool true) <| sP (.bool true) ?_
  refine sG <| sT <| sC ?_
  refine sS (pv 0 0 true) (qF 140 #[] (zero_c)) <| sW 1 g1 71 (pcs 0 0 false) (pcs 0 0 true) (wS 0 71 (pcs 0 0 true) rfl) <| sP (.bool false) ?_
  refine sG <| Sy.ret <| Sy.then_ret ?_
  rw [show (.tuple #[ptv (liftP l),.bool (liftB l)] : Value) = .tuple #[pv 0 0 true,.bool false] from by
   have hb : liftB l = false:=by unfold liftB; rw [← hu,cubeN_val, ← hz1, ← hk1]; simp
   rw [hb,lift_no hb]; rfl]
  exact Sy.ret2 (v:=pv 0 0 true) (u:=.bool false) rfl (.inl (Res.cell (ty':=71) g1 1 (pcs 0 0 true) _ kR kR Tryz.underlying71 rfl kR kR)) (.inl (show _ = _ by kernel_rfl))
 ·refine sP (.bool false) <| sP (.bool false) ?_
  refine sG <| sU <| Sy.skip <| sB ?_
  refine sS (fv u.val) (qL 2 g2 0 4 69 69 (fcs u.val) rfl Tryz.underlying69) <| sS (fv r1) (qL 3 g3 0 4 69 69 (fcs r1) rfl Tryz.underlying69) <| sP (pv u.val r1 false) <| sW 1 g1 71 (pcs 0 0 false) (pcs u.val r1 false) (wS 0 71 (pcs u.val r1 false) rfl) <| sP (.bool true) ?_
  refine sG <| Sy.ret ?_
  rw [show (.tuple #[ptv (liftP l),.bool (liftB l)] : Value) = .tuple #[pv u.val r1 false,.bool true] from by
   have hb : liftB l = true:=by unfold liftB; rw [← hu,cubeN_val, ← hz1, ← hk1]; simp [u.isLt]
   obtain ⟨u2,y2,e1,e2,e3,_,_⟩:=lift_yes hb
   rw [hb,e3]
   unfold ptv
   simp only
   rw [e1,e2, ← hu,cubeN_val, ← hz1, ← hr1]]
  exact Sy.ret2 (v:=pv u.val r1 false) (u:=.bool true) rfl (.inl (Res.cell (ty':=71) g1 1 (pcs u.val r1 false) _ kR kR Tryz.underlying71 rfl kR kR)) (.inl (show _ = _ by kernel_rfl))
theorem lift_out (w : World) (l : List UInt8) (hl : l.length = 32) (hu : ¬ valB l < pM) : Calls Tryz.prog 107 #[.agg (l.map bv).toArray] w (Gets w (.tuple #[ptv (liftP l),.bool (liftB l)])):=by
 have cR : ∀ w,Calls Tryz.prog 161 #[.agg (l.map bv).toArray] w (Gets w (.tuple #[fv (0 : Fp).val,.bool false])):=fun w => by
  have h:=read_any w l hl
  rw [read_no hu] at h
  exact h
 refine Sy.enter (args:=[.agg (l.map bv).toArray]) Tryz.func107 rfl kL ?_
 refine sC ?_
 refine sM 31 (l.map bv).toArray (fun g0 => ?_)
 refine sM 71 (pcs 0 0 false) (fun g1 => ?_)
 refine sP (.bool false) ?_
 refine sA ?_
 refine sS (.agg (l.map bv).toArray) (Quiet.load 0 g0 0 32 31 31 (l.map bv).toArray _ _ rfl kR kR Tryz.underlying31 rfl kR _ (key_whole l hl) (key_size l hl)) <| sS (.tuple #[fv ((0 : Fp).val),.bool false]) (qF 161 #[.agg (l.map bv).toArray] (cR)) <| sP (.tuple #[fv ((0 : Fp).val),.bool false]) <| sP (fv ((0 : Fp).val)) <| sP (.bool false) ?_
 refine sM 69 (fcs 0) (fun g2 => ?_)
 refine sW 2 g2 69 (fcs 0) (fcs ((0 : Fp).val)) (wS 0 69 (fcs ((0 : Fp).val)) rfl) <| sP (.bool false) ?_
 refine sA ?_
 refine sS (fv ((0 : Fp).val)) (qL 2 g2 0 4 69 69 (fcs ((0 : Fp).val)) rfl Tryz.underlying69) ?_
 obtain ⟨z1,hz1⟩ : ∃ z : Fp,z = (0 : Fp) * (0 : Fp) * (0 : Fp) + 7:=⟨_,rfl⟩
 refine sS (fv z1.val) (qF 163 #[fv ((0 : Fp).val)] (by rw [hz1]; exact fun w => square_c w (0 : Fp))) ?_
 obtain ⟨r1,hr1⟩ : ∃ z : Nat,z = (sqrtS z1.val).1:=⟨_,rfl⟩
 obtain ⟨k1,hk1⟩ : ∃ z : Bool,z = (sqrtS z1.val).2:=⟨_,rfl⟩
 have lr1 : r1 < K4:=by rw [hr1]; exact sqrt_lt _
 refine sS (.tuple #[fv r1,.bool k1]) (qF 162 #[fv z1.val] (fun w => by rw [hr1,hk1]; exact sqrt_any w z1.val lK)) <| sP (.tuple #[fv r1,.bool k1]) <| sP (fv r1) <| sP (.bool k1) ?_
 refine sM 69 (fcs 0) (fun g3 => ?_)
 refine sW 3 g3 69 (fcs 0) (fcs r1) (wS 0 69 (fcs r1) rfl) <| sP (.bool k1) ?_
 refine sG <| Sy.seq <| sC ?_
 refine sP (.bool false) <| sP (.bool true) <| sP (.bool true) ?_
 refine sN <| sN ?_
 refine sP (.bool true) ?_
 refine sG <| sT <| sC ?_
 refine sS (pv 0 0 true) (qF 140 #[] (zero_c)) <| sW 1 g1 71 (pcs 0 0 false) (pcs 0 0 true) (wS 0 71 (pcs 0 0 true) rfl) <| sP (.bool false) ?_
 refine sG <| Sy.ret <| Sy.then_ret ?_
 rw [show (.tuple #[ptv (liftP l),.bool (liftB l)] : Value) = .tuple #[pv 0 0 true,.bool false] from by
   have hb : liftB l = false:=by unfold liftB; simp [hu]
   rw [hb,lift_no hb]; rfl]
 exact Sy.ret2 (v:=pv 0 0 true) (u:=.bool false) rfl (.inl (Res.cell (ty':=71) g1 1 (pcs 0 0 true) _ kR kR Tryz.underlying71 rfl kR kR)) (.inl (show _ = _ by kernel_rfl))
theorem lift_any (w : World) (l : List UInt8) (hl : l.length = 32) : Calls Tryz.prog 107 #[.agg (l.map bv).toArray] w (Gets w (.tuple #[ptv (liftP l),.bool (liftB l)])):=by
 by_cases h : valB l < pM
 ·exact lift_in w l hl ⟨valB l,h⟩ rfl
 ·exact lift_out w l hl h
end Cu
end
section
namespace Cu
open Go.RowKit Sy
set_option maxRecDepth 100000
set_option maxHeartbeats 4000000
def dg (m j : Nat) : Nat:=m / 16 ^ (63 - j) % 16
def dgA (m j : Nat) : List Value:=[.int .u8 ((dg m j : Nat) : Int)]
theorem dgA_len (m : Nat) : ∀ j,(dgA m j).length = 1:=fun _ => rfl
theorem byte_get (m k : Nat) (hk : k < 32) : ((bytesS m).getD k 0).toNat = m / 2 ^ (8 * (31 - k)) % 256:=by
 have h : ∀ n j,j < n → (lowB m n).getD j 0 = byteN m (n - 1 - j):=by
  intro n
  induction n with
  | zero => intro j hj; omega
  | succ n ih =>
   intro j hj
   cases j with
   | zero => rfl
   | succ j =>
    show (lowB m n).getD j 0 = _
    rw [ih j (by omega)]
    congr 1
    omega
 unfold bytesS
 rw [h 32 k hk,show 32 - 1 - k = 31 - k by omega]
 unfold byteN
 rw [UInt8.toNat_ofNat']
 omega
theorem p16 (k : Nat) : (2 : Nat) ^ (8 * k) = 16 ^ (2 * k):=by
 rw [show 8 * k = 4 * (2 * k) by omega,Nat.pow_mul]
theorem dg_hi (m k : Nat) (hk : k < 32) : ((bytesS m).getD k 0).toNat / 16 = dg m (2 * k):=by
 rw [byte_get m k hk,p16]
 unfold dg
 rw [show 63 - 2 * k = 2 * (31 - k) + 1 by omega,Nat.pow_succ, ← Nat.div_div_eq_div_mul]
 omega
theorem dg_lo (m k : Nat) (hk : k < 32) : ((bytesS m).getD k 0).toNat % 16 = dg m (2 * k + 1):=by
 rw [byte_get m k hk,p16]
 unfold dg
 rw [show 63 - (2 * k + 1) = 2 * (31 - k) by omega]
 omega
theorem exec_hi (F : Slots) (o : Oper) (t : TypeId) (x y : Operand) {yt : TypeId} (b : UInt8) (d : Nat) (ho : o.op = .binOp .shr t x y yt) (hx : evF F x = bv b) (hy : evF F y = .int .u64 4) (h : b.toNat / 16 = d) (w : World) : (execOp (evF F) o).run Tryz.prog w = .ok (.value (.int .u8 ((d : Nat) : Int))) w :=
 exec_int .shr t x y .u8 (b.toNat : Int) 4 _ ho hx hy (int_shr t .u8 .u64 _ _ _ (by decide) (by
  show Int.fdiv (b.toNat : Int) ((16 : Nat) : Int) = _
  rw [← h,Int.fdiv_eq_ediv_of_nonneg _ (by omega)]
  omega)) w
theorem and15 : ∀ n : Fin 256,IntKind.u8.wrap ((BitVec.ofInt 8 ((n.val : Nat) : Int) &&& BitVec.ofInt 8 15).toNat : Int) = ((n.val % 16 : Nat) : Int):=by decide +kernel
theorem exec_lo (F : Slots) (o : Oper) (t : TypeId) (x y : Operand) {yt : TypeId} (b : UInt8) (d : Nat) (ho : o.op = .binOp .and t x y yt) (hx : evF F x = bv b) (hy : evF F y = .int .u8 15) (h : b.toNat % 16 = d) (w : World) : (execOp (evF F) o).run Tryz.prog w = .ok (.value (.int .u8 ((d : Nat) : Int))) w :=
 exec_int .and t x y .u8 (b.toNat : Int) 15 _ ho hx hy (int_and t .u8 _ _ _ (by
  rw [← h]
  exact and15 ⟨b.toNat,b.toNat_lt⟩)) w
theorem digits_c (w : World) (x : Nat) (hx : x < K4) : Calls Tryz.prog 201 #[fv x] w (Gets w (.agg (flat (dgA (x % Sc.pM)) 64).toArray)):=by
 obtain ⟨m,hm⟩ : ∃ m,m = x % Sc.pM:=⟨_,rfl⟩
 obtain ⟨l,hl0⟩ : ∃ l,l = bytesS m:=⟨_,rfl⟩
 have hl : l.length = 32:=by rw [hl0]; exact bytesS_length m
 have cB : ∀ w,Calls Tryz.prog 91 #[fv x] w (Gets w (.agg (l.map bv).toArray)):=fun w => by rw [hl0,hm]; exact Sc.bytes_any w x hx
 rw [← hm]
 refine Sy.enter (args:=[fv x]) Tryz.func201 rfl kL ?_
 refine sC ?_
 refine sM 24 (fcs x) (fun g0 => ?_)
 refine Sy.make kR 26 (flat (fun _ => [.int .u8 0]) 64).toArray ptr kF (fun g1 => ?_)
 refine sA ?_
 refine Sy.make kR 26 (flat (fun _ => [.int .u8 0]) 64).toArray ptr kF (fun g2 => ?_)
 refine sG <| Sy.seq <| sC ?_
 refine sS (fv x) (qL 0 g0 0 4 24 24 (fcs x) rfl Tryz.underlying24) <| sS (.agg (l.map bv).toArray) (qF 91 #[fv x] (cB)) <| sP (.int .i64 0) ?_
 refine sG <| Sy.block ?_
 refine Sy.loopK 32 (fun k1 => [(2,.pointer (some ⟨g1,0,none⟩)),(3,.pointer (some ⟨g2,0,none⟩)),(7,.agg (l.map bv).toArray),(8,.int .i64 ((k1 : Nat) : Int))]) (fun k1 => [(g1,26,(flat (fun _ => [.int .u8 0]) 64).toArray),(g2,26,(flat (upto (2 * k1) (dgA m) [.int .u8 0]) 64).toArray)]) [false,true,true] (M:=[(g1,26,(flat (fun _ => [.int .u8 0]) 64).toArray),(g2,26,(flat (fun _ => [.int .u8 0]) 64).toArray)]) (all_cons kR (all_cons kR (all_cons kR (all_cons kR all_nil)))) kR (bcons rfl (bcons (beq (upto_zero)) rfl)) (fun k1 hk1 => ?_)
 refine sC ?_
 obtain ⟨b1,hb1⟩ : ∃ z : Bool,z = decide (k1 < 32):=⟨_,rfl⟩
 refine sS (.bool b1) (Quiet.pure (exec_int .lss _ _ _ .i64 _ _ _ rfl rfl rfl (int_lss _ _ _ _ _ (by rw [hb1]; exact decide_eq_decide.2 (by omega))))) ?_
 refine sG <| Sy.seq ?_
 cases b1
 ·have lb1 : ¬ (k1 < 32):=of_decide_eq_false hb1.symm
  refine sU <| Sy.exit <| Sy.then_exit <| Sy.then_exit ?_
  obtain rfl : k1 = 32:=by omega
  refine Sy.in_exit <| sB ?_
  refine sS (.agg (flat (upto (2 * 32) (dgA m) [.int .u8 0]) 64).toArray) (Quiet.load 1 g2 0 64 26 26 (flat (upto (2 * 32) (dgA m) [.int .u8 0]) 64).toArray _ _ rfl kR kR Tryz.underlying26 rfl kR _ (flat_whole (upto_len (dgA_len m) rfl _) rfl) (flat_wsize (upto_len (dgA_len m) rfl _) rfl)) ?_
  refine Sy.write kR 0 g1 26 (flat (fun _ => [.int .u8 0]) 64).toArray (flat (upto (2 * 32) (dgA m) [.int .u8 0]) 64).toArray kR (Writes.store 0 26 (flat (upto (2 * 32) (dgA m) [.int .u8 0]) 64).toArray _ _ rfl kR kR (flat_info (upto_len (dgA_len m) rfl _) kR) (flat_over (upto_len (dgA_len m) rfl _) rfl kR) (flat_one (upto_len (dgA_len m) rfl _) _ (upto_one (fun _ u hu => by rw [List.mem_singleton.1 hu]; rfl) (fun u hu => by rw [List.mem_singleton.1 hu]; rfl) _)) (flat_put (upto_len (dgA_len m) rfl _) kR)) ?_
  refine sG <| Sy.ret ?_
  rw [show (.agg (flat (dgA m) 64).toArray : Value) = .agg (flat (upto (2 * 32) (dgA m) [.int .u8 0]) 64).toArray from congrArg Value.agg upto_all.symm]
  exact Sy.ret1 rfl (v:=.agg (flat (upto (2 * 32) (dgA m) [.int .u8 0]) 64).toArray) (.inl (Res.cell (ty':=26) g1 0 (flat (upto (2 * 32) (dgA m) [.int .u8 0]) 64).toArray _ kR kR Tryz.underlying26 rfl (flat_info (upto_len (dgA_len m) rfl _) kR) rfl))
 ·have lb1 : k1 < 32:=of_decide_eq_true hb1.symm
  refine sT <| Sy.skip <| Sy.then_ <| Sy.seq <| Sy.block <| sC ?_
  refine sP (.int .i64 ((k1 : Nat) : Int)) <| sS (bv (l.getD k1 0)) (Quiet.pure (exec_idx _ _ _ _ _ 32 k1 .i64 _ _ rfl rfl rfl Tryz.underlying30 Tryz.underlying5 rfl kF (by omega) (key_at l hl k1 (by omega)))) <| sP (.int .i64 ((k1 : Nat) : Int)) <| sP (bv (l.getD k1 0)) ?_
  refine sG <| Sy.region ?_
  refine sP (.int .i64 ((k1 : Nat) : Int)) <| sS (.int .i64 ((2 * k1 : Nat) : Int)) (Quiet.pure (exec_int .mul _ _ _ .i64 _ _ _ rfl rfl rfl (int_mul _ _ _ _ _ ((wrap_i64 (by omega) (by omega)).trans (by omega))))) <| sP (.int .i64 ((k1 : Nat) : Int)) <| sS (.int .i64 ((2 * k1 : Nat) : Int)) (Quiet.pure (exec_int .mul _ _ _ .i64 _ _ _ rfl rfl rfl (int_mul _ _ _ _ _ ((wrap_i64 (by omega) (by omega)).trans (by omega))))) <| sS (.int .i64 (((2 * k1) + 1 : Nat) : Int)) (Quiet.pure (exec_int .add _ _ _ .i64 _ _ _ rfl rfl rfl (int_add _ _ _ _ _ ((wrap_i64 (by omega) (by omega)).trans (by omega))))) <| sP (bv (l.getD k1 0)) <| sS (.int .u8 ((dg m (2 * k1) : Nat) : Int)) (Quiet.pure (exec_hi _ _ _ _ _ (l.getD k1 0) _ rfl rfl rfl (by rw [hl0]; exact dg_hi m k1 (by omega)))) <| sP (bv (l.getD k1 0)) ?_
  refine sS (.int .u8 ((dg m (2 * k1 + 1) : Nat) : Int)) (Quiet.pure (exec_lo _ _ _ _ _ (l.getD k1 0) _ rfl rfl rfl (by rw [hl0]; exact dg_lo m k1 (by omega)))) <| sS (.pointer (some ⟨g2,0 + (2 * k1) * 1,none⟩)) (Quiet.pure (exec_atA 26 _ _ _ g2 0 _ (2 * k1) 1 .i64 rfl rfl rfl Tryz.underlying26 kF (by omega))) ?_
  refine Sy.write kR 1 g2 26 (flat (upto (2 * k1) (dgA m) [.int .u8 0]) 64).toArray (flat (upto (2 * k1 + 1) (dgA m) [.int .u8 0]) 64).toArray kR (Writes.one (0 + (2 * k1) * 1) 5 (.int .u8 ((dg m (2 * k1) : Nat) : Int)) _ _ rfl kR kR kR rfl rfl (flat_lt1 (upto_len (dgA_len m) rfl _) (k:=2 * k1) (by omega) (by omega)) ((congrArg (Array.setIfInBounds _ · _) (show 0 + (2 * k1) * 1 = 2 * k1 by omega)).trans (upto_set1 (dgA_len m) (rfl) (by omega)))) ?_
  refine sS (.pointer (some ⟨g2,0 + ((2 * k1) + 1) * 1,none⟩)) (Quiet.pure (exec_atA 26 _ _ _ g2 0 _ ((2 * k1) + 1) 1 .i64 rfl rfl rfl Tryz.underlying26 kF (by omega))) ?_
  refine Sy.write kR 1 g2 26 (flat (upto (2 * k1 + 1) (dgA m) [.int .u8 0]) 64).toArray (flat (upto (2 * k1 + 1 + 1) (dgA m) [.int .u8 0]) 64).toArray kR (Writes.one (0 + ((2 * k1) + 1) * 1) 5 (.int .u8 ((dg m (2 * k1 + 1) : Nat) : Int)) _ _ rfl kR kR kR rfl rfl (flat_lt1 (upto_len (dgA_len m) rfl _) (k:=2 * k1 + 1) (by omega) (by omega)) ((congrArg (Array.setIfInBounds _ · _) (show 0 + ((2 * k1) + 1) * 1 = 2 * k1 + 1 by omega)).trans (upto_set1 (dgA_len m) (rfl) (by omega)))) ?_
  refine Sy.nil <| Sy.in_ <| Sy.then_ <| Sy.region ?_
  refine sS (.int .i64 ((k1 + 1 : Nat) : Int)) (Quiet.pure (exec_int .add _ _ _ .i64 _ _ _ rfl rfl rfl (int_add _ _ _ _ _ ((wrap_i64 (by omega) (by omega)).trans (by omega))))) <| sP (.int .i64 ((k1 + 1 : Nat) : Int)) ?_
  refine Sy.nil ?_
  exact Sy.againK [true,true] (M:=[(g1,26,(flat (fun _ => [.int .u8 0]) 64).toArray),(g2,26,(flat (upto (2 * k1 + 1 + 1) (dgA m) [.int .u8 0]) 64).toArray)]) (by omega) (all_cons kR (all_cons kR (all_cons kR (all_cons kR all_nil)))) kR (bcons rfl (bcons (beq (congrArg (fun t => (flat (upto t (dgA m) [.int .u8 0]) 64).toArray) (show 2 * k1 + 1 + 1 = 2 * (k1 + 1) by omega))) rfl))
def tws (x y z : Nat) : List Value:=fws x ++ (fws y ++ fws z)
def jws (a : J) : List Value:=tws a.x.val a.y.val a.z.val
def fewL (a : J) : Nat → J
 | 0 => ⟨0,0,0⟩
 | k + 1 => addJ (fewL a k) a
theorem fewL_rep {a : J} {P : Pt} (hP : Ec.On P) (h : Ec.Rep a P) : ∀ k,Ec.Rep (fewL a k) (Ec.nm finv k P)
 | 0 => rfl
 | k + 1 => addJ_rep (hP.nm fld k) hP (fewL_rep hP h k) h
def fewA (a : J) (j : Nat) : List Value:=jws (fewL a j)
theorem fewA_len (a : J) : ∀ j,(fewA a j).length = 12:=fun _ => rfl
theorem few_first (a : J) : (flat (fun _ => tws 0 0 0) 16).toArray = (flat (upto 1 (fewA a) (tws 0 0 0)) 16).toArray:=congrArg List.toArray (flat_congr fun j _ => by
 unfold upto
 split
 ·obtain rfl : j = 0:=by omega
  rfl
 ·rfl)
theorem jws_one (a : J) : ∀ u ∈ jws a,u.oneCell' = true:=fun u hu => by
 unfold jws tws fws at hu
 simp [qv] at hu
 rcases hu with rfl | rfl | rfl | rfl | rfl | rfl | rfl | rfl | rfl | rfl | rfl | rfl <;> rfl
theorem few_c (w : World) (P : Pt) (x y : Nat) (i : Bool) (hP : ptv P = pv x y i) : Calls Tryz.prog 202 #[pv x y i] w (Gets w (.agg (flat (fewA (threeJ P)) 16).toArray)):=by
 obtain ⟨a,ha⟩ : ∃ a,a = threeJ P:=⟨_,rfl⟩
 have c3 : ∀ w,Calls Tryz.prog 213 #[pv x y i] w (Gets w (tv a.x.val a.y.val a.z.val)):=fun w => by
  have h:=three_c w P
  rw [hP, ← ha] at h
  exact h
 rw [← ha]
 refine Sy.enter (args:=[pv x y i]) Tryz.func202 rfl kL ?_
 refine sC ?_
 refine sM 71 (pcs x y i) (fun g0 => ?_)
 refine Sy.make kR 243 (flat (fun _ => tws 0 0 0) 16).toArray ptr kF (fun g1 => ?_)
 refine sA ?_
 refine Sy.make kR 243 (flat (fun _ => tws 0 0 0) 16).toArray ptr kF (fun g2 => ?_)
 refine sA ?_
 refine sS (pv x y i) (qL 0 g0 0 9 71 71 (pcs x y i) rfl Tryz.underlying71) <| sS (tv a.x.val a.y.val a.z.val) (qF 213 #[pv x y i] (c3)) ?_
 refine sM 212 (tcs 0 0 0) (fun g3 => ?_)
 refine sW 3 g3 212 (tcs 0 0 0) (tcs a.x.val a.y.val a.z.val) (wS 0 212 (tcs a.x.val a.y.val a.z.val) rfl) ?_
 refine sG <| Sy.seq <| sC ?_
 refine sP (.int .i64 1) ?_
 refine sG <| Sy.block ?_
 refine Sy.loopK 15 (fun k1 => [(2,.pointer (some ⟨g1,0,none⟩)),(3,.pointer (some ⟨g2,0,none⟩)),(4,.pointer (some ⟨g3,0,none⟩)),(5,.int .i64 ((k1 + 1 : Nat) : Int))]) (fun k1 => [(g1,243,(flat (fun _ => tws 0 0 0) 16).toArray),(g2,243,(flat (upto (k1 + 1) (fewA a) (tws 0 0 0)) 16).toArray),(g3,212,(tcs a.x.val a.y.val a.z.val))]) [false,true,true,true] (M:=[(g1,243,(flat (fun _ => tws 0 0 0) 16).toArray),(g2,243,(flat (fun _ => tws 0 0 0) 16).toArray),(g3,212,(tcs a.x.val a.y.val a.z.val))]) (all_cons kR (all_cons kR (all_cons kR (all_cons kR all_nil)))) kR (bcons rfl (bcons (beq (few_first a)) (bcons rfl rfl))) (fun k1 hk1 => ?_)
 refine Sy.seq <| sC ?_
 refine sP (.int .i64 ((k1 + 1 : Nat) : Int)) ?_
 obtain ⟨b1,hb1⟩ : ∃ z : Bool,z = decide (k1 + 1 < 16):=⟨_,rfl⟩
 refine sS (.bool b1) (Quiet.pure (exec_int .lss _ _ _ .i64 _ _ _ rfl rfl rfl (int_lss _ _ _ _ _ (by rw [hb1]; exact decide_eq_decide.2 (by omega))))) ?_
 refine sG ?_
 cases b1
 ·have lb1 : ¬ (k1 + 1 < 16):=of_decide_eq_false hb1.symm
  refine sU <| Sy.exit <| Sy.then_exit <| Sy.then_exit ?_
  obtain rfl : k1 = 15:=by omega
  refine Sy.in_exit <| sB ?_
  refine sS (.agg (flat (upto (15 + 1) (fewA a) (tws 0 0 0)) 16).toArray) (Quiet.load 1 g2 0 192 243 243 (flat (upto (15 + 1) (fewA a) (tws 0 0 0)) 16).toArray _ _ rfl kR kR Tryz.underlying243 rfl kR _ (flat_whole (upto_len (fewA_len a) rfl _) rfl) (flat_wsize (upto_len (fewA_len a) rfl _) rfl)) ?_
  refine Sy.write kR 0 g1 243 (flat (fun _ => tws 0 0 0) 16).toArray (flat (upto (15 + 1) (fewA a) (tws 0 0 0)) 16).toArray kR (Writes.store 0 243 (flat (upto (15 + 1) (fewA a) (tws 0 0 0)) 16).toArray _ _ rfl kR kR (flat_info (upto_len (fewA_len a) rfl _) kR) (flat_over (upto_len (fewA_len a) rfl _) rfl kR) (flat_one (upto_len (fewA_len a) rfl _) _ (upto_one (fun _ => jws_one _) (jws_one ⟨0,0,0⟩) _)) (flat_put (upto_len (fewA_len a) rfl _) kR)) ?_
  refine sG <| Sy.ret ?_
  rw [show (.agg (flat (fewA a) 16).toArray : Value) = .agg (flat (upto (15 + 1) (fewA a) (tws 0 0 0)) 16).toArray from congrArg Value.agg upto_all.symm]
  exact Sy.ret1 rfl (v:=.agg (flat (upto (15 + 1) (fewA a) (tws 0 0 0)) 16).toArray) (.inl (Res.cell (ty':=243) g1 0 (flat (upto (15 + 1) (fewA a) (tws 0 0 0)) 16).toArray _ kR kR Tryz.underlying243 rfl (flat_info (upto_len (fewA_len a) rfl _) kR) rfl))
 ·have lb1 : k1 + 1 < 16:=of_decide_eq_true hb1.symm
  refine sT <| Sy.skip <| Sy.then_ <| Sy.seq <| Sy.block ?_
  refine Sy.regionD (fun j => j == 8) kR ?_
  refine sZ 0 rfl (.int .i64 ((k1 + 1 : Nat) : Int)) <| sZ 1 rfl (.int .i64 ((k1 + 1 : Nat) : Int)) <| sD 2 rfl (.int .i64 (((k1 + 1) - 1 : Nat) : Int)) (Quiet.pure (exec_int .sub _ _ _ .i64 _ _ _ rfl rfl rfl (int_sub _ _ _ _ _ ((wrap_i64 (by omega) (by omega)).trans (by omega))))) <| sD 3 rfl (.pointer (some ⟨g2,0 + ((k1 + 1) - 1) * 12,none⟩)) (Quiet.pure (exec_atA 243 _ _ _ g2 0 _ ((k1 + 1) - 1) 12 .i64 rfl rfl rfl Tryz.underlying243 kF (by omega))) <| sD 4 rfl (tv ((fewL a ((k1 + 1) - 1)).x.val) ((fewL a ((k1 + 1) - 1)).y.val) ((fewL a ((k1 + 1) - 1)).z.val)) (Quiet.load 1 g2 (0 + ((k1 + 1) - 1) * 12) 12 243 212 (flat (upto (k1 + 1) (fewA a) (tws 0 0 0)) 16).toArray _ _ rfl kR kR Tryz.underlying212 rfl kR _ ((flat_load (upto_len (fewA_len a) rfl _) (k:=(k1 + 1) - 1) (by omega) (by omega)).trans ((congrArg (fun l : List Value => Value.agg l.toArray) (upto_lt (by omega))).trans kR)) (flat_fit (upto_len (fewA_len a) rfl _) (k:=(k1 + 1) - 1) (by omega) (by omega))) <| sD 5 rfl (tv a.x.val a.y.val a.z.val) (qL 2 g3 0 12 212 212 (tcs a.x.val a.y.val a.z.val) rfl Tryz.underlying212) ?_
  obtain ⟨j1,hj1⟩ : ∃ z : J,z = addJ (fewL a ((k1 + 1) - 1)) a:=⟨_,rfl⟩
  refine sD 6 rfl (tv j1.x.val j1.y.val j1.z.val) (qF 178 #[tv ((fewL a ((k1 + 1) - 1)).x.val) ((fewL a ((k1 + 1) - 1)).y.val) ((fewL a ((k1 + 1) - 1)).z.val),tv a.x.val a.y.val a.z.val] (fun w => by rw [hj1]; exact addJ_c w (fewL a ((k1 + 1) - 1)) a)) <| sD 7 rfl (.pointer (some ⟨g2,0 + (k1 + 1) * 12,none⟩)) (Quiet.pure (exec_atA 243 _ _ _ g2 0 _ (k1 + 1) 12 .i64 rfl rfl rfl Tryz.underlying243 kF (by omega))) ?_
  refine Sy.writeD 8 rfl kR (by rfl) kR 1 g2 243 (flat (upto (k1 + 1) (fewA a) (tws 0 0 0)) 16).toArray (flat (upto (k1 + 1 + 1) (fewA a) (tws 0 0 0)) 16).toArray kR (Writes.store (0 + (k1 + 1) * 12) 212 (tcs j1.x.val j1.y.val j1.z.val) _ _ rfl kR kR kR (flat_fit (upto_len (fewA_len a) rfl _) (k:=k1 + 1) (by omega) (by omega)) kR (upto_set (v:=(tcs j1.x.val j1.y.val j1.z.val).toList) (fewA_len a) rfl (by rw [hj1]; rfl) (by omega) (by omega))) ?_
  refine sE ?_
  refine Sy.in_ <| Sy.then_ <| Sy.region ?_
  refine sP (.int .i64 ((k1 + 1 : Nat) : Int)) <| sS (.int .i64 (((k1 + 1) + 1 : Nat) : Int)) (Quiet.pure (exec_int .add _ _ _ .i64 _ _ _ rfl rfl rfl (int_add _ _ _ _ _ ((wrap_i64 (by omega) (by omega)).trans (by omega))))) <| sP (.int .i64 (((k1 + 1) + 1 : Nat) : Int)) ?_
  refine Sy.nil ?_
  exact Sy.againK [true,true,true] (M:=[(g1,243,(flat (fun _ => tws 0 0 0) 16).toArray),(g2,243,(flat (upto (k1 + 1 + 1) (fewA a) (tws 0 0 0)) 16).toArray),(g3,212,(tcs a.x.val a.y.val a.z.val))]) (by omega) (all_cons kR (all_cons kR (all_cons kR (all_cons kR all_nil)))) kR (bcons rfl (bcons rfl (bcons rfl rfl)))
end Cu
end
section
namespace Cu
open Go.RowKit Sy
set_option maxRecDepth 100000
set_option maxHeartbeats 4000000
structure Trm where
 k : Nat
 x : Nat
 y : Nat
 i : Bool
def trcs (k x y : Nat) (i : Bool) : Array Value:=(fws k ++ (fws x ++ (fws y ++ [Value.bool i]))).toArray
def trv (k x y : Nat) (i : Bool) : Value:=.agg (trcs k x y i)
def Trm.cells (t : Trm) : List Value:=fws t.k ++ (fws t.x ++ (fws t.y ++ [Value.bool t.i]))
def Trm.ok (t : Trm) : Prop:=t.k < K4 ∧ t.x < K4 ∧ t.y < K4
def Trm.pt (t : Trm) : Pt:=dec t.x t.y t.i
def Trm.kn (t : Trm) : Nat:=t.k % Sc.pM
def tmA (t : Trm) : List Value:=flat (dgA t.kn) 64 ++ flat (fewA (threeJ t.pt)) 16
def tmcs (t : Trm) : Array Value:=(tmA t).toArray
theorem tmA_len (T : Nat → Trm) : ∀ j,(tmA (T j)).length = 256:=fun _ => by
 unfold tmA
 rw [List.length_append,flat_len (dgA_len _),flat_len (fewA_len _)]
def zt : List Value:=List.replicate 64 (.int .u8 0) ++ List.replicate 192 (.int .u64 0)
noncomputable def infTm : TypeInfo:=(Tryz.prog.info? 246).getD default
theorem info_tm : Tryz.prog.info? 246 = some infTm:=by kernel_rfl
theorem dg_lt (m j : Nat) : dg m j < 16:=Nat.mod_lt _ (by decide)
theorem few_p (w : World) (P : Pt) : Calls Tryz.prog 202 #[ptv P] w (Gets w (.agg (flat (fewA (threeJ P)) 16).toArray)):=by
 rcases P with _ | ⟨u,v⟩
 ·exact few_c w none 0 0 true rfl
 ·exact few_c w (some (u,v)) u.val v.val false rfl
def dbN (a : J) : Nat → J
 | 0 => a
 | j + 1 => dblJ (dbN a j)
def inJ (T : Nat → Trm) (i : Nat) (a : J) : Nat → J
 | 0 => a
 | j + 1 => addJ (inJ T i a j) (fewL (threeJ (T j).pt) (dg (T j).kn i))
def muJ (T : Nat → Trm) (n : Nat) : Nat → J
 | 0 => ⟨0,0,0⟩
 | i + 1 => inJ T i (dbN (muJ T n i) 4) n
theorem at_c (w : World) (g off i : Nat) (t : Trm) (hg : g < w.heap.size) (hi : i < 64) (hr : w.rangeAt g off (tmA t)) : Calls Tryz.prog 203 #[.pointer (some ⟨g,off,none⟩),.int .i64 ((i : Nat) : Int)] w (Gets w (tv (fewL (threeJ t.pt) (dg t.kn i)).x.val (fewL (threeJ t.pt) (dg t.kn i)).y.val (fewL (threeJ t.pt) (dg t.kn i)).z.val)):=by
 have hd:=dg_lt t.kn i
 refine Sy.enter (args:=[.pointer (some ⟨g,off,none⟩),.int .i64 ((i : Nat) : Int)]) Tryz.func203 rfl kL ?_
 refine sC ?_
 refine sM 212 (tcs 0 0 0) (fun g0 => ?_)
 refine sH (fun j => j == 11) ?_
 refine sZ 0 rfl (.pointer (some ⟨g,off,none⟩)) <| sZ 1 rfl (.pointer (some ⟨g,off,none⟩)) <| sZ 2 rfl (.int .i64 ((i : Nat) : Int)) <| sZ 3 rfl (.pointer (some ⟨g,off,none⟩)) <| sZ 4 rfl (.pointer (some ⟨g,off,none⟩)) <| sD 5 rfl (.pointer (some ⟨g,off + i * 1,none⟩)) (Quiet.pure (exec_atA 26 _ _ _ g off _ i 1 .i64 rfl rfl rfl Tryz.underlying26 kF (by omega))) <| sD 6 rfl (.int .u8 ((dg t.kn i : Nat) : Int)) (Quiet.thereOne g (off + i * 1) 5 _ _ rfl kR hg _ (range_flat (range_left hr) (dgA_len t.kn) hi 0 _ rfl) Tryz.underlying5 rfl) <| sZ 7 rfl (.pointer (some ⟨g,off,none⟩)) ?_
 refine sZ 8 rfl (.pointer (some ⟨g,off + 64,none⟩)) <| sD 9 rfl (.pointer (some ⟨g,off + 64 + (dg t.kn i) * 12,none⟩)) (Quiet.pure (exec_atA 243 _ _ _ g (off + 64) _ (dg t.kn i) 12 .u8 rfl rfl rfl Tryz.underlying243 kF (by omega))) <| sD 10 rfl (tv ((fewL (threeJ t.pt) (dg t.kn i)).x.val) ((fewL (threeJ t.pt) (dg t.kn i)).y.val) ((fewL (threeJ t.pt) (dg t.kn i)).z.val)) (Quiet.there g (off + 64 + (dg t.kn i) * 12) 12 212 (fewA (threeJ t.pt) (dg t.kn i)) _ _ rfl kR hg (range_flat (range_right hr (flat_len (dgA_len t.kn) 64)) (fewA_len _) hd) Tryz.underlying212 rfl kR rfl _ kR) <| sX 11 rfl 0 g0 212 (tcs 0 0 0) (tcs ((fewL (threeJ t.pt) (dg t.kn i)).x.val) ((fewL (threeJ t.pt) (dg t.kn i)).y.val) ((fewL (threeJ t.pt) (dg t.kn i)).z.val)) (wS 0 212 (tcs ((fewL (threeJ t.pt) (dg t.kn i)).x.val) ((fewL (threeJ t.pt) (dg t.kn i)).y.val) ((fewL (threeJ t.pt) (dg t.kn i)).z.val)) rfl) ?_
 refine sI ?_
 refine Sy.ret ?_
 exact rC (v:=tv ((fewL (threeJ t.pt) (dg t.kn i)).x.val) ((fewL (threeJ t.pt) (dg t.kn i)).y.val) ((fewL (threeJ t.pt) (dg t.kn i)).z.val)) 212 g0 0 (tcs ((fewL (threeJ t.pt) (dg t.kn i)).x.val) ((fewL (threeJ t.pt) (dg t.kn i)).y.val) ((fewL (threeJ t.pt) (dg t.kn i)).z.val)) rfl Tryz.underlying212
theorem multi_c (w : World) (b o n c : Nat) (T : Nat → Trm) (hb : b < w.heap.size) (hn : n ≤ 32) (hok : ∀ j,(T j).ok) (hT : ∀ j,j < n → w.rangeAt b (o + j * 13) (T j).cells) : Calls Tryz.prog 179 #[.slice (some ⟨b,o,none⟩) n c] w (Gets w (tv (muJ T n 64).x.val (muJ T n 64).y.val (muJ T n 64).z.val)):=by
 refine Sy.enter (args:=[.slice (some ⟨b,o,none⟩) n c]) Tryz.func179 rfl kL ?_
 refine sC ?_
 refine sM 212 (tcs 0 0 0) (fun g0 => ?_)
 refine sA ?_
 refine sP (.slice (some ⟨b,o,none⟩) n c) <| sP (.int .i64 ((n : Nat) : Int)) ?_
 refine Sy.make kR 246 (flat (fun _ => zt) n).toArray (fun g => .slice (some ⟨g,0,none⟩) n n) (Makes.slice 241 246 _ (.agg zt.toArray) 256 1600 _ _ .i64 .i64 n zt rfl rfl rfl Tryz.underlying241 info_tm kR kR (by decide) kR kR kR (by omega) (by omega)) (fun g1 => ?_)
 refine sP (.slice (some ⟨g1,0,none⟩) n n) ?_
 refine sG <| Sy.seq <| sC ?_
 refine sP (.slice (some ⟨b,o,none⟩) n c) <| sP (.int .i64 ((n : Nat) : Int)) <| sP (.int .i64 0) ?_
 refine sG <| Sy.block ?_
 refine Sy.loopK n (fun k1 => [(2,.pointer (some ⟨g0,0,none⟩)),(3,.slice (some ⟨g1,0,none⟩) n n),(12,.slice (some ⟨b,o,none⟩) n c),(13,.int .i64 ((n : Nat) : Int)),(14,.int .i64 ((k1 : Nat) : Int))]) (fun k1 => [(g0,212,(tcs 0 0 0)),(g1,246,(flat (upto k1 (fun j => tmA (T j)) zt) n).toArray)]) [true,true] (M:=[(g0,212,(tcs 0 0 0)),(g1,246,(flat (fun _ => zt) n).toArray)]) (all_cons kR (all_cons kR (all_cons kR (all_cons kR (all_cons kR all_nil))))) kR (bcons rfl (bcons (beq (upto_zero)) rfl)) (fun k1 hk1 => ?_)
 refine sC ?_
 obtain ⟨b1,hb1⟩ : ∃ z : Bool,z = decide (k1 < n):=⟨_,rfl⟩
 refine sS (.bool b1) (Quiet.pure (exec_int .lss _ _ _ .i64 _ _ _ rfl rfl rfl (int_lss _ _ _ _ _ (by rw [hb1]; exact decide_eq_decide.2 (by omega))))) ?_
 refine sG <| Sy.seq ?_
 cases b1
 ·have lb1 : ¬ (k1 < n):=of_decide_eq_false hb1.symm
  refine sU <| Sy.exit <| Sy.then_exit <| Sy.then_exit ?_
  obtain rfl : n = k1:=by omega
  refine Sy.in_exit <| sB ?_
  refine sM 212 (tcs 0 0 0) (fun g2 => ?_)
  refine sG <| Sy.seq <| sC ?_
  refine sP (.int .i64 0) ?_
  refine sG <| Sy.block ?_
  refine Sy.loopK 64 (fun k2 => [(2,.pointer (some ⟨g0,0,none⟩)),(3,.slice (some ⟨g1,0,none⟩) n n),(6,.pointer (some ⟨g2,0,none⟩)),(31,.int .i64 ((k2 : Nat) : Int))]) (fun k2 => [(g0,212,(tcs 0 0 0)),(g1,246,(flat ((fun j => tmA (T j))) n).toArray),(g2,212,(tcs ((muJ T n k2).x.val) ((muJ T n k2).y.val) ((muJ T n k2).z.val)))]) [true,true,true] (M:=[(g0,212,(tcs 0 0 0)),(g1,246,(flat (upto n (fun j => tmA (T j)) zt) n).toArray),(g2,212,(tcs 0 0 0))]) (all_cons kR (all_cons kR (all_cons kR (all_cons kR all_nil)))) kR (bcons rfl (bcons (beq (upto_all)) (bcons rfl rfl))) (fun k2 hk2 => ?_)
  refine sC ?_
  obtain ⟨b2,hb2⟩ : ∃ z : Bool,z = decide (k2 < 64):=⟨_,rfl⟩
  refine sS (.bool b2) (Quiet.pure (exec_int .lss _ _ _ .i64 _ _ _ rfl rfl rfl (int_lss _ _ _ _ _ (by rw [hb2]; exact decide_eq_decide.2 (by omega))))) ?_
  refine sG <| Sy.seq ?_
  cases b2
  ·have lb2 : ¬ (k2 < 64):=of_decide_eq_false hb2.symm
   refine sU <| Sy.exit <| Sy.then_exit <| Sy.then_exit ?_
   obtain rfl : k2 = 64:=by omega
   refine Sy.in_exit <| sB ?_
   refine sS (tv ((muJ T n 64).x.val) ((muJ T n 64).y.val) ((muJ T n 64).z.val)) (qL 2 g2 0 12 212 212 (tcs ((muJ T n 64).x.val) ((muJ T n 64).y.val) ((muJ T n 64).z.val)) rfl Tryz.underlying212) <| sW 0 g0 212 (tcs 0 0 0) (tcs ((muJ T n 64).x.val) ((muJ T n 64).y.val) ((muJ T n 64).z.val)) (wS 0 212 (tcs ((muJ T n 64).x.val) ((muJ T n 64).y.val) ((muJ T n 64).z.val)) rfl) ?_
   refine sG <| Sy.ret ?_
   exact rC (v:=tv ((muJ T n 64).x.val) ((muJ T n 64).y.val) ((muJ T n 64).z.val)) 212 g0 0 (tcs ((muJ T n 64).x.val) ((muJ T n 64).y.val) ((muJ T n 64).z.val)) rfl Tryz.underlying212
  ·have lb2 : k2 < 64:=of_decide_eq_true hb2.symm
   refine sT <| Sy.skip <| Sy.then_ <| Sy.seq <| Sy.block <| sC ?_
   refine sP (.int .i64 ((k2 : Nat) : Int)) <| sP (.int .i64 ((k2 : Nat) : Int)) ?_
   refine sG <| Sy.seq <| sC ?_
   refine sP (.int .i64 0) ?_
   refine sG <| Sy.block ?_
   refine Sy.loopK 4 (fun k3 => [(2,.pointer (some ⟨g0,0,none⟩)),(3,.slice (some ⟨g1,0,none⟩) n n),(6,.pointer (some ⟨g2,0,none⟩)),(7,.int .i64 ((k2 : Nat) : Int)),(31,.int .i64 ((k2 : Nat) : Int)),(34,.int .i64 ((k3 : Nat) : Int))]) (fun k3 => [(g0,212,(tcs 0 0 0)),(g1,246,(flat ((fun j => tmA (T j))) n).toArray),(g2,212,(tcs ((dbN (muJ T n k2) k3).x.val) ((dbN (muJ T n k2) k3).y.val) ((dbN (muJ T n k2) k3).z.val)))]) [true,true,true] (M:=[(g0,212,(tcs 0 0 0)),(g1,246,(flat ((fun j => tmA (T j))) n).toArray),(g2,212,(tcs ((muJ T n k2).x.val) ((muJ T n k2).y.val) ((muJ T n k2).z.val)))]) (all_cons kR (all_cons kR (all_cons kR (all_cons kR (all_cons kR (all_cons kR all_nil)))))) kR (bcons rfl (bcons rfl (bcons rfl rfl))) (fun k3 hk3 => ?_)
   refine sC ?_
   obtain ⟨b3,hb3⟩ : ∃ z : Bool,z = decide (k3 < 4):=⟨_,rfl⟩
   refine sS (.bool b3) (Quiet.pure (exec_int .lss _ _ _ .i64 _ _ _ rfl rfl rfl (int_lss _ _ _ _ _ (by rw [hb3]; exact decide_eq_decide.2 (by omega))))) ?_
   refine sG <| Sy.seq ?_
   cases b3
   ·have lb3 : ¬ (k3 < 4):=of_decide_eq_false hb3.symm
    refine sU <| Sy.exit <| Sy.then_exit <| Sy.then_exit ?_
    obtain rfl : k3 = 4:=by omega
    refine Sy.in_exit <| sB ?_
    refine sP (.slice (some ⟨g1,0,none⟩) n n) <| sP (.int .i64 ((n : Nat) : Int)) <| sP (.int .i64 0) ?_
    refine sG <| Sy.block ?_
    refine Sy.loopK n (fun k4 => [(2,.pointer (some ⟨g0,0,none⟩)),(3,.slice (some ⟨g1,0,none⟩) n n),(6,.pointer (some ⟨g2,0,none⟩)),(7,.int .i64 ((k2 : Nat) : Int)),(31,.int .i64 ((k2 : Nat) : Int)),(40,.int .i64 ((n : Nat) : Int)),(41,.int .i64 ((k4 : Nat) : Int))]) (fun k4 => [(g0,212,(tcs 0 0 0)),(g1,246,(flat ((fun j => tmA (T j))) n).toArray),(g2,212,(tcs ((inJ T k2 (dbN (muJ T n k2) 4) k4).x.val) ((inJ T k2 (dbN (muJ T n k2) 4) k4).y.val) ((inJ T k2 (dbN (muJ T n k2) 4) k4).z.val)))]) [true,true,true] (M:=[(g0,212,(tcs 0 0 0)),(g1,246,(flat ((fun j => tmA (T j))) n).toArray),(g2,212,(tcs ((dbN (muJ T n k2) 4).x.val) ((dbN (muJ T n k2) 4).y.val) ((dbN (muJ T n k2) 4).z.val)))]) (all_cons kR (all_cons kR (all_cons kR (all_cons kR (all_cons kR (all_cons kR (all_cons kR all_nil))))))) kR (bcons rfl (bcons rfl (bcons rfl rfl))) (fun k4 hk4 => ?_)
    refine sC ?_
    obtain ⟨b4,hb4⟩ : ∃ z : Bool,z = decide (k4 < n):=⟨_,rfl⟩
    refine sS (.bool b4) (Quiet.pure (exec_int .lss _ _ _ .i64 _ _ _ rfl rfl rfl (int_lss _ _ _ _ _ (by rw [hb4]; exact decide_eq_decide.2 (by omega))))) ?_
    refine sG <| Sy.seq ?_
    cases b4
    ·have lb4 : ¬ (k4 < n):=of_decide_eq_false hb4.symm
     refine sU <| Sy.exit <| Sy.then_exit <| Sy.then_exit ?_
     obtain rfl : n = k4:=by omega
     refine Sy.in_exit <| Sy.in_ <| Sy.then_ <| Sy.region ?_
     refine sS (.int .i64 ((k2 + 1 : Nat) : Int)) (Quiet.pure (exec_int .add _ _ _ .i64 _ _ _ rfl rfl rfl (int_add _ _ _ _ _ ((wrap_i64 (by omega) (by omega)).trans (by omega))))) <| sP (.int .i64 ((k2 + 1 : Nat) : Int)) ?_
     refine Sy.nil ?_
     exact Sy.againK [true,true,true] (M:=[(g0,212,(tcs 0 0 0)),(g1,246,(flat ((fun j => tmA (T j))) n).toArray),(g2,212,(tcs ((inJ T k2 (dbN (muJ T n k2) 4) n).x.val) ((inJ T k2 (dbN (muJ T n k2) 4) n).y.val) ((inJ T k2 (dbN (muJ T n k2) 4) n).z.val)))]) (by omega) (all_cons kR (all_cons kR (all_cons kR (all_cons kR all_nil)))) kR (bcons rfl (bcons rfl (bcons rfl rfl)))
    ·have lb4 : k4 < n:=of_decide_eq_true hb4.symm
     refine sT <| Sy.skip <| Sy.then_ <| Sy.seq <| Sy.block <| sC ?_
     refine sP (.int .i64 ((k4 : Nat) : Int)) <| sP (.int .i64 ((k4 : Nat) : Int)) ?_
     refine sG ?_
     refine Sy.regionD (fun j => j == 7) kR ?_
     refine sD 0 rfl (tv ((inJ T k2 (dbN (muJ T n k2) 4) k4).x.val) ((inJ T k2 (dbN (muJ T n k2) 4) k4).y.val) ((inJ T k2 (dbN (muJ T n k2) 4) k4).z.val)) (qL 2 g2 0 12 212 212 (tcs ((inJ T k2 (dbN (muJ T n k2) 4) k4).x.val) ((inJ T k2 (dbN (muJ T n k2) 4) k4).y.val) ((inJ T k2 (dbN (muJ T n k2) 4) k4).z.val)) rfl Tryz.underlying212) <| sZ 1 rfl (.slice (some ⟨g1,0,none⟩) n n) <| sZ 2 rfl (.int .i64 ((k4 : Nat) : Int)) <| sD 3 rfl (.pointer (some ⟨g1,0 + k4 * 256,none⟩)) (Quiet.pure (exec_at 241 _ _ _ g1 0 n n k4 256 .i64 rfl rfl rfl Tryz.underlying241 kF (by omega))) <| sZ 4 rfl (.int .i64 ((k2 : Nat) : Int)) <| sD 5 rfl (tv ((fewL (threeJ (T k4).pt) (dg (T k4).kn k2)).x.val) ((fewL (threeJ (T k4).pt) (dg (T k4).kn k2)).y.val) ((fewL (threeJ (T k4).pt) (dg (T k4).kn k2)).z.val)) (Quiet.callS 203 #[.pointer (some ⟨g1,0 + k4 * 256,none⟩),.int .i64 ((k2 : Nat) : Int)] kF (fun w hw => at_c w g1 (0 + k4 * 256) k2 (T k4) (hw.get (i:=1) rfl).lt (by omega) (blk_range (hw.get (i:=1) rfl) (flat_at (tmA_len T) (k:=k4) (by omega) (by omega))))) ?_
     obtain ⟨j1,hj1⟩ : ∃ z : J,z = addJ (inJ T k2 (dbN (muJ T n k2) 4) k4) (fewL (threeJ (T k4).pt) (dg (T k4).kn k2)):=⟨_,rfl⟩
     refine sD 6 rfl (tv j1.x.val j1.y.val j1.z.val) (qF 178 #[tv ((inJ T k2 (dbN (muJ T n k2) 4) k4).x.val) ((inJ T k2 (dbN (muJ T n k2) 4) k4).y.val) ((inJ T k2 (dbN (muJ T n k2) 4) k4).z.val),tv ((fewL (threeJ (T k4).pt) (dg (T k4).kn k2)).x.val) ((fewL (threeJ (T k4).pt) (dg (T k4).kn k2)).y.val) ((fewL (threeJ (T k4).pt) (dg (T k4).kn k2)).z.val)] (fun w => by rw [hj1]; exact addJ_c w (inJ T k2 (dbN (muJ T n k2) 4) k4) (fewL (threeJ (T k4).pt) (dg (T k4).kn k2)))) <| sX 7 rfl 2 g2 212 (tcs ((inJ T k2 (dbN (muJ T n k2) 4) k4).x.val) ((inJ T k2 (dbN (muJ T n k2) 4) k4).y.val) ((inJ T k2 (dbN (muJ T n k2) 4) k4).z.val)) (tcs j1.x.val j1.y.val j1.z.val) (wS 0 212 (tcs j1.x.val j1.y.val j1.z.val) rfl) ?_
     refine sE ?_
     refine Sy.in_ <| Sy.then_ <| Sy.region ?_
     refine sS (.int .i64 ((k4 + 1 : Nat) : Int)) (Quiet.pure (exec_int .add _ _ _ .i64 _ _ _ rfl rfl rfl (int_add _ _ _ _ _ ((wrap_i64 (by omega) (by omega)).trans (by omega))))) <| sP (.int .i64 ((k4 + 1 : Nat) : Int)) ?_
     refine Sy.nil ?_
     exact Sy.againK [true,true,true] (M:=[(g0,212,(tcs 0 0 0)),(g1,246,(flat ((fun j => tmA (T j))) n).toArray),(g2,212,(tcs j1.x.val j1.y.val j1.z.val))]) (by omega) (all_cons kR (all_cons kR (all_cons kR (all_cons kR (all_cons kR (all_cons kR (all_cons kR all_nil))))))) kR (bcons rfl (bcons rfl (bcons (beq (by rw [hj1]; rfl)) rfl)))
   ·have lb3 : k3 < 4:=of_decide_eq_true hb3.symm
    refine sT <| Sy.skip <| Sy.then_ <| Sy.seq <| Sy.block <| Sy.region ?_
    refine sS (tv ((dbN (muJ T n k2) k3).x.val) ((dbN (muJ T n k2) k3).y.val) ((dbN (muJ T n k2) k3).z.val)) (qL 2 g2 0 12 212 212 (tcs ((dbN (muJ T n k2) k3).x.val) ((dbN (muJ T n k2) k3).y.val) ((dbN (muJ T n k2) k3).z.val)) rfl Tryz.underlying212) ?_
    obtain ⟨j2,hj2⟩ : ∃ z : J,z = dblJ (dbN (muJ T n k2) k3):=⟨_,rfl⟩
    refine sS (tv j2.x.val j2.y.val j2.z.val) (qF 200 #[tv ((dbN (muJ T n k2) k3).x.val) ((dbN (muJ T n k2) k3).y.val) ((dbN (muJ T n k2) k3).z.val)] (fun w => by rw [hj2]; exact double_c w (dbN (muJ T n k2) k3))) <| sW 2 g2 212 (tcs ((dbN (muJ T n k2) k3).x.val) ((dbN (muJ T n k2) k3).y.val) ((dbN (muJ T n k2) k3).z.val)) (tcs j2.x.val j2.y.val j2.z.val) (wS 0 212 (tcs j2.x.val j2.y.val j2.z.val) rfl) ?_
    refine Sy.nil <| Sy.in_ <| Sy.then_ <| Sy.region ?_
    refine sS (.int .i64 ((k3 + 1 : Nat) : Int)) (Quiet.pure (exec_int .add _ _ _ .i64 _ _ _ rfl rfl rfl (int_add _ _ _ _ _ ((wrap_i64 (by omega) (by omega)).trans (by omega))))) <| sP (.int .i64 ((k3 + 1 : Nat) : Int)) ?_
    refine Sy.nil ?_
    exact Sy.againK [true,true,true] (M:=[(g0,212,(tcs 0 0 0)),(g1,246,(flat ((fun j => tmA (T j))) n).toArray),(g2,212,(tcs j2.x.val j2.y.val j2.z.val))]) (by omega) (all_cons kR (all_cons kR (all_cons kR (all_cons kR (all_cons kR (all_cons kR all_nil)))))) kR (bcons rfl (bcons rfl (bcons (beq (by rw [hj2]; rfl)) rfl)))
 ·have lb1 : k1 < n:=of_decide_eq_true hb1.symm
  refine sT <| Sy.skip <| Sy.then_ <| Sy.seq <| Sy.block <| sC ?_
  refine sP (.int .i64 ((k1 : Nat) : Int)) <| sS (.pointer (some ⟨b,o + k1 * 13,none⟩)) (Quiet.pure (exec_at 177 _ _ _ b o n c k1 13 .i64 rfl rfl rfl Tryz.underlying177 kF (by omega))) <| sS (trv ((T k1).k) ((T k1).x) ((T k1).y) ((T k1).i)) (Quiet.there b (o + k1 * 13) 13 176 (T k1).cells _ _ rfl kR hb (hT k1 (by omega)) Tryz.underlying176 rfl kR rfl _ kR) ?_
  refine sM 176 (trcs 0 0 0 false) (fun g3 => ?_)
  refine sP (.int .i64 ((k1 : Nat) : Int)) <| sW 2 g3 176 (trcs 0 0 0 false) (trcs ((T k1).k) ((T k1).x) ((T k1).y) ((T k1).i)) (wS 0 176 (trcs ((T k1).k) ((T k1).x) ((T k1).y) ((T k1).i)) rfl) ?_
  refine sG ?_
  refine Sy.regionD (fun j => j == 11) kR ?_
  refine sZ 0 rfl (.slice (some ⟨g1,0,none⟩) n n) <| sZ 1 rfl (.int .i64 ((k1 : Nat) : Int)) <| sZ 2 rfl (.pointer (some ⟨g3,0,none⟩)) <| sD 3 rfl (fv ((T k1).k)) (qL 2 g3 0 4 176 24 (trcs ((T k1).k) ((T k1).x) ((T k1).y) ((T k1).i)) rfl Tryz.underlying24) <| sD 4 rfl (.agg (flat ((dgA (T k1).kn)) 64).toArray) (qF 201 #[fv ((T k1).k)] (fun w => digits_c w (T k1).k (hok k1).1)) <| sZ 5 rfl (.pointer (some ⟨g3,4,none⟩)) <| sD 6 rfl (pv ((T k1).x) ((T k1).y) ((T k1).i)) (qL 2 g3 4 9 176 71 (trcs ((T k1).k) ((T k1).x) ((T k1).y) ((T k1).i)) rfl Tryz.underlying71) <| sD 7 rfl (ptv (T k1).pt) (qF 139 #[pv ((T k1).x) ((T k1).y) ((T k1).i)] (fun w => right_c w (T k1).x (T k1).y (T k1).i (hok k1).2.1 (hok k1).2.2)) ?_
  refine sD 8 rfl (.agg (flat ((fewA (threeJ (T k1).pt))) 16).toArray) (qF 202 #[ptv (T k1).pt] (fun w => few_p w (T k1).pt)) <| sZ 9 rfl (.agg (tmcs (T k1))) <| sD 10 rfl (.pointer (some ⟨g1,0 + k1 * 256,none⟩)) (Quiet.pure (exec_at 241 _ _ _ g1 0 n n k1 256 .i64 rfl rfl rfl Tryz.underlying241 kF (by omega))) <| sX 11 rfl 1 g1 246 (flat (upto k1 (fun j => tmA (T j)) zt) n).toArray (flat (upto (k1 + 1) (fun j => tmA (T j)) zt) n).toArray (Writes.store (0 + k1 * 256) 246 (tmcs (T k1)) _ _ rfl kR kR kR (flat_fit (upto_len (tmA_len T) rfl _) (k:=k1) (by omega) (by omega)) kR (upto_set (v:=(tmcs (T k1)).toList) (tmA_len T) rfl (rfl) (by omega) (by omega))) ?_
  refine sE ?_
  refine Sy.in_ <| Sy.then_ <| Sy.region ?_
  refine sS (.int .i64 ((k1 + 1 : Nat) : Int)) (Quiet.pure (exec_int .add _ _ _ .i64 _ _ _ rfl rfl rfl (int_add _ _ _ _ _ ((wrap_i64 (by omega) (by omega)).trans (by omega))))) <| sP (.int .i64 ((k1 + 1 : Nat) : Int)) ?_
  refine Sy.nil ?_
  exact Sy.againK [true,true,false] (M:=[(g0,212,(tcs 0 0 0)),(g1,246,(flat (upto (k1 + 1) (fun j => tmA (T j)) zt) n).toArray)]) (by omega) (all_cons kR (all_cons kR (all_cons kR (all_cons kR (all_cons kR all_nil))))) kR (bcons rfl (bcons rfl rfl))
end Cu
end
end Go.Proofs.YtfhcpdbahbbmaaaGreatDoor
