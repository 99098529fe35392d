/-
  Points as the program's values, valid ones and others.
-/
import Derived.Test.YtlojidnlkflpnaaCrv
import Derived.Test.YtlojidnlkflpnaaNumEq
namespace Go.Proofs.Ytlojidnlkflpnaa.Cu
open Go.RowKit Go.Proofs.Ytlojidnlkflpnaa Go.Proofs.Ytlojidnlkflpnaa.Sy

abbrev Pt := Ec.Pt pM
abbrev K4 : Nat := 115792089237316195423570985008687907853269984665640564039457584007913129639936
/-- a number's cells, as a list -/
def fws (n : Nat) : List Value := [qv (n % 18446744073709551616), qv (n / 18446744073709551616 % 18446744073709551616), qv (n / 340282366920938463463374607431768211456 % 18446744073709551616), qv (n / 6277101735386680763835789423207666416102355444464034512896 % 18446744073709551616)]
theorem fv_fws (n : Nat) : fv n = .agg (fws n).toArray := rfl
/-- a point's cells -/
def pcs (x y : Nat) (i : Bool) : Array Value := (fws x ++ (fws y ++ [Value.bool i])).toArray
def pv (x y : Nat) (i : Bool) : Value := .agg (pcs x y i)
theorem pcs_one (x y : Nat) (i : Bool) : (pcs x y i).all (·.oneCell') = true := by simp [pcs, fws, qv, Value.oneCell']
theorem fcs_one' (x : Nat) : (fcs x).all (·.oneCell') = true := fcs_one x
/-- which triples of numbers are right -/
def rightB (x y : Nat) (i : Bool) : Bool := if i then (decide (x = 0) && decide (y = 0)) else decide (x < pM) && decide (y < pM) && decide (y * y % pM = (x * x % pM * x % pM + 7) % pM)
/-- the point that they are taken for -/
def dec (x y : Nat) (i : Bool) : Pt := if h : i = false ∧ x < pM ∧ y < pM ∧ y * y % pM = (x * x % pM * x % pM + 7) % pM then some (⟨x, h.2.1⟩, ⟨y, h.2.2.1⟩) else none
/-- a point's value -/
def ptv : Pt → Value
  | none => pv 0 0 true
  | some (x, y) => pv x.val y.val false
theorem dec_on (x y : Nat) (i : Bool) : Ec.On (dec x y i) := by
  unfold dec
  split
  · rename_i h
    show (_ : Fp) * _ = _ * _ * _ + 7
    refine Fin.ext ?_
    exact h.2.2.2
  · trivial
theorem dec_fin (x y : Fp) (h : y * y = x * x * x + 7) : dec x.val y.val false = some (x, y) := by
  unfold dec
  rw [dif_pos ⟨rfl, x.isLt, y.isLt, congrArg Fin.val h⟩]
theorem dec_inf (x y : Nat) : dec x y true = none := by
  unfold dec
  rw [dif_neg (by simp)]
theorem dec_zero : dec 0 0 true = none := dec_inf 0 0
theorem dec_right (x y : Nat) (h : rightB x y false = true) : ∃ (hx : x < pM) (hy : y < pM), dec x y false = some (⟨x, hx⟩, ⟨y, hy⟩) := by
  unfold rightB at h
  simp only [Bool.false_eq_true, if_false, Bool.and_eq_true, decide_eq_true_eq] at h
  refine ⟨h.1.1, h.1.2, ?_⟩
  unfold dec
  rw [dif_pos ⟨rfl, h.1.1, h.1.2, h.2⟩]
theorem dec_wrong (x y : Nat) (i : Bool) (h : rightB x y i = false) : dec x y i = none := by
  unfold rightB at h
  unfold dec
  rw [dif_neg]
  rintro ⟨rfl, h1, h2, h3⟩
  simp [h1, h2, h3] at h
/-- what is taken for itself -/
theorem ptv_right (x y : Nat) (i : Bool) (h : rightB x y i = true) : ptv (dec x y i) = pv x y i := by
  cases i
  · obtain ⟨hx, hy, e⟩ := dec_right x y h
    rw [e]; rfl
  · unfold rightB at h
    simp only [if_true, Bool.and_eq_true, decide_eq_true_eq] at h
    rw [dec_inf, h.1, h.2]; rfl
theorem ptv_wrong (x y : Nat) (i : Bool) (h : rightB x y i = false) : ptv (dec x y i) = pv 0 0 true := by rw [dec_wrong x y i h]; rfl
/-- each point of the curve is the value of some three -/
theorem ptv_raw (P : Pt) (h : Ec.On P) : ∃ x y i, x < K4 ∧ y < K4 ∧ ptv P = pv x y i ∧ dec x y i = P ∧ rightB x y i = true := by
  rcases P with _ | ⟨x, y⟩
  · exact ⟨0, 0, true, by decide, by decide, rfl, dec_zero, rfl⟩
  · refine ⟨x.val, y.val, false, lt4 x, lt4 y, rfl, dec_fin x y h, ?_⟩
    unfold rightB
    rw [if_neg (by simp)]
    simp only [Bool.and_eq_true, decide_eq_true_eq]
    exact ⟨⟨x.isLt, y.isLt⟩, congrArg Fin.val h⟩
theorem fv_val_inj {a b : Fp} (h : fv a.val = fv b.val) : a = b := Fin.ext (fv_inj (lt4 a) (lt4 b) h)

/-! ## Points compared -/
theorem part_fe (cs : Array Value) (o : Nat) (W : World) : (part 24 cs o).run Try.prog W = .ok (.agg (cs.extract o (o + 4))) W := by
  have h1 := Try.isAgg24
  have h2 := Try.sizeOf24
  simp [part, h1, h2, go_sem]
theorem part_bool (cs : Array Value) (o : Nat) (b : Bool) (hb : cs[o]? = some (.bool b)) (W : World) : (part 4 cs o).run Try.prog W = .ok (.bool b) W := by
  have h1 := Try.isAgg4
  simp [part, h1, hb, go_sem]
theorem pcs_x (x y : Nat) (i : Bool) : (pcs x y i).extract 0 (0 + 4) = fcs x := rfl
theorem pcs_y (x y : Nat) (i : Bool) : (pcs x y i).extract 4 (4 + 4) = fcs y := rfl
theorem pcs_i (x y : Nat) (i : Bool) : (pcs x y i)[8]? = some (.bool i) := rfl
theorem eql_fe_at (W : World) (n m : Nat) (hn : n < K4) (hm : m < K4) : (Op.equalIn 9999 24 (.agg (fcs n)) (.agg (fcs m))).run Try.prog W = .ok (decide (n = m)) W := by
  have h := run_equalIn_words W 9997 24 22 4 Try.underlying24 Try.underlying22 (fun W => by kernel_rfl) (wl n) (wl m) rfl rfl
  rw [wl_beq hn hm] at h
  exact h
theorem eql_bool_at (W : World) (a b : Bool) : (Op.equalIn 9999 4 (.bool a) (.bool b)).run Try.prog W = .ok (a == b) W := by
  cases a <;> cases b <;> kernel_rfl
/-- two points are the same -/
def sameB (x y : Nat) (i : Bool) (u v : Nat) (j : Bool) : Bool := decide (x = u) && (decide (y = v) && (i == j))
theorem run_eql_pv (W : World) (x y : Nat) (i : Bool) (u v : Nat) (j : Bool) (hx : x < K4) (hy : y < K4) (hu : u < K4) (hv : v < K4) :
    (binOp .eql 26 (pv x y i) (pv u v j)).run Try.prog W = .ok (.bool (sameB x y i u v j)) W := by
  have hS : Try.prog.underlying 26 = some (.struct (Try.prog.fieldsOf 26)) := by kernel_rfl
  have hpp : Try.prog.stoodInHeld 26 = false := by kernel_rfl
  unfold pv
  rw [run_eql_struct, show (10000 : Nat) = 9999 + 1 from rfl, run_equalIn_struct W 9999 26 _ _ hS hpp]
  simp only [Program.fieldsOf, Try.underlying26]
  have a1 : ∀ W, (part 24 (pcs x y i) 0).run Try.prog W = .ok (.agg (fcs x)) W := fun W => by rw [part_fe, pcs_x]
  have a2 : ∀ W, (part 24 (pcs u v j) 0).run Try.prog W = .ok (.agg (fcs u)) W := fun W => by rw [part_fe, pcs_x]
  have a3 : ∀ W, (part 24 (pcs x y i) 4).run Try.prog W = .ok (.agg (fcs y)) W := fun W => by rw [part_fe, pcs_y]
  have a4 : ∀ W, (part 24 (pcs u v j) 4).run Try.prog W = .ok (.agg (fcs v)) W := fun W => by rw [part_fe, pcs_y]
  have a5 : ∀ W, (part 4 (pcs x y i) 8).run Try.prog W = .ok (.bool i) W := fun W => part_bool _ 8 i (pcs_i x y i) W
  have a6 : ∀ W, (part 4 (pcs u v j) 8).run Try.prog W = .ok (.bool j) W := fun W => part_bool _ 8 j (pcs_i u v j) W
  have e1 : ∀ W, _ := fun W => eql_fe_at W x u hx hu
  have e2 : ∀ W, _ := fun W => eql_fe_at W y v hy hv
  have e3 : ∀ W, _ := fun W => eql_bool_at W i j
  unfold sameB
  generalize decide (x = u) = b1 at *
  generalize decide (y = v) = b2 at *
  generalize (i == j) = b3 at *
  cases b1 <;> cases b2 <;> cases b3 <;> simp [Op.eqFields, a1, a2, a3, a4, a5, a6, e1, e2, e3, Sem.run_bind, Sem.run_ite]
theorem run_eqGuard_pv (op : BinOp) (x y : Operand) (a b : Nat) (i : Bool) (u v : Nat) (j : Bool) (W : World) : (eqGuard op 26 x y (pv a b i) (pv u v j)).run Try.prog W = .ok () W := by
  unfold pv
  go_simp
end Go.Proofs.Ytlojidnlkflpnaa.Cu
