/-
  Some answers that the document fixes.
-/
import Derived.Test.YtlojidnlkflpnaaCrvC
namespace Go.Proofs.Ytlojidnlkflpnaa.Cu
open Go.RowKit Go.Proofs.Ytlojidnlkflpnaa Go.Proofs.Ytlojidnlkflpnaa.Sy

theorem eql_bool_same (w : World) (F : Slots) (o : Oper) (x y : Operand) (b : Bool) {yt : TypeId} (ho : o.op = .binOp .eql 4 x y yt) (hx : evF F x = .bool b) (hy : evF F y = .bool b) : (execOp (evF F) o).run Try.prog w = .ok (.value (.bool true)) w := by
  unfold execOp
  simp only [ho, hx, hy]
  cases b <;> kernel_rfl
theorem eql_pt_same (w : World) (F : Slots) (o : Oper) (x y : Operand) (a b : Nat) (i : Bool) {yt : TypeId} (ho : o.op = .binOp .eql 26 x y yt) (hx : evF F x = pv a b i) (hy : evF F y = pv a b i) (ha : a < K4) (hb : b < K4) : (execOp (evF F) o).run Try.prog w = .ok (.value (.bool true)) w := by
  have h := eql_pt w F o x y a b i a b i ho hx hy ha hb ha hb
  have e : sameB a b i a b i = true := by
    unfold sameB
    simp
  rwa [e] at h
/-- of points of the curve -/
theorem add_of {P Q R : Pt} {a b : Nat} {i : Bool} {c d : Nat} {j : Bool} {u v : Nat} {k : Bool} (ha : a < K4) (hb : b < K4) (hc : c < K4) (hd : d < K4) (h1 : dec a b i = P) (h2 : dec c d j = Q) (h3 : ptv R = pv u v k) (he : Ec.add finv P Q = R) (w : World) : Calls Try.prog 17 #[pv a b i, pv c d j] w (Gets w (pv u v k)) := by
  rw [← h3, ← he, ← h1, ← h2]
  exact add_any w a b i c d j ha hb hc hd
theorem neg_of {P R : Pt} {a b : Nat} {i : Bool} {u v : Nat} {k : Bool} (ha : a < K4) (hb : b < K4) (h1 : dec a b i = P) (h3 : ptv R = pv u v k) (he : Ec.neg P = R) (w : World) : Calls Try.prog 15 #[pv a b i] w (Gets w (pv u v k)) := by
  rw [← h3, ← he, ← h1]
  exact neg_any w a b i ha hb
theorem right_of {a b : Nat} {i : Bool} {r : Bool} (ha : a < K4) (hb : b < K4) (h : rightB a b i = r) (w : World) : Calls Try.prog 13 #[pv a b i] w (Gets w (.bool r)) := by
  rw [← h]
  exact right_b w a b i ha hb
set_option maxHeartbeats 4000000 in
set_option maxRecDepth 100000 in
theorem alive5 (w : World)  : Calls Try.prog 12 #[] w (Gets w (.bool true)) := by
  have hb := bP_on
  have db : dec gx.val gy.val false = bP := dec_fin gx gy hb
  have l1 := lt4 gx
  have l2 := lt4 gy
  obtain ⟨ngy, hn⟩ : ∃ z : Fp, z = -gy := ⟨_, rfl⟩
  have l3 := lt4 ngy
  have dn : dec gx.val ngy.val false = Ec.neg bP := by
    rw [hn]
    exact dec_fin gx (-gy) (Ec.On.neg hb)
  have pn : ptv (Ec.neg bP) = pv gx.val ngy.val false := by rw [hn]; rfl
  have rb : rightB gx.val gy.val false = true := by decide +kernel
  obtain ⟨a, ha⟩ : ∃ a, a = gx.val := ⟨_, rfl⟩
  obtain ⟨b, hbb⟩ : ∃ a, a = gy.val := ⟨_, rfl⟩
  obtain ⟨c, hc⟩ : ∃ a, a = ngy.val := ⟨_, rfl⟩
  have pb : ptv bP = pv a b false := by rw [ha, hbb]; rfl
  have cb : ∀ w, Calls Try.prog 36 #[] w (Gets w (pv a b false)) := fun w => by rw [← pb]; exact base_c w
  have cr : ∀ w, Calls Try.prog 37 #[] w (Gets w (pv a b false)) := fun w => by rw [← pb]; exact baseR_c w
  rw [← ha, ← hbb] at db rb
  rw [← ha] at dn pn l1
  rw [← hbb] at l2
  rw [← hc] at dn pn l3
  refine Sy.enter (args := []) Try.func12 rfl (Nat.le_of_ble_eq_true (by kernel_rfl)) ?_
  refine Sy.seq ?_
  refine Sy.region ?_
  refine Sy.step (by kernel_rfl) (.bool false) (Quiet.pure (fun _ => by kernel_rfl)) ?_
  refine Sy.nil ?_
  refine Sy.then_ ?_
  refine Sy.seq ?_
  refine Sy.region ?_
  refine Sy.step (by kernel_rfl) (pv a b false) (Quiet.call 36 #[] (fun _ => by kernel_rfl) (cb)) ?_
  refine Sy.make (by kernel_rfl) 26 (pcs 0 0 false) ptr (fun _ => by kernel_rfl) (fun g0 => ?_)
  refine Sy.write (by kernel_rfl) 0 g0 26 (pcs 0 0 false) (pcs a b false) (by kernel_rfl) (Writes.store 0 26 (pcs a b false) _ _ rfl (by kernel_rfl) (by kernel_rfl) (by kernel_rfl) (Nat.le_of_ble_eq_true (by kernel_rfl)) (by kernel_rfl) (by kernel_rfl)) ?_
  refine Sy.nil ?_
  refine Sy.then_ ?_
  refine Sy.seq ?_
  refine Sy.regionD (fun j => false) (by kernel_rfl) ?_
  refine Sy.stepD 0 rfl (by kernel_rfl) (fun _ _ _ _ h => h) (by kernel_rfl) (pv a b false) (Quiet.load 0 g0 0 9 26 26 (pcs a b false) _ _ rfl (by kernel_rfl) (by kernel_rfl) Try.underlying26 rfl (by kernel_rfl) _ (by kernel_rfl) (Nat.le_of_ble_eq_true (by kernel_rfl))) ?_
  refine Sy.stepD 1 rfl (by kernel_rfl) (fun _ _ _ _ h => h) (by kernel_rfl) (pv a b false) (Quiet.call 37 #[] (fun _ => by kernel_rfl) (cr)) ?_
  refine Sy.stepD 2 rfl (by kernel_rfl) (fun _ _ _ _ h => h) (by kernel_rfl) (.bool true) (Quiet.pure (fun w => eql_pt_same w _ _ _ _ _ _ _ rfl rfl rfl (by first | assumption | exact lt4 _ | decide +kernel) (by first | assumption | exact lt4 _ | decide +kernel))) ?_
  refine Sy.stepD 3 rfl (by kernel_rfl) (fun _ _ _ _ h => h) (by kernel_rfl) (.bool true) (Quiet.pure (fun _ => by kernel_rfl)) ?_
  refine Sy.stepD 4 rfl (by kernel_rfl) (fun _ _ _ _ h => h) (by kernel_rfl) (pv a b false) (Quiet.load 0 g0 0 9 26 26 (pcs a b false) _ _ rfl (by kernel_rfl) (by kernel_rfl) Try.underlying26 rfl (by kernel_rfl) _ (by kernel_rfl) (Nat.le_of_ble_eq_true (by kernel_rfl))) ?_
  refine Sy.stepD 5 rfl (by kernel_rfl) (fun _ _ _ _ h => h) (by kernel_rfl) (.bool true) (Quiet.call 13 #[pv a b false] (fun _ => by kernel_rfl) (right_of l1 l2 rb)) ?_
  refine Sy.stepD 6 rfl (by kernel_rfl) (fun _ _ _ _ h => h) (by kernel_rfl) (.bool true) (Quiet.pure (fun _ => by kernel_rfl)) ?_
  refine Sy.stepD 7 rfl (by kernel_rfl) (fun _ _ _ _ h => h) (by kernel_rfl) (.bool true) (Quiet.pure (fun _ => by kernel_rfl)) ?_
  refine Sy.stepD 8 rfl (by kernel_rfl) (fun _ _ _ _ h => h) (by kernel_rfl) (pv a b false) (Quiet.load 0 g0 0 9 26 26 (pcs a b false) _ _ rfl (by kernel_rfl) (by kernel_rfl) Try.underlying26 rfl (by kernel_rfl) _ (by kernel_rfl) (Nat.le_of_ble_eq_true (by kernel_rfl))) ?_
  refine Sy.stepD 9 rfl (by kernel_rfl) (fun _ _ _ _ h => h) (by kernel_rfl) (pv 0 0 true) (Quiet.call 31 #[] (fun _ => by kernel_rfl) (zero_c)) ?_
  refine Sy.stepD 10 rfl (by kernel_rfl) (fun _ _ _ _ h => h) (by kernel_rfl) (pv a b false) (Quiet.call 17 #[pv a b false, pv 0 0 true] (fun _ => by kernel_rfl) (add_of l1 l2 (by decide) (by decide) db dec_zero pb (Ec.add_zero _))) ?_
  refine Sy.stepD 11 rfl (by kernel_rfl) (fun _ _ _ _ h => h) (by kernel_rfl) (pv a b false) (Quiet.load 0 g0 0 9 26 26 (pcs a b false) _ _ rfl (by kernel_rfl) (by kernel_rfl) Try.underlying26 rfl (by kernel_rfl) _ (by kernel_rfl) (Nat.le_of_ble_eq_true (by kernel_rfl))) ?_
  refine Sy.stepD 12 rfl (by kernel_rfl) (fun _ _ _ _ h => h) (by kernel_rfl) (.bool true) (Quiet.pure (fun w => eql_pt_same w _ _ _ _ _ _ _ rfl rfl rfl (by first | assumption | exact lt4 _ | decide +kernel) (by first | assumption | exact lt4 _ | decide +kernel))) ?_
  refine Sy.stepD 13 rfl (by kernel_rfl) (fun _ _ _ _ h => h) (by kernel_rfl) (.bool true) (Quiet.pure (fun _ => by kernel_rfl)) ?_
  refine Sy.stepD 14 rfl (by kernel_rfl) (fun _ _ _ _ h => h) (by kernel_rfl) (.bool true) (Quiet.pure (fun _ => by kernel_rfl)) ?_
  refine Sy.stepD 15 rfl (by kernel_rfl) (fun _ _ _ _ h => h) (by kernel_rfl) (pv a b false) (Quiet.load 0 g0 0 9 26 26 (pcs a b false) _ _ rfl (by kernel_rfl) (by kernel_rfl) Try.underlying26 rfl (by kernel_rfl) _ (by kernel_rfl) (Nat.le_of_ble_eq_true (by kernel_rfl))) ?_
  refine Sy.stepD 16 rfl (by kernel_rfl) (fun _ _ _ _ h => h) (by kernel_rfl) (pv a b false) (Quiet.load 0 g0 0 9 26 26 (pcs a b false) _ _ rfl (by kernel_rfl) (by kernel_rfl) Try.underlying26 rfl (by kernel_rfl) _ (by kernel_rfl) (Nat.le_of_ble_eq_true (by kernel_rfl))) ?_
  refine Sy.stepD 17 rfl (by kernel_rfl) (fun _ _ _ _ h => h) (by kernel_rfl) (pv a c false) (Quiet.call 15 #[pv a b false] (fun _ => by kernel_rfl) (neg_of l1 l2 db pn rfl)) ?_
  refine Sy.stepD 18 rfl (by kernel_rfl) (fun _ _ _ _ h => h) (by kernel_rfl) (pv 0 0 true) (Quiet.call 17 #[pv a b false, pv a c false] (fun _ => by kernel_rfl) (add_of l1 l2 l1 l3 db dn (R := none) rfl (Ec.add_neg _))) ?_
  refine Sy.stepD 19 rfl (by kernel_rfl) (fun _ _ _ _ h => h) (by kernel_rfl) (pv 0 0 true) (Quiet.call 31 #[] (fun _ => by kernel_rfl) (zero_c)) ?_
  refine Sy.stepD 20 rfl (by kernel_rfl) (fun _ _ _ _ h => h) (by kernel_rfl) (.bool true) (Quiet.pure (fun w => eql_pt_same w _ _ _ _ _ _ _ rfl rfl rfl (by first | assumption | exact lt4 _ | decide +kernel) (by first | assumption | exact lt4 _ | decide +kernel))) ?_
  refine Sy.stepD 21 rfl (by kernel_rfl) (fun _ _ _ _ h => h) (by kernel_rfl) (.bool true) (Quiet.pure (fun _ => by kernel_rfl)) ?_
  refine Sy.stepD 22 rfl (by kernel_rfl) (fun _ _ _ _ h => h) (by kernel_rfl) (.bool true) (Quiet.pure (fun _ => by kernel_rfl)) ?_
  refine Sy.stepD 23 rfl (by kernel_rfl) (fun _ _ _ _ h => h) (by kernel_rfl) (pv 0 0 true) (Quiet.call 31 #[] (fun _ => by kernel_rfl) (zero_c)) ?_
  refine Sy.stepD 24 rfl (by kernel_rfl) (fun _ _ _ _ h => h) (by kernel_rfl) (.bool true) (Quiet.pure (fun _ => by kernel_rfl)) ?_
  refine Sy.stepD 25 rfl (by kernel_rfl) (fun _ _ _ _ h => h) (by kernel_rfl) (.bool true) (Quiet.pure (fun _ => by kernel_rfl)) ?_
  refine Sy.stepD 26 rfl (by kernel_rfl) (fun _ _ _ _ h => h) (by kernel_rfl) (.bool true) (Quiet.pure (fun _ => by kernel_rfl)) ?_
  refine Sy.doneD (by kernel_rfl) ?_
  refine Sy.then_ ?_
  refine Sy.ret ?_
  exact Sy.ret1 (v := .bool true) rfl (.inl (show _ = _ by kernel_rfl))
end Go.Proofs.Ytlojidnlkflpnaa.Cu
