/-
  A point that came in.
-/
import Derived.Test.YtlojidnlkflpnaaFeLift
import Derived.Test.YtlojidnlkflpnaaPnt
import Derived.Deep.Strs
namespace Go.Proofs.Ytlojidnlkflpnaa.Cu
open Go.ChangeShapes Go.WideShapes Go.ChangeAt Go.RowKit Go.Proofs.Ytlojidnlkflpnaa Go.Deep

theorem words_trod {H : Type} {enc : TypeId × Value → H} {P : Program} {W : World} {b : Nat} {sp : Nat → Bool} {held : Bool} {fuel : Nat} {t q : TypeId} {c0 c1 c2 c3 : Value} {x : DataW H × List MemPlace} (ht : P.underlying t = some (.array 4 q)) (hq : P.underlying q = some (.int .u64)) (hcq : P.cellsOf q = 1)
    (hf : DataW.trod enc P W b sp held fuel t [c0, c1, c2, c3] = some x) : ∃ n : Nat, n < K4 ∧ [c0, c1, c2, c3] = fws n := by
  obtain ⟨y0, y1, y2, y3, m, _, g0, g1, g2, g3⟩ := trod_array4 ht hcq hf
  obtain ⟨z0, e0, _, w0⟩ := DataW.trod_int hq g0
  obtain ⟨z1, e1, _, w1⟩ := DataW.trod_int hq g1
  obtain ⟨z2, e2, _, w2⟩ := DataW.trod_int hq g2
  obtain ⟨z3, e3, _, w3⟩ := DataW.trod_int hq g3
  obtain ⟨a, rfl, ha⟩ := u64_wf w0
  obtain ⟨b, rfl, hb⟩ := u64_wf w1
  obtain ⟨c, rfl, hc⟩ := u64_wf w2
  obtain ⟨e, rfl, he⟩ := u64_wf w3
  simp only [List.cons.injEq, and_true] at e0 e1 e2 e3
  subst e0 e1 e2 e3
  refine ⟨_, fv_lt a b c e ha hb hc he, ?_⟩
  have h := fv_mk a b c e ha hb hc he
  rw [fv_fws] at h
  injection h with h
  exact congrArg Array.toList h
theorem open_pt {H : Type} {enc : TypeId × Value → H} {P : Program} {W : World} {r : Reach} {b0 : Nat} {t q : TypeId} {f0 f1 f2 : Field} {v : Value} {d : DataW H} {ps : List MemPlace} (ht : P.underlying t = some (.struct #[f0, f1, f2]))
    (h0 : P.underlying f0.type = some (.array 4 q)) (h1 : P.underlying f1.type = some (.array 4 q)) (h2 : P.underlying f2.type = some .bool) (hq : P.underlying q = some (.int .u64))
    (hcq : P.cellsOf q = 1) (hct : P.cellsOf t = 9) (c0 : P.cellsOf f0.type = 4) (c1 : P.cellsOf f1.type = 4) (c2 : P.cellsOf f2.type = 1) (o0 : f0.offset = 0) (o1 : f1.offset = 4) (o2 : f2.offset = 8)
    (hval : Value.okWide P W r b0 t v) (h : DataW.Trod enc P W 0 (fun _ => true) true t v d ps) : ∃ (x y : Nat) (i : Bool), x < K4 ∧ y < K4 ∧ v = pv x y i := by
  obtain ⟨cs, rfl, hsz⟩ := okWide_struct ht hval
  obtain ⟨fuel, hf⟩ := h
  obtain ⟨y0, y1, y2, m, hx, hl, g0, g1, g2⟩ := trod_struct3 ht hf
  obtain ⟨l⟩ := cs
  rw [hct] at hsz
  obtain ⟨a0, a1, a2, a3, b0', b1, b2, b3, z, rfl⟩ : ∃ a0 a1 a2 a3 b0 b1 b2 b3 z, l = [a0, a1, a2, a3, b0, b1, b2, b3, z] := by
    match l, hsz with
    | [a0, a1, a2, a3, b0, b1, b2, b3, z], _ => exact ⟨a0, a1, a2, a3, b0, b1, b2, b3, z, rfl⟩
  rw [c0, o0] at g0
  rw [c1, o1] at g1
  rw [c2, o2] at g2
  obtain ⟨x, hx4, ex⟩ := words_trod h0 hq hcq (c0 := a0) (c1 := a1) (c2 := a2) (c3 := a3) (by simpa [Value.cells] using g0)
  obtain ⟨y, hy4, ey⟩ := words_trod h1 hq hcq (c0 := b0') (c1 := b1) (c2 := b2) (c3 := b3) (by simpa [Value.cells] using g1)
  obtain ⟨i, ei⟩ : ∃ i, z = .bool i := by
    have g2' : DataW.trod enc P W 0 (fun _ => true) true m f2.type [z] = some y2 := by simpa [Value.cells] using g2
    obtain ⟨b, e, _⟩ := DataW.trod_bool h2 g2'
    simp only [List.cons.injEq, and_true] at e
    exact ⟨b, e⟩
  refine ⟨x, y, i, hx4, hy4, ?_⟩
  subst ei
  unfold pv pcs
  rw [← ex, ← ey]
  rfl
set_option maxRecDepth 100000 in
theorem open_point {H : Type} {enc : TypeId × Value → H} {W : World} {r : Reach} {b0 : Nat} {v : Value} {d : DataW H} {ps : List MemPlace}
    (hval : Value.okWide Try.prog W r b0 26 v) (h : DataW.Trod enc Try.prog W 0 (fun _ => true) true 26 v d ps) : ∃ (x y : Nat) (i : Bool), x < K4 ∧ y < K4 ∧ v = pv x y i :=
  open_pt Try.underlying26 Try.underlying24 Try.underlying24 Try.underlying4 Try.underlying22 (by kernel_rfl) (by kernel_rfl) (by kernel_rfl) (by kernel_rfl) (by kernel_rfl) rfl rfl rfl hval h
end Go.Proofs.Ytlojidnlkflpnaa.Cu
