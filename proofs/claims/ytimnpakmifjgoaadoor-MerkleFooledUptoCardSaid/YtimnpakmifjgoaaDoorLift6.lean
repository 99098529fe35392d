/-
  Two ways (Place, Many, Path) that came in, in an array.
-/
import Derived.Test.YtimnpakmifjgoaaDoorLift5
namespace Go.Proofs.YtimnpakmifjgoaaDoor
open Go.ChangeShapes Go.WideShapes Go.ChangeAt Go.RowKit Go.Deep

section
variable {H : Type} {enc : TypeId × Value → H} {P : Program} {W : World} {base : Nat} {spare : Nat → Bool} {held : Bool}
theorem trod_array2s {t e : TypeId} {fuel : Nat} {c0 c1 c2 c3 c4 c5 : Value} {x : DataW H × List MemPlace} (ht : P.underlying t = some (.array 2 e)) (hce : P.cellsOf e = 3)
    (h : DataW.trod enc P W base spare held fuel t [c0, c1, c2, c3, c4, c5] = some x) :
    ∃ y0 y1 n, x = (.agg [y0.1, y1.1], y0.2 ++ y1.2) ∧ DataW.trod enc P W base spare held n e [c0, c1, c2] = some y0 ∧ DataW.trod enc P W base spare held n e [c3, c4, c5] = some y1 := by
  cases fuel with
  | zero => simp [DataW.trod] at h
  | succ n =>
    unfold DataW.trod at h
    rw [ht] at h
    have r2 : List.range 2 = [0, 1] := rfl
    simp [r2, hce] at h
    try obtain ⟨_, h⟩ := h
    cases h0 : DataW.trod enc P W base spare held n e [c0, c1, c2] with
    | none => simp [h0] at h
    | some y0 =>
      cases h1 : DataW.trod enc P W base spare held n e [c3, c4, c5] with
      | none => simp [h0, h1] at h
      | some y1 =>
        simp [h0, h1] at h
        exact ⟨y0, y1, n, h.symm, h0, h1⟩
end
theorem open_way_cells {H : Type} {enc : TypeId × Value → H} {P : Program} {W : World} {t e q : TypeId} {f0 f1 f2 : Field} {fuel : Nat} {a b z : Value} {x : DataW H × List MemPlace} (ht : P.underlying t = some (.struct #[f0, f1, f2]))
    (h0 : P.underlying f0.type = some (.int .u32)) (h1 : P.underlying f1.type = some (.int .u32)) (h2 : P.underlying f2.type = some (.slice e)) (he : P.underlying e = some (.array 32 q)) (hq : P.underlying q = some (.int .u8))
    (hcq : P.cellsOf q = 1) (hce : P.cellsOf e = 32) (c0 : P.cellsOf f0.type = 1) (c1 : P.cellsOf f1.type = 1) (c2 : P.cellsOf f2.type = 1) (o0 : f0.offset = 0) (o1 : f1.offset = 1) (o2 : f2.offset = 2)
    (hf : DataW.trod enc P W 0 (fun _ => true) true fuel t [a, b, z] = some x) :
    ∃ (i n : Nat) (A : Option Addr) (ds : List (List UInt8)) (c : Nat), a = .int .u32 i ∧ b = .int .u32 n ∧ z = .slice A ds.length c ∧ i ≤ 4294967295 ∧ n ≤ 4294967295 ∧ ds.length ≤ c ∧ c ≤ 9223372036854775807 ∧ DSrc W A ds ∧ ds.length ≤ Rows.uptoBulk x.1 := by
  obtain ⟨y0, y1, y2, m, hx, hl, g0, g1, g2⟩ := trod_struct3 ht hf
  rw [c0, o0] at g0
  rw [c1, o1] at g1
  rw [c2, o2] at g2
  obtain ⟨i, e0, rfl, w0⟩ := DataW.trod_int h0 g0
  obtain ⟨n, e1, rfl, w1⟩ := DataW.trod_int h1 g1
  obtain ⟨A, ds, c, e2, k, km, hs, hb⟩ := open_digs_cells h2 he hq hcq hce g2
  simp at e0 e1 e2
  obtain ⟨i, rfl, hi⟩ := u32_wf w0
  obtain ⟨n, rfl, hn⟩ := u32_wf w1
  refine ⟨i, n, A, ds, c, e0, e1, e2, hi, hn, k, km, hs, ?_⟩
  rw [hx]
  simp only [Rows.uptoBulk, Rows.uptoBulkAll]
  omega
theorem open_ways {H : Type} {enc : TypeId × Value → H} {P : Program} {W : World} {r : Reach} {b0 : Nat} {u t e q : TypeId} {f0 f1 f2 : Field} {v : Value} {d : DataW H} {ps : List MemPlace} (hu : P.underlying u = some (.array 2 t)) (ht : P.underlying t = some (.struct #[f0, f1, f2]))
    (h0 : P.underlying f0.type = some (.int .u32)) (h1 : P.underlying f1.type = some (.int .u32)) (h2 : P.underlying f2.type = some (.slice e)) (he : P.underlying e = some (.array 32 q)) (hq : P.underlying q = some (.int .u8))
    (hcq : P.cellsOf q = 1) (hce : P.cellsOf e = 32) (hct : P.cellsOf t = 3) (hcu : P.cellsOf u = 6) (c0 : P.cellsOf f0.type = 1) (c1 : P.cellsOf f1.type = 1) (c2 : P.cellsOf f2.type = 1) (o0 : f0.offset = 0) (o1 : f1.offset = 1) (o2 : f2.offset = 2)
    (hval : Value.okWide P W r b0 u v) (h : DataW.Trod enc P W 0 (fun _ => true) true u v d ps) :
    ∃ (i n : Nat) (A : Option Addr) (ds : List (List UInt8)) (c i2 n2 : Nat) (B : Option Addr) (es : List (List UInt8)) (c' : Nat),
      v = .agg #[.int .u32 i, .int .u32 n, .slice A ds.length c, .int .u32 i2, .int .u32 n2, .slice B es.length c'] ∧ i ≤ 4294967295 ∧ n ≤ 4294967295 ∧ ds.length ≤ c ∧ c ≤ 9223372036854775807 ∧ DSrc W A ds ∧
      es.length ≤ c' ∧ c' ≤ 9223372036854775807 ∧ DSrc W B es ∧ ds.length + es.length ≤ Rows.uptoBulk d := by
  simp only [Value.okWide, hu] at hval
  obtain ⟨cs, rfl, hsz⟩ := hval
  obtain ⟨fuel, hf⟩ := h
  obtain ⟨l⟩ := cs
  obtain ⟨a1, a2, a3, a4, a5, a6, rfl⟩ : ∃ a1 a2 a3 a4 a5 a6, l = [a1, a2, a3, a4, a5, a6] := by
    have hl : l.length = 6 := by
      first | (rw [hcu] at hsz; simpa using hsz) | (have := hsz.1; rw [hcu] at this; simpa using this) | (simp [hct, hcu] at hsz; omega)
    match l, hl with
    | [a1, a2, a3, a4, a5, a6], _ => exact ⟨a1, a2, a3, a4, a5, a6, rfl⟩
  have hf' : DataW.trod enc P W 0 (fun _ => true) true fuel u [a1, a2, a3, a4, a5, a6] = some (d, ps) := hf
  obtain ⟨y0, y1, m, hx, g0, g1⟩ := trod_array2s hu hct hf'
  obtain ⟨i, n, A, ds, c, rfl, rfl, rfl, k1, k2, k3, k4, k5, k6⟩ := open_way_cells ht h0 h1 h2 he hq hcq hce c0 c1 c2 o0 o1 o2 g0
  obtain ⟨i2, n2, B, es, c', rfl, rfl, rfl, _, _, j3, j4, j5, j6⟩ := open_way_cells ht h0 h1 h2 he hq hcq hce c0 c1 c2 o0 o1 o2 g1
  refine ⟨i, n, A, ds, c, i2, n2, B, es, c', rfl, k1, k2, k3, k4, k5, j3, j4, j5, ?_⟩
  simp only [Prod.mk.injEq] at hx
  rw [hx.1]
  simp only [Rows.uptoBulk, Rows.uptoBulkAll]
  omega
end Go.Proofs.YtimnpakmifjgoaaDoor
