/-
  A way (Place, Many, Path) that came in.
-/
import Derived.Test.YtimnpakmifjgoaaDoorLift4
import Derived.Deep.Strs
namespace Go.Proofs.YtimnpakmifjgoaaDoor
open Go.ChangeShapes Go.WideShapes Go.ChangeAt Go.RowKit Go.Deep

theorem open_digs_cells {H : Type} {enc : TypeId × Value → H} {P : Program} {W : World} {t e q : TypeId} {fuel : Nat} {cs : List Value} {x : DataW H × List MemPlace} (ht : P.underlying t = some (.slice e)) (he : P.underlying e = some (.array 32 q)) (hq : P.underlying q = some (.int .u8))
    (hcq : P.cellsOf q = 1) (hce : P.cellsOf e = 32) (hf : DataW.trod enc P W 0 (fun _ => true) true fuel t cs = some x) :
    ∃ (A : Option Addr) (ds : List (List UInt8)) (c : Nat), cs = [.slice A ds.length c] ∧ ds.length ≤ c ∧ c ≤ 9223372036854775807 ∧ DSrc W A ds ∧ ds.length ≤ Rows.uptoBulk x.1 := by
  rcases open_slice ht hf with ⟨hcs, hx⟩ | ⟨a, len, cap, m, n, D, Pl, hcs, _, hl, hm, hme, hx, hall⟩
  · subst hcs
    exact ⟨none, [], 0, rfl, Nat.le_refl _, by omega, ⟨fun x hx => (by cases hx), fun hne => absurd rfl hne⟩, Nat.zero_le _⟩
  · subst hcs
    simp only [if_true] at hme
    subst hme
    rw [hce] at hall
    obtain ⟨X, hX⟩ := choose_lt (n := len) (p := fun i (x : List UInt8) => x.length = 32 ∧ W.cells? 0 (a.add (i * 32)) 32 = some (x.map bv)) (fun i hi => by
      obtain ⟨cs', h1, h2⟩ := hall i (by omega)
      obtain ⟨l, hl32, rfl⟩ := open_bytes he hq hcq hce h2
      exact ⟨l, hl32, h1⟩)
    have hlen : ((List.range len).map X).length = len := by simp
    refine ⟨some a, (List.range len).map X, m, by rw [hlen], by rw [hlen]; exact hl, by simpa [maxLen] using hm, ⟨fun x hx => ?_, fun hne => ?_⟩, ?_⟩
    · obtain ⟨i, hi, rfl⟩ := List.mem_map.1 hx
      exact (hX i (by simpa using hi)).1
    · have hpos : 0 < len := by
        rcases Nat.eq_zero_or_pos len with h0 | h0
        · exact absurd (by simp [h0]) hne
        · exact h0
      obtain ⟨h32, hc0⟩ := hX 0 hpos
      have hcell : W.cell? a = some (bv ((X 0).getD 0 0)) := by
        have := cells_each hc0 0 (bv ((X 0).getD 0 0)) (by
          have hp : 0 < (X 0).length := by omega
          simp [List.getElem?_eq_getElem hp])
        simpa [Addr.add] using this
      obtain ⟨b, o, rfl, hlt⟩ := cell_spot hcell
      refine ⟨b, o, rfl, hlt, fun j x hx i v hi => ?_⟩
      have hj : j < len := by
        have := (List.getElem?_eq_some_iff.1 hx).1
        simpa using this
      have hxe : X j = x := by simpa [hj] using hx
      subst hxe
      have := cells_each (hX j hj).2 i v hi
      rwa [addr_add, addr_add] at this
    · subst hx
      rw [hlen]
      simp only [Rows.uptoBulk]
      have h1 := bulk_length (H := H) ((List.range len).map D)
      simp at h1
      omega

theorem u32_wf {z : Int} (h : (Lit.int .u32 z).wf = true) : ∃ n : Nat, z = n ∧ n ≤ 4294967295 := by
  simp [Lit.wf, IntKind.bits, IntKind.signed, IntKind.min, IntKind.max] at h
  exact ⟨z.toNat, by omega, by omega⟩

theorem open_way {H : Type} {enc : TypeId × Value → H} {P : Program} {W : World} {r : Reach} {b0 : Nat} {t e q : TypeId} {f0 f1 f2 : Field} {v : Value} {d : DataW H} {ps : List MemPlace} (ht : P.underlying t = some (.struct #[f0, f1, f2]))
    (h0 : P.underlying f0.type = some (.int .u32)) (h1 : P.underlying f1.type = some (.int .u32)) (h2 : P.underlying f2.type = some (.slice e)) (he : P.underlying e = some (.array 32 q)) (hq : P.underlying q = some (.int .u8))
    (hcq : P.cellsOf q = 1) (hce : P.cellsOf e = 32) (hct : P.cellsOf t = 3) (c0 : P.cellsOf f0.type = 1) (c1 : P.cellsOf f1.type = 1) (c2 : P.cellsOf f2.type = 1) (o0 : f0.offset = 0) (o1 : f1.offset = 1) (o2 : f2.offset = 2)
    (hval : Value.okWide P W r b0 t v) (h : DataW.Trod enc P W 0 (fun _ => true) true t v d ps) :
    ∃ (i n : Nat) (A : Option Addr) (ds : List (List UInt8)) (c : Nat), v = .agg #[.int .u32 i, .int .u32 n, .slice A ds.length c] ∧ i ≤ 4294967295 ∧ n ≤ 4294967295 ∧ ds.length ≤ c ∧ c ≤ 9223372036854775807 ∧ DSrc W A ds ∧ ds.length ≤ Rows.uptoBulk d := by
  obtain ⟨cs, rfl, hsz⟩ := okWide_struct ht hval
  obtain ⟨fuel, hf⟩ := h
  obtain ⟨y0, y1, y2, m, hx, hl, g0, g1, g2⟩ := trod_struct3 ht hf
  obtain ⟨l⟩ := cs
  obtain ⟨a, b, z, rfl⟩ : ∃ a b z, l = [a, b, z] := by
    rw [hct] at hsz
    match l, hsz with
    | [a, b, z], _ => exact ⟨a, b, z, rfl⟩
  rw [c0, o0] at g0
  rw [c1, o1] at g1
  rw [c2, o2] at g2
  obtain ⟨i, e0, rfl, w0⟩ := DataW.trod_int h0 g0
  obtain ⟨n, e1, rfl, w1⟩ := DataW.trod_int h1 g1
  obtain ⟨A, ds, c, e2, k, km, hs, hb⟩ := open_digs_cells h2 he hq hcq hce g2
  simp [Value.cells] at e0 e1 e2
  obtain ⟨i, rfl, hi⟩ := u32_wf w0
  obtain ⟨n, rfl, hn⟩ := u32_wf w1
  refine ⟨i, n, A, ds, c, by rw [e0, e1, e2], hi, hn, k, km, hs, ?_⟩
  simp only [Prod.mk.injEq] at hx
  rw [hx.1]
  simp only [Rows.uptoBulk, Rows.uptoBulkAll]
  omega

theorem open_dig {H : Type} {enc : TypeId × Value → H} {P : Program} {W : World} {r : Reach} {b0 : Nat} {t q : TypeId} {v : Value} {d : DataW H} {ps : List MemPlace} (ht : P.underlying t = some (.array 32 q)) (hq : P.underlying q = some (.int .u8)) (hcq : P.cellsOf q = 1) (hct : P.cellsOf t = 32)
    (hval : Value.okWide P W r b0 t v) (h : DataW.Trod enc P W 0 (fun _ => true) true t v d ps) : ∃ l : List UInt8, l.length = 32 ∧ v = .agg (l.map bv).toArray := by
  simp only [Value.okWide, ht] at hval
  obtain ⟨cs, rfl, _⟩ := hval
  obtain ⟨fuel, hf⟩ := h
  obtain ⟨l, hl, he⟩ := open_bytes ht hq hcq hct hf
  refine ⟨l, hl, ?_⟩
  rw [← he]
  simp [Value.cells]
end Go.Proofs.YtimnpakmifjgoaaDoor
