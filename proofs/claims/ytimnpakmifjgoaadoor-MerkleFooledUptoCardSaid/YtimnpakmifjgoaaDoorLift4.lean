/-
  Slices of digests that came in.
-/
import Derived.Test.YtimnpakmifjgoaaDoorLift3
import Derived.Test.YtimnpakmifjgoaaDoorMCut
namespace Go.Proofs.YtimnpakmifjgoaaDoor
open Go.ChangeShapes Go.WideShapes Go.ChangeAt Go.RowKit Go.Deep

theorem cells_each {W : World} {base : Nat} {a : Addr} {n : Nat} {cs : List Value} (h : W.cells? base a n = some cs) : ∀ (j : Nat) (v : Value), cs[j]? = some v → W.cell? (a.add j) = some v := fun j v hj => by
  unfold World.cells? at h
  split at h
  · have hl := Lib.mapM_length h
    have hjl : j < n := by
      have := (List.getElem?_eq_some_iff.1 hj).1
      simp at hl
      omega
    obtain ⟨b, hb, hf⟩ := Lib.mapM_at h j j (by simp [hjl])
    rw [hb] at hj
    injection hj with hj
    rw [hf, hj]
  · cases h

theorem open_digs {H : Type} {enc : TypeId × Value → H} {P : Program} {W : World} {r : Reach} {b0 : Nat} {t e q : TypeId} {v : Value} {d : DataW H} {ps : List MemPlace} (ht : P.underlying t = some (.slice e)) (he : P.underlying e = some (.array 32 q)) (hq : P.underlying q = some (.int .u8))
    (hcq : P.cellsOf q = 1) (hce : P.cellsOf e = 32) (hval : Value.okWide P W r b0 t v) (h : DataW.Trod enc P W 0 (fun _ => true) true t v d ps) :
    ∃ (A : Option Addr) (ds : List (List UInt8)) (c : Nat), v = .slice A ds.length c ∧ ds.length ≤ c ∧ c ≤ 9223372036854775807 ∧ DSrc W A ds ∧ ds.length ≤ Rows.uptoBulk d := by
  obtain ⟨a0, len, cap, rfl⟩ := okWide_slice ht hval
  obtain ⟨fuel, hf⟩ := h
  rcases open_slice ht hf with ⟨hcs, hx⟩ | ⟨a, len', cap', m, n, D, Pl, hcs, _, hl, hm, hme, hx, hall⟩
  · simp [Value.cells] at hcs
    obtain ⟨rfl, rfl, rfl⟩ := hcs
    exact ⟨none, [], 0, rfl, Nat.le_refl _, by omega, ⟨fun x hx => (by cases hx), fun hne => absurd rfl hne⟩, Nat.zero_le _⟩
  · simp [Value.cells] at hcs
    obtain ⟨rfl, rfl, rfl⟩ := hcs
    simp only [if_true] at hme
    subst hme
    rw [hce] at hall
    obtain ⟨X, hX⟩ := choose_lt (n := len) (p := fun i (x : List UInt8) => x.length = 32 ∧ W.cells? 0 (a.add (i * 32)) 32 = some (x.map bv)) (fun i hi => by
      obtain ⟨cs', h1, h2⟩ := hall i (by omega)
      obtain ⟨l, hl32, rfl⟩ := open_bytes he hq hcq hce h2
      exact ⟨l, hl32, h1⟩)
    have hlen : ((List.range len).map X).length = len := by simp
    refine ⟨some a, (List.range len).map X, m, by rw [hlen], by rw [hlen]; exact hl, by simpa [maxLen] using hm, ⟨fun x hx => ?_, fun hne => ?_⟩, ?_⟩
    · obtain ⟨i, hi, rfl⟩ := List.mem_map.1 hx
      exact (hX i (by simpa using hi)).1
    · have hpos : 0 < len := by
        rcases Nat.eq_zero_or_pos len with h0 | h0
        · exact absurd (by simp [h0]) hne
        · exact h0
      obtain ⟨h32, hc0⟩ := hX 0 hpos
      have hcell : W.cell? a = some (bv ((X 0).getD 0 0)) := by
        have := cells_each hc0 0 (bv ((X 0).getD 0 0)) (by
          have hp : 0 < (X 0).length := by omega
          simp [List.getElem?_eq_getElem hp])
        simpa [Addr.add] using this
      obtain ⟨b, o, rfl, hlt⟩ := cell_spot hcell
      refine ⟨b, o, rfl, hlt, fun j x hx i v hi => ?_⟩
      have hj : j < len := by
        have := (List.getElem?_eq_some_iff.1 hx).1
        simpa using this
      have hxe : X j = x := by simpa [hj] using hx
      subst hxe
      have := cells_each (hX j hj).2 i v hi
      rwa [addr_add, addr_add] at this
    · simp only [Prod.mk.injEq] at hx
      obtain ⟨rfl, _⟩ := hx
      rw [hlen]
      simp only [Rows.uptoBulk]
      have h1 := bulk_length (H := H) ((List.range len).map D)
      simp at h1
      omega
end Go.Proofs.YtimnpakmifjgoaaDoor
