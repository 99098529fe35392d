/-
  Slices of slices of bytes that came in.
-/
import Derived.Test.YtimnpakmifjgoaaDoorLift2
import Derived.Test.YtimnpakmifjgoaaDoorTag
import Derived.Deep.Slices
import Derived.ChangeMaps5
namespace Go.Proofs.YtimnpakmifjgoaaDoor
open Go.ChangeShapes Go.WideShapes Go.ChangeAt Go.RowKit Go.Deep

instance : Inhabited Tx := ⟨⟨none, [], 0⟩⟩

theorem cell_spot {W : World} {a : Addr} {v : Value} (h : W.cell? a = some v) : ∃ b o, a = ⟨b, o, none⟩ ∧ b < W.heap.size := by
  have ha : a.spot = none := by
    unfold World.cell? at h
    split at h
    · split at h
      · cases h
      · rename_i hs; simpa using hs
    · cases h
  obtain ⟨b, o, sp⟩ := a
  obtain rfl : sp = none := ha
  exact ⟨b, o, rfl, by simpa using block_lt_of_cell h⟩

/-- a slice of bytes in a cell -/
theorem open_src_cell {H : Type} {enc : TypeId × Value → H} {P : Program} {W : World} {t e : TypeId} {V : Value} {d : DataW H} {ps : List MemPlace} {n : Nat} (ht : P.underlying t = some (.slice e)) (he : P.underlying e = some (.int .u8)) (hc : P.cellsOf e = 1)
    (h : DataW.trod enc P W 0 (fun _ => true) true n t [V] = some (d, ps)) :
    ∃ x : Tx, V = x.val ∧ x.ok W ∧ x.l.length + 1 ≤ Rows.uptoBulk d := by
  rcases open_ints ht he hc h with ⟨hcs, hx⟩ | ⟨a, len, cap, zs, hcs, _, hl, hm, hz, hx, hcell, hwz⟩
  · simp at hcs
    subst hcs
    simp only [Prod.mk.injEq] at hx
    obtain ⟨rfl, _⟩ := hx
    exact ⟨⟨none, [], 0⟩, rfl, ⟨fun hne => absurd rfl hne, Nat.le_refl _, by show 0 ≤ _; omega⟩, by simp [Rows.uptoBulk]⟩
  · simp at hcs
    subst hcs
    simp only [if_true] at hz
    have hml : ((zs.take len).map fun z => UInt8.ofNat z.toNat).length = len := by simp; omega
    refine ⟨⟨some a, (zs.take len).map (fun z => UInt8.ofNat z.toNat), cap⟩, by simp only [Tx.val]; rw [hml], ⟨?_, by show _ ≤ cap; rw [hml]; exact hl, by simpa [maxLen] using hm⟩, ?_⟩
    · intro hne
      have hpos : 0 < zs.length := by
        rcases Nat.eq_zero_or_pos zs.length with h0 | h0
        · exact absurd (by simp [List.eq_nil_of_length_eq_zero h0]) hne
        · exact h0
      have h0 := hcell 0 hpos
      obtain ⟨b, o, rfl, hlt⟩ := cell_spot (a := a) (by simpa [Addr.add] using h0)
      refine ⟨b, o, rfl, hlt, fun j u hu => ?_⟩
      rw [List.getElem?_map] at hu
      obtain ⟨z, hz', rfl⟩ := Option.map_eq_some_iff.1 hu
      rw [List.getElem?_take] at hz'
      split at hz'
      · have hj : j < zs.length := (List.getElem?_eq_some_iff.1 hz').1
        have hcj := hcell j hj
        rw [addr_add] at hcj
        rw [hcj]
        have hg : zs.getD j 0 = z := by rw [List.getD_eq_getElem?_getD, hz']; rfl
        rw [hg]
        have hw := hwz z (by exact List.mem_of_getElem? hz')
        have hz2 : 0 ≤ z ∧ z < 256 := by
          simp [Lit.wf, IntKind.bits, IntKind.signed, IntKind.min, IntKind.max] at hw
          omega
        unfold bv
        congr 2
        rw [UInt8.toNat_ofNat']
        omega
      · cases hz'
    · show ((zs.take len).map _).length + 1 ≤ _
      rw [hml]
      simp only [Prod.mk.injEq] at hx
      obtain ⟨rfl, _⟩ := hx
      simp only [Rows.uptoBulk]
      have h1 := bulk_length (lits (H := H) .u8 (zs.take len))
      have h2 : (lits (H := H) .u8 (zs.take len)).length = len := by simp [lits]; omega
      omega

theorem bulk_texts {H : Type} (D : Nat → DataW H) (X : Nat → Tx) : ∀ (l : List Nat), (∀ i ∈ l, (X i).l.length + 1 ≤ Rows.uptoBulk (D i)) → (cat (l.map X)).length + l.length ≤ Rows.uptoBulkAll (l.map D)
  | [], _ => by simp [cat, Rows.uptoBulkAll]
  | i :: r, h => by
    have h1 := h i (by simp)
    have h2 := bulk_texts D X r (fun j hj => h j (by simp [hj]))
    simp only [cat, List.map_cons, List.flatMap_cons, List.length_append, List.length_cons, Rows.uptoBulkAll] at h2 ⊢
    omega

/-- a slice of slices of bytes that came in -/
theorem open_texts {H : Type} {enc : TypeId × Value → H} {P : Program} {W : World} {r : Reach} {b0 : Nat} {t e q : TypeId} {v : Value} {d : DataW H} {ps : List MemPlace} (ht : P.underlying t = some (.slice e)) (he : P.underlying e = some (.slice q)) (hq : P.underlying q = some (.int .u8))
    (hce : P.cellsOf e = 1) (hcq : P.cellsOf q = 1) (hval : Value.okWide P W r b0 t v) (h : DataW.Trod enc P W 0 (fun _ => true) true t v d ps) :
    ∃ (T : Option Addr) (ts : List Tx) (c : Nat), v = .slice T ts.length c ∧ ts.length ≤ c ∧ c ≤ 9223372036854775807 ∧ Texts W T ts ∧ (cat ts).length + ts.length ≤ Rows.uptoBulk d := by
  obtain ⟨a0, len, cap, rfl⟩ := okWide_slice ht hval
  obtain ⟨fuel, hf⟩ := h
  rcases open_slice1 ht hce hf with ⟨hcs, hx⟩ | ⟨a, len', cap', m, n, V, D, Pl, hcs, _, hl, hm, hme, hx, hall⟩
  · simp [Value.cells] at hcs
    obtain ⟨rfl, rfl, rfl⟩ := hcs
    exact ⟨none, [], 0, rfl, Nat.le_refl _, by omega, fun hne => absurd rfl hne, by simp [cat]⟩
  · simp [Value.cells] at hcs
    obtain ⟨rfl, rfl, rfl⟩ := hcs
    simp only [if_true] at hme
    subst hme
    obtain ⟨X, hX⟩ := choose_lt (n := len) (p := fun i (x : Tx) => V i = x.val ∧ x.ok W ∧ x.l.length + 1 ≤ Rows.uptoBulk (D i)) (fun i hi => open_src_cell he hq hcq (hall i (by omega)).2)
    have hlen : ((List.range len).map X).length = len := by simp
    refine ⟨some a, (List.range len).map X, m, by rw [hlen], by rw [hlen]; exact hl, by simpa [maxLen] using hm, fun hne => ?_, ?_⟩
    · have hpos : 0 < len := by
        rcases Nat.eq_zero_or_pos len with h0 | h0
        · exact absurd (by simp [h0]) hne
        · exact h0
      obtain ⟨b, o, rfl, hlt⟩ := cell_spot (a := a) (by simpa [Addr.add] using (hall 0 (by omega)).1)
      refine ⟨b, o, rfl, hlt, fun j x hx => ?_⟩
      have hj : j < len := by
        have := (List.getElem?_eq_some_iff.1 hx).1
        simpa using this
      have hxe : X j = x := by simpa [hj] using hx
      have hc := (hall j (by omega)).1
      rw [addr_add] at hc
      obtain ⟨h1, h2, _⟩ := hX j hj
      rw [hxe] at h1 h2
      exact ⟨by rw [hc, h1], h2⟩
    · simp only [Prod.mk.injEq] at hx
      obtain ⟨rfl, _⟩ := hx
      have hb := bulk_texts D X (List.range len) (fun i hi => (hX i (by simpa using hi)).2.2)
      rw [hlen]
      rw [List.length_range] at hb
      simp only [Rows.uptoBulk]
      omega
end Go.Proofs.YtimnpakmifjgoaaDoor
