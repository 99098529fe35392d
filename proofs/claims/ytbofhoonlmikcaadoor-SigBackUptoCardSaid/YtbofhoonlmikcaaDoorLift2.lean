/-
  Slices of bytes that came in; what the second form's bound says of them.
-/
import Derived.Test.YtbofhoonlmikcaaDoorLift
import Derived.Test.YtbofhoonlmikcaaDoorOwnAny
namespace Go.Proofs.YtbofhoonlmikcaaDoor.Sh
open Go.ChangeShapes Go.WideShapes Go.ChangeAt Go.RowKit

theorem bulk_one {H : Type} (d : DataW H) : 1 ≤ Rows.uptoBulk d := by
  cases d with
  | lit l => cases l <;> simp [Rows.uptoBulk]
  | nil => simp [Rows.uptoBulk]
  | ptr d => simp [Rows.uptoBulk]
  | slice elems spare => simp [Rows.uptoBulk]
  | agg parts => simp [Rows.uptoBulk]
  | iface t d => simp [Rows.uptoBulk]
  | map entries => simp [Rows.uptoBulk]
  | held h => simp [Rows.uptoBulk]
theorem bulk_length {H : Type} (l : List (DataW H)) : l.length ≤ Rows.uptoBulkAll l := by
  induction l with
  | nil => simp [Rows.uptoBulkAll]
  | cons x r ih => have := bulk_one x; simp only [Rows.uptoBulkAll, List.length_cons]; omega

/-- a slice of bytes that came in -/
theorem open_src {H : Type} {enc : TypeId × Value → H} {P : Program} {W : World} {r : Reach} {b0 : Nat} {t e : TypeId} {v : Value} {d : DataW H} {ps : List MemPlace} (ht : P.underlying t = some (.slice e)) (he : P.underlying e = some (.int .u8)) (hc : P.cellsOf e = 1)
    (hval : Value.okWide P W r b0 t v) (h : DataW.Trod enc P W 0 (fun _ => true) true t v d ps) :
    ∃ (A : Option Addr) (m : List UInt8) (c : Nat), v = .slice A m.length c ∧ m.length ≤ c ∧ c ≤ 9223372036854775807 ∧ Src W A m ∧ m.length ≤ Rows.uptoBulk d := by
  obtain ⟨a0, len, cap, rfl⟩ := okWide_slice ht hval
  obtain ⟨fuel, hf⟩ := h
  rcases open_ints ht he hc hf with ⟨hcs, _⟩ | ⟨a, len', cap', zs, hcs, _, hl, hm, hz, hx, hcell, hwz⟩
  · simp [Value.cells] at hcs
    obtain ⟨rfl, rfl, rfl⟩ := hcs
    exact ⟨none, [], 0, rfl, Nat.le_refl _, by omega, fun hne => absurd rfl hne, Nat.zero_le _⟩
  · simp [Value.cells] at hcs
    obtain ⟨rfl, rfl, rfl⟩ := hcs
    simp only [if_true] at hz
    have hml : ((zs.take len).map fun z => UInt8.ofNat z.toNat).length = len := by simp; omega
    refine ⟨some a, (zs.take len).map (fun z => UInt8.ofNat z.toNat), cap, by rw [hml], by rw [hml]; exact hl, by simpa [maxLen] using hm, ?_, ?_⟩
    · intro hne
      have hpos : 0 < zs.length := by
        rcases Nat.eq_zero_or_pos zs.length with h0 | h0
        · exact absurd (by simp [List.eq_nil_of_length_eq_zero h0]) hne
        · exact h0
      have h0 := hcell 0 hpos
      have ha : a.spot = none := by
        have h0' : W.cell? a = some (.int .u8 (zs.getD 0 0)) := by simpa [Addr.add] using h0
        unfold World.cell? at h0'
        split at h0'
        · split at h0'
          · cases h0'
          · rename_i hs; simpa using hs
        · cases h0'
      obtain ⟨b, o, sp⟩ := a
      obtain rfl : sp = none := ha
      have hlt : b < W.heap.size := by
        have := block_lt_of_cell h0
        simpa [Addr.add] using this
      refine ⟨b, o, rfl, hlt, fun j u hu => ?_⟩
      rw [List.getElem?_map] at hu
      obtain ⟨z, hz', rfl⟩ := Option.map_eq_some_iff.1 hu
      rw [List.getElem?_take] at hz'
      split at hz'
      · have hj : j < zs.length := (List.getElem?_eq_some_iff.1 hz').1
        have hcj := hcell j hj
        rw [addr_add] at hcj
        rw [hcj]
        have hg : zs.getD j 0 = z := by rw [List.getD_eq_getElem?_getD, hz']; rfl
        rw [hg]
        have hw := hwz z (by exact List.mem_of_getElem? hz')
        have hz2 : 0 ≤ z ∧ z < 256 := by
          simp [Lit.wf, IntKind.bits, IntKind.signed, IntKind.min, IntKind.max] at hw
          omega
        unfold bv
        congr 2
        rw [UInt8.toNat_ofNat']
        omega
      · cases hz'
    · rw [hml]
      simp only [Prod.mk.injEq] at hx
      obtain ⟨rfl, _⟩ := hx
      simp only [Rows.uptoBulk]
      have h1 := bulk_length (lits (H := H) .u8 (zs.take len))
      have h2 : (lits (H := H) .u8 (zs.take len)).length = len := by simp [lits]; omega
      omega
end Go.Proofs.YtbofhoonlmikcaaDoor.Sh
