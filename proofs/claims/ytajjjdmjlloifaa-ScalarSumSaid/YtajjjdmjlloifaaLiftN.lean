/-
  Slices of numbers of four words that came in.
-/
import Derived.Test.YtajjjdmjlloifaaFeLift
import Derived.Test.YtajjjdmjlloifaaNRow
import Derived.SizedLaws
import Derived.Deep.Slices
namespace Go.Proofs.Ytajjjdmjlloifaa
open Go.ChangeShapes Go.WideShapes Go.ChangeAt Go.RowKit Go.Deep

theorem cells_eachN {W : World} {base : Nat} {a : Addr} {n : Nat} {cs : List Value} (h : W.cells? base a n = some cs) : ∀ (j : Nat) (v : Value), cs[j]? = some v → W.cell? (a.add j) = some v := fun j v hj => by
  unfold World.cells? at h
  split at h
  · have hl := Lib.mapM_length h
    have hjl : j < n := by
      have := (List.getElem?_eq_some_iff.1 hj).1
      simp at hl
      omega
    obtain ⟨b, hb, hf⟩ := Lib.mapM_at h j j (by simp [hjl])
    rw [hb] at hj
    injection hj with hj
    rw [hf, hj]
  · cases h
theorem cells_lenN {W : World} {base : Nat} {a : Addr} {n : Nat} {cs : List Value} (h : W.cells? base a n = some cs) : cs.length = n := by
  unfold World.cells? at h
  split at h
  · have hl := Lib.mapM_length h
    simpa using hl
  · cases h
theorem choose_ltN {α : Type} [Inhabited α] {n : Nat} {p : Nat → α → Prop} (h : ∀ i, i < n → ∃ x, p i x) : ∃ f : Nat → α, ∀ i, i < n → p i (f i) :=
  ⟨fun i => if hi : i < n then Classical.choose (h i hi) else default, fun i hi => by simp only [hi, dif_pos]; exact Classical.choose_spec (h i hi)⟩
theorem cell_spotN {w : World} {a : Addr} {v : Value} (h : w.cell? a = some v) : ∃ b o, a = ⟨b, o, none⟩ ∧ b < w.heap.size := by
  obtain ⟨b, o, k⟩ := a
  unfold World.cell? at h
  cases k with
  | none =>
    refine ⟨b, o, rfl, ?_⟩
    rcases Nat.lt_or_ge b w.heap.size with hl | hl
    · exact hl
    · simp [Array.getElem?_eq_none hl] at h
  | some k => exfalso; cases hw : w.heap[b]? with
    | none => simp [hw] at h
    | some ob => cases ob <;> simp [hw] at h
theorem add_midN (b o n : Nat) : (⟨b, o, none⟩ : Addr).add n = ⟨b, o + n, none⟩ := by unfold Addr.add; split <;> simp_all
theorem open_four {H : Type} {enc : TypeId × Value → H} {P : Program} {w : World} {base : Nat} {sp : Nat → Bool} {held : Bool} {fuel : Nat} {t q : TypeId} {cs : List Value} {x : DataW H × List MemPlace} (ht : P.underlying t = some (.array 4 q)) (hq : P.underlying q = some (.int .u64)) (hcq : P.cellsOf q = 1)
    (hl : cs.length = 4) (h : DataW.trod enc P w base sp held fuel t cs = some x) : ∃ n : Nat, n < 115792089237316195423570985008687907853269984665640564039457584007913129639936 ∧ cs = (fcs n).toList := by
  obtain ⟨c0, c1, c2, c3, rfl⟩ : ∃ c0 c1 c2 c3, cs = [c0, c1, c2, c3] := by
    match cs, hl with
    | [c0, c1, c2, c3], _ => exact ⟨c0, c1, c2, c3, rfl⟩
  obtain ⟨y0, y1, y2, y3, m, _, g0, g1, g2, g3⟩ := trod_array4 ht hcq h
  obtain ⟨z0, e0, _, w0⟩ := DataW.trod_int hq g0
  obtain ⟨z1, e1, _, w1⟩ := DataW.trod_int hq g1
  obtain ⟨z2, e2, _, w2⟩ := DataW.trod_int hq g2
  obtain ⟨z3, e3, _, w3⟩ := DataW.trod_int hq g3
  obtain ⟨a, rfl, ha⟩ := u64_wf w0
  obtain ⟨b, rfl, hb⟩ := u64_wf w1
  obtain ⟨c, rfl, hc⟩ := u64_wf w2
  obtain ⟨e, rfl, he⟩ := u64_wf w3
  simp only [List.cons.injEq, and_true] at e0 e1 e2 e3
  subst e0 e1 e2 e3
  refine ⟨_, fv_lt a b c e ha hb hc he, ?_⟩
  have h := fv_mk a b c e ha hb hc he
  rw [fv_fcs] at h
  injection h with h
  rw [← h]
theorem open_nums {H : Type} {enc : TypeId × Value → H} {P : Program} {W : World} {r : Reach} {b0 : Nat} {t e q : TypeId} {v : Value} {d : DataW H} {ps : List MemPlace} (ht : P.underlying t = some (.slice e)) (he : P.underlying e = some (.array 4 q)) (hq : P.underlying q = some (.int .u64))
    (hcq : P.cellsOf q = 1) (hce : P.cellsOf e = 4) (hval : Value.okWide P W r b0 t v) (h : DataW.Trod enc P W 0 (fun _ => true) true t v d ps) :
    ∃ (A : Option Addr) (ds : List Nat) (c : Nat), v = .slice A ds.length c ∧ ds.length ≤ c ∧ c ≤ 9223372036854775807 ∧ NSrc W A ds ∧ (∀ x ∈ ds, x < 115792089237316195423570985008687907853269984665640564039457584007913129639936) ∧ (ds.length = 0 ∨ ∃ elems spare, d = .slice elems spare ∧ elems.length = ds.length) := by
  obtain ⟨a0, len, cap, rfl⟩ := okWide_slice ht hval
  obtain ⟨fuel, hf⟩ := h
  rcases open_slice ht hf with ⟨hcs, hx⟩ | ⟨a, len', cap', m, n, D, Pl, hcs, _, hl, hm, hme, hx, hall⟩
  · simp [Value.cells] at hcs
    obtain ⟨rfl, rfl, rfl⟩ := hcs
    exact ⟨none, [], 0, rfl, Nat.le_refl _, by omega, ⟨elems_nvals [], fun hne => absurd rfl hne⟩, fun x hx => (by cases hx), .inl rfl⟩
  · simp [Value.cells] at hcs
    obtain ⟨rfl, rfl, rfl⟩ := hcs
    simp only [if_true] at hme
    subst hme
    rw [hce] at hall
    obtain ⟨X, hX⟩ := choose_ltN (n := len) (p := fun i (x : Nat) => x < 115792089237316195423570985008687907853269984665640564039457584007913129639936 ∧ W.cells? 0 (a.add (i * 4)) 4 = some (fcs x).toList) (fun i hi => by
      obtain ⟨cs', h1, h2⟩ := hall i (by omega)
      obtain ⟨l, hl4, rfl⟩ := open_four he hq hcq (cells_lenN h1) h2
      exact ⟨l, hl4, h1⟩)
    have hlen : ((List.range len).map X).length = len := by simp
    refine ⟨some a, (List.range len).map X, m, by rw [hlen], by rw [hlen]; exact hl, by simpa [maxLen] using hm, ⟨elems_nvals _, fun hne => ?_⟩, fun x hx => ?_, .inr ?_⟩
    · have hpos : 0 < len := by
        rcases Nat.eq_zero_or_pos len with h0 | h0
        · exact absurd (by simp [h0, nvals]) hne
        · exact h0
      obtain ⟨_, hc0⟩ := hX 0 hpos
      have hcell : W.cell? a = some (qv (X 0 % 18446744073709551616)) := by
        have := cells_eachN hc0 0 (qv (X 0 % 18446744073709551616)) rfl
        simpa [Addr.add] using this
      obtain ⟨b, o, rfl, hlt⟩ := cell_spotN hcell
      refine ⟨b, o, rfl, hlt, fun j x hx i v hi => ?_⟩
      have hj : j < len := by
        have := (List.getElem?_eq_some_iff.1 hx).1
        simpa [nvals] using this
      have hxe : (fcs (X j)).toList = x := by
        unfold nvals at hx
        rw [List.map_map, List.getElem?_map] at hx
        simpa [hj] using hx
      subst hxe
      have := cells_eachN (hX j hj).2 i v hi
      rwa [add_midN, add_midN] at this
    · obtain ⟨i, hi, rfl⟩ := List.mem_map.1 hx
      exact (hX i (by simpa using hi)).1
    · simp only [Prod.mk.injEq] at hx
      obtain ⟨rfl, _⟩ := hx
      exact ⟨_, _, rfl, by rw [hlen]; simp⟩
end Go.Proofs.Ytajjjdmjlloifaa
