/-
  A slice literal whose elements are of several cells. No function of the program stands here.
-/
import Derived.Test.YtimnpakmifjgoaaDoorOwnE
import Derived.Great.BuildSlice
namespace Go.Proofs.YtimnpakmifjgoaaDoor
open Go.RowKit

theorem agg_flat : ∀ (xs : List (List Value)), ((xs.map fun x => Value.agg x.toArray).flatMap fun v => v.cells.toList) = xs.flatten
  | [] => rfl
  | x :: r => by
    rw [List.map_cons, List.flatMap_cons, List.flatten_cons, agg_flat r]
    rfl
theorem fill_elems {size : Nat} (hs : 0 < size) (xs : List (List Value)) (he : Elems size xs) (cells : Array Value) (hn : xs.length * size = cells.size) :
    Instr.fill (fun i => some (i * size, size)) cells ((xs.zipIdx 0).map fun p => (p.2, Value.agg p.1.toArray)) = some xs.flatten.toArray := by
  have h := Great.fill_whole hs (xs.map fun x => Value.agg x.toArray) cells (fun v hv => by
    obtain ⟨x, hx, rfl⟩ := List.mem_map.1 hv
    simpa [Value.cells] using (he x hx).1) (by simpa using hn)
  rw [List.zipIdx_map, List.map_map] at h
  have e : ((xs.map fun x => Value.agg x.toArray).flatMap fun v => v.cells.toList) = xs.flatten := agg_flat xs
  rw [e] at h
  exact h
theorem run_build_elems {P : Program} {t e : TypeId} {z : Value} {size bytes : Nat} (ht : P.underlying t = some (.slice e)) (hinfo : (P.info? e).map (fun i => (i.zero, i.size, i.bytes)) = some (some z, size, bytes)) (hsz : 0 < size)
    (w : World) (len : Nat) (parts : Array (Nat × Value)) (xs : List (List Value)) (he : Elems size xs) (hlen : len = xs.length) (hpos : 0 < len) (hsmall : len * size ≤ 2 ^ 24)
    (hparts : parts.toList = (xs.zipIdx 0).map fun p => (p.2, Value.agg p.1.toArray)) (N : Nat) (hN : w.heap.size = N) :
    (Instr.buildSlice t len parts).run P w = .ok (.slice (some ⟨N, 0, none⟩) len len) (w.alloc (.cells xs.flatten.toArray e)) := by
  subst hN
  obtain ⟨i, hi, hz0, hz1, hz2⟩ := info_parts hinfo
  have hp : 0 < len * size := Nat.mul_pos hpos hsz
  exact run_buildSlice w t e len parts _ i z ht hi hz0 (by rw [hz1]; omega) (by rw [hz1]; omega) (by
    rw [hparts, hz1]
    exact fill_elems hsz xs he _ (by simp [hlen]))
theorem wp_build_elems {P : Program} {t e : TypeId} {z : Value} {size bytes : Nat} (ht : P.underlying t = some (.slice e)) (hinfo : (P.info? e).map (fun i => (i.zero, i.size, i.bytes)) = some (some z, size, bytes)) (hsz : 0 < size)
    {w : World} {o : Oper} {a : Act} {K : Act → World → Prop} {Q : Exit → Act → World → Prop} (len : Nat) (parts : Array (Nat × Operand)) (ho : o.op = .buildSlice t len parts)
    (xs : List (List Value)) (he : Elems size xs) (hlen : len = xs.length) (hpos : 0 < len) (hsmall : len * size ≤ 2 ^ 24)
    (hparts : (parts.map fun (i, x) => (i, a.eval x)).toList = (xs.zipIdx 0).map fun p => (p.2, Value.agg p.1.toArray)) (N : Nat) (hN : w.heap.size = N)
    (h : K (a.put o.dst (.slice (some ⟨N, 0, none⟩) len len)) (w.alloc (.cells xs.flatten.toArray e))) : o.wp P a w K Q := by
  unfold Oper.wp execOp
  simp only [ho, Sem.run_bind, run_build_elems ht hinfo hsz w len _ xs he hlen hpos hsmall hparts N hN, Result.andThen_ok]
  exact h
theorem wpList_build_elems {P : Program} {t e : TypeId} {z : Value} {size bytes : Nat} (ht : P.underlying t = some (.slice e)) (hinfo : (P.info? e).map (fun i => (i.zero, i.size, i.bytes)) = some (some z, size, bytes)) (hsz : 0 < size)
    {w : World} {ops : Array Oper} {rest : List Oper} {o : Oper} {a : Act} {Q : Exit → Act → World → Prop} (hgd : o.guard = none) (len : Nat) (parts : Array (Nat × Operand)) (ho : o.op = .buildSlice t len parts)
    (xs : List (List Value)) (he : Elems size xs) (hlen : len = xs.length) (hpos : 0 < len) (hsmall : len * size ≤ 2 ^ 24)
    (hparts : (parts.map fun (i, x) => (i, a.eval x)).toList = (xs.zipIdx 0).map fun p => (p.2, Value.agg p.1.toArray)) (N : Nat) (hN : w.heap.size = N)
    (h : wpList P ops Q rest (a.put o.dst (.slice (some ⟨N, 0, none⟩) len len)) (w.alloc (.cells xs.flatten.toArray e))) : wpList P ops Q (o :: rest) a w :=
  wpList_plain hgd fun _ hK => wp_build_elems ht hinfo hsz len parts ho xs he hlen hpos hsmall hparts N hN (hK _ _ h)
/-- what such a literal lays -/
theorem ESrc.lit {w : World} (N : Nat) (hN : w.heap.size = N) {size : Nat} (t : TypeId) {xs : List (List Value)} (he : Elems size xs) : ESrc size (w.alloc (.cells xs.flatten.toArray t)) (some ⟨N, 0, none⟩) xs :=
  ⟨he, fun _ => ⟨N, 0, rfl, by rw [← hN]; simp, fun j x hx i u hu => by
    subst hN
    simp only [Nat.zero_add]
    exact (cell_of_row _ _ (j * size + i) _ t _ (heap_alloc_new w _)).trans (by simpa using flat_at xs he j x hx i u hu)⟩⟩
end Go.Proofs.YtimnpakmifjgoaaDoor
