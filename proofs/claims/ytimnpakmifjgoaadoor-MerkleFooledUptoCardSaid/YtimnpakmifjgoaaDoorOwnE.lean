/-
  A row of the call's own whose elements are of several cells: append. No function of the program stands here.
-/
import Derived.Test.YtimnpakmifjgoaaDoorMem
import Derived.Deep.AppendLies
import Derived.OwnWalk
import Derived.Maps.AppendAt
namespace Go.Proofs.YtimnpakmifjgoaaDoor
open Go.RowKit

/-- elements of so many cells each -/
def Elems (size : Nat) (xs : List (List Value)) : Prop := ∀ x ∈ xs, x.length = size ∧ ∀ u ∈ x, u.oneCell' = true
/-- v owns the elements xs, in a block from base on -/
def OwnE (e : TypeId) (size : Nat) (w : World) (base : Nat) (v : Value) (xs : List (List Value)) : Prop := Elems size xs ∧ w.ownsRow base e size v xs.length xs.flatten
/-- the elements xs lie at A -/
def ESrc (size : Nat) (w : World) (A : Option Addr) (xs : List (List Value)) : Prop := Elems size xs ∧ (xs ≠ [] → ∃ b o, A = some ⟨b, o, none⟩ ∧ b < w.heap.size ∧ ∀ j x, xs[j]? = some x → w.rangeAt b (o + j * size) x)

theorem flat_cells {w : World} {b size : Nat} : ∀ (xs : List (List Value)) (o : Nat), Elems size xs → (∀ j x, xs[j]? = some x → w.rangeAt b (o + j * size) x) → ∀ q u, xs.flatten[q]? = some u → w.cell? ⟨b, o + q, none⟩ = some u
  | [], _, _, _, q, u, h => by simp at h
  | x :: r, o, he, hr, q, u, h => by
    have hx := (he x (by simp)).1
    rw [List.flatten_cons, List.getElem?_append] at h
    split at h
    · have h0 := hr 0 x rfl q u h
      simpa using h0
    · rename_i hq
      have h1 := flat_cells r (o + size) (fun y hy => he y (by simp [hy])) (fun j y hy => by
        have := hr (j + 1) y (by simpa using hy)
        rwa [Nat.add_mul, Nat.one_mul, Nat.add_comm (j * size) size, ← Nat.add_assoc] at this) (q - size) u (by rw [← hx]; exact h)
      rw [show o + q = o + size + (q - size) by omega]
      exact h1
theorem flat_at {size : Nat} : ∀ (xs : List (List Value)), Elems size xs → ∀ j x, xs[j]? = some x → ∀ i u, x[i]? = some u → xs.flatten[j * size + i]? = some u
  | [], _, j, x, h, _, _, _ => by simp at h
  | y :: r, he, j, x, h, i, u, hu => by
    have hy := (he y (by simp)).1
    rw [List.flatten_cons]
    cases j with
    | zero =>
      have e : y = x := by simpa using h
      subst e
      have hi := (List.getElem?_eq_some_iff.1 hu).1
      rw [Nat.zero_mul, Nat.zero_add, List.getElem?_append_left hi]
      exact hu
    | succ j =>
      have := flat_at r (fun z hz => he z (by simp [hz])) j x (by simpa using h) i u hu
      rw [List.getElem?_append_right (by rw [hy, Nat.add_mul]; omega), hy, show (j + 1) * size + i - size = j * size + i by rw [Nat.add_mul]; omega]
      exact this
theorem flat_length {size : Nat} : ∀ (xs : List (List Value)), Elems size xs → xs.flatten.length = xs.length * size
  | [], _ => by simp
  | x :: r, he => by
    rw [List.flatten_cons, List.length_append, flat_length r (fun z hz => he z (by simp [hz])), (he x (by simp)).1, List.length_cons, Nat.add_mul]
    omega
theorem Elems.append {size : Nat} {xs ys : List (List Value)} (h : Elems size xs) (k : Elems size ys) : Elems size (xs ++ ys) := fun x hx => (List.mem_append.1 hx).elim (h x) (k x)

section
variable {w w' : World} {e : TypeId} {size base : Nat} {v : Value} {xs : List (List Value)}
theorem ESrc.below {A : Option Addr} (h : ESrc size w A xs) (hb : Below w.heap.size w w') : ESrc size w' A xs :=
  ⟨h.1, fun hne => by
    obtain ⟨b, o, e, hlt, hc⟩ := h.2 hne
    exact ⟨b, o, e, Nat.lt_of_lt_of_le hlt hb.size, fun j x hx i u hu => (hb.cell (p := ⟨b, o + j * size + i, none⟩) hlt).trans (hc j x hx i u hu)⟩⟩
theorem OwnE.below (h : OwnE e size w base v xs) (hb : Below w.heap.size w w') : OwnE e size w' base v xs :=
  ⟨h.1, World.ownsRow.kept (row := none) h.2 ⟨hb.os, hb.tape, hb.output, hb.size, fun k hk _ => hb.block k hk⟩ (by cases hv : v.ownBlock <;> simp)⟩
theorem OwnE.alloc (h : OwnE e size w base v xs) (o : Obj) : OwnE e size (w.alloc o) base v xs := ⟨h.1, World.ownsRow.alloc h.2 o⟩
theorem OwnE.nil (w : World) (base : Nat) (e : TypeId) (size : Nat) : OwnE e size w base (.slice none 0 0) [] := ⟨fun x hx => (by cases hx), World.ownsRow_nil w base _ _⟩
theorem OwnE.le {base' : Nat} (h : OwnE e size w base v xs) (hb : base' ≤ base) : OwnE e size w base' v xs :=
  ⟨h.1, h.2.1, h.2.2.elim Or.inl (fun ⟨g, cap, cur, hv, hg, r⟩ => Or.inr ⟨g, cap, cur, hv, Nat.le_trans hb hg, r⟩)⟩
theorem OwnE.any (h : OwnE e size w base v xs) : ∃ A cap, v = .slice A xs.length cap ∧ ESrc size w A xs ∧ xs.length ≤ cap ∧ cap ≤ 9223372036854775807 := by
  rcases h.2.2 with ⟨hv, h0⟩ | ⟨g, cap, cur, hv, _, hb, h1, h2, _⟩
  · have : xs = [] := List.eq_nil_of_length_eq_zero h0
    subst this
    exact ⟨none, 0, hv, ⟨h.1, fun hne => absurd rfl hne⟩, Nat.le_refl _, by omega⟩
  · refine ⟨some ⟨g, 0, none⟩, cap, hv, ⟨h.1, fun _ => ⟨g, 0, rfl, ?_, fun j x hx i u hu => ?_⟩⟩, h1, by simpa [maxLen] using h2⟩
    · rcases Nat.lt_or_ge g w.heap.size with hlt | hge
      · exact hlt
      · rw [Array.getElem?_eq_none hge] at hb; cases hb
    · have hc := World.ownsRow.cells h.2 (g := g) (by rw [hv]; rfl) (j * size + i) u (flat_at xs h.1 j x hx i u hu)
      rwa [Addr.add_mid, ← Nat.add_assoc] at hc
theorem OwnE.keep (h : OwnE e size w base v xs) {row : Option Nat} (hg : w.grownBy w' row) (hne : v.ownBlock = none ∨ v.ownBlock ≠ row) : OwnE e size w' base v xs := ⟨h.1, World.ownsRow.kept h.2 hg hne⟩
theorem below_ownE {B : Nat} {w0 w w' : World} (h : Below B w0 w) (hown : OwnE e size w base v xs) (hg : w.grownBy w' v.ownBlock) (hB : B ≤ base) (hw : B ≤ w.heap.size) : Below B w0 w' :=
  h.grown hg hw (fun k hk => Nat.le_trans hB (World.ownsRow.lt hown.2 k hk).1)
end

theorem run_append_elems {P : Program} {t e : TypeId} {z : Value} {size bytes : Nat} (ht : P.underlying t = some (.slice e)) (hinfo : (P.info? e).map (fun i => (i.zero, i.size, i.bytes)) = some (some z, size, bytes)) (hzs : z.cells.size = size) (hsz : 0 < size)
    (w : World) (base : Nat) (v : Value) (xs ys : List (List Value)) (hown : OwnE e size w base v xs) (A : Option Addr) (c : Nat) (hsrc : ESrc size w A ys) (hlen : (xs.length + ys.length) * bytes ≤ 140737488355328) (hlen2 : xs.length + ys.length ≤ 9223372036854775807) (hbase : base ≤ w.heap.size) (ty : TypeId) :
    ∃ v' w', (Builtin.append_ #[t, t] ty #[v, .slice A ys.length c]).run P w = .ok v' w' ∧ OwnE e size w' base v' (xs ++ ys) ∧ w.grownBy w' v.ownBlock ∧ (v'.ownBlock = v.ownBlock ∨ v'.ownBlock = some w.heap.size) := by
  obtain ⟨i, hi, hz0, hz1, hz2⟩ := info_parts hinfo
  by_cases hy : ys = []
  · subst hy
    cases A with
    | none =>
      have hrun : (Builtin.append_ #[t, t] ty #[v, .slice none 0 c]).run P w = .ok v w := by
        rcases hown.2.2 with ⟨rfl, _⟩ | ⟨g, cap, cur, rfl, _, _, hnc, _⟩
        · simp [Builtin.append_, run_underlying ht, sizeOf, typeInfo, hi, Builtin.lenOf, Builtin.firstCells]
        · simp [Builtin.append_, run_underlying ht, sizeOf, typeInfo, hi, Builtin.lenOf, Builtin.firstCells, hnc, storeCells]
      exact ⟨v, w, hrun, by simpa using hown, World.grownBy.refl w _, .inl rfl⟩
    | some ad =>
      obtain ⟨v', w', h1, h2, h3, _, h5⟩ := run_append_own_at (P := P) w base t ty e i z size bytes ht hi hz0 hz1 hz2 hzs hsz v xs.length xs.flatten hown.2 ad 0 c [] (by simp) (by simp) (by simp)
        (by simp [maxLen]; simp at hlen2; omega) (by simpa using hlen) hbase
      exact ⟨v', w', h1, ⟨by simpa using hown.1, by simpa using h2⟩, h3, h5⟩
  · obtain ⟨b, o, rfl, _, hc⟩ := hsrc.2 hy
    obtain ⟨v', w', h1, h2, h3, _, h5⟩ := run_append_own_at (P := P) w base t ty e i z size bytes ht hi hz0 hz1 hz2 hzs hsz v xs.length xs.flatten hown.2 ⟨b, o, none⟩ ys.length c ys.flatten (flat_length ys hsrc.1)
      (fun j u hu => by rw [Addr.add_mid]; exact flat_cells ys o hsrc.1 hc j u hu)
      (fun u hu => by obtain ⟨x, hx, hux⟩ := List.mem_flatten.1 hu; exact (hsrc.1 x hx).2 u hux) (by simp [maxLen]; omega) hlen hbase
    exact ⟨v', w', h1, ⟨hown.1.append hsrc.1, by simpa using h2⟩, h3, h5⟩

theorem wpList_append_elems {P : Program} {t e : TypeId} {z : Value} {size bytes : Nat} (ht : P.underlying t = some (.slice e)) (hinfo : (P.info? e).map (fun i => (i.zero, i.size, i.bytes)) = some (some z, size, bytes)) (hzs : z.cells.size = size) (hsz : 0 < size)
    {w : World} {ops : Array Oper} {rest : List Oper} {o : Oper} {a : Act} {Q : Exit → Act → World → Prop} (hgd : o.guard = none) (s x : Operand)
    (ho : o.op = .call { callee := .builtin .append, args := #[s, x], argTypes := #[t, t] }) (base : Nat) (v : Value) (xs : List (List Value)) (hs : a.eval s = v) (hown : OwnE e size w base v xs)
    (A : Option Addr) (ys : List (List Value)) (n c : Nat) (hn : n = ys.length) (hx : a.eval x = .slice A n c) (hsrc : ESrc size w A ys) (hlen : (xs.length + ys.length) * bytes ≤ 140737488355328) (hlen2 : xs.length + ys.length ≤ 9223372036854775807) (hbase : base ≤ w.heap.size)
    (h : ∀ v' w', OwnE e size w' base v' (xs ++ ys) → w.grownBy w' v.ownBlock → (v'.ownBlock = v.ownBlock ∨ v'.ownBlock = some w.heap.size) → wpList P ops Q rest (a.put o.dst v') w') : wpList P ops Q (o :: rest) a w := by
  refine wpList_plain hgd fun K hK => ?_
  subst hn
  obtain ⟨v', w', hrun, h2, h3, h4⟩ := run_append_elems ht hinfo hzs hsz w base v xs ys hown A c hsrc hlen hlen2 hbase o.type
  unfold Oper.wp execOp
  simp only [ho, resolve, invoke, builtin, Sem.run_bind, Sem.run_pure, Result.andThen_ok, List.map_toArray, List.map_cons, List.map_nil, hs, hx, hrun]
  exact hK _ _ (h v' w' h2 h3 h4)
/-- the elements in a block that was just made -/
theorem ESrc.made {w : World} (N : Nat) (hN : w.heap.size = N) (size : Nat) (t : TypeId) (x : List Value) (cs : Array Value) (hcs : cs = x.toArray) (he : Elems size [x]) : ESrc size (w.alloc (.cells cs t)) (some ⟨N, 0, none⟩) [x] :=
  ⟨he, fun _ => ⟨N, 0, rfl, by rw [← hN]; simp, fun j y hy i u hu => by
    have hj : j = 0 := by
      have := (List.getElem?_eq_some_iff.1 hy).1
      simpa using this
    subst hj hcs hN
    obtain rfl : x = y := by simpa using hy
    simp only [Nat.zero_mul, Nat.zero_add]
    exact (cell_of_row _ _ i _ t _ (heap_alloc_new w _)).trans (by simpa using hu)⟩⟩
end Go.Proofs.YtimnpakmifjgoaaDoor
