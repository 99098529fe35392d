/-
  More words for a region that draws: a store of a whole array at its end; texts that a list of slices tells.
-/
import Derived.Test.YtimnpakmifjgoaaDoorTag
import Derived.Test.YtimnpakmifjgoaaDoorOrd
namespace Go.Proofs.YtimnpakmifjgoaaDoor
open Go.RowKit Sp

theorem Gr.blk {w w' : World} (h : Gr w w') {g : Nat} {t : TypeId} {cs : Array Value} (hg : Blk w g t cs) : Blk w' g t cs := Blk.below hg h hg.lt

section
variable {P : Program} {ops : Array Oper} {Q : Exit → Act → World → Prop} {md : Region.Mode} {ex : Nat → Bool}
/-- only number i may come up, and it stores a whole array into a block of the call's own -/
theorem wpAnyG_store (i : Nat) {oi : Oper} {fuel : Nat} {listed : Array Bool} {a : Act} {w : World} (hi0 : ops.toList[i]? = some oi) (hr : Region.ready md ops listed = [i])
    (hw : Region.wanted oi (yielded ops a.tmps) = true) (ty : TypeId) (x y : Operand) (ho : oi.op = .store ty x y) (g : Nat) (cells : Array Value) (hx : a.eval x = .pointer (some ⟨g, 0, none⟩)) (hy : a.eval y = .agg cells)
    (t : TypeId) (c : Array Value) (hg : Blk w g t c) (hi : (P.info? ty).map (·.size) = some cells.size) (hold : c.size = cells.size) (h1 : cells.all (·.oneCell') = true) (hex : ex i = true)
    (h : ∀ w1, Gr w w1 → ∀ w2, (∀ B, B ≤ g → Below B w1 w2) → Blk w2 g t cells → wpAnyG P md ops Q ex fuel (listed.setIfInBounds i true) (a.put oi.dst undef) w2) :
    wpAnyG P md ops Q ex (fuel + 1) listed a w :=
  wpAnyG_sole i hi0 hr hw (fun w1 hw1 K hK => wp_store_row ty x y ho g cells hx hy t c (hw1.blk hg) hi hold h1
    (hK _ _ (fun e => by rw [hex] at e; cases e) (h w1 hw1 _ (fun B hB => below_setRow (Below.refl _ _) hB _) ((hw1.blk hg).setRow cells))))
end

theorem texts_list {W : World} (N : Nat) (hN : W.heap.size = N) (ts : List Tx) (t : TypeId) (cs : Array Value) (hcs : cs = (ts.map Tx.val).toArray) (h : ∀ x ∈ ts, x.ok W) : Texts (W.alloc (.cells cs t)) (some ⟨N, 0, none⟩) ts := fun _ =>
  ⟨N, 0, rfl, by rw [← hN]; simp, fun j y hy => by
    subst hcs hN
    rw [Nat.zero_add]
    exact ⟨(cell_of_row _ _ j _ t _ (heap_alloc_new W _)).trans (by simp [hy]), (h y (List.mem_of_getElem? hy)).below ((Below.refl _ _).alloc (Nat.le_refl _) _)⟩⟩
end Go.Proofs.YtimnpakmifjgoaaDoor
