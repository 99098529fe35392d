/-
  Rows of numbers of four words: of the call's own, and such as came in.
-/
import Derived.Test.YtajjjdmjlloifaaOwnE2
import Derived.Test.YtajjjdmjlloifaaFeOrd
import Derived.Deep.MidRow
namespace Go.Proofs.Ytajjjdmjlloifaa
open Go.RowKit

def nvals (ds : List Nat) : List (List Value) := ds.map (fun n => (fcs n).toList)
theorem nvals_length (ds : List Nat) : (nvals ds).length = ds.length := by simp [nvals]
theorem nvals_append (a b : List Nat) : nvals (a ++ b) = nvals a ++ nvals b := by simp [nvals]
theorem elems_nvals (ds : List Nat) : Elems 4 (nvals ds) := fun x hx => by
  obtain ⟨d, _, rfl⟩ := List.mem_map.1 hx
  refine ⟨rfl, fun u hu => ?_⟩
  simp [fcs, qv] at hu
  rcases hu with rfl | rfl | rfl | rfl <;> rfl
/-- the numbers ds lie at A -/
def NSrc (w : World) (A : Option Addr) (ds : List Nat) : Prop := ESrc 4 w A (nvals ds)
theorem NSrc.below {w w' : World} {A : Option Addr} {ds : List Nat} (h : NSrc w A ds) (hb : Below w.heap.size w w') : NSrc w' A ds := ESrc.below h hb
theorem NSrc.at {w : World} {A : Option Addr} {ds : List Nat} (h : NSrc w A ds) (k x : Nat) (hx : ds[k]? = some x) : ∃ b o, A = some ⟨b, o, none⟩ ∧ b < w.heap.size ∧ w.rangeAt b (o + k * 4) (fcs x).toList := by
  have hne : nvals ds ≠ [] := by
    intro e
    have : ds = [] := by simpa [nvals] using e
    rw [this] at hx; cases hx
  obtain ⟨b, o, e, hl, hc⟩ := h.2 hne
  exact ⟨b, o, e, hl, hc k _ (by unfold nvals; rw [List.getElem?_map, hx]; rfl)⟩
theorem rangeN {W W' : World} {g o : Nat} {cs : List Value} (h : W.rangeAt g o cs) (hb : Below W.heap.size W W') (hg : g < W.heap.size) : W'.rangeAt g o cs := fun j v hj => (Below.cell (p := ⟨g, o + j, none⟩) hb hg).trans (h j v hj)
/-- v owns the numbers ds -/
def OwnN (e : TypeId) (w : World) (base : Nat) (v : Value) (ds : List Nat) : Prop := OwnE e 4 w base v (nvals ds)
theorem OwnN.any {e : TypeId} {w : World} {base : Nat} {v : Value} {ds : List Nat} (h : OwnN e w base v ds) : ∃ A cap, v = .slice A ds.length cap ∧ NSrc w A ds ∧ ds.length ≤ cap ∧ cap ≤ 9223372036854775807 := by
  obtain ⟨A, cap, h1, h2, h3, h4⟩ := OwnE.any h
  rw [nvals_length] at h1 h3
  exact ⟨A, cap, h1, h2, h3, h4⟩
theorem wpList_load_fvm {P : Program} {ops : Array Oper} {rest : List Oper} {o : Oper} {a : Act} {w : World} {Q : Exit → Act → World → Prop} (hgd : o.guard = none) (ty : TypeId) (x : Operand) (ho : o.op = .load ty x)
    (g f : Nat) (hx : a.eval x = .pointer (some ⟨g, f, none⟩)) (n : Nat) (d : TypeDesc) (hr : w.rangeAt g f (fcs n).toList)
    (hu : P.underlying ty = some d) (hd : d.isRow = true) (hi : (P.info? ty).map (·.size) = some 4)
    (h : wpList P ops Q rest (a.put o.dst (fv n)) w) : wpList P ops Q (o :: rest) a w :=
  wpList_load_mid hgd ty x ho g f hx (fcs n).toList d hr hu hd hi h
section
variable {P : Program} {ops : Array Oper}
theorem YieldsG.loadM {o : Oper} {a : Act} {w : World} {d : TypeDesc} (hw : Region.wanted o (yielded ops a.tmps) = true) (ty : TypeId) (x : Operand) (ho : o.op = .load ty x)
    (g f : Nat) (hx : a.eval x = .pointer (some ⟨g, f, none⟩)) (n : Nat) (hl : g < w.heap.size) (hr : w.rangeAt g f (fcs n).toList)
    (hu : P.underlying ty = some d) (hd : d.isRow = true) (hi : (P.info? ty).map (·.size) = some 4) : YieldsG P ops o (fv n) a w :=
  YieldsG.load hw ty x ho g f hx (fcs n).toList d hl hr hu hd hi
end
end Go.Proofs.Ytajjjdmjlloifaa
