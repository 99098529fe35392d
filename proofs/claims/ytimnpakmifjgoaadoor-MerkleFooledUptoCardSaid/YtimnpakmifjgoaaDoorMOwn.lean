/-
  Rows of digests: of the call's own, and such as came in.
-/
import Derived.Test.YtimnpakmifjgoaaDoorOwnE2
import Derived.Test.YtimnpakmifjgoaaDoorMRoot
namespace Go.Proofs.YtimnpakmifjgoaaDoor
open Go.RowKit Sp

def dvals (ds : List (List UInt8)) : List (List Value) := ds.map (fun d => d.map bv)
theorem dvals_length (ds : List (List UInt8)) : (dvals ds).length = ds.length := by simp [dvals]
theorem dvals_append (a b : List (List UInt8)) : dvals (a ++ b) = dvals a ++ dvals b := by simp [dvals]
theorem elems_dvals {ds : List (List UInt8)} (h : All32 ds) : Elems 32 (dvals ds) := fun x hx => by
  obtain ⟨d, hd, rfl⟩ := List.mem_map.1 hx
  exact ⟨by rw [List.length_map]; exact h d hd, oneCell_bv d⟩
theorem all_dvals {ds : List (List UInt8)} (h : Elems 32 (dvals ds)) : All32 ds := fun d hd => by
  have := (h (d.map bv) (List.mem_map.2 ⟨d, hd, rfl⟩)).1
  simpa using this
theorem DSrc.e {w : World} {A : Option Addr} {ds : List (List UInt8)} (h : DSrc w A ds) : ESrc 32 w A (dvals ds) :=
  ⟨elems_dvals h.1, fun hne => by
    obtain ⟨b, o, e, hlt, hc⟩ := h.2 (fun e => hne (by rw [e]; rfl))
    refine ⟨b, o, e, hlt, fun j x hx => ?_⟩
    unfold dvals at hx
    rw [List.getElem?_map] at hx
    obtain ⟨d, hd, rfl⟩ := Option.map_eq_some_iff.1 hx
    exact hc j d hd⟩
theorem ESrc.d {w : World} {A : Option Addr} {ds : List (List UInt8)} (h : ESrc 32 w A (dvals ds)) : DSrc w A ds :=
  ⟨all_dvals h.1, fun hne => by
    obtain ⟨b, o, e, hlt, hc⟩ := h.2 (fun e => hne (by simpa [dvals] using e))
    exact ⟨b, o, e, hlt, fun j d hd => hc j (d.map bv) (by unfold dvals; rw [List.getElem?_map, hd]; rfl)⟩⟩
/-- v owns the digests ds -/
def OwnD (w : World) (base : Nat) (v : Value) (ds : List (List UInt8)) : Prop := OwnE 24 32 w base v (dvals ds)
theorem OwnD.below {w w' : World} {base : Nat} {v : Value} {ds : List (List UInt8)} (h : OwnD w base v ds) (hb : Below w.heap.size w w') : OwnD w' base v ds := OwnE.below h hb
theorem OwnD.nil (w : World) (base : Nat) : OwnD w base (.slice none 0 0) [] := OwnE.nil _ _ _ _
theorem OwnD.any {w : World} {base : Nat} {v : Value} {ds : List (List UInt8)} (h : OwnD w base v ds) : ∃ A cap, v = .slice A ds.length cap ∧ DSrc w A ds ∧ ds.length ≤ cap ∧ cap ≤ 9223372036854775807 := by
  obtain ⟨A, cap, h1, h2, h3, h4⟩ := OwnE.any h
  rw [dvals_length] at h1 h3
  exact ⟨A, cap, h1, h2.d, h3, h4⟩
theorem infoDig : (Tryd.prog.info? 24).map (fun i => (i.zero, i.size, i.bytes)) = some (some (.agg zeroDigest), 32, 32) := by kernel_rfl

theorem wpList_append_digs {w : World} {ops : Array Oper} {rest : List Oper} {o : Oper} {a : Act} {Q : Exit → Act → World → Prop} (hgd : o.guard = none) (s x : Operand)
    (ho : o.op = .call { callee := .builtin .append, args := #[s, x], argTypes := #[43, 43] }) (base : Nat) (v : Value) (xs : List (List UInt8)) (hs : a.eval s = v) (hown : OwnD w base v xs)
    (A : Option Addr) (ys : List (List UInt8)) (n c : Nat) (hn : n = ys.length) (hx : a.eval x = .slice A n c) (hsrc : DSrc w A ys) (hlen : xs.length + ys.length ≤ 4294967296) (hbase : base ≤ w.heap.size)
    (h : ∀ v' w', OwnD w' base v' (xs ++ ys) → w.grownBy w' v.ownBlock → (v'.ownBlock = v.ownBlock ∨ v'.ownBlock = some w.heap.size) → wpList Tryd.prog ops Q rest (a.put o.dst v') w') : wpList Tryd.prog ops Q (o :: rest) a w :=
  wpList_append_elems Tryd.underlying43 infoDig rfl (by omega) hgd s x ho base v (dvals xs) hs hown A (dvals ys) n c (by rw [dvals_length]; exact hn) hx hsrc.e (by rw [dvals_length, dvals_length]; omega) (by rw [dvals_length, dvals_length]; omega) hbase
    (fun v' w' h1 h2 h3 => h v' w' (by unfold OwnD; rw [dvals_append]; exact h1) h2 h3)
/-- []api.Digest{d} -/
theorem wpList_one_dig {w : World} {ops : Array Oper} {rest : List Oper} {o : Oper} {a : Act} {Q : Exit → Act → World → Prop} (hgd : o.guard = none) (x : Operand) (ho : o.op = .buildSlice 43 1 #[(0, x)])
    (d : List UInt8) (hd : d.length = 32) (hx : a.eval x = .agg (d.map bv).toArray) (N : Nat) (hN : w.heap.size = N)
    (h : ∀ w', DSrc w' (some ⟨N, 0, none⟩) [d] → Below N w w' → N < w'.heap.size → wpList Tryd.prog ops Q rest (a.put o.dst (.slice (some ⟨N, 0, none⟩) 1 1)) w') : wpList Tryd.prog ops Q (o :: rest) a w :=
  have he : Elems 32 (dvals [d]) := elems_dvals (fun y hy => by simp at hy; subst hy; exact hd)
  wpList_build_elems Tryd.underlying43 infoDig (by omega) hgd 1 _ ho (dvals [d]) he rfl (by omega) (by decide) (by simp [dvals, hx]) N hN
    (h _ (ESrc.lit N hN _ he).d (by subst hN; exact (Below.refl _ _).alloc (Nat.le_refl _) _) (by subst hN; simp))
end Go.Proofs.YtimnpakmifjgoaaDoor
