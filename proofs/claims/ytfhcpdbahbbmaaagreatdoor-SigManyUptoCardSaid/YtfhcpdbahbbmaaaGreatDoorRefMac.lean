/-
  The document's Mac, walked.
-/
import Derived.Test.YtfhcpdbahbbmaaaGreatDoorRefText
import Derived.Test.YtfhcpdbahbbmaaaGreatDoorRefOf
import Derived.Test.YtfhcpdbahbbmaaaGreatDoorShaMac
namespace Go.Proofs.YtfhcpdbahbbmaaaGreatDoor.Sh
open Go.RowKit Sp

theorem OwnB.any' {w : World} {base : Nat} {v : Value} {l : List UInt8} (h : OwnB w base v l) : ∃ A q cap, v = .slice A q cap ∧ Hid (q = l.length) := by
  obtain ⟨A, cap, e, _⟩ := h.any
  exact ⟨A, l.length, cap, e, Lib.hid rfl⟩
/-- two slices own no block together -/
def Apart (v u : Value) : Prop := ∀ k, v.ownBlock = some k → u.ownBlock = some k → False
theorem Apart.symm {v u : Value} (h : Apart v u) : Apart u v := fun k h1 h2 => h k h2 h1
theorem OwnB.stay {w w' : World} {base : Nat} {v u : Value} {l : List UInt8} (h : OwnB w base u l) (hg : w.grownBy w' v.ownBlock) (ha : Apart v u) : OwnB w' base u l :=
  World.ownsRow.kept h hg (by
    cases hu : u.ownBlock with
    | none => exact .inl rfl
    | some k => exact .inr (fun e => ha k e.symm hu))
theorem Apart.step {w : World} {base : Nat} {v v' u : Value} {l : List UInt8} {n : Nat} (ha : Apart v u) (hu : OwnB w base u l) (hn : w.heap.size ≤ n) (h : v'.ownBlock = v.ownBlock ∨ v'.ownBlock = some n) : Apart v' u := fun k h1 h2 => by
  rcases h with h | h
  · exact ha k (h ▸ h1) h2
  · rw [h] at h1
    injection h1 with h1
    have := (World.ownsRow.lt hu k h2).2
    omega

theorem kp_get (p : List UInt8) (x : UInt8) (i : Nat) (u : UInt8) (hu : p[i]? = some u) : (p.map (fun b => b ^^^ x)).take (i + 1) = (p.map (fun b => b ^^^ x)).take i ++ [u ^^^ x] := by
  have hi : i < p.length := (List.getElem?_eq_some_iff.1 hu).1
  rw [List.take_succ_eq_append_getElem (by rw [List.length_map]; exact hi)]
  congr 2
  rw [List.getElem_map, (List.getElem?_eq_some_iff.1 hu).2]

theorem OwnB.lit1 (w : World) (o : Obj) (base : Nat) (hb : base ≤ w.heap.size + 1) : OwnB ((w.alloc o).alloc (.cells #[] 5)) base (.slice (some ⟨w.heap.size + 1, 0, none⟩) 0 0) [] := by
  have h := OwnB.lit (w.alloc o) base (by simpa using hb)
  have e : (w.alloc o).heap.size = w.heap.size + 1 := by simp
  rw [e] at h
  exact h
theorem below_alloc2 (w : World) (o o' : Obj) : Below w.heap.size w ((w.alloc o).alloc o') := ((Below.refl _ _).alloc (Nat.le_refl _) _).alloc (by simp) _

theorem mac_start {w w1 : World} {D : Array Value} (hg : ((w.alloc (.cells D 47)).alloc (.cells #[] 5)).grownBy w1 (Value.slice (some ⟨w.heap.size + 1, 0, none⟩) 0 0).ownBlock) :
    Below w.heap.size w w1 ∧ ∃ E, Hid (E.size = D.size) ∧ Blk w1 w.heap.size 47 E := by
  have h1 : Below (w.heap.size + 1) (w.alloc (.cells D 47)) w1 := below_own ((Below.refl _ _).alloc (by simp) _) (OwnB.lit1 w _ (w.heap.size + 1) (Nat.le_refl _)) hg (Nat.le_refl _) (by simp)
  exact ⟨((Below.refl w.heap.size w).alloc (Nat.le_refl _) _).trans (h1.mono (Nat.le_succ _)), D, Lib.hid rfl, (Blk.new w _ _).below h1 (Nat.lt_succ_self _)⟩

theorem src_new (w : World) (x : UInt8) (z : Int) (hz : z = (x.toNat : Int)) : ∀ j u, [x][j]? = some u → (w.alloc (.cells #[.int .u8 z] 5)).cell? ⟨w.heap.size, 0 + j, none⟩ = some (bv u) := by
  subst hz
  intro j u hu
  rw [Nat.zero_add]
  refine ((Blk.new w 5 #[bv x]).cell j).trans ?_
  cases j with
  | zero => simp at hu; simp [hu]
  | succ n => simp at hu
theorem x54 (u : UInt8) : bits .xor .u8 (u.toNat : Int) 54 = ((u ^^^ 54).toNat : Int) := xor8 u 54
theorem x92 (u : UInt8) : bits .xor .u8 (u.toNat : Int) 92 = ((u ^^^ 92).toNat : Int) := xor8 u 92

end Go.Proofs.YtfhcpdbahbbmaaaGreatDoor.Sh
