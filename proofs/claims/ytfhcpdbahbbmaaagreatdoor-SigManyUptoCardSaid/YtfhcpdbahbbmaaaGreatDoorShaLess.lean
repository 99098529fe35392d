/-
  The order of digests: the program's Less and the document's.
-/
import Derived.Test.YtfhcpdbahbbmaaaGreatDoorShaAlive
import Derived.Lib.BytesEntry
import Derived.Stop.BytesEq
namespace Go.Proofs.YtfhcpdbahbbmaaaGreatDoor.Sh
open Go.RowKit Sp

theorem run_eql_dv (W : World) (a b : List UInt8) (ha : a.length = 32) (hb : b.length = 32) :
    (binOp .eql 47 (.agg (a.map bv).toArray) (.agg (b.map bv).toArray)).run Tryz.prog W = .ok (.bool (a == b)) W :=
  run_eql_bytes W 47 5 32 Tryz.underlying47 Tryz.underlying5 (fun W => by kernel_rfl) a b ha hb
theorem run_neq_dv (W : World) (a b : List UInt8) (ha : a.length = 32) (hb : b.length = 32) :
    (binOp .neq 47 (.agg (a.map bv).toArray) (.agg (b.map bv).toArray)).run Tryz.prog W = .ok (.bool (!(a == b))) W := by
  have h := run_equalIn_bytes W 9998 47 5 32 Tryz.underlying47 Tryz.underlying5 (fun W => by kernel_rfl) a b ha hb
  rw [run_neq_struct]
  have h' : (Op.equalIn 10000 47 (.agg (a.map bv).toArray) (.agg (b.map bv).toArray)).run Tryz.prog W = .ok (a == b) W := h
  rw [h']
  rfl

/-- a precedes b -/
def lt (a b : List UInt8) : Bool := decide (Lib.compareBytes a b < 0)

theorem lt_cons (x y : UInt8) (a b : List UInt8) : lt (x :: a) (y :: b) = if x < y then true else if y < x then false else lt a b := by
  unfold lt
  have h : Lib.compareBytes (x :: a) (y :: b) = if x < y then -1 else if y < x then 1 else Lib.compareBytes a b := rfl
  rw [h]
  by_cases h1 : x < y
  · simp [h1]
  · by_cases h2 : y < x
    · simp [h1, h2]
    · simp [h1, h2]
theorem u8_eq {x y : UInt8} (h1 : ¬ x < y) (h2 : ¬ y < x) : x = y := UInt8.le_antisymm (UInt8.not_lt.1 h2) (UInt8.not_lt.1 h1)
theorem cmp_trans : ∀ (a b c : List UInt8), lt a b = true → lt b c = true → lt a c = true
  | [], [], c, h, _ => by simp [lt, Lib.compareBytes] at h
  | [], _ :: _, [], _, h => by simp [lt, Lib.compareBytes] at h
  | [], _ :: _, _ :: _, _, _ => by simp [lt, Lib.compareBytes]
  | _ :: _, [], c, h, _ => by simp [lt, Lib.compareBytes] at h
  | _ :: _, _ :: _, [], _, h => by simp [lt, Lib.compareBytes] at h
  | x :: a, y :: b, z :: c, h1, h2 => by
    have ih := cmp_trans a b c
    rw [lt_cons] at h1 h2 ⊢
    by_cases hxy : x < y
    · by_cases hyz : y < z
      · rw [if_pos (UInt8.lt_trans hxy hyz)]
      · rw [if_neg hyz] at h2
        by_cases hzy : z < y
        · rw [if_pos hzy] at h2; cases h2
        · obtain rfl := u8_eq hyz hzy
          rw [if_pos hxy]
    · rw [if_neg hxy] at h1
      by_cases hyx : y < x
      · rw [if_pos hyx] at h1; cases h1
      · obtain rfl := u8_eq hxy hyx
        rw [if_neg hyx] at h1
        by_cases hyz : x < z
        · rw [if_pos hyz]
        · rw [if_neg hyz] at h2 ⊢
          by_cases hzy : z < x
          · rw [if_pos hzy] at h2; cases h2
          · rw [if_neg hzy] at h2 ⊢
            exact ih h1 h2
theorem lt_self : ∀ (a : List UInt8), lt a a = false
  | [] => by simp [lt, Lib.compareBytes]
  | x :: a => by rw [lt_cons, if_neg (UInt8.lt_irrefl x), if_neg (UInt8.lt_irrefl x)]; exact lt_self a
theorem lt_other : ∀ (a b : List UInt8), a ≠ b → lt a b = !(lt b a)
  | [], [], h => absurd rfl h
  | [], _ :: _, _ => by simp [lt, Lib.compareBytes]
  | _ :: _, [], _ => by simp [lt, Lib.compareBytes]
  | x :: a, y :: b, h => by
    have ih := lt_other a b
    rw [lt_cons, lt_cons]
    by_cases hxy : x < y
    · have : ¬ y < x := UInt8.not_lt.2 (UInt8.le_of_lt hxy)
      simp [hxy, this]
    · by_cases hyx : y < x
      · simp [hxy, hyx]
      · obtain rfl := u8_eq hxy hyx
        rw [if_neg hyx, if_neg hyx, if_neg hyx, if_neg hyx]
        exact ih (fun e => h (by rw [e]))
/-- the first place at which they differ decides -/
theorem lt_at : ∀ (a b : List UInt8) (k : Nat), a.take k = b.take k → k < a.length → k < b.length → a.getD k 0 ≠ b.getD k 0 → lt a b = decide (a.getD k 0 < b.getD k 0)
  | [], _, _, _, h, _, _ => by simp at h
  | _ :: _, [], _, _, _, h, _ => by simp at h
  | x :: a, y :: b, 0, _, _, _, h => by
    simp only [List.getD_cons_zero] at h ⊢
    rw [lt_cons]
    by_cases hxy : x < y
    · simp [hxy]
    · have hyx : y < x := UInt8.lt_of_le_of_ne (UInt8.not_lt.1 hxy) (Ne.symm h)
      simp [hxy, hyx]
  | x :: a, y :: b, k + 1, ht, h1, h2, h => by
    simp only [List.take_succ_cons, List.cons.injEq] at ht
    obtain ⟨rfl, ht⟩ := ht
    have ih := lt_at a b k ht (by simpa using h1) (by simpa using h2) (by simpa using h)
    simp only [List.getD_cons_succ]
    rw [← ih, lt_cons, if_neg (UInt8.lt_irrefl x), if_neg (UInt8.lt_irrefl x)]

theorem slice_all (x : Nat) (W : World) :
    (Instr.sliceAt 47 (.pointer (some ⟨x, 0, none⟩)) none none none).run Tryz.prog W = .ok (.slice (some ⟨x, 0, none⟩) 32 32) W := by
  have hal : Tryz.prog.arrayLen 47 = 32 := by kernel_rfl
  have hu : Tryz.prog.underlying 47 = some (.array (Tryz.prog.arrayLen 47) (Tryz.prog.elem 47)) := by kernel_rfl
  have hs : ∀ W, (sizeOf (Tryz.prog.elem 47)).run Tryz.prog W = .ok 1 W := fun W => by kernel_rfl
  rw [run_sliceAt_array_all W 47 ⟨x, 0, none⟩ hu, hs, hal]
  simp [slicedAt, addr_add]
theorem dig_cell {w : World} {g : Nat} {t : TypeId} {l : List UInt8} (h : Blk w g t (l.map bv).toArray) : ∀ j u, l[j]? = some u → w.cell? ⟨g, j, none⟩ = some (bv u) := fun j u hu => (h.cell j).trans (by simp [hu])

theorem take_step (a b : List UInt8) (k : Nat) (h : a.take k = b.take k) (h1 : k < a.length) (h2 : k < b.length) (he : a.getD k 0 = b.getD k 0) : a.take (k + 1) = b.take (k + 1) := by
  rw [List.take_succ_eq_append_getElem h1, List.take_succ_eq_append_getElem h2, h]
  simp [List.getElem?_eq_getElem h1, List.getElem?_eq_getElem h2] at he
  rw [he]

end Go.Proofs.YtfhcpdbahbbmaaaGreatDoor.Sh
