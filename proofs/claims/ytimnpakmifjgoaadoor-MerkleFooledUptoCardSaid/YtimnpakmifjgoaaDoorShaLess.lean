/-
  The order of digests: the program's Less and the document's.
-/
import Derived.Test.YtimnpakmifjgoaaDoorShaAlive
import Derived.Lib.BytesEntry
import Derived.Stop.BytesEq
namespace Go.Proofs.YtimnpakmifjgoaaDoor
open Go.RowKit Sp

theorem run_eql_dv (W : World) (a b : List UInt8) (ha : a.length = 32) (hb : b.length = 32) :
    (binOp .eql 24 (.agg (a.map bv).toArray) (.agg (b.map bv).toArray)).run Tryd.prog W = .ok (.bool (a == b)) W :=
  run_eql_bytes W 24 5 32 Tryd.underlying24 Tryd.underlying5 (fun W => by kernel_rfl) a b ha hb
theorem run_neq_dv (W : World) (a b : List UInt8) (ha : a.length = 32) (hb : b.length = 32) :
    (binOp .neq 24 (.agg (a.map bv).toArray) (.agg (b.map bv).toArray)).run Tryd.prog W = .ok (.bool (!(a == b))) W := by
  have h := run_equalIn_bytes W 9998 24 5 32 Tryd.underlying24 Tryd.underlying5 (fun W => by kernel_rfl) a b ha hb
  rw [run_neq_struct]
  have h' : (Op.equalIn 10000 24 (.agg (a.map bv).toArray) (.agg (b.map bv).toArray)).run Tryd.prog W = .ok (a == b) W := h
  rw [h']
  rfl

/-- a precedes b -/
def lt (a b : List UInt8) : Bool := decide (Lib.compareBytes a b < 0)

theorem lt_cons (x y : UInt8) (a b : List UInt8) : lt (x :: a) (y :: b) = if x < y then true else if y < x then false else lt a b := by
  unfold lt
  have h : Lib.compareBytes (x :: a) (y :: b) = if x < y then -1 else if y < x then 1 else Lib.compareBytes a b := rfl
  rw [h]
  by_cases h1 : x < y
  · simp [h1]
  · by_cases h2 : y < x
    · simp [h1, h2]
    · simp [h1, h2]
theorem u8_eq {x y : UInt8} (h1 : ¬ x < y) (h2 : ¬ y < x) : x = y := UInt8.le_antisymm (UInt8.not_lt.1 h2) (UInt8.not_lt.1 h1)
theorem cmp_trans : ∀ (a b c : List UInt8), lt a b = true → lt b c = true → lt a c = true
  | [], [], c, h, _ => by simp [lt, Lib.compareBytes] at h
  | [], _ :: _, [], _, h => by simp [lt, Lib.compareBytes] at h
  | [], _ :: _, _ :: _, _, _ => by simp [lt, Lib.compareBytes]
  | _ :: _, [], c, h, _ => by simp [lt, Lib.compareBytes] at h
  | _ :: _, _ :: _, [], _, h => by simp [lt, Lib.compareBytes] at h
  | x :: a, y :: b, z :: c, h1, h2 => by
    have ih := cmp_trans a b c
    rw [lt_cons] at h1 h2 ⊢
    by_cases hxy : x < y
    · by_cases hyz : y < z
      · rw [if_pos (UInt8.lt_trans hxy hyz)]
      · rw [if_neg hyz] at h2
        by_cases hzy : z < y
        · rw [if_pos hzy] at h2; cases h2
        · obtain rfl := u8_eq hyz hzy
          rw [if_pos hxy]
    · rw [if_neg hxy] at h1
      by_cases hyx : y < x
      · rw [if_pos hyx] at h1; cases h1
      · obtain rfl := u8_eq hxy hyx
        rw [if_neg hyx] at h1
        by_cases hyz : x < z
        · rw [if_pos hyz]
        · rw [if_neg hyz] at h2 ⊢
          by_cases hzy : z < x
          · rw [if_pos hzy] at h2; cases h2
          · rw [if_neg hzy] at h2 ⊢
            exact ih h1 h2
theorem lt_self : ∀ (a : List UInt8), lt a a = false
  | [] => by simp [lt, Lib.compareBytes]
  | x :: a => by rw [lt_cons, if_neg (UInt8.lt_irrefl x), if_neg (UInt8.lt_irrefl x)]; exact lt_self a
theorem lt_other : ∀ (a b : List UInt8), a ≠ b → lt a b = !(lt b a)
  | [], [], h => absurd rfl h
  | [], _ :: _, _ => by simp [lt, Lib.compareBytes]
  | _ :: _, [], _ => by simp [lt, Lib.compareBytes]
  | x :: a, y :: b, h => by
    have ih := lt_other a b
    rw [lt_cons, lt_cons]
    by_cases hxy : x < y
    · have : ¬ y < x := UInt8.not_lt.2 (UInt8.le_of_lt hxy)
      simp [hxy, this]
    · by_cases hyx : y < x
      · simp [hxy, hyx]
      · obtain rfl := u8_eq hxy hyx
        rw [if_neg hyx, if_neg hyx, if_neg hyx, if_neg hyx]
        exact ih (fun e => h (by rw [e]))
/-- the first place at which they differ decides -/
theorem lt_at : ∀ (a b : List UInt8) (k : Nat), a.take k = b.take k → k < a.length → k < b.length → a.getD k 0 ≠ b.getD k 0 → lt a b = decide (a.getD k 0 < b.getD k 0)
  | [], _, _, _, h, _, _ => by simp at h
  | _ :: _, [], _, _, _, h, _ => by simp at h
  | x :: a, y :: b, 0, _, _, _, h => by
    simp only [List.getD_cons_zero] at h ⊢
    rw [lt_cons]
    by_cases hxy : x < y
    · simp [hxy]
    · have hyx : y < x := UInt8.lt_of_le_of_ne (UInt8.not_lt.1 hxy) (Ne.symm h)
      simp [hxy, hyx]
  | x :: a, y :: b, k + 1, ht, h1, h2, h => by
    simp only [List.take_succ_cons, List.cons.injEq] at ht
    obtain ⟨rfl, ht⟩ := ht
    have ih := lt_at a b k ht (by simpa using h1) (by simpa using h2) (by simpa using h)
    simp only [List.getD_cons_succ]
    rw [← ih, lt_cons, if_neg (UInt8.lt_irrefl x), if_neg (UInt8.lt_irrefl x)]

theorem run_compare (W : World) (x y n m c d : Nat) (a b : List UInt8) (ha : a.length = n) (hb : b.length = m) (h1 : ∀ j u, a[j]? = some u → W.cell? ⟨x, j, none⟩ = some (bv u)) (h2 : ∀ j u, b[j]? = some u → W.cell? ⟨y, j, none⟩ = some (bv u)) :
    (callFunc 58 #[.slice (some ⟨x, 0, none⟩) n c, .slice (some ⟨y, 0, none⟩) m d]).run Tryd.prog W = .ok (.value (.int .i64 (Lib.compareBytes a b))) W := by
  have hl (x : Nat) (a : List UInt8) (h1 : ∀ j u, a[j]? = some u → W.cell? ⟨x, j, none⟩ = some (bv u)) :
      (Extern.Bytes.loadBytes ⟨x, 0, none⟩ a.length .empty).run Tryd.prog W = .ok ⟨a.toArray⟩ W := by
    have := Lib.run_loadBytesX (P := Tryd.prog) W (a.map fun b => (b.toNat : Int)) ⟨x, 0, none⟩ .empty (fun j z hz => by
      rw [addr_add, Nat.zero_add]
      rw [List.getElem?_map] at hz
      obtain ⟨u, hu, rfl⟩ := Option.map_eq_some_iff.1 hz
      exact h1 j u hu)
    rw [List.length_map] at this
    rw [this]
    congr 1
    apply ByteArray.ext
    simp [Lib.bytesOf]
    rw [show ((fun n : Int => UInt8.ofNat n.toNat) ∘ fun b : UInt8 => (b.toNat : Int)) = id from by funext b; simp]
    simp
  rw [run_callFunc_extern Tryd.func58 (by kernel_rfl) (by kernel_rfl) (by kernel_rfl) (e := Extern.BytealgCompare.compare) (by kernel_rfl)]
  have e1 := hl x a h1
  have e2 := hl y b h2
  subst ha hb
  have hrun : (Extern.BytealgCompare.compare #[.slice (some ⟨x, 0, none⟩) a.length c, .slice (some ⟨y, 0, none⟩) b.length d]).run Tryd.prog W = .ok (.int .i64 (Lib.compareBytes a b)) W := by
    change Sem.run _ (do pure (goInt (Extern.BytealgCompare.cmp (← Extern.Bytes.loadBytes ⟨x, 0, none⟩ a.length .empty) (← Extern.Bytes.loadBytes ⟨y, 0, none⟩ b.length .empty)))) W = _
    simp only [Sem.run_bind, Sem.run_pure, Result.andThen, e1, e2]
    rw [Lib.cmp_eq]
    rfl
  rw [hrun]
  rfl

set_option maxHeartbeats 400000 in
theorem cmp_any (w : World) (x y : Nat) (a b : List UInt8) (ha : a.length = 32) (hb : b.length = 32) (h1 : ∀ j u, a[j]? = some u → w.cell? ⟨x, j, none⟩ = some (bv u)) (h2 : ∀ j u, b[j]? = some u → w.cell? ⟨y, j, none⟩ = some (bv u)) :
    Calls Tryd.prog 49 #[.slice (some ⟨x, 0, none⟩) 32 32, .slice (some ⟨y, 0, none⟩) 32 32] w fun e w' => e = .returned (.int .i64 (Lib.compareBytes a b)) ∧ w = w' := by
  have hc := run_compare w x y 32 32 32 32 a b ha hb h1 h2
  clear h1 h2 ha hb
  go_enter Tryd.func49, Tryd.ntmps49
  go_wp2
  go_ret
  exact ⟨rfl, rfl⟩

theorem slice_all (x : Nat) (W : World) :
    (Instr.sliceAt 24 (.pointer (some ⟨x, 0, none⟩)) none none none).run Tryd.prog W = .ok (.slice (some ⟨x, 0, none⟩) 32 32) W := by
  have hal : Tryd.prog.arrayLen 24 = 32 := by kernel_rfl
  have hu : Tryd.prog.underlying 24 = some (.array (Tryd.prog.arrayLen 24) (Tryd.prog.elem 24)) := by kernel_rfl
  have hs : ∀ W, (sizeOf (Tryd.prog.elem 24)).run Tryd.prog W = .ok 1 W := fun W => by kernel_rfl
  rw [run_sliceAt_array_all W 24 ⟨x, 0, none⟩ hu, hs, hal]
  simp [slicedAt, addr_add]
theorem dig_cell {w : World} {g : Nat} {t : TypeId} {l : List UInt8} (h : Blk w g t (l.map bv).toArray) : ∀ j u, l[j]? = some u → w.cell? ⟨g, j, none⟩ = some (bv u) := fun j u hu => (h.cell j).trans (by simp [hu])

set_option maxHeartbeats 400000 in
set_option maxRecDepth 100000 in
theorem less_any (w : World) (a b : List UInt8) (ha : a.length = 32) (hb : b.length = 32) :
    Calls Tryd.prog 27 #[.agg (a.map bv).toArray, .agg (b.map bv).toArray] w fun e w' => e = .returned (.bool (lt a b)) ∧ Below w.heap.size w w' := by
  have HA := Lib.hid ha
  have HB := Lib.hid hb
  clear ha hb
  have hs0 := slice_all w.heap.size
  have hs1 := slice_all (w.heap.size + 1)
  go_enter Tryd.func27, Tryd.ntmps27
  go_wp2
  go_quiet ((go_at_call 49; exact quiet_left (cmp_any _ _ _ a b HA.out HB.out (dig_cell (((Blk.new w 24 _).alloc _).drewN _)) (dig_cell (Blk.drewN (heap_alloc2_new w _ _) _)))))
  go_wp2
  go_ret
  exact ⟨rfl, below_drewN (((Below.refl _ _).alloc (Nat.le_refl _) _).alloc (by simp) _) _⟩

theorem take_step (a b : List UInt8) (k : Nat) (h : a.take k = b.take k) (h1 : k < a.length) (h2 : k < b.length) (he : a.getD k 0 = b.getD k 0) : a.take (k + 1) = b.take (k + 1) := by
  rw [List.take_succ_eq_append_getElem h1, List.take_succ_eq_append_getElem h2, h]
  simp [List.getElem?_eq_getElem h1, List.getElem?_eq_getElem h2] at he
  rw [he]

set_option maxHeartbeats 400000 in
set_option maxRecDepth 100000 in
theorem lessR_any (w : World) (a b : List UInt8) (ha : a.length = 32) (hb : b.length = 32) :
    Calls Tryd.prog 28 #[.agg (a.map bv).toArray, .agg (b.map bv).toArray] w fun e w' => e = .returned (.bool (lt a b)) ∧ Below w.heap.size w w' := by
  have HA := Lib.hid ha
  have HB := Lib.hid hb
  clear ha hb
  go_enter Tryd.func28, Tryd.ntmps28
  go_wp2
  go_loopw [5] (fun i wr => ∃ k : Nat, k ≤ 32 ∧ i = .int .i64 k ∧ Hid (a.take k = b.take k) ∧ Below w.heap.size w wr ∧ Blk wr w.heap.size 24 (a.map bv).toArray ∧ Blk wr (w.heap.size + 1) 24 (b.map bv).toArray)
    (fun i _ => 32 - (intOf i).toNat)
  case atStart =>
    exact ⟨0, by omega, rfl, Lib.hid rfl, ((Below.refl _ _).alloc (Nat.le_refl _) _).alloc (by simp) _, (Blk.new _ _ _).alloc _, heap_alloc2_new w _ _⟩
  case round =>
    obtain ⟨k, hk, rfl, ht, hbe, h0, h1⟩ := hrel
    by_cases hlt : k < 32
    · obtain ⟨x, hx⟩ : ∃ x, x = a.getD k 0 := ⟨_, rfl⟩
      obtain ⟨y, hy⟩ : ∃ y, y = b.getD k 0 := ⟨_, rfl⟩
      have ca : wr.cell? ⟨w.heap.size, k, none⟩ = some (.int .u8 (x.toNat : Int)) := dig_cell h0 k x (by rw [hx, List.getD_eq_getElem?_getD, List.getElem?_eq_getElem (by rw [HA.out]; exact hlt)]; rfl)
      have cb : wr.cell? ⟨w.heap.size + 1, k, none⟩ = some (.int .u8 (y.toNat : Int)) := dig_cell h1 k y (by rw [hy, List.getD_eq_getElem?_getD, List.getElem?_eq_getElem (by rw [HB.out]; exact hlt)]; rfl)
      have HX := Lib.hid (And.intro hx hy)
      clear hx hy
      by_cases hxy : x = y
      · subst hxy
        have hne : ((x.toNat : Int) != (x.toNat : Int)) = false := by simp
        go_wp2
        go_quiet (fail)
        go_wp2
        go_roundw
        case rel =>
          refine ⟨k + 1, by omega, by go_num, Lib.hid (take_step a b k ht.out (by rw [HA.out]; exact hlt) (by rw [HB.out]; exact hlt) (HX.out.1.symm.trans HX.out.2)), below_drewN hbe _, h0.drewN _, h1.drewN _⟩
        case measure => simp [intOf]; omega
      · have hne : ((x.toNat : Int) != (y.toNat : Int)) = true := by
          rw [bne_iff_ne]; intro e; exact hxy (UInt8.toNat_inj.1 (by omega))
        have hfin : lt a b = decide (x.toNat < y.toNat) := by
          rw [lt_at a b k ht.out (by rw [HA.out]; exact hlt) (by rw [HB.out]; exact hlt) (by rw [← HX.out.1, ← HX.out.2]; exact hxy), ← HX.out.1, ← HX.out.2]
          simp [UInt8.lt_iff_toNat_lt]
        have HF := Lib.hid hfin
        clear hfin hxy
        go_wp2
        go_quiet (fail)
        go_wp2
        go_quiet (fail)
        go_wp2
        go_ret
        exact ⟨by rw [HF.out]; rfl, below_drewN (below_drewN hbe _) _⟩
    · obtain rfl : k = 32 := by omega
      go_wp2
      go_ret
      have he : a = b := by
        have := ht.out
        rwa [List.take_of_length_le (by rw [HA.out]; exact Nat.le_refl _), List.take_of_length_le (by rw [HB.out]; exact Nat.le_refl _)] at this
      exact ⟨by rw [he, lt_self]; rfl, hbe⟩
end Go.Proofs.YtimnpakmifjgoaaDoor
