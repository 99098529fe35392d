/-
  The law on the order of digests, walked.
-/
import Derived.Test.YtbjfkfajhmcefaaDoorShaLess
namespace Go.Proofs.YtbjfkfajhmcefaaDoor
open Go.RowKit Sp

/-- three digests lie in the first three blocks of the call's own -/
structure Tri (w0 w : World) (a b c : List UInt8) : Prop where
  below : Below w0.heap.size w0 w
  a : Blk w w0.heap.size 24 (a.map bv).toArray
  b : Blk w (w0.heap.size + 1) 24 (b.map bv).toArray
  c : Blk w (w0.heap.size + 2) 24 (c.map bv).toArray
theorem Tri.step {w0 w w' : World} {a b c : List UInt8} (h : Tri w0 w a b c) (hb : Below w.heap.size w w') : Tri w0 w' a b c :=
  ⟨h.below.trans (hb.mono h.below.size), h.a.below hb h.a.lt, h.b.below hb h.b.lt, h.c.below hb h.c.lt⟩
theorem Tri.tab {w0 w : World} {a b c : List UInt8} {g : Nat} (h : Tri w0 w a b c) (ht : TabAt w0 g) : TabAt w g := ht.below h.below ht.lt
theorem dig_info (l : List UInt8) (h : l.length = 32) : (Tryd.prog.info? 24).map (·.size) = some (l.map bv).toArray.size := by rw [List.size_toArray, List.length_map, h]; kernel_rfl

theorem heap_alloc3_new (w : World) (A B C : Obj) : (((w.alloc A).alloc B).alloc C).heap[w.heap.size + 2]? = some C := by
  have h := heap_alloc_new ((w.alloc A).alloc B) C
  rwa [show ((w.alloc A).alloc B).heap.size = w.heap.size + 2 from by simp] at h
theorem less_v (w : World) (a b : List UInt8) (v : Bool) (ha : a.length = 32) (hb : b.length = 32) (h : lt a b = v) :
    Calls Tryd.prog 27 #[.agg (a.map bv).toArray, .agg (b.map bv).toArray] w fun e w' => e = .returned (.bool v) ∧ Below w.heap.size w w' := by subst h; exact less_any w a b ha hb
theorem lessR_v (w : World) (a b : List UInt8) (v : Bool) (ha : a.length = 32) (hb : b.length = 32) (h : lt a b = v) :
    Calls Tryd.prog 28 #[.agg (a.map bv).toArray, .agg (b.map bv).toArray] w fun e w' => e = .returned (.bool v) ∧ Below w.heap.size w w' := by subst h; exact lessR_any w a b ha hb
theorem lt_cases (a b c : List UInt8) : ∃ x y z q r : Bool, lt a b = x ∧ lt b a = y ∧ (a == b) = z ∧ lt b c = q ∧ lt a c = r ∧
    ((x = false ∧ y = false ∧ z = true) ∨ (x = false ∧ y = true ∧ z = false) ∨ (x = true ∧ y = false ∧ z = false ∧ q = false) ∨ (x = true ∧ y = false ∧ z = false ∧ q = true ∧ r = true)) := by
  refine ⟨_, _, _, _, _, rfl, rfl, rfl, rfl, rfl, ?_⟩
  by_cases h : a = b
  · subst h; left; simp [lt_self]
  · right
    have h1 := lt_other a b h
    have h2 : (a == b) = false := by simpa using h
    cases hx : lt a b
    · left; rw [hx] at h1; exact ⟨rfl, by simpa using h1.symm, h2⟩
    · right
      rw [hx] at h1
      have hy : lt b a = false := by simpa using h1.symm
      cases hq : lt b c
      · left; exact ⟨rfl, hy, h2, rfl⟩
      · right; exact ⟨rfl, hy, h2, rfl, cmp_trans a b c hx hq⟩

set_option maxHeartbeats 1000000 in
set_option maxRecDepth 100000 in
theorem law_less (w : World) (a b c : List UInt8) (ha : a.length = 32) (hb : b.length = 32) (hc : c.length = 32) (ht : TabAt w 1) :
    Calls Tryd.prog 8 #[.agg (a.map bv).toArray, .agg (b.map bv).toArray, .agg (c.map bv).toArray] w fun e w' => e = .returned (.bool true) ∧ Below w.heap.size w w' := by
  have tri : Tri w (((w.alloc (.cells (a.map bv).toArray 24)).alloc (.cells (b.map bv).toArray 24)).alloc (.cells (c.map bv).toArray 24)) a b c :=
    ⟨(((Below.refl _ _).alloc (Nat.le_refl _) _).alloc (by simp) _).alloc (by simp; omega) _, ((Blk.new _ _ _).alloc _).alloc _, Blk.alloc (heap_alloc2_new w _ _) _, heap_alloc3_new w _ _ _⟩
  have HA := Lib.hid ha
  have HB := Lib.hid hb
  have HC := Lib.hid hc
  have HT := Lib.hid ht
  clear ha hb hc ht
  obtain ⟨x, y, z, q, r, hx, hy, hz, hq, hr, hall⟩ := lt_cases a b c
  have e1 := fun W => run_eql_dv W a b HA.out HB.out
  have e2 := fun W => run_neq_dv W a b HA.out HB.out
  rw [hz] at e1 e2
  have HX := Lib.hid hx
  have HY := Lib.hid hy
  have HQ := Lib.hid hq
  have HR := Lib.hid hr
  clear hx hy hz hq hr
  rcases hall with ⟨rfl, rfl, rfl⟩ | ⟨rfl, rfl, rfl⟩ | ⟨rfl, rfl, rfl, rfl⟩ | ⟨rfl, rfl, rfl, rfl, rfl⟩
  all_goals
    go_enter Tryd.func8, Tryd.ntmps8
    go_wp2_with (first
      | (refine wpList_load_want (by rfl) 24 (.tmp 3) rfl w.heap.size rfl 24 _ _ tri.a Tryd.underlying24 rfl (dig_info a HA.out) ?_)
      | (refine wpList_load_want (by rfl) 24 (.tmp 4) rfl (w.heap.size + 1) rfl 24 _ _ tri.b Tryd.underlying24 rfl (dig_info b HB.out) ?_)
      | (refine wpList_load_want (by rfl) 24 (.tmp 5) rfl (w.heap.size + 2) rfl 24 _ _ tri.c Tryd.underlying24 rfl (dig_info c HC.out) ?_)
      | (go_at_call 16; refine (alive_any _ (tri.tab HT.out)).mono ?_; rintro e w1 ⟨rfl, hb1⟩; have tri := tri.step hb1)
      | (go_at_call 28; refine (lessR_v _ a b _ HA.out HB.out HX.out).mono ?_; rintro e w1 ⟨rfl, hb1⟩; have tri := tri.step hb1)
      | (go_at_call 27; with_reducible refine (less_v _ a b _ HA.out HB.out HX.out).mono ?_; rintro e w1 ⟨rfl, hb1⟩; have tri := tri.step hb1)
      | (go_at_call 27; with_reducible refine (less_v _ b a _ HB.out HA.out HY.out).mono ?_; rintro e w1 ⟨rfl, hb1⟩; have tri := tri.step hb1)
      | (go_at_call 27; with_reducible refine (less_v _ b c _ HB.out HC.out HQ.out).mono ?_; rintro e w1 ⟨rfl, hb1⟩; have tri := tri.step hb1)
      | (go_at_call 27; with_reducible refine (less_v _ a c _ HA.out HC.out HR.out).mono ?_; rintro e w1 ⟨rfl, hb1⟩; have tri := tri.step hb1))
    go_ret
    exact ⟨rfl, tri.below⟩
end Go.Proofs.YtbjfkfajhmcefaaDoor
