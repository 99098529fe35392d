/-
  The law on Path, walked.
-/
import Derived.Test.YtbjfkfajhmcefaaDoorMAlive
namespace Go.Proofs.YtbjfkfajhmcefaaDoor
open Go.RowKit Sp

set_option maxHeartbeats 1000000 in
set_option maxRecDepth 100000 in
theorem law_paths_no (w : World) (A : Option Addr) (n c : Nat) (z : Int) (hz : z < 0 ∨ (n : Int) ≤ z) (ht : TabAt w 1) (htr : TabAt w 0) :
    Calls Tryd.prog 10 #[.slice A n c, .int .i64 z] w fun e w' => e = .returned (.bool true) ∧ Below w.heap.size w w' := by
  have HC := Lib.hid ht
  have HR := Lib.hid htr
  have HZ := Lib.hid hz
  have htl := ht.lt
  have hrl := htr.lt
  have hall : ∀ d ∈ ([] : List (List UInt8)), d.length = 32 := fun d hd => by cases hd
  clear ht htr hz
  go_enter Tryd.func10, Tryd.ntmps10
  go_wp2_with fail
  refine (path_no w A n c z HZ.out).mono ?_
  rintro e w1 ⟨rfl, hb1⟩
  go_wp2_with fail
  refine (pathR_no w1 A n c z HZ.out).mono ?_
  rintro e w2 ⟨rfl, hb2⟩
  have hb := hb1.trans (hb2.mono hb1.size)
  clear hb1 hb2
  go_wp2_with fail
  refine (alive2_any w2 (HC.out.below hb htl) (HR.out.below hb hrl)).mono ?_
  rintro e w3 ⟨rfl, hb3⟩
  have hb := hb.trans (hb3.mono hb.size)
  clear hb3
  go_wp2_with fail
  refine (same_any w3 none none [] [] 0 0 0 0 ⟨hall, fun h => absurd rfl h⟩ ⟨hall, fun h => absurd rfl h⟩ rfl rfl (by omega) (by omega) (by omega) (by omega)).mono ?_
  rintro e w4 ⟨rfl, hb4⟩
  have hb := hb.trans (hb4.mono hb.size)
  go_wp2
  go_ret
  exact ⟨rfl, hb⟩

set_option maxHeartbeats 1000000 in
set_option maxRecDepth 100000 in
theorem law_paths_yes (w : World) (A : Option Addr) (ds : List (List UInt8)) (n c i : Nat) (hn : n = ds.length) (hi : i < n) (hm : n ≤ 1048576) (hs : DSrc w A ds) (hc : n ≤ c) (hcm : c ≤ 9223372036854775807) (ht : TabAt w 1) (htr : TabAt w 0) :
    Calls Tryd.prog 10 #[.slice A n c, .int .i64 i] w fun e w' => e = .returned (.bool true) ∧ Below w.heap.size w w' := by
  have HC := Lib.hid ht
  have HR := Lib.hid htr
  have HS := Lib.hid (And.intro hs hn)
  have htl := ht.lt
  have hrl := htr.lt
  have hpl := pathS_length ds i
  rw [← hn] at hpl
  obtain ⟨p, hp⟩ : ∃ p, p = pathS ds i := ⟨_, rfl⟩
  rw [← hp] at hpl
  have HP := Lib.hid hp
  clear ht htr hs hn hp
  go_enter Tryd.func10, Tryd.ntmps10
  go_wp2_with fail
  refine (path_any w A ds n c i HS.out.2 hi hm HS.out.1 hc hcm HC.out).mono ?_
  rw [← HP.out]
  rintro e w1 ⟨v1, rfl, hown1, hb1⟩
  obtain ⟨A1, c1, rfl, hs1, hc1, _⟩ := hown1.any
  have HS1 := Lib.hid hs1
  clear hown1 hs1
  go_wp2_with fail
  refine (pathR_any n w1 A ds n c i (Nat.le_refl _) HS.out.2 hi hm (HS.out.1.below hb1) hc hcm (HR.out.below hb1 hrl)).mono ?_
  rw [← HP.out]
  rintro e w2 ⟨v2, rfl, hown2, hb2⟩
  obtain ⟨A2, c2, rfl, hs2, hc2, _⟩ := hown2.any
  have HS2 := Lib.hid hs2
  have HS1 := Lib.hid (HS1.out.below hb2)
  have hb := hb1.trans (hb2.mono hb1.size)
  clear hown2 hs2 hb1 hb2
  go_wp2_with fail
  refine (alive2_any w2 (HC.out.below hb htl) (HR.out.below hb hrl)).mono ?_
  rintro e w3 ⟨rfl, hb3⟩
  have HS1 := Lib.hid (HS1.out.below hb3)
  have HS2 := Lib.hid (HS2.out.below hb3)
  have hb := hb.trans (hb3.mono hb.size)
  clear hb3
  go_wp2_with fail
  refine (same_any w3 A1 A2 p p p.length p.length c1 c2 HS1.out HS2.out rfl rfl (by omega) (by omega) hc1 hc2).mono ?_
  rw [show decide (p = p) = true from by simp]
  rintro e w4 ⟨rfl, hb4⟩
  have hb := hb.trans (hb4.mono hb.size)
  go_wp2
  go_ret
  exact ⟨rfl, hb⟩

theorem law_paths (w : World) (A : Option Addr) (ds : List (List UInt8)) (c : Nat) (z : Int) (hm : ds.length ≤ 1048576) (hs : DSrc w A ds) (hc : ds.length ≤ c) (hcm : c ≤ 9223372036854775807) (ht : TabAt w 1) (htr : TabAt w 0) :
    Calls Tryd.prog 10 #[.slice A ds.length c, .int .i64 z] w fun e w' => e = .returned (.bool true) ∧ Below w.heap.size w w' := by
  by_cases hz : z < 0 ∨ (ds.length : Int) ≤ z
  · exact law_paths_no w A ds.length c z hz ht htr
  · obtain ⟨i, rfl⟩ : ∃ i : Nat, z = i := ⟨z.toNat, by omega⟩
    exact law_paths_yes w A ds ds.length c i rfl (by omega) hm hs hc hcm ht htr
end Go.Proofs.YtbjfkfajhmcefaaDoor
