/-
  Where a list is cut: split, Cut; the two halves.
-/
import Derived.Test.YtimnpakmifjgoaaDoorMSpec
import Derived.Test.YtimnpakmifjgoaaDoorBits
import Derived.IntWalk
import Derived.Deep.QuietTactic
import Derived.BigQuiet
namespace Go.Proofs.YtimnpakmifjgoaaDoor
open Go.RowKit Sp

set_option maxHeartbeats 400000 in
theorem split_any (n : Nat) (w : World) (h2 : 2 ≤ n) (hm : n ≤ 4294967296) : Calls Tryd.prog 59 #[.int .i64 n] w fun e w' => e = .returned (.int .i64 (cut n)) ∧ w = w' := by
  have hn1 : (2 : Int) ≤ (n : Int) := by omega
  have hn2 : (n : Int) ≤ 4294967296 := by omega
  have hb1 : Lib.bitLen (n - 1) ≤ 33 := Lib.bitLen_le _ 33 (by omega) (by omega)
  have hb0 : 1 ≤ Lib.bitLen (n - 1) := by
    rw [Lib.bitLen_half _ (by omega) (by omega)]; omega
  have hx : ((n : Int) - 1).toNat = n - 1 := by omega
  obtain ⟨q, hq⟩ : ∃ q, q = Lib.bitLen (n - 1) := ⟨_, rfl⟩
  rw [← hq] at hb1 hb0
  have HQ := Lib.hid (And.intro hx hq)
  clear hx hq
  go_enter Tryd.func59, Tryd.ntmps59
  go_wp2_with fail
  refine (bitsLen_any ((n : Int) - 1) _ (by omega) (by omega)).mono ?_
  rintro e w1 ⟨rfl, rfl⟩
  rw [HQ.out.1, ← HQ.out.2]
  go_wp2
  have hw : wrap64 ((2 : Int) ^ (q - 1)) = (cut n : Int) := by
    have h1 : (2 : Nat) ^ (q - 1) ≤ 2 ^ 32 := Nat.pow_le_pow_right (by omega) (by omega)
    have h3 : ((2 : Int) ^ (q - 1)) = ((2 ^ (q - 1) : Nat) : Int) := by simp
    have h4 : cut n = 2 ^ (q - 1) := by unfold cut; rw [← HQ.out.2]
    rw [h3, h4, IntWalk.wrap64_in _ (by constructor <;> omega)]
  go_ret
  exact ⟨by simp only [Array.getD]; exact congrArg (fun z => Ending.returned (Value.int .i64 z)) hw, rfl⟩

set_option maxHeartbeats 400000 in
theorem refCut_any (n : Nat) (w : World) (h2 : 2 ≤ n) (hm : n ≤ 4294967296) : Calls Tryd.prog 51 #[.int .i64 n] w fun e w' => e = .returned (.int .i64 (cut n)) ∧ w = w' := by
  have hn1 : (2 : Int) ≤ (n : Int) := by omega
  have hn2 : (n : Int) ≤ 4294967296 := by omega
  go_enter Tryd.func51, Tryd.ntmps51
  go_wp2
  go_loop [3] (fun v => ∃ (j p : Nat), Hid (p = 2 ^ j ∧ j ≤ 31) ∧ p < n ∧ 1 ≤ p ∧ v = .int .i64 p) (fun v => n - (intOf v).toNat)
  case atStart => exact ⟨0, 1, Lib.hid ⟨rfl, by omega⟩, by omega, by omega, rfl⟩
  case round =>
    obtain ⟨j, p, hp, hpn, hp1, rfl⟩ := hrel
    have hpi : (p : Int) ≤ 4294967296 := by omega
    have hpi0 : (1 : Int) ≤ (p : Int) := by omega
    by_cases hlt : 2 * p < n
    · go_wp2
      go_round
      case rel =>
        refine ⟨j + 1, 2 * p, Lib.hid ⟨by rw [hp.out.1, Nat.pow_succ]; omega, ?_⟩, by omega, by omega, by go_num⟩
        rcases Nat.lt_or_ge 31 (j + 1) with h | h
        · have h1 : 2 ^ 32 ≤ 2 ^ (j + 1) := Nat.pow_le_pow_right (by omega) h
          have h3 : 2 ^ (j + 1) = 2 * 2 ^ j := by rw [Nat.pow_succ]; omega
          rw [← hp.out.1] at h3
          omega
        · exact h
      case measure => simp [intOf]; omega
    · have hc : cut n = p := by
        rw [hp.out.1]
        exact cut_is n j (by rw [← hp.out.1]; exact hpn) (by rw [Nat.pow_succ, ← hp.out.1]; omega) (by have := hp.out.2; omega)
      have HC := Lib.hid hc
      clear hc
      go_wp2
      go_ret
      exact ⟨by rw [HC.out]; rfl, rfl⟩

/-- the digests ds lie at A -/
def DSrc (w : World) (A : Option Addr) (ds : List (List UInt8)) : Prop := All32 ds ∧ (ds ≠ [] → ∃ b o, A = some ⟨b, o, none⟩ ∧ b < w.heap.size ∧ ∀ j d, ds[j]? = some d → w.rangeAt b (o + j * 32) (d.map bv))
theorem DSrc.below {w w' : World} {A : Option Addr} {ds : List (List UInt8)} (h : DSrc w A ds) (hb : Below w.heap.size w w') : DSrc w' A ds :=
  ⟨h.1, fun hne => by
    obtain ⟨b, o, e, hlt, hc⟩ := h.2 hne
    exact ⟨b, o, e, Nat.lt_of_lt_of_le hlt hb.size, fun j d hd i v hi => (hb.cell (p := ⟨b, o + j * 32 + i, none⟩) hlt).trans (hc j d hd i v hi)⟩⟩
theorem DSrc.take {w : World} {A : Option Addr} {ds : List (List UInt8)} (h : DSrc w A ds) (k : Nat) : DSrc w A (ds.take k) :=
  ⟨h.1.take k, fun hne => by
    obtain ⟨b, o, e, hlt, hc⟩ := h.2 (fun e => hne (by rw [e]; simp))
    exact ⟨b, o, e, hlt, fun j d hd => hc j d (by
      rw [List.getElem?_take] at hd
      split at hd
      · exact hd
      · cases hd)⟩⟩
theorem DSrc.drop {w : World} {b o : Nat} {ds : List (List UInt8)} (h : DSrc w (some ⟨b, o, none⟩) ds) (k : Nat) : DSrc w (some ⟨b, o + k * 32, none⟩) (ds.drop k) :=
  ⟨h.1.drop k, fun hne => by
    obtain ⟨b', o', e, hlt, hc⟩ := h.2 (fun e => hne (by rw [e]; simp))
    injection e with e
    injection e with e1 e2
    subst e1 e2
    exact ⟨b, o + k * 32, rfl, hlt, fun j d hd => by
      rw [List.getElem?_drop] at hd
      have := hc (k + j) d hd
      rwa [Nat.add_mul, ← Nat.add_assoc] at this⟩⟩

set_option maxHeartbeats 1000000 in
set_option maxRecDepth 100000 in
theorem halves_any (w : World) (b o n c : Nat) (h2 : 2 ≤ n) (hm : n ≤ 4294967296) (hc : n ≤ c) :
    Calls Tryd.prog 50 #[.slice (some ⟨b, o, none⟩) n c] w fun e w' => e = .returned (.tuple #[.slice (some ⟨b, o, none⟩) (cut n) (cut n), .slice (some ⟨b, o + cut n * 32, none⟩) (n - cut n) (n - cut n)]) ∧ Below w.heap.size w w' := by
  obtain ⟨c0, c1, c2, _⟩ := cut_spec n h2 (by omega)
  obtain ⟨k, hk⟩ : ∃ k, k = cut n := ⟨_, rfl⟩
  rw [← hk] at c0 c1 c2
  rw [← hk]
  have HK := Lib.hid hk
  clear hk
  have a1 : (0 : Int) ≤ (k : Int) := by omega
  have a2 : (k : Int) ≤ (n : Int) := by omega
  have a3 : (n : Int) ≤ (c : Int) := by omega
  have a4 : (k : Int) ≤ (c : Int) := by omega
  have a5 : (0 : Int) ≤ (n : Int) := by omega
  go_enter Tryd.func50, Tryd.ntmps50
  go_wp2_with fail
  refine (split_any n _ h2 hm).mono ?_
  rintro e w1 ⟨rfl, rfl⟩
  rw [← HK.out]
  go_wp2
  refine wp_region_G (fun _ => false) (by kernel_rfl) ?_
  refine wpAnyG_take 0 rfl (by kernel_rfl) (fun _ _ _ h => h) (YieldsG.pure (by rfl) (fun w9 _ => by go_simp; try with_reducible rfl)) ?_
  try simp only [Act.put, List.setIfInBounds_toArray, List.set_cons_zero, List.set_cons_succ]
  refine wpAnyG_take 1 rfl (by kernel_rfl) (fun _ _ _ h => h) (YieldsG.pure (by rfl) (fun w9 _ => by go_simp; try with_reducible rfl)) ?_
  try simp only [Act.put, List.setIfInBounds_toArray, List.set_cons_zero, List.set_cons_succ]
  refine wpAnyG_take 2 rfl (by kernel_rfl) (fun _ _ _ h => h) (YieldsG.pure (by rfl) (fun w9 _ => by go_simp; try with_reducible rfl)) ?_
  try simp only [Act.put, List.setIfInBounds_toArray, List.set_cons_zero, List.set_cons_succ]
  refine wpAnyG_take 3 rfl (by kernel_rfl) (fun _ _ _ h => h) (YieldsG.pure (by rfl) (fun w9 _ => by go_simp; try with_reducible rfl)) ?_
  try simp only [Act.put, List.setIfInBounds_toArray, List.set_cons_zero, List.set_cons_succ]
  refine wpAnyG_take 4 rfl (by kernel_rfl) (fun _ _ _ h => h) (YieldsG.pure (by rfl) (fun w9 _ => by go_simp; try with_reducible rfl)) ?_
  try simp only [Act.put, List.setIfInBounds_toArray, List.set_cons_zero, List.set_cons_succ]
  refine wpAnyG_take 5 rfl (by kernel_rfl) (fun _ _ _ h => h) (YieldsG.pure (by rfl) (fun w9 _ => by go_simp; try with_reducible rfl)) ?_
  try simp only [Act.put, List.setIfInBounds_toArray, List.set_cons_zero, List.set_cons_succ]
  refine wpAnyG_take 6 rfl (by kernel_rfl) (fun _ _ _ h => h) (YieldsG.pure (by rfl) (fun w9 _ => by go_simp; try with_reducible rfl)) ?_
  try simp only [Act.put, List.setIfInBounds_toArray, List.set_cons_zero, List.set_cons_succ]
  refine wpAnyG_take 7 rfl (by kernel_rfl) (fun _ _ _ h => h) (YieldsG.pure (by rfl) (fun w9 _ => by go_simp; try with_reducible rfl)) ?_
  try simp only [Act.put, List.setIfInBounds_toArray, List.set_cons_zero, List.set_cons_succ]
  refine wpAnyG_take 8 rfl (by kernel_rfl) (fun _ _ _ h => h) (YieldsG.pure (by rfl) (fun w9 _ => by go_simp; try with_reducible rfl)) ?_
  try simp only [Act.put, List.setIfInBounds_toArray, List.set_cons_zero, List.set_cons_succ]
  refine wpAnyG_take 9 rfl (by kernel_rfl) (fun _ _ _ h => h) (YieldsG.pure (by rfl) (fun w9 _ => by go_simp; try with_reducible rfl)) ?_
  try simp only [Act.put, List.setIfInBounds_toArray, List.set_cons_zero, List.set_cons_succ]
  refine wpAnyG_take 10 rfl (by kernel_rfl) (fun _ _ _ h => h) (YieldsG.pure (by rfl) (fun w9 _ => by go_simp; try with_reducible rfl)) ?_
  try simp only [Act.put, List.setIfInBounds_toArray, List.set_cons_zero, List.set_cons_succ]
  refine wpAnyG_take 11 rfl (by kernel_rfl) (fun _ _ _ h => h) (YieldsG.pure (by rfl) (fun w9 _ => by go_simp; try with_reducible rfl)) ?_
  try simp only [Act.put, List.setIfInBounds_toArray, List.set_cons_zero, List.set_cons_succ]
  refine wpAnyG_take 12 rfl (by kernel_rfl) (fun _ _ _ h => h) (YieldsG.pure (by rfl) (fun w9 _ => by go_simp; try with_reducible rfl)) ?_
  try simp only [Act.put, List.setIfInBounds_toArray, List.set_cons_zero, List.set_cons_succ]
  refine wpAnyG_done (by kernel_rfl) (fun w5 h5 => ?_)
  go_wp2
  go_ret2
  exact ⟨rfl, h5⟩
end Go.Proofs.YtimnpakmifjgoaaDoor
