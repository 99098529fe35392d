/-
  A key that fills a block, each byte xored.
-/
import Derived.Test.YtimnpakmifjgoaaDoorRefOfL
import Derived.Test.YtimnpakmifjgoaaDoorShaLess
import Derived.Test.YtimnpakmifjgoaaDoorOwnAny
namespace Go.Proofs.YtimnpakmifjgoaaDoor
open Go.RowKit Sp

def kin (k : List UInt8) : List UInt8 := if 64 < k.length then sum k else k
def pad64 (l : List UInt8) : List UInt8 := l ++ List.replicate (64 - l.length) 0
def kp (k : List UInt8) (x : UInt8) : List UInt8 := (pad64 (kin k)).map (fun b => b ^^^ x)
theorem kin_length (k : List UInt8) : (kin k).length ≤ 64 := by
  unfold kin; split
  · rw [sum_length]; omega
  · omega
theorem pad64_length (l : List UInt8) (h : l.length ≤ 64) : (pad64 l).length = 64 := by simp [pad64]; omega
theorem kp_length (k : List UInt8) (x : UInt8) : (kp k x).length = 64 := by rw [kp, List.length_map, pad64_length _ (kin_length k)]
theorem xor8 (a b : UInt8) : bits .xor .u8 (a.toNat : Int) (b.toNat : Int) = ((a ^^^ b).toNat : Int) := by
  rw [u8_xor_nat _ _ a.toNat_lt b.toNat_lt, UInt8.toNat_xor]
theorem pad64_copy (l : List UInt8) (_h : l.length ≤ 64) : (List.replicate 64 (Value.int .u8 0)).take 0 ++ (l.map bv ++ (List.replicate 64 (Value.int .u8 0)).drop (0 + (l.map bv).length)) = (pad64 l).map bv := by
  rw [List.length_map]
  simp only [List.take_zero, List.nil_append, Nat.zero_add, List.drop_replicate, pad64, List.map_append, List.map_replicate]
  rfl

set_option maxHeartbeats 1000000 in
set_option maxRecDepth 100000 in
theorem keyPad_any (w : World) (A : Option Addr) (k : List UInt8) (c : Nat) (x : UInt8) (z : Int) (hz : z = (x.toNat : Int)) (hs : Src w A k) (ht : TabAt w 1) (hc : k.length ≤ c) (hmax : c ≤ 9223372036854775807) (hm : k.length ≤ 1000000000000000000) :
    Calls Tryd.prog 47 #[.slice A k.length c, .int .u8 z] w fun e w' => e = .returned (.slice (some ⟨w.heap.size, 0, none⟩) 64 64) ∧ Below w.heap.size w w' ∧ Blk w' w.heap.size 5 ((kp k x).map bv).toArray := by
  subst hz
  have HS := Lib.hid hs
  have HT := Lib.hid ht
  have htl := ht.lt
  clear hs ht
  have hsl := slice_all
  have hcase : 64 < k.length ∨ (¬ 64 < k.length ∧ Hid (k = [])) ∨ (¬ 64 < k.length ∧ ∃ b o, A = some ⟨b, o, none⟩ ∧ b < w.heap.size ∧ Hid (∀ j u, k[j]? = some u → w.cell? ⟨b, o + j, none⟩ = some (bv u))) := by
    by_cases hk : 64 < k.length
    · exact .inl hk
    · by_cases hne : k = []
      · exact .inr (.inl ⟨hk, Lib.hid hne⟩)
      · obtain ⟨b, o, e, h1, h2⟩ := HS.out hne
        exact .inr (.inr ⟨hk, b, o, e, h1, Lib.hid h2⟩)
  rcases hcase with hk | ⟨hk, hne⟩ | ⟨hk, bq, oq, rfl, hbq, hcq⟩
  all_goals
    go_enter Tryd.func47, Tryd.ntmps47
    go_wp2_with (first
      | (refine wpList_make_blk _ rfl (.const (.int .i64 64)) (.const (.int .i64 64)) 22 rfl 5 (.int .u8 0) 1 Tryd.underlying22 (by kernel_rfl) rfl .i64 .i64 64 _ _ rfl rfl (by omega) (by omega) (by omega) (by omega) ?_; intro w1 hk1 hb1 hz1)
      | (go_at_call 15
         refine (of_any _ A k c (HS.out.below hb1) (HT.out.below hb1 htl) hc hmax hm).mono ?_
         rintro e w2 ⟨rfl, hb2⟩
         have hk2 := hk1.below hb2 hk1.lt
         have hbb2 := hb1.trans (hb2.mono hb1.size)
         unfold dv)
      | (refine wpList_store_new rfl 24 (.tmp 6) (.tmp 13) rfl _ _ _ rfl rfl (sum_info k) (by rw [sum_size]; rfl) (sum_one k) ?_
         intro w3 hk3 hb3 hz3
         have hN3 := hk2.below hb3 hk2.lt
         have hbb3 := hbb2.trans (hb3.mono hbb2.size)
         have hlt3 := hk2.lt)
      | (refine wpList_copy_blk rfl (.tmp 14) (.tmp 15) 22 22 rfl 5 Tryd.underlying22 (by kernel_rfl) w.heap.size 0 64 64 ⟨w2.heap.size, 0, none⟩ 32 32 rfl rfl (List.replicate 64 (.int .u8 0)) 5 hN3 ((sum k).map bv) (by rw [List.length_map, sum_length]; rfl)
           (fun j v hv => by
             rw [addr_add, Nat.zero_add]
             exact (hk3.cell j).trans (by rw [List.getElem?_toArray]; exact hv)) (by rw [List.length_map, sum_length]; simp) (oneCell_bv _) ?_
         intro w4 hk4 ho4
         have hB := hk4.eq_ (congrArg List.toArray (pad64_copy (sum k) (by rw [sum_length]; omega)))
         have hbe := hbb3.trans (below_of_only ho4 hbb3.size (Nat.le_refl _)))
      | (refine wpList_copy_nothing rfl (.tmp 17) (.tmp 18) 22 22 rfl 5 Tryd.underlying22 (by kernel_rfl) (some ⟨w.heap.size, 0, none⟩) A 64 64 k.length c rfl rfl (by rw [hne.out]; rfl) ?_
         have hB := hk1.eq_ (by rw [hne.out]; rfl : _ = ((pad64 k).map bv).toArray)
         have hbe := hb1)
      | (refine wpList_copy_blk rfl (.tmp 17) (.tmp 18) 22 22 rfl 5 Tryd.underlying22 (by kernel_rfl) w.heap.size 0 64 64 ⟨bq, oq, none⟩ k.length c rfl rfl (List.replicate 64 (.int .u8 0)) 5 hk1 (k.map bv) (by rw [List.length_map]; exact (Nat.min_eq_left (by omega)).symm)
           (fun j v hv => by
             rw [addr_add]
             rw [List.getElem?_map] at hv
             obtain ⟨u, hu, rfl⟩ := Option.map_eq_some_iff.1 hv
             exact ((hb1.cell (p := ⟨bq, oq + j, none⟩) hbq).trans (hcq.out j u hu))) (by rw [List.length_map]; simp; omega) (oneCell_bv _) ?_
         intro w4 hk4 ho4
         have hB := hk4.eq_ (congrArg List.toArray (pad64_copy k (by omega)))
         have hbe := hb1.trans (below_of_only ho4 hb1.size (Nat.le_refl _))))
  all_goals
    have hB := hB.eq_ (by first | rw [kin, if_pos hk] | rw [kin, if_neg hk] : _ = ((pad64 (kin k)).map bv).toArray)
    obtain ⟨p, hp⟩ : ∃ p, p = pad64 (kin k) := ⟨_, rfl⟩
    have hpl : p.length = 64 := by rw [hp]; exact pad64_length _ (kin_length k)
    rw [← hp] at hB
    have HP := Lib.hid (And.intro hp hpl)
    clear hp hpl
    go_loopw [22] (fun i wr => ∃ j : Nat, j ≤ 64 ∧ i = .int .i64 j ∧ Below w.heap.size w wr ∧ Blk wr w.heap.size 5 (((p.map (fun b => b ^^^ x)).map bv).take j ++ (p.map bv).drop j).toArray)
      (fun i _ => 64 - (intOf i).toNat)
    case atStart => exact ⟨0, by omega, rfl, hbe, hB.eq_ (by simp)⟩
    case round =>
      clear hbe hB
      obtain ⟨j, hj, rfl, hbe, hB⟩ := hrel
      have l1 : ((p.map (fun b => b ^^^ x)).map bv).length = (p.map bv).length := by simp
      have l2 : ((p.map (fun b => b ^^^ x)).map bv).length = 64 := by simp [HP.out.2]
      by_cases hlt : j < 64
      · have hu : p[j]? = some (p.getD j 0) := by
          rw [List.getD_eq_getElem?_getD, List.getElem?_eq_getElem (by rw [HP.out.2]; exact hlt)]; rfl
        obtain ⟨u, hue⟩ : ∃ u, u = p.getD j 0 := ⟨_, rfl⟩
        rw [← hue] at hu
        have hc1 : wr.cell? ⟨w.heap.size, j, none⟩ = some (.int .u8 (u.toNat : Int)) := by
          refine (hB.cell j).trans ?_
          rw [List.getElem?_toArray, mid_get _ _ j l1 (by rw [l2]; exact hlt)]
          simp [hu, bv]
        have hf1 := hB.frozen j
        have HU := Lib.hid (And.intro hu (And.intro l1 l2))
        clear hu hue l1 l2
        go_wp2
        go_roundw
        case rel =>
          refine ⟨j + 1, by omega, by go_num, hbe.setCell (Nat.le_refl _) _, (hB.set_ j _).eq_ ?_⟩
          rw [List.setIfInBounds_toArray]
          refine congrArg List.toArray (set_step _ _ j _ ?_ HU.out.2.1)
          rw [xor8]
          simp [HU.out.1, bv]
        case measure => simp [intOf]; omega
      · obtain rfl : j = 64 := by omega
        go_wp2
        go_ret
        refine ⟨rfl, hbe, hB.eq_ ?_⟩
        rw [List.take_of_length_le (by rw [l2]; exact Nat.le_refl _), List.drop_of_length_le (by rw [← l1, l2]; exact Nat.le_refl _), List.append_nil, HP.out.1]
        rfl
end Go.Proofs.YtimnpakmifjgoaaDoor
