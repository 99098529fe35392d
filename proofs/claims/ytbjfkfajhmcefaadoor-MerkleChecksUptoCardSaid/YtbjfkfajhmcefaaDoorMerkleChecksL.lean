/-
  The law on Check, walked.
-/
import Derived.Test.YtbjfkfajhmcefaaDoorMAlive
namespace Go.Proofs.YtbjfkfajhmcefaaDoor
open Go.RowKit Sp

def wayCells (i n : Nat) (A : Option Addr) (m c : Nat) : Array Value := #[.int .u32 i, .int .u32 n, .slice A m c]

set_option maxHeartbeats 1000000 in
set_option maxRecDepth 100000 in
theorem law_checks_at (w : World) (root leaf : List UInt8) (A : Option Addr) (ps : List (List UInt8)) (i n m c : Nat) (hr32 : root.length = 32) (hl32 : leaf.length = 32) (hi : i ≤ 4294967295) (hn : n ≤ 4294967295) (hm : m = ps.length) (hs : DSrc w A ps) (hmm : m ≤ 1048576) (hc : m ≤ c) (hcm : c ≤ 9223372036854775807) (ht : TabAt w 1) (htr : TabAt w 0) :
    Calls Tryd.prog 11 #[.agg (root.map bv).toArray, .agg (leaf.map bv).toArray, .agg #[.int .u32 i, .int .u32 n, .slice A m c]] w fun e w' => e = .returned (.bool true) ∧ Below w.heap.size w w' := by
  have HC := Lib.hid ht
  have HR := Lib.hid htr
  have HS := Lib.hid hs
  have htl := ht.lt
  have hrl := htr.lt
  have hu := Tryd.underlying24
  have hir := dig_info' hr32
  have hil := dig_info' hl32
  obtain ⟨b, hb⟩ : ∃ b, b = checkS root leaf i n ps := ⟨_, rfl⟩
  have HB := Lib.hid hb
  have HL := Lib.hid (And.intro hr32 (And.intro hl32 hm))
  clear ht htr hs hb hr32 hl32 hm
  go_enter Tryd.func11, Tryd.ntmps11
  go_wp2
  generalize hW : World.alloc _ _ = W
  have hA : Blk W w.heap.size 24 (root.map bv).toArray := by subst hW; exact ((Blk.new w _ _).alloc _).alloc _
  have hB : Blk W (w.heap.size + 1) 24 (leaf.map bv).toArray := by subst hW; exact Blk.alloc (heap_alloc2_new w _ _) _
  have hC : Blk W (w.heap.size + 2) 53 #[.int .u32 i, .int .u32 n, .slice A m c] := by subst hW; exact blk_new3 w _ _ _ _
  have hb3 : Below w.heap.size w W := by subst hW; exact below_alloc3 w _ _ _
  clear hW
  have rA := rangeAt_blk hA
  have rB := rangeAt_blk hB
  have lA := hA.lt
  have lB := hB.lt
  have lC := hC.lt
  have c0 := rangeAt_blk hC 0 _ rfl
  have c1 := rangeAt_blk hC 1 _ rfl
  have c2 := rangeAt_blk hC 2 _ rfl
  have HS := Lib.hid (HS.out.below hb3)
  clear hA hB hC
  refine wp_region_G (fun _ => false) (by kernel_rfl) ?_
  refine wpAnyG_take 0 rfl (by kernel_rfl) (fun _ _ _ h => h) (YieldsG.call (v := .bool true) (by rfl) 31 _ (fun w9 => by go_simp; try (first | with_reducible rfl | rfl)) (fun w9 h9 => alive2_any w9 (HC.out.below (Below.gr hb3 h9) htl) (HR.out.below (Below.gr hb3 h9) hrl))) ?_
  try simp only [Act.put, List.setIfInBounds_toArray, List.set_cons_zero, List.set_cons_succ]
  refine wpAnyG_take 1 rfl (by kernel_rfl) (fun _ _ _ h => h) (YieldsG.pure (by rfl) (fun w9 _ => by go_simp; try with_reducible rfl)) ?_
  try simp only [Act.put, List.setIfInBounds_toArray, List.set_cons_zero, List.set_cons_succ]
  refine wpAnyG_take 2 rfl (by kernel_rfl) (fun _ _ _ h => h) (YieldsG.load (by rfl) _ _ rfl w.heap.size 0 rfl (root.map bv) _ lA rA hu rfl hir) ?_
  try simp only [Act.put, List.setIfInBounds_toArray, List.set_cons_zero, List.set_cons_succ]
  refine wpAnyG_take 3 rfl (by kernel_rfl) (fun _ _ _ h => h) (YieldsG.load (by rfl) _ _ rfl (w.heap.size + 1) 0 rfl (leaf.map bv) _ lB rB hu rfl hil) ?_
  try simp only [Act.put, List.setIfInBounds_toArray, List.set_cons_zero, List.set_cons_succ]
  refine wpAnyG_take 4 rfl (by kernel_rfl) (fun _ _ _ h => h) (YieldsG.pure (by rfl) (fun w9 _ => by go_simp; try with_reducible rfl)) ?_
  try simp only [Act.put, List.setIfInBounds_toArray, List.set_cons_zero, List.set_cons_succ]
  refine wpAnyG_take 5 rfl (by kernel_rfl) (fun _ _ _ h => h) (YieldsG.pure (v := .int .u32 i) (by rfl) (fun w9 h9 => by have hz := (Below.cell (p := ⟨w.heap.size + 2, 0 + 0, none⟩) h9 lC).trans c0; go_simp; first | done | simp [hz])) ?_
  try simp only [Act.put, List.setIfInBounds_toArray, List.set_cons_zero, List.set_cons_succ]
  refine wpAnyG_take 6 rfl (by kernel_rfl) (fun _ _ _ h => h) (YieldsG.pure (by rfl) (fun w9 _ => by go_simp; try with_reducible rfl)) ?_
  try simp only [Act.put, List.setIfInBounds_toArray, List.set_cons_zero, List.set_cons_succ]
  refine wpAnyG_take 7 rfl (by kernel_rfl) (fun _ _ _ h => h) (YieldsG.pure (v := .int .u32 n) (by rfl) (fun w9 h9 => by have hz := (Below.cell (p := ⟨w.heap.size + 2, 0 + 1, none⟩) h9 lC).trans c1; go_simp; first | done | simp [hz])) ?_
  try simp only [Act.put, List.setIfInBounds_toArray, List.set_cons_zero, List.set_cons_succ]
  refine wpAnyG_take 8 rfl (by kernel_rfl) (fun _ _ _ h => h) (YieldsG.pure (by rfl) (fun w9 _ => by go_simp; try with_reducible rfl)) ?_
  try simp only [Act.put, List.setIfInBounds_toArray, List.set_cons_zero, List.set_cons_succ]
  refine wpAnyG_take 9 rfl (by kernel_rfl) (fun _ _ _ h => h) (YieldsG.pure (v := .slice A m c) (by rfl) (fun w9 h9 => by have hz := (Below.cell (p := ⟨w.heap.size + 2, 0 + 2, none⟩) h9 lC).trans c2; go_simp; first | done | simp [hz])) ?_
  try simp only [Act.put, List.setIfInBounds_toArray, List.set_cons_zero, List.set_cons_succ]
  refine wpAnyG_take 10 rfl (by kernel_rfl) (fun _ _ _ h => h) (YieldsG.call (v := .bool b) (by rfl) 39 _ (fun w9 => by go_simp; try (first | with_reducible rfl | rfl)) (fun w9 h9 => HB.out ▸ check_any w9 root leaf A ps i n m c HL.out.1 HL.out.2.1 hi hn HL.out.2.2 (HS.out.below h9) hc (HC.out.below (Below.gr hb3 h9) htl))) ?_
  try simp only [Act.put, List.setIfInBounds_toArray, List.set_cons_zero, List.set_cons_succ]
  refine wpAnyG_take 11 rfl (by kernel_rfl) (fun _ _ _ h => h) (YieldsG.load (by rfl) _ _ rfl w.heap.size 0 rfl (root.map bv) _ lA rA hu rfl hir) ?_
  try simp only [Act.put, List.setIfInBounds_toArray, List.set_cons_zero, List.set_cons_succ]
  refine wpAnyG_take 12 rfl (by kernel_rfl) (fun _ _ _ h => h) (YieldsG.load (by rfl) _ _ rfl (w.heap.size + 1) 0 rfl (leaf.map bv) _ lB rB hu rfl hil) ?_
  try simp only [Act.put, List.setIfInBounds_toArray, List.set_cons_zero, List.set_cons_succ]
  refine wpAnyG_take 13 rfl (by kernel_rfl) (fun _ _ _ h => h) (YieldsG.pure (by rfl) (fun w9 _ => by go_simp; try with_reducible rfl)) ?_
  try simp only [Act.put, List.setIfInBounds_toArray, List.set_cons_zero, List.set_cons_succ]
  refine wpAnyG_take 14 rfl (by kernel_rfl) (fun _ _ _ h => h) (YieldsG.pure (v := .int .u32 i) (by rfl) (fun w9 h9 => by have hz := (Below.cell (p := ⟨w.heap.size + 2, 0 + 0, none⟩) h9 lC).trans c0; go_simp; first | done | simp [hz])) ?_
  try simp only [Act.put, List.setIfInBounds_toArray, List.set_cons_zero, List.set_cons_succ]
  refine wpAnyG_take 15 rfl (by kernel_rfl) (fun _ _ _ h => h) (YieldsG.pure (by rfl) (fun w9 _ => by go_simp; try with_reducible rfl)) ?_
  try simp only [Act.put, List.setIfInBounds_toArray, List.set_cons_zero, List.set_cons_succ]
  refine wpAnyG_take 16 rfl (by kernel_rfl) (fun _ _ _ h => h) (YieldsG.pure (v := .int .u32 n) (by rfl) (fun w9 h9 => by have hz := (Below.cell (p := ⟨w.heap.size + 2, 0 + 1, none⟩) h9 lC).trans c1; go_simp; first | done | simp [hz])) ?_
  try simp only [Act.put, List.setIfInBounds_toArray, List.set_cons_zero, List.set_cons_succ]
  refine wpAnyG_take 17 rfl (by kernel_rfl) (fun _ _ _ h => h) (YieldsG.pure (by rfl) (fun w9 _ => by go_simp; try with_reducible rfl)) ?_
  try simp only [Act.put, List.setIfInBounds_toArray, List.set_cons_zero, List.set_cons_succ]
  refine wpAnyG_take 18 rfl (by kernel_rfl) (fun _ _ _ h => h) (YieldsG.pure (v := .slice A m c) (by rfl) (fun w9 h9 => by have hz := (Below.cell (p := ⟨w.heap.size + 2, 0 + 2, none⟩) h9 lC).trans c2; go_simp; first | done | simp [hz])) ?_
  try simp only [Act.put, List.setIfInBounds_toArray, List.set_cons_zero, List.set_cons_succ]
  refine wpAnyG_take 19 rfl (by kernel_rfl) (fun _ _ _ h => h) (YieldsG.call (v := .bool b) (by rfl) 40 _ (fun w9 => by go_simp; try (first | with_reducible rfl | rfl)) (fun w9 h9 => HB.out ▸ checkR_any w9 root leaf A ps i n m c HL.out.1 HL.out.2.1 hi hn HL.out.2.2 (HS.out.below h9) hmm hc hcm (HR.out.below (Below.gr hb3 h9) hrl))) ?_
  try simp only [Act.put, List.setIfInBounds_toArray, List.set_cons_zero, List.set_cons_succ]
  refine wpAnyG_take 20 rfl (by kernel_rfl) (fun _ _ _ h => h) (YieldsG.pure (by rfl) (fun w9 _ => by go_simp; try with_reducible rfl)) ?_
  try simp only [Act.put, List.setIfInBounds_toArray, List.set_cons_zero, List.set_cons_succ]
  refine wpAnyG_take 21 rfl (by kernel_rfl) (fun _ _ _ h => h) (YieldsG.pure (by rfl) (fun w9 _ => by go_simp; try with_reducible rfl)) ?_
  try simp only [Act.put, List.setIfInBounds_toArray, List.set_cons_zero, List.set_cons_succ]
  refine wpAnyG_take 22 rfl (by kernel_rfl) (fun _ _ _ h => h) (YieldsG.pure (by rfl) (fun w9 _ => by go_simp; try with_reducible rfl)) ?_
  try simp only [Act.put, List.setIfInBounds_toArray, List.set_cons_zero, List.set_cons_succ]
  refine wpAnyG_done (by kernel_rfl) (fun w8 h8 => ?_)
  go_wp2
  go_ret
  exact ⟨rfl, Below.gr hb3 h8⟩
end Go.Proofs.YtbjfkfajhmcefaaDoor
