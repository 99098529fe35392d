/-
  The document's Fold and Check, walked.
-/
import Derived.Test.YtbjfkfajhmcefaaDoorMClimb2
import Derived.Test.YtbjfkfajhmcefaaDoorOrd2

/-
  A region that draws, once more: what yields its value in whatever world may be taken first though others store. No function of the program stands here.
-/
namespace Go.Proofs.YtbjfkfajhmcefaaDoor
open Go.RowKit

section
variable {P : Program} {ops : Array Oper} {Q : Exit → Act → World → Prop} {md : Region.Mode} {ex : Nat → Bool}
theorem wpOp_putA {j : Nat} {oi oj : Oper} {v : Value} (hj : ops[j]? = some oj) (hap : oi.apart ops oj = true)
    (hsi : ∀ cs b, oi.op ≠ .select cs b) (hsj : ∀ cs b, oj.op ≠ .select cs b)
    (hQ : ∀ c a w, Q (.panic c) (a.put oi.dst v) w → Q (.panic c) a w) {K : Act → World → Prop} {a : Act} {w : World}
    (hy : ∀ w0, YieldsG P ops oi v a w0) (h : wpOp P ops Q j K (a.put oi.dst v) w) :
    wpOp P ops Q j (fun a' w' => (∀ w0, YieldsG P ops oi v a' w0) ∧ K (a'.put oi.dst v) w') a w := by
  obtain ⟨h1, h2, h3⟩ := Oper.apart_spec hap
  have keep : ∀ (a : Act), (∀ w0, YieldsG P ops oi v a w0) → ∀ u w0, YieldsG P ops oi v (a.put oj.dst u) w0 := fun a hy u w0 =>
    (hy w0).of_same (execOp_put oi hsi a oj.dst u h3) (wanted_put oi a oj.dst u h3)
  have keepD : ∀ d w0, YieldsG P ops oi v { a with defers := d :: a.defers } w0 := fun d w0 => (hy w0).of_same rfl rfl
  unfold wpOp at *
  simp only [hj] at *
  rw [wanted_put oj a oi.dst v h1] at h
  split
  · rename_i hw
    simp only [hw, if_true] at h
    rcases h with h | ⟨hasks, hlets⟩
    case inr => exact .inr ⟨by unfold Oper.asks at *; rw [execOp_put oj hsj a oi.dst v h1] at hasks; exact hasks, hlets⟩
    refine .inl ?_
    unfold Oper.wp at *
    rw [execOp_put oj hsj a oi.dst v h1] at h
    generalize (execOp a.eval oj).run P w = r at *
    cases r with
    | ok n w' =>
      cases n <;> simp only [Oper.upon] at h ⊢
      case value u => exact ⟨keep a hy u, by rw [← Act.put_comm a v u h2]; exact h⟩
      case skip => exact ⟨keep a hy _, by rw [← Act.put_comm a v undef h2]; exact h⟩
      case defer d =>
        refine ⟨keep _ (keepD d) _, ?_⟩
        rw [← Act.put_comm _ v undef h2, ← Act.put_defers]
        exact h
      case enter f args =>
        refine Calls.mono h fun e w'' he => ?_
        cases e with
        | returned u => exact ⟨keep a hy u, by rw [← Act.put_comm a v u h2]; exact he⟩
        | panicked c => exact hQ _ _ _ he
        | outgrown => exact he
      case row row args => exact Rows.mono h fun u w'' he => ⟨keep a hy u, by rw [← Act.put_comm a v u h2]; exact he⟩
    | halt x w' =>
      cases x <;> simp only [Oper.upon] at h ⊢
      case panic u => exact hQ _ _ _ h
  · rename_i hw
    simp only [hw] at h
    exact ⟨keep a hy _, by rw [← Act.put_comm a v undef h2]; exact h⟩
theorem wpAnyG_firstA {i : Nat} {oi : Oper} {v : Value} (hi : ops[i]? = some oi) (hsel : ∀ (j : Nat) (o : Oper) cs b, ops[j]? = some o → o.op ≠ .select cs b)
    (hQ : ∀ c a w, Q (.panic c) (a.put oi.dst v) w → Q (.panic c) a w) :
    ∀ (fuel : Nat) (listed : Array Bool) (a : Act) (w : World),
      (∀ j oj, ops[j]? = some oj → j ≠ i → listed.getD j true = false → (∀ e ∈ oj.after, Region.binds md e = true → e.on ≠ i) → oi.apart ops oj = true) →
      i ∈ Region.ready md ops listed → (∀ w0, YieldsG P ops oi v a w0) →
      wpAnyG P md ops Q ex fuel (listed.setIfInBounds i true) (a.put oi.dst v) w → wpAnyG P md ops Q ex (fuel + 1) listed a w := by
  intro fuel
  induction fuel with
  | zero =>
    intro listed a w _ hr hy H w1 hw1
    refine ⟨fun h => (by rw [h] at hr; cases hr), fun j hj => ?_⟩
    by_cases hji : j = i
    · subst hji; exact (hy w1).wpOp hi (fun w' h' => ⟨fun _ => h', wpAnyG_grow _ _ _ _ _ (hw1.trans h') H⟩)
    · have := ready_mono hj hji
      rw [H.1] at this
      cases this
  | succ fuel ih =>
    intro listed a w hfree hr hy H w1 hw1
    refine ⟨fun h => (by rw [h] at hr; cases hr), fun j hj => ?_⟩
    by_cases hji : j = i
    · subst hji; exact (hy w1).wpOp hi (fun w' h' => ⟨fun _ => h', wpAnyG_grow _ _ _ _ _ (hw1.trans h') H⟩)
    · have h1 := (H w1 hw1).2 j (ready_mono hj hji)
      obtain ⟨hjun, oj, hoj, hall⟩ := mem_ready.1 hj
      have hnot : ∀ e ∈ oj.after, Region.binds md e = true → e.on ≠ i := fun e he hb heq => by
        have h1 := hall e he hb
        have h0 := (mem_ready.1 hr).1
        rw [heq] at h1
        rcases Nat.lt_or_ge i listed.size with h' | h'
        · simp [h'] at h0 h1; rw [h0] at h1; cases h1
        · simp [Array.getElem?_eq_none h'] at h1
      have h2 := wpOp_putA hoj (hfree j oj hoj hji hjun hnot) (fun cs b => hsel i oi cs b hi) (fun cs b => hsel j oj cs b hoj) hQ hy h1
      have hfree' : ∀ k ok, ops[k]? = some ok → k ≠ i → (listed.setIfInBounds j true).getD k true = false →
          (∀ e ∈ ok.after, Region.binds md e = true → e.on ≠ i) → oi.apart ops ok = true := fun k ok hk hki hun hno => by
        refine hfree k ok hk hki ?_ hno
        by_cases hjk : j = k
        · subst hjk; exact hjun
        · rw [getD_set_ne true hjk] at hun; exact hun
      refine wpOp_mono (fun a' w' h3 => ⟨h3.2.1, ih (listed.setIfInBounds j true) a' w' hfree' (ready_mono hr (Ne.symm hji)) h3.1 ?_⟩) h2
      rw [Array.setIfInBounds_comm _ _ hji]
      exact h3.2.2
def canTakeA (md : Region.Mode) (ops : Array Oper) (listed : Array Bool) (i : Nat) : Bool :=
  Region.noSelect ops && Region.free md ops listed i && (Region.ready md ops listed).contains i
theorem wpAnyG_takeA (i : Nat) {oi : Oper} {v : Value} {fuel : Nat} {listed : Array Bool} {a : Act} {w : World} (hi0 : ops.toList[i]? = some oi) (hc : canTakeA md ops listed i = true)
    (hQ : ∀ c a w, Q (.panic c) (a.put oi.dst v) w → Q (.panic c) a w) (hy : ∀ w0, YieldsG P ops oi v a w0)
    (h : wpAnyG P md ops Q ex fuel (listed.setIfInBounds i true) (a.put oi.dst v) w) : wpAnyG P md ops Q ex (fuel + 1) listed a w := by
  have hi : ops[i]? = some oi := by simpa using hi0
  unfold canTakeA at hc
  simp only [Bool.and_eq_true] at hc
  exact wpAnyG_firstA hi (Region.noSelect_spec hc.1.1) hQ fuel listed a w (Region.free_spec hi hc.1.2) (by simpa using hc.2) hy h
end
end Go.Proofs.YtbjfkfajhmcefaaDoor

namespace Go.Proofs.YtbjfkfajhmcefaaDoor
open Go.RowKit Sp

def FoldPost (w : World) (r : List UInt8 × Bool) (e : Ending) (w' : World) : Prop := e = .returned (.tuple #[dv r.1, .bool r.2]) ∧ Below w.heap.size w w'

set_option maxHeartbeats 4000000 in
set_option maxRecDepth 100000 in
theorem fold_any (leaf : List UInt8) (hlf : leaf.length = 32) (f : Nat) : ∀ (w : World) (A : Option Addr) (ps : List (List UInt8)) (i n m c : Nat), m ≤ f → m = ps.length → i ≤ 4294967295 → n ≤ 4294967295 → m ≤ 1048576 → DSrc w A ps → m ≤ c → c ≤ 9223372036854775807 → TabAt w 0 →
    Calls Tryd.prog 42 #[.agg (leaf.map bv).toArray, .int .i64 i, .int .i64 n, .slice A m c] w (FoldPost w (foldS leaf i n ps)) := by
  have HLF := Lib.hid hlf
  clear hlf
  induction f with
  | zero =>
    intro w A ps i n m c hf hm hi hn hmm hs hc hcm ht
    have HC := Lib.hid ht
    have htl := ht.lt
    clear ht
    have q0 : (0 : Int) ≤ (i : Int) := by omega
    have q1 : (i : Int) ≤ 4294967295 := by omega
    have q2 : (n : Int) ≤ 4294967295 := by omega
    have hB0 := below_alloc2 w (.cells (leaf.map bv).toArray 24) (.cells zeroDigest 24)
    have hR0 : Blk ((w.alloc (.cells (leaf.map bv).toArray 24)).alloc (.cells zeroDigest 24)) (w.heap.size + 1) 24 zeroDigest := heap_alloc2_new w _ _
    have hL0 : Blk ((w.alloc (.cells (leaf.map bv).toArray 24)).alloc (.cells zeroDigest 24)) w.heap.size 24 (leaf.map bv).toArray := (Blk.new w _ _).alloc _
    rcases Nat.lt_or_ge i n with hin | hin
    case inr =>
      rw [foldS_no leaf i n ps hin]
      have q3 : (n : Int) ≤ (i : Int) := by omega
      go_enter Tryd.func42, Tryd.ntmps42
      go_wp2_with (refine wpList_store_own rfl 24 (.tmp 8) (.tmp 19) rfl (w.heap.size + 1) zeroDigest rfl rfl 24 _ hR0 zero_info rfl zero_one ?_
                   intro w2 hd2 hB2 _)
      exact bodyPost_ret (results_row_tmp rfl _ _ (w.heap.size + 1) 24 _ (0, 0) _ rfl hd2 Tryd.underlying24 rfl zero_info) rfl ⟨rfl, hB0.trans (hB2 _ (by omega))⟩
    have q3 : (i : Int) < (n : Int) := by omega
    rcases Nat.lt_or_ge n 2 with h2 | h2
    · obtain rfl : n = 1 := by omega
      rw [foldS_one leaf i ps hin]
      obtain ⟨b, hb⟩ : ∃ b, b = decide (ps.length = 0) := ⟨_, rfl⟩
      have hbm : ((m : Int) == 0) = b := by
        rw [hb, hm]
        by_cases h0 : ps.length = 0 <;> simp [h0]
      rw [← hb]
      clear hb hs hm
      go_enter Tryd.func42, Tryd.ntmps42
      go_wp2_with (first
        | (refine wpList_load_row rfl 24 (.tmp 4) rfl w.heap.size rfl 24 _ (0, 0) _ hL0 Tryd.underlying24 rfl (dig_info HLF.out) ?_)
        | (refine wpList_store_own rfl 24 (.tmp 8) (.tmp 22) rfl (w.heap.size + 1) _ rfl rfl 24 _ hR0 (dig_info HLF.out) (by rw [dig_size HLF.out]; rfl) (dig_one _) ?_
           intro w2 hd2 hB2 _))
      exact bodyPost_ret (results_row_tmp rfl _ _ (w.heap.size + 1) 24 _ (0, 0) _ rfl hd2 Tryd.underlying24 rfl (dig_info HLF.out)) rfl ⟨rfl, hB0.trans (hB2 _ (by omega))⟩
    rcases Nat.eq_zero_or_pos m with h0 | h0
    · have hps : ps = [] := List.eq_nil_of_length_eq_zero (by omega)
      subst hps
      subst h0
      rw [foldS_nil leaf i n h2 hin]
      have q4 : (2 : Int) ≤ (n : Int) := by omega
      clear hs hm
      go_enter Tryd.func42, Tryd.ntmps42
      go_wp2_with (refine wpList_store_own rfl 24 (.tmp 8) (.tmp 29) rfl (w.heap.size + 1) zeroDigest rfl rfl 24 _ hR0 zero_info rfl zero_one ?_
                   intro w2 hd2 hB2 _)
      exact bodyPost_ret (results_row_tmp rfl _ _ (w.heap.size + 1) 24 _ (0, 0) _ rfl hd2 Tryd.underlying24 rfl zero_info) rfl ⟨rfl, hB0.trans (hB2 _ (by omega))⟩
    exact absurd hf (by omega)
  | succ f ih =>
    intro w A ps i n m c hf hm hi hn hmm hs hc hcm ht
    have HC := Lib.hid ht
    have htl := ht.lt
    clear ht
    have q0 : (0 : Int) ≤ (i : Int) := by omega
    have q1 : (i : Int) ≤ 4294967295 := by omega
    have q2 : (n : Int) ≤ 4294967295 := by omega
    have hB0 := below_alloc2 w (.cells (leaf.map bv).toArray 24) (.cells zeroDigest 24)
    have hR0 : Blk ((w.alloc (.cells (leaf.map bv).toArray 24)).alloc (.cells zeroDigest 24)) (w.heap.size + 1) 24 zeroDigest := heap_alloc2_new w _ _
    have hL0 : Blk ((w.alloc (.cells (leaf.map bv).toArray 24)).alloc (.cells zeroDigest 24)) w.heap.size 24 (leaf.map bv).toArray := (Blk.new w _ _).alloc _
    rcases Nat.lt_or_ge i n with hin | hin
    case inr =>
      rw [foldS_no leaf i n ps hin]
      have q3 : (n : Int) ≤ (i : Int) := by omega
      go_enter Tryd.func42, Tryd.ntmps42
      go_wp2_with (refine wpList_store_own rfl 24 (.tmp 8) (.tmp 19) rfl (w.heap.size + 1) zeroDigest rfl rfl 24 _ hR0 zero_info rfl zero_one ?_
                   intro w2 hd2 hB2 _)
      exact bodyPost_ret (results_row_tmp rfl _ _ (w.heap.size + 1) 24 _ (0, 0) _ rfl hd2 Tryd.underlying24 rfl zero_info) rfl ⟨rfl, hB0.trans (hB2 _ (by omega))⟩
    have q3 : (i : Int) < (n : Int) := by omega
    rcases Nat.lt_or_ge n 2 with h2 | h2
    · obtain rfl : n = 1 := by omega
      rw [foldS_one leaf i ps hin]
      obtain ⟨b, hb⟩ : ∃ b, b = decide (ps.length = 0) := ⟨_, rfl⟩
      have hbm : ((m : Int) == 0) = b := by
        rw [hb, hm]
        by_cases h0 : ps.length = 0 <;> simp [h0]
      rw [← hb]
      clear hb hs hm
      go_enter Tryd.func42, Tryd.ntmps42
      go_wp2_with (first
        | (refine wpList_load_row rfl 24 (.tmp 4) rfl w.heap.size rfl 24 _ (0, 0) _ hL0 Tryd.underlying24 rfl (dig_info HLF.out) ?_)
        | (refine wpList_store_own rfl 24 (.tmp 8) (.tmp 22) rfl (w.heap.size + 1) _ rfl rfl 24 _ hR0 (dig_info HLF.out) (by rw [dig_size HLF.out]; rfl) (dig_one _) ?_
           intro w2 hd2 hB2 _))
      exact bodyPost_ret (results_row_tmp rfl _ _ (w.heap.size + 1) 24 _ (0, 0) _ rfl hd2 Tryd.underlying24 rfl (dig_info HLF.out)) rfl ⟨rfl, hB0.trans (hB2 _ (by omega))⟩
    rcases Nat.eq_zero_or_pos m with h0 | h0
    · have hps : ps = [] := List.eq_nil_of_length_eq_zero (by omega)
      subst hps
      subst h0
      rw [foldS_nil leaf i n h2 hin]
      have q4 : (2 : Int) ≤ (n : Int) := by omega
      clear hs hm
      go_enter Tryd.func42, Tryd.ntmps42
      go_wp2_with (refine wpList_store_own rfl 24 (.tmp 8) (.tmp 29) rfl (w.heap.size + 1) zeroDigest rfl rfl 24 _ hR0 zero_info rfl zero_one ?_
                   intro w2 hd2 hB2 _)
      exact bodyPost_ret (results_row_tmp rfl _ _ (w.heap.size + 1) 24 _ (0, 0) _ rfl hd2 Tryd.underlying24 rfl zero_info) rfl ⟨rfl, hB0.trans (hB2 _ (by omega))⟩
    obtain ⟨qs, last, hps⟩ : ∃ qs last, ps = qs ++ [last] := by
      rcases List.eq_nil_or_concat ps with rfl | ⟨qs, last, h⟩
      · simp at hm; omega
      · exact ⟨qs, last, by rw [h, List.concat_eq_append]⟩
    subst hps
    have hql : qs.length = m - 1 := by rw [List.length_append, List.length_singleton] at hm; omega
    obtain ⟨b, o, rfl, hbl, hbc⟩ := hs.2 (by simp)
    have hl32 : last.length = 32 := hs.1 last (by simp)
    have hrl := hbc (m - 1) last (by rw [← hql]; simp)
    have hsq : DSrc w (some ⟨b, o, none⟩) qs := by
      have h := hs.take (m - 1)
      rwa [← hql, List.take_left] at h
    have r1 : ((w.alloc (.cells (leaf.map bv).toArray 24)).alloc (.cells zeroDigest 24)).rangeAt b (o + (m - 1) * 32) (last.map bv) := fun j v hj => (hB0.cell (p := ⟨b, o + (m - 1) * 32 + j, none⟩) hbl).trans (hrl j v hj)
    obtain ⟨c0, c1, c2, _⟩ := cut_spec n h2 (by omega)
    have hfl := foldS_left leaf i n qs last h2 hin
    have hfr := foldS_right leaf i n qs last h2 hin
    obtain ⟨k, hk⟩ : ∃ k, k = cut n := ⟨_, rfl⟩
    rw [← hk] at c0 c1 c2 hfl hfr
    have q4 : (2 : Int) ≤ (n : Int) := by omega
    have q5 : (1 : Int) ≤ (m : Int) := by omega
    have q6 : (m : Int) ≤ (c : Int) := by omega
    have q7 : (m : Int) - 1 = ((m - 1 : Nat) : Int) := by omega
    have q8 : (m : Int) ≤ 1048576 := by omega
    have HK := Lib.hid hk
    have HF := Lib.hid (And.intro hfl hfr)
    have HS := Lib.hid (And.intro hsq (And.intro hql hl32))
    have HR := Lib.hid r1
    have H7 := Lib.hid q7
    clear hk hfl hfr hsq hql hl32 r1 hs hm hbc hrl q7
    go_enter Tryd.func42, Tryd.ntmps42
    go_wp2_with fail
    refine (refCut_any n _ h2 (by omega)).mono ?_
    rintro e w1 ⟨rfl, rfl⟩
    rw [← HK.out]
    by_cases hik : i < k
    · rw [HF.out.1 hik]
      obtain ⟨F, hF⟩ : ∃ F, F = foldS leaf i k qs := ⟨_, rfl⟩
      have hF32 : F.1.length = 32 := by rw [hF]; exact foldS_length leaf HLF.out _ _ qs
      rw [← hF]
      have HFF := Lib.hid (And.intro hF hF32)
      clear hF hF32
      go_wp2_with (first
        | (refine wpList_load_mid rfl 24 (.tmp 36) rfl b (o + (m - 1) * 32) rfl (last.map bv) _ HR.out Tryd.underlying24 rfl (dig_info' HS.out.2.2) ?_)
        | (refine wpList_store_own rfl 24 (.tmp 11) (.tmp 37) rfl (w.heap.size + 2) _ rfl rfl 24 _ (blk_new3 w _ _ _ _) (dig_info HS.out.2.2) (by rw [dig_size HS.out.2.2]; rfl) (dig_one _) ?_
           intro w3 hd3 hB3 _
           have hb3 := (below_alloc3 w _ _ _).trans (hB3 _ (Nat.le_add_right _ 2))
           have hL3 := rangeAt_blk (Blk.below (hL0.alloc _) (hB3 _ (Nat.le_refl _)) (by omega))
           have hR3 := Blk.below (hR0.alloc _) (hB3 _ (Nat.le_refl _)) (by omega)
           have hl3 : w.heap.size < w3.heap.size := by have := hd3.lt; omega
           have G3 : w.heap.size + 2 < w3.heap.size := hd3.lt))
      clear hB3 hL0 hR0 hB0
      have hu := Tryd.underlying24
      have hi1 := dig_info' HLF.out
      have m2 : (0 : Int) ≤ ((m - 1 : Nat) : Int) := by omega
      have m3 : ((m - 1 : Nat) : Int) ≤ (c : Int) := by omega
      have m1 : IntKind.i64.wrap ((m : Int) - 1) = ((m - 1 : Nat) : Int) := by rw [IntWalk.i64_in _ (by constructor <;> omega)]; omega
      refine wp_region_G (fun j => j == 13) (by kernel_rfl) ?_
      refine wpAnyG_take 0 rfl (by kernel_rfl) (fun _ _ _ h => h) (YieldsG.load (by rfl) _ _ rfl w.heap.size 0 rfl (leaf.map bv) _ hl3 hL3 hu rfl hi1) ?_
      try simp only [Act.put, List.setIfInBounds_toArray, List.set_cons_zero, List.set_cons_succ]
      refine wpAnyG_takeA 1 rfl (by kernel_rfl) (fun _ _ _ h => h) (fun _ => YieldsG.pure (by rfl) (fun w9 _ => by go_simp; try with_reducible rfl)) ?_
      try simp only [Act.put, List.setIfInBounds_toArray, List.set_cons_zero, List.set_cons_succ]
      refine wpAnyG_takeA 2 rfl (by kernel_rfl) (fun _ _ _ h => h) (fun _ => YieldsG.pure (by rfl) (fun w9 _ => by go_simp; try with_reducible rfl)) ?_
      try simp only [Act.put, List.setIfInBounds_toArray, List.set_cons_zero, List.set_cons_succ]
      refine wpAnyG_takeA 3 rfl (by kernel_rfl) (fun _ _ _ h => h) (fun _ => YieldsG.pure (by rfl) (fun w9 _ => by go_simp; try with_reducible rfl)) ?_
      try simp only [Act.put, List.setIfInBounds_toArray, List.set_cons_zero, List.set_cons_succ]
      refine wpAnyG_takeA 4 rfl (by kernel_rfl) (fun _ _ _ h => h) (fun _ => YieldsG.pure (by rfl) (fun w9 _ => by go_simp; try with_reducible rfl)) ?_
      try simp only [Act.put, List.setIfInBounds_toArray, List.set_cons_zero, List.set_cons_succ]
      refine wpAnyG_takeA 5 rfl (by kernel_rfl) (fun _ _ _ h => h) (fun _ => YieldsG.pure (by rfl) (fun w9 _ => by go_simp; try with_reducible rfl)) ?_
      try simp only [Act.put, List.setIfInBounds_toArray, List.set_cons_zero, List.set_cons_succ]
      refine wpAnyG_takeA 6 rfl (by kernel_rfl) (fun _ _ _ h => h) (fun _ => YieldsG.pure (by rfl) (fun w9 _ => by go_simp; try with_reducible rfl)) ?_
      try simp only [Act.put, List.setIfInBounds_toArray, List.set_cons_zero, List.set_cons_succ]
      refine wpAnyG_takeA 7 rfl (by kernel_rfl) (fun _ _ _ h => h) (fun _ => YieldsG.pure (by rfl) (fun w9 _ => by go_simp; try with_reducible rfl)) ?_
      try simp only [Act.put, List.setIfInBounds_toArray, List.set_cons_zero, List.set_cons_succ]
      refine wpAnyG_take 8 rfl (by kernel_rfl) (fun _ _ _ h => h) (YieldsG.call (v := .tuple #[.agg (F.1.map bv).toArray, .bool F.2]) (by rfl) 42 _ (fun w9 => by go_simp; try (first | with_reducible rfl | rfl)) (fun w9 h9 => HFF.out.1 ▸ ih w9 _ qs i k (m - 1) c (by omega) HS.out.2.1.symm (by omega) (by omega) (by omega) (HS.out.1.below (Below.gr hb3 h9)) (by omega) hcm (HC.out.below (Below.gr hb3 h9) htl))) ?_
      try simp only [Act.put, List.setIfInBounds_toArray, List.set_cons_zero, List.set_cons_succ]
      refine wpAnyG_takeA 9 rfl (by kernel_rfl) (fun _ _ _ h => h) (fun _ => YieldsG.pure (by rfl) (fun w9 _ => by go_simp; try with_reducible rfl)) ?_
      try simp only [Act.put, List.setIfInBounds_toArray, List.set_cons_zero, List.set_cons_succ]
      refine wpAnyG_takeA 10 rfl (by kernel_rfl) (fun _ _ _ h => h) (fun _ => YieldsG.pure (by rfl) (fun w9 _ => by go_simp; try with_reducible rfl)) ?_
      try simp only [Act.put, List.setIfInBounds_toArray, List.set_cons_zero, List.set_cons_succ]
      refine wpAnyG_takeA 11 rfl (by kernel_rfl) (fun _ _ _ h => h) (fun _ => YieldsG.pure (by rfl) (fun w9 _ => by go_simp; try with_reducible rfl)) ?_
      try simp only [Act.put, List.setIfInBounds_toArray, List.set_cons_zero, List.set_cons_succ]
      refine wpAnyG_sole 12 rfl (by kernel_rfl) (by rfl) (fun w5 h5 K hK => ?_)
      go_simp
      refine hK _ _ (fun _ => gr_alloc _ _) ?_
      clear hK K
      try simp only [Act.put, List.setIfInBounds_toArray, List.set_cons_zero, List.set_cons_succ]
      refine wpAnyG_store 13 rfl (by kernel_rfl) (by rfl) _ _ _ rfl w5.heap.size ((F.1.map bv).toArray) rfl rfl _ _ (Blk.new w5 _ _) (dig_info HFF.out.2) (by rw [dig_size HFF.out.2]; rfl) (dig_one _) rfl (fun w6 h6 w7 hB7 hL7 => ?_)
      try simp only [Act.put]
      refine wpAnyG_takeA 14 rfl (by kernel_rfl) (fun _ _ _ h => h) (fun _ => YieldsG.pure (by rfl) (fun w9 _ => by go_simp; try with_reducible rfl)) ?_
      try simp only [Act.put, List.setIfInBounds_toArray, List.set_cons_zero, List.set_cons_succ]
      refine wpAnyG_done (by kernel_rfl) (fun w8 h8 => ?_)
      clear m1
      have g38 : Gr w3 w8 := Below.trans (Below.trans (h5.trans ((gr_alloc _ _).trans h6)) (hB7 _ (Below.size h5))) (Below.mono h8 (Nat.le_trans (Below.size h5) (Nat.le_of_lt hL7.lt)))
      have hf8 := h8.blk hL7
      have hd8 := g38.blk hd3
      have hR8 := g38.blk hR3
      have hb8 := Below.gr hb3 g38
      go_wp2_with (first
        | (refine wpList_load_row rfl 24 (.tmp 12) rfl w5.heap.size rfl 24 _ (0, 0) _ hf8 Tryd.underlying24 rfl (dig_info HFF.out.2) ?_)
        | (refine wpList_load_row rfl 24 (.tmp 11) rfl (w.heap.size + 2) rfl 24 _ (0, 0) _ hd8 Tryd.underlying24 rfl (dig_info HS.out.2.2) ?_))
      refine (nodeR_any w8 F.1 last HFF.out.2 HS.out.2.2 (HC.out.below hb8 htl)).mono ?_
      rintro e w9 ⟨rfl, hb9⟩
      have hR9 := hR8.below hb9 hR8.lt
      have hbf := hb8.trans (hb9.mono hb8.size)
      unfold dv
      go_wp2_with (refine wpList_store_own rfl 24 (.tmp 8) (.tmp 55) rfl (w.heap.size + 1) _ rfl rfl 24 _ hR9 (dig_info (nodeS_length F.1 last)) (by rw [dig_size (nodeS_length F.1 last)]; rfl) (dig_one _) ?_
                   intro w10 hd10 hB10 _)
      exact bodyPost_ret (results_row_tmp rfl _ _ (w.heap.size + 1) 24 _ (0, 0) _ rfl hd10 Tryd.underlying24 rfl (dig_info (nodeS_length F.1 last))) rfl ⟨by first | rfl | (rw [← HFF.out.1]; rfl) | (rw [HF.out.1 hik, ← HFF.out.1]; rfl), hbf.trans (hB10 _ (by omega))⟩
    · rw [HF.out.2 hik]
      obtain ⟨F, hF⟩ : ∃ F, F = foldS leaf (i - k) (n - k) qs := ⟨_, rfl⟩
      have hF32 : F.1.length = 32 := by rw [hF]; exact foldS_length leaf HLF.out _ _ qs
      rw [← hF]
      have HFF := Lib.hid (And.intro hF hF32)
      clear hF hF32
      have hki : (k : Int) ≤ (i : Int) := by omega
      have hd1 : decide (i < k) = false := by simp; omega
      have hd2 : decide ((i : Int) < (k : Int)) = false := by simp; omega
      go_wp2_with (first
        | (refine wpList_load_mid rfl 24 (.tmp 36) rfl b (o + (m - 1) * 32) rfl (last.map bv) _ HR.out Tryd.underlying24 rfl (dig_info' HS.out.2.2) ?_)
        | (refine wpList_store_own rfl 24 (.tmp 11) (.tmp 37) rfl (w.heap.size + 2) _ rfl rfl 24 _ (blk_new3 w _ _ _ _) (dig_info HS.out.2.2) (by rw [dig_size HS.out.2.2]; rfl) (dig_one _) ?_
           intro w3 hd3 hB3 _
           have hb3 := (below_alloc3 w _ _ _).trans (hB3 _ (Nat.le_add_right _ 2))
           have hL3 := rangeAt_blk (Blk.below (hL0.alloc _) (hB3 _ (Nat.le_refl _)) (by omega))
           have hR3 := Blk.below (hR0.alloc _) (hB3 _ (Nat.le_refl _)) (by omega)
           have hl3 : w.heap.size < w3.heap.size := by have := hd3.lt; omega
           have G3 : w.heap.size + 2 < w3.heap.size := hd3.lt))
      clear hB3 hL0 hR0 hB0
      have hu := Tryd.underlying24
      have hi1 := dig_info' HLF.out
      have m2 : (0 : Int) ≤ ((m - 1 : Nat) : Int) := by omega
      have m3 : ((m - 1 : Nat) : Int) ≤ (c : Int) := by omega
      have m1 : IntKind.i64.wrap ((m : Int) - 1) = ((m - 1 : Nat) : Int) := by rw [IntWalk.i64_in _ (by constructor <;> omega)]; omega
      have m4 : IntKind.i64.wrap ((i : Int) - (k : Int)) = ((i - k : Nat) : Int) := by clear m1; rw [IntWalk.i64_in _ (by constructor <;> omega)]; omega
      have m5 : IntKind.i64.wrap ((n : Int) - (k : Int)) = ((n - k : Nat) : Int) := by clear m1 m4; rw [IntWalk.i64_in _ (by constructor <;> omega)]; omega
      refine wp_region_G (fun j => j == 17) (by kernel_rfl) ?_
      refine wpAnyG_take 0 rfl (by kernel_rfl) (fun _ _ _ h => h) (YieldsG.load (by rfl) _ _ rfl w.heap.size 0 rfl (leaf.map bv) _ hl3 hL3 hu rfl hi1) ?_
      try simp only [Act.put, List.setIfInBounds_toArray, List.set_cons_zero, List.set_cons_succ]
      refine wpAnyG_takeA 1 rfl (by kernel_rfl) (fun _ _ _ h => h) (fun _ => YieldsG.pure (by rfl) (fun w9 _ => by go_simp; try with_reducible rfl)) ?_
      try simp only [Act.put, List.setIfInBounds_toArray, List.set_cons_zero, List.set_cons_succ]
      refine wpAnyG_takeA 2 rfl (by kernel_rfl) (fun _ _ _ h => h) (fun _ => YieldsG.pure (by rfl) (fun w9 _ => by go_simp; try with_reducible rfl)) ?_
      try simp only [Act.put, List.setIfInBounds_toArray, List.set_cons_zero, List.set_cons_succ]
      refine wpAnyG_takeA 3 rfl (by kernel_rfl) (fun _ _ _ h => h) (fun _ => YieldsG.pure (by rfl) (fun w9 _ => by go_simp; try with_reducible rfl)) ?_
      try simp only [Act.put, List.setIfInBounds_toArray, List.set_cons_zero, List.set_cons_succ]
      refine wpAnyG_takeA 4 rfl (by kernel_rfl) (fun _ _ _ h => h) (fun _ => YieldsG.pure (by rfl) (fun w9 _ => by go_simp; try with_reducible rfl)) ?_
      try simp only [Act.put, List.setIfInBounds_toArray, List.set_cons_zero, List.set_cons_succ]
      refine wpAnyG_takeA 5 rfl (by kernel_rfl) (fun _ _ _ h => h) (fun _ => YieldsG.pure (by rfl) (fun w9 _ => by go_simp; try with_reducible rfl)) ?_
      try simp only [Act.put, List.setIfInBounds_toArray, List.set_cons_zero, List.set_cons_succ]
      refine wpAnyG_takeA 6 rfl (by kernel_rfl) (fun _ _ _ h => h) (fun _ => YieldsG.pure (by rfl) (fun w9 _ => by go_simp; try with_reducible rfl)) ?_
      try simp only [Act.put, List.setIfInBounds_toArray, List.set_cons_zero, List.set_cons_succ]
      refine wpAnyG_takeA 7 rfl (by kernel_rfl) (fun _ _ _ h => h) (fun _ => YieldsG.pure (by rfl) (fun w9 _ => by go_simp; try with_reducible rfl)) ?_
      try simp only [Act.put, List.setIfInBounds_toArray, List.set_cons_zero, List.set_cons_succ]
      refine wpAnyG_takeA 8 rfl (by kernel_rfl) (fun _ _ _ h => h) (fun _ => YieldsG.pure (by rfl) (fun w9 _ => by go_simp; try with_reducible rfl)) ?_
      try simp only [Act.put, List.setIfInBounds_toArray, List.set_cons_zero, List.set_cons_succ]
      refine wpAnyG_takeA 9 rfl (by kernel_rfl) (fun _ _ _ h => h) (fun _ => YieldsG.pure (by rfl) (fun w9 _ => by go_simp; try with_reducible rfl)) ?_
      try simp only [Act.put, List.setIfInBounds_toArray, List.set_cons_zero, List.set_cons_succ]
      refine wpAnyG_takeA 10 rfl (by kernel_rfl) (fun _ _ _ h => h) (fun _ => YieldsG.pure (by rfl) (fun w9 _ => by go_simp; try with_reducible rfl)) ?_
      try simp only [Act.put, List.setIfInBounds_toArray, List.set_cons_zero, List.set_cons_succ]
      refine wpAnyG_takeA 11 rfl (by kernel_rfl) (fun _ _ _ h => h) (fun _ => YieldsG.pure (by rfl) (fun w9 _ => by go_simp; try with_reducible rfl)) ?_
      try simp only [Act.put, List.setIfInBounds_toArray, List.set_cons_zero, List.set_cons_succ]
      refine wpAnyG_take 12 rfl (by kernel_rfl) (fun _ _ _ h => h) (YieldsG.call (v := .tuple #[.agg (F.1.map bv).toArray, .bool F.2]) (by rfl) 42 _ (fun w9 => by go_simp; try (first | with_reducible rfl | rfl)) (fun w9 h9 => HFF.out.1 ▸ ih w9 _ qs (i - k) (n - k) (m - 1) c (by omega) HS.out.2.1.symm (by omega) (by omega) (by omega) (HS.out.1.below (Below.gr hb3 h9)) (by omega) hcm (HC.out.below (Below.gr hb3 h9) htl))) ?_
      try simp only [Act.put, List.setIfInBounds_toArray, List.set_cons_zero, List.set_cons_succ]
      refine wpAnyG_takeA 13 rfl (by kernel_rfl) (fun _ _ _ h => h) (fun _ => YieldsG.pure (by rfl) (fun w9 _ => by go_simp; try with_reducible rfl)) ?_
      try simp only [Act.put, List.setIfInBounds_toArray, List.set_cons_zero, List.set_cons_succ]
      refine wpAnyG_takeA 14 rfl (by kernel_rfl) (fun _ _ _ h => h) (fun _ => YieldsG.pure (by rfl) (fun w9 _ => by go_simp; try with_reducible rfl)) ?_
      try simp only [Act.put, List.setIfInBounds_toArray, List.set_cons_zero, List.set_cons_succ]
      refine wpAnyG_takeA 15 rfl (by kernel_rfl) (fun _ _ _ h => h) (fun _ => YieldsG.pure (by rfl) (fun w9 _ => by go_simp; try with_reducible rfl)) ?_
      try simp only [Act.put, List.setIfInBounds_toArray, List.set_cons_zero, List.set_cons_succ]
      refine wpAnyG_sole 16 rfl (by kernel_rfl) (by rfl) (fun w5 h5 K hK => ?_)
      go_simp
      refine hK _ _ (fun _ => gr_alloc _ _) ?_
      clear hK K
      try simp only [Act.put, List.setIfInBounds_toArray, List.set_cons_zero, List.set_cons_succ]
      refine wpAnyG_store 17 rfl (by kernel_rfl) (by rfl) _ _ _ rfl w5.heap.size ((F.1.map bv).toArray) rfl rfl _ _ (Blk.new w5 _ _) (dig_info HFF.out.2) (by rw [dig_size HFF.out.2]; rfl) (dig_one _) rfl (fun w6 h6 w7 hB7 hL7 => ?_)
      try simp only [Act.put]
      refine wpAnyG_takeA 18 rfl (by kernel_rfl) (fun _ _ _ h => h) (fun _ => YieldsG.pure (by rfl) (fun w9 _ => by go_simp; try with_reducible rfl)) ?_
      try simp only [Act.put, List.setIfInBounds_toArray, List.set_cons_zero, List.set_cons_succ]
      refine wpAnyG_done (by kernel_rfl) (fun w8 h8 => ?_)
      clear m1 m4 m5
      have g38 : Gr w3 w8 := Below.trans (Below.trans (h5.trans ((gr_alloc _ _).trans h6)) (hB7 _ (Below.size h5))) (Below.mono h8 (Nat.le_trans (Below.size h5) (Nat.le_of_lt hL7.lt)))
      have hf8 := h8.blk hL7
      have hd8 := g38.blk hd3
      have hR8 := g38.blk hR3
      have hb8 := Below.gr hb3 g38
      go_wp2_with (first
        | (refine wpList_load_row rfl 24 (.tmp 14) rfl w5.heap.size rfl 24 _ (0, 0) _ hf8 Tryd.underlying24 rfl (dig_info HFF.out.2) ?_)
        | (refine wpList_load_row rfl 24 (.tmp 11) rfl (w.heap.size + 2) rfl 24 _ (0, 0) _ hd8 Tryd.underlying24 rfl (dig_info HS.out.2.2) ?_))
      refine (nodeR_any w8 last F.1 HS.out.2.2 HFF.out.2 (HC.out.below hb8 htl)).mono ?_
      rintro e w9 ⟨rfl, hb9⟩
      have hR9 := hR8.below hb9 hR8.lt
      have hbf := hb8.trans (hb9.mono hb8.size)
      unfold dv
      go_wp2_with (refine wpList_store_own rfl 24 (.tmp 8) (.tmp 75) rfl (w.heap.size + 1) _ rfl rfl 24 _ hR9 (dig_info (nodeS_length last F.1)) (by rw [dig_size (nodeS_length last F.1)]; rfl) (dig_one _) ?_
                   intro w10 hd10 hB10 _)
      exact bodyPost_ret (results_row_tmp rfl _ _ (w.heap.size + 1) 24 _ (0, 0) _ rfl hd10 Tryd.underlying24 rfl (dig_info (nodeS_length last F.1))) rfl ⟨by first | rfl | (rw [← HFF.out.1]; rfl) | (rw [HF.out.2 hik, ← HFF.out.1]; rfl), hbf.trans (hB10 _ (by omega))⟩
end Go.Proofs.YtbjfkfajhmcefaaDoor
