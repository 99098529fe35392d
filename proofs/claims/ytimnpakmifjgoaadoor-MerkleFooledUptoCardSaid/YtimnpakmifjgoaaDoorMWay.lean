/-
  What Clash finds, said by the ways; a list's own path leads from its leaf to its root.
-/
import Derived.Test.YtimnpakmifjgoaaDoorOrd
import Derived.Test.YtimnpakmifjgoaaDoorMCheck
import Derived.RangeFuncNested
import Derived.RangeFuncBound
import Derived.RangeFuncCalls
import Derived.RangeFuncLeaves
import Derived.Shelf.Abstract
import Derived.Shelf.RegionOpen
import Derived.WalkKit
import Derived.OwnWalkIn
import Derived.TacticsInMore
import Derived.LoopNIn
import Derived.LoopIn
import Derived.OrdersIn
import Derived.TacticsIn
import Derived.ControlIn
import Derived.Test.YtimnpakmifjgoaaDoorMClimb2
import Derived.Test.YtimnpakmifjgoaaDoorTag
import Derived.Test.YtimnpakmifjgoaaDoorMem3
import Derived.Lib.AppendZeros

/-
  slices.Grow of none, slices.Concat of some texts: one text, the call's own.
-/
namespace Go.Proofs.YtimnpakmifjgoaaDoor
open Go.RowKit Sp

set_option maxHeartbeats 2000000 in
set_option maxRecDepth 100000 in
theorem grow_nil (w : World) (n : Nat) (h0 : 0 < n) (hn : n ≤ 1000000) :
    Calls Tryd.prog 65 #[.slice none 0 0, .int .i64 n] w fun e w' => ∃ v, e = .returned v ∧ OwnB w' w.heap.size v [] ∧ Below w.heap.size w w' := by
  obtain ⟨i, hi, hz0, hz1, hz2⟩ := info_parts infoByte
  have q0 : (0 : Int) < (n : Int) := by omega
  have q1 : (n : Int) ≤ 1000000 := by omega
  have hrun : ∀ ty, (Builtin.append_ #[22, 3] ty #[.slice none 0 0, .int .i64 n]).run Tryd.prog w = _ := fun ty =>
    Lib.run_append_nil_zeros w 22 3 ty 5 i (.int .u8 0) .i64 .i64 Tryd.underlying22 Tryd.underlying3 hi hz0 n h0 (by omega) (by omega) (by rw [hz2]; omega)
  have HI := Lib.hid hrun
  clear hrun hi hz0 hz1 hz2
  have hcap := grownCap_ge w n 0 5
  have hcap2 : grownCap w n 0 5 ≤ 9223372036854775807 := by have := grownCap_le_maxLen w n 0 5 (by simp [maxLen]; omega); simpa [maxLen] using this
  obtain ⟨c, hc⟩ : ∃ c, c = grownCap w n 0 5 := ⟨_, rfl⟩
  rw [← hc] at hcap hcap2
  have HCc := Lib.hid hc
  clear hc
  go_enter Tryd.func65, Tryd.ntmps65
  go_wp2_with (at_builtin; refine Lib.wpList_append_run _ rfl _ _ _ _ rfl _ _ rfl rfl _ _ (HI.out _) ?_)
  rw [← HCc.out]
  go_wp2
  go_ret
  refine ⟨_, rfl, ?_, ?_⟩
  · have h := World.ownsRow_made (base := w.heap.size) (e := 5) (size := 1) w.drew (Builtin.zeroCells (Value.int .u8 0).cells n ++ Builtin.zeroCells (Value.int .u8 0).cells (c - n)) c (by simp) (by simpa [maxLen] using hcap2) (by simp [size_zeroCells, Value.cells]; omega)
    exact h
  · exact ((Below.refl _ _).drew).alloc (Nat.le_refl _) _

set_option maxHeartbeats 4000000 in
set_option maxRecDepth 100000 in
theorem concat_any (w : World) (T : Option Addr) (ts : List Tx) (ct : Nat) (hT : Texts w T ts) (h0 : 0 < (cat ts).length) (hm : (cat ts).length ≤ 1000000) (hn : ts.length ≤ 1000000) :
    Calls Tryd.prog 62 #[.slice T ts.length ct] w fun e w' => ∃ v, e = .returned v ∧ OwnB w' w.heap.size v (cat ts) ∧ Below w.heap.size w w' := by
  have HT := Lib.hid hT
  clear hT
  obtain ⟨M, hM⟩ : ∃ M, M = (cat ts).length := ⟨_, rfl⟩
  rw [← hM] at h0 hm
  have HM := Lib.hid hM
  clear hM
  have q0 : (0 : Int) < (M : Int) := by omega
  have q1 : (M : Int) ≤ 1000000 := by omega
  go_enter Tryd.func62, Tryd.ntmps62
  go_wp2
  go_loopw [3, 11] (fun s i wr => ∃ k z : Nat, k ≤ ts.length ∧ i = .int .i64 k ∧ s = .int .i64 z ∧ z = (cat (ts.take k)).length ∧ wr = w)
    (fun _ i _ => ts.length - (intOf i).toNat)
  case atStart => exact ⟨0, 0, Nat.zero_le _, rfl, rfl, rfl, rfl⟩
  case round =>
    obtain ⟨k, z, hk, rfl, rfl, hz, hw⟩ := hrel
    have hw' := hw.symm
    clear hw
    subst hw'
    have hzM : z ≤ M := by rw [hz, HM.out]; exact cat_le ts k
    have HZ := Lib.hid hz
    clear hz
    by_cases hlt : k < ts.length
    · obtain ⟨x, hx⟩ : ∃ x, ts[k]? = some x := ⟨ts[k], List.getElem?_eq_getElem hlt⟩
      obtain ⟨b, o, rfl, hbl, htx⟩ := HT.out (fun e => by rw [e] at hlt; exact absurd hlt (Nat.not_lt_zero _))
      have hc : w.cell? ⟨b, o + k, none⟩ = some (.slice x.A x.l.length x.c) := (htx k x hx).1
      obtain ⟨L, hL⟩ : ∃ L, L = x.l.length := ⟨_, rfl⟩
      rw [← hL] at hc
      have hlx : z + L ≤ M := by rw [HZ.out, HM.out, hL]; exact cat_next ts k x hx
      have q2 : (0 : Int) ≤ (z : Int) := by omega
      have q3 : (0 : Int) ≤ (L : Int) := by omega
      have q4 : (z : Int) + (L : Int) ≤ 1000000 := by omega
      have HX := Lib.hid (And.intro hx hL)
      clear hx htx hL
      go_wp2
      go_roundw
      case rel => exact ⟨k + 1, z + L, by omega, by go_num, by go_num, by rw [cat_step ts k x HX.out.1, List.length_append, ← HZ.out, ← HX.out.2], by first | trivial | rfl⟩
      case measure => simp [intOf]; omega
    · obtain rfl : k = ts.length := by omega
      obtain rfl : z = M := by rw [HZ.out, HM.out, List.take_length]
      clear hlt
      go_wp2_with fail
      refine (grow_nil w z (by omega) hm).mono ?_
      rintro e w1 ⟨v, rfl, hown, hb⟩
      go_wp2
      go_loopw [6, 27] (fun v i wq => ∃ (k : Nat) (v0 : Value), k ≤ ts.length ∧ v0 = v ∧ i = .int .i64 k ∧ OwnB wq w.heap.size v0 (cat (ts.take k)) ∧ Below w.heap.size w wq)
        (fun _ i _ => ts.length - (intOf i).toNat)
      case atStart => exact ⟨0, _, Nat.zero_le _, rfl, rfl, hown, hb⟩
      case round =>
        clear hown hb
        obtain ⟨k, v0, hk, rfl, rfl, hown, hb⟩ := hrel
        by_cases hlt : k < ts.length
        · obtain ⟨x, hx⟩ : ∃ x, ts[k]? = some x := ⟨ts[k], List.getElem?_eq_getElem hlt⟩
          obtain ⟨b, o, rfl, hbl, htx⟩ := HT.out (fun e => by rw [e] at hlt; exact absurd hlt (Nat.not_lt_zero _))
          have hc : wr.cell? ⟨b, o + k, none⟩ = some (.slice x.A x.l.length x.c) := (hb.cell (p := ⟨b, o + k, none⟩) hbl).trans (htx k x hx).1
          have hok := (htx k x hx).2.below hb
          have hlx := cat_next ts k x hx
          have HX := Lib.hid (And.intro hx (And.intro hok hlx))
          clear hx htx hok hlx
          go_wp2_with (at_builtin
                       refine wpList_append_bytes rfl (.tmp 31) (.tmp 32) rfl w.heap.size v0 (cat (ts.take k)) rfl hown x.A x.l x.c rfl HX.out.2.1.1 (by have := HX.out.2.2; have := HM.out; omega) hb.size ?_
                       intro v7 w7 hv7 hg7
                       have hb7 := below_own hb hown hg7 (Nat.le_refl _) hb.size)
          go_roundw
          case rel => exact ⟨k + 1, v7, by omega, rfl, by go_num, by rw [cat_step ts k x HX.out.1]; exact hv7, hb7⟩
          case measure => simp [intOf]; omega
        · obtain rfl : k = ts.length := by omega
          rw [List.take_length] at hown
          go_wp2
          go_ret
          exact ⟨_, rfl, hown, hb⟩
end Go.Proofs.YtimnpakmifjgoaaDoor

/-
  What was walked by the plain calculus holds in a round of a range over a function. No function of the program stands here.
-/
namespace Go.Proofs.YtimnpakmifjgoaaDoor
open Go.RowKit

section
variable {P : Program} {ops : Array Oper} {Q : Exit → Act → World → Prop} {md : Region.Mode} {l n : Nat}
theorem rowsIn_of {row : String} {args : Array Value} {w : World} {R : Value → World → Prop} (h : Rows P row args w R) : RowsIn (Fence.wide.inRound l) n P row args w R :=
  fun c cs _ => let ⟨v, w', r, s⟩ := h c cs; ⟨v, w', r, stepsIn_wide.2 s⟩
theorem callsIn_of {f : FuncId} {args : Array Value} {w : World} {R : Ending → World → Prop} (h : Calls P f args w R) : CallsIn (Fence.wide.inRound l) n P f args w R := CallsIn.inRound l (callsIn_wide.2 h)
theorem operIn_of {o : Oper} {a : Act} {w : World} {K : Act → World → Prop} (hd : ∀ c, o.op ≠ .defer c) (h : o.wp P a w K Q) : o.wpIn (Fence.wide.inRound l) n P a w K Q := by
  unfold Oper.wpIn
  refine ⟨fun _ _ => trivial, ?_⟩
  rw [Oper.semAt_eq _ _ _ hd]
  unfold Oper.wp at h
  generalize (execOp a.eval o).run P w = r at *
  cases r with
  | ok x w' =>
    cases x <;> simp only [Oper.upon, Oper.uponIn] at h ⊢ <;> first
      | exact h
      | exact ⟨fun e => by simp [Fence.wide] at e, callsIn_of h⟩
      | exact ⟨fun e => by simp [Fence.wide] at e, rowsIn_of h⟩
      | exact h.elim
  | halt x w' => cases x <;> simp only [Oper.upon, Oper.uponIn] at h ⊢ <;> exact h
/-- no defer statement -/
def noDefer (ops : Array Oper) : Bool := ops.all fun o => match o.op with | .defer _ => false | _ => true
theorem noDefer_spec (h : noDefer ops = true) {i : Nat} {o : Oper} (hi : ops[i]? = some o) : ∀ c, o.op ≠ .defer c := fun c e => by
  unfold noDefer at h
  rw [Array.all_eq_true'] at h
  have := h o (Array.mem_of_getElem? hi)
  rw [e] at this
  cases this
theorem wpOpIn_of (hq : ¬ LetsOut Q) (hd : noDefer ops = true) {i : Nat} {K : Act → World → Prop} {a : Act} {w : World} (h : wpOp P ops Q i K a w) : wpOpIn (Fence.wide.inRound l) n P ops Q i K a w := by
  unfold wpOp at h
  unfold wpOpIn
  cases hi : ops[i]? with
  | none => simpa [hi] using h
  | some o =>
    simp only [hi] at h ⊢
    split
    · rename_i hw
      simp only [hw, if_true] at h
      rcases h with h | h
      · exact operIn_of (noDefer_spec hd hi) h
      · exact absurd h.2 hq
    · rename_i hw
      simp only [hw] at h
      exact ⟨fun _ _ => trivial, h⟩
theorem wpAnyIn_of (hq : ¬ LetsOut Q) (hd : noDefer ops = true) : ∀ (fuel : Nat) (listed : Array Bool) (a : Act) (w : World), wpAny P md ops Q fuel listed a w → wpAnyIn (Fence.wide.inRound l) n P md ops Q fuel listed a w
  | 0, _, _, _, h => h
  | fuel + 1, _, _, _, h => ⟨h.1, fun i hi => wpOpIn_mono (fun a w h' => wpAnyIn_of hq hd fuel _ a w h') (wpOpIn_of hq hd (h.2 i hi))⟩
/-- a region that draws its order, in a round -/
theorem round_region_G (ex : Nat → Bool) {id : Nat} {a : Act} {w : World} (hm : P.follows .mixedOrders = true) (hq : ¬ LetsOut Q) (hd : noDefer ops = true) (h : wpAnyG P .any ops Q ex ops.size (Array.replicate ops.size false) a w) : (Code.region id ops true).wpIn (Fence.wide.inRound l) n P Q a w :=
  wpIn_region_any hm (wpAnyIn_of hq hd _ _ _ _ (wpAny_of_G _ _ _ _ (wpAnyG_grow _ _ _ w _ ((Below.refl _ _).drew) h)))
theorem listIn_of (hq : ¬ LetsOut Q) : ∀ (rest : List Oper), (∀ o ∈ rest, ∀ c, o.op ≠ .defer c) → ∀ (a : Act) (w : World), wpList P ops Q rest a w → wpListIn (Fence.wide.inRound l) n P ops Q rest a w
  | [], _, _, _, h => h
  | o :: rest, hd, a, w, h => by
    unfold wpList at h
    unfold wpListIn
    split
    · rename_i hw
      simp only [hw, if_true] at h
      rcases h with h | h
      · exact Oper.wpIn_mono (fun a w h' => listIn_of hq rest (fun o ho => hd o (by simp [ho])) a w h') (operIn_of (hd o (by simp)) h)
      · exact absurd h.2 hq
    · rename_i hw
      simp only [hw] at h
      exact ⟨fun _ _ => trivial, listIn_of hq rest (fun o ho => hd o (by simp [ho])) _ _ h⟩
/-- .. and one in the text's order -/
theorem round_region_L {id : Nat} {a : Act} {w : World} (hq : ¬ LetsOut Q) (hd : noDefer ops = true) (h : wpList P ops Q ops.toList a w) : (Code.region id ops false).wpIn (Fence.wide.inRound l) n P Q a w :=
  wpIn_region_list (listIn_of hq _ (fun o ho => by
    obtain ⟨i, hi⟩ := List.mem_iff_getElem?.1 ho
    exact noDefer_spec hd (by simpa using hi)) _ _ h)
end
end Go.Proofs.YtimnpakmifjgoaaDoor

/-
  nodeText: the text of which Tagged takes the digest for a Node.
-/
namespace Go.Proofs.YtimnpakmifjgoaaDoor
open Go.RowKit Sp

def tagN : List UInt8 := sum nodeNm.data.toList
def textS (p : List UInt8 × List UInt8) : List UInt8 := tagN ++ (tagN ++ (p.1 ++ p.2))
theorem tagN_length : tagN.length = 32 := sum_length _
theorem textS_sum (p : List UInt8 × List UInt8) : sum (textS p) = nodeS p.1 p.2 := by
  unfold textS nodeS taggedS tagN
  rw [List.append_assoc]
theorem textS_length {p : List UInt8 × List UInt8} (h : p.1.length = 32 ∧ p.2.length = 32) : (textS p).length = 128 := by
  simp only [textS, List.length_append, tagN_length, h.1, h.2]
theorem textS_inj {p q : List UInt8 × List UInt8} (h : p.1.length = 32 ∧ p.2.length = 32) (k : q.1.length = 32 ∧ q.2.length = 32) (e : textS p = textS q) : p = q := by
  unfold textS at e
  have e1 := List.append_cancel_left (List.append_cancel_left e)
  have e2 := List.append_inj e1 (by rw [h.1, k.1])
  exact Prod.ext e2.1 e2.2

theorem slice_at (x o : Nat) (W : World) :
    (Instr.sliceAt 24 (.pointer (some ⟨x, o, none⟩)) none none none).run Tryd.prog W = .ok (.slice (some ⟨x, o, none⟩) 32 32) W := by
  have hal : Tryd.prog.arrayLen 24 = 32 := by kernel_rfl
  have hu : Tryd.prog.underlying 24 = some (.array (Tryd.prog.arrayLen 24) (Tryd.prog.elem 24)) := by kernel_rfl
  have hs : ∀ W, (sizeOf (Tryd.prog.elem 24)).run Tryd.prog W = .ok 1 W := fun W => by kernel_rfl
  rw [run_sliceAt_array_all W 24 ⟨x, o, none⟩ hu, hs, hal]
  simp [slicedAt, addr_add]
theorem Src.of_range {w : World} {g o : Nat} {m : List UInt8} (hg : g < w.heap.size) (h : w.rangeAt g o (m.map bv)) : Src w (some ⟨g, o, none⟩) m := fun _ =>
  ⟨g, o, rfl, hg, fun j u hu => h j (bv u) (by simp [hu])⟩
theorem cat_four (a b c d : Tx) : cat [a, b, c, d] = a.l ++ (b.l ++ (c.l ++ d.l)) := by simp [cat]

set_option maxHeartbeats 2000000 in
set_option maxRecDepth 100000 in
theorem nodeText_any (w : World) (l r : List UInt8) (hl : l.length = 32) (hr : r.length = 32) (ht : TabAt w 1) :
    Calls Tryd.prog 55 #[.agg (pcells (l, r)).toArray] w fun e w' => ∃ v, e = .returned v ∧ OwnB w' w.heap.size v (textS (l, r)) ∧ Below w.heap.size w w' := by
  have HC := Lib.hid ht
  have htl := ht.lt
  have HL := Lib.hid (And.intro hl hr)
  have hsl := slice_at
  have kc : ∀ (C : Array Value) (n c : Nat), (convert 22 22 (.slice (some ⟨w.heap.size + 1, 0, none⟩) n c)).run Tryd.prog ((w.alloc (.cells (pcells (l, r)).toArray 86)).alloc (.cells C 5)) = .ok (.slice (some ⟨w.heap.size + 1, 0, none⟩) n c) ((w.alloc (.cells (pcells (l, r)).toArray 86)).alloc (.cells C 5 (C.size, C.size + 1))) := fun C n c => by
    have h := Lib.run_convert_bytes_const (P := Tryd.prog) (w.alloc (.cells (pcells (l, r)).toArray 86)) 22 5 C n c Tryd.underlying22 Tryd.underlying5
    rwa [World.size_alloc] at h
  have hP := Blk.new w 86 (pcells (l, r)).toArray
  have hb0 : Below w.heap.size w (w.alloc (.cells (pcells (l, r)).toArray 86)) := (Below.refl _ _).alloc (Nat.le_refl _) _
  clear ht hl hr
  go_enter Tryd.func55, Tryd.ntmps55
  go_wp2_with fail
  refine (of_any _ (some ⟨w.heap.size + 1, 0, none⟩) nodeNm.data.toList 14 (Src.of_row (fr := (14, 15)) (t := 5) (by have h := heap_alloc_new (w.alloc (.cells (pcells (l, r)).toArray 86)) (.cells (nodeNm.data.toList.map bv).toArray 5 (14, 15)); rw [World.size_alloc] at h; exact h)) (HC.out.below (hb0.alloc (by simp) _) htl) (by decide) (by omega) (by decide)).mono ?_
  rintro e w1 ⟨rfl, hb1⟩
  have hP1 := (hP.alloc _).below hb1 (by simp; omega)
  have hb := (hb0.alloc (by simp) _).trans (hb1.mono (by simp; omega))
  clear hP hb1
  have HT := Lib.hid (show sum nodeNm.data.toList = tagN from rfl)
  rw [HT.out]
  unfold dv
  go_wp2_with (refine wpList_store_new rfl 24 (.tmp 3) (.tmp 6) rfl _ _ _ rfl rfl (dig_info tagN_length) (by rw [dig_size tagN_length]; rfl) (dig_one _) ?_
               intro w2 hd2 hb2 hz2
               have hP2 := hP1.below hb2 hP1.lt
               have hb := hb.trans (hb2.mono hb.size)
               clear hP1 hb2)
  try simp only [Act.put]
  refine wp_region_G (fun _ => false) (by kernel_rfl) ?_
  refine wpAnyG_take 0 rfl (by kernel_rfl) (fun _ _ _ h => h) (YieldsG.pure (by rfl) (fun w9 _ => by go_simp; try with_reducible rfl)) ?_
  try simp only [Act.put, List.setIfInBounds_toArray, List.set_cons_zero, List.set_cons_succ]
  refine wpAnyG_take 1 rfl (by kernel_rfl) (fun _ _ _ h => h) (YieldsG.pure (by rfl) (fun w9 _ => by go_simp; try with_reducible rfl)) ?_
  try simp only [Act.put, List.setIfInBounds_toArray, List.set_cons_zero, List.set_cons_succ]
  refine wpAnyG_take 2 rfl (by kernel_rfl) (fun _ _ _ h => h) (YieldsG.pure (by rfl) (fun w9 _ => by go_simp; try with_reducible rfl)) ?_
  try simp only [Act.put, List.setIfInBounds_toArray, List.set_cons_zero, List.set_cons_succ]
  refine wpAnyG_take 3 rfl (by kernel_rfl) (fun _ _ _ h => h) (YieldsG.pure (by rfl) (fun w9 _ => by go_simp; try with_reducible rfl)) ?_
  try simp only [Act.put, List.setIfInBounds_toArray, List.set_cons_zero, List.set_cons_succ]
  refine wpAnyG_take 4 rfl (by kernel_rfl) (fun _ _ _ h => h) (YieldsG.pure (by rfl) (fun w9 _ => by go_simp; try with_reducible rfl)) ?_
  try simp only [Act.put, List.setIfInBounds_toArray, List.set_cons_zero, List.set_cons_succ]
  refine wpAnyG_take 5 rfl (by kernel_rfl) (fun _ _ _ h => h) (YieldsG.pure (by rfl) (fun w9 _ => by go_simp; try with_reducible rfl)) ?_
  try simp only [Act.put, List.setIfInBounds_toArray, List.set_cons_zero, List.set_cons_succ]
  refine wpAnyG_sole 6 rfl (by kernel_rfl) (by rfl) (fun w3 h3 K hK => ?_)
  go_simp
  refine hK _ _ (fun _ => gr_alloc _ _) ?_
  clear hK K
  try simp only [Act.put, List.setIfInBounds_toArray, List.set_cons_zero, List.set_cons_succ]
  have hd3 : Blk w3 w1.heap.size 24 (tagN.map bv).toArray := h3.blk hd2
  have hP3 := h3.blk hP2
  have hb3 := Below.gr hb h3
  have hrg := pair_ranges hP3 HL.out.1
  have hx1 : (Tx.mk (some ⟨w1.heap.size, 0, none⟩) tagN 32).ok w3 := ⟨Src.of_blk hd3, by show tagN.length ≤ 32; rw [tagN_length]; exact Nat.le_refl _, by show (32 : Nat) ≤ _; omega⟩
  have hx2 : (Tx.mk (some ⟨w.heap.size, 0, none⟩) l 32).ok w3 := ⟨Src.of_range hP3.lt hrg.1, by show l.length ≤ 32; rw [HL.out.1]; exact Nat.le_refl _, by show (32 : Nat) ≤ _; omega⟩
  have hx3 : (Tx.mk (some ⟨w.heap.size, 32, none⟩) r 32).ok w3 := ⟨Src.of_range hP3.lt hrg.2, by show r.length ≤ 32; rw [HL.out.2]; exact Nat.le_refl _, by show (32 : Nat) ≤ _; omega⟩
  have hT := texts_list (W := w3) _ rfl [Tx.mk (some ⟨w1.heap.size, 0, none⟩) tagN 32, Tx.mk (some ⟨w1.heap.size, 0, none⟩) tagN 32, Tx.mk (some ⟨w.heap.size, 0, none⟩) l 32, Tx.mk (some ⟨w.heap.size, 32, none⟩) r 32] 22 #[.slice (some ⟨w1.heap.size, 0, none⟩) 32 32, .slice (some ⟨w1.heap.size, 0, none⟩) 32 32, .slice (some ⟨w.heap.size, 0, none⟩) 32 32, .slice (some ⟨w.heap.size, 32, none⟩) 32 32]
    (by simp only [Tx.val, List.map_cons, List.map_nil, tagN_length, HL.out.1, HL.out.2]) (fun x hx => by simp at hx; rcases hx with rfl | rfl | rfl | rfl <;> assumption)
  have HX := Lib.hid hT
  clear hx1 hx2 hx3 hT hrg
  refine wpAnyG_sole 7 rfl (by kernel_rfl) (by rfl) (fun w4 h4 K hK => ?_)
  go_simp
  refine (concat_any w4 _ [Tx.mk (some ⟨w1.heap.size, 0, none⟩) tagN 32, Tx.mk (some ⟨w1.heap.size, 0, none⟩) tagN 32, Tx.mk (some ⟨w.heap.size, 0, none⟩) l 32, Tx.mk (some ⟨w.heap.size, 32, none⟩) r 32] 4 (HX.out.below h4) (by rw [cat_four]; simp only [List.length_append, tagN_length]; omega) (by rw [cat_four]; simp only [List.length_append, tagN_length, HL.out.1, HL.out.2]; omega) (by simp)).mono ?_
  rintro e w5 ⟨v, rfl, hv, hb5⟩
  refine hK _ _ (fun _ => hb5) ?_
  clear hK K
  try simp only [Act.put, List.setIfInBounds_toArray, List.set_cons_zero, List.set_cons_succ]
  have hbb : Below w.heap.size w w5 := Below.gr (Below.gr (Below.gr hb3 (gr_alloc _ _)) h4) hb5
  have hsz : w.heap.size ≤ w4.heap.size := (Below.gr (Below.gr hb3 (gr_alloc _ _)) h4).size
  rw [cat_four] at hv
  refine wpAnyG_sole 8 rfl (by kernel_rfl) (by rfl) (fun w6 h6 K hK => ?_)
  go_simp
  refine hK _ _ (fun _ => Below.refl _ _) ?_
  clear hK K
  try simp only [Act.put]
  refine wpAnyG_done (by kernel_rfl) (fun w7 h7 => ?_)
  go_wp2
  go_ret
  exact ⟨_, rfl, OwnB.le (OwnB.below (OwnB.below hv h6) h7) hsz, Below.gr (Below.gr hbb h6) h7⟩
end Go.Proofs.YtimnpakmifjgoaaDoor

/-
  slices.Backward over a row of pairs: what its iterator hands on.
-/
namespace Go.Proofs.YtimnpakmifjgoaaDoor
open Go.RowKit Go.Shelf Sp

attribute [local go_sem] Oper.semAt_some

section
variable {P : Program} {ops : Array Oper} {Q : Exit → Act → World → Prop} {n : Nat}
theorem operIn_of_wide {o : Oper} {a : Act} {w : World} {K : Act → World → Prop} (hd : ∀ c, o.op ≠ .defer c) (h : o.wp P a w K Q) : o.wpIn Fence.wide n P a w K Q := by
  unfold Oper.wpIn
  refine ⟨fun _ _ => trivial, ?_⟩
  rw [Oper.semAt_plain _ _ _ hd]
  unfold Oper.wp at h
  generalize (execOp a.eval o).run P w = r at *
  cases r with
  | ok x w' =>
    cases x <;> simp only [Oper.upon, Oper.uponIn] at h ⊢ <;> first
      | exact h
      | exact ⟨fun e => by simp [Fence.wide] at e, callsIn_wide.2 h⟩
      | exact ⟨fun e => by simp [Fence.wide] at e, fun c cs _ => let ⟨v, w', r, s⟩ := h c cs; ⟨v, w', r, stepsIn_wide.2 s⟩⟩
      | exact h.elim
  | halt x w' => cases x <;> simp only [Oper.upon, Oper.uponIn] at h ⊢ <;> exact h
theorem wideIn_load_mid {rest : List Oper} {op : Oper} {a : Act} {w : World} (hgd : op.guard = none) (ty : TypeId) (x : Operand) (ho : op.op = .load ty x)
    (b o : Nat) (hx : a.eval x = .pointer (some ⟨b, o, none⟩)) (cs : List Value) (d : TypeDesc) (hc : w.rangeAt b o cs)
    (hu : P.underlying ty = some d) (hd : d.isRow = true) (hi : (P.info? ty).map (·.size) = some cs.length)
    (h : wpListIn Fence.wide n P ops Q rest (a.put op.dst (.agg cs.toArray)) w) : wpListIn Fence.wide n P ops Q (op :: rest) a w :=
  wpListIn_plain hgd fun _ hK => operIn_of_wide (by rw [ho]; intro c e; cases e) (wp_load_mid ty x ho b o hx cs d hc hu hd hi (hK _ _ h))
end

/-- m - 1, m - 2, ..: k of them -/
def desc (m k : Nat) : List Nat := (List.range k).map (fun j => m - 1 - j)
theorem desc_succ (m k : Nat) : desc m (k + 1) = desc m k ++ [m - 1 - k] := by simp [desc, List.range_succ]
theorem desc_length (m k : Nat) : (desc m k).length = k := by simp [desc]
theorem mem_desc {m k i : Nat} (hk : k ≤ m) : i ∈ desc m k ↔ m - k ≤ i ∧ i < m := by
  simp only [desc, List.mem_map, List.mem_range]
  constructor
  · rintro ⟨j, hj, rfl⟩; omega
  · rintro ⟨h1, h2⟩; exact ⟨m - 1 - i, by omega, by omega⟩

abbrev Pair := List UInt8 × List UInt8
def All64 (ps : List Pair) : Prop := ∀ p ∈ ps, p.1.length = 32 ∧ p.2.length = 32
theorem pair_info' {p : Pair} (h : p.1.length = 32 ∧ p.2.length = 32) : (Tryd.prog.info? 86).map (·.size) = some (pcells p).length := by rw [pcells_length h]; kernel_rfl
def pairAt (ps : List Pair) (j : Nat) : Pair := ps.getD j ([], [])
theorem pairAt_some {ps : List Pair} {j : Nat} (h : j < ps.length) : ps[j]? = some (pairAt ps j) := by simp [pairAt, h]
def backEnc (ps : List Pair) {m : Nat} (x : Fin m) : Array Value := #[.int .i64 (x.1 : Int), .agg (pcells (pairAt ps x.1)).toArray]

set_option maxRecDepth 100000 in
set_option maxHeartbeats 2000000 in
theorem back1_in (n : Nat) (hn : 1 ≤ n) (l Bs n₀ b off m cap : Nat) (ps : List Pair) (hps : m = ps.length) (h64 : All64 ps) (hm64 : m ≤ 1000000) (hb : b < n₀) (hBn : Bs < n₀) (J Jx : List (Fin m) → World → Prop)
    (hY : ∀ pre x W, J pre W → pre.length < m → YieldAt Fence.wide (n - 1) Tryd.prog l (backEnc ps x) W fun e W' =>
      (e = .returned (.bool true) ∧ J (pre ++ [x]) W' ∧ Below n₀ W W') ∨ (e = .returned (.bool false) ∧ Jx (pre ++ [x]) W'))
    (W : World) (hBs : W.cell? ⟨Bs, 0, none⟩ = some (.slice (some ⟨b, off, none⟩) m cap)) (hc : ∀ j, j < m → W.rangeAt b (off + j * 64) (pcells (pairAt ps j))) (h0 : J [] W) :
    CallsIn Fence.wide n Tryd.prog 61 #[.func (.yield l) #[] #[], .pointer (some ⟨Bs, 0, none⟩)] W fun e W' => (∃ v, e = .returned v) ∧
      ((∃ ys : List (Fin m), ys.map (·.1) = desc m m ∧ J ys W') ∨ (∃ pre : List (Fin m), (∃ k, k ≤ m ∧ pre.map (·.1) = desc m k) ∧ Jx pre W')) := by
  have HC := Lib.hid hc
  have H64 := Lib.hid h64
  clear hc h64
  have q0 : (0 : Int) ≤ (m : Int) := by omega
  have q1 : (m : Int) ≤ 1000000 := by omega
  refine callsIn_of_wp Tryd.func61 rfl trivial ?_ rfl
  simp only [Tryd.ntmps61, List.size_toArray, List.length_cons, List.length_nil, Nat.reduceAdd, Nat.reduceSub, Array.replicate_succ, Array.replicate_zero, List.push_toArray, List.append_toArray, List.nil_append, List.cons_append]
  gi_wp2
  gi_loopw [3] (fun i wr => ∃ (k : Nat) (z : Int) (pre : List (Fin m)), k ≤ m ∧ z = (m : Int) - 1 - k ∧ i = .int .i64 z ∧ pre.map (·.1) = desc m k ∧ J pre wr ∧ Below n₀ W wr)
    (fun i _ => (intOf i + 1).toNat)
  case atStart => exact ⟨0, _, [], Nat.zero_le _, rfl, by go_num, rfl, h0, Below.refl _ _⟩
  case round =>
    obtain ⟨k, z, pre, hk, hz, rfl, hpre, hJs, hnx⟩ := hrel
    have hBs' := (hnx.cell (p := ⟨Bs, 0, none⟩) hBn).trans hBs
    have hlen : pre.length = k := by have := congrArg List.length hpre; rwa [List.length_map, desc_length] at this
    by_cases hlt : k < m
    · obtain ⟨q, hq⟩ : ∃ q, q = m - 1 - k := ⟨_, rfl⟩
      have hqm : q < m := by omega
      obtain rfl : z = (q : Int) := by omega
      have hcx : wr.rangeAt b (off + q * 64) (pcells (pairAt ps q)) := fun j v hj => (hnx.cell (p := ⟨b, off + q * 64 + j, none⟩) hb).trans (HC.out q hqm j v hj)
      have hp64 := H64.out (pairAt ps q) (List.mem_of_getElem? (pairAt_some (by omega)))
      obtain ⟨p, hp⟩ : ∃ p, p = pairAt ps q := ⟨_, rfl⟩
      obtain ⟨fn, tmps, assign, body, hy, hR⟩ := hY pre ⟨q, hqm⟩ wr hJs (by rw [hlen]; exact hlt)
      unfold backEnc at hy
      dsimp only at hy
      rw [← hp] at hcx hp64 hy
      have HX := Lib.hid (And.intro hcx hp64)
      have HZ := Lib.hid (And.intro hz (And.intro hq hpre))
      clear hcx hp64 hp hz hq hpre
      have k1 : (0 : Int) ≤ (q : Int) := by omega
      have k2 : (q : Int) < (m : Int) := by omega
      gi_wp2_with (refine wideIn_load_mid rfl 86 (.tmp 15) rfl b (off + q * 64) rfl (pcells p) _ HX.out.1 Tryd.underlying86 rfl (pair_info' HX.out.2) ?_)
      refine hR.mono ?_
      rintro e W3 (⟨rfl, hJ3, hk3⟩ | ⟨rfl, hJx3⟩)
      · gi_wp2
        go_roundw
        case rel => exact ⟨k + 1, (q : Int) - 1, pre ++ [⟨q, hqm⟩], by omega, by have := HZ.out.2.1; omega, by go_num, by rw [List.map_append, HZ.out.2.2, desc_succ, ← HZ.out.2.1]; rfl, hJ3, hnx.trans hk3⟩
        case measure => first | omega | (simp [intOf]; done) | (simp [intOf]; omega)
      · gi_wp2
        refine bodyPost_ret (results_none rfl _ _ _) rfl ?_
        exact ⟨⟨_, rfl⟩, .inr ⟨_, ⟨k + 1, by omega, by rw [List.map_append, HZ.out.2.2, desc_succ, ← HZ.out.2.1]; rfl⟩, hJx3⟩⟩
    · obtain rfl : k = m := by omega
      obtain rfl : z = -1 := by omega
      gi_wp2
      go_end0
      exact ⟨⟨_, rfl⟩, .inl ⟨_, hpre, hJs⟩⟩

set_option maxRecDepth 100000 in
set_option maxHeartbeats 1000000 in
theorem back1_nil_in (n : Nat) (l Bs cap : Nat) (A : Option Addr) (J : List (Fin 0) → World → Prop) (W : World) (hBs : W.cell? ⟨Bs, 0, none⟩ = some (.slice A 0 cap)) (h0 : J [] W) :
    CallsIn Fence.wide n Tryd.prog 61 #[.func (.yield l) #[] #[], .pointer (some ⟨Bs, 0, none⟩)] W fun e W' => (∃ v, e = .returned v) ∧ J [] W' := by
  refine callsIn_of_wp Tryd.func61 rfl trivial ?_ rfl
  simp only [Tryd.ntmps61, List.size_toArray, List.length_cons, List.length_nil, Nat.reduceAdd, Nat.reduceSub, Array.replicate_succ, Array.replicate_zero, List.push_toArray, List.append_toArray, List.nil_append, List.cons_append]
  gi_wp2
  gi_loopw [3] (fun i wr => i = .int .i64 (-1) ∧ J [] wr) (fun _ _ => 0)
  case atStart => exact ⟨by go_num, h0⟩
  case round =>
    obtain ⟨rfl, hJs⟩ := hrel
    gi_wp2
    go_end0
    exact ⟨⟨_, rfl⟩, hJs⟩

theorem back_stops (n : Nat) (hn : 1 ≤ n) (Bs m cap : Nat) (A : Option Addr) (ps : List Pair) (hps : m = ps.length) (h64 : All64 ps) (hm64 : m ≤ 1000000) (w : World) (hBs : Bs < w.heap.size)
    (hc : w.cell? ⟨Bs, 0, none⟩ = some (.slice A m cap)) (hs : ESrc 64 w A (pvals ps)) :
    SeqStopsK Fence.wide n Tryd.prog 61 #[.pointer (some ⟨Bs, 0, none⟩)] (backEnc ps (m := m)) (Below w.heap.size) (fun ys => ys.map (·.1) = desc m m) (fun pre => ∃ k, k ≤ m ∧ pre.map (·.1) = desc m k) m w := fun l J Jx W hW _ _ hY h0 => by
  have hc' := (hW.cell (p := ⟨Bs, 0, none⟩) hBs).trans hc
  rcases Nat.eq_zero_or_pos m with h | h
  · subst h
    exact (back1_nil_in n l Bs cap A J W hc' h0).mono fun e W' ⟨he, hj⟩ => ⟨he, .inl ⟨[], rfl, hj⟩⟩
  · obtain ⟨b, o, rfl, hb, hr⟩ := hs.2 (fun e => by have := congrArg List.length e; rw [pvals_length, List.length_nil] at this; omega)
    exact back1_in n hn l Bs w.heap.size b o m cap ps hps h64 hm64 hb hBs J Jx hY W hc' (fun j hj i v hi => (hW.cell (p := ⟨b, o + j * 64 + i, none⟩) hb).trans (hr j (pcells (pairAt ps j)) (by unfold pvals; rw [List.getElem?_map, pairAt_some (by omega)]; rfl) i v hi)) h0

set_option maxHeartbeats 1000000 in
set_option maxRecDepth 100000 in
theorem backward_any (w : World) (A : Option Addr) (m cap : Nat) :
    Calls Tryd.prog 54 #[.slice A m cap] w fun e w' => e = .returned (.func (.func 61) #[] #[.pointer (some ⟨w.heap.size, 0, none⟩)]) ∧ w' = w.alloc (.cells #[.slice A m cap] 79) := by
  go_enter Tryd.func54, Tryd.ntmps54
  go_wp2
  go_ret
  exact ⟨rfl, rfl⟩
end Go.Proofs.YtimnpakmifjgoaaDoor

/-
  A region that draws its order: an operation may be taken first where whatever would not let it by waits for it, if only through others. No function of the program stands here.
-/
namespace Go.Proofs.YtimnpakmifjgoaaDoor
open Go.RowKit

section
variable {P : Program} {ops : Array Oper} {Q : Exit → Act → World → Prop} {md : Region.Mode} {ex : Nat → Bool}
theorem wpAnyG_firstB {i : Nat} {oi : Oper} {v : Value} (bs : Nat → Bool) (hi : ops[i]? = some oi) (hsel : ∀ (j : Nat) (o : Oper) cs b, ops[j]? = some o → o.op ≠ .select cs b)
    (hQ : ∀ c a w, Q (.panic c) (a.put oi.dst v) w → Q (.panic c) a w) (hex : ∀ k ok, ops[k]? = some ok → ex k = true → bs k = true)
    (hbs : ∀ k ok, ops[k]? = some ok → bs k = true → ∃ e ∈ ok.after, Region.binds md e = true ∧ (e.on = i ∨ bs e.on = true)) :
    ∀ (fuel : Nat) (listed : Array Bool) (a : Act) (w : World), (∀ k, bs k = true → listed.getD k true = false) →
      (∀ j oj, ops[j]? = some oj → j ≠ i → listed.getD j true = false → bs j = false → oi.apart ops oj = true) →
      i ∈ Region.ready md ops listed → YieldsG P ops oi v a w →
      wpAnyG P md ops Q ex fuel (listed.setIfInBounds i true) (a.put oi.dst v) w → wpAnyG P md ops Q ex (fuel + 1) listed a w := by
  intro fuel
  induction fuel with
  | zero =>
    intro listed a w _ _ hr hy H w1 hw1
    refine ⟨fun h => (by rw [h] at hr; cases hr), fun j hj => ?_⟩
    by_cases hji : j = i
    · subst hji; exact (hy.grow hw1).wpOp hi (fun w' h' => ⟨fun _ => h', wpAnyG_grow _ _ _ _ _ (hw1.trans h') H⟩)
    · have := ready_mono hj hji
      rw [H.1] at this
      cases this
  | succ fuel ih =>
    intro listed a w hl hfree hr hy H w1 hw1
    refine ⟨fun h => (by rw [h] at hr; cases hr), fun j hj => ?_⟩
    by_cases hji : j = i
    · subst hji; exact (hy.grow hw1).wpOp hi (fun w' h' => ⟨fun _ => h', wpAnyG_grow _ _ _ _ _ (hw1.trans h') H⟩)
    · have h1 := (H w1 hw1).2 j (ready_mono hj hji)
      obtain ⟨hjun, oj, hoj, hall⟩ := mem_ready.1 hj
      have hun : ∀ k, listed.getD k true = false → listed.getD k false = true → False := fun k h0 h1 => by
        rcases Nat.lt_or_ge k listed.size with h' | h'
        · simp [h'] at h0 h1; rw [h0] at h1; cases h1
        · simp [Array.getElem?_eq_none h'] at h1
      have hbj : bs j = false := by
        cases hb : bs j with
        | false => rfl
        | true =>
          obtain ⟨e, he, hbd, ho⟩ := hbs j oj hoj hb
          have h2 := hall e he hbd
          rcases ho with ho | ho
          · rw [ho] at h2; exact (hun i (mem_ready.1 hr).1 h2).elim
          · exact (hun e.on (hl e.on ho) h2).elim
      have hexj : ex j = false := by
        cases hxj : ex j with
        | false => rfl
        | true => rw [hex j oj hoj hxj] at hbj; cases hbj
      have h2 := wpOp_putG hoj (hfree j oj hoj hji hjun hbj) (fun cs b => hsel i oi cs b hi) (fun cs b => hsel j oj cs b hoj) hQ hy h1
      have hl' : ∀ k, bs k = true → (listed.setIfInBounds j true).getD k true = false := fun k hk => by
        have hjk : j ≠ k := fun e => by rw [← e, hbj] at hk; cases hk
        rw [getD_set_ne true hjk]; exact hl k hk
      have hfree' : ∀ k ok, ops[k]? = some ok → k ≠ i → (listed.setIfInBounds j true).getD k true = false → bs k = false → oi.apart ops ok = true := fun k ok hk hki hun hno => by
        refine hfree k ok hk hki ?_ hno
        by_cases hjk : j = k
        · subst hjk; exact hjun
        · rw [getD_set_ne true hjk] at hun; exact hun
      refine wpOp_mono (fun a' w' h3 => ⟨h3.2.1, ih (listed.setIfInBounds j true) a' w' hl' hfree' (ready_mono hr (Ne.symm hji)) (h3.1.grow (hw1.trans (h3.2.1 hexj))) ?_⟩) h2
      rw [Array.setIfInBounds_comm _ _ hji]
      exact h3.2.2
/-- all that is asked, as one Bool: bs: those that wait, if only through others -/
def canTakeB (md : Region.Mode) (ops : Array Oper) (listed : Array Bool) (ex : Nat → Bool) (i : Nat) (bs : List Nat) : Bool :=
  Region.noSelect ops && (Region.ready md ops listed).contains i && (bs.all fun k => !(listed.getD k true)) &&
  (match ops[i]? with
   | none => false
   | some oi => (List.range ops.size).all fun k => match ops[k]? with
     | none => true
     | some ok => (!(bs.contains k) || ok.after.any fun e => Region.binds md e && (e.on == i || bs.contains e.on)) && (!(ex k) || bs.contains k) && (k == i || listed.getD k true || bs.contains k || oi.apart ops ok))
theorem wpAnyG_takeB (i : Nat) (bs : List Nat) {oi : Oper} {v : Value} {fuel : Nat} {listed : Array Bool} {a : Act} {w : World} (hi0 : ops.toList[i]? = some oi) (hc : canTakeB md ops listed ex i bs = true)
    (hQ : ∀ c a w, Q (.panic c) (a.put oi.dst v) w → Q (.panic c) a w) (hy : YieldsG P ops oi v a w)
    (h : wpAnyG P md ops Q ex fuel (listed.setIfInBounds i true) (a.put oi.dst v) w) : wpAnyG P md ops Q ex (fuel + 1) listed a w := by
  have hi : ops[i]? = some oi := by simpa using hi0
  unfold canTakeB at hc
  simp only [hi, Bool.and_eq_true] at hc
  obtain ⟨⟨⟨h1, h2⟩, h3⟩, h4⟩ := hc
  rw [List.all_eq_true] at h3 h4
  have h5 : ∀ k ok, ops[k]? = some ok → _ := fun k ok hk => by
    have h := h4 k (List.mem_range.2 (Array.getElem?_eq_some_iff.1 hk).1)
    simp only [hk, Bool.and_eq_true] at h
    exact h
  refine wpAnyG_firstB (fun k => bs.contains k) hi (Region.noSelect_spec h1) hQ (fun k ok hk he => ?_) (fun k ok hk hb => ?_) fuel listed a w (fun k hk => ?_) (fun j oj hj hji hun hb => ?_) (by simpa using h2) hy h
  · have h := (h5 k ok hk).1.2
    simpa [he] using h
  · have h := (h5 k ok hk).1.1
    simp only [hb, Bool.not_true, Bool.false_or] at h
    rw [Array.any_eq_true'] at h
    obtain ⟨e, hm, hx⟩ := h
    simp only [Bool.and_eq_true, Bool.or_eq_true, beq_iff_eq] at hx
    exact ⟨e, hm, hx.1, hx.2⟩
  · have h := h3 k (by simpa using hk)
    simpa using h
  · have h := (h5 j oj hj).2
    simp only [hun, hb, Bool.or_false, Bool.or_eq_true, beq_iff_eq] at h
    exact h.resolve_left hji
end
end Go.Proofs.YtimnpakmifjgoaaDoor

/-
  Boxes of one cell: a store into one, what a function hands back out of three.
-/
namespace Go.Proofs.YtimnpakmifjgoaaDoor
open Go.RowKit Go.Shelf Sp

section
variable {P : Program} {ops : Array Oper} {Q : Exit → Act → World → Prop}
theorem run_storeVar_one (w : World) (g : Nat) (ty t : TypeId) (v old : Value) (hg : Blk w g t #[old]) (hv : v.cells = #[v]) (h1 : v.oneCell' = true) (hi : (P.info? ty).map (·.size) = some 1) :
    (storeVar ty ⟨g, 0, none⟩ v).run P w = .ok () (w.setCell ⟨g, 0, none⟩ v) := by
  have h := run_storeVar_mid (P := P) w g 0 ty #[v] (hg.there 0 1 (by simp)) (by simpa using hi) (by simp [h1])
  have e : storeVar ty ⟨g, 0, none⟩ (.agg #[v]) = storeVar ty ⟨g, 0, none⟩ v := by
    unfold storeVar
    rw [hv]
    rfl
  rw [e] at h
  exact h
theorem wp_store_one {o : Oper} {a : Act} {w : World} {K : Act → World → Prop} (ty : TypeId) (x y : Operand) (ho : o.op = .store ty x y)
    (g : Nat) (v : Value) (hx : a.eval x = .pointer (some ⟨g, 0, none⟩)) (hy : a.eval y = v) (hv : v.cells = #[v]) (h1 : v.oneCell' = true)
    (t : TypeId) (old : Value) (hg : Blk w g t #[old]) (hi : (P.info? ty).map (·.size) = some 1)
    (h : ∀ w2, Blk w2 g t #[v] → (∀ B, B ≤ g → Below B w w2) → w.grownBy w2 (some g) → K (a.put o.dst undef) w2) : o.wp P a w K Q := by
  unfold Oper.wp execOp
  simp only [ho, hx, hy, Instr.storeAt, Instr.sureAddr, Sem.run_bind, Sem.run_pure, Result.andThen_ok, run_storeVar_one w g ty t v old hg hv h1 hi]
  exact h _ (by have := hg.set_ 0 v; simpa using this) (fun B hB => (Below.refl B w).setCell (p := ⟨g, 0, none⟩) hB v) (grownBy_setCell' w g v)
/-- a value of one cell into a box: of the world behind it three facts -/
theorem wpList_store_one {rest : List Oper} {o : Oper} {a : Act} {w : World} (hgd : o.guard = none) (ty : TypeId) (x y : Operand) (ho : o.op = .store ty x y)
    (g : Nat) (v : Value) (hx : a.eval x = .pointer (some ⟨g, 0, none⟩)) (hy : a.eval y = v) (hv : v.cells = #[v]) (h1 : v.oneCell' = true)
    (t : TypeId) (old : Value) (hg : Blk w g t #[old]) (hi : (P.info? ty).map (·.size) = some 1)
    (h : ∀ w2, Blk w2 g t #[v] → (∀ B, B ≤ g → Below B w w2) → w.grownBy w2 (some g) → wpList P ops Q rest (a.put o.dst undef) w2) : wpList P ops Q (o :: rest) a w :=
  wpList_plain hgd fun _ hK => wp_store_one ty x y ho g v hx hy hv h1 t old hg hi (fun w2 p q r => hK _ _ (h w2 p q r))
theorem results_three {fn : Func} {p q r : Tmp} {t1 t2 t3 : TypeId} (h : fn.results = #[.cell p t1, .cell q t2, .cell r t3]) (tmps : Array Value) (w : World) (g1 g2 g3 : Nat) (v1 v2 v3 : Value)
    (h1 : ∀ w, (isAgg t1).run P w = .ok false w) (h2 : ∀ w, (isAgg t2).run P w = .ok false w) (h3 : ∀ w, (isAgg t3).run P w = .ok false w)
    (p1 : tmps.getD p undef = .pointer (some ⟨g1, 0, none⟩)) (p2 : tmps.getD q undef = .pointer (some ⟨g2, 0, none⟩)) (p3 : tmps.getD r undef = .pointer (some ⟨g3, 0, none⟩))
    (c1 : w.cell? ⟨g1, 0, none⟩ = some v1) (c2 : w.cell? ⟨g2, 0, none⟩ = some v2) (c3 : w.cell? ⟨g3, 0, none⟩ = some v3) :
    (results fn tmps).run P w = .ok (.tuple #[v1, v2, v3]) w := by
  have e1 : tmps[p]?.getD undef = .pointer (some ⟨g1, 0, none⟩) := by simpa using p1
  have e2 : tmps[q]?.getD undef = .pointer (some ⟨g2, 0, none⟩) := by simpa using p2
  have e3 : tmps[r]?.getD undef = .pointer (some ⟨g3, 0, none⟩) := by simpa using p3
  simp [results, h, e1, e2, e3, asAddr, loadVar, h1, h2, h3, c1, c2, c3, go_sem]
end

theorem part_dig (cs : Array Value) (o : Nat) (W : World) : (part 24 cs o).run Tryd.prog W = .ok (.agg (cs.extract o (o + 32))) W := by
  have h1 := Tryd.isAgg24
  have h2 := Tryd.sizeOf24
  simp [part, h1, h2, go_sem]
theorem pcells_left (p : Pair) (h : p.1.length = 32) : (pcells p).toArray.extract 0 (0 + 32) = (p.1.map bv).toArray := by
  have hl : (p.1.map bv).length = 32 := by rw [List.length_map]; exact h
  simp only [pcells, List.extract_toArray, List.extract_eq_take_drop, List.drop_zero, Nat.zero_add, Nat.sub_zero]
  rw [List.take_append_of_le_length (by omega), List.take_of_length_le (by omega)]
theorem pcells_right (p : Pair) (h : p.1.length = 32) (k : p.2.length = 32) : (pcells p).toArray.extract 32 (32 + 32) = (p.2.map bv).toArray := by
  have hl : (p.1.map bv).length = 32 := by rw [List.length_map]; exact h
  have hk : (p.2.map bv).length = 32 := by rw [List.length_map]; exact k
  simp only [pcells, List.extract_toArray, List.extract_eq_take_drop]
  rw [List.drop_append_of_le_length (by omega), List.drop_of_length_le (by omega), List.nil_append, List.take_of_length_le (by omega)]
theorem eql_digs_at (W : World) (a b : List UInt8) (ha : a.length = 32) (hb : b.length = 32) : (Op.equalIn 9999 24 (.agg (a.map bv).toArray) (.agg (b.map bv).toArray)).run Tryd.prog W = .ok (a == b) W :=
  run_equalIn_bytes W 9997 24 5 32 Tryd.underlying24 Tryd.underlying5 (fun W => by kernel_rfl) a b ha hb
theorem run_neq_pairs (W : World) (p q : Pair) (hp : p.1.length = 32 ∧ p.2.length = 32) (hq : q.1.length = 32 ∧ q.2.length = 32) :
    (binOp .neq 86 (.agg (pcells p).toArray) (.agg (pcells q).toArray)).run Tryd.prog W = .ok (.bool (decide (p ≠ q))) W := by
  have hS : Tryd.prog.underlying 86 = some (.struct (Tryd.prog.fieldsOf 86)) := by kernel_rfl
  have hpp : Tryd.prog.stoodInHeld 86 = false := by kernel_rfl
  have e1 := eql_digs_at W p.1 q.1 hp.1 hq.1
  have e2 := eql_digs_at W p.2 q.2 hp.2 hq.2
  rw [run_neq_struct, show (10000 : Nat) = 9999 + 1 from rfl, run_equalIn_struct W 9999 86 _ _ hS hpp]
  simp only [Program.fieldsOf, Tryd.underlying86]
  have a1 : ∀ W, (part 24 (pcells p).toArray 0).run Tryd.prog W = .ok (.agg (p.1.map bv).toArray) W := fun W => by rw [part_dig, pcells_left p hp.1]
  have a2 : ∀ W, (part 24 (pcells q).toArray 0).run Tryd.prog W = .ok (.agg (q.1.map bv).toArray) W := fun W => by rw [part_dig, pcells_left q hq.1]
  have a3 : ∀ W, (part 24 (pcells p).toArray 32).run Tryd.prog W = .ok (.agg (p.2.map bv).toArray) W := fun W => by rw [part_dig, pcells_right p hp.1 hp.2]
  have a4 : ∀ W, (part 24 (pcells q).toArray 32).run Tryd.prog W = .ok (.agg (q.2.map bv).toArray) W := fun W => by rw [part_dig, pcells_right q hq.1 hq.2]
  generalize hX : (p.1 == q.1) = x at e1
  generalize hY : (p.2 == q.2) = y at e2
  have hd : decide (p ≠ q) = !(x && y) := by
    rw [← hX, ← hY]
    obtain ⟨p1, p2⟩ := p
    obtain ⟨q1, q2⟩ := q
    by_cases h1 : p1 = q1 <;> by_cases h2 : p2 = q2 <;> simp [h1, h2]
  rw [hd]
  cases x <;> cases y <;> simp [Op.eqFields, a1, a2, a3, a4, e1, e2, Sem.run_bind, Sem.run_ite]
end Go.Proofs.YtimnpakmifjgoaaDoor

/-
  Clash: walked.
-/
namespace Go.Proofs.YtimnpakmifjgoaaDoor
open Go.RowKit Go.Shelf Sp

/-- does the way lead somewhere? where to; past which pairs -/
def okS (i n : Nat) (ps : List (List UInt8)) : Bool := decide (i < n) && decide (ps.length = (sidesS i n).length)
def topS (leaf : List UInt8) (i n : Nat) (ps : List (List UInt8)) : List UInt8 := if okS i n ps then climbS leaf (sidesS i n) ps ps.length else zero32
def pastP (leaf : List UInt8) (i n : Nat) (ps : List (List UInt8)) : List Pair := if okS i n ps then pastS leaf (sidesS i n) ps ps.length else []
theorem climb_any (w : World) (leaf : List UInt8) (A : Option Addr) (ps : List (List UInt8)) (i n m c : Nat) (hl32 : leaf.length = 32) (hi : i ≤ 4294967295) (hn : n ≤ 4294967295) (hm : m = ps.length) (hs : DSrc w A ps) (hc : m ≤ c) (ht : TabAt w 1) :
    Calls Tryd.prog 53 #[.agg (leaf.map bv).toArray, .int .u32 i, .int .u32 n, .slice A m c] w (ClimbPost w (topS leaf i n ps) (pastP leaf i n ps) (okS i n ps)) := by
  unfold topS pastP
  rcases Nat.lt_or_ge i n with h | h
  · by_cases hl : m = (sidesS i n).length
    · have e : okS i n ps = true := by unfold okS; rw [← hm]; simp [h, hl]
      rw [e]
      have h2 := climb_yes w leaf A ps i n m c hl32 h hn hl hm hs hc ht
      rw [hm] at h2 ⊢
      exact h2
    · have e : okS i n ps = false := by unfold okS; rw [← hm]; simp [hl]
      rw [e]
      exact climb_off w leaf A i n m c h hn hl
  · have e : okS i n ps = false := by unfold okS; simp; omega
    rw [e]
    exact climb_no w leaf A i n m c h hi
theorem topS_length (leaf : List UInt8) (h : leaf.length = 32) (i n : Nat) (ps : List (List UInt8)) : (topS leaf i n ps).length = 32 := by
  unfold topS
  split
  · exact climbS_length leaf h _ ps _
  · rfl
theorem all64_pastS (leaf : List UInt8) (h : leaf.length = 32) (bs : List Bool) (ps : List (List UInt8)) (hps : All32 ps) (k : Nat) (hk : k ≤ ps.length) : All64 (pastS leaf bs ps k) := fun p hp => by
  unfold pastS at hp
  rw [List.mem_map] at hp
  obtain ⟨j, hj, rfl⟩ := hp
  have hj2 : j < ps.length := by have := List.mem_range.1 hj; omega
  have h1 := climbS_length leaf h bs ps j
  have h2 : (ps.getD j []).length = 32 := by rw [List.getD_eq_getElem?_getD, List.getElem?_eq_getElem hj2]; exact hps _ (List.getElem_mem hj2)
  unfold kidsS
  split
  · exact ⟨h2, h1⟩
  · exact ⟨h1, h2⟩
theorem all64_pastP (leaf : List UInt8) (h : leaf.length = 32) (i n : Nat) (ps : List (List UInt8)) (hps : All32 ps) : All64 (pastP leaf i n ps) := by
  unfold pastP
  split
  · exact all64_pastS leaf h _ ps hps _ (Nat.le_refl _)
  · exact fun p hp => absurd hp (by simp)
theorem pastP_length (leaf : List UInt8) (i n : Nat) (ps : List (List UInt8)) : (pastP leaf i n ps).length = if okS i n ps then ps.length else 0 := by
  unfold pastP
  split <;> simp [pastS]

/-- the world behind the boxes of two digests and of the three results -/
def W5 (w : World) (a b : List UInt8) : World :=
  ((((w.alloc (.cells (a.map bv).toArray 24)).alloc (.cells (b.map bv).toArray 24)).alloc (.cells #[.slice none 0 0] 22)).alloc (.cells #[.slice none 0 0] 22)).alloc (.cells #[.bool false] 4)
structure Fresh5 (w : World) (a b : List UInt8) (W : World) : Prop where
  hA : Blk W w.heap.size 24 (a.map bv).toArray
  hB : Blk W (w.heap.size + 1) 24 (b.map bv).toArray
  h2 : Blk W (w.heap.size + 2) 22 #[.slice none 0 0]
  h3 : Blk W (w.heap.size + 3) 22 #[.slice none 0 0]
  h4 : Blk W (w.heap.size + 4) 4 #[.bool false]
  hb : Below w.heap.size w W
  hz : w.heap.size + 5 ≤ W.heap.size
theorem blk_here {W : World} {g : Nat} {t : TypeId} {cs : Array Value} (hg : W.heap.size = g) : Blk (W.alloc (.cells cs t)) g t cs := by subst hg; exact Blk.new W t cs
theorem w5_fresh (w : World) (a b : List UInt8) : Fresh5 w a b (W5 w a b) where
  hA := ((((Blk.new w _ _).alloc _).alloc _).alloc _).alloc _
  hB := (((blk_here (by simp)).alloc _).alloc _).alloc _
  h2 := ((blk_here (by simp)).alloc _).alloc _
  h3 := (blk_here (by simp)).alloc _
  h4 := blk_here (by simp)
  hb := (((((Below.refl _ w).alloc (Nat.le_refl _) _).alloc (by simp) _).alloc (by simp; omega) _).alloc (by simp; omega) _).alloc (by simp; omega) _
  hz := by unfold W5; simp
theorem Fresh5.below {w : World} {a b : List UInt8} {W W' : World} (h : Fresh5 w a b W) (k : Below W.heap.size W W') : Fresh5 w a b W' where
  hA := h.hA.below k h.hA.lt
  hB := h.hB.below k h.hB.lt
  h2 := h.h2.below k h.h2.lt
  h3 := h.h3.below k h.h3.lt
  h4 := h.h4.below k h.h4.lt
  hb := h.hb.trans (k.mono h.hb.size)
  hz := Nat.le_trans h.hz k.size
theorem Fresh5.grown {w : World} {a b : List UInt8} {W W' : World} (h : Fresh5 w a b W) {g : Nat} (k : W.grownBy W' (some g)) (hg : w.heap.size + 5 ≤ g) : Fresh5 w a b W' where
  hA := h.hA.grown k (fun e => by injection e; omega)
  hB := h.hB.grown k (fun e => by injection e; omega)
  h2 := h.h2.grown k (fun e => by injection e; omega)
  h3 := h.h3.grown k (fun e => by injection e; omega)
  h4 := h.h4.grown k (fun e => by injection e; omega)
  hb := h.hb.grown k h.hb.size (fun j e => by cases e; omega)
  hz := Nat.le_trans h.hz k.size

set_option maxHeartbeats 4000000 in
set_option maxRecDepth 100000 in
theorem clash_no (w : World) (a b : List UInt8) (A B : Option Addr) (ps qs : List (List UInt8)) (i n m mc k kc : Nat) (ha : a.length = 32) (hb : b.length = 32) (hi : i ≤ 4294967295) (hn : n ≤ 4294967295) (hm : m = ps.length) (hk : k = qs.length) (hA : DSrc w A ps) (hB : DSrc w B qs) (hmc : m ≤ mc) (hkc : k ≤ kc) (ht : TabAt w 1) (hno : okS i n ps = false ∨ okS i n qs = false ∨ topS a i n ps ≠ topS b i n qs) :
    Calls Tryd.prog 41 #[.agg (a.map bv).toArray, .agg (b.map bv).toArray, .int .u32 i, .int .u32 n, .slice A m mc, .slice B k kc] w fun e w' => e = .returned (.tuple #[.slice none 0 0, .slice none 0 0, .bool false]) ∧ Below w.heap.size w w' := by
  have HNO := Lib.hid hno
  clear hno
  have HC := Lib.hid ht
  have HS := Lib.hid (And.intro hA (And.intro hB (And.intro hm hk)))
  have H32 := Lib.hid (And.intro ha hb)
  have htl := ht.lt
  clear ht hA hB hm hk ha hb
  have F0 := w5_fresh w a b
  obtain ⟨W0, hW0⟩ : ∃ W0, W0 = W5 w a b := ⟨_, rfl⟩
  have hA0 : Blk (((((w.alloc (.cells (a.map bv).toArray 24)).alloc (.cells (b.map bv).toArray 24)).alloc (.cells #[.slice none 0 0] 22)).alloc (.cells #[.slice none 0 0] 22)).alloc (.cells #[.bool false] 4)) w.heap.size 24 (a.map bv).toArray := F0.hA
  have HF := Lib.hid F0
  clear F0 hW0
  go_enter Tryd.func41, Tryd.ntmps41
  go_wp2_with (refine wpList_load_row rfl 24 (.tmp 6) rfl w.heap.size rfl 24 _ (0, 0) _ hA0 Tryd.underlying24 rfl (dig_info H32.out.1) ?_)
  refine (climb_any _ a A ps i n m mc H32.out.1 hi hn HS.out.2.2.1 (HS.out.1.below HF.out.hb) hmc (HC.out.below HF.out.hb htl)).mono ?_
  rintro e w1 ⟨v1, rfl, hv1, hb1⟩
  have F1 := Fresh5.below HF.out hb1
  have HV1 := Lib.hid (And.intro hv1 F1)
  clear hb1 hv1 F1 hA0
  have hx1 := topS_length a H32.out.1 i n ps
  obtain ⟨X, hX⟩ : ∃ X, X = topS a i n ps := ⟨_, rfl⟩
  obtain ⟨k1, hk1⟩ : ∃ k1, k1 = okS i n ps := ⟨_, rfl⟩
  rw [← hX] at hx1
  rw [← hX, ← hk1]
  have HX := Lib.hid (And.intro hx1 (And.intro hX hk1))
  clear hx1 hX hk1
  unfold dv
  have hB1 := HV1.out.2.hB
  go_wp2_with (first
    | ((with_reducible refine here_store ?_); (refine wpList_store_new rfl 24 (.tmp 15) (.tmp 29) rfl _ _ _ rfl rfl (dig_info HX.out.1) (by rw [dig_size HX.out.1]; rfl) (dig_one _) ?_; intro w2 hd2 hb2 hz2; have F2 := HV1.out.2.below hb2; have hB2 := F2.hB))
    | ((with_reducible refine here_load (d := some 33) ?_); (refine wpList_load_row rfl 24 (.tmp 7) rfl (w.heap.size + 1) rfl 24 _ (0, 0) _ hB2 Tryd.underlying24 rfl (dig_info H32.out.2) ?_)))
  refine (climb_any w2 b B qs i n k kc H32.out.2 hi hn HS.out.2.2.2 (HS.out.2.1.below F2.hb) hkc (HC.out.below F2.hb htl)).mono ?_
  rintro e w3 ⟨v3, rfl, hv3, hb3⟩
  have F3 := F2.below hb3
  have hd3 := hd2.below hb3 hd2.lt
  have hv1 := OwnE.below (OwnE.below HV1.out.1 hb2) hb3
  have hN2 := hd2.lt
  clear hb3 hb2 F2 hd2 hB1 hB2 HV1
  have hx2 := topS_length b H32.out.2 i n qs
  obtain ⟨Y, hY⟩ : ∃ Y, Y = topS b i n qs := ⟨_, rfl⟩
  obtain ⟨k2, hk2⟩ : ∃ k2, k2 = okS i n qs := ⟨_, rfl⟩
  rw [← hY] at hx2
  rw [← hY, ← hk2]
  have HY := Lib.hid (And.intro hx2 (And.intro hY hk2))
  clear hx2 hY hk2
  unfold dv
  obtain ⟨P1, hP1⟩ : ∃ P1, P1 = pastP a i n ps := ⟨_, rfl⟩
  obtain ⟨P2, hP2⟩ : ∃ P2, P2 = pastP b i n qs := ⟨_, rfl⟩
  rw [← hP1] at hv1
  rw [← hP2] at hv3
  obtain ⟨M1, hM1⟩ : ∃ M1, M1 = (pvals P1).length := ⟨_, rfl⟩
  obtain ⟨M2, hM2⟩ : ∃ M2, M2 = (pvals P2).length := ⟨_, rfl⟩
  obtain ⟨A3, c3, ev3, hs3, hc3, hm3⟩ := OwnE.any hv3
  rw [← hM2] at ev3 hc3
  subst ev3
  obtain ⟨A1, c1, ev1, hs1, hc1, hm1⟩ := OwnE.any hv1
  rw [← hM1] at ev1 hc1
  subst ev1
  have hN3 := hd3.lt
  have hz3 := F3.hz
  have hz18 : Blk ((w3.alloc (.cells zeroDigest 24)).alloc (.cells #[.slice none 0 0] 79)) w3.heap.size 24 zeroDigest := (Blk.new w3 _ _).alloc _
  have HP := Lib.hid (And.intro hP1 (And.intro hP2 (And.intro hM1 hM2)))
  have HV := Lib.hid (And.intro hs1 (And.intro hs3 (And.intro F3 hd3)))
  clear hs1 hs3 F3 hd3 hv1 hv3 hP1 hP2 hM1 hM2
  cases k1 with
  | false =>
    go_wp2_with (first
    | ((with_reducible refine here_store (y := .tmp 38) ?_); (refine wpList_store_own rfl 24 (.tmp 18) (.tmp 38) rfl w3.heap.size _ rfl rfl 24 _ hz18 (dig_info HY.out.1) (by rw [dig_size HY.out.1]; rfl) (dig_one _) ?_; intro w4 hd18 hB4 hg4; have F4 := Fresh5.grown (Fresh5.below HV.out.2.2.1 (below_alloc2 w3 (.cells zeroDigest 24) (.cells #[.slice none 0 0] 79))) hg4 hz3; have hd15 := Blk.grown ((HV.out.2.2.2.alloc (.cells zeroDigest 24)).alloc (.cells #[.slice none 0 0] 79)) hg4 (fun e => by injection e; omega); have b19 : Blk w4 (w3.heap.size + 1) 79 #[.slice none 0 0] := Blk.grown (blk_here (by simp)) hg4 (fun e => by injection e; omega)))
    | ((with_reducible refine here_store (y := .tmp 39) ?_); (refine wpList_store_one rfl 79 (.tmp 19) (.tmp 39) rfl (w3.heap.size + 1) _ rfl rfl rfl rfl 79 _ b19 (by kernel_rfl) ?_; intro w5 c19 hB5 hg5; have F5 := Fresh5.grown F4 hg5 (by omega); have hd15 := hd15.grown hg5 (fun e => by injection e; omega); have hd18 := hd18.grown hg5 (fun e => by injection e; omega); have e2 := F5.h2; have e3 := F5.h3; have e4 := F5.h4))
    | ((with_reducible refine here_load (d := some 48) ?_); (refine wpList_load_want rfl 24 (.tmp 15) rfl w1.heap.size rfl 24 _ _ hd15 Tryd.underlying24 rfl (dig_info HX.out.1) ?_))
    | ((with_reducible refine here_load (d := some 49) ?_); (refine wpList_load_want rfl 24 (.tmp 18) rfl w3.heap.size rfl 24 _ _ hd18 Tryd.underlying24 rfl (dig_info HY.out.1) ?_))
    | ((with_reducible refine here_store ?_); (first
        | (refine wpList_store_one rfl 22 (.tmp 12) (.const (.slice none 0 0)) rfl (w.heap.size + 2) _ rfl rfl rfl rfl 22 _ e2 (by kernel_rfl) ?_; intro w6 e26 hB6 hg6; have e36 := Blk.grown e3 hg6 (fun e => by injection e; omega); have e46 := Blk.grown e4 hg6 (fun e => by injection e; omega))
        | (refine wpList_store_one rfl 22 (.tmp 13) (.const (.slice none 0 0)) rfl (w.heap.size + 3) _ rfl rfl rfl rfl 22 _ e36 (by kernel_rfl) ?_; intro w7 e37 hB7 hg7; have e27 := Blk.grown e26 hg7 (fun e => by injection e; omega); have e47 := Blk.grown e46 hg7 (fun e => by injection e; omega))
        | (refine wpList_store_one rfl 4 (.tmp 14) (.const (.bool false)) rfl (w.heap.size + 4) _ rfl rfl rfl rfl 4 _ e47 (by kernel_rfl) ?_; intro w8 e48 hB8 hg8; have e28 := Blk.grown e27 hg8 (fun e => by injection e; omega); have e38 := Blk.grown e37 hg8 (fun e => by injection e; omega)))))
    exact bodyPost_ret (results_three rfl _ _ (w.heap.size + 2) (w.heap.size + 3) (w.heap.size + 4) _ _ _ Tryd.isAgg22 Tryd.isAgg22 Tryd.isAgg4 rfl rfl rfl (Blk.cell e28 0) (Blk.cell e38 0) (Blk.cell e48 0)) rfl ⟨rfl, ((F5.hb.trans (hB6 _ (by omega))).trans (hB7 _ (by omega))).trans (hB8 _ (by omega))⟩
  | true =>
    cases k2 with
    | false =>
      go_wp2_with (first
    | ((with_reducible refine here_store (y := .tmp 38) ?_); (refine wpList_store_own rfl 24 (.tmp 18) (.tmp 38) rfl w3.heap.size _ rfl rfl 24 _ hz18 (dig_info HY.out.1) (by rw [dig_size HY.out.1]; rfl) (dig_one _) ?_; intro w4 hd18 hB4 hg4; have F4 := Fresh5.grown (Fresh5.below HV.out.2.2.1 (below_alloc2 w3 (.cells zeroDigest 24) (.cells #[.slice none 0 0] 79))) hg4 hz3; have hd15 := Blk.grown ((HV.out.2.2.2.alloc (.cells zeroDigest 24)).alloc (.cells #[.slice none 0 0] 79)) hg4 (fun e => by injection e; omega); have b19 : Blk w4 (w3.heap.size + 1) 79 #[.slice none 0 0] := Blk.grown (blk_here (by simp)) hg4 (fun e => by injection e; omega)))
    | ((with_reducible refine here_store (y := .tmp 39) ?_); (refine wpList_store_one rfl 79 (.tmp 19) (.tmp 39) rfl (w3.heap.size + 1) _ rfl rfl rfl rfl 79 _ b19 (by kernel_rfl) ?_; intro w5 c19 hB5 hg5; have F5 := Fresh5.grown F4 hg5 (by omega); have hd15 := hd15.grown hg5 (fun e => by injection e; omega); have hd18 := hd18.grown hg5 (fun e => by injection e; omega); have e2 := F5.h2; have e3 := F5.h3; have e4 := F5.h4))
    | ((with_reducible refine here_load (d := some 48) ?_); (refine wpList_load_want rfl 24 (.tmp 15) rfl w1.heap.size rfl 24 _ _ hd15 Tryd.underlying24 rfl (dig_info HX.out.1) ?_))
    | ((with_reducible refine here_load (d := some 49) ?_); (refine wpList_load_want rfl 24 (.tmp 18) rfl w3.heap.size rfl 24 _ _ hd18 Tryd.underlying24 rfl (dig_info HY.out.1) ?_))
    | ((with_reducible refine here_store ?_); (first
        | (refine wpList_store_one rfl 22 (.tmp 12) (.const (.slice none 0 0)) rfl (w.heap.size + 2) _ rfl rfl rfl rfl 22 _ e2 (by kernel_rfl) ?_; intro w6 e26 hB6 hg6; have e36 := Blk.grown e3 hg6 (fun e => by injection e; omega); have e46 := Blk.grown e4 hg6 (fun e => by injection e; omega))
        | (refine wpList_store_one rfl 22 (.tmp 13) (.const (.slice none 0 0)) rfl (w.heap.size + 3) _ rfl rfl rfl rfl 22 _ e36 (by kernel_rfl) ?_; intro w7 e37 hB7 hg7; have e27 := Blk.grown e26 hg7 (fun e => by injection e; omega); have e47 := Blk.grown e46 hg7 (fun e => by injection e; omega))
        | (refine wpList_store_one rfl 4 (.tmp 14) (.const (.bool false)) rfl (w.heap.size + 4) _ rfl rfl rfl rfl 4 _ e47 (by kernel_rfl) ?_; intro w8 e48 hB8 hg8; have e28 := Blk.grown e27 hg8 (fun e => by injection e; omega); have e38 := Blk.grown e37 hg8 (fun e => by injection e; omega)))))
      exact bodyPost_ret (results_three rfl _ _ (w.heap.size + 2) (w.heap.size + 3) (w.heap.size + 4) _ _ _ Tryd.isAgg22 Tryd.isAgg22 Tryd.isAgg4 rfl rfl rfl (Blk.cell e28 0) (Blk.cell e38 0) (Blk.cell e48 0)) rfl ⟨rfl, ((F5.hb.trans (hB6 _ (by omega))).trans (hB7 _ (by omega))).trans (hB8 _ (by omega))⟩
    | true =>
      have hXY : X ≠ Y := by
        rw [HX.out.2.1, HY.out.2.1]
        rcases HNO.out with h | h | h
        · rw [← HX.out.2.2] at h; cases h
        · rw [← HY.out.2.2] at h; cases h
        · exact h
      have e1 : ∀ W, (binOp .neq 24 (.agg (X.map bv).toArray) (.agg (Y.map bv).toArray)).run Tryd.prog W = .ok (.bool true) W := fun W => by rw [run_neq_digs W X Y HX.out.1 HY.out.1]; simp [hXY]
      have HE := Lib.hid hXY
      clear hXY
      go_wp2_with (first
    | ((with_reducible refine here_store (y := .tmp 38) ?_); (refine wpList_store_own rfl 24 (.tmp 18) (.tmp 38) rfl w3.heap.size _ rfl rfl 24 _ hz18 (dig_info HY.out.1) (by rw [dig_size HY.out.1]; rfl) (dig_one _) ?_; intro w4 hd18 hB4 hg4; have F4 := Fresh5.grown (Fresh5.below HV.out.2.2.1 (below_alloc2 w3 (.cells zeroDigest 24) (.cells #[.slice none 0 0] 79))) hg4 hz3; have hd15 := Blk.grown ((HV.out.2.2.2.alloc (.cells zeroDigest 24)).alloc (.cells #[.slice none 0 0] 79)) hg4 (fun e => by injection e; omega); have b19 : Blk w4 (w3.heap.size + 1) 79 #[.slice none 0 0] := Blk.grown (blk_here (by simp)) hg4 (fun e => by injection e; omega)))
    | ((with_reducible refine here_store (y := .tmp 39) ?_); (refine wpList_store_one rfl 79 (.tmp 19) (.tmp 39) rfl (w3.heap.size + 1) _ rfl rfl rfl rfl 79 _ b19 (by kernel_rfl) ?_; intro w5 c19 hB5 hg5; have F5 := Fresh5.grown F4 hg5 (by omega); have hd15 := hd15.grown hg5 (fun e => by injection e; omega); have hd18 := hd18.grown hg5 (fun e => by injection e; omega); have e2 := F5.h2; have e3 := F5.h3; have e4 := F5.h4))
    | ((with_reducible refine here_load (d := some 48) ?_); (refine wpList_load_want rfl 24 (.tmp 15) rfl w1.heap.size rfl 24 _ _ hd15 Tryd.underlying24 rfl (dig_info HX.out.1) ?_))
    | ((with_reducible refine here_load (d := some 49) ?_); (refine wpList_load_want rfl 24 (.tmp 18) rfl w3.heap.size rfl 24 _ _ hd18 Tryd.underlying24 rfl (dig_info HY.out.1) ?_))
    | ((with_reducible refine here_store ?_); (first
        | (refine wpList_store_one rfl 22 (.tmp 12) (.const (.slice none 0 0)) rfl (w.heap.size + 2) _ rfl rfl rfl rfl 22 _ e2 (by kernel_rfl) ?_; intro w6 e26 hB6 hg6; have e36 := Blk.grown e3 hg6 (fun e => by injection e; omega); have e46 := Blk.grown e4 hg6 (fun e => by injection e; omega))
        | (refine wpList_store_one rfl 22 (.tmp 13) (.const (.slice none 0 0)) rfl (w.heap.size + 3) _ rfl rfl rfl rfl 22 _ e36 (by kernel_rfl) ?_; intro w7 e37 hB7 hg7; have e27 := Blk.grown e26 hg7 (fun e => by injection e; omega); have e47 := Blk.grown e46 hg7 (fun e => by injection e; omega))
        | (refine wpList_store_one rfl 4 (.tmp 14) (.const (.bool false)) rfl (w.heap.size + 4) _ rfl rfl rfl rfl 4 _ e47 (by kernel_rfl) ?_; intro w8 e48 hB8 hg8; have e28 := Blk.grown e27 hg8 (fun e => by injection e; omega); have e38 := Blk.grown e37 hg8 (fun e => by injection e; omega)))))
      exact bodyPost_ret (results_three rfl _ _ (w.heap.size + 2) (w.heap.size + 3) (w.heap.size + 4) _ _ _ Tryd.isAgg22 Tryd.isAgg22 Tryd.isAgg4 rfl rfl rfl (Blk.cell e28 0) (Blk.cell e38 0) (Blk.cell e48 0)) rfl ⟨rfl, ((F5.hb.trans (hB6 _ (by omega))).trans (hB7 _ (by omega))).trans (hB8 _ (by omega))⟩


attribute [local go_sem] Oper.semAt_some
theorem keepsFrom_of_below {W W' : World} (B : Nat) (h : Below W.heap.size W W') : KeepsFrom B W W' :=
  ⟨h.size, fun k o _ hk _ => (h.block k (Array.getElem?_eq_some_iff.1 hk).1).trans hk⟩
theorem OwnB.far {w w' : World} {base g : Nat} {v : Value} {l : List UInt8} (h : OwnB w base v l) (hg : w.grownBy w' (some g)) (hlt : g < base) : OwnB w' base v l :=
  World.ownsRow.kept h hg (.inr (fun e => by have := World.ownsRow.lt h g e; omega))
theorem ownB_one {w : World} {base : Nat} {v : Value} {l : List UInt8} (h : OwnB w base v l) (hl : 0 < l.length) : v.cells = #[v] ∧ v.oneCell' = true := by
  obtain ⟨g, cap, rfl, _⟩ := h.form hl
  exact ⟨rfl, rfl⟩
theorem hereIn_alloc {F : Fence} {nn : Nat} {P : Program} {ops : Array Oper} {Q : Exit → Act → World → Prop} {rest : List Oper} {a : Act} {w : World} {d : Option Tmp} {t : TypeId} {p : String} {af : Array Edge} {g : Option (Nat × Bool)} {ty : TypeId}
    (h : wpListIn F nn P ops Q (⟨d, .alloc ty, t, p, af, g⟩ :: rest) a w) : wpListIn F nn P ops Q (⟨d, .alloc ty, t, p, af, g⟩ :: rest) a w := h
/-- the slice v has the text l -/
def TextV (w : World) (v : Value) (l : List UInt8) : Prop := ∃ A c, v = .slice A l.length c ∧ Src w A l ∧ l.length ≤ c ∧ c ≤ 9223372036854775807

theorem OwnB.textV {w : World} {base : Nat} {v : Value} {l : List UInt8} (h : OwnB w base v l) (hl : 0 < l.length) : TextV w v l := by
  obtain ⟨g, cap, rfl, _, hlt⟩ := h.form hl
  exact ⟨_, _, rfl, h.src hlt, h.cap⟩
theorem TextV.kept {w W : World} {row : Option Nat} {v : Value} {l : List UInt8} (h : TextV w v l) (hg : w.grownBy W row) (hr : ∀ r, row = some r → ∃ o : Obj, w.heap[r]? = some o ∧ o.isCells = false) : TextV W v l := by
  obtain ⟨A, c, e, hs, h1, h2⟩ := h
  refine ⟨A, c, e, fun hne => ?_, h1, h2⟩
  obtain ⟨b, o, e2, hlt, hc⟩ := hs hne
  exact ⟨b, o, e2, Nat.lt_of_lt_of_le hlt hg.size, fun j u hu => cell_kept (hc j u hu) hg hr⟩
/-- the three results' boxes hold two texts and true -/
def Three (g : Nat) (W : World) (l1 l2 : List UInt8) : Prop := ∃ V1 V2, W.cell? ⟨g + 2, 0, none⟩ = some V1 ∧ W.cell? ⟨g + 3, 0, none⟩ = some V2 ∧ W.cell? ⟨g + 4, 0, none⟩ = some (.bool true) ∧ TextV W V1 l1 ∧ TextV W V2 l2
theorem Three.kept {w W : World} {row : Option Nat} {g : Nat} {l1 l2 : List UInt8} (h : Three g w l1 l2) (hg : w.grownBy W row) (hr : ∀ r, row = some r → ∃ o : Obj, w.heap[r]? = some o ∧ o.isCells = false) : Three g W l1 l2 := by
  obtain ⟨V1, V2, h1, h2, h3, h4, h5⟩ := h
  exact ⟨V1, V2, cell_kept h1 hg hr, cell_kept h2 hg hr, cell_kept h3 hg hr, h4.kept hg hr, h5.kept hg hr⟩

set_option maxHeartbeats 4000000 in
set_option maxRecDepth 100000 in
theorem clash_yes (w : World) (a b : List UInt8) (A B : Option Addr) (ps qs : List (List UInt8)) (i n m mc k kc : Nat) (ha : a.length = 32) (hb : b.length = 32) (hi : i ≤ 4294967295) (hn : n ≤ 4294967295) (hm : m = ps.length) (hk : k = qs.length) (hA : DSrc w A ps) (hB : DSrc w B qs) (hmc : m ≤ mc) (hkc : k ≤ kc) (ht : TabAt w 1) (hmm : m ≤ 1000000) (ho1 : okS i n ps = true) (ho2 : okS i n qs = true) (htop : topS a i n ps = topS b i n qs) :
    Calls Tryd.prog 41 #[.agg (a.map bv).toArray, .agg (b.map bv).toArray, .int .u32 i, .int .u32 n, .slice A m mc, .slice B k kc] w fun e w' => ((e = .returned (.tuple #[.slice none 0 0, .slice none 0 0, .bool false]) ∧ ∀ j, j < m → pairAt (pastP a i n ps) j = pairAt (pastP b i n qs) j) ∨
      (∃ j, j < m ∧ (∀ j', j < j' → j' < m → pairAt (pastP a i n ps) j' = pairAt (pastP b i n qs) j') ∧ pairAt (pastP a i n ps) j ≠ pairAt (pastP b i n qs) j ∧
        ∃ V1 V2, e = .returned (.tuple #[V1, V2, .bool true]) ∧ TextV w' V1 (textS (pairAt (pastP a i n ps) j)) ∧ TextV w' V2 (textS (pairAt (pastP b i n qs) j)))) ∧ Below w.heap.size w w' := by
  have HO := Lib.hid (And.intro ho1 (And.intro ho2 htop))
  clear ho1 ho2 htop
  have HC := Lib.hid ht
  have HS := Lib.hid (And.intro hA (And.intro hB (And.intro hm hk)))
  have H32 := Lib.hid (And.intro ha hb)
  have htl := ht.lt
  clear ht hA hB hm hk ha hb
  have F0 := w5_fresh w a b
  obtain ⟨W0, hW0⟩ : ∃ W0, W0 = W5 w a b := ⟨_, rfl⟩
  have hA0 : Blk (((((w.alloc (.cells (a.map bv).toArray 24)).alloc (.cells (b.map bv).toArray 24)).alloc (.cells #[.slice none 0 0] 22)).alloc (.cells #[.slice none 0 0] 22)).alloc (.cells #[.bool false] 4)) w.heap.size 24 (a.map bv).toArray := F0.hA
  have HF := Lib.hid F0
  clear F0 hW0
  refine (callsIn_wide (n := 5)).1 ?_
  refine callsIn_of_wp_marks Tryd.func41 rfl trivial ?_ rfl
  simp only [Tryd.ntmps41, List.size_toArray, List.length_cons, List.length_nil, Nat.reduceAdd, Nat.reduceSub, Array.replicate_succ, Array.replicate_zero, List.push_toArray, List.append_toArray, List.nil_append, List.cons_append]
  refine wpIn_wide.2 ?_
  go_wp2_with (refine wpList_load_row rfl 24 (.tmp 6) rfl w.heap.size rfl 24 _ (0, 0) _ hA0 Tryd.underlying24 rfl (dig_info H32.out.1) ?_)
  refine (climb_any _ a A ps i n m mc H32.out.1 hi hn HS.out.2.2.1 (HS.out.1.below HF.out.hb) hmc (HC.out.below HF.out.hb htl)).mono ?_
  rintro e w1 ⟨v1, rfl, hv1, hb1⟩
  have F1 := Fresh5.below HF.out hb1
  have HV1 := Lib.hid (And.intro hv1 F1)
  clear hb1 hv1 F1 hA0
  have hx1 := topS_length a H32.out.1 i n ps
  obtain ⟨X, hX⟩ : ∃ X, X = topS a i n ps := ⟨_, rfl⟩
  obtain ⟨k1, hk1⟩ : ∃ k1, k1 = okS i n ps := ⟨_, rfl⟩
  rw [← hX] at hx1
  rw [← hX, ← hk1]
  have HX := Lib.hid (And.intro hx1 (And.intro hX hk1))
  clear hx1 hX hk1
  unfold dv
  have hB1 := HV1.out.2.hB
  go_wp2_with (first
    | ((with_reducible refine here_store ?_); (refine wpList_store_new rfl 24 (.tmp 15) (.tmp 29) rfl _ _ _ rfl rfl (dig_info HX.out.1) (by rw [dig_size HX.out.1]; rfl) (dig_one _) ?_; intro w2 hd2 hb2 hz2; have F2 := HV1.out.2.below hb2; have hB2 := F2.hB))
    | ((with_reducible refine here_load (d := some 33) ?_); (refine wpList_load_row rfl 24 (.tmp 7) rfl (w.heap.size + 1) rfl 24 _ (0, 0) _ hB2 Tryd.underlying24 rfl (dig_info H32.out.2) ?_)))
  refine (climb_any w2 b B qs i n k kc H32.out.2 hi hn HS.out.2.2.2 (HS.out.2.1.below F2.hb) hkc (HC.out.below F2.hb htl)).mono ?_
  rintro e w3 ⟨v3, rfl, hv3, hb3⟩
  have F3 := F2.below hb3
  have hd3 := hd2.below hb3 hd2.lt
  have hv1 := OwnE.below (OwnE.below HV1.out.1 hb2) hb3
  have hN2 := hd2.lt
  clear hb3 hb2 F2 hd2 hB1 hB2 HV1
  have hx2 := topS_length b H32.out.2 i n qs
  obtain ⟨Y, hY⟩ : ∃ Y, Y = topS b i n qs := ⟨_, rfl⟩
  obtain ⟨k2, hk2⟩ : ∃ k2, k2 = okS i n qs := ⟨_, rfl⟩
  rw [← hY] at hx2
  rw [← hY, ← hk2]
  have HY := Lib.hid (And.intro hx2 (And.intro hY hk2))
  clear hx2 hY hk2
  unfold dv
  obtain ⟨P1, hP1⟩ : ∃ P1, P1 = pastP a i n ps := ⟨_, rfl⟩
  obtain ⟨P2, hP2⟩ : ∃ P2, P2 = pastP b i n qs := ⟨_, rfl⟩
  rw [← hP1] at hv1
  rw [← hP2] at hv3
  obtain ⟨M1, hM1⟩ : ∃ M1, M1 = (pvals P1).length := ⟨_, rfl⟩
  obtain ⟨M2, hM2⟩ : ∃ M2, M2 = (pvals P2).length := ⟨_, rfl⟩
  obtain ⟨A3, c3, ev3, hs3, hc3, hm3⟩ := OwnE.any hv3
  rw [← hM2] at ev3 hc3
  subst ev3
  obtain ⟨A1, c1, ev1, hs1, hc1, hm1⟩ := OwnE.any hv1
  rw [← hM1] at ev1 hc1
  subst ev1
  have hN3 := hd3.lt
  have hz3 := F3.hz
  have hz18 : Blk ((w3.alloc (.cells zeroDigest 24)).alloc (.cells #[.slice none 0 0] 79)) w3.heap.size 24 zeroDigest := (Blk.new w3 _ _).alloc _
  have HP := Lib.hid (And.intro hP1 (And.intro hP2 (And.intro hM1 hM2)))
  have HV := Lib.hid (And.intro hs1 (And.intro hs3 (And.intro F3 hd3)))
  clear hs1 hs3 F3 hd3 hv1 hv3 hP1 hP2 hM1 hM2
  obtain rfl : k1 = true := by rw [HX.out.2.2]; exact HO.out.1
  obtain rfl : k2 = true := by rw [HY.out.2.2]; exact HO.out.2.1
  have e1 : ∀ W, (binOp .neq 24 (.agg (X.map bv).toArray) (.agg (Y.map bv).toArray)).run Tryd.prog W = .ok (.bool false) W := fun W => by rw [run_neq_digs W X Y HX.out.1 HY.out.1, show X = Y from by rw [HX.out.2.1, HY.out.2.1]; exact HO.out.2.2]; simp
  go_wp2_with (first
    | ((with_reducible refine here_store (y := .tmp 38) ?_); (refine wpList_store_own rfl 24 (.tmp 18) (.tmp 38) rfl w3.heap.size _ rfl rfl 24 _ hz18 (dig_info HY.out.1) (by rw [dig_size HY.out.1]; rfl) (dig_one _) ?_; intro w4 hd18 hB4 hg4; have F4 := Fresh5.grown (Fresh5.below HV.out.2.2.1 (below_alloc2 w3 (.cells zeroDigest 24) (.cells #[.slice none 0 0] 79))) hg4 hz3; have hd15 := Blk.grown ((HV.out.2.2.2.alloc (.cells zeroDigest 24)).alloc (.cells #[.slice none 0 0] 79)) hg4 (fun e => by injection e; omega); have b19 : Blk w4 (w3.heap.size + 1) 79 #[.slice none 0 0] := Blk.grown (blk_here (by simp)) hg4 (fun e => by injection e; omega)))
    | ((with_reducible refine here_store (y := .tmp 39) ?_); (refine wpList_store_one rfl 79 (.tmp 19) (.tmp 39) rfl (w3.heap.size + 1) _ rfl rfl rfl rfl 79 _ b19 (by kernel_rfl) ?_; intro w5 c19 hB5 hg5; have F5 := Fresh5.grown F4 hg5 (by omega); have hd15 := hd15.grown hg5 (fun e => by injection e; omega); have hd18 := hd18.grown hg5 (fun e => by injection e; omega); have e2 := F5.h2; have e3 := F5.h3; have e4 := F5.h4))
    | ((with_reducible refine here_load (d := some 48) ?_); (refine wpList_load_want rfl 24 (.tmp 15) rfl w1.heap.size rfl 24 _ _ hd15 Tryd.underlying24 rfl (dig_info HX.out.1) ?_))
    | ((with_reducible refine here_load (d := some 49) ?_); (refine wpList_load_want rfl 24 (.tmp 18) rfl w3.heap.size rfl 24 _ _ hd18 Tryd.underlying24 rfl (dig_info HY.out.1) ?_)))
  refine (backward_any w5 A1 M1 c1).mono ?_
  rintro e w6 ⟨rfl, rfl⟩
  go_wp2_with fail
  have hb35 : Below w3.heap.size w3 w5 := ((below_alloc2 w3 (.cells zeroDigest 24) (.cells #[.slice none 0 0] 79)).trans (hB4 _ (Nat.le_refl _))).trans (hB5 _ (Nat.le_succ _))
  have hz5 := c19.lt
  obtain ⟨WL, hWL⟩ : ∃ WL, w5.alloc (.cells #[.slice A1 M1 c1] 79) = WL := ⟨_, rfl⟩
  have hb5L : Below w5.heap.size w5 WL := by rw [← hWL]; exact (Below.refl _ _).alloc (Nat.le_refl _) _
  have cBox : Blk WL w5.heap.size 79 #[.slice A1 M1 c1] := by rw [← hWL]; exact Blk.new w5 _ _
  have FL := F5.below hb5L
  have c19L := c19.below hb5L c19.lt
  have hs1 := (HV.out.1.below hb35).below hb5L
  have hs3 := (HV.out.2.1.below hb35).below hb5L
  rw [hWL]
  have hL1 : M1 = P1.length := by rw [HP.out.2.2.1, pvals_length]
  have hL2 : M2 = P2.length := by rw [HP.out.2.2.2, pvals_length]
  have hL3 : P1.length = m := by rw [HP.out.1, pastP_length, HO.out.1, HS.out.2.2.1]; rfl
  have hL4 : P2.length = m := by
    have h1 := HO.out.1
    have h2 := HO.out.2.1
    unfold okS at h1 h2
    simp only [Bool.and_eq_true, decide_eq_true_eq] at h1 h2
    rw [HP.out.2.1, pastP_length, HO.out.2.1, HS.out.2.2.1, h1.2, ← h2.2]; rfl
  have e64 : All64 P1 := by rw [HP.out.1]; exact all64_pastP a H32.out.1 i n ps HS.out.1.1
  have f64 : All64 P2 := by rw [HP.out.2.1]; exact all64_pastP b H32.out.2 i n qs HS.out.2.1.1
  obtain rfl : M1 = M2 := by omega
  have hM : M1 = m := by omega
  have HA := Lib.hid (And.intro e64 (And.intro f64 (And.intro hs1 hs3)))
  have HM := Lib.hid (And.intro hL1 (And.intro hL2 hM))
  have HF := Lib.hid FL
  have hmm' : M1 ≤ 1000000 := by omega
  clear e64 f64 hs1 hs3 hL1 hL2 hL3 hL4 HV hd15 hd18 e1 F4 F5 FL hB4 hB5 hb35 hb5L hWL hM
  refine (wpIn_wide (n := 5)).1 ?_
  refine wpIn_rangeFunc_ownH rfl (by omega) (gf := 61) (lb := #[.pointer (some ⟨w5.heap.size, 0, none⟩)]) rfl trivial (enters_of Tryd.func61 (by kernel_rfl) rfl)
    (back_stops (5 - 1) (by omega) w5.heap.size M1 c1 A1 P1 HM.out.1 HA.out.1 hmm' WL cBox.lt (cBox.cell 0) HA.out.2.2.1) belowK_t (belowK_b (Nat.le_refl _)) (Below.refl _ _) (fun _ => rfl)
    (fun pre W => (∀ x ∈ pre, pairAt P1 x.1 = pairAt P2 x.1) ∧ Below WL.heap.size WL W)
    (fun c pre W => (c = .ret ∧ ∃ ini last, pre = ini ++ [last] ∧ (∀ x ∈ ini, pairAt P1 x.1 = pairAt P2 x.1) ∧ pairAt P1 last.1 ≠ pairAt P2 last.1 ∧ Three w.heap.size W (textS (pairAt P1 last.1)) (textS (pairAt P2 last.1))) ∧ Below w.heap.size w W)
    (OwnFrom.and (ownFrom_pure _ _) (ownFrom_below (Nat.le_refl _) (Nat.le_refl _)))
    (fun c => OwnFrom.and (Own.from (fun s X Y row hs hg hr => by obtain ⟨e0, ini, last, e1, e2, e3, e4⟩ := hs; exact ⟨e0, ini, last, e1, e2, e3, e4.kept hg hr⟩) _) (ownFrom_below (Nat.le_refl _) HF.out.hb.size))
    ⟨fun x hx => absurd hx (by simp), Below.refl _ _⟩
    (fun x a' W => ∃ Bx, WL.heap.size ≤ Bx ∧ Blk W Bx 86 (pcells (pairAt P1 x.1)).toArray ∧ a' = { tmps := #[.agg (a.map bv).toArray, .agg (b.map bv).toArray, .int .u32 i, .int .u32 n, .slice A m mc, .slice B k kc, .pointer (some ⟨w.heap.size, 0, none⟩), .pointer (some ⟨w.heap.size + 1, 0, none⟩), undef, undef, undef, undef, .pointer (some ⟨w.heap.size + 1 + 1, 0, none⟩), .pointer (some ⟨w.heap.size + 1 + 1 + 1, 0, none⟩), .pointer (some ⟨w.heap.size + 1 + 1 + 1 + 1, 0, none⟩), .pointer (some ⟨w1.heap.size, 0, none⟩), .slice A1 M1 c1, .bool true, .pointer (some ⟨w3.heap.size, 0, none⟩), .pointer (some ⟨w3.heap.size + 1, 0, none⟩), .bool true, .int .i64 (x.1 : Int), .pointer (some ⟨Bx, 0, none⟩), .tuple #[.agg (X.map bv).toArray, .slice A1 M1 c1, .bool true], .agg (a.map bv).toArray, .int .u32 i, .int .u32 n, .slice A m mc, .tuple #[.agg (X.map bv).toArray, .slice A1 M1 c1, .bool true], .agg (X.map bv).toArray, .slice A1 M1 c1, .bool true, .tuple #[.agg (Y.map bv).toArray, .slice A3 M1 c3, .bool true], .agg (b.map bv).toArray, .int .u32 i, .int .u32 n, .slice B k kc, .tuple #[.agg (Y.map bv).toArray, .slice A3 M1 c3, .bool true], .agg (Y.map bv).toArray, .slice A3 M1 c3, .bool true, .bool true, .bool false, .bool false, .bool true, .bool false, .bool false, .bool false, .agg (X.map bv).toArray, .agg (Y.map bv).toArray, .bool false, .bool false, .slice A1 M1 c1, .func (.func 61) #[] #[.pointer (some ⟨w5.heap.size, 0, none⟩)], .int .i64 (x.1 : Int), .agg (pcells (pairAt P1 x.1)).toArray, undef, undef, undef, undef, undef, undef, undef, undef, undef, undef, undef, undef, undef], defers := [] })
    (fun x a' _ X Y row hs hg hr => by obtain ⟨Bx, h1, h2, h3⟩ := hs; exact ⟨Bx, h1, h2.grown hg (fun e => by obtain ⟨_, o, ho, hc⟩ := hr Bx e.symm; rw [show X.heap[Bx]? = _ from h2] at ho; cases ho; cases hc), h3⟩)
    ?assign ?body ?done ?stop
  case assign =>
    rintro l pre x W K ⟨hI, hB⟩ hK
    have h64 := HA.out.1 (pairAt P1 x.1) (List.mem_of_getElem? (pairAt_some (by have := HM.out.1; have := x.2; omega)))
    unfold backEnc
    gi_wp2_with ((with_reducible refine hereIn_alloc ?_); (refine listIn_of (by rintro ⟨_, _, h⟩; exact h) _ (by intro o ho c e; simp at ho; rcases ho with rfl | rfl <;> cases e) _ _ ?_))
    go_wp2_with (refine wpList_store_new rfl 86 (.tmp 22) (.tmp 55) rfl _ _ _ rfl rfl (pair_info h64) (by rw [pcells_size h64]; rfl) (pcells_all _) ?_; intro w2' hd2 hb2 hz2)
    exact hK _ _ (keepsFrom_of_below _ hb2) (hb2.mono hB.size) ⟨hI, hB.trans (hb2.mono hB.size)⟩ ⟨W.heap.size, hB.size, hd2, rfl⟩
  case body =>
    rintro l pre ⟨q, hq⟩ a' W hl _ ⟨hI, hB⟩ ⟨Bx, hBx, bX, rfl⟩ hlen
    dsimp only at bX hI ⊢
    obtain ⟨b3, o3, hA3, hb3, hr3⟩ := HA.out.2.2.2.2 (fun e => by have h := congrArg List.length e; rw [pvals_length, List.length_nil] at h; have := HM.out.2.1; omega)
    subst hA3
    have hr2 : W.rangeAt b3 (o3 + q * 64) (pcells (pairAt P2 q)) := fun j v hj => (hB.cell (p := ⟨b3, o3 + q * 64 + j, none⟩) hb3).trans (hr3 q _ (by unfold pvals; rw [List.getElem?_map, pairAt_some (by have := HM.out.2.1; omega)]; rfl) j v hj)
    have lB : b3 < W.heap.size := Nat.lt_of_lt_of_le hb3 hB.size
    have cW := c19L.below hB c19L.lt
    have lC := cW.lt
    have cC : W.cell? ⟨w3.heap.size + 1, 0, none⟩ = some (.slice (some ⟨b3, o3, none⟩) M1 c3) := cW.cell 0
    have p64 := HA.out.1 (pairAt P1 q) (List.mem_of_getElem? (pairAt_some (by have := HM.out.1; omega)))
    have r64 := HA.out.2.1 (pairAt P2 q) (List.mem_of_getElem? (pairAt_some (by have := HM.out.2.1; omega)))
    have FW := HF.out.below hB
    have HBW := FW.hb
    obtain ⟨p1, hp1⟩ : ∃ p1, p1 = pairAt P1 q := ⟨_, rfl⟩
    obtain ⟨p2, hp2⟩ : ∃ p2, p2 = pairAt P2 q := ⟨_, rfl⟩
    rw [← hp1] at bX p64
    rw [← hp2] at hr2 r64
    rw [← hp1]
    obtain ⟨d, hd⟩ : ∃ d, d = decide (p1 ≠ p2) := ⟨_, rfl⟩
    have e1 : ∀ W, (binOp .neq 86 (.agg (pcells p1).toArray) (.agg (pcells p2).toArray)).run Tryd.prog W = .ok (.bool d) W := fun W => by rw [run_neq_pairs W p1 p2 p64 r64, hd]
    have HD := Lib.hid (And.intro hd (And.intro hp1 hp2))
    clear hd hp1 hp2 hr3
    have q1 : (0 : Int) ≤ (q : Int) := by omega
    have q2 : (q : Int) < (M1 : Int) := by omega
    gi_wp2_with fail
    refine round_region_G (fun _ => false) (by kernel_rfl) (by rintro ⟨_, _, h⟩; exact h) (by kernel_rfl) ?_
    refine wpAnyG_take 0 rfl (by kernel_rfl) (fun _ _ _ h => h) (YieldsG.load (by rfl) _ _ rfl Bx (0) rfl (pcells p1) _ bX.lt (rangeAt_blk bX) Tryd.underlying86 rfl (pair_info' p64)) ?_
    try simp only [Act.put, List.setIfInBounds_toArray, List.set_cons_zero, List.set_cons_succ]
    refine wpAnyG_take 1 rfl (by kernel_rfl) (fun _ _ _ h => h) (YieldsG.pure (v := .slice (some ⟨b3, o3, none⟩) M1 c3) (by rfl) (fun w9 h9 => by have hz := (Below.cell (p := ⟨w3.heap.size + 1, 0, none⟩) h9 lC).trans cC; go_simp; first | done | simp [hz])) ?_
    try simp only [Act.put, List.setIfInBounds_toArray, List.set_cons_zero, List.set_cons_succ]
    refine wpAnyG_take 2 rfl (by kernel_rfl) (fun _ _ _ h => h) (YieldsG.pure (by rfl) (fun w9 _ => by go_simp; try with_reducible rfl)) ?_
    try simp only [Act.put, List.setIfInBounds_toArray, List.set_cons_zero, List.set_cons_succ]
    refine wpAnyG_take 3 rfl (by kernel_rfl) (fun _ _ _ h => h) (YieldsG.pure (by rfl) (fun w9 _ => by go_simp; try with_reducible rfl)) ?_
    try simp only [Act.put, List.setIfInBounds_toArray, List.set_cons_zero, List.set_cons_succ]
    refine wpAnyG_take 4 rfl (by kernel_rfl) (fun _ _ _ h => h) (YieldsG.load (by rfl) _ _ rfl b3 (o3 + q * 64) rfl (pcells p2) _ lB hr2 Tryd.underlying86 rfl (pair_info' r64)) ?_
    try simp only [Act.put, List.setIfInBounds_toArray, List.set_cons_zero, List.set_cons_succ]
    refine wpAnyG_take 5 rfl (by kernel_rfl) (fun _ _ _ h => h) (YieldsG.pure (by rfl) (fun w9 _ => by go_simp; try with_reducible rfl)) ?_
    try simp only [Act.put, List.setIfInBounds_toArray, List.set_cons_zero, List.set_cons_succ]
    refine wpAnyG_done (by kernel_rfl) (fun w8 h8 => ?_)
    cases d with
    | false =>
      gi_wp2
      have hpq : p1 = p2 := by
        have h := HD.out.1
        by_cases e : p1 = p2
        · exact e
        · simp [e] at h
      have h8' : Below W.heap.size W w8 := h8
      refine ⟨keepsFrom_of_below _ h8', h8'.mono hB.size, fun x hx => ?_, hB.trans (h8'.mono hB.size)⟩
      rcases List.mem_append.1 hx with h | h
      · exact hI x h
      · obtain rfl : x = ⟨q, hq⟩ := by simpa using h
        show pairAt P1 q = pairAt P2 q
        rw [← HD.out.2.1, ← HD.out.2.2]
        exact hpq
    | true =>
      have h8' : Below W.heap.size W w8 := h8
      have F8 := FW.below h8'
      have HB8 := F8.hb
      have bX := bX.below h8' bX.lt
      have hr2 : w8.rangeAt b3 (o3 + q * 64) (pcells p2) := fun j v hj => (h8'.cell (p := ⟨b3, o3 + q * 64 + j, none⟩) lB).trans (hr2 j v hj)
      have cC := (h8'.cell (p := ⟨w3.heap.size + 1, 0, none⟩) lC).trans cC
      have lB := Nat.lt_of_lt_of_le lB h8'.size
      have lC := Nat.lt_of_lt_of_le lC h8'.size
      gi_wp2_with fail
      refine round_region_G (fun j => j == 7 || j == 8 || j == 9) (by kernel_rfl) (by rintro ⟨_, _, h⟩; exact h) (by kernel_rfl) ?_
      refine wpAnyG_takeB 0 [1, 6, 7, 8, 9] rfl (by kernel_rfl) (fun _ _ _ h => h) (YieldsG.load (by rfl) _ _ rfl Bx (0) rfl (pcells p1) _ bX.lt (rangeAt_blk bX) Tryd.underlying86 rfl (pair_info' p64)) ?_
      try simp only [Act.put, List.setIfInBounds_toArray, List.set_cons_zero, List.set_cons_succ]
      refine wpAnyG_takeB 2 [4, 5, 6, 7, 8, 9] rfl (by kernel_rfl) (fun _ _ _ h => h) (YieldsG.pure (v := .slice (some ⟨b3, o3, none⟩) M1 c3) (by rfl) (fun w9 h9 => by have hz := (Below.cell (p := ⟨w3.heap.size + 1, 0, none⟩) h9 lC).trans cC; go_simp; first | done | simp [hz])) ?_
      try simp only [Act.put, List.setIfInBounds_toArray, List.set_cons_zero, List.set_cons_succ]
      refine wpAnyG_takeB 3 [4, 5, 6, 7, 8, 9] rfl (by kernel_rfl) (fun _ _ _ h => h) (YieldsG.pure (by rfl) (fun w9 _ => by go_simp; try with_reducible rfl)) ?_
      try simp only [Act.put, List.setIfInBounds_toArray, List.set_cons_zero, List.set_cons_succ]
      refine wpAnyG_takeB 4 [5, 6, 7, 8, 9] rfl (by kernel_rfl) (fun _ _ _ h => h) (YieldsG.pure (by rfl) (fun w9 _ => by go_simp; try with_reducible rfl)) ?_
      try simp only [Act.put, List.setIfInBounds_toArray, List.set_cons_zero, List.set_cons_succ]
      refine wpAnyG_takeB 5 [6, 7, 8, 9] rfl (by kernel_rfl) (fun _ _ _ h => h) (YieldsG.load (by rfl) _ _ rfl b3 (o3 + q * 64) rfl (pcells p2) _ lB hr2 Tryd.underlying86 rfl (pair_info' r64)) ?_
      try simp only [Act.put, List.setIfInBounds_toArray, List.set_cons_zero, List.set_cons_succ]
      refine wpAnyG_sole 1 rfl (by kernel_rfl) (by rfl) (fun u1 g1 K hK => ?_)
      go_simp
      refine (nodeText_any u1 p1.1 p1.2 p64.1 p64.2 (HC.out.below (Below.gr HB8 g1) htl)).mono ?_
      rintro e u2 ⟨V1, rfl, t1, g2⟩
      refine hK _ _ (fun _ => g2) ?_
      clear hK K
      try simp only [Act.put, List.setIfInBounds_toArray, List.set_cons_zero, List.set_cons_succ]
      have hbu2 := (Below.gr (Below.gr (Below.refl _ w8) g1) g2)
      refine wpAnyG_sole 6 rfl (by kernel_rfl) (by rfl) (fun u3 g3 K hK => ?_)
      go_simp
      refine (nodeText_any u3 p2.1 p2.2 r64.1 r64.2 (HC.out.below (HB8.trans ((Below.gr hbu2 g3).mono HB8.size)) htl)).mono ?_
      rintro e u4 ⟨V2, rfl, t2, g4⟩
      refine hK _ _ (fun _ => g4) ?_
      clear hK K
      try simp only [Act.put, List.setIfInBounds_toArray, List.set_cons_zero, List.set_cons_succ]
      have hbu4 := Below.gr (Below.gr hbu2 g3) g4
      have x1 : OwnB u4 w8.heap.size V1 (textS p1) := OwnB.le (OwnB.below (OwnB.below t1 g3) g4) (Below.size g1)
      have x2 : OwnB u4 w8.heap.size V2 (textS p2) := OwnB.le t2 (Below.gr hbu2 g3).size
      have y2 := F8.h2.below hbu4 F8.h2.lt
      have y3 := F8.h3.below hbu4 F8.h3.lt
      have y4 := F8.h4.below hbu4 F8.h4.lt
      have hzW := F8.hz
      have hzL := HF.out.hz
      have HBu := HB8.trans (hbu4.mono HB8.size)
      have KFu := (keepsFrom_of_below WL.heap.size h8').trans (keepsFrom_of_below _ hbu4)
      clear t1 t2
      have z1 := ownB_one x1 (by rw [textS_length p64]; omega)
      have z2 := ownB_one x2 (by rw [textS_length r64]; omega)
      refine wpAnyG_sole 7 rfl (by kernel_rfl) (by rfl) (fun s1 k1' K hK => wp_store_one 22 (.tmp 12) (.tmp 63) rfl (w.heap.size + 2) (V1) rfl rfl z1.1 z1.2 22 _ (k1'.blk y2) (by kernel_rfl) (fun s2 d2 B2 G2 => hK _ _ (fun e => absurd e (by decide)) ?_))
      try clear hK
      try clear K
      try simp only [Act.put, List.setIfInBounds_toArray, List.set_cons_zero, List.set_cons_succ]
      have X1 := OwnB.far (x1.below k1') G2 (by omega)
      have X2 := OwnB.far (x2.below k1') G2 (by omega)
      have Y3 := (y3.below k1' y3.lt).grown G2 (fun e => by injection e; omega)
      have Y4 := (y4.below k1' y4.lt).grown G2 (fun e => by injection e; omega)
      have HB2 := (HBu.trans (Below.mono k1' HBu.size)).trans (B2 _ (by omega))
      have KF2 := (KFu.trans (keepsFrom_of_below _ k1')).trans (KeepsFrom.of_grownBy G2 (fun j e => by cases e; omega))
      refine wpAnyG_sole 8 rfl (by kernel_rfl) (by rfl) (fun s3 k3' K hK => wp_store_one 22 (.tmp 13) (.tmp 68) rfl (w.heap.size + 3) (V2) rfl rfl z2.1 z2.2 22 _ (k3'.blk Y3) (by kernel_rfl) (fun s4 d4 B4 G4 => hK _ _ (fun e => absurd e (by decide)) ?_))
      try clear hK
      try clear K
      try simp only [Act.put, List.setIfInBounds_toArray, List.set_cons_zero, List.set_cons_succ]
      have X1' := OwnB.far (X1.below k3') G4 (by omega)
      have X2' := OwnB.far (X2.below k3') G4 (by omega)
      have D2 := (d2.below k3' d2.lt).grown G4 (fun e => by injection e; omega)
      have Y4' := (Y4.below k3' Y4.lt).grown G4 (fun e => by injection e; omega)
      have HB4 := (HB2.trans (Below.mono k3' HB2.size)).trans (B4 _ (by omega))
      have KF4 := (KF2.trans (keepsFrom_of_below _ k3')).trans (KeepsFrom.of_grownBy G4 (fun j e => by cases e; omega))
      refine wpAnyG_sole 9 rfl (by kernel_rfl) (by rfl) (fun s5 k5' K hK => wp_store_one 4 (.tmp 14) (.const (.bool true)) rfl (w.heap.size + 4) (.bool true) rfl rfl rfl rfl 4 _ (k5'.blk Y4') (by kernel_rfl) (fun s6 d6 B6 G6 => hK _ _ (fun e => absurd e (by decide)) ?_))
      try clear hK
      try clear K
      try simp only [Act.put, List.setIfInBounds_toArray, List.set_cons_zero, List.set_cons_succ]
      have X1'' := OwnB.far (X1'.below k5') G6 (by omega)
      have X2'' := OwnB.far (X2'.below k5') G6 (by omega)
      have D2' := (D2.below k5' D2.lt).grown G6 (fun e => by injection e; omega)
      have D4' := (d4.below k5' d4.lt).grown G6 (fun e => by injection e; omega)
      refine wpAnyG_done (by kernel_rfl) (fun s7 k7 => ?_)
      gi_wp2
      have HB6 := ((HB4.trans (Below.mono k5' HB4.size)).trans (B6 _ (by omega)))
      have HB7 := HB6.trans (Below.mono k7 HB6.size)
      have KF7 := ((KF4.trans (keepsFrom_of_below _ k5')).trans (KeepsFrom.of_grownBy G6 (fun j e => by cases e; omega))).trans (keepsFrom_of_below _ k7)
      have hpq : p1 ≠ p2 := by
        have h := HD.out.1
        intro e
        simp [e] at h
      refine ⟨KF7, ⟨rfl, pre, ⟨q, hq⟩, rfl, hI, ?_, V1, V2, ?_, ?_, ?_, ?_, ?_⟩, HB7⟩
      · show pairAt P1 q ≠ pairAt P2 q
        rw [← HD.out.2.1, ← HD.out.2.2]
        exact hpq
      · exact (k7.blk D2').cell 0
      · exact (k7.blk D4').cell 0
      · exact (k7.blk d6).cell 0
      · show TextV s7 V1 (textS (pairAt P1 q))
        rw [← HD.out.2.1]
        exact (X1''.below k7).textV (by rw [textS_length p64]; omega)
      · show TextV s7 V2 (textS (pairAt P2 q))
        rw [← HD.out.2.2]
        exact (X2''.below k7).textV (by rw [textS_length r64]; omega)

  case done =>
    rintro D ys W hD hS ⟨hI, hB⟩ hK
    have FW := HF.out.below hB
    have e2 := FW.h2
    have e3 := FW.h3
    have e4 := FW.h4
    have hzW := HF.out.hz
    go_wp2_with (first | ((with_reducible refine here_store ?_); (first
        | (refine wpList_store_one rfl 22 (.tmp 12) (.const (.slice none 0 0)) rfl (w.heap.size + 2) _ rfl rfl rfl rfl 22 _ e2 (by kernel_rfl) ?_; intro w6 e26 hB6 hg6; have e36 := Blk.grown e3 hg6 (fun e => by injection e; omega); have e46 := Blk.grown e4 hg6 (fun e => by injection e; omega))
        | (refine wpList_store_one rfl 22 (.tmp 13) (.const (.slice none 0 0)) rfl (w.heap.size + 3) _ rfl rfl rfl rfl 22 _ e36 (by kernel_rfl) ?_; intro w7 e37 hB7 hg7; have e27 := Blk.grown e26 hg7 (fun e => by injection e; omega); have e47 := Blk.grown e46 hg7 (fun e => by injection e; omega))
        | (refine wpList_store_one rfl 4 (.tmp 14) (.const (.bool false)) rfl (w.heap.size + 4) _ rfl rfl rfl rfl 4 _ e47 (by kernel_rfl) ?_; intro w8 e48 hB8 hg8; have e28 := Blk.grown e27 hg8 (fun e => by injection e; omega); have e38 := Blk.grown e37 hg8 (fun e => by injection e; omega)))))
    have n1 := hg6.block D (Array.getElem?_eq_some_iff.1 hK).1 (fun e => by injection e; omega)
    have hK6 := n1.trans hK
    have n2 := hg7.block D (Array.getElem?_eq_some_iff.1 hK6).1 (fun e => by injection e; omega)
    have hK7 := n2.trans hK6
    have n3 := hg8.block D (Array.getElem?_eq_some_iff.1 hK7).1 (fun e => by injection e; omega)
    have hK8 := n3.trans hK7
    refine ⟨by simp, .inl ⟨_, _, rfl, run_takeDeferred hK8, ?_⟩⟩
    have kp : ∀ {g : Nat} {v : Value}, w8.cell? ⟨g, 0, none⟩ = some v → (w8.putObj D (.deferred none)).cell? ⟨g, 0, none⟩ = some v := fun h => cell_kept h (grownBy_putObj' _ D (.deferred none)) (fun r e => by cases e; exact ⟨_, hK8, rfl⟩)
    refine ⟨_, results_three rfl _ _ (w.heap.size + 2) (w.heap.size + 3) (w.heap.size + 4) _ _ _ Tryd.isAgg22 Tryd.isAgg22 Tryd.isAgg4 rfl rfl rfl (kp (Blk.cell e28 0)) (kp (Blk.cell e38 0)) (kp (Blk.cell e48 0)), .inl ⟨rfl, fun j hj => ?_⟩, (((FW.hb.trans (hB6 _ (by omega))).trans (hB7 _ (by omega))).trans (hB8 _ (by omega))).trans (belowK_b (w := w) (Nat.le_refl _) w8 D _ _ (by omega) hK8 rfl rfl)⟩
    rw [← HP.out.1, ← HP.out.2.1]
    have hmem : j ∈ desc M1 M1 := (mem_desc (Nat.le_refl _)).2 ⟨by omega, by have := HM.out.2.2; omega⟩
    rw [← hS] at hmem
    obtain ⟨x, hx, hxj⟩ := List.mem_map.1 hmem
    rw [← hxj]
    exact hI x hx
  case stop =>
    rintro D c pre W hD ⟨k', hk', hpre⟩ ⟨⟨rfl, ini, last, e1, e2, e3, e4⟩, hB⟩ hK
    gi_wp2
    refine ⟨by simp, .inl ⟨_, _, rfl, run_takeDeferred hK, ?_⟩⟩
    have hzW := HF.out.hb.size
    obtain ⟨V1, V2, c1', c2', c3', t1, t2⟩ := e4.kept (grownBy_putObj' W D (.deferred none)) (fun r e => by cases e; exact ⟨_, hK, rfl⟩)
    subst e1
    obtain ⟨k'', rfl⟩ : ∃ k'', k' = k'' + 1 := by
      cases k' with
      | zero => simp [desc] at hpre
      | succ k'' => exact ⟨k'', rfl⟩
    rw [desc_succ, List.map_append] at hpre
    obtain ⟨f1, f2⟩ := List.append_inj' hpre rfl
    have f3 : last.1 = M1 - 1 - k'' := by simpa using f2
    have hlm := last.2
    refine ⟨_, results_three rfl _ _ (w.heap.size + 2) (w.heap.size + 3) (w.heap.size + 4) _ _ _ Tryd.isAgg22 Tryd.isAgg22 Tryd.isAgg4 rfl rfl rfl c1' c2' c3', .inr ⟨last.1, by have := HM.out.2.2; omega, fun j' h1 h2 => ?_, ?_, V1, V2, rfl, ?_, ?_⟩, hB.trans (belowK_b (w := w) (Nat.le_refl _) W D _ _ (by omega) hK rfl rfl)⟩
    · rw [← HP.out.1, ← HP.out.2.1]
      have hmem : j' ∈ desc M1 k'' := (mem_desc (by omega)).2 ⟨by omega, by have := HM.out.2.2; omega⟩
      rw [← f1] at hmem
      obtain ⟨x, hx, hxj⟩ := List.mem_map.1 hmem
      rw [← hxj]
      exact e2 x hx
    · rw [← HP.out.1, ← HP.out.2.1]; exact e3
    · rw [← HP.out.1]; exact t1
    · rw [← HP.out.2.1]; exact t2
end Go.Proofs.YtimnpakmifjgoaaDoor

namespace Go.Proofs.YtimnpakmifjgoaaDoor
open Go.RowKit Sp

theorem kidsS_inj {x x' y y' : List UInt8} {s : Bool} (h : kidsS x s y = kidsS x' s y') : x = x' ∧ y = y' := by
  unfold kidsS at h
  cases s with
  | true =>
    simp only [if_true] at h
    exact ⟨(Prod.ext_iff.1 h).2, (Prod.ext_iff.1 h).1⟩
  | false =>
    simp only [Bool.false_eq_true, if_false] at h
    exact ⟨(Prod.ext_iff.1 h).1, (Prod.ext_iff.1 h).2⟩
theorem okS_spec {i n : Nat} {ps : List (List UInt8)} (h : okS i n ps = true) : i < n ∧ ps.length = (sidesS i n).length := by
  unfold okS at h
  simpa using h
theorem pairAt_past (leaf : List UInt8) {i n : Nat} {ps : List (List UInt8)} (h : okS i n ps = true) {j : Nat} (hj : j < ps.length) :
    pairAt (pastP leaf i n ps) j = kidsS (climbS leaf (sidesS i n) ps j) ((sidesS i n).getD j false) (ps.getD j []) := by
  unfold pastP pairAt
  rw [if_pos h, List.getD_eq_getElem?_getD]
  unfold pastS
  rw [List.getElem?_map, List.getElem?_range hj]
  rfl
theorem topS_ok (leaf : List UInt8) {i n : Nat} {ps : List (List UInt8)} (h : okS i n ps = true) : topS leaf i n ps = climbS leaf (sidesS i n) ps ps.length := by
  unfold topS
  rw [if_pos h]
/-- all that is met alike: then from the same leaf, by the same path -/
theorem same_of_past {a b : List UInt8} {i n : Nat} {ps qs : List (List UInt8)} (h1 : okS i n ps = true) (h2 : okS i n qs = true) (ht : topS a i n ps = topS b i n qs)
    (h : ∀ j, j < ps.length → pairAt (pastP a i n ps) j = pairAt (pastP b i n qs) j) : a = b ∧ ps = qs := by
  have hl : ps.length = qs.length := by rw [(okS_spec h1).2, (okS_spec h2).2]
  have hk : ∀ j, j < ps.length → climbS a (sidesS i n) ps j = climbS b (sidesS i n) qs j ∧ ps.getD j [] = qs.getD j [] := fun j hj => by
    have e := h j hj
    rw [pairAt_past a h1 hj, pairAt_past b h2 (by omega)] at e
    exact kidsS_inj e
  have hps : ps = qs := List.ext_getElem hl (fun j h3 h4 => by
    have e := (hk j h3).2
    simpa [List.getD_eq_getElem?_getD, h3, h4] using e)
  refine ⟨?_, hps⟩
  rcases Nat.eq_zero_or_pos ps.length with h0 | h0
  · rw [topS_ok a h1, topS_ok b h2, ← hl, h0] at ht
    exact ht
  · exact (hk 0 h0).1
/-- the highest place at which they part: two texts of one digest -/
theorem clash_sum {a b : List UInt8} {i n : Nat} {ps qs : List (List UInt8)} (h1 : okS i n ps = true) (h2 : okS i n qs = true) (ht : topS a i n ps = topS b i n qs) {j : Nat} (hj : j < ps.length)
    (h : ∀ j', j < j' → j' < ps.length → pairAt (pastP a i n ps) j' = pairAt (pastP b i n qs) j') :
    sum (textS (pairAt (pastP a i n ps) j)) = sum (textS (pairAt (pastP b i n qs) j)) := by
  have hl : ps.length = qs.length := by rw [(okS_spec h1).2, (okS_spec h2).2]
  rw [textS_sum, textS_sum, pairAt_past a h1 hj, pairAt_past b h2 (by omega)]
  show climbS a (sidesS i n) ps (j + 1) = climbS b (sidesS i n) qs (j + 1)
  rcases Nat.lt_or_ge (j + 1) ps.length with h3 | h3
  · have e := h (j + 1) (by omega) h3
    rw [pairAt_past a h1 h3, pairAt_past b h2 (by omega)] at e
    exact (kidsS_inj e).1
  · have e : j + 1 = ps.length := by omega
    rw [topS_ok a h1, topS_ok b h2, ← hl, ← e] at ht
    exact ht

theorem clash_none (w : World) (a b : List UInt8) (A B : Option Addr) (ps qs : List (List UInt8)) (i n m mc k kc : Nat) (ha : a.length = 32) (hb : b.length = 32) (hi : i ≤ 4294967295) (hn : n ≤ 4294967295) (hm : m = ps.length) (hk : k = qs.length) (hA : DSrc w A ps) (hB : DSrc w B qs) (hmc : m ≤ mc) (hkc : k ≤ kc) (ht : TabAt w 1)
    (hno : okS i n ps = false ∨ okS i n qs = false ∨ topS a i n ps ≠ topS b i n qs ∨ (a = b ∧ ps = qs)) :
    Calls Tryd.prog 41 #[.agg (a.map bv).toArray, .agg (b.map bv).toArray, .int .u32 i, .int .u32 n, .slice A m mc, .slice B k kc] w fun e w' => e = .returned (.tuple #[.slice none 0 0, .slice none 0 0, .bool false]) ∧ Below w.heap.size w w' := by
  by_cases h1 : okS i n ps = true
  · by_cases h2 : okS i n qs = true
    · by_cases h3 : topS a i n ps = topS b i n qs
      · have hab : a = b ∧ ps = qs := by
          rcases hno with h | h | h | h
          · rw [h1] at h; cases h
          · rw [h2] at h; cases h
          · exact absurd h3 h
          · exact h
        obtain ⟨rfl, rfl⟩ := hab
        have h4 := sidesS_32 i n (by omega)
        refine (clash_yes w a a A B ps ps i n m mc k kc ha hb hi hn hm hk hA hB hmc hkc ht (by rw [hm, (okS_spec h1).2]; omega) h1 h1 rfl).mono ?_
        rintro e w' ⟨⟨he, _⟩ | ⟨j, _, _, hne, _⟩, hb⟩
        · exact ⟨he, hb⟩
        · exact absurd rfl hne
      · exact clash_no w a b A B ps qs i n m mc k kc ha hb hi hn hm hk hA hB hmc hkc ht (.inr (.inr h3))
    · exact clash_no w a b A B ps qs i n m mc k kc ha hb hi hn hm hk hA hB hmc hkc ht (.inr (.inl (by simpa using h2)))
  · exact clash_no w a b A B ps qs i n m mc k kc ha hb hi hn hm hk hA hB hmc hkc ht (.inl (by simpa using h1))

/-- two unlike texts of one digest -/
def Found (w' : World) (V1 V2 : Value) : Prop := ∃ l1 l2, TextV w' V1 l1 ∧ TextV w' V2 l2 ∧ l1 ≠ l2 ∧ sum l1 = sum l2 ∧ l1.length = 128 ∧ l2.length = 128
theorem clash_some (w : World) (a b : List UInt8) (A B : Option Addr) (ps qs : List (List UInt8)) (i n m mc k kc : Nat) (ha : a.length = 32) (hb : b.length = 32) (hi : i ≤ 4294967295) (hn : n ≤ 4294967295) (hm : m = ps.length) (hk : k = qs.length) (hA : DSrc w A ps) (hB : DSrc w B qs) (hmc : m ≤ mc) (hkc : k ≤ kc) (ht : TabAt w 1)
    (h1 : okS i n ps = true) (h2 : okS i n qs = true) (h3 : topS a i n ps = topS b i n qs) (hne : ¬ (a = b ∧ ps = qs)) :
    Calls Tryd.prog 41 #[.agg (a.map bv).toArray, .agg (b.map bv).toArray, .int .u32 i, .int .u32 n, .slice A m mc, .slice B k kc] w fun e w' => ∃ V1 V2, e = .returned (.tuple #[V1, V2, .bool true]) ∧ Found w' V1 V2 ∧ Below w.heap.size w w' := by
  have h4 := sidesS_32 i n (by omega)
  have e64 := all64_pastP a ha i n ps hA.1
  have f64 := all64_pastP b hb i n qs hB.1
  refine (clash_yes w a b A B ps qs i n m mc k kc ha hb hi hn hm hk hA hB hmc hkc ht (by rw [hm, (okS_spec h1).2]; omega) h1 h2 h3).mono ?_
  rintro e w' ⟨⟨he, hall⟩ | ⟨j, hj, hall, hpq, V1, V2, he, t1, t2⟩, hb⟩
  · exact absurd (same_of_past h1 h2 h3 (fun j hj => hall j (by omega))) hne
  · have l1 : (pastP a i n ps).length = ps.length := by rw [pastP_length, if_pos h1]
    have l2 : (pastP b i n qs).length = qs.length := by rw [pastP_length, if_pos h2]
    have hl : ps.length = qs.length := by rw [(okS_spec h1).2, (okS_spec h2).2]
    have p1 := e64 _ (List.mem_of_getElem? (pairAt_some (ps := pastP a i n ps) (j := j) (by omega)))
    have p2 := f64 _ (List.mem_of_getElem? (pairAt_some (ps := pastP b i n qs) (j := j) (by omega)))
    exact ⟨V1, V2, he, ⟨_, _, t1, t2, fun e => hpq (textS_inj p1 p2 e), clash_sum h1 h2 h3 (by omega) (fun j' h5 h6 => hall j' h5 (by omega)), textS_length p1, textS_length p2⟩, hb⟩

/-- a list's own path -/
theorem path_climb : ∀ (f : Nat) (ds : List (List UInt8)) (i : Nat), ds.length ≤ f → i < ds.length → ds.length ≤ 2 ^ 62 →
    (pathS ds i).length = (sidesS i ds.length).length ∧ climbS (ds.getD i []) (sidesS i ds.length) (pathS ds i) (pathS ds i).length = rootS ds
  | 0, ds, i, h, hi, _ => by omega
  | f + 1, ds, i, hf, hi, hm => by
    rcases Nat.lt_or_ge ds.length 2 with h2 | h2
    · have h1 : ds.length = 1 := by omega
      rw [pathS_one ds i (by omega), sidesS_one i _ (by omega)]
      obtain ⟨d, rfl⟩ : ∃ d, ds = [d] := List.length_eq_one_iff.1 h1
      obtain rfl : i = 0 := by simpa using hi
      exact ⟨rfl, (rootS_one d).symm⟩
    · obtain ⟨c0, c1, _⟩ := cut_spec ds.length h2 hm
      obtain ⟨k, hk⟩ : ∃ k, k = cut ds.length := ⟨_, rfl⟩
      rw [← hk] at c0 c1
      by_cases hik : i < k
      · have hlt : (ds.take k).length = k := by rw [List.length_take]; omega
        have ih := path_climb f (ds.take k) i (by omega) (by omega) (by omega)
        rw [hlt] at ih
        have e1 : (ds.take k).getD i [] = ds.getD i [] := by simp [List.getD_eq_getElem?_getD, hik]
        rw [e1] at ih
        rw [pathS_left ds i h2 hm (by omega), sidesS_left i _ h2 hm (by omega), ← hk]
        refine ⟨by simp [ih.1], ?_⟩
        rw [List.length_append, List.length_singleton, climbS, climbS_front _ _ _ _ _ _ (by omega) (by omega), ih.2, rootS_two ds h2 hm, ← hk]
        simp [stepS, kidsS, ih.1]
      · have hld : (ds.drop k).length = ds.length - k := List.length_drop
        have ih := path_climb f (ds.drop k) (i - k) (by omega) (by omega) (by omega)
        rw [hld] at ih
        have e1 : (ds.drop k).getD (i - k) [] = ds.getD i [] := by
          simp only [List.getD_eq_getElem?_getD, List.getElem?_drop]
          rw [show k + (i - k) = i from by omega]
        rw [e1] at ih
        rw [pathS_right ds i h2 hm (by omega), sidesS_right i _ h2 hm (by omega), ← hk]
        refine ⟨by simp [ih.1], ?_⟩
        rw [List.length_append, List.length_singleton, climbS, climbS_front _ _ _ _ _ _ (by omega) (by omega), ih.2, rootS_two ds h2 hm, ← hk]
        simp [stepS, kidsS, ih.1]
theorem path_checks (ds : List (List UInt8)) (d : List UInt8) (i : Nat) (hd : ds[i]? = some d) (hm : ds.length ≤ 2 ^ 62) : checkS (rootS ds) d i ds.length (pathS ds i) = true := by
  have hi := (List.getElem?_eq_some_iff.1 hd).1
  have e : ds.getD i [] = d := by rw [List.getD_eq_getElem?_getD, hd]; rfl
  obtain ⟨h1, h2⟩ := path_climb ds.length ds i (Nat.le_refl _) hi hm
  rw [e] at h2
  unfold checkS
  rw [h2]
  simp [hi, h1]
theorem checkS_ge (root leaf : List UInt8) (i n : Nat) (ps : List (List UInt8)) (h : n ≤ i) : checkS root leaf i n ps = false := by
  unfold checkS
  have : ¬ i < n := by omega
  simp [this]
theorem checkS_ok {root leaf : List UInt8} {i n : Nat} {ps : List (List UInt8)} (h : checkS root leaf i n ps = true) : okS i n ps = true ∧ topS leaf i n ps = root := by
  unfold checkS at h
  simp only [Bool.and_eq_true, decide_eq_true_eq] at h
  have h1 : okS i n ps = true := by unfold okS; simp [h.1, h.2.1]
  exact ⟨h1, by rw [topS_ok leaf h1]; exact h.2.2⟩
end Go.Proofs.YtimnpakmifjgoaaDoor
