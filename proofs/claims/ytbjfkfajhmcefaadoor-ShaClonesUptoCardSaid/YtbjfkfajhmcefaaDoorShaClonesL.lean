/-
  The law on clones, walked.
-/
import Derived.Test.YtbjfkfajhmcefaaDoorRefOf
import Derived.Test.YtbjfkfajhmcefaaDoorShaLess
import Derived.Test.YtbjfkfajhmcefaaDoorOwnAny
namespace Go.Proofs.YtbjfkfajhmcefaaDoor
open Go.RowKit Sp

set_option maxHeartbeats 1000000 in
set_option maxRecDepth 100000 in
theorem law_clones (w : World) (A B C : Option Addr) (a b c : List UInt8) (ca cb cc : Nat) (hA : Src w A a) (hB : Src w B b) (hC : Src w C c) (la : a.length ≤ 1048576) (lb : b.length ≤ 1048576) (lc : c.length ≤ 1048576)
    (ka : a.length ≤ ca) (kb : b.length ≤ cb) (kc : c.length ≤ cc) (ma : ca ≤ 9223372036854775807) (mb : cb ≤ 9223372036854775807) (mc : cc ≤ 9223372036854775807) (ht : TabAt w 1) (htr : TabAt w 0) :
    Calls Tryd.prog 5 #[.slice A a.length ca, .slice B b.length cb, .slice C c.length cc] w fun e w' => e = .returned (.bool true) ∧ Below w.heap.size w w' := by
  have HA := Lib.hid hA
  have HB := Lib.hid hB
  have HC := Lib.hid hC
  have HT := Lib.hid ht
  have HR := Lib.hid htr
  have htl := ht.lt
  have hbl (S : Option Addr) (m : List UInt8) (N : Nat) (h : Src w S m) (hN : w.heap.size ≤ N) : m ≠ [] → ∀ x, S = some x → x.block ≠ N := fun hne x hx => by
    obtain ⟨b', o, he, hlt, _⟩ := h hne
    rw [he] at hx
    injection hx with hx
    subst hx
    show b' ≠ N
    omega
  have HBL := Lib.hid hbl
  clear hA hB hC ht htr hbl
  obtain ⟨X, hX⟩ : ∃ X, X = a ++ b := ⟨_, rfl⟩
  obtain ⟨Y, hY⟩ : ∃ Y, Y = a ++ c := ⟨_, rfl⟩
  have lX : X.length ≤ 2097152 := by rw [hX, List.length_append]; omega
  have lY : Y.length ≤ 2097152 := by rw [hY, List.length_append]; omega
  have HX := Lib.hid (And.intro hX hY)
  clear hX hY
  have e1 : ∀ W, (binOp .eql 24 (.agg ((sum X).map bv).toArray) (.agg ((sum X).map bv).toArray)).run Tryd.prog W = .ok (.bool true) W := fun W => by rw [run_eql_dv W _ _ (sum_length X) (sum_length X)]; simp
  have e2 : ∀ W, (binOp .eql 24 (.agg ((sum Y).map bv).toArray) (.agg ((sum Y).map bv).toArray)).run Tryd.prog W = .ok (.bool true) W := fun W => by rw [run_eql_dv W _ _ (sum_length Y) (sum_length Y)]; simp
  go_enter Tryd.func5, Tryd.ntmps5
  go_wp2_with fail
  refine (new_at _ w.heap.size rfl).mono ?_
  rintro e w1 ⟨rfl, hb, hh, hl⟩
  go_wp2_with fail
  refine (alive_any _ (HT.out.below hb htl)).mono ?_
  rintro e w2 ⟨rfl, hb2⟩
  have hh := hh.below hb2 hl
  have hb := hb.trans (hb2.mono hb.size)
  clear hb2 hl
  go_wp2_with fail
  refine (write_any _ w.heap.size [] a A ca hh (HA.out.below hb) (HBL.out A a _ HA.out (Nat.le_refl _)) (HT.out.below hb htl) (by omega) ka ma (by simp; omega)).mono ?_
  rintro e w3 ⟨rfl, ho3, hh⟩
  have hb := hb.trans (below_of_only ho3 hb.size (Nat.le_refl _))
  clear ho3
  go_wp2_with fail
  refine (clone_any _ w.heap.size a (by simpa using hh)).mono ?_
  rintro e w4 ⟨rfl, hb4, hk, hl4⟩
  have hN : w.heap.size < w3.heap.size := hh.lt
  have hh := hh.below hb4 hN
  have hb := hb.trans (hb4.mono hb.size)
  clear hb4
  go_wp2_with fail
  refine (write_any _ w.heap.size a b B cb (by simpa using hh) (HB.out.below hb) (HBL.out B b _ HB.out (Nat.le_refl _)) (HT.out.below hb htl) (by omega) kb mb (by omega)).mono ?_
  rintro e w5 ⟨rfl, ho5, hh⟩
  have hk := hk.only ho5 (fun e => by injection e; omega)
  have hb := hb.trans (below_of_only ho5 hb.size (Nat.le_refl _))
  clear ho5
  go_wp2_with fail
  refine (write_any _ w3.heap.size a c C cc hk (HC.out.below hb) (HBL.out C c _ HC.out (Nat.le_of_lt hN)) (HT.out.below hb htl) (by omega) kc mc (by omega)).mono ?_
  rintro e w6 ⟨rfl, ho6, hk⟩
  have hh := hh.only ho6 (fun e => by injection e; omega)
  have hb := hb.trans (below_of_only ho6 hb.size (Nat.le_of_lt hN))
  rw [← HX.out.1] at hh
  rw [← HX.out.2] at hk
  clear ho6
  go_wp2_with (first
    | (at_builtin
       refine wpList_append_bytes rfl (.tmp 31) (.tmp 32) rfl w6.heap.size _ [] rfl (OwnB.lit w6 _ (Nat.le_refl _)) A a ca rfl (HA.out.below (hb.alloc hb.size _)) (by simp; omega) (by simp) ?_
       intro v1 w7 hv1 hg1
       have b7 := below_own ((Below.refl w6.heap.size w6).alloc (Nat.le_refl _) (.cells #[] 5)) (OwnB.lit w6 _ (Nat.le_refl _)) hg1 (Nat.le_refl _) (by simp)
       have hb7 := hb.trans (b7.mono hb.size))
    | (at_builtin
       refine wpList_append_bytes rfl (.tmp 33) (.tmp 34) rfl w6.heap.size v1 a rfl (by simpa using hv1) B b cb rfl (HB.out.below hb7) (by omega) b7.size ?_
       intro v2 w8 hv2 hg2
       have b8 := below_own b7 (OwnB.mk (l := a) (by simpa using hv1)) hg2 (Nat.le_refl _) b7.size
       have hb8 := hb.trans (b8.mono hb.size)
       rw [← HX.out.1] at hv2)
    | (at_builtin
       refine wpList_append_bytes rfl (.tmp 36) (.tmp 37) rfl w8.heap.size _ [] rfl (OwnB.lit w8 _ (Nat.le_refl _)) A a ca rfl (HA.out.below (hb8.alloc hb8.size _)) (by simp; omega) (by simp) ?_
       intro v3 w9 hv3 hg3
       have b9 := below_own ((Below.refl w8.heap.size w8).alloc (Nat.le_refl _) (.cells #[] 5)) (OwnB.lit w8 _ (Nat.le_refl _)) hg3 (Nat.le_refl _) (by simp)
       have hb9 := hb8.trans (b9.mono hb8.size))
    | (at_builtin
       refine wpList_append_bytes rfl (.tmp 38) (.tmp 39) rfl w8.heap.size v3 a rfl (by simpa using hv3) C c cc rfl (HC.out.below hb9) (by omega) b9.size ?_
       intro v4 w10 hv4 hg4
       have b10 := below_own b9 (OwnB.mk (l := a) (by simpa using hv3)) hg4 (Nat.le_refl _) b9.size
       have hb10 := hb8.trans (b10.mono hb8.size)
       rw [← HX.out.2] at hv4
       have hx := hv2.below b10
       obtain ⟨SX, kX, rfl, sX, cX, mX⟩ := hx.any
       obtain ⟨SY, kY, rfl, sY, cY, mY⟩ := hv4.any
       have hh := (hh.below b8 hh.lt).below b10 (Nat.lt_of_lt_of_le hh.lt b8.size)
       have hk := (hk.below b8 hk.lt).below b10 (Nat.lt_of_lt_of_le hk.lt b8.size)))
  have sX0 := Lib.hid sX
  have sY0 := Lib.hid sY
  clear sX sY hv2 hv3 hv4 hx
  refine (sum_any _ w.heap.size X hh (HT.out.below hb10 htl) (by omega)).mono ?_
  rintro e w11 ⟨rfl, hb11⟩
  have hh := hh.below hb11 hh.lt
  have hk := hk.below hb11 hk.lt
  have sX := sX0.out.below hb11
  have sY := sY0.out.below hb11
  have hb11' := hb10.trans (hb11.mono hb10.size)
  unfold dv
  go_wp2_with fail
  refine (ofR_any _ SX X kX sX (by omega) (HR.out.below hb11' HR.out.lt)).mono ?_
  rintro e w12 ⟨rfl, hb12⟩
  have hh := hh.below hb12 hh.lt
  have hk := hk.below hb12 hk.lt
  have sY := sY.below hb12
  have hb12' := hb11'.trans (hb12.mono hb11'.size)
  unfold dv
  go_wp2_with fail
  refine (sum_any _ w3.heap.size Y hk (HT.out.below hb12' htl) (by omega)).mono ?_
  rintro e w13 ⟨rfl, hb13⟩
  have hh := hh.below hb13 hh.lt
  have hk := hk.below hb13 hk.lt
  have sY := sY.below hb13
  have hb13' := hb12'.trans (hb13.mono hb12'.size)
  unfold dv
  go_wp2_with fail
  refine (ofR_any _ SY Y kY sY (by omega) (HR.out.below hb13' HR.out.lt)).mono ?_
  rintro e w14 ⟨rfl, hb14⟩
  have hh := hh.below hb14 hh.lt
  have hk := hk.below hb14 hk.lt
  have hb14' := hb13'.trans (hb14.mono hb13'.size)
  unfold dv
  go_wp2_with (first
    | (go_at_call 21; with_reducible refine (len_any _ w.heap.size X hh).mono ?_; rintro e w15 ⟨rfl, rfl⟩)
    | (go_at_call 21; with_reducible refine (len_any _ w3.heap.size Y hk).mono ?_; rintro e w15 ⟨rfl, rfl⟩))
  go_ret
  exact ⟨rfl, hb14'⟩
end Go.Proofs.YtbjfkfajhmcefaaDoor
