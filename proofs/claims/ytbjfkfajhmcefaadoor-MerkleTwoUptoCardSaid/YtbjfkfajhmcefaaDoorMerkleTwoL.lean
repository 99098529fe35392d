/-
  The law on two lists, walked.
-/
import Derived.Test.YtbjfkfajhmcefaaDoorMAlive
namespace Go.Proofs.YtbjfkfajhmcefaaDoor
open Go.RowKit Sp

theorem and_bits (n : Nat) (h0 : 0 < n) (h1 : n ≤ 1048576) : bits .and .i64 (n : Int) ((n : Int) - 1) = ((n &&& (n - 1) : Nat) : Int) := by
  have e : ((n : Int) - 1) = ((n - 1 : Nat) : Int) := by omega
  have hw : (BitVec.ofInt 64 (n : Int) &&& BitVec.ofInt 64 ((n - 1 : Nat) : Int)).toNat = n &&& (n - 1) := by
    rw [BitVec.toNat_and]
    simp only [BitVec.ofInt_natCast, BitVec.toNat_ofNat]
    rw [Nat.mod_eq_of_lt (by omega), Nat.mod_eq_of_lt (by omega)]
  have hle : n &&& (n - 1) ≤ n := Nat.and_le_left
  rw [e]
  show IntKind.i64.wrap ((BitVec.ofInt 64 (n : Int) &&& BitVec.ofInt 64 ((n - 1 : Nat) : Int)).toNat : Int) = _
  rw [hw]
  rw [IntKind.wrap_i64]
  omega
theorem root_twice (l m : List (List UInt8)) (hl : 0 < l.length) (hm : 0 < m.length) (hml : m.length ≤ l.length) (h20 : l.length ≤ 1048576) (hp : l.length &&& (l.length - 1) = 0) : rootS (l ++ m) = nodeS (rootS l) (rootS m) := by
  obtain ⟨k, hk⟩ := (Nat.and_sub_one_eq_zero_iff_isPowerOfTwo (by omega)).1 hp
  have hk63 : k + 1 ≤ 64 := by
    rcases Nat.lt_or_ge k 21 with h | h
    · omega
    · have := Nat.pow_le_pow_right (n := 2) (by omega) h
      rw [← hk] at this
      omega
  have h2 : 2 ^ (k + 1) = 2 * 2 ^ k := by rw [Nat.pow_succ]; omega
  have hc : cut (l ++ m).length = l.length := by
    rw [hk]
    exact cut_is _ k (by rw [List.length_append]; omega) (by rw [List.length_append]; omega) hk63
  rw [rootS_two (l ++ m) (by rw [List.length_append]; omega) (by rw [List.length_append]; omega), hc]
  rw [List.take_left, List.drop_left]

set_option maxHeartbeats 1000000 in
set_option maxRecDepth 100000 in
theorem two_none (w : World) (A X : Option Addr) (n m c cx : Nat) (hln : n ≤ 1048576) (hlm : m ≤ 1048576) (hc : n ≤ c) (hcx : m ≤ cx) (hcm : c ≤ 9223372036854775807) (hcxm : cx ≤ 9223372036854775807) (ht : TabAt w 1) (htr : TabAt w 0) (h : n = 0) :
    Calls Tryd.prog 14 #[.slice A n c, .slice X m cx] w fun e w' => e = .returned (.bool true) ∧ Below w.heap.size w w' := by
  subst h
  have HC := Lib.hid ht
  have HR := Lib.hid htr
  clear ht htr
  go_enter Tryd.func14, Tryd.ntmps14
  go_wp2_with fail
  refine (alive2_any w HC.out HR.out).mono ?_
  rintro e w1 ⟨rfl, hb1⟩
  go_wp2
  go_ret
  exact ⟨rfl, hb1⟩

set_option maxHeartbeats 1000000 in
set_option maxRecDepth 100000 in
theorem two_bare (w : World) (A X : Option Addr) (n m c cx : Nat) (hln : n ≤ 1048576) (hlm : m ≤ 1048576) (hc : n ≤ c) (hcx : m ≤ cx) (hcm : c ≤ 9223372036854775807) (hcxm : cx ≤ 9223372036854775807) (ht : TabAt w 1) (htr : TabAt w 0) (h : 0 < n) (h2 : m = 0) :
    Calls Tryd.prog 14 #[.slice A n c, .slice X m cx] w fun e w' => e = .returned (.bool true) ∧ Below w.heap.size w w' := by
  subst h2
  have HC := Lib.hid ht
  have HR := Lib.hid htr
  clear ht htr
  have p1 : ¬ (n : Int) = 0 := by omega
  go_enter Tryd.func14, Tryd.ntmps14
  go_wp2_with fail
  refine (alive2_any w HC.out HR.out).mono ?_
  rintro e w1 ⟨rfl, hb1⟩
  go_wp2
  go_ret
  exact ⟨rfl, hb1⟩

set_option maxHeartbeats 1000000 in
set_option maxRecDepth 100000 in
theorem two_odd (w : World) (A X : Option Addr) (n m c cx : Nat) (hln : n ≤ 1048576) (hlm : m ≤ 1048576) (hc : n ≤ c) (hcx : m ≤ cx) (hcm : c ≤ 9223372036854775807) (hcxm : cx ≤ 9223372036854775807) (ht : TabAt w 1) (htr : TabAt w 0) (h : 0 < n) (h2 : 0 < m) (hp : n &&& (n - 1) ≠ 0) :
    Calls Tryd.prog 14 #[.slice A n c, .slice X m cx] w fun e w' => e = .returned (.bool true) ∧ Below w.heap.size w w' := by
  have HC := Lib.hid ht
  have HR := Lib.hid htr
  clear ht htr
  obtain ⟨q, hq⟩ : ∃ q, q = n &&& (n - 1) := ⟨_, rfl⟩
  have eand : bits .and .i64 (n : Int) ((n : Int) - 1) = (q : Int) := by rw [hq]; exact and_bits n (by omega) hln
  rw [← hq] at hp
  clear hq
  have p1 : ¬ (n : Int) = 0 := by omega
  have p2 : ¬ (m : Int) = 0 := by omega
  have p3 : ¬ (q : Int) = 0 := by omega
  go_enter Tryd.func14, Tryd.ntmps14
  go_wp2_with fail
  refine (alive2_any w HC.out HR.out).mono ?_
  rintro e w1 ⟨rfl, hb1⟩
  go_wp2
  go_ret
  exact ⟨rfl, hb1⟩

set_option maxHeartbeats 1000000 in
set_option maxRecDepth 100000 in
theorem two_far (w : World) (A X : Option Addr) (n m c cx : Nat) (hln : n ≤ 1048576) (hlm : m ≤ 1048576) (hc : n ≤ c) (hcx : m ≤ cx) (hcm : c ≤ 9223372036854775807) (hcxm : cx ≤ 9223372036854775807) (ht : TabAt w 1) (htr : TabAt w 0) (h : 0 < n) (h2 : 0 < m) (hp : n &&& (n - 1) = 0) (hlt : n < m) :
    Calls Tryd.prog 14 #[.slice A n c, .slice X m cx] w fun e w' => e = .returned (.bool true) ∧ Below w.heap.size w w' := by
  have HC := Lib.hid ht
  have HR := Lib.hid htr
  clear ht htr
  obtain ⟨q, hq⟩ : ∃ q, q = n &&& (n - 1) := ⟨_, rfl⟩
  have eand : bits .and .i64 (n : Int) ((n : Int) - 1) = (q : Int) := by rw [hq]; exact and_bits n (by omega) hln
  rw [← hq] at hp
  clear hq
  have p1 : ¬ (n : Int) = 0 := by omega
  have p2 : ¬ (m : Int) = 0 := by omega
  have p3 : (q : Int) = 0 := by omega
  have p4 : (n : Int) < (m : Int) := by omega
  go_enter Tryd.func14, Tryd.ntmps14
  go_wp2_with fail
  refine (alive2_any w HC.out HR.out).mono ?_
  rintro e w1 ⟨rfl, hb1⟩
  go_wp2
  go_ret
  exact ⟨rfl, hb1⟩

set_option maxHeartbeats 1000000 in
set_option maxRecDepth 100000 in
theorem two_full (w : World) (A X : Option Addr) (l r : List (List UInt8)) (n m c cx : Nat) (hn : n = l.length) (hm : m = r.length) (hln : n ≤ 1048576) (hlm : m ≤ 1048576) (hs : DSrc w A l) (hsx : DSrc w X r) (hc : n ≤ c) (hcx : m ≤ cx) (hcm : c ≤ 9223372036854775807) (hcxm : cx ≤ 9223372036854775807) (ht : TabAt w 1) (htr : TabAt w 0) (hsum : n + m ≤ 1048576) (h : 0 < n) (h2 : 0 < m) (hp : n &&& (n - 1) = 0) (hle : m ≤ n) :
    Calls Tryd.prog 14 #[.slice A n c, .slice X m cx] w fun e w' => e = .returned (.bool true) ∧ Below w.heap.size w w' := by
  have HC := Lib.hid ht
  have HR := Lib.hid htr
  have htl := ht.lt
  have hrl := htr.lt
  have hroot := root_twice l r (by omega) (by omega) (by omega) (by omega) (by rw [← hn]; exact hp)
  obtain ⟨L, hL⟩ : ∃ L, L = rootS l := ⟨_, rfl⟩
  obtain ⟨R, hR⟩ : ∃ R, R = rootS r := ⟨_, rfl⟩
  obtain ⟨D, hD⟩ : ∃ D, D = nodeS L R := ⟨_, rfl⟩
  have lL : L.length = 32 := by rw [hL]; exact rootS_length _ hs.1
  have lR : R.length = 32 := by rw [hR]; exact rootS_length _ hsx.1
  have lD : D.length = 32 := by rw [hD]; exact nodeS_length L R
  rw [← hL, ← hR, ← hD] at hroot
  have eD : ∀ W, (binOp .eql 24 (.agg (D.map bv).toArray) (.agg (D.map bv).toArray)).run Tryd.prog W = .ok (.bool true) W := fun W => by rw [run_eql_digs W _ _ lD lD]; simp
  obtain ⟨t, htt⟩ : ∃ t, t = l ++ r := ⟨_, rfl⟩
  rw [← htt] at hroot
  have HT := Lib.hid htt
  have HN := Lib.hid (And.intro hroot.symm (And.intro hL (And.intro hR hD)))
  have HL := Lib.hid (And.intro lL lR)
  have HH := Lib.hid (And.intro hn hm)
  have HS := Lib.hid hs
  have HX := Lib.hid hsx
  have hnm : n + m = t.length := by rw [htt, List.length_append, hn, hm]
  have HNM := Lib.hid hnm
  obtain ⟨q, hq⟩ : ∃ q, q = n &&& (n - 1) := ⟨_, rfl⟩
  have eand : bits .and .i64 (n : Int) ((n : Int) - 1) = (q : Int) := by rw [hq]; exact and_bits n (by omega) hln
  rw [← hq] at hp
  clear hq
  have p1 : ¬ (n : Int) = 0 := by omega
  have p2 : ¬ (m : Int) = 0 := by omega
  have p3 : (q : Int) = 0 := by omega
  have p4 : ¬ (n : Int) < (m : Int) := by omega
  clear ht htr hroot hL hR hD lL lR lD hn hm hs hsx hnm htt
  go_enter Tryd.func14, Tryd.ntmps14
  go_wp2_with (first
    | (at_builtin
       refine wpList_append_digs rfl (.tmp 30) (.tmp 31) rfl w.heap.size (.slice none 0 0) [] rfl (OwnD.nil _ _) A l n c HH.out.1 rfl HS.out (by simp only [List.length_nil]; rw [← HH.out.1]; omega) (Nat.le_refl _) ?_
       intro v1 w1 hv1 hg1 _
       have hb1 := below_ownD (Below.refl w.heap.size w) (OwnD.nil w w.heap.size) hg1 (Nat.le_refl _) (Nat.le_refl _)
       have hown1 : OwnD w1 w.heap.size v1 l := by simpa using hv1
       have HX1 := Lib.hid (HX.out.below hb1)
       have HS1 := Lib.hid (HS.out.below hb1)
       clear hv1 hg1)
    | (at_builtin
       refine wpList_append_digs rfl (.tmp 33) (.tmp 34) rfl w.heap.size v1 l rfl hown1 X r m cx HH.out.2 rfl HX1.out (by rw [← HH.out.1, ← HH.out.2]; omega) hb1.size ?_
       intro v2 w2 hv2 hg2 _
       have hb2 := below_ownD hb1 hown1 hg2 (Nat.le_refl _) hb1.size
       clear hown1 hg2))
  · refine (alive2_any w HC.out HR.out).mono ?_
    rintro e w1 ⟨rfl, hb1⟩
    go_wp2
    go_ret
    exact ⟨rfl, hb1⟩
  rw [← HT.out] at hv2
  obtain ⟨A2, c2, e2, hs2, hc2, hm2⟩ := hv2.any
  obtain ⟨k, hk⟩ : ∃ k, k = t.length := ⟨_, rfl⟩
  have hkn : k ≤ 1048576 := by rw [hk, ← HNM.out]; omega
  rw [← hk] at e2 hc2
  have HK := Lib.hid hk
  clear hv2 hk
  subst e2
  have HS2 := Lib.hid hs2
  clear hs2
  refine (alive2_any w2 (HC.out.below hb2 htl) (HR.out.below hb2 hrl)).mono ?_
  rintro e w3 ⟨rfl, hb3⟩
  have HS3 := Lib.hid (HS2.out.below hb3)
  have hb := hb2.trans (hb3.mono hb2.size)
  clear hb3
  go_wp2_with fail
  refine (calls_dv (root_any k w3 A2 t k c2 (Nat.le_refl _) HK.out hkn HS3.out hc2 hm2 (HC.out.below hb htl)) HN.out.1).mono ?_
  rintro e w4 ⟨rfl, hb4⟩
  have hb := Below.gr hb hb4
  clear hb4
  go_wp2_with fail
  refine (calls_dv (root_any n w4 A l n c (Nat.le_refl _) HH.out.1 hln (HS.out.below hb) hc hcm (HC.out.below hb htl)) HN.out.2.1).mono ?_
  rintro e w5 ⟨rfl, hb5⟩
  have hb := Below.gr hb hb5
  clear hb5
  go_wp2_with fail
  refine (calls_dv (root_any m w5 X r m cx (Nat.le_refl _) HH.out.2 hlm (HX.out.below hb) hcx hcxm (HC.out.below hb htl)) HN.out.2.2.1).mono ?_
  rintro e w6 ⟨rfl, hb6⟩
  have hb := Below.gr hb hb6
  clear hb6
  go_wp2_with fail
  refine (calls_dv (node_any w6 L R HL.out.1 HL.out.2 (HC.out.below hb htl)) HN.out.2.2.2).mono ?_
  rintro e w7 ⟨rfl, hb7⟩
  have hb := Below.gr hb hb7
  clear hb7
  go_wp2
  go_ret
  exact ⟨rfl, hb⟩

theorem law_two (w : World) (A X : Option Addr) (l r : List (List UInt8)) (c cx : Nat) (hln : l.length ≤ 1048576) (hlm : r.length ≤ 1048576) (hs : DSrc w A l) (hsx : DSrc w X r) (hc : l.length ≤ c) (hcx : r.length ≤ cx) (hcm : c ≤ 9223372036854775807) (hcxm : cx ≤ 9223372036854775807) (ht : TabAt w 1) (htr : TabAt w 0) (hsum : l.length + r.length ≤ 1048576) :
    Calls Tryd.prog 14 #[.slice A l.length c, .slice X r.length cx] w fun e w' => e = .returned (.bool true) ∧ Below w.heap.size w w' := by
  rcases Nat.eq_zero_or_pos l.length with h | h
  · exact two_none w A X _ _ c cx hln hlm hc hcx hcm hcxm ht htr h
  rcases Nat.eq_zero_or_pos r.length with h2 | h2
  · exact two_bare w A X _ _ c cx hln hlm hc hcx hcm hcxm ht htr h h2
  by_cases hp : l.length &&& (l.length - 1) = 0
  · rcases Nat.lt_or_ge l.length r.length with h3 | h3
    · exact two_far w A X _ _ c cx hln hlm hc hcx hcm hcxm ht htr h h2 hp h3
    · exact two_full w A X l r _ _ c cx rfl rfl hln hlm hs hsx hc hcx hcm hcxm ht htr hsum h h2 hp h3
  · exact two_odd w A X _ _ c cx hln hlm hc hcx hcm hcxm ht htr h h2 hp
end Go.Proofs.YtbjfkfajhmcefaaDoor
