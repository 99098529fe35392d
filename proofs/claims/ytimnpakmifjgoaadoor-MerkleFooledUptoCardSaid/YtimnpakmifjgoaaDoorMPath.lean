/-
  Path: the program's and the document's; are two paths the same?
-/
import Derived.Test.YtimnpakmifjgoaaDoorMOwn
namespace Go.Proofs.YtimnpakmifjgoaaDoor
open Go.RowKit Sp

def SibPost (w : World) (ps : List (List UInt8)) (e : Ending) (w' : World) : Prop := ∃ v, e = .returned v ∧ OwnD w' w.heap.size v ps ∧ Below w.heap.size w w'
theorem below_ownD {B base : Nat} {w0 w w' : World} {v : Value} {ds : List (List UInt8)} (h : Below B w0 w) (hown : OwnD w base v ds) (hg : w.grownBy w' v.ownBlock) (hB : B ≤ base) (hw : B ≤ w.heap.size) : Below B w0 w' := below_ownE h hown hg hB hw
theorem OwnD.le {w : World} {b b' : Nat} {v : Value} {ds : List (List UInt8)} (h : OwnD w b v ds) (hb : b' ≤ b) : OwnD w b' v ds := OwnE.le h hb

set_option maxHeartbeats 2000000 in
set_option maxRecDepth 100000 in
theorem siblings_any (f : Nat) : ∀ (w : World) (A : Option Addr) (ds : List (List UInt8)) (n c i : Nat), n ≤ f → n = ds.length → i < n → n ≤ 1048576 → DSrc w A ds → n ≤ c → c ≤ 9223372036854775807 → TabAt w 1 →
    Calls Tryd.prog 52 #[.slice A n c, .int .i64 i] w (SibPost w (pathS ds i)) := by
  induction f with
  | zero =>
    intro w A ds n c i hf hn hi
    omega
  | succ f ih =>
    intro w A ds n c i hf hn hi hm hs hc hcm ht
    have HC := Lib.hid ht
    have htl := ht.lt
    clear ht
    have hii : (0 : Int) ≤ (i : Int) := by omega
    rcases Nat.lt_or_ge n 2 with h2 | h2
    · obtain rfl : n = 1 := by omega
      have hp := pathS_one ds i (by omega)
      rw [hp]
      clear hn hp hs
      go_enter Tryd.func52, Tryd.ntmps52
      go_wp2
      go_ret
      exact ⟨_, rfl, OwnE.nil _ _ _ _, Below.refl _ _⟩
    · obtain ⟨b, o, rfl, hlt⟩ := hs.addr (by omega)
      obtain ⟨c0, c1, c2, _⟩ := cut_spec n h2 (by omega)
      have hpl : i < cut n → pathS ds i = pathS (ds.take (cut n)) i ++ [rootS (ds.drop (cut n))] := by rw [hn]; exact pathS_left ds i (by omega) (by omega)
      have hpr : ¬ i < cut n → pathS ds i = pathS (ds.drop (cut n)) (i - cut n) ++ [rootS (ds.take (cut n))] := by rw [hn]; exact pathS_right ds i (by omega) (by omega)
      have hlk : (ds.take (cut n)).length = cut n := by rw [List.length_take]; omega
      have hrk : (ds.drop (cut n)).length = n - cut n := by rw [List.length_drop]; omega
      have hsl : DSrc w (some ⟨b, o, none⟩) (ds.take (cut n)) := hs.take _
      have hsr : DSrc w (some ⟨b, o + cut n * 32, none⟩) (ds.drop (cut n)) := hs.drop _
      obtain ⟨L, hL⟩ : ∃ L, L = ds.take (cut n) := ⟨_, rfl⟩
      obtain ⟨R, hR⟩ : ∃ R, R = ds.drop (cut n) := ⟨_, rfl⟩
      rw [← hL] at hpl hpr hlk hsl
      rw [← hR] at hpl hpr hrk hsr
      have xl : (rootS L).length = 32 := rootS_length _ hsl.1
      have xr : (rootS R).length = 32 := rootS_length _ hsr.1
      obtain ⟨X, hX⟩ : ∃ X, X = rootS L := ⟨_, rfl⟩
      obtain ⟨Y, hY⟩ : ∃ Y, Y = rootS R := ⟨_, rfl⟩
      obtain ⟨k, hk⟩ : ∃ k, k = cut n := ⟨_, rfl⟩
      rw [← hX] at hpr xl
      rw [← hY] at hpl xr
      rw [← hk] at c0 c1 c2 hlk hrk hsr hpl hpr
      have HS := Lib.hid (And.intro hsl hsr)
      have HX := Lib.hid (And.intro hX hY)
      have HL := Lib.hid (And.intro xl xr)
      have HK := Lib.hid (And.intro hk (And.intro hlk hrk))
      have HP := Lib.hid (And.intro hpl hpr)
      clear hs hn hpl hpr hsl hsr hL hR hX hY xl xr hk hlk hrk
      by_cases hik : i < k
      · rw [HP.out.1 hik]
        go_enter Tryd.func52, Tryd.ntmps52
        go_wp2_with fail
        refine (halves_any _ b o n c h2 (by omega) hc).mono ?_
        rintro e w1 ⟨rfl, hb1⟩
        rw [← HK.out.1]
        go_wp2_with fail
        refine (ih w1 _ L k k i (by omega) HK.out.2.1.symm (by omega) (by omega) (HS.out.1.below hb1) (Nat.le_refl _) (by omega) (HC.out.below hb1 htl)).mono ?_
        rintro e w2 ⟨v, rfl, hown, hb2⟩
        have hb := hb1.trans (hb2.mono hb1.size)
        have hown := hown.le hb1.size
        clear hb2
        go_wp2_with fail
        refine (root_any (n - k) w2 _ R (n - k) (n - k) (Nat.le_refl _) HK.out.2.2.symm (by omega) (HS.out.2.below hb) (Nat.le_refl _) (by omega) (HC.out.below hb htl)).mono ?_
        rintro e w3 ⟨rfl, hb3⟩
        rw [← HX.out.2]
        have hown := hown.below hb3
        have hb := hb.trans (hb3.mono hb.size)
        clear hb3
        unfold dv
        go_wp2_with (first
          | (refine wpList_one_dig rfl (.tmp 23) rfl Y HL.out.2 rfl w3.heap.size rfl ?_
             intro w4 hd4 hb4 hl4
             have hown4 := hown.below hb4
             have hB := hb.trans (hb4.mono hb.size))
          | (at_builtin
             refine wpList_append_digs rfl (.tmp 21) (.tmp 24) rfl w.heap.size v _ rfl hown4 _ [Y] 1 1 rfl rfl hd4 (by have := pathS_length L i; rw [HK.out.2.1] at this; simp only [List.length_singleton]; omega) hB.size ?_
             intro v5 w5 hv5 hg5 _
             have hb5 := below_ownD hB hown4 hg5 (Nat.le_refl _) hB.size))
        go_ret
        exact ⟨_, rfl, hv5, hb5⟩
      · rw [HP.out.2 hik]
        have hki : (k : Int) ≤ (i : Int) := by omega
        have hsub : (i : Int) - (k : Int) = ((i - k : Nat) : Int) := by omega
        have HB := Lib.hid hsub
        clear hsub
        go_enter Tryd.func52, Tryd.ntmps52
        go_wp2_with fail
        refine (halves_any _ b o n c h2 (by omega) hc).mono ?_
        rintro e w1 ⟨rfl, hb1⟩
        rw [← HK.out.1]
        go_wp2_with fail
        rw [HB.out]
        refine (ih w1 _ R (n - k) (n - k) (i - k) (by omega) HK.out.2.2.symm (by omega) (by omega) (HS.out.2.below hb1) (Nat.le_refl _) (by omega) (HC.out.below hb1 htl)).mono ?_
        rintro e w2 ⟨v, rfl, hown, hb2⟩
        have hb := hb1.trans (hb2.mono hb1.size)
        have hown := hown.le hb1.size
        clear hb2
        go_wp2_with fail
        refine (root_any k w2 _ L k k (Nat.le_refl _) HK.out.2.1.symm (by omega) (HS.out.1.below hb) (Nat.le_refl _) (by omega) (HC.out.below hb htl)).mono ?_
        rintro e w3 ⟨rfl, hb3⟩
        rw [← HX.out.1]
        have hown := hown.below hb3
        have hb := hb.trans (hb3.mono hb.size)
        clear hb3
        unfold dv
        go_wp2_with (first
          | (refine wpList_one_dig rfl (.tmp 33) rfl X HL.out.1 rfl w3.heap.size rfl ?_
             intro w4 hd4 hb4 hl4
             have hown4 := hown.below hb4
             have hB := hb.trans (hb4.mono hb.size))
          | (at_builtin
             refine wpList_append_digs rfl (.tmp 31) (.tmp 34) rfl w.heap.size v _ rfl hown4 _ [X] 1 1 rfl rfl hd4 (by have := pathS_length R (i - k); rw [HK.out.2.2] at this; simp only [List.length_singleton]; omega) hB.size ?_
             intro v5 w5 hv5 hg5 _
             have hb5 := below_ownD hB hown4 hg5 (Nat.le_refl _) hB.size))
        go_ret
        exact ⟨_, rfl, hv5, hb5⟩

def PathPost (w : World) (ps : List (List UInt8)) (e : Ending) (w' : World) : Prop := ∃ v, e = .returned (.tuple #[v, .bool true]) ∧ OwnD w' w.heap.size v ps ∧ Below w.heap.size w w'

set_option maxHeartbeats 1000000 in
theorem path_any (w : World) (A : Option Addr) (ds : List (List UInt8)) (n c i : Nat) (hn : n = ds.length) (hi : i < n) (hm : n ≤ 1048576) (hs : DSrc w A ds) (hc : n ≤ c) (hcm : c ≤ 9223372036854775807) (ht : TabAt w 1) :
    Calls Tryd.prog 36 #[.slice A n c, .int .i64 i] w (PathPost w (pathS ds i)) := by
  have HC := Lib.hid ht
  have HS := Lib.hid (And.intro hn hs)
  have hii : (0 : Int) ≤ (i : Int) := by omega
  have hin : (i : Int) < (n : Int) := by omega
  clear ht hs hn
  go_enter Tryd.func36, Tryd.ntmps36
  go_wp2_with fail
  refine (siblings_any n w A ds n c i (Nat.le_refl _) HS.out.1 hi hm HS.out.2 hc hcm HC.out).mono ?_
  rintro e w1 ⟨v, rfl, hown, hb⟩
  go_wp2
  go_ret2
  exact ⟨v, rfl, hown, hb⟩
set_option maxHeartbeats 1000000 in
theorem path_no (w : World) (A : Option Addr) (n c : Nat) (z : Int) (hz : z < 0 ∨ (n : Int) ≤ z) :
    Calls Tryd.prog 36 #[.slice A n c, .int .i64 z] w fun e w' => e = .returned (.tuple #[.slice none 0 0, .bool false]) ∧ Below w.heap.size w w' := by
  rcases Int.lt_or_le z 0 with h0 | h0
  · go_enter Tryd.func36, Tryd.ntmps36
    go_wp2_with fail
    go_ret2
    exact ⟨rfl, Below.refl _ _⟩
  · have h1 : (n : Int) ≤ z := by omega
    clear hz
    go_enter Tryd.func36, Tryd.ntmps36
    go_wp2_with fail
    go_ret2
    exact ⟨rfl, Below.refl _ _⟩
end Go.Proofs.YtimnpakmifjgoaaDoor
