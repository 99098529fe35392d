/-
  The law on pieces, walked.
-/
import Derived.Test.YtbjfkfajhmcefaaDoorRefTag
namespace Go.Proofs.YtbjfkfajhmcefaaDoor
open Go.RowKit Sp

theorem OwnB.stored {w : World} {base g n cap : Nat} {l : List UInt8} (h : OwnB w base (.slice (some ⟨g, 0, none⟩) n cap) l) (hn : n = l.length) (j : Nat) (u : UInt8) : OwnB (w.setCell ⟨g, j, none⟩ (bv u)) base (.slice (some ⟨g, 0, none⟩) n cap) (l.set j u) := by
  subst hn
  have h1 := (World.ownsRow.stored h j (bv u)).1
  unfold OwnB
  rw [List.map_set, List.length_set]
  exact h1
theorem OwnB.ne {w : World} {base : Nat} {v : Value} {l : List UInt8} (h : OwnB w base v l) {g : Nat} (hg : g < base) : some g ≠ v.ownBlock := fun e => by
  have := (World.ownsRow.lt h g e.symm).1
  omega
theorem OwnB.far {w w' : World} {base base' : Nat} {v u : Value} {l m : List UInt8} (h : OwnB w base u l) (hk : OwnB w' base' v m) (hb : w.heap.size ≤ base') : Apart v u := fun k h1 h2 => by
  have a := (World.ownsRow.lt h k h2).2
  have b := (World.ownsRow.lt hk k h1).1
  omega
theorem OwnB.off {w : World} {base : Nat} {A : Option Addr} {q cap : Nat} {l : List UInt8} (h : OwnB w base (.slice A q cap) l) {g : Nat} (hg : g < base) : l ≠ [] → ∀ a, A = some a → a.block ≠ g := fun _ a ha e => by
  subst ha
  exact h.ne hg (by show _ = some a.block; rw [e])

set_option maxHeartbeats 4000000 in
set_option maxRecDepth 100000 in
theorem law_pieces (w : World) (T : Option Addr) (ts : List Tx) (ct : Nat) (hT : Texts w T ts) (hm : (cat ts).length ≤ 1048576) (hn : ts.length ≤ 1048576)
    (ht : TabAt w 1) (htr : TabAt w 0) :
    Calls Tryd.prog 4 #[.slice T ts.length ct] w fun e w' => e = .returned (.bool true) ∧ Below w.heap.size w w' := by
  have HT := Lib.hid hT
  have HC := Lib.hid ht
  have HR := Lib.hid htr
  have htl := ht.lt
  have hrl := htr.lt
  have HM := Lib.hid hm
  clear hT ht htr hm
  have e1 : ∀ (X : List UInt8) W, (binOp .eql 24 (.agg ((sum X).map bv).toArray) (.agg ((sum X).map bv).toArray)).run Tryd.prog W = .ok (.bool true) W := fun X W => by rw [run_eql_dv W _ _ (sum_length X) (sum_length X)]; simp
  have e2 : ∀ (X : List UInt8) W, (binOp .neq 24 (.agg ((sum X).map bv).toArray) (.agg ((sum X).map bv).toArray)).run Tryd.prog W = .ok (.bool false) W := fun X W => by rw [run_neq_dv W _ _ (sum_length X) (sum_length X)]; simp
  go_enter Tryd.func4, Tryd.ntmps4
  go_wp2_with fail
  refine (new_at _ w.heap.size rfl).mono ?_
  rintro e w1 ⟨rfl, hb, hh, hl⟩
  go_wp2_with fail
  refine (alive_any _ (HC.out.below hb htl)).mono ?_
  rintro e w2 ⟨rfl, hb2⟩
  have hh := hh.below hb2 hl
  have hb := hb.trans (hb2.mono hb.size)
  have hz : w.heap.size + 1 ≤ w2.heap.size := hh.lt
  clear hb2 hl
  go_wp2
  go_loopw [4, 17] (fun v i wr => ∃ (k : Nat) (v0 : Value), k ≤ ts.length ∧ v0 = v ∧ i = .int .i64 k ∧ OwnB wr (w.heap.size + 1) v0 (cat (ts.take k)) ∧ HashIs wr w.heap.size (cat (ts.take k)) ∧ Below w.heap.size w wr ∧ w.heap.size + 1 ≤ wr.heap.size)
    (fun _ i _ => ts.length - (intOf i).toNat)
  case atStart => exact ⟨0, _, Nat.zero_le _, rfl, rfl, OwnB.nil _ _, by simpa [cat] using hh, hb, hz⟩
  case round =>
    clear hh hb hz
    obtain ⟨k, v0, hk, rfl, rfl, hown, hh, hb, hz⟩ := hrel
    by_cases hlt : k < ts.length
    · obtain ⟨x, hx⟩ : ∃ x, ts[k]? = some x := ⟨ts[k], List.getElem?_eq_getElem hlt⟩
      obtain ⟨b, o, rfl, hbl, htx⟩ := HT.out (fun e => by rw [e] at hlt; exact absurd hlt (Nat.not_lt_zero _))
      obtain ⟨wo, rfl⟩ : ∃ wo : World, wo = wr := ⟨_, rfl⟩
      have hc : wo.cell? ⟨b, o + k, none⟩ = some (.slice x.A x.l.length x.c) := (hb.cell (p := ⟨b, o + k, none⟩) hbl).trans (htx k x hx).1
      have hok := (htx k x hx).2.below hb
      have hlx := cat_next ts k x hx
      have hlx2 : x.l.length ≤ 1048576 := by have := HM.out; omega
      obtain ⟨M, hM⟩ : ∃ M, M = cat (ts.take k) := ⟨_, rfl⟩
      rw [← hM] at hown hh hlx
      have HX := Lib.hid (And.intro hx (And.intro htx (And.intro hok (And.intro hlx hM))))
      have hbz := hb.size
      have hblo : b < wo.heap.size := Nat.lt_of_lt_of_le hbl hbz
      clear hx htx hok hlx hM
      go_wp2_with (at_builtin
                   refine wpList_append_bytes rfl (.tmp 20) (.tmp 24) rfl wo.heap.size _ [] rfl (OwnB.lit wo _ (Nat.le_refl _)) x.A x.l x.c rfl (HX.out.2.2.1.1.below ((Below.refl _ _).alloc (Nat.le_refl _) _)) (by simp; omega) (by simp) ?_
                   intro v1 w1 hv1 hg1
                   have b1 := below_own ((Below.refl wo.heap.size wo).alloc (Nat.le_refl _) (.cells #[] 5)) (OwnB.lit wo _ (Nat.le_refl _)) hg1 (Nat.le_refl _) (by simp)
                   have hp1 : OwnB w1 wo.heap.size v1 x.l := by simpa using hv1
                   have hh1 := hh.below b1 hh.lt
                   have hown1 := hown.below b1
                   have hb1 := hb.trans (b1.mono hb.size)
                   obtain ⟨A1, c1, rfl, hs1, hc1, hcm1⟩ := hp1.any
                   have HS1 := Lib.hid hs1
                   clear hv1 hg1 hs1)
      refine (write_any w1 w.heap.size M x.l A1 c1 hh1 HS1.out (hp1.off hh.lt) (HC.out.below hb1 htl) (by omega) hc1 hcm1 (by have := HX.out.2.2.2.1; have := HM.out; omega)).mono ?_
      rintro e w2 ⟨rfl, ho2, hh2⟩
      have hp2 : OwnB w2 wo.heap.size (.slice A1 x.l.length c1) x.l := World.ownsRow.kept hp1 ho2 (by
        cases hv : (Value.slice A1 x.l.length c1).ownBlock with
        | none => exact .inl rfl
        | some z => exact .inr (fun e => by have := hp1.ne hh.lt; rw [hv] at this; exact this e.symm))
      have hown2 : OwnB w2 (w.heap.size + 1) v0 M := World.ownsRow.kept hown1 ho2 (by
        cases hv : v0.ownBlock with
        | none => exact .inl rfl
        | some z => exact .inr (fun e => by have := hown1.ne (Nat.lt_succ_self _); rw [hv] at this; exact this e.symm))
      have hb2 := hb1.trans (below_of_only ho2 hb1.size (Nat.le_refl _))
      have hz2 : w.heap.size + 1 ≤ w2.heap.size := hh2.lt
      have hlo := hh.lt
      clear ho2 hh1 hown1 hb1 hp1 b1
      go_wp2
      go_loopw [31] (fun i wi => ∃ (j : Nat) (l' : List UInt8), j ≤ x.l.length ∧ i = .int .i64 j ∧ Hid (l'.length = x.l.length ∧ OwnB wi wo.heap.size (.slice A1 x.l.length c1) l') ∧ w2.grownBy wi (Value.slice A1 x.l.length c1).ownBlock)
        (fun i _ => x.l.length - (intOf i).toNat)
      case atStart => exact ⟨0, x.l, Nat.zero_le _, rfl, Lib.hid ⟨rfl, hp2⟩, World.grownBy.refl _ _⟩
      case round =>
        obtain ⟨j, l', hj, rfl, hl', hgi⟩ := hrel
        by_cases hjl : j < x.l.length
        · obtain ⟨g, c1', he1, hg0, hgl⟩ := hl'.out.2.form (by rw [hl'.out.1]; omega)
          injection he1 with ea eb ec
          subst ea
          obtain ⟨u, hu⟩ : ∃ u, l'[j]? = some u := ⟨l'[j]'(by rw [hl'.out.1]; exact hjl), List.getElem?_eq_getElem _⟩
          have hcj := hl'.out.2.cell j u hu
          unfold bv at hcj
          have hfj : wr.frozen? ⟨g, j, none⟩ = false := by
            have h0 := hl'.out.2
            unfold OwnB at h0
            rw [hl'.out.1] at h0
            exact World.ownsRow.frozenAt h0 j
          have HU := Lib.hid hu
          clear eb ec hu
          go_wp2
          go_roundw
          case rel => exact ⟨j + 1, l'.set j 77, by omega, by go_num, Lib.hid ⟨by rw [List.length_set]; exact hl'.out.1, OwnB.stored hl'.out.2 hl'.out.1.symm j 77⟩, only_setCell (g := g) hgi (p := ⟨g, j, none⟩) (.inl rfl) _⟩
          case measure => simp [intOf]; omega
        · obtain rfl : j = x.l.length := by omega
          have hown3 : OwnB wr (w.heap.size + 1) v0 M := OwnB.stay hown2 hgi (OwnB.far hown hp2 (Nat.le_refl _))
          have hh3 := hh2.only hgi (hp2.ne hlo)
          have hb3 := below_own hb2 hp2 hgi hbz hb2.size
          have hz3 : w.heap.size + 1 ≤ wr.heap.size := hh3.lt
          have hc3 : wr.cell? ⟨b, o + k, none⟩ = some (.slice x.A x.l.length x.c) := (hb3.cell (p := ⟨b, o + k, none⟩) hbl).trans (HX.out.2.1 k x HX.out.1).1
          obtain ⟨X, hX⟩ : ∃ X, X = M ++ x.l := ⟨_, rfl⟩
          have hXl : X.length ≤ 1048576 := by have := HX.out.2.2.2.1; have := HM.out; rw [hX, List.length_append]; omega
          have HXX := Lib.hid hX
          rw [← hX] at hh3
          clear hX hl' hgi hjl hh2 hown2 hb2 hp2 hz2 hh hown hc
          go_wp2_with (at_builtin
                       refine wpList_append_bytes rfl (.tmp 38) (.tmp 42) rfl (w.heap.size + 1) v0 M rfl hown3 x.A x.l x.c rfl ((HX.out.2.1 k x HX.out.1).2.1.below hb3) (by have := HX.out.2.2.2.1; have := HM.out; omega) hz3 ?_
                       intro v3 w3 hv3 hg3
                       rw [← HXX.out] at hv3
                       have b3 := below_own (Below.refl (w.heap.size + 1) wr) hown3 hg3 (Nat.le_refl _) hz3
                       have hh4 := hh3.below b3 (Nat.lt_succ_self _)
                       have hb4 := hb3.trans (b3.mono (Nat.le_succ _))
                       obtain ⟨A3, c3, rfl, hs3, hc3, hcm3⟩ := hv3.any
                       have HS3 := Lib.hid hs3
                       clear hg3 hs3)
          refine (sum_any w3 w.heap.size X hh4 (HC.out.below hb4 htl) (by omega)).mono ?_
          rintro e w4 ⟨rfl, hb5⟩
          have hh5 := hh4.below hb5 hh4.lt
          have hv4 := hv3.below hb5
          have HS4 := Lib.hid (HS3.out.below hb5)
          have hb6 := hb4.trans (hb5.mono hb4.size)
          clear hb5
          unfold dv
          go_wp2_with fail
          refine (ofR_any w4 A3 X c3 HS4.out (by omega) (HR.out.below hb6 hrl)).mono ?_
          rintro e w5 ⟨rfl, hb7⟩
          have hh6 := hh5.below hb7 hh5.lt
          have hv5 := hv4.below hb7
          have hb8 := hb6.trans (hb7.mono hb6.size)
          have hz8 : w.heap.size + 1 ≤ w5.heap.size := hh6.lt
          clear hb7
          unfold dv
          go_wp2_with (go_at_call 21; with_reducible refine (len_any _ w.heap.size X hh6).mono ?_; rintro e w6 ⟨rfl, rfl⟩)
          go_roundw
          case rel => exact ⟨k + 1, _, by omega, rfl, by go_num, by rw [cat_step ts k x HX.out.1, ← HX.out.2.2.2.2, ← HXX.out]; exact hv5, by rw [cat_step ts k x HX.out.1, ← HX.out.2.2.2.2, ← HXX.out]; exact hh6, hb8, hz8⟩
          case measure => simp [intOf]; omega
    · obtain rfl : k = ts.length := by omega
      rw [List.take_length] at hown hh
      obtain ⟨X, hX⟩ : ∃ X, X = cat ts := ⟨_, rfl⟩
      have hXl : X.length ≤ 1048576 := by have := HM.out; rw [hX]; exact this
      rw [← hX] at hown hh
      obtain ⟨A3, c3, rfl, hs3, hc3, hcm3⟩ := hown.any
      have HS3 := Lib.hid hs3
      clear hX hown hlt hs3
      go_wp2_with fail
      refine (sum_any wr w.heap.size X hh (HC.out.below hb htl) (by omega)).mono ?_
      rintro e w4 ⟨rfl, hb5⟩
      have HS4 := Lib.hid (HS3.out.below hb5)
      have hb6 := hb.trans (hb5.mono hb.size)
      clear hb5
      unfold dv
      go_wp2_with fail
      refine (of_any w4 A3 X c3 HS4.out (HC.out.below hb6 htl) hc3 hcm3 (by omega)).mono ?_
      rintro e w5 ⟨rfl, hb7⟩
      have hb8 := hb6.trans (hb7.mono hb6.size)
      clear hb7
      unfold dv
      go_wp2
      go_ret
      exact ⟨rfl, hb8⟩
end Go.Proofs.YtbjfkfajhmcefaaDoor
