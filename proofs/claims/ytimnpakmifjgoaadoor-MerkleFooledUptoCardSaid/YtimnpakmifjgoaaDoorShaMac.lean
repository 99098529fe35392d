/-
  Mac: a digest that nobody can make without a key.
-/
import Derived.Test.YtimnpakmifjgoaaDoorShaKey
namespace Go.Proofs.YtimnpakmifjgoaaDoor
open Go.RowKit Sp

def macS (k t : List UInt8) : List UInt8 := sum (kp k 92 ++ sum (kp k 54 ++ t))

theorem Src.off {w : World} {A : Option Addr} {m : List UInt8} {N : Nat} (h : Src w A m) (hN : w.heap.size ≤ N) : m ≠ [] → ∀ x, A = some x → x.block ≠ N := fun hne x hx => by
  obtain ⟨b', o, he, hlt, _⟩ := h hne
  rw [he] at hx
  injection hx with hx
  subst hx
  show b' ≠ N
  omega

set_option maxHeartbeats 1000000 in
set_option maxRecDepth 100000 in
theorem mac_any (w : World) (K T : Option Addr) (k t : List UInt8) (ck ct : Nat) (hk : Src w K k) (hT : Src w T t) (ht : TabAt w 1) (lk : k.length ≤ ck) (lt' : t.length ≤ ct) (mk : ck ≤ 9223372036854775807) (mt : ct ≤ 9223372036854775807)
    (sk : k.length ≤ 100000000000000000) (st : t.length ≤ 100000000000000000) :
    Calls Tryd.prog 23 #[.slice K k.length ck, .slice T t.length ct] w fun e w' => e = .returned (dv (macS k t)) ∧ Below w.heap.size w w' := by
  have HK := Lib.hid hk
  have HT := Lib.hid hT
  have HC := Lib.hid ht
  have htl := ht.lt
  clear hk hT ht
  have hsl := slice_all
  go_enter Tryd.func23, Tryd.ntmps23
  go_wp2_with fail
  refine (new_at _ (w.heap.size + 1) (by simp)).mono ?_
  rintro e w1 ⟨rfl, hb1, hh, hl1⟩
  have hr := (Blk.new w 24 _).below hb1 (Nat.lt_succ_self _)
  have hb := (((Below.refl w.heap.size w).alloc (Nat.le_refl _) _).trans (hb1.mono (Nat.le_succ _)))
  clear hb1
  go_wp2_with fail
  refine (keyPad_any _ K k ck 54 _ rfl (HK.out.below hb) (HC.out.below hb htl) lk mk (by omega)).mono ?_
  rintro e w2 ⟨rfl, hb2, hp⟩
  have hh := hh.below hb2 hl1
  have hr := hr.below hb2 hr.lt
  have hb := hb.trans (hb2.mono hb.size)
  have l54 := kp_length k 54
  obtain ⟨p, hpe⟩ : ∃ p, p = kp k 54 := ⟨_, rfl⟩
  rw [← hpe] at hp l54
  have H54 := Lib.hid (And.intro hpe l54)
  clear hb2 hpe l54
  go_wp2_with fail
  have hw := write_any w2 (w.heap.size + 1) [] p (some ⟨w1.heap.size, 0, none⟩) 64 hh (Src.of_blk hp) (fun _ x hx => by injection hx with hx; subst hx; show w1.heap.size ≠ _; omega) (HC.out.below hb htl) (by omega) (by rw [H54.out.2]; exact Nat.le_refl _) (by omega) (by rw [H54.out.2]; simp)
  rw [H54.out.2] at hw
  refine hw.mono ?_
  clear hw
  rintro e w3 ⟨rfl, ho3, hh⟩
  have hr := hr.grown ho3 (fun e => by injection e; omega)
  have hb := hb.trans (below_of_only ho3 hb.size (Nat.le_succ _))
  clear ho3 hp
  go_wp2_with fail
  refine (write_any w3 (w.heap.size + 1) p t T ct (by simpa using hh) (HT.out.below hb) (HT.out.off (Nat.le_succ _)) (HC.out.below hb htl) (by omega) lt' mt (by rw [H54.out.2]; omega)).mono ?_
  rintro e w4 ⟨rfl, ho4, hh⟩
  have hr := hr.grown ho4 (fun e => by injection e; omega)
  have hb := hb.trans (below_of_only ho4 hb.size (Nat.le_succ _))
  clear ho4
  go_wp2_with fail
  refine (sum_any w4 (w.heap.size + 1) (p ++ t) hh (HC.out.below hb htl) (by rw [List.length_append, H54.out.2]; omega)).mono ?_
  rintro e w5 ⟨rfl, hb5⟩
  have hr := hr.below hb5 hr.lt
  have hb := hb.trans (hb5.mono hb.size)
  clear hb5 hh
  obtain ⟨q, hq⟩ : ∃ q, q = p ++ t := ⟨_, rfl⟩
  rw [← hq]
  have HQ := Lib.hid hq
  clear hq
  unfold dv
  go_wp2_with (refine wpList_store_new rfl 24 (.tmp 6) (.tmp 17) rfl _ _ _ rfl rfl (sum_info q) (by rw [sum_size]; rfl) (sum_one q) ?_
               intro w6 hd hb6 hz6
               have hN5 : w.heap.size < w5.heap.size := hr.lt
               have hr := hr.below hb6 hN5
               have hb := hb.trans (hb6.mono hb.size))
  have hN6 : w5.heap.size < w6.heap.size := hd.lt
  refine (new_at _ w6.heap.size rfl).mono ?_
  rintro e w7 ⟨rfl, hb7, hh, hl7⟩
  have hd := hd.below hb7 hN6
  have hr := hr.below hb7 hr.lt
  have hb := hb.trans (hb7.mono hb.size)
  clear hb7
  go_wp2_with fail
  refine (keyPad_any _ K k ck 92 _ rfl (HK.out.below hb) (HC.out.below hb htl) lk mk (by omega)).mono ?_
  rintro e w8 ⟨rfl, hb8, hp⟩
  have hh := hh.below hb8 hl7
  have hd := hd.below hb8 hd.lt
  have hr := hr.below hb8 hr.lt
  have hb := hb.trans (hb8.mono hb.size)
  have l92 := kp_length k 92
  obtain ⟨p2, hpe⟩ : ∃ p, p = kp k 92 := ⟨_, rfl⟩
  rw [← hpe] at hp l92
  have H92 := Lib.hid (And.intro hpe l92)
  clear hb8 hpe l92
  go_wp2_with fail
  have hw := write_any w8 w6.heap.size [] p2 (some ⟨w7.heap.size, 0, none⟩) 64 hh (Src.of_blk hp) (fun _ x hx => by injection hx with hx; subst hx; show w7.heap.size ≠ _; omega) (HC.out.below hb htl) (by omega) (by rw [H92.out.2]; exact Nat.le_refl _) (by omega) (by rw [H92.out.2]; simp)
  rw [H92.out.2] at hw
  refine hw.mono ?_
  clear hw
  rintro e w9 ⟨rfl, ho9, hh⟩
  have hd := hd.grown ho9 (fun e => by injection e; omega)
  have hr := hr.grown ho9 (fun e => by injection e; omega)
  have hb := hb.trans (below_of_only ho9 hb.size (by omega))
  clear ho9 hp
  go_wp2_with fail
  have hw := write_any w9 w6.heap.size p2 (sum q) (some ⟨w5.heap.size, 0, none⟩) 32 (by simpa using hh) (Src.of_blk hd) (fun _ x hx => by injection hx with hx; subst hx; show w5.heap.size ≠ _; omega) (HC.out.below hb htl) (by omega) (by rw [sum_length]; exact Nat.le_refl _) (by omega) (by rw [H92.out.2, sum_length]; omega)
  rw [sum_length] at hw
  refine hw.mono ?_
  clear hw
  rintro e w10 ⟨rfl, ho10, hh⟩
  have hr := hr.grown ho10 (fun e => by injection e; omega)
  have hb := hb.trans (below_of_only ho10 hb.size (by omega))
  clear ho10
  go_wp2_with fail
  refine (sum_any w10 w6.heap.size (p2 ++ sum q) hh (HC.out.below hb htl) (by rw [List.length_append, H92.out.2, sum_length]; omega)).mono ?_
  rintro e w11 ⟨rfl, hb11⟩
  have hr := hr.below hb11 hr.lt
  have hb := hb.trans (hb11.mono hb.size)
  clear hb11 hh hd
  obtain ⟨m, hm⟩ : ∃ m, m = p2 ++ sum q := ⟨_, rfl⟩
  rw [← hm]
  have HM := Lib.hid hm
  clear hm
  unfold dv
  go_wp2_with (refine wpList_store_row rfl 24 (.tmp 4) (.tmp 27) rfl w.heap.size _ rfl rfl 24 _ hr (sum_info m) (by rw [sum_size]; rfl) (sum_one m) ?_)
  have hfin : sum m = macS k t := by rw [HM.out, HQ.out, H54.out.1, H92.out.1]; rfl
  exact bodyPost_ret (results_cell_row rfl _ _ w.heap.size 24 _ (0, 0) _ rfl (hr.setRow _) Tryd.underlying24 rfl (sum_info m)) rfl ⟨by rw [hfin]; rfl, below_setRow hb (Nat.le_refl _) _⟩
end Go.Proofs.YtimnpakmifjgoaaDoor
