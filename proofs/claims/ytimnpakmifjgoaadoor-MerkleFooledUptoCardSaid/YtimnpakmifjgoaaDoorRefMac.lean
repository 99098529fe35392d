/-
  The document's Mac, walked.
-/
import Derived.Test.YtimnpakmifjgoaaDoorRefText
import Derived.Test.YtimnpakmifjgoaaDoorRefOf
import Derived.Test.YtimnpakmifjgoaaDoorShaMac
namespace Go.Proofs.YtimnpakmifjgoaaDoor
open Go.RowKit Sp

theorem OwnB.any' {w : World} {base : Nat} {v : Value} {l : List UInt8} (h : OwnB w base v l) : ∃ A q cap, v = .slice A q cap ∧ Hid (q = l.length) := by
  obtain ⟨A, cap, e, _⟩ := h.any
  exact ⟨A, l.length, cap, e, Lib.hid rfl⟩
/-- two slices own no block together -/
def Apart (v u : Value) : Prop := ∀ k, v.ownBlock = some k → u.ownBlock = some k → False
theorem Apart.symm {v u : Value} (h : Apart v u) : Apart u v := fun k h1 h2 => h k h2 h1
theorem OwnB.stay {w w' : World} {base : Nat} {v u : Value} {l : List UInt8} (h : OwnB w base u l) (hg : w.grownBy w' v.ownBlock) (ha : Apart v u) : OwnB w' base u l :=
  World.ownsRow.kept h hg (by
    cases hu : u.ownBlock with
    | none => exact .inl rfl
    | some k => exact .inr (fun e => ha k e.symm hu))
theorem Apart.step {w : World} {base : Nat} {v v' u : Value} {l : List UInt8} {n : Nat} (ha : Apart v u) (hu : OwnB w base u l) (hn : w.heap.size ≤ n) (h : v'.ownBlock = v.ownBlock ∨ v'.ownBlock = some n) : Apart v' u := fun k h1 h2 => by
  rcases h with h | h
  · exact ha k (h ▸ h1) h2
  · rw [h] at h1
    injection h1 with h1
    have := (World.ownsRow.lt hu k h2).2
    omega

theorem kp_get (p : List UInt8) (x : UInt8) (i : Nat) (u : UInt8) (hu : p[i]? = some u) : (p.map (fun b => b ^^^ x)).take (i + 1) = (p.map (fun b => b ^^^ x)).take i ++ [u ^^^ x] := by
  have hi : i < p.length := (List.getElem?_eq_some_iff.1 hu).1
  rw [List.take_succ_eq_append_getElem (by rw [List.length_map]; exact hi)]
  congr 2
  rw [List.getElem_map, (List.getElem?_eq_some_iff.1 hu).2]

theorem OwnB.lit1 (w : World) (o : Obj) (base : Nat) (hb : base ≤ w.heap.size + 1) : OwnB ((w.alloc o).alloc (.cells #[] 5)) base (.slice (some ⟨w.heap.size + 1, 0, none⟩) 0 0) [] := by
  have h := OwnB.lit (w.alloc o) base (by simpa using hb)
  have e : (w.alloc o).heap.size = w.heap.size + 1 := by simp
  rw [e] at h
  exact h
theorem below_alloc2 (w : World) (o o' : Obj) : Below w.heap.size w ((w.alloc o).alloc o') := ((Below.refl _ _).alloc (Nat.le_refl _) _).alloc (by simp) _

theorem mac_start {w w1 : World} {D : Array Value} (hg : ((w.alloc (.cells D 24)).alloc (.cells #[] 5)).grownBy w1 (Value.slice (some ⟨w.heap.size + 1, 0, none⟩) 0 0).ownBlock) :
    Below w.heap.size w w1 ∧ ∃ E, Hid (E.size = D.size) ∧ Blk w1 w.heap.size 24 E := by
  have h1 : Below (w.heap.size + 1) (w.alloc (.cells D 24)) w1 := below_own ((Below.refl _ _).alloc (by simp) _) (OwnB.lit1 w _ (w.heap.size + 1) (Nat.le_refl _)) hg (Nat.le_refl _) (by simp)
  exact ⟨((Below.refl w.heap.size w).alloc (Nat.le_refl _) _).trans (h1.mono (Nat.le_succ _)), D, Lib.hid rfl, (Blk.new w _ _).below h1 (Nat.lt_succ_self _)⟩

theorem src_new (w : World) (x : UInt8) (z : Int) (hz : z = (x.toNat : Int)) : ∀ j u, [x][j]? = some u → (w.alloc (.cells #[.int .u8 z] 5)).cell? ⟨w.heap.size, 0 + j, none⟩ = some (bv u) := by
  subst hz
  intro j u hu
  rw [Nat.zero_add]
  refine ((Blk.new w 5 #[bv x]).cell j).trans ?_
  cases j with
  | zero => simp at hu; simp [hu]
  | succ n => simp at hu
theorem x54 (u : UInt8) : bits .xor .u8 (u.toNat : Int) 54 = ((u ^^^ 54).toNat : Int) := xor8 u 54
theorem x92 (u : UInt8) : bits .xor .u8 (u.toNat : Int) 92 = ((u ^^^ 92).toNat : Int) := xor8 u 92

set_option maxHeartbeats 20000000 in
set_option maxRecDepth 100000 in
theorem macR_any (w : World) (K T : Option Addr) (k t : List UInt8) (ck ct : Nat) (hk : Src w K k) (hT : Src w T t) (ht : TabAt w 0) (sk : k.length ≤ 1000000000) (st : t.length ≤ 1000000000) :
    Calls Tryd.prog 24 #[.slice K k.length ck, .slice T t.length ct] w fun e w' => e = .returned (dv (macS k t)) ∧ Below w.heap.size w w' := by
  have HK := Lib.hid hk
  have HT := Lib.hid hT
  have HC := Lib.hid ht
  have htl := ht.lt
  clear hk hT ht
  go_enter Tryd.func24, Tryd.ntmps24
  by_cases hlk : 64 < k.length
  all_goals
    go_wp2_with (first
      | (at_builtin
         refine wpList_append_bytes rfl (.tmp 9) (.tmp 10) rfl (w.heap.size + 1) _ [] rfl (OwnB.lit1 w _ _ (Nat.le_refl _)) K k ck rfl (HK.out.below (below_alloc2 w _ _)) (by simp; omega) (by simp) ?_
         intro v1 w1 hv1 hg1
         obtain ⟨hb, D, hD0, hr⟩ := mac_start hg1
         have hD : Hid (D.size = 32) := Lib.hid (hD0.out.trans (by rfl))
         clear hD0
         have hs1 := hr.lt
         obtain ⟨A1, q1, cap1, rfl, hq1⟩ := hv1.any'
         clear hg1)
      | (go_at_call 17
         refine (ofR_any _ K k ck (HK.out.below hb) (by omega) (HC.out.below hb htl)).mono ?_
         rintro e w2 ⟨rfl, hb2⟩
         have hr2 := hr.below hb2 hr.lt
         have hbe2 := hb.trans (hb2.mono hb.size)
         clear hb2
         unfold dv)
      | (go_at_call 48
         refine (textR_any _ (sum k) (sum_length k)).mono ?_
         rintro e w3 ⟨g3, cap3, rfl, hown3, hgl3, hb3⟩
         have hr3 := hr2.below hb3 hr2.lt
         have hown3 := hown3.le (Nat.succ_le_of_lt hr2.lt)
         have hbe3 := hbe2.trans (hb3.mono hbe2.size)
         clear hb3))
  all_goals
    have hkl := kin_length k
    go_loopw [5] (fun v wr => ∃ (j q cap : Nat) (A : Option Addr), Hid (q = (kin k).length + j) ∧ q ≤ 64 ∧ v = .slice A q cap ∧ OwnB wr (w.heap.size + 1) (.slice A q cap) (kin k ++ List.replicate j 0) ∧ Below w.heap.size w wr ∧ Blk wr w.heap.size 24 D)
      (fun v _ => 64 - lenOf' v)
    case atStart =>
      first
        | exact ⟨0, 32, cap3, _, Lib.hid (by rw [kin, if_pos hlk, sum_length]), by omega, rfl, by rw [kin, if_pos hlk]; simpa using hown3, hbe3, hr3⟩
        | exact ⟨0, q1, cap1, A1, Lib.hid (by rw [kin, if_neg hlk, hq1.out]; rfl), by have := hq1.out; simp only [List.nil_append] at this; omega, rfl, by rw [kin, if_neg hlk]; simpa using hv1, hb, hr⟩
    case round =>
      first
        | clear hr3 hbe3 hown3 hgl3 hr2 hbe2 hv1 hb hr
        | clear hv1 hb hr
      obtain ⟨j, q, cap, A, hq, hq64, rfl, hown, hbe, hr⟩ := hrel
      by_cases hlt : q < 64
      · have hlen : (kin k ++ List.replicate j (0 : UInt8)).length = q := by rw [List.length_append, List.length_replicate, hq.out]
        have HL := Lib.hid hlen
        clear hlen
        go_wp2_with (at_builtin
                     refine wpList_append_bytes rfl (.tmp 21) (.tmp 22) rfl (w.heap.size + 1) _ (kin k ++ List.replicate j 0) rfl (hown.alloc _) (some ⟨wr.heap.size, 0, none⟩) [0] 1 rfl (Src.of_blk (Blk.eq_ (Blk.new wr 5 _) (by kernel_rfl))) (by rw [HL.out]; simp; omega) (by have := hr.lt; simp; omega) ?_
                     intro v3 w3 hv3 hg3
                     have hb3 := below_own ((Below.refl (w.heap.size + 1) wr).alloc (Nat.succ_le_of_lt hr.lt) _) (hown.alloc _) hg3 (Nat.le_refl _) (by have := hr.lt; simp; omega)
                     have hr3 := hr.below hb3 (Nat.lt_succ_self _)
                     have hbe3 := hbe.trans (hb3.mono (Nat.le_succ _))
                     rw [List.append_assoc, ← List.replicate_succ'] at hv3
                     obtain ⟨A3, q3, cap3, rfl, hq3⟩ := hv3.any'
                     clear hb3 hg3)
        go_roundw
        case rel =>
          have hq3' : q3 = q + 1 := by rw [hq3.out, List.length_append, List.length_replicate, hq.out]; omega
          exact ⟨j + 1, q3, _, A3, Lib.hid (by rw [hq3', hq.out]; omega), by omega, rfl, hv3, hbe3, hr3⟩
        case measure =>
          have hq3' : q3 = q + 1 := by rw [hq3.out, List.length_append, List.length_replicate, hq.out]; omega
          simp [lenOf']; omega
      · obtain rfl : q = 64 := by omega
        obtain ⟨p, hp⟩ : ∃ p, p = pad64 (kin k) := ⟨_, rfl⟩
        have hpl : p.length = 64 := by rw [hp]; exact pad64_length _ hkl
        have hj : j = 64 - (kin k).length := by have := hq.out; omega
        rw [hj, show kin k ++ List.replicate (64 - (kin k).length) 0 = p from hp.symm] at hown
        obtain ⟨g, cap', e, hg0, hgl⟩ := hown.form (by omega)
        injection e with e1 e2 e3
        subst e1
        have hrd : ∀ i u, p[i]? = some u → wr.cell? ⟨g, i, none⟩ = some (bv u) := fun i u hu => hown.cell i u hu
        have hcapg := hown.cap
        rw [hpl] at hcapg
        have HP := Lib.hid (And.intro hp (And.intro hpl hrd))
        obtain ⟨wo, rfl⟩ : ∃ wo : World, wo = wr := ⟨_, rfl⟩
        clear hlt hq64 hp hpl hj hown e2 e3 hg0 hrd hq
        go_wp2
        go_loopw [6, 7, 8] (fun vi vo i wr => ∃ (i0 : Nat) (vi0 vo0 : Value), i0 ≤ 64 ∧ vi0 = vi ∧ vo0 = vo ∧ i = .int .i64 i0 ∧ Hid (Apart vi0 vo0) ∧ OwnB wr wo.heap.size vi0 ((p.map (fun b => b ^^^ 54)).take i0) ∧ OwnB wr wo.heap.size vo0 ((p.map (fun b => b ^^^ 92)).take i0) ∧ Below wo.heap.size wo wr)
          (fun _ _ i _ => 64 - (intOf i).toNat)
        case atStart => exact ⟨0, _, _, by omega, rfl, rfl, rfl, Lib.hid (fun k h1 _ => by cases h1), OwnB.nil _ _, OwnB.nil _ _, Below.refl _ _⟩
        case round =>
          obtain ⟨i, vi, vo, hi, rfl, rfl, rfl, hap, hvi, hvo, hbe2⟩ := hrel
          by_cases hlt : i < 64
          · obtain ⟨u, hu⟩ : ∃ u, p[i]? = some u := ⟨p[i]'(by rw [HP.out.2.1]; exact hlt), List.getElem?_eq_getElem _⟩
            have hc : wr.cell? ⟨g, i, none⟩ = some (.int .u8 (u.toNat : Int)) := (hbe2.cell (p := ⟨g, i, none⟩) hgl).trans (HP.out.2.2 i u hu)
            have hsz := hbe2.size
            have hli : ((p.map (fun b => b ^^^ 54)).take i).length ≤ 64 := by rw [List.length_take]; omega
            have hlo : ((p.map (fun b => b ^^^ 92)).take i).length ≤ 64 := by rw [List.length_take]; omega
            have HU := Lib.hid (And.intro hu (And.intro hli hlo))
            clear hu hli hlo
            go_wp2_with (first
              | (at_builtin
                 refine wpList_append_bytes2 rfl (.tmp 28) (.tmp 34) rfl wo.heap.size vi _ rfl (hvi.alloc _) wr.heap.size 0 [u ^^^ 54] 1 rfl (src_new wr _ _ (x54 u)) (by have := HU.out.2.1; simp only [List.length_singleton]; omega) (by simp; omega) ?_
                 intro v3 w3 hv3 hg3 ho3
                 have hb3 := below_own ((Below.refl wo.heap.size wr).alloc hsz _) (hvi.alloc _) hg3 (Nat.le_refl _) (by simp; omega)
                 have hc3 := (hb3.cell (p := ⟨g, i, none⟩) hgl).trans hc
                 have hvo3 := OwnB.stay (hvo.alloc _) hg3 hap.out
                 have hap3 := Lib.hid (Apart.step hap.out (hvo.alloc _) (Nat.le_refl _) ho3)
                 have hsz3 := Nat.le_trans hsz hb3.size
                 rw [← kp_get p 54 i u HU.out.1] at hv3
                 clear hg3 ho3)
              | (at_builtin
                 refine wpList_append_bytes2 rfl (.tmp 36) (.tmp 42) rfl wo.heap.size vo _ rfl (hvo3.alloc _) w3.heap.size 0 [u ^^^ 92] 1 rfl (src_new w3 _ _ (x92 u)) (by have := HU.out.2.2; simp only [List.length_singleton]; omega) (by simp; omega) ?_
                 intro v4 w4 hv4 hg4 ho4
                 have hb4 := below_own ((Below.refl wo.heap.size w3).alloc hsz3 _) (hvo3.alloc _) hg4 (Nat.le_refl _) (by simp; omega)
                 have hv34 := OwnB.stay (hv3.alloc _) hg4 hap3.out.symm
                 have hap4 := Lib.hid (Apart.step hap3.out.symm (hv3.alloc _) (Nat.le_refl _) ho4).symm
                 rw [← kp_get p 92 i u HU.out.1] at hv4
                 clear hg4 ho4))
            go_roundw
            case rel => exact ⟨i + 1, v3, v4, by omega, rfl, rfl, by go_num, hap4, hv34, hv4, hbe2.trans (hb3.trans hb4)⟩
            case measure => simp [intOf]; omega
          · obtain rfl : i = 64 := by omega
            have l54 := kp_length k 54
            have l92 := kp_length k 92
            rw [List.take_of_length_le (by rw [List.length_map, HP.out.2.1]; exact Nat.le_refl _), show p.map (fun b => b ^^^ 54) = kp k 54 from by rw [HP.out.1]; rfl] at hvi
            rw [List.take_of_length_le (by rw [List.length_map, HP.out.2.1]; exact Nat.le_refl _), show p.map (fun b => b ^^^ 92) = kp k 92 from by rw [HP.out.1]; rfl] at hvo
            obtain ⟨pi, hpi⟩ : ∃ x, x = kp k 54 := ⟨_, rfl⟩
            obtain ⟨po, hpo⟩ : ∃ x, x = kp k 92 := ⟨_, rfl⟩
            rw [← hpi] at hvi l54
            rw [← hpo] at hvo l92
            have HQ := Lib.hid (And.intro hpi hpo)
            have hsz := hbe2.size
            clear hpi hpo hlt hi
            go_wp2_with (first
              | (at_builtin
                 refine wpList_append_bytes rfl (.tmp 44) (.tmp 45) rfl wo.heap.size vi pi rfl hvi T t ct rfl (HT.out.below (hbe.trans (hbe2.mono hbe.size))) (by rw [l54]; omega) hsz ?_
                 intro v5 w5 hv5 hg5
                 have hb5 := below_own hbe2 hvi hg5 (Nat.le_refl _) hsz
                 have hvo5 := OwnB.stay hvo hg5 hap.out
                 obtain ⟨mi, hmi⟩ : ∃ x, x = pi ++ t := ⟨_, rfl⟩
                 have hlmi : mi.length = 64 + t.length := by rw [hmi, List.length_append, l54]
                 rw [← hmi] at hv5
                 obtain ⟨g5, cap5, rfl, _, hgl5⟩ := hv5.form (by omega)
                 have HM := Lib.hid (And.intro hmi hlmi)
                 clear hg5 hmi hlmi)
              | (go_at_call 17
                 refine (ofR_any w8 (some ⟨g8, 0, none⟩) mo cap8 (hv8.src hgl8) (by have := HO.out.2; omega) (HC.out.below (hbe.trans (hb8.mono hbe.size)) htl)).mono ?_
                 rintro e w9 ⟨rfl, hb9⟩
                 have hbx9 := hb8.trans (hb9.mono hb8.size)
                 have hr9 := hr.below hbx9 hr.lt
                 have hbe9 := hbe.trans (hbx9.mono hbe.size)
                 clear hb9
                 unfold dv)
              | (go_at_call 17
                 refine (ofR_any w5 (some ⟨g5, 0, none⟩) mi cap5 (hv5.src hgl5) (by have := HM.out.2; omega) (HC.out.below (hbe.trans (hb5.mono hbe.size)) htl)).mono ?_
                 rintro e w6 ⟨rfl, hb6⟩
                 have hvo6 := hvo5.below hb6
                 have hbx6 := hb5.trans (hb6.mono hb5.size)
                 clear hb6
                 unfold dv)
              | (go_at_call 48
                 refine (textR_any _ (sum mi) (sum_length mi)).mono ?_
                 rintro e w7 ⟨g7, cap7, rfl, hown7, hgl7, hb7⟩
                 have hvo7 := hvo6.below hb7
                 have hbx7 := hbx6.trans (hb7.mono hbx6.size)
                 have hsz7 := hbx7.size
                 clear hb7)
              | (at_builtin
                 refine wpList_append_bytes rfl (.tmp 47) (.tmp 50) rfl wo.heap.size vo po rfl hvo7 (some ⟨g7, 0, none⟩) (sum mi) cap7 (by rw [sum_length]; rfl) (hown7.src hgl7) (by rw [l92, sum_length]; omega) hsz7 ?_
                 intro v8 w8 hv8 hg8
                 have hb8 := below_own hbx7 hvo7 hg8 (Nat.le_refl _) hsz7
                 obtain ⟨mo, hmo⟩ : ∃ x, x = po ++ sum mi := ⟨_, rfl⟩
                 have hlmo : mo.length = 96 := by rw [hmo, List.length_append, l92, sum_length]
                 rw [← hmo] at hv8
                 obtain ⟨g8, cap8, rfl, _, hgl8⟩ := hv8.form (by omega)
                 have HO := Lib.hid (And.intro hmo hlmo)
                 clear hg8 hmo hlmo)
              | (refine wpList_store_row rfl 24 (.tmp 4) (.tmp 53) rfl w.heap.size _ rfl rfl 24 _ hr9 (sum_info mo) (by rw [sum_size]; first | exact hD.out | exact hD.out.symm) (sum_one mo) ?_))
            have hfin : sum mo = macS k t := by rw [HO.out.1, HM.out.1, HQ.out.1, HQ.out.2]; rfl
            exact bodyPost_ret (results_cell_row rfl _ _ w.heap.size 24 _ (0, 0) _ rfl (hr9.setRow _) Tryd.underlying24 rfl (sum_info mo)) rfl ⟨by rw [hfin]; rfl, below_setRow hbe9 (Nat.le_refl _) _⟩
end Go.Proofs.YtimnpakmifjgoaaDoor
